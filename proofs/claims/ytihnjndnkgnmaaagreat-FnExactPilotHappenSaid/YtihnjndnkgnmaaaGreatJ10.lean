import Derived.Test.YtihnjndnkgnmaaaGreatJ9
import Derived.Deep.AppendLies
import Derived.Maps.AppendAt
import Derived.Deep.RegionHeld3
set_option maxHeartbeats 8000000
namespace Go.Proofs.YtihnjndnkgnmaaaGreat
set_option maxRecDepth 100000
open Go.RowKit
theorem Fo (x:Brt) (a2:OA) (c2 lo:Nat) (w:World) (n2:SliceC StrC 1 lo w a2 x.marks) (hl:x.marks.length≤1048576) :
  Calls Tryz.prog 55 #[.agg (bbA x a2 c2)] w fun e w'=>∃ g q,e=.returned (.agg (bbA x (some ⟨g,0,none⟩) q))∧SliceC StrC 1 w.heap.size w' (some ⟨g,0,none⟩) x.marks∧w.heap.size≤g∧g<w'.heap.size∧Below w.heap.size w w':=by
 obtain ⟨i0,hi,hz0,hz1,hz2⟩:=info_parts Ot;have HI:=iH n2;clear n2;have h1:=Blk.alloc w (bbA x a2 c2) 45;have HZ2:=al2 w (bbA x a2 c2) 45 yyA 45;have HK2:=iH (h1.below ((Below.refl _ _).alloc nL (Obj.cells yyA 45)) h1.lt);have hB2:=bl2 w (bbA x a2 c2) 45 yyA 45;clear h1;go_enter Tryz.func55,Tryz.ntmps55;go_upto_region 1 with fail;generalize ((w.alloc (Obj.cells (bbA x a2 c2) 45)).alloc (Obj.cells yyA 45))=w2 at *;have k5:(w2.alloc (Obj.cells #[] 9)).cell? ⟨w.heap.size,2,none⟩=some (.slice a2 x.marks.length c2):=(World.cell?_alloc_lt _ _ _ HK2.out.lt).trans (HK2.out.cell rfl);have hba:=(Below.refl _ w2).alloc nL (Obj.cells #[] 9);have HS5:=iH (HI.out.below StrC.holds (qt hB2 hba) nL);have hgl:w.heap.size+1<w2.heap.size:=HZ2.out.lt;clear hba;go_upto_region 2 with (at_builtin;refine Eo rfl _ _ 27 rfl w2.heap.size 9 i0 _ 1 16 Tryz.underlying27 hi hz0 hz1 hz2 rfl (by decide) _ _ _ rfl (World.ownsRow_made w2 #[] 0 nL (zL) rfl) a2 x.marks.length c2 (Ed x.marks) rfl HS5.out.nilD (by rw [Rm]) (Wy HS5) (Rs x.marks) (by unfold maxLen;omega) (by omega) (by simp) ?_;intro v' w3 hown hgrow hnil;have hv:v'≠.slice none 0 0:=(fun e=>by have h9:=(hnil.1 e).1;cases h9);have hown':w3.ownsRow w2.heap.size 9 1 v' x.marks.length (Ed x.marks):=(by simpa using hown);obtain ⟨g,q,rfl⟩:=Dj hown' hv;have HOW:=iH hown';have HBB:Hid (Below w2.heap.size w2 w3):=((Below.refl _ w2).alloc nL _).grown hgrow (by simp) (by intro k hk;cases hk;exact Nat.le_refl _);have HK3:=iH (HK2.out.below HBB HK2.out.lt);have kx:w3.cell? ⟨w.heap.size,2,none⟩=some (.slice a2 x.marks.length c2):=HK3.out.cell rfl;have fx:=HK3.out.frozen 2;clear hown hown' hgrow hnil hv);clear kx fx k5 HS5;obtain ⟨h5,hh5⟩:∃ h,h=w2.heap.size:=⟨_,rfl⟩;have P5:Hid (SliceC StrC 1 h5 w3 (some ⟨g,0,none⟩) x.marks):=by rw [hh5];exact Uu HOW hl (Nf HI)
 have hlt5:w.heap.size+1<h5:=by rw [hh5];exact hgl
 have hgg:=HOW.out.lt g rfl;have hg5:h5≤g:=by rw [hh5];exact hgg.1
 have HZ3:=iH (HZ2.out.below HBB HZ2.out.lt);have hB3:=hB2.trans (HBB.out.mono hB2.size);clear HOW HBB HK2 HZ2 hB2 hgl hh5;have HK4:Hid (Blk w.heap.size (bbA x (some ⟨g,0,none⟩) q) 45 (w3.setCell ⟨w.heap.size,2,none⟩ (.slice (some ⟨g,0,none⟩) x.marks.length q))):=HK3.out.set 2 _;have HZ4:Hid (Blk (w.heap.size+1) yyA 45 (w3.setCell ⟨w.heap.size,2,none⟩ (.slice (some ⟨g,0,none⟩) x.marks.length q))):=HZ3.out.other (a:=⟨w.heap.size,2,none⟩) (show w.heap.size+1≠w.heap.size by omega) _;have hB4:Below w.heap.size w (w3.setCell ⟨w.heap.size,2,none⟩ (.slice (some ⟨g,0,none⟩) x.marks.length q)):=hB3.setCell (p:=⟨w.heap.size,2,none⟩) nL _;replace P5:Hid (SliceC StrC 1 h5 (w3.setCell ⟨w.heap.size,2,none⟩ (.slice (some ⟨g,0,none⟩) x.marks.length q)) (some ⟨g,0,none⟩) x.marks):=P5.out.keep StrC.holds (Keeps.set (a:=⟨w.heap.size,2,none⟩) (show w.heap.size<h5 by omega) _) nL;have hsz:(w3.setCell ⟨w.heap.size,2,none⟩ (.slice (some ⟨g,0,none⟩) x.marks.length q)).heap.size=w3.heap.size:=by simp [World.setCell]
 have hgs:g<(w3.setCell ⟨w.heap.size,2,none⟩ (.slice (some ⟨g,0,none⟩) x.marks.length q)).heap.size:=by rw [hsz];exact hgg.2
 clear HK3 HZ3 hB3 hsz hgg;generalize (w3.setCell ⟨w.heap.size,2,none⟩ (.slice (some ⟨g,0,none⟩) x.marks.length q))=w4 at *;obtain ⟨wf,HE⟩:∃ wf,Hid (wf=w4.setCells (w.heap.size+1) 0 (bbL x (some ⟨g,0,none⟩) q)):=⟨_,rfl⟩;have HTS:Hid (w4.there (w.heap.size+1) 0 6):=HZ4.out.there;have HRf:Hid (wf.rangeAt (w.heap.size+1) 0 (bbL x (some ⟨g,0,none⟩) q)):=by
  show World.rangeAt _ _ _ _
  rw [HE.out];exact World.rangeAt_setCells_same w4 (w.heap.size+1) 0 _ HTS
 have hBf:Below w.heap.size w wf:=by
  rw [HE.out];exact Ac (by omega) _ _ _ hB4
 replace P5:Hid (SliceC StrC 1 h5 wf (some ⟨g,0,none⟩) x.marks):=by
  show SliceC _ _ _ _ _ _
  rw [HE.out];exact P5.out.keep StrC.holds (Keeps.setCells (show w.heap.size+1<h5 by omega) _ _ _) nL
 have hgf:g<wf.heap.size:=by rw [HE.out,Bf];exact hgs
 clear hB4 HZ4 hgs;go_wp2_with (first | (refine lk Gg HK4 ?_) | (refine Ad rfl 45 _ _ rfl (w.heap.size+1) 0 (bbA x (some ⟨g,0,none⟩) q) rfl rfl HTS Cc (by simp [Value.oneCell']) wf HE ?_));exact bodyPost_ret (Ax rfl _ _ (w.heap.size+1) (bbL x (some ⟨g,0,none⟩) q) _ rfl HRf Tryz.underlying45 rfl Cc) rfl ⟨g,q,rfl,P5.out.keep StrC.holds (Keeps.refl _ _) (by omega),by omega,hgf,hBf⟩
theorem Gh (x:Cpy) (a2:OA) (c2 lo:Nat) (w:World) (n2:SliceC LikC 2 lo w a2 x.likes) (hl:x.likes.length≤1048576) :
  Calls Tryz.prog 56 #[.agg (ccA x a2 c2)] w fun e w'=>∃ g q,e=.returned (.agg (ccA x (some ⟨g,0,none⟩) q))∧SliceC LikC 2 w.heap.size w' (some ⟨g,0,none⟩) x.likes∧w.heap.size≤g∧g<w'.heap.size∧Below w.heap.size w w':=by
 obtain ⟨i0,hi,hz0,hz1,hz2⟩:=info_parts Px;have HI:=iH n2;clear n2;have h1:=Blk.alloc w (ccA x a2 c2) 48;have HZ2:=al2 w (ccA x a2 c2) 48 xxA 48;have HK2:=iH (h1.below ((Below.refl _ _).alloc nL (Obj.cells xxA 48)) h1.lt);have hB2:=bl2 w (ccA x a2 c2) 48 xxA 48;clear h1;go_enter Tryz.func56,Tryz.ntmps56;go_upto_region 1 with fail;generalize ((w.alloc (Obj.cells (ccA x a2 c2) 48)).alloc (Obj.cells xxA 48))=w2 at *;have k5:(w2.alloc (Obj.cells #[] 125)).cell? ⟨w.heap.size,7,none⟩=some (.slice a2 x.likes.length c2):=(World.cell?_alloc_lt _ _ _ HK2.out.lt).trans (HK2.out.cell rfl);have hba:=(Below.refl _ w2).alloc nL (Obj.cells #[] 125);have HS5:=iH (HI.out.below LikC.holds (qt hB2 hba) nL);have hgl:w.heap.size+1<w2.heap.size:=HZ2.out.lt;clear hba;go_upto_region 2 with (at_builtin;refine Eo rfl _ _ 46 rfl w2.heap.size 125 i0 _ 2 24 Tryz.underlying46 hi hz0 hz1 hz2 rfl (by decide) _ _ _ rfl (World.ownsRow_made w2 #[] 0 nL (zL) rfl) a2 x.likes.length c2 (Dd x.likes) rfl HS5.out.nilD (by rw [Hk]) (Uw HS5) (Mn x.likes) (by unfold maxLen;omega) (by omega) (by simp) ?_;intro v' w3 hown hgrow hnil;have hv:v'≠.slice none 0 0:=(fun e=>by have h9:=(hnil.1 e).1;cases h9);have hown':w3.ownsRow w2.heap.size 125 2 v' x.likes.length (Dd x.likes):=(by simpa using hown);obtain ⟨g,q,rfl⟩:=Dj hown' hv;have HOW:=iH hown';have HBB:Hid (Below w2.heap.size w2 w3):=((Below.refl _ w2).alloc nL _).grown hgrow (by simp) (by intro k hk;cases hk;exact Nat.le_refl _);have HK3:=iH (HK2.out.below HBB HK2.out.lt);have kx:w3.cell? ⟨w.heap.size,7,none⟩=some (.slice a2 x.likes.length c2):=HK3.out.cell rfl;have fx:=HK3.out.frozen 7;clear hown hown' hgrow hnil hv);clear kx fx k5 HS5;obtain ⟨h5,hh5⟩:∃ h,h=w2.heap.size:=⟨_,rfl⟩;have P5:Hid (SliceC LikC 2 h5 w3 (some ⟨g,0,none⟩) x.likes):=by rw [hh5];exact Vp HOW hl (Nh HI)
 have hlt5:w.heap.size+1<h5:=by rw [hh5];exact hgl
 have hgg:=HOW.out.lt g rfl;have hg5:h5≤g:=by rw [hh5];exact hgg.1
 have HZ3:=iH (HZ2.out.below HBB HZ2.out.lt);have hB3:=hB2.trans (HBB.out.mono hB2.size);clear HOW HBB HK2 HZ2 hB2 hgl hh5;have HK4:Hid (Blk w.heap.size (ccA x (some ⟨g,0,none⟩) q) 48 (w3.setCell ⟨w.heap.size,7,none⟩ (.slice (some ⟨g,0,none⟩) x.likes.length q))):=HK3.out.set 7 _;have HZ4:Hid (Blk (w.heap.size+1) xxA 48 (w3.setCell ⟨w.heap.size,7,none⟩ (.slice (some ⟨g,0,none⟩) x.likes.length q))):=HZ3.out.other (a:=⟨w.heap.size,7,none⟩) (show w.heap.size+1≠w.heap.size by omega) _;have hB4:Below w.heap.size w (w3.setCell ⟨w.heap.size,7,none⟩ (.slice (some ⟨g,0,none⟩) x.likes.length q)):=hB3.setCell (p:=⟨w.heap.size,7,none⟩) nL _;replace P5:Hid (SliceC LikC 2 h5 (w3.setCell ⟨w.heap.size,7,none⟩ (.slice (some ⟨g,0,none⟩) x.likes.length q)) (some ⟨g,0,none⟩) x.likes):=P5.out.keep LikC.holds (Keeps.set (a:=⟨w.heap.size,7,none⟩) (show w.heap.size<h5 by omega) _) nL;have hsz:(w3.setCell ⟨w.heap.size,7,none⟩ (.slice (some ⟨g,0,none⟩) x.likes.length q)).heap.size=w3.heap.size:=by simp [World.setCell]
 have hgs:g<(w3.setCell ⟨w.heap.size,7,none⟩ (.slice (some ⟨g,0,none⟩) x.likes.length q)).heap.size:=by rw [hsz];exact hgg.2
 clear HK3 HZ3 hB3 hsz hgg;generalize (w3.setCell ⟨w.heap.size,7,none⟩ (.slice (some ⟨g,0,none⟩) x.likes.length q))=w4 at *;obtain ⟨wf,HE⟩:∃ wf,Hid (wf=w4.setCells (w.heap.size+1) 0 (ccL x (some ⟨g,0,none⟩) q)):=⟨_,rfl⟩;have HTS:Hid (w4.there (w.heap.size+1) 0 12):=HZ4.out.there;have HRf:Hid (wf.rangeAt (w.heap.size+1) 0 (ccL x (some ⟨g,0,none⟩) q)):=by
  show World.rangeAt _ _ _ _
  rw [HE.out];exact World.rangeAt_setCells_same w4 (w.heap.size+1) 0 _ HTS
 have hBf:Below w.heap.size w wf:=by
  rw [HE.out];exact Ac (by omega) _ _ _ hB4
 replace P5:Hid (SliceC LikC 2 h5 wf (some ⟨g,0,none⟩) x.likes):=by
  show SliceC _ _ _ _ _ _
  rw [HE.out];exact P5.out.keep LikC.holds (Keeps.setCells (show w.heap.size+1<h5 by omega) _ _ _) nL
 have hgf:g<wf.heap.size:=by rw [HE.out,Bf];exact hgs
 clear hB4 HZ4 hgs;go_wp2_with (first | (refine lk Exq HK4 ?_) | (refine Ad rfl 48 _ _ rfl (w.heap.size+1) 0 (ccA x (some ⟨g,0,none⟩) q) rfl rfl HTS Bh (by simp [Value.oneCell']) wf HE ?_));exact bodyPost_ret (Ax rfl _ _ (w.heap.size+1) (ccL x (some ⟨g,0,none⟩) q) _ rfl HRf Tryz.underlying48 rfl Bh) rfl ⟨g,q,rfl,P5.out.keep LikC.holds (Keeps.refl _ _) (by omega),by omega,hgf,hBf⟩
def FlatC {β:Type} (C:Db β) (m:Nat):Prop:=∀ (lo lo':Nat) (w w':World) (f g:Nat→Option Value) (x:β),(∀ i,i<m→g i=f i)→C lo w f x→C lo' w' g x
theorem FlatC.holds {β:Type} {C:Db β} {m:Nat} (h:FlatC C m):Dy C m:=fun lo lo' w w' f g x hf _ _ hc=>h lo lo' w w' f g x hf hc
theorem StrC.flat:FlatC StrC 1:=fun _ _ _ _ _ _ _ h c=>⟨(h 0 (by omega)).trans c.1,c.2⟩
theorem LikC.flat:FlatC LikC 2:=fun _ _ _ _ _ _ _ h ⟨q0,q1,z⟩=>⟨(h 0 (by omega)).trans q0,(h 1 (by omega)).trans q1,z⟩
theorem Ai {β:Type} {C:Db β} {m:Nat} (hC:FlatC C m) {lo:Nat} {w w':World} {row:Option Nat} {a:OA} {l:List β} (h:SliceC C m lo w a l) (hg:w.grownBy w' row) (hne:∀ b o,a=some ⟨b,o,none⟩→l≠[]→some b≠row):SliceC C m lo w' a l:=by
 obtain ⟨h1,h2⟩:=h;rcases h2 with e | ⟨b,o,ea,⟨hlo,hfz⟩,hbl,hc⟩
 ·exact ⟨h1,.inl e⟩
 ·by_cases hl:l=[]
  ·exact ⟨h1,.inl hl⟩
  ·have hn:=hne b o ea hl
   exact ⟨h1,.inr ⟨b,o,ea,⟨hlo,fun hp p=>(hg.frozen_far ⟨b,p,none⟩ hbl hn).trans (hfz hp p)⟩,lL hbl hg.size,fun j x hj=>hC lo lo w w' _ _ x (fun i _=>hg.cell_far ⟨b,o+j*m+i,none⟩ hbl hn) (hc j x hj)⟩⟩
theorem Ct {base base':Nat} {e:TypeId} {size:Nat} {v:Value} {n:Nat} {xs:List Value} {w:World} (h:w.ownsRow base e size v n xs) (hb:base'≤base):w.ownsRow base' e size v n xs:=by
 refine ⟨h.1,?_⟩;rcases h.2 with h1 | ⟨g,cap,cur,h1,h2,h3⟩
 ·exact .inl h1
 ·exact .inr ⟨g,cap,cur,h1,lT hb h2,h3⟩
theorem Cp {P:Program} {op:Oper} {a:Act} {w:World} {K:Act→World→Prop} {Q:Exit→Act→World→Prop} (s x:Operand) (t:TypeId)
  (ho:op.op=.call { callee:=.builtin .append,args:=#[s,x],argTypes:=#[t,t] })
  (base:Nat) (e:TypeId) (i:TypeInfo) (z:Value) (size bytes:Nat) (ht:P.underlying t=some (.slice e)) (hi:P.info? e=some i) (hz:i.zero=some z)
  (hsize:i.size=size) (hby:i.bytes=bytes) (hzs:z.cells.size=size) (hsz:0<size)
  (v:Value) (n:Nat) (xs:List Value) (hs:a.eval s=v) (hown:w.ownsRow base e size v n xs)
  (ad:Addr) (m c:Nat) (news:List Value) (hx:a.eval x=.slice (some ad) m c) (hl:news.length=m*size) (hnews:∀ j u,news[j]?=some u→w.cell? (ad.add j)=some u) (h1:∀ u∈news,u.oneCell'=true)
  (h63:n+m≤maxLen) (hbytes:(n+m)*bytes≤140737488355328) (hbase:base≤w.heap.size)
  (h:∀ v' w',w'.ownsRow base e size v' (n+m) (xs++news)→w.grownBy w' v.ownBlock→(v'=.slice none 0 0↔v=.slice none 0 0∧m=0)→(v'.ownBlock=v.ownBlock∨v'.ownBlock=some w.heap.size)→K (a.put op.dst v') w'):op.wp P a w K Q:=by
 obtain ⟨v',w',hr,h2,h3,h4,h5⟩:=run_append_own_at (P:=P) w base t op.type e i z size bytes ht hi hz hsize hby hzs hsz v n xs hown ad m c news hl hnews h1 h63 hbytes hbase;unfold Oper.wp;simp [execOp,ho,resolve,invoke,builtin,hs,hx,hr,Result.andThen];exact h v' w' h2 h3 h4 h5
theorem Bd (w:World) (a:Addr) (v:Value):w.grownBy (w.setCell a v) (some a.block) :=
 ⟨rfl,rfl,rfl,by simp [World.setCell],fun k _ hn=>Below.heap_setCell w a v k (fun e=>hn (by rw [e]))⟩
theorem Ao {b:Nat}:∀ (vs:List Value) (o:Nat) (w:World),w.grownBy (w.setCells b o vs) (some b)
 | [],_,_=>⟨rfl,rfl,rfl,Nat.le_refl _,fun _ _ _=>rfl⟩
 | v::r,o,w=>(Bd w ⟨b,o,none⟩ v).trans (Ao r (o+1) _)
section
variable {α β:Type} {V:α→Value→List Value} {sub:α→List β} {C:Db β} {m n:Nat}
def NAt (V:α→Value→List Value) (sub:α→List β) (C:Db β) (m n base:Nat) (v:Value) (w:World) (cs:List Value) (l:List α):Prop :=
 ∀ j x,l[j]?=some x→∃ (ae:OA) (ce:Nat),(∀ i u,(V x (.slice ae (sub x).length ce))[i]?=some u→cs[j*n+i]?=some u)∧SliceC C m base w ae (sub x)∧∀ b o,ae=some ⟨b,o,none⟩→sub x≠[]→some b≠v.ownBlock∧b<w.heap.size
def OwnN (V:α→Value→List Value) (sub:α→List β) (C:Db β) (m n:Nat) (T:TypeId) (base:Nat) (w:World) (v:Value) (l:List α):Prop :=
 ∃ cs,w.ownsRow base T n v l.length cs∧NAt V sub C m n base v w cs l
theorem OwnN.nil {T:TypeId} {base:Nat} {w:World}:OwnN V sub C m n T base w (.slice none 0 0) []:=⟨[],World.ownsRow_nil _ _ _ _,fun j x h=>by cases h⟩
theorem OwnN.below {T:TypeId} {base:Nat} {w w':World} {v:Value} {l:List α} (hC:Dy C m) (h:OwnN V sub C m n T base w v l) (hb:Below w.heap.size w w'):OwnN V sub C m n T base w' v l:=by
 obtain ⟨cs,h1,h2⟩:=h;refine ⟨cs,Al h1 hb,fun j x hj=>?_⟩;obtain ⟨ae,ce,q1,q2,q3⟩:=h2 j x hj;exact ⟨ae,ce,q1,q2.below hC hb nL,fun b o e hn=>⟨(q3 b o e hn).1,lL (q3 b o e hn).2 hb.size⟩⟩
theorem OwnN.kept {T:TypeId} {base:Nat} {w w':World} {v:Value} {l:List α} {row:Option Nat} (hC:FlatC C m) (h:OwnN V sub C m n T base w v l) (hg:w.grownBy w' row) (hr:∀ r,row=some r→r<base):OwnN V sub C m n T base w' v l:=by
 obtain ⟨cs,h1,h2⟩:=h;have hv:v.ownBlock=none∨v.ownBlock≠row:=by
  cases e:v.ownBlock with
  | none=>exact .inl rfl
  | some k =>
   refine .inr (fun e2=>?_);have:=(h1.lt k e).1;have:=hr k e2.symm;omega
 refine ⟨cs,h1.kept hg hv,fun j x hj=>?_⟩;obtain ⟨ae,ce,q1,q2,q3⟩:=h2 j x hj;refine ⟨ae,ce,q1,Ai hC q2 hg (fun b o e hn e2=>?_),fun b o e hn=>⟨(q3 b o e hn).1,lL (q3 b o e hn).2 hg.size⟩⟩;have hb:=hr b e2.symm;rcases q2.2 with h9 | ⟨b',o',e',⟨hlo,_⟩,_⟩
 ·exact hn h9
 ·rw [e] at e'
  cases e'
  omega
theorem OwnN.mono {T:TypeId} {base base':Nat} {w:World} {v:Value} {l:List α} (hC:Dy C m) (h:OwnN V sub C m n T base w v l) (hb:base'≤base):OwnN V sub C m n T base' w v l:=by
 obtain ⟨cs,h1,h2⟩:=h;refine ⟨cs,Ct h1 hb,fun j x hj=>?_⟩;obtain ⟨ae,ce,q1,q2,q3⟩:=h2 j x hj;exact ⟨ae,ce,q1,q2.keep hC (Keeps.refl _ _) hb,q3⟩
theorem OwnN.snoc {T:TypeId} {base:Nat} {w w':World} {v v':Value} {l:List α} {x:α} {ae:OA} {ce:Nat} {cs:List Value} (hC:FlatC C m) (h1:w.ownsRow base T n v l.length cs) (h2:NAt V sub C m n base v w cs l) (hV:∀ x s,(V x s).length=n)
  (hs:SliceC C m base w ae (sub x)) (hb:∀ b o,ae=some ⟨b,o,none⟩→sub x≠[]→some b≠v.ownBlock∧b<w.heap.size)
  (ho:w'.ownsRow base T n v' (l.length+1) (cs++V x (.slice ae (sub x).length ce))) (hg:w.grownBy w' v.ownBlock) (hv:v'.ownBlock=v.ownBlock∨v'.ownBlock=some w.heap.size):OwnN V sub C m n T base w' v' (l++[x]):=by
 have far:∀ b:Nat,some b≠v.ownBlock∧b<w.heap.size→some b≠v'.ownBlock∧b<w'.heap.size:=by
  intro b hb;refine ⟨?_,lL hb.2 hg.size⟩;rcases hv with e | e
  ·rw [e];exact hb.1
  ·rw [e];intro e2;cases e2;omega
 have hl:cs.length=l.length*n:=h1.1;refine ⟨_,by simpa using ho,fun j c hj=>?_⟩;by_cases hlt:j<l.length
 ·rw [List.getElem?_append_left hlt] at hj
  obtain ⟨ae',ce',q1,q2,q3⟩:=h2 j c hj;refine ⟨ae',ce',fun i u hu=>?_,Ai hC q2 hg (fun b o e hn=>(q3 b o e hn).1),fun b o e hn=>far b (q3 b o e hn)⟩;have hi:i<n:=by have:=Ae hu;rwa [hV] at this
  have:(j+1)*n≤l.length*n:=Nat.mul_le_mul_right n (by omega);rw [Nat.add_mul] at this;rw [List.getElem?_append_left (by rw [hl];omega)];exact q1 i u hu
 ·have hje:j=l.length:=by have:=Ae hj;simp at this;omega
  subst hje;simp at hj;subst hj;refine ⟨ae,ce,fun i u hu=>?_,Ai hC hs hg (fun b o e hn=>(hb b o e hn).1),fun b o e hn=>far b (hb b o e hn)⟩;rw [List.getElem?_append_right (by rw [hl];omega),hl,Nat.add_sub_cancel_left];exact hu
theorem OwnN.slice {XC:Db α} {T:TypeId} {base:Nat} {w:World} {a:OA} {q:Nat} {l:List α} (h:OwnN V sub C m n T base w (.slice a l.length q) l) (hV:∀ x s,(V x s).length=n) (hm:l.length≤maxLen)
  (hX:∀ (f:Nat→Option Value) (x:α) (ae:OA) (ce:Nat),x∈l→(∀ i u,(V x (.slice ae (sub x).length ce))[i]?=some u→f i=some u)→SliceC C m base w ae (sub x)→XC base w f x):SliceC XC n base w a l:=by
 obtain ⟨cs,h1,h2⟩:=h;rcases h1.2 with ⟨hv,_⟩ | ⟨g,cap,cur,hv,hb,hg,_⟩
 ·have:l.length=0:=by injection hv
  rw [List.length_eq_zero_iff.1 this];exact SliceC.nil
 ·have ea:a=some ⟨g,0,none⟩:=by injection hv
  subst ea;refine ⟨hm,.inr ⟨g,0,rfl,⟨hb,fun _ p=>h1.frozenAt p⟩,(Array.getElem?_eq_some_iff.1 hg).1,fun j x hj=>?_⟩⟩;have hlt:=Ae hj;obtain ⟨ae,ce,q1,q2,_⟩:=h2 j x hj;refine hX _ x ae ce (List.mem_of_getElem? hj) (fun i u hu=>?_) q2;have hi:i<n:=by have:=Ae hu;rwa [hV] at this
  have hj2:(j+1)*n≤l.length*n:=Nat.mul_le_mul_right n (by omega);rw [Nat.add_mul] at hj2;have:=h1.cellAt (j*n+i) (by omega);rw [q1 i u hu] at this;simpa using this
end
def vBr (x:Brt) (s:Value):List Value:=[.string x.name,.string x.zone,s,.int .i64 x.room,.int .i64 x.hold,.bool x.closed]
def vCp (x:Cpy) (s:Value):List Value:=[.string x.name,.string x.service,.int .i64 x.rank,.int .i64 x.born,.int .i64 x.room,.int .i64 x.hold,.string x.select,s,.int .i64 x.apart,.string x.near,.string x.fixed,.string x.at_]
theorem Bk (x:Brt) (s:Value):(vBr x s).length=6:=rfl
theorem Be (x:Cpy) (s:Value):(vCp x s).length=12:=rfl
abbrev lX (base:Nat) (w:World) (v:Value) (l:List Brt):Prop:=OwnN vBr Brt.marks StrC 1 6 45 base w v l
abbrev Kp (base:Nat) (w:World) (v:Value) (l:List Cpy):Prop:=OwnN vCp Cpy.likes LikC 2 12 48 base w v l
def SzB (l:List Brt):Prop:=∀ x∈l,x.name.size≤maxLen∧x.zone.size≤maxLen
def SzC (l:List Cpy):Prop:=∀ x∈l,x.name.size≤maxLen∧x.service.size≤maxLen∧x.select.size≤maxLen∧x.near.size≤maxLen∧x.fixed.size≤maxLen∧x.at_.size≤maxLen
theorem SzB.of {lo:Nat} {w:World} {a:OA} {l:List Brt} (h:SliceC BrtC 6 lo w a l):SzB l:=by
 intro x hx;obtain ⟨j,hj⟩:=List.getElem?_of_mem hx;obtain ⟨_,_,_,_,_,hc⟩:=h.at hj;obtain ⟨_,_,_,_,_,_,_,_,z0,z1,_⟩:=hc;exact ⟨z0,z1⟩
theorem SzC.of {lo:Nat} {w:World} {a:OA} {l:List Cpy} (h:SliceC CpyC 12 lo w a l):SzC l:=by
 intro x hx;obtain ⟨j,hj⟩:=List.getElem?_of_mem hx;obtain ⟨_,_,_,_,_,hc⟩:=h.at hj;obtain ⟨_,_,_,_,_,_,_,_,_,_,_,_,_,_,z0,z1,z6,z9,z10,z11,_⟩:=hc;exact ⟨z0,z1,z6,z9,z10,z11⟩
theorem OwnN.berths {base:Nat} {w:World} {a:OA} {q:Nat} {l:List Brt} (h:lX base w (.slice a l.length q) l) (hz:SzB l) (hm:l.length≤maxLen):SliceC BrtC 6 base w a l :=
 OwnN.slice h Bk hm (fun _ x ae ce hx hf hs=>⟨ae,ce,hf 0 _ rfl,hf 1 _ rfl,hf 2 _ rfl,hf 3 _ rfl,hf 4 _ rfl,hf 5 _ rfl,(hz x hx).1,(hz x hx).2,hs⟩)
theorem OwnN.copies {base:Nat} {w:World} {a:OA} {q:Nat} {l:List Cpy} (h:Kp base w (.slice a l.length q) l) (hz:SzC l) (hm:l.length≤maxLen):SliceC CpyC 12 base w a l :=
 OwnN.slice h Be hm (fun _ x ae ce hx hf hs=>⟨ae,ce,hf 0 _ rfl,hf 1 _ rfl,hf 2 _ rfl,hf 3 _ rfl,hf 4 _ rfl,hf 5 _ rfl,hf 6 _ rfl,hf 7 _ rfl,hf 8 _ rfl,hf 9 _ rfl,hf 10 _ rfl,hf 11 _ rfl,(hz x hx).1,(hz x hx).2.1,(hz x hx).2.2.1,(hz x hx).2.2.2.1,(hz x hx).2.2.2.2.1,(hz x hx).2.2.2.2.2,hs⟩)
section
variable {α β:Type} {V:α→Value→List Value} {sub:α→List β} {C:Db β} {m n f:Nat}
def ApN (n f:Nat) (cs:List Value) (len:Nat):Prop :=
 ∀ (i j b o k c b' o' k' c':Nat),i<j→j<len→cs[i*n+f]?=some (.slice (some ⟨b,o,none⟩) k c)→cs[j*n+f]?=some (.slice (some ⟨b',o',none⟩) k' c')→0<k→0<k'→b≠b'
structure PAt (V:α→Value→List Value) (sub:α→List β) (C:Db β) (m n f base lo N g:Nat) (W w:World) (cs:List Value) (l:List α) (k:Nat):Prop where
 new:∀ j x,j<k→l[j]?=some x→∃ (ae:OA) (ce:Nat),(∀ i u,(V x (.slice ae (sub x).length ce))[i]?=some u→cs[j*n+i]?=some u)∧SliceC C m base w ae (sub x)∧∀ b o,ae=some ⟨b,o,none⟩→sub x≠[]→b≠g∧b<N
 old:∀ j x,k≤j→l[j]?=some x→∃ (ae:OA) (ce:Nat),(∀ i u,(V x (.slice ae (sub x).length ce))[i]?=some u→cs[j*n+i]?=some u)∧SliceC C m lo W ae (sub x)
 apart:ApN n f cs k
theorem PAt.below {base lo N N' g:Nat} {W w w':World} {cs:List Value} {l:List α} {k:Nat} (hC:Dy C m) (h:PAt V sub C m n f base lo N g W w cs l k) (hb:Below w.heap.size w w') (hN:N≤N'):PAt V sub C m n f base lo N' g W w' cs l k:=by
 refine ⟨fun j x hj hx=>?_,h.old,h.apart⟩;obtain ⟨ae,ce,q1,q2,q3⟩:=h.new j x hj hx;exact ⟨ae,ce,q1,q2.below hC hb nL,fun b o e hn=>⟨(q3 b o e hn).1,lL (q3 b o e hn).2 hN⟩⟩
theorem PAt.step {base lo N N' g:Nat} {W w:World} {cs:List Value} {l:List α} {k:Nat} {x:α} {ae:OA} {ce:Nat} (hC:FlatC C m) (hV:∀ x s,(V x s).length=n) (hf:∀ x s,(V x s)[f]?=some s)
  (h:PAt V sub C m n f base lo N g W w cs l k) (hx:l[k]?=some x) (hl:cs.length=l.length*n) (hs:SliceC C m base w ae (sub x)) (hb:∀ b o,ae=some ⟨b,o,none⟩→sub x≠[]→N≤b∧b≠g∧b<N') (hN:N≤N') :
  PAt V sub C m n f base lo N' g W (w.setCells g (k*n) (V x (.slice ae (sub x).length ce))) (Bu cs (k*n) (V x (.slice ae (sub x).length ce))) l (k+1):=by
 have hkl:=Ae hx;have hn:f<n:=by have:=Ae (hf x (.slice none 0 0));rwa [hV] at this
 have hkn:(k+1)*n≤l.length*n:=Nat.mul_le_mul_right n (by omega);rw [Nat.add_mul] at hkn;have out:∀ j i,i<n→j≠k→(Bu cs (k*n) (V x (.slice ae (sub x).length ce)))[j*n+i]?=cs[j*n+i]?:=by
  intro j i hi hj;refine Er _ _ _ _ ?_;rw [hV];rcases Nat.lt_or_ge j k with h1 | h1
  ·have:(j+1)*n≤k*n:=Nat.mul_le_mul_right n (by omega)
   rw [Nat.add_mul] at this;omega
  ·have:(k+1)*n≤j*n:=Nat.mul_le_mul_right n (by omega)
   rw [Nat.add_mul] at this;omega
 have inn:∀ i,i<n→(Bu cs (k*n) (V x (.slice ae (sub x).length ce)))[k*n+i]?=(V x (.slice ae (sub x).length ce))[i]?:=by
  intro i hi;exact Hm _ _ _ _ (by rw [hV];omega) (by rw [hV];exact hi)
 refine ⟨fun j y hj hy=>?_,fun j y hj hy=>?_,?_⟩
 ·by_cases e:j=k
  ·subst e
   rw [hx] at hy;cases hy
   refine ⟨ae,ce,fun i u hu=>?_,Ai hC hs (Ao _ _ _) (fun b o e hne e2=>by cases e2;exact (hb _ o e hne).2.1 rfl),fun b o e hne=>⟨(hb b o e hne).2.1,(hb b o e hne).2.2⟩⟩;have hi:i<n:=by have:=Ae hu;rwa [hV] at this
   rw [inn i hi];exact hu
  ·obtain ⟨ae',ce',q1,q2,q3⟩:=h.new j y (by omega) hy
   refine ⟨ae',ce',fun i u hu=>?_,Ai hC q2 (Ao _ _ _) (fun b o e hne e2=>by cases e2;exact (q3 _ o e hne).1 rfl),fun b o e hne=>⟨(q3 b o e hne).1,lL (q3 b o e hne).2 hN⟩⟩;have hi:i<n:=by have:=Ae hu;rwa [hV] at this
   rw [out j i hi e];exact q1 i u hu
 ·obtain ⟨ae',ce',q1,q2⟩:=h.old j y (by omega) hy
  refine ⟨ae',ce',fun i u hu=>?_,q2⟩;have hi:i<n:=by have:=Ae hu;rwa [hV] at this
  rw [out j i hi (by omega)];exact q1 i u hu
 ·intro i j b o p c b' o' p' c' hij hj hci hcj hp hp'
  rw [out i f hn (by omega)] at hci;by_cases e:j=k
  ·subst e
   rw [inn f hn,hf] at hcj;obtain ⟨y,hy⟩:∃ y,l[i]?=some y:=⟨l[i]'(by omega),gE (by omega)⟩;obtain ⟨ae',ce',q1,_,q3⟩:=h.new i y hij hy;have h1:=q1 f _ (hf y _);rw [hci] at h1;cases h1
   cases hcj
   have h2:=(q3 b o rfl (fun e=>by rw [e] at hp;cases hp)).2;have h3:=(hb b' o' rfl (fun e=>by rw [e] at hp';cases hp')).1;omega
  ·rw [out j f hn e] at hcj
   exact h.apart i j b o p c b' o' p' c' hij (by omega) hci hcj hp hp'
def OwnA (V:α→Value→List Value) (sub:α→List β) (C:Db β) (m n f:Nat) (T:TypeId) (base:Nat) (w:World) (v:Value) (l:List α):Prop :=
 ∃ cs,w.ownsRow base T n v l.length cs∧NAt V sub C m n base v w cs l∧ApN n f cs l.length
theorem OwnA.own {T:TypeId} {base:Nat} {w:World} {v:Value} {l:List α} (h:OwnA V sub C m n f T base w v l):OwnN V sub C m n T base w v l:=by
 obtain ⟨cs,h1,h2,_⟩:=h;exact ⟨cs,h1,h2⟩
theorem OwnA.nil {T:TypeId} {base:Nat} {w:World}:OwnA V sub C m n f T base w (.slice none 0 0) []:=⟨[],World.ownsRow_nil _ _ _ _,fun j x h=>(by cases h),fun i j _ _ _ _ _ _ _ _ _ h=>absurd h (Nat.not_lt_zero _)⟩
theorem OwnA.below {T:TypeId} {base:Nat} {w w':World} {v:Value} {l:List α} (hC:Dy C m) (h:OwnA V sub C m n f T base w v l) (hb:Below w.heap.size w w'):OwnA V sub C m n f T base w' v l:=by
 obtain ⟨cs,h1,h2,h3⟩:=h;refine ⟨cs,Al h1 hb,fun j x hj=>?_,h3⟩;obtain ⟨ae,ce,q1,q2,q3⟩:=h2 j x hj;exact ⟨ae,ce,q1,q2.below hC hb nL,fun b o e hn=>⟨(q3 b o e hn).1,lL (q3 b o e hn).2 hb.size⟩⟩
theorem OwnA.mono {T:TypeId} {base base':Nat} {w:World} {v:Value} {l:List α} (hC:Dy C m) (h:OwnA V sub C m n f T base w v l) (hb:base'≤base):OwnA V sub C m n f T base' w v l:=by
 obtain ⟨cs,h1,h2,h3⟩:=h;refine ⟨cs,Ct h1 hb,fun j x hj=>?_,h3⟩;obtain ⟨ae,ce,q1,q2,q3⟩:=h2 j x hj;exact ⟨ae,ce,q1,q2.keep hC (Keeps.refl _ _) hb,q3⟩
theorem PAt.done {base lo N g q:Nat} {W w:World} {cs:List Value} {l:List α} {T:TypeId} (h:PAt V sub C m n f base lo N g W w cs l l.length) (hN:N≤w.heap.size) (ho:w.ownsRow base T n (.slice (some ⟨g,0,none⟩) l.length q) l.length cs):OwnA V sub C m n f T base w (.slice (some ⟨g,0,none⟩) l.length q) l:=by
 refine ⟨cs,ho,fun j x hj=>?_,h.apart⟩;obtain ⟨ae,ce,q1,q2,q3⟩:=h.new j x (Ae hj) hj;exact ⟨ae,ce,q1,q2,fun b o e hn=>⟨fun e2=>(q3 b o e hn).1 (by cases e2;rfl),lL (q3 b o e hn).2 hN⟩⟩
theorem We {lo:Nat} {w:World} {ad:Addr} (hV:∀ x s,(V x s).length=n) (hO:∀ x a p c,∀ u∈V x (.slice a p c),u.oneCell'=true) (l:List α)
  (h:∀ j x,l[j]?=some x→∃ (ae:OA) (ce:Nat),(∀ i u,(V x (.slice ae (sub x).length ce))[i]?=some u→w.cell? (ad.add (j*n+i))=some u)∧SliceC C m lo w ae (sub x)) :
  ∃ cs:List Value,cs.length=l.length*n∧(∀ j u,cs[j]?=some u→w.cell? (ad.add j)=some u)∧(∀ u∈cs,u.oneCell'=true)∧∀ j x,l[j]?=some x→∃ (ae:OA) (ce:Nat),(∀ i u,(V x (.slice ae (sub x).length ce))[i]?=some u→cs[j*n+i]?=some u)∧SliceC C m lo w ae (sub x):=by
 suffices hk:∀ k,k≤l.length→∃ cs:List Value,cs.length=k*n∧(∀ j u,cs[j]?=some u→w.cell? (ad.add j)=some u)∧(∀ u∈cs,u.oneCell'=true)∧∀ j x,j<k→l[j]?=some x→∃ (ae:OA) (ce:Nat),(∀ i u,(V x (.slice ae (sub x).length ce))[i]?=some u→cs[j*n+i]?=some u)∧SliceC C m lo w ae (sub x) by
  obtain ⟨cs,h1,h2,h3,h4⟩:=hk l.length nL;exact ⟨cs,h1,h2,h3,fun j x hj=>h4 j x (Ae hj) hj⟩
 intro k
 induction k with
 | zero=>exact fun _=>⟨[],by simp,fun j u hu=>(by cases hu),fun u hu=>(by cases hu),fun j x hj=>absurd hj (Nat.not_lt_zero _)⟩
 | succ k ih =>
  intro hk;obtain ⟨cs,h1,h2,h3,h4⟩:=ih (by omega);obtain ⟨x,hx⟩:∃ x,l[k]?=some x:=⟨l[k]'(by omega),gE (by omega)⟩;obtain ⟨ae,ce,q1,q2⟩:=h k x hx;refine ⟨cs++V x (.slice ae (sub x).length ce),by rw [List.length_append,h1,hV,Nat.add_mul];omega,fun j u hu=>?_,fun u hu=>?_,fun j y hj hy=>?_⟩
  ·by_cases hlt:j<cs.length
   ·rw [List.getElem?_append_left hlt] at hu
    exact h2 j u hu
   ·rw [List.getElem?_append_right (by omega)] at hu
    have:=q1 _ u hu
    rwa [show k*n+(j - cs.length)=j by omega] at this
  ·rcases List.mem_append.1 hu with hu | hu
   ·exact h3 u hu
   ·exact hO x ae _ ce u hu
  ·by_cases e:j=k
   ·subst e
    rw [hx] at hy;cases hy
    refine ⟨ae,ce,fun i u hu=>?_,q2⟩;rw [List.getElem?_append_right (by omega),h1,Nat.add_sub_cancel_left];exact hu
   ·obtain ⟨ae',ce',p1,p2⟩:=h4 j y (by omega) hy
    refine ⟨ae',ce',fun i u hu=>?_,p2⟩;have hi:=Ae (p1 i u hu);rw [List.getElem?_append_left hi];exact p1 i u hu
end
theorem fG (x:Brt) (s:Value):(vBr x s)[2]?=some s:=rfl
theorem eO (x:Cpy) (s:Value):(vCp x s)[7]?=some s:=rfl
theorem Hy (x:Brt) (a:OA) (p c:Nat):∀ u∈vBr x (.slice a p c),u.oneCell'=true:=by
 intro u hu;simp only [vBr,List.mem_cons,List.not_mem_nil,or_false] at hu;rcases hu with rfl | rfl | rfl | rfl | rfl | rfl <;> rfl
theorem Ib (x:Cpy) (a:OA) (p c:Nat):∀ u∈vCp x (.slice a p c),u.oneCell'=true:=by
 intro u hu;simp only [vCp,List.mem_cons,List.not_mem_nil,or_false] at hu;rcases hu with rfl | rfl | rfl | rfl | rfl | rfl | rfl | rfl | rfl | rfl | rfl | rfl <;> rfl
abbrev fO (base:Nat) (w:World) (v:Value) (l:List Brt):Prop:=OwnA vBr Brt.marks StrC 1 6 2 45 base w v l
abbrev aE (base:Nat) (w:World) (v:Value) (l:List Cpy):Prop:=OwnA vCp Cpy.likes LikC 2 12 7 48 base w v l
theorem Jh {lo:Nat} {w:World} {ad:Addr} {l:List Brt} (h:SliceC BrtC 6 lo w (some ad) l):∃ cs:List Value,cs.length=l.length*6∧(∀ j u,cs[j]?=some u→w.cell? (ad.add j)=some u)∧(∀ u∈cs,u.oneCell'=true)∧∀ j x,l[j]?=some x→∃ (ae:OA) (ce:Nat),(∀ i u,(vBr x (.slice ae x.marks.length ce))[i]?=some u→cs[j*6+i]?=some u)∧SliceC StrC 1 lo w ae x.marks:=by
 refine We Bk Hy l (fun j x hj=>?_);obtain ⟨b,o,e,_,_,hc⟩:=h.at hj;cases e
 obtain ⟨ae,ce,q0,q1,q2,q3,q4,q5,_,_,hs⟩:=hc;refine ⟨ae,ce,fun i u hu=>?_,hs⟩;have hi:i<6:=Ae hu;rw [Addr.add_mid,← Nat.add_assoc];rcases (by omega:i=0∨i=1∨i=2∨i=3∨i=4∨i=5) with rfl | rfl | rfl | rfl | rfl | rfl <;> (cases hu;assumption)
theorem Hr {lo:Nat} {w:World} {ad:Addr} {l:List Cpy} (h:SliceC CpyC 12 lo w (some ad) l):∃ cs:List Value,cs.length=l.length*12∧(∀ j u,cs[j]?=some u→w.cell? (ad.add j)=some u)∧(∀ u∈cs,u.oneCell'=true)∧∀ j x,l[j]?=some x→∃ (ae:OA) (ce:Nat),(∀ i u,(vCp x (.slice ae x.likes.length ce))[i]?=some u→cs[j*12+i]?=some u)∧SliceC LikC 2 lo w ae x.likes:=by
 refine We Be Ib l (fun j x hj=>?_);obtain ⟨b,o,e,_,_,hc⟩:=h.at hj;cases e
 obtain ⟨ae,ce,q0,q1,q2,q3,q4,q5,q6,q7,q8,q9,q10,q11,_,_,_,_,_,_,hs⟩:=hc;refine ⟨ae,ce,fun i u hu=>?_,hs⟩;have hi:i<12:=Ae hu;rw [Addr.add_mid,← Nat.add_assoc];rcases (by omega:i=0∨i=1∨i=2∨i=3∨i=4∨i=5∨i=6∨i=7∨i=8∨i=9∨i=10∨i=11) with rfl | rfl | rfl | rfl | rfl | rfl | rfl | rfl | rfl | rfl | rfl | rfl <;> (cases hu;assumption)
end Go.Proofs.YtihnjndnkgnmaaaGreat
