import Derived.Test.YtpidfnfilnkhkaaGreatJ24
import Derived.Deep.AppendLies
import Derived.Deep.Onto
import Derived.Lib.SliceRun
set_option maxHeartbeats 4000000
set_option maxRecDepth 100000
namespace Go.Proofs.YtpidfnfilnkhkaaGreat
open Go.RowKit Go.WideMaps Go.Maps Tryz
theorem Ym{ms:List BA}{j:Nat}{u:Value}(h:(ms.map Value.string)[j]?=some u):∃s,ms[j]?=some s/\u=.string s:=by
 rw[List.getElem?_map]at h
 cases e:ms[j]? with
 |none=>rw[e]at h;cases h
 |some s=>rw[e]at h;cases h;exact⟨s,rfl,rfl⟩
theorem Ty(ms:List BA):∀u∈ms.map Value.string,u.oneCell'=true:=by
 intro u hu;obtain⟨x,_,rfl⟩:=List.mem_map.1 hu;rfl
theorem Tx{w:World}{base g cap lo:Nat}{e:TypeId}{ms:List BA}(h:w.ownsRow base e 1 (.slice (some ⟨g,0,none⟩) ms.length cap) ms.length (ms.map Value.string))(hz:∀s∈ms,s.size<=maxLen)(hm:ms.length<=maxLen)(hlo:lo<=base):SliceC StrC 1 lo w (some ⟨g,0,none⟩) ms:=by
 have hg:=h.lt g rfl;refine⟨hm,.inr ⟨g,0,rfl,⟨by omega,λ_ p=>h.frozenAt p⟩,hg.2,λj x hj=>⟨?_,hz x (List.mem_of_getElem? hj)⟩⟩⟩;have hlt:=Ac hj;have:=h.cellAt (j*1+0) (by simp;omega);simp only[Nat.mul_one,Nat.add_zero,List.getElem?_map,hj,Option.map_some]at this;simpa using this
theorem Um(ms:List BA)(a:OA)(cap lo:Nat)(w:World)(hin:SliceC StrC 1 lo w a ms)(hml:ms.length<=1000) :
  Calls prog 206 #[.slice a ms.length cap] w λe w'=>∃v,e=.returned v/\w'.ownsRow w.heap.size 9 1 v ms.length (ms.map Value.string)/\Below w.heap.size w w':=by
 obtain⟨i0,hi,hz0,hz1,hz2⟩:=info_parts Hd;have q22:∀(w:World)(a:OA)(n c n' c':Nat),(binOp .eql 28 (.slice a n c) (.slice none n' c')).run prog w=.ok (.bool a.isNone) w:=λw a n c n' c'=>Lib.run_eql_slice_nil w _ _ a n c n' c' underlying28
 have HI:=iH hin;clear hin;go_enter func206,ntmps206
 cases a with
 | none =>
  have hm0:ms=[]:=by
   rcases HI.out.2 with h|⟨b,o,h,_⟩
   .exact h
   .cases h
  subst hm0
  go_wp2
  go_ret;exact⟨_,rfl,World.ownsRow_nil _ _ _ _,Below.refl _ _⟩
 | some ad =>
  have HS:Hid (∀j u,(ms.map Value.string)[j]?=some u->w.cell? (ad.add j)=some u):=by
   intro j u hj;obtain⟨s,hs,rfl⟩:=Ym hj;obtain⟨b,o,e,_,_,hc⟩:=HI.out.at hs;cases e
   have:=hc.1;simp only[Nat.mul_one,Nat.add_zero]at this;rw[Addr.add_lit];exact this
  go_wp2_with(at_builtin;refine wpList_append_own _ rfl _ _ 28 rfl w.heap.size 9 i0 (.string ⟨#[]⟩) 1 16 underlying28 hi hz0 hz1 hz2 rfl (by decide) _ _ _ rfl (World.ownsRow_made w #[] 0 nL (zL) rfl) ad ms.length _ (ms.map Value.string) rfl (by simp) (λj u hj=>Lib.cell?_alloc_some _ (HS j u hj)) (Ty ms) (by unfold maxLen;omega) (by omega) (by simp) ?_;intro v' w1 hown hgrow hnil);go_ret;exact⟨v',rfl,by simpa using hown,((Below.refl _ w).alloc nL _).grown hgrow (by simp) (by intro k hk;cases hk;exact Nat.le_refl _)⟩
abbrev Di:BA:=⟨#[122,111,110,101,61]⟩
def Dn(ms:List BA)(z:BA):List BA:=ms++[Di++z]
def Dg(t:BA)(ms:List BA)(z:BA):Bool:=decide (Aq t=0)&&Db (Cy (Dn ms z) (Dn ms z).length) (Dj t)
def TwoZ(p:Nat)(l r:Value)(w:World):Prop:=w.cell? ⟨p,1,none⟩=some l/\w.cell? ⟨p,2,none⟩=some r
theorem TwoZ.below{p:Nat}{l r:Value}{w w':World}(h:TwoZ p l r w)(hb:Below w.heap.size w w'):TwoZ p l r w':=⟨(hb.cell (p:=⟨p,1,none⟩) (block_lt_of_cell h.1)).trans h.1,(hb.cell (p:=⟨p,2,none⟩) (block_lt_of_cell h.2)).trans h.2⟩
theorem TwoZ.grownZ{p:Nat}{l r v:Value}{w w':World}(h:TwoZ p l r w)(g:w.grownBy w' v.ownBlock)(hn:v.ownBlock≠some p):TwoZ p l r w':=⟨g.cell h.1 (λe=>hn e.symm),g.cell h.2 (λe=>hn e.symm)⟩
theorem iW{P:Program}{ops:Array Oper}{o:Oper}{a:Act}{K:Act->World->Prop}{Q:Exit->Act->World->Prop}{E:Prop}{w:World}(hg:o.guard=none)(x:Operand)(name:String)(qs:Array Operand)(ts:Array TypeId)(ho:o.op=.call {callee:=.invoke x name,args:=qs,argTypes:=ts})(xv:Value)(hx:a.eval x=xv)(bs:Array Value)(hq:qs.map a.eval=bs)(R:Value->World->Prop)(hm:vA P xv name bs w R)(h:∀u w',R u w'->K (a.put o.dst u) w'):if Region.wanted o (yielded ops a.tmps)=true then Oper.wp P o a w K Q else E:=by
 rw[if_pos (by simp[Region.wanted,hg])];obtain⟨f,bs',hr,hc⟩:=hm;subst hx;subst hq;have hrun:(execOp a.eval o).run P w=.ok (.enter f bs') w:=by
  unfold execOp;simp only[ho,resolve,invoke,Sem.run_bind,Sem.run_pure,Result.andThen_ok];rw[Sk];simp only[Array.getElem?_append,List.size_toArray,List.length_cons,List.length_nil];simp only[Nat.zero_add,Nat.lt_one_iff,if_true];exact hr
 unfold Oper.wp;rw[hrun,Oper.upon_enter];refine hc.mono ?_;rintro e w' ⟨u,rfl,hR⟩;exact h u w' hR
structure rU (name:String):Prop where
 c0:∀w,(nilAhead (prog.types.size+Made.depth) 262 (.agg #[]) name).run prog w=.ok (some false) w
 c1:∀n w,(nilAhead (prog.types.size+Made.depth) 294 (.agg #[.string n]) name).run prog w=.ok (some false) w
 c2:∀n m w,(nilAhead (prog.types.size+Made.depth) 296 (.agg #[.string n,.string m]) name).run prog w=.ok (some false) w
 c3:∀x h w,(nilAhead (prog.types.size+Made.depth) 290 (.agg #[x,.int .i64 h]) name).run prog w=.ok (some false) w
 c4:∀x y h w,(nilAhead (prog.types.size+Made.depth) 288 (.agg #[x,y,.int .i64 h]) name).run prog w=.ok (some false) w
 c5:∀x y h w,(nilAhead (prog.types.size+Made.depth) 286 (.agg #[x,y,.int .i64 h]) name).run prog w=.ok (some false) w
theorem zB{name:String}(H:rU name){t:P.Tr}(hw:P.wf t){ty:TypeId}{x:Value}(hv:Hid (val t=.iface ty x))(w:World):(nilAhead (prog.types.size+Made.depth) ty x name).run prog w=.ok (some false) w:=by
 have hv:=hv.out;rcases P.wf_cases hw with rfl|⟨n,rfl⟩|⟨n,v,rfl⟩|⟨k,hk,rfl⟩|⟨a,b,ha,hb,rfl⟩|⟨a,b,ha,hb,rfl⟩
 .rw[kQ]at hv;cases hv;exact H.c0 w
 .rw[qN]at hv;cases hv;exact H.c1 _ w
 .rw[rB]at hv;cases hv;exact H.c2 _ _ w
 .rw[gN]at hv;cases hv;exact H.c3 _ _ w
 .rw[iU]at hv;cases hv;exact H.c4 _ _ _ w
 .rw[kB]at hv;cases hv;exact H.c5 _ _ _ w
theorem Ow{P:Program}{ρ ρ':Operand->Value}{o:Oper}{x q:Operand}{name:String}{caps:Array Value}{ty:TypeId}{y:Value}(ho:o.op=.nilCheck x)(hx:ρ x=.func (.method name) (#[q].map ρ') caps)(hq:ρ' q=.iface ty y)(hn:∀w,(nilAhead (P.types.size+Made.depth) ty y name).run P w=.ok (some false) w)(w:World):(execOp ρ o).run P w=.ok (.value (.func (.method name) (#[q].map ρ') caps)) w:=by
 have hp:Sem.run P program w=.ok P w:=rfl;unfold execOp;simp[ho,hx,hq,hp,hn,Result.andThen]
theorem Xl{w:World}{base g cap:Nat}{ms:List BA}{z:BA}(h:w.ownsRow base 9 1 (.slice (some ⟨g,0,none⟩) (ms.length+1) cap) (ms.length+1) (ms.map Value.string++[.string (Di++z)]))(hz:∀s∈ms,s.size<=maxLen)(hs:z.size<=1000)(hl:ms.length<=1000):SliceC StrC 1 0 w (some ⟨g,0,none⟩) (Dn ms z):=by
 have hlen:(Dn ms z).length=ms.length+1:=by simp[Dn]
 have hmap:(Dn ms z).map Value.string=ms.map Value.string++[.string (Di++z)]:=by simp[Dn]
 refine Tx (cap:=cap) (base:=base) (e:=9) ?_ ?_ ?_ (zL)
 .rw[hlen,hmap];exact h
 .intro s hs'
  rcases List.mem_append.1 hs' with h|h
  .exact hz s h
  .rw[List.mem_singleton.1 h,ByteArray.size_append]
   have:Di.size=5:=rfl;unfold maxLen;omega
 .rw[hlen];unfold maxLen;omega
theorem uA{w:World}{sb:Nat}{u:Value}(h:w.cell? ⟨sb,0,none⟩=some u):∀j x,[u][j]?=some x->w.cell? ((⟨sb,0,none⟩:Addr).add j)=some x:=by
 intro j x hj
 cases j with
 |zero=>cases hj;rw[Addr.add_lit];exact h
 |succ j=>simp at hj
theorem fM(t nm z:BA)(ms:List BA)(a:OA)(cap lo:Nat)(rm hd:Int)(cl:Bool)(w:World)(hin:SliceC StrC 1 lo w a ms)(hml:ms.length<=1000)(hz:z.size<=1000)(ht:t.size<=maxLen)(hwf:Aq t=0->P.wf (Dj t))(hsh:Aq t=0->Hl (Dj t))(hsz:∀s∈ms,s.size<=maxLen) :
  Calls prog 187 #[.string t,.agg #[.string nm,.string z,.slice a ms.length cap,.int .i64 rm,.int .i64 hd,.bool cl]] w (Rt (.bool (Dg t ms z)) w):=by
 obtain⟨i0,hi,hz0,hz1,hz2⟩:=info_parts Hd;have HI:=iH hin;have HWF:=iH hwf;have HSH:=iH hsh;have HSZ:Hid (∀s∈ms,s.size<=maxLen):=hsz;clear hin hwf hsh hsz;go_enter func187,ntmps187;go_upto_region 1 with fail;have hal:=(Below.refl _ w).alloc nL (Obj.cells #[.string nm,.string z,.slice a ms.length cap,.int .i64 rm,.int .i64 hd,.bool cl] 52);have e1:(w.alloc (Obj.cells #[.string nm,.string z,.slice a ms.length cap,.int .i64 rm,.int .i64 hd,.bool cl] 52)).cell? ⟨w.heap.size,1,none⟩=some (.string z):=by simp
 have e2:(w.alloc (Obj.cells #[.string nm,.string z,.slice a ms.length cap,.int .i64 rm,.int .i64 hd,.bool cl] 52)).cell? ⟨w.heap.size,2,none⟩=some (.slice a ms.length cap):=by simp
 have HI1:=qSl StrC.holds HI hal;have HB1:=iH hal;clear hal HI;generalize(w.alloc (Obj.cells #[.string nm,.string z,.slice a ms.length cap,.int .i64 rm,.int .i64 hd,.bool cl] 52))=w1 at *;go_wp2_with fail;refine(eM t _ ht).mono ?_;rintro e w2⟨hr,hb2⟩;have HE1:Hid (w2.cell? ⟨w.heap.size,1,none⟩=some (.string z)):=(hb2.cell (p:=⟨w.heap.size,1,none⟩) (block_lt_of_cell e1)).trans e1;have HE2:Hid (w2.cell? ⟨w.heap.size,2,none⟩=some (.slice a ms.length cap)):=(hb2.cell (p:=⟨w.heap.size,2,none⟩) (block_lt_of_cell e2)).trans e2;have HI2:=qSl StrC.holds HI1 hb2;have HB2:=qTH HB1 hb2;clear hb2 e1 e2 HI1 HB1;rcases hr with⟨hc,rfl⟩|⟨hc,q,rfl⟩
 .have HC:Hid (Aq t=0):=hc
  have hw:=HWF.out hc;obtain⟨tyA,x,hv⟩:=Cv hw;rw[hv];have HV:=iH hv;have HW:=iH hw;clear hc hv hw;go_upto_region 5 with fail;have HB3:Hid (Below w.heap.size w w2.drew):=HB2.out.drew;have HI3:Hid (SliceC StrC 1 lo w2.drew a ms):=HI2.out.below StrC.holds ((Below.refl _ w2).drew) nL;refine wp_region_held_drew (S:=TwoZ w.heap.size (.string z) (.slice a ms.length cap)) (by kernel_rfl) (by simpa[TwoZ]using⟨HE1,HE2⟩) (λhS=>?_);generalize w2.drew=w3 at *;clear HB2 HI2 HE1 HE2;refine x6 0 15 (.pointer (some ⟨w.heap.size,2,none⟩)) ?_;refine x6 1 16 (.slice a ms.length cap) ?_;refine x6 3 18 (.pointer (some ⟨w.heap.size,1,none⟩)) ?_;refine x6 4 19 (.string z) ?_;refine ty 5 ⟨some 20,_,_,_,_,none⟩ (.string (Di++z)) ?_ ?_
  .intro wy hy
   obtain⟨y0,y1⟩:=hy;go_simp;omega
  refine wpAnyH_ready (rs:=[2,6]) (by kernel_rfl) (by simp) (AllReadyH.cons (o:=⟨some 17,_,_,_,_,none⟩) rfl (λK hK=>?_) (AllReadyH.cons (o:=⟨some 21,_,_,_,_,none⟩) rfl (λK hK=>?_) AllReadyH.nil))
  case' _ =>
   go_simp;refine(Um ms a cap lo _ HI3 hml).mono ?_;rintro e w4⟨v,rfl,ho,hb⟩;have HO4:Hid (w4.ownsRow w.heap.size 9 1 v ms.length (ms.map Value.string)):=World.ownsRow.mono ho HB3.out.size;have HNB4:Hid (∀i,v.ownBlock=some i->w3.heap.size<=i):=λi hi=>(ho.lt i hi).1
   have HB4:=qTH HB3 hb;have HNE:Hid (v.ownBlock≠some w.heap.size):=by
    intro e;have:=HNB4.out _ e;have h2:w.heap.size<w3.heap.size:=block_lt_of_cell hS.1;omega
   refine hK.out _ _ (hS.below hb) (λhS=>?_);clear ho hb HB3 HI3 HNB4;clear hK K;refine rd1 6 ⟨some 21,_,_,_,_,none⟩ rfl (λK hK=>?_);go_simp;have hal:=(Below.refl _ w4).alloc nL (Obj.cells #[.string (Di++z)] 9);have HB5:=qTH HB4 hal;have HA5:Hid ((w4.alloc (Obj.cells #[.string (Di++z)] 9)).cell? ⟨w4.heap.size,0,none⟩=some (.string (Di++z))):=by show _=_;simp
   have HO5:=iH (Ak HO4 hal);have HQ5:Hid (v.ownBlock≠some w4.heap.size):=by
    intro e;have:=(HO4.out.lt _ e).2;omega
   refine hK.out _ _ (hS.below hal) (λhS=>?_);clear hal HB4 HO4;generalize(w4.alloc (Obj.cells #[.string (Di++z)] 9))=w5 at *;generalize w4.heap.size=sb at *
  rotate_left
  case' _ =>
   go_simp;have hal:=(Below.refl _ w3).alloc nL (Obj.cells #[.string (Di++z)] 9);have HB4:=qTH HB3 hal;have HA4:Hid ((w3.alloc (Obj.cells #[.string (Di++z)] 9)).cell? ⟨w3.heap.size,0,none⟩=some (.string (Di++z))):=by show _=_;simp
   have HI4:=qSl StrC.holds HI3 hal;refine hK.out _ _ (hS.below hal) (λhS=>?_);clear hal HB3 HI3;generalize(w3.alloc (Obj.cells #[.string (Di++z)] 9))=w4 at *;generalize w3.heap.size=sb at *;clear hK K;refine rd1 2 ⟨some 17,_,_,_,_,none⟩ rfl (λK hK=>?_);go_simp;refine(Um ms a cap lo _ HI4 hml).mono ?_;rintro e w5⟨v,rfl,ho,hb⟩;have HO5:Hid (w5.ownsRow w.heap.size 9 1 v ms.length (ms.map Value.string)):=World.ownsRow.mono ho HB4.out.size;have HNB5:Hid (∀i,v.ownBlock=some i->w4.heap.size<=i):=λi hi=>(ho.lt i hi).1
   have HB5:=qTH HB4 hb;have HA5:Hid (w5.cell? ⟨sb,0,none⟩=some (.string (Di++z))):=(hb.cell (p:=⟨sb,0,none⟩) (block_lt_of_cell HA4)).trans HA4;have HQ5:Hid (v.ownBlock≠some sb):=by
    intro e;have:=HNB5.out _ e;have h2:sb<w4.heap.size:=block_lt_of_cell HA4;omega
   have HNE:Hid (v.ownBlock≠some w.heap.size):=by
    intro e;have:=HNB5.out _ e;have h2:w.heap.size<w4.heap.size:=block_lt_of_cell hS.1;omega
   refine hK.out _ _ (hS.below hb) (λhS=>?_);clear ho hb HB4 HI4 HNB5 HA4
  rotate_left
  all_goals
   clear hK K;refine rd1 7 ⟨some 22,_,_,_,_,none⟩ rfl (λK hK=>?_);refine step_append_lies _ (by rfl) (.tmp 17) (.tmp 21) 28 (by rfl) w.heap.size 9 i0 _ 1 16 underlying28 hi hz0 hz1 hz2 (by rfl) (by decide) v ms.length _ (by rfl) HO5 ⟨sb,0,none⟩ 1 1 [.string (Di++z)] (by rfl) (by rfl) (uA HA5) (by intro u hu;rw[List.mem_singleton.1 hu];rfl) (by omega) (by unfold maxLen;omega) (by omega) HB5.out.size w5.heap.size rfl ?_;intro g cap2 w9 hown hgrow hto hgl;have HO9:=iH hown;have HB9:Hid (Below w.heap.size w w9):=HB5.out.grown hgrow HB5.out.size (λi hi=>(HO5.out.lt i hi).1);have hS9:TwoZ w.heap.size (.string z) (.slice a ms.length cap) w9:=TwoZ.grownZ hS hgrow HNE;refine hK.out _ _ hS9 (λhS=>?_);clear hK K hown hgrow hto HO5 HB5 HA5 hS9;simp only[pX];refine x6 8 7 ((.slice (some ⟨g,0,none⟩) (ms.length+1) cap2)) ?_;refine td ?_;have HZ9:Hid (SliceC StrC 1 0 w9 (some ⟨g,0,none⟩) (Dn ms z)):=Xl HO9 HSZ hz hml;have hlen:ms.length+1=(Dn ms z).length:=by simp[Dn]
   rw[hlen];have hzl:(Dn ms z).length<=1048576:=by rw[<-hlen];omega
   have HR:Hid (Db (Cy (Dn ms z) (Dn ms z).length) (Dj t)=Dg t ms z):=by show _=_;unfold Dg;rw[decide_eq_true HC.out];rfl
   clear hlen HO9 hS HNE HQ5 hgl;generalize Dn ms z=Z at *;go_upto_region 6 with fail;have HB10:Hid (Below w.heap.size w w9.drew):=HB9.out.drew;have HZ10:Hid (SliceC StrC 1 0 w9.drew (some ⟨g,0,none⟩) Z):=HZ9.out.below StrC.holds ((Below.refl _ w9).drew) nL;refine wp_region_held_drew (S:=λ_=>True) (by kernel_rfl) trivial (λhS=>?_);generalize w9.drew=w10 at *;clear HB9 HZ9;refine tk 0 ⟨some 23,_,_,_,_,none⟩ (.iface tyA x) rfl (Or.inl ⟨by rfl,λ_ _=>rfl⟩) hS ?_;refine tk 1 ⟨some 24,_,_,_,_,none⟩ (.slice (some ⟨g,0,none⟩) Z.length cap2) rfl (Or.inl ⟨by rfl,λ_ _=>rfl⟩) hS ?_;refine tk 3 ⟨some 26,_,_,_,_,none⟩ _ rfl (Or.inl ⟨by rfl,λ_ _=>rfl⟩) hS ?_;refine tk 4 ⟨some 27,_,_,_,_,none⟩ _ rfl (Or.inl ⟨by rfl,λwy _=>Ow rfl rfl rfl (λw=>zB ⟨λ_=>by kernel_rfl,λ_ _=>by kernel_rfl,λ_ _ _=>by kernel_rfl,λ_ _ _=>by kernel_rfl,λ_ _ _ _=>by kernel_rfl,λ_ _ _ _=>by kernel_rfl⟩ HW HV w) wy⟩) hS ?_;refine tk 5 ⟨some 28,_,_,_,_,none⟩ (.iface tyA x) rfl (Or.inl ⟨by rfl,λ_ _=>rfl⟩) hS ?_;refine rd1 2 ⟨some 25,_,_,_,_,none⟩ rfl (λK hK=>?_);go_simp;refine(Sb Z _ cap2 0 _ HZ10 hzl).mono ?_;rintro e w11⟨m,n,rfl,hom,hb⟩;have HM:=iH hom;have HB11:=qTH HB10 hb;refine hK.out _ _ trivial (λhS=>?_);clear hom hb HZ10 HB10 hK K;refine rd1 6 ⟨some 29,_,_,_,_,none⟩ rfl (λK hK=>?_);refine iW (by rfl) (.tmp 28) _ #[.tmp 25] #[212] (by rfl) _ (by rfl) #[.map (some m)] (Ni _ _) _ (rY _ HW _ ⟨λ_ _=>by kernel_rfl,λ_ _ _=>by kernel_rfl,λ_ _ _ _=>by kernel_rfl,λ_ _ _ _=>by kernel_rfl,λ_ _ _ _ _=>by kernel_rfl,λ_ _ _ _ _=>by kernel_rfl⟩ _ HV m n _ _ HM (HSH HC)) ?_;rintro u w12⟨rfl,hb⟩;rw[HR.out];have HB12:=qTH HB11 hb;refine hK.out _ _ trivial (λhS=>?_);clear hb HB11 HM hK K;refine tk 7 ⟨some 4,_,_,_,_,none⟩ (.bool (Dg t ms z)) rfl (Or.inl ⟨by rfl,λ_ _=>rfl⟩) hS ?_;refine td ?_
   go_wp2
   go_ret;exact⟨rfl,HB12⟩
 .have HF:Hid (false=Dg t ms z):=by show _=_;unfold Dg;rw[decide_eq_false hc];rfl
  clear hc
  go_wp2
  go_ret;exact⟨Ab HF,HB2⟩
theorem nE(y:P.Tr)(hw:P.wf y):nOk y->Hl y:=by
 refine P.wf_ind (p:=λy=>nOk y->Hl y) ?_ ?_ ?_ ?_ ?_ ?_ y hw
 .intro _;exact⟨zL,zL,trivial,trivial⟩
 .intro n hn
  exact⟨lT (P.nameOk_pos (hn.2.1 rfl)).2 (by decide),zL,trivial,trivial⟩
 .intro n v hn
  obtain⟨h1,h2⟩:=hn.2.2.1 rfl;exact⟨lT (P.nameOk_pos h1).2 (by decide),lT (P.nameOk_pos h2).2 (by decide),trivial,trivial⟩
 .intro k _ ih hn;exact⟨zL,zL,ih hn.2.2.2.1,trivial⟩
 .intro a b _ _ ia ib hn;exact⟨zL,zL,ia hn.2.2.2.1,ib hn.2.2.2.2⟩
 .intro a b _ _ ia ib hn;exact⟨zL,zL,ia hn.2.2.2.1,ib hn.2.2.2.2⟩
theorem Ln{t:BA}(h:Aq t=0):P.wf (Dj t)/\(Dj t=P.nonT\/nOk (Dj t))/\P.tall (Dj t)<=20/\P.count (Dj t)<=200:=by
 have ht:¬200<t.size:=by
  intro hb;unfold Aq at h;rw[if_pos hb]at h;cases h
 have hl:=Ic (i:=0) (t:=t) (by omega);unfold Aq at h;rw[if_neg ht]at h;unfold Dj;by_cases hL:Ad t 0=[]
 .rw[if_pos hL]
  exact⟨P.wf_non,.inl rfl,by decide,by decide⟩
 ·rw [if_neg hL]at h⊢
  cases hr:P.rd 1000 2 P.nonT (Ad t 0)with
  |none=>rw[hr]at h;cases h
  | some yr =>
   obtain⟨y,r⟩:=yr;obtain⟨_,_,a3,_,a5,a6⟩:=P.rd_rd 1000 2 P.nonT _ _ _ (λh=>by omega) hr;rw[if_pos (by omega)]at a5;have hn:=(Gs 1000 2 P.nonT _ _ _ (λh=>by omega) hr).1;refine⟨a3,.inr hn,?_,?_⟩
   .show P.tall y<=20
    rw[hr]at h
    cases r with
    |nil =>
     by_cases h20:20<P.tall y
     .simp[h20]at h
     .omega
    |cons a b=>simp at h
   .show P.count y<=200
    omega
theorem hE{t:BA}(h:Aq t=0):Hl (Dj t):=by
 obtain⟨hw,hn,_,_⟩:=Ln h;rcases hn with e|hn
 .rw[e];exact⟨zL,zL,trivial,trivial⟩
 .exact nE _ hw hn
theorem tW(t nm z:BA)(ms:List BA)(a:OA)(cap lo:Nat)(rm hd:Int)(cl:Bool)(w:World)(hin:SliceC StrC 1 lo w a ms)(hml:ms.length<=1000)(hz:z.size<=1000)(ht:t.size<=maxLen) :
  Calls prog 187 #[.string t,.agg #[.string nm,.string z,.slice a ms.length cap,.int .i64 rm,.int .i64 hd,.bool cl]] w λe w'=>e=.returned (.bool (Dg t ms z))/\Below w.heap.size w w' :=
 fM t nm z ms a cap lo rm hd cl w hin hml hz ht (λh=>(Ln h).1) hE (λs hs=>by
  obtain⟨j,hj⟩:=List.getElem?_of_mem hs;obtain⟨_,_,_,_,_,hc⟩:=hin.at hj
  exact hc.2)
theorem Nx{P:Program}{w:World}(base:Nat)(t ty e:TypeId)(i:TypeInfo)(size:Nat)(ht:P.underlying t=some (.slice e))(hi:P.info? e=some i)(v:Value)(n c:Nat)(xs:List Value)(hown:w.ownsRow base e size v n xs) :
  (Builtin.append_ #[t,t] ty #[v,.slice none 0 c]).run P w=.ok v w:=by
 rcases hown.2 with⟨rfl,rfl⟩|⟨g,cap,cur,rfl,_,_,hnc,_⟩
 .simp[Builtin.append_,run_underlying ht,sizeOf,typeInfo,hi,Builtin.lenOf,Builtin.firstCells]
 .simp[Builtin.append_,run_underlying ht,sizeOf,typeInfo,hi,Builtin.lenOf,Builtin.firstCells,hnc,storeCells]
theorem Gu{ops:Array Oper}{o:Oper}{ac:Act}{w:World}{K:Act->World->Prop}{Q:Exit->Act->World->Prop}{E:Prop}(hgd:o.guard=none)(s x:Operand)(ho:o.op=.call {callee:=.builtin .append,args:=#[s,x],argTypes:=#[28,28]})(base:Nat)(v:Value)(n:Nat)(xs:List Value)(hs:ac.eval s=v)(hown:w.ownsRow base 9 1 v n xs)(ms:List BA)(a:OA)(cap lo:Nat)(hx:ac.eval x=.slice a ms.length cap)(hin:SliceC StrC 1 lo w a ms)(hb:n+ms.length<=100000)(hbase:base<=w.heap.size)(h:∀v' w',w'.ownsRow base 9 1 v' (n+ms.length) (xs++ms.map Value.string)->w.grownBy w' v.ownBlock->(v'.ownBlock=v.ownBlock\/v'.ownBlock=some w.heap.size)->K (ac.put o.dst v') w') :
  if Region.wanted o (yielded ops ac.tmps)=true then Oper.wp prog o ac w K Q else E:=by
 obtain⟨i0,hi,hz0,hz1,hz2⟩:=info_parts Hd;have hw:Region.wanted o (yielded ops ac.tmps)=true:=by simp[Region.wanted,hgd]
 rw[if_pos hw]
 cases a with
 | none =>
  have hm0:ms=[]:=by
   rcases hin.2 with h|⟨b,o,h,_⟩
   .exact h
   .cases h
  subst hm0;have hr:=Nx (P:=prog) (w:=w) base 28 o.type 9 i0 1 underlying28 hi v n cap xs hown;unfold Oper.wp execOp;simp only[List.length_nil]at hx;simp only[ho,resolve,invoke,builtin,Sem.run_bind,Sem.run_pure,Result.andThen_ok,List.map_toArray,List.map_cons,List.map_nil,hs,hx,hr];exact h v w (by simpa using hown) ⟨rfl,rfl,rfl,Nat.le_refl _,λ_ _ _=>rfl⟩ (.inl rfl)
 | some ad =>
  obtain⟨v',w',hr,h2,h3,_,h5⟩:=run_append_own_at (P:=prog) w base 28 o.type 9 i0 (.string ⟨#[]⟩) 1 16 underlying28 hi hz0 hz1 hz2 rfl (by decide) v n xs hown ad ms.length cap (ms.map Value.string) (by simp)
   (λj u hj=>by
    obtain⟨s,hs,rfl⟩:=Ym hj;obtain⟨b,o,e,_,_,hc⟩:=hin.at hs;cases e
    have:=hc.1;simp only[Nat.mul_one,Nat.add_zero]at this;rw[Addr.add_lit]
    exact this) (Ty ms) (by unfold maxLen;omega) (by omega) hbase
  unfold Oper.wp execOp;simp only[ho,resolve,invoke,builtin,Sem.run_bind,Sem.run_pure,Result.andThen_ok,List.map_toArray,List.map_cons,List.map_nil,hs,hx,hr]
  exact h v' w' h2 h3 (by
   rcases h5 with h5|h5
   .exact .inl h5
   .exact .inr h5)
theorem dL(nm z:BA)(ms:List BA)(a:OA)(cap lo:Nat)(rm hd:Int)(cl:Bool)(w:World)(hin:SliceC StrC 1 lo w a ms)(hml:ms.length<=1000)(hz:z.size<=1000)(hsz:∀s∈ms,s.size<=maxLen) :
  Calls prog 94 #[.agg #[.string nm,.string z,.slice a ms.length cap,.int .i64 rm,.int .i64 hd,.bool cl]] w λe w'=>∃g c,e=.returned (.slice (some ⟨g,0,none⟩) (Dn ms z).length c)/\SliceC StrC 1 0 w' (some ⟨g,0,none⟩) (Dn ms z)/\Below w.heap.size w w':=by
 obtain⟨i0,hi,hz0,hz1,hz2⟩:=info_parts Hd;have HI:=iH hin;have HSZ:Hid (∀s∈ms,s.size<=maxLen):=hsz;clear hin hsz;go_enter func94,ntmps94;go_upto_region 1 with fail;have hal:=(Below.refl _ w).alloc nL (Obj.cells #[.string nm,.string z,.slice a ms.length cap,.int .i64 rm,.int .i64 hd,.bool cl] 52);have e1:(w.alloc (Obj.cells #[.string nm,.string z,.slice a ms.length cap,.int .i64 rm,.int .i64 hd,.bool cl] 52)).cell? ⟨w.heap.size,1,none⟩=some (.string z):=by simp
 have e2:(w.alloc (Obj.cells #[.string nm,.string z,.slice a ms.length cap,.int .i64 rm,.int .i64 hd,.bool cl] 52)).cell? ⟨w.heap.size,2,none⟩=some (.slice a ms.length cap):=by simp
 have HI1:=qSl StrC.holds HI hal;have HB1:=iH hal;clear hal HI;generalize(w.alloc (Obj.cells #[.string nm,.string z,.slice a ms.length cap,.int .i64 rm,.int .i64 hd,.bool cl] 52))=w2 at *;have HB3:Hid (Below w.heap.size w w2.drew):=HB1.out.drew;have HI3:Hid (SliceC StrC 1 lo w2.drew a ms):=HI1.out.below StrC.holds ((Below.refl _ w2).drew) nL;refine wp_region_held_drew (S:=TwoZ w.heap.size (.string z) (.slice a ms.length cap)) (by kernel_rfl) (by simpa[TwoZ]using⟨e1,e2⟩) (λhS=>?_);generalize w2.drew=w3 at *;clear HB1 HI1 e1 e2;refine x6 1 4 (.pointer (some ⟨w.heap.size,2,none⟩)) ?_;refine x6 2 5 (.slice a ms.length cap) ?_;refine x6 4 7 (.pointer (some ⟨w.heap.size,1,none⟩)) ?_;refine x6 5 8 (.string z) ?_;refine ty 6 ⟨some 9,_,_,_,_,none⟩ (.string (Di++z)) ?_ ?_
 .intro wy hy
  obtain⟨y0,y1⟩:=hy;go_simp;omega
 refine wpAnyH_ready (rs:=[0,7]) (by kernel_rfl) (by simp) (AllReadyH.cons (o:=⟨some 3,_,_,_,_,none⟩) rfl (λK hK=>?_) (AllReadyH.cons (o:=⟨some 10,_,_,_,_,none⟩) rfl (λK hK=>?_) AllReadyH.nil))
 case' _ =>
  go_simp;have hal:=(Below.refl _ w3).alloc nL (Obj.cells #[] 9);have HB4:=qTH HB3 hal;have HI4:=qSl StrC.holds HI3 hal;have HO4:Hid ((w3.alloc (Obj.cells #[] 9)).ownsRow w.heap.size 9 1 (.slice (some ⟨w3.heap.size,0,none⟩) 0 0) 0 []):=World.ownsRow_made w3 #[] 0 HB3.out.size (zL) rfl;have HNE4:Hid ((Value.slice (some ⟨w3.heap.size,0,none⟩) 0 0).ownBlock≠some w.heap.size):=by
   intro e;have h2:w.heap.size<w3.heap.size:=block_lt_of_cell hS.1;have h3:w3.heap.size=w.heap.size:=Option.some.inj e;omega
  refine hK.out _ _ (hS.below hal) (λhS=>?_);clear hal HB3 HI3;generalize(w3.alloc (Obj.cells #[] 9))=w4 at *;generalize w3.heap.size=p0 at *;clear hK K;refine wpAnyH_ready (rs:=[3,7]) (by kernel_rfl) (by simp) (AllReadyH.cons (o:=⟨some 6,_,_,_,_,none⟩) rfl (λK hK=>?_) (AllReadyH.cons (o:=⟨some 10,_,_,_,_,none⟩) rfl (λK hK=>?_) AllReadyH.nil))
  case' _ =>
   refine Gu (by rfl) (.tmp 3) (.tmp 5) (by rfl) w.heap.size _ 0 [] (by rfl) HO4 ms a cap lo (by rfl) HI4 (by omega) HB4.out.size ?_;intro v w5 hown hgrow hob;simp only[Nat.zero_add,List.nil_append]at hown;have HO5:=iH hown;have HB5:Hid (Below w.heap.size w w5):=HB4.out.grown hgrow HB4.out.size (λi hi=>(HO4.out.lt i hi).1);have HNE5:Hid (v.ownBlock≠some w.heap.size):=by
    rcases hob with e|e
    .rw[e];exact HNE4.out
    .rw[e]
     intro e';have h2:w.heap.size<w4.heap.size:=block_lt_of_cell hS.1;have h3:w4.heap.size=w.heap.size:=Option.some.inj e';omega
   refine hK.out _ _ (TwoZ.grownZ hS hgrow HNE4) (λhS=>?_);clear hown hgrow hob HB4 HI4 HO4 HNE4;clear hK K;simp only[pX];refine rd1 7 ⟨some 10,_,_,_,_,none⟩ rfl (λK hK=>?_);go_simp;have hal:=(Below.refl _ w5).alloc nL (Obj.cells #[.string (Di++z)] 9);have HB6:=qTH HB5 hal;have HA6:Hid ((w5.alloc (Obj.cells #[.string (Di++z)] 9)).cell? ⟨w5.heap.size,0,none⟩=some (.string (Di++z))):=by show _=_;simp
   have HO6:=iH (Ak HO5 hal);have HNE6:=HNE5;have HQ6:Hid (v.ownBlock≠some w5.heap.size):=by
    intro e;have:=(HO5.out.lt _ e).2;omega
   refine hK.out _ _ (hS.below hal) (λhS=>?_);clear hal HB5 HO5 HNE5;generalize(w5.alloc (Obj.cells #[.string (Di++z)] 9))=w6 at *;generalize w5.heap.size=sb at *;clear hK K
  rotate_left
  case' _ =>
   go_simp;have hal:=(Below.refl _ w4).alloc nL (Obj.cells #[.string (Di++z)] 9);have HB5:=qTH HB4 hal;have HA5:Hid ((w4.alloc (Obj.cells #[.string (Di++z)] 9)).cell? ⟨w4.heap.size,0,none⟩=some (.string (Di++z))):=by show _=_;simp
   have HI5:=qSl StrC.holds HI4 hal;have HO5:=iH (Ak HO4 hal);have HNE5:=HNE4;have HQ5:Hid ((Value.slice (some ⟨p0,0,none⟩) 0 0).ownBlock≠some w4.heap.size):=by
    intro e;have:=(HO4.out.lt _ e).2;omega
   refine hK.out _ _ (hS.below hal) (λhS=>?_);clear hal HB4 HO4 HNE4 HI4;generalize(w4.alloc (Obj.cells #[.string (Di++z)] 9))=w5 at *;generalize w4.heap.size=sb at *;clear hK K;refine rd1 3 ⟨some 6,_,_,_,_,none⟩ rfl (λK hK=>?_);refine Gu (by rfl) (.tmp 3) (.tmp 5) (by rfl) w.heap.size _ 0 [] (by rfl) HO5 ms a cap lo (by rfl) HI5 (by omega) HB5.out.size ?_;intro v w6 hown hgrow hob;simp only[Nat.zero_add,List.nil_append]at hown;have HO6:=iH hown;have HB6:Hid (Below w.heap.size w w6):=HB5.out.grown hgrow HB5.out.size (λi hi=>(HO5.out.lt i hi).1);have HNE6:Hid (v.ownBlock≠some w.heap.size):=by
    rcases hob with e|e
    .rw[e];exact HNE5.out
    .rw[e]
     intro e';have h2:w.heap.size<w5.heap.size:=block_lt_of_cell hS.1;have h3:w5.heap.size=w.heap.size:=Option.some.inj e';omega
   have HA6:Hid (w6.cell? ⟨sb,0,none⟩=some (.string (Di++z))):=hgrow.cell HA5 (λe=>HQ5.out e.symm);have HQ6:Hid (v.ownBlock≠some sb):=by
    rcases hob with e|e
    .rw[e];exact HQ5.out
    .rw[e]
     intro e';have h2:sb<w5.heap.size:=block_lt_of_cell HA5;have h3:w5.heap.size=sb:=Option.some.inj e';omega
   refine hK.out _ _ (TwoZ.grownZ hS hgrow HNE5) (λhS=>?_);clear hown hgrow hob HB5 HI5 HO5 HNE5 HA5 HQ5;clear hK K;simp only[pX]
  rotate_left
 rotate_left 2
 case' _ =>
  go_simp;have hal:=(Below.refl _ w3).alloc nL (Obj.cells #[.string (Di++z)] 9);have HB4:=qTH HB3 hal;have HA4:Hid ((w3.alloc (Obj.cells #[.string (Di++z)] 9)).cell? ⟨w3.heap.size,0,none⟩=some (.string (Di++z))):=by show _=_;simp
  have HI4:=qSl StrC.holds HI3 hal;refine hK.out _ _ (hS.below hal) (λhS=>?_);clear hal HB3 HI3;generalize(w3.alloc (Obj.cells #[.string (Di++z)] 9))=w4 at *;generalize w3.heap.size=sb at *;clear hK K;refine rd1 0 ⟨some 3,_,_,_,_,none⟩ rfl (λK hK=>?_);go_simp;have hal:=(Below.refl _ w4).alloc nL (Obj.cells #[] 9);have HB5:=qTH HB4 hal;have HI5:=qSl StrC.holds HI4 hal;have HO5:Hid ((w4.alloc (Obj.cells #[] 9)).ownsRow w.heap.size 9 1 (.slice (some ⟨w4.heap.size,0,none⟩) 0 0) 0 []):=World.ownsRow_made w4 #[] 0 HB4.out.size (zL) rfl;have HNE5:Hid ((Value.slice (some ⟨w4.heap.size,0,none⟩) 0 0).ownBlock≠some w.heap.size):=by
   intro e;have h2:w.heap.size<w4.heap.size:=block_lt_of_cell hS.1;have h3:w4.heap.size=w.heap.size:=Option.some.inj e;omega
  have HA5:Hid ((w4.alloc (Obj.cells #[] 9)).cell? ⟨sb,0,none⟩=some (.string (Di++z))):=(hal.cell (p:=⟨sb,0,none⟩) (block_lt_of_cell HA4)).trans HA4;have HQ5:Hid ((Value.slice (some ⟨w4.heap.size,0,none⟩) 0 0).ownBlock≠some sb):=by
   intro e;have h2:sb<w4.heap.size:=block_lt_of_cell HA4;have h3:w4.heap.size=sb:=Option.some.inj e;omega
  refine hK.out _ _ (hS.below hal) (λhS=>?_);clear hal HB4 HI4 HA4;generalize(w4.alloc (Obj.cells #[] 9))=w5 at *;generalize w4.heap.size=p0 at *;clear hK K;refine rd1 3 ⟨some 6,_,_,_,_,none⟩ rfl (λK hK=>?_);refine Gu (by rfl) (.tmp 3) (.tmp 5) (by rfl) w.heap.size _ 0 [] (by rfl) HO5 ms a cap lo (by rfl) HI5 (by omega) HB5.out.size ?_;intro v w6 hown hgrow hob;simp only[Nat.zero_add,List.nil_append]at hown;have HO6:=iH hown;have HB6:Hid (Below w.heap.size w w6):=HB5.out.grown hgrow HB5.out.size (λi hi=>(HO5.out.lt i hi).1);have HNE6:Hid (v.ownBlock≠some w.heap.size):=by
   rcases hob with e|e
   .rw[e];exact HNE5.out
   .rw[e]
    intro e';have h2:w.heap.size<w5.heap.size:=block_lt_of_cell hS.1;have h3:w5.heap.size=w.heap.size:=Option.some.inj e';omega
  have HA6:Hid (w6.cell? ⟨sb,0,none⟩=some (.string (Di++z))):=hgrow.cell HA5 (λe=>HQ5.out e.symm);have HQ6:Hid (v.ownBlock≠some sb):=by
   rcases hob with e|e
   .rw[e];exact HQ5.out
   .rw[e]
    intro e';have h2:sb<w5.heap.size:=block_lt_of_cell HA5;have h3:w5.heap.size=sb:=Option.some.inj e';omega
  refine hK.out _ _ (TwoZ.grownZ hS hgrow HNE5) (λhS=>?_);clear hown hgrow hob HB5 HI5 HO5 HNE5 HA5 HQ5;clear hK K;simp only[pX]
 rotate_left
 all_goals
  refine rd1 8 ⟨some 11,_,_,_,_,none⟩ rfl (λK hK=>?_);refine step_append_lies _ (by rfl) (.tmp 6) (.tmp 10) 28 (by rfl) w.heap.size 9 i0 _ 1 16 underlying28 hi hz0 hz1 hz2 (by rfl) (by decide) v ms.length _ (by rfl) HO6 ⟨sb,0,none⟩ 1 1 [.string (Di++z)] (by rfl) (by rfl) (uA HA6) (by intro u hu;rw[List.mem_singleton.1 hu];rfl) (by omega) (by unfold maxLen;omega) (by omega) HB6.out.size w6.heap.size rfl ?_;intro g cap2 w9 hown hgrow hto hgl;have HO9:=iH hown;have HB9:Hid (Below w.heap.size w w9):=HB6.out.grown hgrow HB6.out.size (λi hi=>(HO6.out.lt i hi).1);refine hK.out _ _ (TwoZ.grownZ hS hgrow HNE6) (λhS=>?_);clear hK K hown hgrow hto HO6 HB6 HA6 HNE6;simp only[pX];refine x6 9 2 ((.slice (some ⟨g,0,none⟩) (ms.length+1) cap2)) ?_;refine td ?_;have HZ9:Hid (SliceC StrC 1 0 w9 (some ⟨g,0,none⟩) (Dn ms z)):=Xl HO9 HSZ hz hml;have hlen:ms.length+1=(Dn ms z).length:=by simp[Dn]
  rw[hlen];clear hlen HO9 hS hgl
  go_wp2
  go_ret;exact⟨_,_,rfl,HZ9,HB9⟩
end Go.Proofs.YtpidfnfilnkhkaaGreat
