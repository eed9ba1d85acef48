import Derived.Test.YtpidfnfilnkhkaaGreatJ35
set_option maxHeartbeats 8000000
set_option maxRecDepth 100000
namespace Go.Proofs.YtpidfnfilnkhkaaGreat
open Go.RowKit Go.WideMaps Go.Maps
theorem fB {cs:List Cpy} {g:BA} (h:0≤Eo cs g):∃ n c,Eo cs g=((n:Nat):Int)∧cs[n]?=some c:=by
 unfold Eo at h ⊢
 cases e:cs.findIdx? (fun b=>decide (b.name=g)) with
 | none=>rw [e] at h;simp at h
 | some k =>
  rw [List.findIdx?_eq_some_iff_getElem] at e;obtain ⟨hk,_⟩:=e;exact ⟨k,cs[k],rfl,gE hk⟩
theorem FltIn.drew {b:Nat} {x:Flt} {a1:OA} {c1:Nat} {a2:OA} {c2:Nat} {a3:OA} {c3:Nat} {w:World} (h:FltIn b x a1 c1 a2 c2 a3 c3 w):FltIn b x a1 c1 a2 c2 a3 c3 w.drew:=by
 obtain ⟨h0,h1,h2,h3⟩:=h;exact ⟨by simpa using h0,by simpa using h1,by simpa using h2,by simpa using h3⟩
def yZ (b:Nat) (x:Flt) (a1:OA) (c1:Nat) (a2:OA) (c2:Nat) (a3:OA) (c3:Nat) (sb so:Nat) (g:BA) (w:World):Prop:=FltIn b x a1 c1 a2 c2 a3 c3 w∧w.cell? ⟨sb,so,none⟩=some (.string g)
def Qo (b:Nat) (x:Flt) (a1:OA) (c1:Nat) (a2:OA) (c2:Nat) (a3:OA) (c3:Nat) (sb so:Nat) (g:BA) (cb co:Nat) (cs:BA) (vb vo:Nat) (vs:BA) (w:World):Prop:=FltIn b x a1 c1 a2 c2 a3 c3 w∧w.cell? ⟨sb,so,none⟩=some (.string g)∧w.cell? ⟨cb,co,none⟩=some (.string cs)∧w.cell? ⟨vb,vo,none⟩=some (.string vs)
theorem MayA.step {x:Flt} {gone:List BA} {k:Nat} {g:BA} (h:MayA x gone k) (hg:gone[k]?=some g) (h1:0≤Eo x.copies g∧∃ c,x.copies[(Eo x.copies g).toNat]?=some c∧¬ c.at_=⟨#[]⟩) (h2:∀ (m:Nat) (s:BA),k=m+1→gone[m]?=some s→Op.bytesLess s.toList g.toList=true):MayA x gone (k+1):=by
 refine ⟨fun j g' hj hg'=>?_,fun j s t hj hs ht=>?_⟩
 ·by_cases e:j=k
  ·subst e
   rw [hg] at hg';cases hg'
   exact h1
  ·exact h.1 j g' (by omega) hg'
 ·by_cases e:j+1=k
  ·rw [e,hg] at ht
   cases ht
   exact h2 j s e.symm hs
  ·exact h.2 j s t (by omega) hs ht
theorem MayC.step {x:Flt} {gone:List BA} {s:Nat} {y:Svc} (h:MayC x gone s) (hy:x.services[s]?=some y) (h1:0<Ca (goS x gone y.name) gone.length→((Ca (goS x gone y.name) gone.length:Nat):Int)≤y.spare - (Ca (Mf x y.name) x.copies.length:Nat)):MayC x gone (s+1):=by
 intro t z ht hz h0;by_cases e:t=s
 ·subst e
  rw [hy] at hz;cases hz
  exact h1 h0
 ·exact h t z (by omega) hz h0
theorem gK (x:Flt) (a1:OA) (c1:Nat) (a2:OA) (c2:Nat) (a3:OA) (c3:Nat) (lo:Nat) (gone:List BA) (ga:OA) (gc lo2:Nat) (w:World) (n2:SliceC SvcC 2 lo w a2 x.services) (n3:SliceC CpyC 12 lo w a3 x.copies) (hg:SliceC StrC 1 lo2 w ga gone) (hsm:gone.length≤1048576) (l2:x.services.length≤30) (l3:x.copies.length≤60) (hsp:∀ (k:Nat) (y:Svc),x.services[k]?=some y→0≤y.spare∧y.spare≤60) :
  Calls Tryz.prog 47 #[.agg (ffA x a1 c1 a2 c2 a3 c3),.slice ga gone.length gc] w fun e w'=>CB e (May x gone)∧Below w.heap.size w w':=by
 have N2:=iH n2;have N3:=iH n3;have HG:=iH hg;have HSP:=iH hsp;clear n2 n3 hg hsp;go_enter Tryz.func47,Tryz.ntmps47;go_wp2_with fail;have HF0:Hid (FltIn w.heap.size x a1 c1 a2 c2 a3 c3 (w.alloc (Obj.cells (ffA x a1 c1 a2 c2 a3 c3) 35))):=⟨by simp,by simp,by simp,by simp⟩;go_loopw [5] (fun i wr=>∃ (k:Nat),k≤gone.length∧i=.int .i64 k∧Hid (FltIn w.heap.size x a1 c1 a2 c2 a3 c3 wr)∧Hid (MayA x gone k)∧Hid (Below w.heap.size w wr)) (fun i _=>gone.length - (intOf i).toNat)
 case atStart=>exact ⟨0,zL,rfl,HF0,⟨fun j g h=>absurd h (Nat.not_lt_zero _),fun j s t h=>absurd h (Nat.not_lt_zero _)⟩,by show Below _ _ _;go_grown⟩
 case round =>
  clear HF0;obtain ⟨k,hk,rfl,hF,hA,hB⟩:=hrel;by_cases hlt:k<gone.length
  ·obtain ⟨g,hgk⟩:=gXe hlt
   obtain ⟨b,o,rfl,_,_,hc⟩:=(HG.out.below StrC.holds hB.out nL).at hgk;obtain ⟨r0,_⟩:=hc;simp only [Nat.mul_one,Nat.add_zero] at r0;have HX:=iH hgk;have HC0:=iH r0;have hbl:w.heap.size<wr.heap.size:=block_lt_of_cell hF.out.1;clear hgk r0;go_upto_region 4 with fail;refine wp_region_held_drew (S:=yZ w.heap.size x a1 c1 a2 c2 a3 c3 b (o+k) g) (by kernel_rfl) ⟨hF.out.drew,by simpa using HC0.out⟩ (fun hS=>?_);refine x8 0 18 (.agg (ffA x a1 c1 a2 c2 a3 c3)) rfl hS ?_;simp only [pX];refine x8 1 19 (.slice (some ⟨b,o,none⟩) gone.length gc) rfl hS ?_;simp only [pX];refine x8 2 20 (.int .i64 (k:Int)) rfl hS ?_;simp only [pX];refine x8 3 21 (.pointer (some ⟨b,o+k,none⟩)) rfl hS ?_;simp only [pX];refine x8 4 22 (.string g) rfl hS ?_;simp only [pX];refine rd1 5 ⟨some 23,_,_,_,_,none⟩ rfl (fun K hK=>?_);go_simp;refine (Jb x a1 c1 a2 c2 a3 c3 lo g _ (N3.out.below CpyC.holds hB.out.drew nL) (by omega)).mono ?_;rintro e w5 ⟨rfl,hb5⟩;have hd5:Below wr.heap.size wr w5:=(Below.refl _ wr).drew.trans hb5;have HB5:=qTH hB hd5;have HF5:Hid (FltIn w.heap.size x a1 c1 a2 c2 a3 c3 w5):=hF.out.below hd5 hbl;have r0:w5.cell? ⟨b,o+k,none⟩=some (.string g):=(hd5.cell (p:=⟨b,o+k,none⟩) (block_lt_of_cell HC0)).trans HC0;refine hK.out _ _ ⟨HF5,r0⟩ (fun hS=>?_);clear hK K hb5 hd5;refine x8 6 6 (.int .i64 (Eo x.copies g)) rfl hS ?_;simp only [pX];refine td ?_;clear hS;obtain ⟨f0,f1,f2,f3⟩:=HF5.out;generalize hI:Eo x.copies g=I at *;by_cases hneg:I<0
   ·have HN:Hid (¬ May x gone):=by
     intro h;have:=(h.1.1 k g hlt HX).1;omega
    clear hI;go_wp2_with fail
    go_region
    go_wp2_with fail;go_ret;exact ⟨⟨false,rfl,⟨(fun h=>by cases h),(fun h=>absurd h HN)⟩⟩,by have:=HB5.out;go_grown⟩
   ·obtain ⟨n,y,hn,hy⟩:=fB (cs:=x.copies) (g:=g) (by rw [hI];omega)
    have hIn:I=(n:Int):=hI.symm.trans hn;subst hIn;have HI:=iH hI;have HY:=iH hy;have hnl:n<x.copies.length:=Ac hy;obtain ⟨b3,o3,rfl,_,_,hc⟩:=(N3.out.below CpyC.holds HB5 nL).at hy;obtain ⟨a7,c7,q0,q1,q2,q3,q4,q5,q6,q7,q8,q9,q10,q11,z0,z1,z6,z9,z10,z11,z7⟩:=hc;clear hn hI hy q0 q1 q2 q3 q4 q5 q6 q7 q8 q9 q10 z0 z1 z6 z9 z10 z11 z7;by_cases hat:y.at_=⟨#[]⟩
    ·have HN:Hid (¬ May x gone):=by
      intro h;obtain ⟨_,c,h1,h2⟩:=h.1.1 k g hlt HX;rw [HI.out,Int.toNat_natCast,HY.out] at h1;cases h1
      exact h2 hat
     have hte:=Bl hat;have hte2:y.at_.toList.isEmpty=true:=by rw [hte];rfl
     clear hat;go_wp2_with fail;refine wp_region_held_drew (S:=Qo w.heap.size x a1 c1 a2 c2 (some ⟨b3,o3,none⟩) c3 b (o+k) g b3 (o3+n*12+11) y.at_ b (o+k) g) (by kernel_rfl) ⟨HF5.out.drew,by simpa using r0,by simpa using q11,by simpa using r0⟩ (fun hS=>?_);refine x0 0 24 (.int .i64 (n:Int)) rfl hS ?_;simp only [pX];refine x0 1 25 (.bool false) rfl hS ?_;simp only [pX];refine x0 2 26 (.bool false) rfl hS ?_;simp only [pX];refine x0 3 27 (.pointer (some ⟨w.heap.size,3,none⟩)) rfl hS ?_;simp only [pX];refine x0 4 28 (.slice (some ⟨b3,o3,none⟩) x.copies.length c3) rfl hS ?_;simp only [pX];refine x0 5 29 (.int .i64 (n:Int)) rfl hS ?_;simp only [pX];refine x0 6 30 (.pointer (some ⟨b3,o3+n*12,none⟩)) rfl hS ?_;simp only [pX];refine x0 7 31 (.pointer (some ⟨b3,o3+n*12+11,none⟩)) rfl hS ?_;simp only [pX];refine x0 8 32 (.string y.at_) rfl hS ?_;simp only [pX];refine x0 9 33 (.bool true) rfl hS ?_;simp only [pX];refine x0 10 34 (.bool true) rfl hS ?_;simp only [pX];refine x0 11 35 (.bool true) rfl hS ?_;simp only [pX];refine ts 12 36 rfl hS ?_;simp only [pX];refine ts 13 37 rfl hS ?_;simp only [pX];refine ts 14 38 rfl hS ?_;simp only [pX];refine ts 15 39 rfl hS ?_;simp only [pX];refine ts 16 40 rfl hS ?_;simp only [pX];refine ts 17 41 rfl hS ?_;simp only [pX];refine ts 18 42 rfl hS ?_;simp only [pX];refine ts 19 43 rfl hS ?_;simp only [pX];refine ts 20 44 rfl hS ?_;simp only [pX];refine ts 21 45 rfl hS ?_;simp only [pX];refine ts 22 46 rfl hS ?_;simp only [pX];refine ts 23 47 rfl hS ?_;simp only [pX];refine ts 24 48 rfl hS ?_;simp only [pX];refine ts 25 49 rfl hS ?_;simp only [pX];refine x0 26 50 (.bool true) rfl hS ?_;simp only [pX];refine td ?_;clear hS;go_wp2_with fail;go_ret;exact ⟨⟨false,rfl,⟨(fun h=>by cases h),(fun h=>absurd h HN)⟩⟩,by have:=HB5.out;go_grown⟩
    ·have hte:=Az hat
     have hte2:y.at_.toList.isEmpty=false:=by
      try unfold ffA
      cases h:y.at_.toList with
      | nil=>exact absurd h hte
      | cons a l=>rfl
     have HK:Hid (0≤Eo x.copies g∧∃ c,x.copies[(Eo x.copies g).toNat]?=some c∧¬ c.at_=⟨#[]⟩):=⟨by rw [HI.out];omega,y,by rw [HI.out,Int.toNat_natCast];exact HY.out,hat⟩;clear hat
     cases k with
     | zero =>
      have r0':w5.cell? ⟨b,o,none⟩=some (.string g):=by simpa using r0
      go_wp2_with fail;refine wp_region_held_drew (S:=Qo w.heap.size x a1 c1 a2 c2 (some ⟨b3,o3,none⟩) c3 b (o) g b3 (o3+n*12+11) y.at_ b (o) g) (by kernel_rfl) ⟨HF5.out.drew,by simpa using r0',by simpa using q11,by simpa using r0'⟩ (fun hS=>?_);refine x0 0 24 (.int .i64 (n:Int)) rfl hS ?_;simp only [pX];refine x0 1 25 (.bool false) rfl hS ?_;simp only [pX];refine x0 2 26 (.bool false) rfl hS ?_;simp only [pX];refine x0 3 27 (.pointer (some ⟨w.heap.size,3,none⟩)) rfl hS ?_;simp only [pX];refine x0 4 28 (.slice (some ⟨b3,o3,none⟩) x.copies.length c3) rfl hS ?_;simp only [pX];refine x0 5 29 (.int .i64 (n:Int)) rfl hS ?_;simp only [pX];refine x0 6 30 (.pointer (some ⟨b3,o3+n*12,none⟩)) rfl hS ?_;simp only [pX];refine x0 7 31 (.pointer (some ⟨b3,o3+n*12+11,none⟩)) rfl hS ?_;simp only [pX];refine x0 8 32 (.string y.at_) rfl hS ?_;simp only [pX];refine x0 9 33 (.bool false) rfl hS ?_;simp only [pX];refine x0 10 34 (.bool false) rfl hS ?_;simp only [pX];refine x0 11 35 (.bool false) rfl hS ?_;simp only [pX];refine x0 12 36 (.int .i64 ((0:Nat):Int)) rfl hS ?_;simp only [pX];refine x0 13 37 (.bool false) rfl hS ?_;simp only [pX];refine x0 14 38 (.bool false) rfl hS ?_;simp only [pX];refine ts 15 39 rfl hS ?_;simp only [pX];refine ts 16 40 rfl hS ?_;simp only [pX];refine ts 17 41 rfl hS ?_;simp only [pX];refine ts 18 42 rfl hS ?_;simp only [pX];refine ts 19 43 rfl hS ?_;simp only [pX];refine ts 20 44 rfl hS ?_;simp only [pX];refine ts 21 45 rfl hS ?_;simp only [pX];refine ts 22 46 rfl hS ?_;simp only [pX];refine ts 23 47 rfl hS ?_;simp only [pX];refine ts 24 48 rfl hS ?_;simp only [pX];refine x0 25 49 (.bool false) rfl hS ?_;simp only [pX];refine x0 26 50 (.bool false) rfl hS ?_;simp only [pX];refine td ?_;clear hS;go_wp2_with fail;go_roundw
      case rel=>exact ⟨0+1,by omega,by go_num,HF5.out.drew,hA.out.step HX HK (fun m s e _=>by omega),HB5.out.drew⟩
      case measure=>simp [intOf];omega
     | succ m =>
      obtain ⟨t,ht⟩:∃ t,gone[m]?=some t:=⟨gone[m],gE (by omega)⟩;have r1:w5.cell? ⟨b,o+m,none⟩=some (.string t):=by
       obtain ⟨b4,o4,e,_,_,hc4⟩:=(HG.out.below StrC.holds HB5 nL).at ht;cases e
       have:=hc4.1;simpa only [Nat.mul_one,Nat.add_zero] using this
      have HT:=iH ht;clear ht
      cases hbl2:Op.bytesLess t.toList g.toList with
      | false =>
       have HN:Hid (¬ May x gone):=by
        intro h;have:=h.1.2 m t g hlt HT HX;rw [hbl2] at this;cases this
       go_wp2_with fail;refine wp_region_held_drew (S:=Qo w.heap.size x a1 c1 a2 c2 (some ⟨b3,o3,none⟩) c3 b (o+(m+1)) g b3 (o3+n*12+11) y.at_ b (o+m) t) (by kernel_rfl) ⟨HF5.out.drew,by simpa using r0,by simpa using q11,by simpa using r1⟩ (fun hS=>?_);refine x0 0 24 (.int .i64 (n:Int)) rfl hS ?_;simp only [pX];refine x0 1 25 (.bool false) rfl hS ?_;simp only [pX];refine x0 2 26 (.bool false) rfl hS ?_;simp only [pX];refine x0 3 27 (.pointer (some ⟨w.heap.size,3,none⟩)) rfl hS ?_;simp only [pX];refine x0 4 28 (.slice (some ⟨b3,o3,none⟩) x.copies.length c3) rfl hS ?_;simp only [pX];refine x0 5 29 (.int .i64 (n:Int)) rfl hS ?_;simp only [pX];refine x0 6 30 (.pointer (some ⟨b3,o3+n*12,none⟩)) rfl hS ?_;simp only [pX];refine x0 7 31 (.pointer (some ⟨b3,o3+n*12+11,none⟩)) rfl hS ?_;simp only [pX];refine x0 8 32 (.string y.at_) rfl hS ?_;simp only [pX];refine x0 9 33 (.bool false) rfl hS ?_;simp only [pX];refine x0 10 34 (.bool false) rfl hS ?_;simp only [pX];refine x0 11 35 (.bool false) rfl hS ?_;simp only [pX];refine x0 12 36 (.int .i64 ((m+1:Nat):Int)) rfl hS ?_;simp only [pX];refine x0 13 37 (.bool true) rfl hS ?_;simp only [pX];refine x0 14 38 (.bool true) rfl hS ?_;simp only [pX];refine x0 15 39 (.slice (some ⟨b,o,none⟩) gone.length gc) rfl hS ?_;simp only [pX];refine x0 16 40 (.int .i64 ((m+1:Nat):Int)) rfl hS ?_;simp only [pX];refine ty 17 ⟨some 41,_,_,_,_,some (14,true)⟩ (.int .i64 (m:Int)) rfl (by rfl) ?_ hS ?_
       ·intro wy hy
        obtain ⟨⟨y0,y1,y2,y3⟩,yr,yc,yv⟩:=hy;go_simp;rw [IntKind.wrap_i64];omega
       simp only [pX];refine x10 18 42 (.pointer (some ⟨b,o+m,none⟩)) rfl hS ?_;simp only [pX];refine x0 19 43 (.string t) rfl hS ?_;simp only [pX];refine x0 20 44 (.slice (some ⟨b,o,none⟩) gone.length gc) rfl hS ?_;simp only [pX];refine x0 21 45 (.int .i64 ((m+1:Nat):Int)) rfl hS ?_;simp only [pX];refine x10 22 46 (.pointer (some ⟨b,o+(m+1),none⟩)) rfl hS ?_;simp only [pX];refine x0 23 47 (.string g) rfl hS ?_;simp only [pX];refine x0 24 48 (.bool true) rfl hS ?_;simp only [pX];refine x0 25 49 (.bool true) rfl hS ?_;simp only [pX];refine x0 26 50 (.bool true) rfl hS ?_;simp only [pX];refine td ?_;clear hS;go_wp2_with fail;go_ret;exact ⟨⟨false,rfl,⟨(fun h=>by cases h),(fun h=>absurd h HN)⟩⟩,by have:=HB5.out;go_grown⟩
      | true =>
       have HS:Hid (∀ (m':Nat) (s:BA),m+1=m'+1→gone[m']?=some s→Op.bytesLess s.toList g.toList=true):=by
        intro m' s e hs;have:m'=m:=by omega
        subst this;rw [HT.out] at hs;cases hs
        exact hbl2
       go_wp2_with fail;refine wp_region_held_drew (S:=Qo w.heap.size x a1 c1 a2 c2 (some ⟨b3,o3,none⟩) c3 b (o+(m+1)) g b3 (o3+n*12+11) y.at_ b (o+m) t) (by kernel_rfl) ⟨HF5.out.drew,by simpa using r0,by simpa using q11,by simpa using r1⟩ (fun hS=>?_);refine x0 0 24 (.int .i64 (n:Int)) rfl hS ?_;simp only [pX];refine x0 1 25 (.bool false) rfl hS ?_;simp only [pX];refine x0 2 26 (.bool false) rfl hS ?_;simp only [pX];refine x0 3 27 (.pointer (some ⟨w.heap.size,3,none⟩)) rfl hS ?_;simp only [pX];refine x0 4 28 (.slice (some ⟨b3,o3,none⟩) x.copies.length c3) rfl hS ?_;simp only [pX];refine x0 5 29 (.int .i64 (n:Int)) rfl hS ?_;simp only [pX];refine x0 6 30 (.pointer (some ⟨b3,o3+n*12,none⟩)) rfl hS ?_;simp only [pX];refine x0 7 31 (.pointer (some ⟨b3,o3+n*12+11,none⟩)) rfl hS ?_;simp only [pX];refine x0 8 32 (.string y.at_) rfl hS ?_;simp only [pX];refine x0 9 33 (.bool false) rfl hS ?_;simp only [pX];refine x0 10 34 (.bool false) rfl hS ?_;simp only [pX];refine x0 11 35 (.bool false) rfl hS ?_;simp only [pX];refine x0 12 36 (.int .i64 ((m+1:Nat):Int)) rfl hS ?_;simp only [pX];refine x0 13 37 (.bool true) rfl hS ?_;simp only [pX];refine x0 14 38 (.bool true) rfl hS ?_;simp only [pX];refine x0 15 39 (.slice (some ⟨b,o,none⟩) gone.length gc) rfl hS ?_;simp only [pX];refine x0 16 40 (.int .i64 ((m+1:Nat):Int)) rfl hS ?_;simp only [pX];refine ty 17 ⟨some 41,_,_,_,_,some (14,true)⟩ (.int .i64 (m:Int)) rfl (by rfl) ?_ hS ?_
       ·intro wy hy
        obtain ⟨⟨y0,y1,y2,y3⟩,yr,yc,yv⟩:=hy;go_simp;rw [IntKind.wrap_i64];omega
       simp only [pX];refine x10 18 42 (.pointer (some ⟨b,o+m,none⟩)) rfl hS ?_;simp only [pX];refine x0 19 43 (.string t) rfl hS ?_;simp only [pX];refine x0 20 44 (.slice (some ⟨b,o,none⟩) gone.length gc) rfl hS ?_;simp only [pX];refine x0 21 45 (.int .i64 ((m+1:Nat):Int)) rfl hS ?_;simp only [pX];refine x10 22 46 (.pointer (some ⟨b,o+(m+1),none⟩)) rfl hS ?_;simp only [pX];refine x0 23 47 (.string g) rfl hS ?_;simp only [pX];refine x0 24 48 (.bool false) rfl hS ?_;simp only [pX];refine x0 25 49 (.bool false) rfl hS ?_;simp only [pX];refine x0 26 50 (.bool false) rfl hS ?_;simp only [pX];refine td ?_;clear hS;go_wp2_with fail;go_roundw
       case rel=>exact ⟨m+1+1,by omega,by go_num,HF5.out.drew,hA.out.step HX HK HS,HB5.out.drew⟩
       case measure=>simp [intOf];omega
  ·have hke:k=gone.length:=by omega
   subst hke;have HA:=iH hA.out;go_wp2_with fail;go_loopw [7] (fun i wr=>∃ (s:Nat),s≤x.services.length∧i=.int .i64 s∧Hid (FltIn w.heap.size x a1 c1 a2 c2 a3 c3 wr)∧Hid (MayC x gone s)∧Hid (Below w.heap.size w wr)) (fun i _=>x.services.length - (intOf i).toNat)
   case atStart=>exact ⟨0,zL,rfl,hF,fun s y h=>absurd h (Nat.not_lt_zero _),hB⟩
   case round =>
    clear hF hB hA;obtain ⟨s,hs,rfl,hF,hC,hB⟩:=hrel;obtain ⟨f0,f1,f2,f3⟩:=hF.out;by_cases hlt2:s<x.services.length
    ·obtain ⟨y,hy⟩:=gXe hlt2
     have HY:=iH hy;obtain ⟨b2,o2,rfl,_,_,hc⟩:=(N2.out.below SvcC.holds hB.out nL).at hy;obtain ⟨q0,q1,_⟩:=hc;simp only [Nat.add_zero] at q0;have HV:=iH (HSP s y hy);clear hy;go_wp2_with fail;go_loopw [8,10] (fun l i wr=>∃ (k:Nat) (M:Int),k≤x.copies.length∧i=.int .i64 k∧l=.int .i64 M∧-60≤M∧M≤60∧Hid (M=y.spare - (Ca (Mf x y.name) k:Nat))∧Hid (FltIn w.heap.size x a1 c1 (some ⟨b2,o2,none⟩) c2 a3 c3 wr)∧Hid (Below w.heap.size w wr)) (fun _ i _=>x.copies.length - (intOf i).toNat)
     case atStart =>
      have h1:=HV.out;exact ⟨0,y.spare,zL,rfl,rfl,by omega,by omega,by show _=_;simp [Ca],hF,hB⟩
     case round =>
      clear hF hB f0 f1 f2 f3 q0 q1;obtain ⟨k,M,hk,rfl,rfl,hM0,hM1,hM,hF,hB⟩:=hrel;obtain ⟨f0,f1,f2,f3⟩:=hF.out;by_cases hlt3:k<x.copies.length
      ·obtain ⟨c,hc⟩:=gXe hlt3
       have HC:=iH hc;have q0:wr.cell? ⟨b2,o2+s*2,none⟩=some (.string y.name):=by
        obtain ⟨b4,o4,e,_,_,hc4⟩:=(N2.out.below SvcC.holds hB.out nL).at HY;cases e
        have:=hc4.1;simpa only [Nat.add_zero] using this
       obtain ⟨b3,o3,rfl,_,_,hcc⟩:=(N3.out.below CpyC.holds hB.out nL).at hc;obtain ⟨a7,c7,_,p1,_,_,_,_,_,_,_,_,_,p11,_,_,_,_,_,_,_⟩:=hcc;clear hc;by_cases hsv:c.service=y.name
       ·have hsb:=Br hsv
        by_cases hat:c.at_=⟨#[]⟩
        ·have HW:Hid (Mf x y.name k=true):=by show _=_;unfold Mf;rw [HC.out];simp [hsv,hat]
         have hte:=Bl hat;have hte2:c.at_.toList.isEmpty=true:=by rw [hte];rfl
         have HBD:Hid (-60≤M - 1):=by
          have h1:=HV.out;have h2:=Kr (Mf x y.name) (k+1);have h3:=hM.out;rw [Hb HW.out] at h2;show _≤_
          omega
         clear hsv hat;go_wp2_with fail
         go_region
         go_wp2_with fail;go_roundw
         case rel=>exact ⟨k+1,M - 1,by omega,by go_num,rfl,HBD,by omega,by show _=_;rw [Hb HW.out,hM.out];omega,hF.out.drew,hB.out.drew⟩
         case measure=>simp [intOf];omega
        ·have HW:Hid (Mf x y.name k=false):=by show _=_;unfold Mf;rw [HC.out];simp [hat]
         have hte:=Az hat;have hte2:c.at_.toList.isEmpty=false:=by
          cases h:c.at_.toList with
          | nil=>exact absurd h hte
          | cons a l=>rfl
         clear hsv hat;go_wp2_with fail
         go_region
         go_wp2_with fail;go_roundw
         case rel=>exact ⟨k+1,M,by omega,by go_num,rfl,by omega,by omega,by show _=_;rw [Iy HW.out,hM.out],hF.out.drew,hB.out.drew⟩
         case measure=>simp [intOf];omega
       ·have hsb:=Bz hsv
        have HW:Hid (Mf x y.name k=false):=by show _=_;unfold Mf;rw [HC.out];simp [hsv]
        clear hsv;go_wp2_with fail
        go_region
        go_wp2_with fail;go_roundw
        case rel=>exact ⟨k+1,M,by omega,by go_num,rfl,by omega,by omega,by show _=_;rw [Iy HW.out,hM.out],hF.out.drew,hB.out.drew⟩
        case measure=>simp [intOf];omega
      ·have hke:k=x.copies.length:=by omega
       subst hke;go_wp2_with fail;go_loopw [9,11] (fun l i wr=>∃ (k:Nat) (G:Int),k≤gone.length∧i=.int .i64 k∧l=.int .i64 G∧0≤G∧G≤1048576∧Hid (G=(Ca (goS x gone y.name) k:Nat))∧Hid (FltIn w.heap.size x a1 c1 (some ⟨b2,o2,none⟩) c2 a3 c3 wr)∧Hid (Below w.heap.size w wr)) (fun _ i _=>gone.length - (intOf i).toNat)
       case atStart=>exact ⟨0,0,zL,rfl,rfl,by omega,by omega,rfl,hF,hB⟩
       case round =>
        clear hF hB f0 f1 f2 f3;obtain ⟨k,G,hk,rfl,rfl,hG0,hG1,hG,hF,hB⟩:=hrel;by_cases hlt4:k<gone.length
        ·obtain ⟨g,hgk⟩:=gXe hlt4
         have HX:=iH hgk;obtain ⟨n,c0,hn,hcn0⟩:=fB (cs:=x.copies) (g:=g) (HA.out.1 k g hlt4 hgk).1;obtain ⟨c,hcn⟩:∃ c,x.copies[n]?=some c:=⟨c0,hcn0⟩;have HN:=iH hn;have HC:=iH hcn;have hnl:n<x.copies.length:=Ac hcn;have hbl:w.heap.size<wr.heap.size:=block_lt_of_cell hF.out.1;have HW:Hid (wr.cell? ⟨b2,o2+s*2,none⟩=some (.string y.name)):=by
          obtain ⟨b4,o4,e,_,_,hc4⟩:=(N2.out.below SvcC.holds hB.out nL).at HY;cases e
          have:=hc4.1;simp only [Nat.add_zero] at this;exact this
         obtain ⟨b,o,rfl,_,_,hcg⟩:=(HG.out.below StrC.holds hB.out nL).at hgk;have HR:Hid (wr.cell? ⟨b,o+k,none⟩=some (.string g)):=by
          have:=hcg.1;simp only [Nat.mul_one,Nat.add_zero] at this;exact this
         obtain ⟨b3,o3,rfl,_,_,hcc⟩:=(N3.out.below CpyC.holds hB.out nL).at hcn;obtain ⟨a7,c7,_,p1,_,_,_,_,_,_,_,_,_,p11,_,_,_,_,_,_,_⟩:=hcc;have HQ:=iH p1;obtain ⟨bb,hbb⟩:∃ bb,(c.service.toList == y.name.toList)=bb:=⟨_,rfl⟩;have HT:Hid (goS x gone y.name k=bb):=by
          show _=_
          unfold goS;rw [HX.out];simp only [HN.out,Int.toNat_natCast,HC.out];by_cases e:c.service=y.name
          ·rw [Br e] at hbb
           rw [← hbb];simp [e]
          ·rw [Bz e] at hbb
           rw [← hbb];simp [e]
         clear hgk hn hcn hcn0 hcg p1 p11;go_upto_region 20 with fail;refine wp_region_held_drew (S:=Qo w.heap.size x a1 c1 (some ⟨b2,o2,none⟩) c2 (some ⟨b3,o3,none⟩) c3 b (o+k) g b3 (o3+n*12+1) c.service b2 (o2+s*2) y.name) (by kernel_rfl) ⟨hF.out.drew,by simpa using HR.out,by simpa using HQ.out,by simpa using HW.out⟩ (fun hS=>?_);refine x0 0 101 (.pointer (some ⟨w.heap.size,3,none⟩)) rfl hS ?_;simp only [pX];refine x0 1 102 (.slice (some ⟨b3,o3,none⟩) x.copies.length c3) rfl hS ?_;simp only [pX];refine x0 2 103 (.agg (ffA x a1 c1 (some ⟨b2,o2,none⟩) c2 (some ⟨b3,o3,none⟩) c3)) rfl hS ?_;simp only [pX];refine x0 3 104 (.slice (some ⟨b,o,none⟩) gone.length gc) rfl hS ?_;simp only [pX];refine x0 4 105 (.int .i64 (k:Int)) rfl hS ?_;simp only [pX];refine x0 5 106 (.pointer (some ⟨b,o+k,none⟩)) rfl hS ?_;simp only [pX];refine x0 6 107 (.string g) rfl hS ?_;simp only [pX];refine x0 11 112 (.pointer (some ⟨w.heap.size,2,none⟩)) rfl hS ?_;simp only [pX];refine x0 12 113 (.slice (some ⟨b2,o2,none⟩) x.services.length c2) rfl hS ?_;simp only [pX];refine x0 13 114 (.int .i64 (s:Int)) rfl hS ?_;simp only [pX];refine x0 14 115 (.pointer (some ⟨b2,o2+s*2,none⟩)) rfl hS ?_;simp only [pX];refine x0 15 116 (.pointer (some ⟨b2,o2+s*2,none⟩)) rfl hS ?_;simp only [pX];refine x0 16 117 (.string y.name) rfl hS ?_;simp only [pX];refine rd1 7 ⟨some 108,_,_,_,_,none⟩ rfl (fun K hK=>?_);go_simp;refine (Jb x a1 c1 (some ⟨b2,o2,none⟩) c2 (some ⟨b3,o3,none⟩) c3 lo g _ (N3.out.below CpyC.holds hB.out.drew nL) (by omega)).mono ?_;rintro e w5 ⟨rfl,hb5⟩;rw [HN.out];have hd5:Below wr.heap.size wr w5:=(Below.refl _ wr).drew.trans hb5;have HB5:=qTH hB hd5;have HF5:Hid (FltIn w.heap.size x a1 c1 (some ⟨b2,o2,none⟩) c2 (some ⟨b3,o3,none⟩) c3 w5):=hF.out.below hd5 hbl;refine hK.out _ _ ⟨HF5,(hd5.cell (p:=⟨b,o+k,none⟩) (block_lt_of_cell HR)).trans HR,(hd5.cell (p:=⟨b3,o3+n*12+1,none⟩) (block_lt_of_cell HQ)).trans HQ,(hd5.cell (p:=⟨b2,o2+s*2,none⟩) (block_lt_of_cell HW)).trans HW⟩ (fun hS=>?_);clear hK K hb5 hd5;refine x0 8 109 (.pointer (some ⟨b3,o3+n*12,none⟩)) rfl hS ?_;simp only [pX];refine x0 9 110 (.pointer (some ⟨b3,o3+n*12+1,none⟩)) rfl hS ?_;simp only [pX];refine x0 10 111 (.string c.service) rfl hS ?_;simp only [pX];refine x0 17 118 (.bool bb) rfl hS ?_;simp only [pX];refine td ?_;clear hS
         cases bb with
         | true =>
          go_wp2_with fail;go_roundw
          case rel=>exact ⟨k+1,G+1,by omega,by go_num,rfl,by omega,by have h1:=Kr (goS x gone y.name) k;have h2:=hG.out;omega,by show _=_;rw [Hb HT.out,hG.out];omega,HF5,HB5⟩
          case measure=>simp [intOf];omega
         | false =>
          go_wp2_with fail;go_roundw
          case rel=>exact ⟨k+1,G,by omega,by go_num,rfl,by omega,by omega,by show _=_;rw [Iy HT.out,hG.out],HF5,HB5⟩
          case measure=>simp [intOf];omega
        ·have hke:k=gone.length:=by omega
         subst hke;by_cases hbad:0<G∧M<G
         ·have HN:Hid (¬ May x gone):=by
           intro h;have h1:=h.2 s y hlt2 HY;have h2:=hG.out;have h3:=hM.out;have h4:=h1 (by omega);omega
          obtain ⟨hb1,hb2⟩:=hbad;go_wp2_with fail;go_ret;exact ⟨⟨false,rfl,⟨(fun h=>by cases h),(fun h=>absurd h HN)⟩⟩,hB.out⟩
         ·have HS:Hid (MayC x gone (s+1)):=by
           refine hC.out.step HY (fun h0=>?_);have h2:=hG.out;have h3:=hM.out;omega
          by_cases hg0:0<G
          ·have hgm:G≤M:=by omega
           clear hbad;go_wp2_with fail;go_roundw
           case rel=>exact ⟨s+1,by omega,by go_num,hF,HS,hB⟩
           case measure=>simp [intOf];omega
          ·clear hbad
           go_wp2_with fail;go_roundw
           case rel=>exact ⟨s+1,by omega,by go_num,hF,HS,hB⟩
           case measure=>simp [intOf];omega
    ·have hse:s=x.services.length:=by omega
     subst hse;go_wp2_with fail;go_ret;exact ⟨⟨true,rfl,⟨fun _=>⟨HA,hC.out⟩,fun _=>rfl⟩⟩,hB.out⟩
end Go.Proofs.YtpidfnfilnkhkaaGreat
namespace Go.Proofs.YtpidfnfilnkhkaaGreat
open Go.RowKit
theorem dX {P:Program} {ops:Array Oper} {Q:Exit→Act→World→Prop} {md:Region.Mode} {S:World→Prop} {s i:Nat} {oi:Oper} {v:Value} {n:Nat} {l:Array Bool} {a:Act} {w:World} (hi:ops[i]?=some oi) (hr:Region.ready md ops l=[i]) (hy:YieldsIf P ops S oi v a) (hS:S w)
  (h:wpAnyU P md ops Q s S n (l.setIfInBounds i true) (a.put oi.dst v) w):wpAnyU P md ops Q s S (n+1) l a w :=
 ⟨fun h0=>(by rw [hr] at h0;cases h0),(by rw [hr];intro j hj;rw [List.mem_singleton.1 hj];exact hy.wpOp hi hS ⟨fun _=>hS,h⟩)⟩
theorem iX {l l':List Cpy} (h:l.map (·.name)=l'.map (·.name)) (s:BA):Eo l s=Eo l' s:=by
 have e:∀ l:List Cpy,l.findIdx? (fun b=>decide (b.name=s))=(l.map (·.name)).findIdx? (fun n=>decide (n=s)):=fun l=>by
  rw [List.findIdx?_map];rfl
 unfold Eo;rw [e l,e l',h]
theorem rQ {α:Type} {C:Ev α} {m lo:Nat} {w:World} {a:OA} {l:List α} {b o:Nat} (h:SliceC C m lo w a l) (e:a=some ⟨b,o,none⟩) (hn:l≠[]):lo≤b:=by
 rcases h.2 with e2 | ⟨b',o',e',⟨hlo,_⟩,_⟩
 ·exact absurd e2 hn
 ·rw [e] at e'
  cases e'
  exact hlo
theorem CG {x:Flt} {s:Stp} {ci:Nat} {y:Cpy} (h:SzC x.copies) (hy:x.copies[ci]?=some y) (hb:s.berth.size≤maxLen):SzC (doF x s ci y).copies:=by
 intro c hc;have z:=h y (List.mem_of_getElem? hy);rcases List.mem_or_eq_of_mem_set hc with h9 | h9
 ·exact bK h c h9
 ·rw [h9]
  exact ⟨z.1,z.2.1,z.2.2.1,z.2.2.2.1,z.2.2.2.2.1,hb⟩
def woT (x:Flt) (gone:List BA) (k:Nat):Flt:={ x with copies:=atP ((Ju x gone).take k) ⟨#[]⟩ x.copies }
def WoR (x:Flt) (pl:List Nat) (w:World) (e:Ending) (w':World):Prop:=∃ (e1:OA) (q1 g2 q2 G q3 bs:Nat),e=.returned (.agg (ffA x e1 q1 (some ⟨g2,0,none⟩) q2 (some ⟨G,0,none⟩) q3))∧w.heap.size≤bs∧(∃ H wB,w.heap.size≤H∧SliceC BrtC 6 H wB e1 x.berths∧wB.heap.size≤bs∧Keeps H wB w')∧SliceC SvcC 2 w.heap.size w' (some ⟨g2,0,none⟩) x.services∧g2<bs∧bs≤G∧Ro bs w' (.slice (some ⟨G,0,none⟩) x.copies.length q3) (atP pl ⟨#[]⟩ x.copies)∧Below w.heap.size w w'
theorem dC (x:Flt) (a1:OA) (c1 b2 o2 c2:Nat) (a3:OA) (c3:Nat) (gone:List BA) (ga:OA) (gc lo:Nat) (w:World) (n1:SliceC BrtC 6 lo w a1 x.berths) (n2:SliceC SvcC 2 lo w (some ⟨b2,o2,none⟩) x.services) (n3:SliceC CpyC 12 lo w a3 x.copies) (hg:SliceC StrC 1 lo w ga gone) (hgl:gone.length≤1048576) (l1:x.berths.length≤1048576) (l2:x.services.length≤1048576) (l3:x.copies.length≤1048576) (hmk:∀ y∈x.berths,y.marks.length≤1048576) (hlk:∀ y∈x.copies,y.likes.length≤1048576) (hne:x.copies≠[]) (hix:∀ (k:Nat) g,gone[k]?=some g→∃ t:Nat,Eo x.copies g=(t:Int)∧t<x.copies.length) :
  Calls Tryz.prog 49 #[.agg (ffA x a1 c1 (some ⟨b2,o2,none⟩) c2 a3 c3),.slice ga gone.length gc] w fun e w'=>WoR x (Ju x gone) w e w':=by
 obtain ⟨w0,hw0,HX,HZ,HB⟩:=alT w (ffA x a1 c1 (some ⟨b2,o2,none⟩) c2 a3 c3) FfA 35 35;have N1:=iH n1;have N2:=iH n2;have N3:=iH n3;have NG:=iH hg;have HIX:=iH hix;have HSZ:=iH (Se n3);clear n1 n2 n3 hg hix;go_enter Tryz.func49,Tryz.ntmps49;go_upto_region 1 with fail;rw [← hw0];clear hw0;have hs0:w.heap.size+1<w0.heap.size:=HZ.out.lt;have HRX:=iH HX.out.rangeA;go_wp2_with (first | (refine qLr Ov HRX ?_));clear HRX HX;refine (gY x a1 c1 b2 o2 c2 a3 c3 lo w0 (N1.out.below BrtC.holds HB nL) (N2.out.below SvcC.holds HB nL) (N3.out.below CpyC.holds HB nL) l2 l1 l3 hmk hlk).mono ?_;rintro e w1 ⟨e1,q1,g2,q2,e3,q3,bs,H,wB,rfl,_,hbr,hH,hHb,hwb,hkp,hsv,hg2,hoc,hb1⟩;obtain ⟨G,rfl⟩:∃ G,e3=some ⟨G,0,none⟩:=by
  obtain ⟨cs,h9,_⟩:=hoc;rcases h9.2 with ⟨e9,_⟩ | ⟨g,cap,cur,e9,_⟩
  ·injection e9 with _ e8
   exact absurd (List.length_eq_zero_iff.1 e8) hne
  ·injection e9 with e7
   exact ⟨g,e7⟩
 have hGl:bs≤G∧G<w1.heap.size:=by
  obtain ⟨cs,h9,_⟩:=hoc;exact h9.lt G rfl
 have hs1:w0.heap.size≤w1.heap.size:=hb1.size;have HZ1:=qBk HZ hb1;have HB1:=iH (HB.out.trans (hb1.mono (by omega)));have hza:=Blk.alloc w1 FfA 35;have HTS:=iH hza.there;obtain ⟨w2,HE2⟩:∃ w2,Hid (w2=(w1.alloc (Obj.cells FfA 35)).setCells w1.heap.size 0 (ffL x e1 q1 (some ⟨g2,0,none⟩) q2 (some ⟨G,0,none⟩) q3)):=⟨_,rfl⟩;have HV2:Hid (Blk w1.heap.size (ffA x e1 q1 (some ⟨g2,0,none⟩) q2 (some ⟨G,0,none⟩) q3) 35 w2):=by
  show Blk _ _ _ _
  rw [HE2.out];exact hza.setAll (ffA x e1 q1 (some ⟨g2,0,none⟩) q2 (some ⟨G,0,none⟩) q3) rfl
 have hb2:Below w1.heap.size w1 w2:=by
  rw [HE2.out];exact Aj nL _ _ _ ((Below.refl _ _).alloc nL _)
 clear hza;have hs2:w1.heap.size<w2.heap.size:=HV2.out.lt;have HZ2:=qBk HZ1 hb2;have HB2:=iH (HB1.out.trans (hb2.mono (by omega)));have HK2:Hid (Keeps H wB w2):=hkp.trans (Keeps.of_below hb2 nL _);have HS2:=iH (hsv.below SvcC.holds hb2 nL);have HO2:Hid (Ro bs w2 (.slice (some ⟨G,0,none⟩) x.copies.length q3) (atP ((Ju x gone).take 0) ⟨#[]⟩ x.copies)):=by
  show Ro _ _ _ _
  rw [List.take_zero,nI];exact hoc.below LikC.holds hb2
 have HBR:=iH hbr;clear hbr hkp hsv hoc hb1 hb2 HZ HB HZ1 HB1;go_upto_region 3 with (first | (refine An rfl 35 _ _ rfl w1.heap.size 0 (ffA x e1 q1 (some ⟨g2,0,none⟩) q2 (some ⟨G,0,none⟩) q3) rfl rfl HTS Bh (by simp [Value.oneCell']) w2 HE2 ?_));clear HTS HE2;go_loopw [6] (fun i wr=>∃ k:Nat,k≤gone.length∧i=.int .i64 k∧w1.heap.size<wr.heap.size∧Hid (Ro bs wr (.slice (some ⟨G,0,none⟩) x.copies.length q3) (atP ((Ju x gone).take k) ⟨#[]⟩ x.copies))∧Hid (Blk w1.heap.size (ffA x e1 q1 (some ⟨g2,0,none⟩) q2 (some ⟨G,0,none⟩) q3) 35 wr)∧Hid (Blk (w.heap.size+1) FfA 35 wr)∧Hid (Keeps H wB wr)∧Hid (SliceC SvcC 2 w0.heap.size wr (some ⟨g2,0,none⟩) x.services)∧Hid (Below w.heap.size w wr)) (fun i _=>gone.length - (intOf i).toNat)
 case atStart=>exact ⟨0,zL,rfl,hs2,HO2,HV2,HZ2,HK2,HS2,HB2⟩
 case round =>
  clear HO2 HV2 HZ2 HK2 HS2 HB2;obtain ⟨k,hk,rfl,hsr,HO,HV,HZ,HK,HS,HB⟩:=hrel;by_cases hlt:k<gone.length
  case neg =>
   have hke:k=gone.length:=by omega
   subst hke;have HRV:=iH HV.out.rangeA;have HTZ:=iH HZ.out.there;obtain ⟨wf,HE⟩:∃ wf,Hid (wf=wr.setCells (w.heap.size+1) 0 (ffL x e1 q1 (some ⟨g2,0,none⟩) q2 (some ⟨G,0,none⟩) q3)):=⟨_,rfl⟩;have HRf:Hid (wf.rangeAt (w.heap.size+1) 0 (ffL x e1 q1 (some ⟨g2,0,none⟩) q2 (some ⟨G,0,none⟩) q3)):=by
    show World.rangeAt _ _ _ _
    rw [HE.out];exact World.rangeAt_setCells_same wr (w.heap.size+1) 0 _ HTZ
   have HF:Hid (WoR x (Ju x gone) w (.returned (.agg (ffA x e1 q1 (some ⟨g2,0,none⟩) q2 (some ⟨G,0,none⟩) q3))) wf):=by
    show WoR _ _ _ _ _
    rw [HE.out];have hg9:=Dn (b:=w.heap.size+1) (ffL x e1 q1 (some ⟨g2,0,none⟩) q2 (some ⟨G,0,none⟩) q3) 0 wr;have ho9:=HO.out;rw [show gone.length=(Ju x gone).length by unfold Ju;rw [List.length_map],List.take_length] at ho9;refine ⟨e1,q1,g2,q2,G,q3,bs,rfl,by omega,⟨H,wB,by omega,HBR,hwb,HK.out.grownD hg9 (fun r e=>.inr (by cases e;omega))⟩,?_,by omega,hGl.1,?_,Aj (by omega) _ _ _ HB⟩
    ·exact SliceC.keep (C:=SvcC) (Bq SvcC.flat HS hg9 (fun b o e hn e2=>by have e3:=Option.some.inj e2;have:=rQ HS e hn;omega)) SvcC.holds (Keeps.refl _ _) (by omega)
    ·exact ho9.kept LikC.flat hg9 (fun r e=>by cases e;omega)
   clear HO HV HZ HK HS HB;go_wp2_with (first | (refine qLr Ov HRV ?_) | (refine An rfl 35 _ _ rfl (w.heap.size+1) 0 (ffA x e1 q1 (some ⟨g2,0,none⟩) q2 (some ⟨G,0,none⟩) q3) rfl rfl HTZ Bh (by simp [Value.oneCell']) wf HE ?_));exact bodyPost_ret (Bp rfl _ _ (w.heap.size+1) (ffL x e1 q1 (some ⟨g2,0,none⟩) q2 (some ⟨G,0,none⟩) q3) _ rfl HRf Tryz.underlying35 rfl Bh) rfl HF
  case pos =>
   obtain ⟨g,hgk⟩:=gXe hlt;obtain ⟨t,ht,htl⟩:=HIX.out k g hgk;have hpk:(Ju x gone)[k]?=some t:=by
    unfold Ju;rw [List.getElem?_map,hgk,Option.map_some,ht];rfl
   obtain ⟨c,hc⟩:∃ c,(atP ((Ju x gone).take k) ⟨#[]⟩ x.copies)[t]?=some c:=⟨(atP ((Ju x gone).take k) ⟨#[]⟩ x.copies)[t]'(by rw [Cf];exact htl),gE _⟩;obtain ⟨gb,go,rfl,_,hgb,hgc⟩:=(NG.out.below StrC.holds HB nL).at hgk;obtain ⟨r0,hgs⟩:=hgc;simp only [Nat.mul_one,Nat.add_zero] at r0;have HR0:=iH r0;clear r0 hgs hgk;have n3r:SliceC CpyC 12 bs wr (some ⟨G,0,none⟩) (woT x gone k).copies:=by
    have h9:=HO.out;rw [show Value.slice (some ⟨G,0,none⟩) x.copies.length q3=.slice (some ⟨G,0,none⟩) (atP ((Ju x gone).take k) ⟨#[]⟩ x.copies).length q3 by rw [Cf]] at h9;exact OwnN.copies h9 (bK HSZ) (by show (atP _ _ _).length≤_;rw [Cf];unfold maxLen;omega)
   have HN3:=iH n3r;clear n3r;go_upto_region 5 with fail;refine Hp (S:=(fun wy=>Blk w1.heap.size (ffA x e1 q1 (some ⟨g2,0,none⟩) q2 (some ⟨G,0,none⟩) q3) 35 wy∧wy.cell? ⟨gb,go+k,none⟩=some (.string g))) 10 (by kernel_rfl) ⟨HV.out.drew,HR0⟩ (fun hS=>?_);replace HO:=iH (HO.out.below LikC.holds (Below.refl _ _).drew);replace HV:=iH HV.out.drew;replace HZ:=iH HZ.out.drew;replace HK:=iH (HK.out.trans (Keeps.of_below (Below.refl wr.heap.size wr).drew nL _));replace HS:=iH (HS.out.below SvcC.holds (Below.refl _ _).drew nL);replace HN3:=iH (HN3.out.below CpyC.holds (Below.refl _ _).drew nL);replace HB:=iH HB.out.drew;replace hsr:w1.heap.size<wr.drew.heap.size:=hsr;replace hgb:gb<wr.drew.heap.size:=hgb;generalize wr.drew=wn at *;refine tv 0 ⟨some 15,_,_,_,_,none⟩ (.pointer (some ⟨w1.heap.size,3,none⟩)) rfl (by rfl) ?_ hS ?_
   ·intro wy hy
    clear hy;go_simp
   simp only [pX];refine tv 1 ⟨some 16,_,_,_,_,none⟩ (.slice (some ⟨G,0,none⟩) x.copies.length q3) rfl (by rfl) ?_ hS ?_
   ·intro wy hy
    have h0:=Blk.cell hy.1 (o:=3) rfl;clear hy;go_simp
   simp only [pX];refine tu 2 ⟨some 17,_,_,_,_,none⟩ (.agg (ffA x e1 q1 (some ⟨g2,0,none⟩) q2 (some ⟨G,0,none⟩) q3)) rfl (yieldsIf_load_mid (by rfl) _ _ rfl w1.heap.size (0) rfl (ffL x e1 q1 (some ⟨g2,0,none⟩) q2 (some ⟨G,0,none⟩) q3) _ (fun _ h=>h.1.rangeA) Tryz.underlying35 rfl Bh) hS ?_;simp only [pX];refine tv 3 ⟨some 18,_,_,_,_,none⟩ (.slice (some ⟨gb,go,none⟩) gone.length gc) rfl (by rfl) ?_ hS ?_
   ·intro wy hy
    clear hy;go_simp
   simp only [pX];refine tv 4 ⟨some 19,_,_,_,_,none⟩ (.int .i64 (k:Int)) rfl (by rfl) ?_ hS ?_
   ·intro wy hy
    clear hy;go_simp
   simp only [pX];refine tv 5 ⟨some 20,_,_,_,_,none⟩ (.pointer (some ⟨gb,go+k,none⟩)) rfl (by rfl) ?_ hS ?_
   ·intro wy hy
    clear hy
    first | (go_simp;done) | (go_simp;omega)
   simp only [pX];refine tv 6 ⟨some 21,_,_,_,_,none⟩ (.string g) rfl (by rfl) ?_ hS ?_
   ·intro wy hy
    have h0:=hy.2;clear hy;go_simp
   simp only [pX];refine ru1 7 ⟨some 22,_,_,_,_,none⟩ rfl (fun KK hKK=>?_);go_simp;have hcl:=Jb (woT x gone k) e1 q1 (some ⟨g2,0,none⟩) q2 (some ⟨G,0,none⟩) q3 bs g wn HN3 (by show (atP _ _ _).length≤_;rw [Cf];exact l3)
   (try unfold ffA at hcl);rw [show (woT x gone k).copies.length=x.copies.length from Cf _ _ _,show Eo (woT x gone k).copies g=(t:Int) from (iX (Np _ _ _) g).trans ht] at hcl
   refine hcl.mono ?_;rintro e w3 ⟨rfl,hb3⟩;have hs3:wn.heap.size≤w3.heap.size:=hb3.size;replace HO:=iH (HO.out.below LikC.holds hb3);replace HZ:=qBk HZ hb3;replace HK:=iH (HK.out.trans (Keeps.of_below hb3 nL _));replace HS:=qSl SvcC.holds HS hb3;replace HB:=iH (HB.out.trans (hb3.mono (by have:=HB.out.size;omega)));replace HV:=qBk HV hb3;refine hKK.out _ _ ⟨HV,(hb3.cell (p:=⟨gb,go+k,none⟩) hgb).trans hS.2⟩ (fun hS=>?_);clear hKK KK hb3 HN3 hcl;refine dX (i:=8) (oi:=⟨some 23,_,_,_,_,none⟩) (v:=.pointer (some ⟨G,t*12,none⟩)) rfl (by kernel_rfl) (Or.inl ⟨by rfl,?_⟩) hS ?_
   ·intro wy hy
    clear hy
    first | (go_simp;done) | (go_simp;omega)
   simp only [pX];refine tv 9 ⟨some 24,_,_,_,_,none⟩ (.pointer (some ⟨G,t*12+11,none⟩)) rfl (by rfl) ?_ hS ?_
   ·intro wy hy
    clear hy;go_simp
   simp only [pX];have ho9:=HO.out;rw [show Value.slice (some ⟨G,0,none⟩) x.copies.length q3=.slice (some ⟨G,0,none⟩) (atP ((Ju x gone).take k) ⟨#[]⟩ x.copies).length q3 by rw [Cf]] at ho9;obtain ⟨kz,fz⟩:=OwnN.atCell ho9 hc;refine Ig (rs:=[10]) (by kernel_rfl) (by simp) (AllReadyU.last (o:=⟨none,_,_,_,_,none⟩) rfl (fun KK hKK=>?_));go_simp;clear kz fz;have HO4:Hid (Ro bs (w3.setCell ⟨G,t*12+11,none⟩ (.string ⟨#[]⟩)) (.slice (some ⟨G,0,none⟩) x.copies.length q3) (atP ((Ju x gone).take (k+1)) ⟨#[]⟩ x.copies)):=by
    have h9:=ho9.setAt hc ⟨#[]⟩;rw [fC hpk hc,Cf] at h9;exact h9
   have hg4:=Dx w3 ⟨G,t*12+11,none⟩ (.string ⟨#[]⟩);have HV4:=iH (HV.out.grown hg4 (fun e=>absurd (Option.some.inj e) (by show ¬ w1.heap.size=G;omega)));have HZ4:=iH (HZ.out.grown hg4 (fun e=>absurd (Option.some.inj e) (by show ¬ w.heap.size+1=G;omega)));have HK4:Hid (Keeps H wB (w3.setCell ⟨G,t*12+11,none⟩ (.string ⟨#[]⟩))):=HK.out.grownD hg4 (fun r e=>.inl (by cases e;show wB.heap.size≤G;omega));have HS4:=iH (Bq SvcC.flat HS hg4 (fun b o e _ e2=>absurd (Option.some.inj e2) (by cases e;show ¬ g2=G;omega)));have HB4:Hid (Below w.heap.size w (w3.setCell ⟨G,t*12+11,none⟩ (.string ⟨#[]⟩))):=HB.out.setCell (show w.heap.size≤(⟨G,t*12+11,none⟩:Addr).block by show w.heap.size≤G;omega) _;have hs4:w3.heap.size≤(w3.setCell ⟨G,t*12+11,none⟩ (.string ⟨#[]⟩)).heap.size:=hg4.size;refine hKK.out _ _ (Ms (by kernel_rfl) ?_ _);clear hKK KK hS ho9 hg4 HO HV HZ HK HS HB;generalize w3.setCell ⟨G,t*12+11,none⟩ (.string ⟨#[]⟩)=w4 at *;go_wp2_with fail;go_roundw
   case rel=>exact ⟨k+1,by omega,by go_num,by omega,HO4,HV4,HZ4,HK4,HS4,HB4⟩
   case measure=>simp [intOf];omega
end Go.Proofs.YtpidfnfilnkhkaaGreat
