import Derived.Test.YtkiloaiffopllaaGreatJ12
import Derived.Lib.Walk
import Derived.Lib.SliceRun
set_option maxHeartbeats 4000000
set_option maxRecDepth 100000
namespace Go.Proofs.YtkiloaiffopllaaGreat
open Go.RowKit
theorem Fi (s:BA) (w:World) (hs:s.size≤1048576) :
  Calls Tryz.prog 67 #[.string s] w (Rt (.string s) w):=by
 go_enter Tryz.func67,Tryz.ntmps67;go_wp2_with fail;refine (Any.stringslite_Clone bO s w (by omega)).mono ?_;rintro e w1 ⟨rfl,hb⟩;go_wp2_with fail;go_ret;exact ⟨rfl,hb⟩
theorem Pj (x:Wnt) (w:World) (z0:x.copy.size≤1048576) (z2:x.hold.size≤1048576) :
  Calls Tryz.prog 69 #[.agg (wwA x)] w (Rt (.agg (wwA x)) w):=by
 have HX0:=Blk.alloc w (wwA x) 86;have HZ:=al2 w (wwA x) 86 WwA 86;have hB3:=bl2 w (wwA x) 86 WwA 86;have HX:=iH (HX0.below ((Below.refl _ _).alloc nL (Obj.cells WwA 86)) HX0.lt);clear HX0;go_enter Tryz.func69,Tryz.ntmps69;go_upto_region 1 with fail;generalize (w.alloc (Obj.cells (wwA x) 86)).alloc (Obj.cells WwA 86)=w3 at *;refine wp_region_held_drew (S:=fun wy=>Blk w.heap.size (wwA x) 86 wy∧Blk (w.heap.size+1) WwA 86 wy) (by kernel_rfl) ⟨HX.out.drew,HZ.out.drew⟩ (fun hS=>?_);refine tz 0 3 (.pointer (some ⟨w.heap.size,0,none⟩)) rfl hS ?_;simp only [pX];refine ty 1 ⟨some 4,_,_,_,_,none⟩ (.string x.copy) rfl (by rfl) ?_ hS ?_
 ·intro wy hy
  have h0:=hy.1.cell (o:=0) (v:=.string x.copy) rfl;clear hy;go_simp
 simp only [pX];refine tz 3 6 (.pointer (some ⟨w.heap.size,2,none⟩)) rfl hS ?_;simp only [pX];refine ty 4 ⟨some 7,_,_,_,_,none⟩ (.string x.hold) rfl (by rfl) ?_ hS ?_
 ·intro wy hy
  have h0:=hy.1.cell (o:=2) (v:=.string x.hold) rfl;clear hy;go_simp
 simp only [pX];refine rd1 2 ⟨some 5,_,_,_,_,none⟩ rfl (fun K hK=>?_);go_simp;refine (Fi x.copy _ z0).mono ?_;rintro e w4 ⟨rfl,hb4⟩;have hB4:=hB3.trans ((((Below.refl w3.heap.size w3).drew).trans hb4).mono hB3.size);refine hK.out _ _ ⟨hS.1.below hb4 hS.1.lt,hS.2.below hb4 hS.2.lt⟩ (fun hS=>?_);clear hK K;clear hb4;refine tz 6 9 (.pointer (some ⟨w.heap.size,0,none⟩)) rfl hS ?_;simp only [pX];refine rd1 5 ⟨some 8,_,_,_,_,none⟩ rfl (fun K hK=>?_);go_simp;refine (Fi x.hold _ z2).mono ?_;rintro e w5 ⟨rfl,hb5⟩;have hB5:=qTr hB4 hb5;refine hK.out _ _ ⟨hS.1.below hb5 hS.1.lt,hS.2.below hb5 hS.2.lt⟩ (fun hS=>?_);clear hK K;clear hb5;have kk:w5.cell? ⟨w.heap.size,0,none⟩=some (.string x.copy):=hS.1.cell rfl;have ff:w5.frozen? ⟨w.heap.size,0,none⟩=false:=hS.1.frozen _;refine rd1 7 ⟨none,_,_,_,_,none⟩ rfl (fun K hK=>?_);go_simp;have hX6:Blk w.heap.size (wwA x) 86 (w5.setCell ⟨w.heap.size,0,none⟩ (.string x.copy)):=hS.1.set 0 _;have hZ6:Blk (w.heap.size+1) WwA 86 (w5.setCell ⟨w.heap.size,0,none⟩ (.string x.copy)):=hS.2.other (by simp) _;have hB6:Below w.heap.size w (w5.setCell ⟨w.heap.size,0,none⟩ (.string x.copy)):=hB5.setCell (p:=⟨w.heap.size,0,none⟩) nL _;refine hK.out _ _ ⟨hX6,hZ6⟩ (fun hS=>?_);clear hK K kk ff hX6 hZ6;generalize w5.setCell ⟨w.heap.size,0,none⟩ (.string x.copy)=w6 at *;refine tz 8 10 (.pointer (some ⟨w.heap.size,2,none⟩)) rfl hS ?_;simp only [pX];have kk:w6.cell? ⟨w.heap.size,2,none⟩=some (.string x.hold):=hS.1.cell rfl;have ff:w6.frozen? ⟨w.heap.size,2,none⟩=false:=hS.1.frozen _;refine rd1 9 ⟨none,_,_,_,_,none⟩ rfl (fun K hK=>?_);go_simp;have hX7:Blk w.heap.size (wwA x) 86 (w6.setCell ⟨w.heap.size,2,none⟩ (.string x.hold)):=hS.1.set 2 _;have hZ7:Blk (w.heap.size+1) WwA 86 (w6.setCell ⟨w.heap.size,2,none⟩ (.string x.hold)):=hS.2.other (by simp) _;have hB7:Below w.heap.size w (w6.setCell ⟨w.heap.size,2,none⟩ (.string x.hold)):=hB6.setCell (p:=⟨w.heap.size,2,none⟩) nL _;refine hK.out _ _ ⟨hX7,hZ7⟩ (fun hS=>?_);clear hK K kk ff hX7 hZ7;generalize w6.setCell ⟨w.heap.size,2,none⟩ (.string x.hold)=w7 at *;have HX7:=iH hS.1;have HZ7:=iH hS.2;refine td ?_;clear hS;obtain ⟨w8,HW8⟩:∃ w8,Hid (w8=w7.setCells (w.heap.size+1) 0 (wwL x)):=⟨_,rfl⟩;have HR8:Hid (w8.rangeAt (w.heap.size+1) 0 (wwL x)):=by
  show World.rangeAt _ _ _ _
  rw [HW8.out];exact World.rangeAt_setCells_same _ _ _ _ HZ7.out.there
 have hB8:Below w.heap.size w w8:=by
  rw [HW8.out];exact Aa (by omega) _ _ _ hB7
 have HTS:=iH HZ7.out.there;clear hB3 hB4 hB5 hB6 hB7 HX HZ;go_wp2_with (first | (refine qLk Gr HX7 ?_) | (refine Ab rfl 86 _ _ rfl (w.heap.size+1) 0 (wwA x) rfl rfl HTS Au (by simp [Value.oneCell']) w8 HW8 ?_));exact bodyPost_ret (Ai rfl _ _ (w.heap.size+1) (wwL x) _ rfl HR8 Tryz.underlying86 rfl Au) rfl ⟨rfl,hB8⟩
theorem Wk (x:Aks) (w:World) (z0:x.hold.size≤1048576) (z2:x.copy.size≤1048576) :
  Calls Tryz.prog 73 #[.agg (aaA x)] w (Rt (.agg (aaA x)) w):=by
 have HX0:=Blk.alloc w (aaA x) 52;have HZ:=al2 w (aaA x) 52 AaA 52;have hB3:=bl2 w (aaA x) 52 AaA 52;have HX:=iH (HX0.below ((Below.refl _ _).alloc nL (Obj.cells AaA 52)) HX0.lt);clear HX0;go_enter Tryz.func73,Tryz.ntmps73;go_upto_region 1 with fail;generalize (w.alloc (Obj.cells (aaA x) 52)).alloc (Obj.cells AaA 52)=w3 at *;refine wp_region_held_drew (S:=fun wy=>Blk w.heap.size (aaA x) 52 wy∧Blk (w.heap.size+1) AaA 52 wy) (by kernel_rfl) ⟨HX.out.drew,HZ.out.drew⟩ (fun hS=>?_);refine tz 0 3 (.pointer (some ⟨w.heap.size,0,none⟩)) rfl hS ?_;simp only [pX];refine ty 1 ⟨some 4,_,_,_,_,none⟩ (.string x.hold) rfl (by rfl) ?_ hS ?_
 ·intro wy hy
  have h0:=hy.1.cell (o:=0) (v:=.string x.hold) rfl;clear hy;go_simp
 simp only [pX];refine tz 3 6 (.pointer (some ⟨w.heap.size,1,none⟩)) rfl hS ?_;simp only [pX];refine ty 4 ⟨some 7,_,_,_,_,none⟩ (.string x.copy) rfl (by rfl) ?_ hS ?_
 ·intro wy hy
  have h0:=hy.1.cell (o:=1) (v:=.string x.copy) rfl;clear hy;go_simp
 simp only [pX];refine rd1 2 ⟨some 5,_,_,_,_,none⟩ rfl (fun K hK=>?_);go_simp;refine (Fi x.hold _ z0).mono ?_;rintro e w4 ⟨rfl,hb4⟩;have hB4:=hB3.trans ((((Below.refl w3.heap.size w3).drew).trans hb4).mono hB3.size);refine hK.out _ _ ⟨hS.1.below hb4 hS.1.lt,hS.2.below hb4 hS.2.lt⟩ (fun hS=>?_);clear hK K;clear hb4;refine tz 6 9 (.pointer (some ⟨w.heap.size,0,none⟩)) rfl hS ?_;simp only [pX];refine rd1 5 ⟨some 8,_,_,_,_,none⟩ rfl (fun K hK=>?_);go_simp;refine (Fi x.copy _ z2).mono ?_;rintro e w5 ⟨rfl,hb5⟩;have hB5:=qTr hB4 hb5;refine hK.out _ _ ⟨hS.1.below hb5 hS.1.lt,hS.2.below hb5 hS.2.lt⟩ (fun hS=>?_);clear hK K;clear hb5;have kk:w5.cell? ⟨w.heap.size,0,none⟩=some (.string x.hold):=hS.1.cell rfl;have ff:w5.frozen? ⟨w.heap.size,0,none⟩=false:=hS.1.frozen _;refine rd1 7 ⟨none,_,_,_,_,none⟩ rfl (fun K hK=>?_);go_simp;have hX6:Blk w.heap.size (aaA x) 52 (w5.setCell ⟨w.heap.size,0,none⟩ (.string x.hold)):=hS.1.set 0 _;have hZ6:Blk (w.heap.size+1) AaA 52 (w5.setCell ⟨w.heap.size,0,none⟩ (.string x.hold)):=hS.2.other (by simp) _;have hB6:Below w.heap.size w (w5.setCell ⟨w.heap.size,0,none⟩ (.string x.hold)):=hB5.setCell (p:=⟨w.heap.size,0,none⟩) nL _;refine hK.out _ _ ⟨hX6,hZ6⟩ (fun hS=>?_);clear hK K kk ff hX6 hZ6;generalize w5.setCell ⟨w.heap.size,0,none⟩ (.string x.hold)=w6 at *;refine tz 8 10 (.pointer (some ⟨w.heap.size,1,none⟩)) rfl hS ?_;simp only [pX];have kk:w6.cell? ⟨w.heap.size,1,none⟩=some (.string x.copy):=hS.1.cell rfl;have ff:w6.frozen? ⟨w.heap.size,1,none⟩=false:=hS.1.frozen _;refine rd1 9 ⟨none,_,_,_,_,none⟩ rfl (fun K hK=>?_);go_simp;have hX7:Blk w.heap.size (aaA x) 52 (w6.setCell ⟨w.heap.size,1,none⟩ (.string x.copy)):=hS.1.set 1 _;have hZ7:Blk (w.heap.size+1) AaA 52 (w6.setCell ⟨w.heap.size,1,none⟩ (.string x.copy)):=hS.2.other (by simp) _;have hB7:Below w.heap.size w (w6.setCell ⟨w.heap.size,1,none⟩ (.string x.copy)):=hB6.setCell (p:=⟨w.heap.size,1,none⟩) nL _;refine hK.out _ _ ⟨hX7,hZ7⟩ (fun hS=>?_);clear hK K kk ff hX7 hZ7;generalize w6.setCell ⟨w.heap.size,1,none⟩ (.string x.copy)=w7 at *;have HX7:=iH hS.1;have HZ7:=iH hS.2;refine td ?_;clear hS;obtain ⟨w8,HW8⟩:∃ w8,Hid (w8=w7.setCells (w.heap.size+1) 0 (aaL x)):=⟨_,rfl⟩;have HR8:Hid (w8.rangeAt (w.heap.size+1) 0 (aaL x)):=by
  show World.rangeAt _ _ _ _
  rw [HW8.out];exact World.rangeAt_setCells_same _ _ _ _ HZ7.out.there
 have hB8:Below w.heap.size w w8:=by
  rw [HW8.out];exact Aa (by omega) _ _ _ hB7
 have HTS:=iH HZ7.out.there;clear hB3 hB4 hB5 hB6 hB7 HX HZ;go_wp2_with (first | (refine qLk Gd HX7 ?_) | (refine Ab rfl 52 _ _ rfl (w.heap.size+1) 0 (aaA x) rfl rfl HTS Bu (by simp [Value.oneCell']) w8 HW8 ?_));exact bodyPost_ret (Ai rfl _ _ (w.heap.size+1) (aaL x) _ rfl HR8 Tryz.underlying52 rfl Bu) rfl ⟨rfl,hB8⟩
theorem rg7 {w:World} {b:Nat} {x:Rn} (h:w.rangeAt b 0 (rrL x)):w.rangeAt b 0 (wwL x.want):=fun j v hj=>by
 have hl:j<7:=Ah hj;rcases (by omega:j=0∨j=1∨j=2∨j=3∨j=4∨j=5∨j=6) with rfl | rfl | rfl | rfl | rfl | rfl | rfl <;> (cases hj;exact h _ _ rfl)
theorem Yu (x:Rn) (w:World) (z0:x.want.copy.size≤1048576) (z2:x.want.hold.size≤1048576) :
  Calls Tryz.prog 71 #[.agg (rrA x)] w (Rt (.agg (rrA x)) w):=by
 have HX0:=Blk.alloc w (rrA x) 88;have HZ:=al2 w (rrA x) 88 RrA 88;have hB3:=bl2 w (rrA x) 88 RrA 88;have HX:=iH (HX0.below ((Below.refl _ _).alloc nL (Obj.cells RrA 88)) HX0.lt);clear HX0;go_enter Tryz.func71,Tryz.ntmps71;go_upto_region 1 with fail;generalize (w.alloc (Obj.cells (rrA x) 88)).alloc (Obj.cells RrA 88)=w3 at *;go_wp2_with (refine wpList_load_mid rfl 86 _ rfl w.heap.size 0 rfl (wwL x.want) _ (rg7 HX.out.rangeA) Tryz.underlying86 rfl Au ?_);refine (Pj x.want _ z0 z2).mono ?_;rintro e w4 ⟨rfl,hb4⟩;have HX4:=qBk HX hb4;have HZ4:=qBk HZ hb4;have hB4:=qTr hB3 hb4;have HT4:Hid (w4.there w.heap.size 0 7):=fun j hj=>HX4.out.there j (show j<11 by omega)
 obtain ⟨w5,HW5⟩:∃ w5,Hid (w5=w4.setCells w.heap.size 0 (wwL x.want)):=⟨_,rfl⟩;have HX5:Hid (Blk w.heap.size (rrA x) 88 w5):=by
  show Blk _ _ _ _
  rw [HW5.out];have h:=Blk.setRow (wwL x.want) 0 _ _ HX4;exact h
 have HZ5:Hid (Blk (w.heap.size+1) RrA 88 w5):=by
  show Blk _ _ _ _
  rw [HW5.out];exact Ar (by omega) _ _ _ HZ4
 have hB5:Below w.heap.size w w5:=by
  rw [HW5.out];exact Aa nL _ _ _ hB4
 have HTS:=iH HZ5.out.there;obtain ⟨w8,HW8⟩:∃ w8,Hid (w8=w5.setCells (w.heap.size+1) 0 (rrL x)):=⟨_,rfl⟩;have HR8:Hid (w8.rangeAt (w.heap.size+1) 0 (rrL x)):=by
  show World.rangeAt _ _ _ _
  rw [HW8.out];exact World.rangeAt_setCells_same _ _ _ _ HTS
 have hB8:Below w.heap.size w w8:=by
  rw [HW8.out];exact Aa (by omega) _ _ _ hB5
 clear hb4 hB3 hB4 hB5 HX HZ HX4 HZ4 HZ5;go_wp2_with (first | (refine Ab rfl 86 _ _ rfl w.heap.size 0 (wwA x.want) rfl rfl HT4 Au (by simp [Value.oneCell']) w5 HW5 ?_) | (refine qLk Bi HX5 ?_) | (refine Ab rfl 88 _ _ rfl (w.heap.size+1) 0 (rrA x) rfl rfl HTS Ag (by simp [Value.oneCell']) w8 HW8 ?_));exact bodyPost_ret (Ai rfl _ _ (w.heap.size+1) (rrL x) _ rfl HR8 Tryz.underlying88 rfl Ag) rfl ⟨rfl,hB8⟩
theorem Fg:∀ (vs a b:List Value) (o:Nat),a.length≤o→Ce (a++b) o vs=a++Ce b (o - a.length) vs
 | [],_,_,_,_=>rfl
 | v::vs,a,b,o,h=>by
  simp only [Ce];rw [List.set_append_right _ _ h,Fg vs a _ (o+1) (by omega),show o+1 - a.length=o - a.length+1 by omega]
theorem Ob {base g cap n:Nat} {w:World} {e:TypeId} {s:Nat} {cs:List Value} (h:w.ownsRow base e s (.slice (some ⟨g,0,none⟩) n cap) n cs):base≤g:=by
 rcases h.2 with ⟨h1,_⟩ | ⟨g',cap',cur,h1,h2,_⟩
 ·cases h1
 ·cases h1;exact h2
theorem Co {base n:Nat} {w:World} {e:TypeId} {s:Nat} {cs:List Value} {v:Value} (h:w.ownsRow base e s v n cs) (hn:v≠.slice none 0 0):∃ g cap,v=.slice (some ⟨g,0,none⟩) n cap:=by
 rcases h.2 with ⟨h1,_⟩ | ⟨g',cap',cur,h1,_⟩
 ·exact absurd h1 hn
 ·exact ⟨g',cap',h1⟩
def Db (x:Aks):List Value:=(aaL x)
def An:List Aks→List Value
 | []=>[]
 | x::r=>Db x++An r
theorem Ew (x:Aks):(Db x).length=4:=rfl
theorem Br:∀ xs:List Aks,(An xs).length=xs.length*4
 | []=>rfl
 | x::r=>by
  have:=Br r;simp only [An,List.length_append,List.length_cons,Ew];omega
theorem Jr:∀ (xs:List Aks) (k:Nat) (x:Aks) (j:Nat),xs[k]?=some x→j<4→(An xs)[k*4+j]?=(Db x)[j]?
 | [],_,_,_,h,_=>by simp at h
 | y::r,0,x,j,h,hj=>by
  simp at h;subst h;simp only [An];rw [List.getElem?_append_left (by rw [Ew];omega)];simp
 | y::r,k+1,x,j,h,hj=>by
  simp at h;simp only [An];rw [List.getElem?_append_right (by rw [Ew];omega),Ew,show (k+1)*4+j - 4=k*4+j by omega];exact Jr r k x j h hj
theorem Nf:∀ (xs:List Aks) (k:Nat) (x:Aks),xs[k]?=some x→Ce (An xs) (k*4) (Db x)=An xs
 | [],_,_,h=>by simp at h
 | z::r,0,x,h=>by
  simp at h;subst h;rfl
 | z::r,k+1,x,h=>by
  simp at h;simp only [An];rw [Fg _ _ _ _ (by rw [Ew];omega),Ew,show (k+1)*4 - 4=k*4 by omega,Nf r k x h]
theorem Bq:∀ (xs:List Aks),∀ u∈An xs,u.oneCell'=true
 | [],u,h=>by cases h
 | x::r,u,h=>by
  simp only [An,List.mem_append] at h;rcases h with h | h
  ·have:∀ v∈Db x,v.oneCell'=true:=by
    intro v hv;simp only [Db,List.mem_cons,List.not_mem_nil,or_false] at hv;rcases hv with rfl | rfl | rfl | rfl <;> rfl
   exact this u h
  ·exact Bq r u h
theorem Lh {lo:Nat} {w:World} {f:Nat→Option Value} {x:Aks} (h:AksC lo w f x) (j:Nat) (v:Value) (hv:(Db x)[j]?=some v):f j=some v:=by
 obtain ⟨q0,q1,q2,q3,_,_⟩:=h;have hj:j<4:=Ah hv;have hc:j=0∨j=1∨j=2∨j=3:=by omega
 rcases hc with rfl | rfl | rfl | rfl <;> (cases hv;assumption)
theorem Ri {lo:Nat} {w:World} {f:Nat→Option Value} {x:Aks} (h:∀ j v,(Db x)[j]?=some v→f j=some v) (z0:x.hold.size≤maxLen) (z2:x.copy.size≤maxLen):AksC lo w f x :=
 ⟨h 0 _ rfl,h 1 _ rfl,h 2 _ rfl,h 3 _ rfl,z0,z2⟩
theorem Hx {lo:Nat} {w:World} {b o:Nat} {xs:List Aks} (h:SliceC AksC 4 lo w (some ⟨b,o,none⟩) xs) (j:Nat) (u:Value) (hu:(An xs)[j]?=some u):w.cell? ((⟨b,o,none⟩:Addr).add j)=some u:=by
 have hl:j<xs.length*4:=by have:=Ah hu;rwa [Br] at this
 obtain ⟨x,hx⟩:∃ x,xs[j / 4]?=some x:=⟨xs[j / 4]'(by omega),gE (by omega)⟩;obtain ⟨b',o',e,_,_,hc⟩:=h.at hx;cases e
 rw [show j=j / 4*4+j % 4 by omega,Jr xs (j / 4) x (j % 4) hx (by omega)] at hu;have:=Lh hc (j % 4) u hu;rw [Addr.add_mid,show o+j=o+j / 4*4+j % 4 by omega];exact this
def It (xs:List Aks) (m:Nat):Prop:=∀ x∈xs,x.hold.size≤m∧x.copy.size≤m
theorem Cn {base cap:Nat} {a:OA} {w:World} {xs:List Aks} (h:w.ownsRow base 52 4 (.slice a xs.length cap) xs.length (An xs)) (hm:xs.length≤1048576) (hz:It xs 1048576):SliceC AksC 4 base w a xs:=by
 rcases h.2 with ⟨h1,_⟩ | ⟨g',cap',cur,h1,_⟩
 ·have:xs.length=0:=by injection h1
  rw [List.length_eq_zero_iff.1 this];exact SliceC.nil
 ·have e:a=some ⟨g',0,none⟩:=by injection h1
  subst e;refine ⟨by unfold maxLen;omega,.inr ⟨g',0,rfl,⟨Ob h,fun _ p=>h.frozenAt p⟩,(h.lt g' rfl).2,fun k x hk=>?_⟩⟩;have hlt:=Ah hk;have hzz:=hz x (List.mem_of_getElem? hk);refine Ri (fun j v hv=>?_) (by unfold maxLen;omega) (by unfold maxLen;omega);have hj:j<4:=Ah hv;show w.cell? ⟨g',0+k*4+j,none⟩=some v
  have:=h.cellAt (k*4+j) (by omega);rw [Nat.zero_add];rw [this,Jr xs k x j hk hj];exact hv
theorem Wg (xs:List Aks) (b ob cap lo:Nat) (w:World) (hin:SliceC AksC 4 lo w (some ⟨b,ob,none⟩) xs) (hsm:xs.length≤1048576) :
  Calls Tryz.prog 107 #[.slice (some ⟨b,ob,none⟩) xs.length cap] w fun e w'=>∃ g c,e=.returned (.slice (some ⟨g,0,none⟩) xs.length c)∧w'.ownsRow w.heap.size 52 4 (.slice (some ⟨g,0,none⟩) xs.length c) xs.length (An xs)∧Below w.heap.size w w':=by
 obtain ⟨i0,hi,hz0,hz1,hz2⟩:=info_parts Fe;have q22:∀ (w:World) (a:OA) (n c n' c':Nat),(binOp .eql 30 (.slice a n c) (.slice none n' c')).run Tryz.prog w=.ok (.bool a.isNone) w:=fun w a n c n' c'=>Lib.run_eql_slice_nil w _ _ a n c n' c' Tryz.underlying30
 have HS:Hid (∀ j u,(An xs)[j]?=some u→w.cell? ((⟨b,ob,none⟩:Addr).add j)=some u):=Hx hin;clear hin;go_enter Tryz.func107,Tryz.ntmps107;go_wp2_with (at_builtin;refine wpList_append_own _ rfl _ _ 30 rfl w.heap.size 52 i0 _ 4 48 Tryz.underlying30 hi hz0 hz1 hz2 rfl (by decide) _ _ _ rfl (World.ownsRow_made w #[] 0 nL (zL) rfl) ⟨b,ob,none⟩ xs.length _ (An xs) rfl (by rw [Br]) (fun j u hj=>Lib.cell?_alloc_some _ (HS j u hj)) (Bq xs) (by unfold maxLen;omega) (by omega) (by simp) ?_;intro v' w1 hown hgrow hnil);have hv:v'≠.slice none 0 0:=fun e=>by have:=(hnil.1 e).1;cases this
 have hown':w1.ownsRow w.heap.size 52 4 v' xs.length (An xs):=by simpa using hown
 obtain ⟨g,c,rfl⟩:=Co hown' hv;have HO:=iH hown';have hB:Below w.heap.size w w1:=((Below.refl _ w).alloc nL _).grown hgrow (by simp) (by intro k hk;cases hk;exact Nat.le_refl _);clear hown hgrow hnil hv hown';go_wp2_with fail;go_ret;exact ⟨g,c,rfl,HO,hB⟩
theorem Uq (cap:Nat) (w:World) :
  Calls Tryz.prog 107 #[.slice none 0 cap] w (Rt (.slice none 0 0) w):=by
 have q22:∀ (w:World) (a:OA) (n c n' c':Nat),(binOp .eql 30 (.slice a n c) (.slice none n' c')).run Tryz.prog w=.ok (.bool a.isNone) w:=fun w a n c n' c'=>Lib.run_eql_slice_nil w _ _ a n c n' c' Tryz.underlying30
 go_enter Tryz.func107,Tryz.ntmps107;go_wp2_with fail;go_ret;exact ⟨rfl,Below.refl _ _⟩
theorem Ur (f:Value) (cap:Nat) (w:World) :
  Calls Tryz.prog 72 #[.slice none 0 cap,f] w (Rt (.slice none 0 0) w):=by
 go_enter Tryz.func72,Tryz.ntmps72;go_wp2_with fail;refine (Uq cap _).mono ?_;rintro e w1 ⟨rfl,hb⟩;have HB:=iH hb;clear hb;go_wp2_with fail;go_loopw [11] (fun i wr=>i=.int .i64 0∧Below w.heap.size w wr) (fun i _=>0)
 case atStart=>exact ⟨rfl,HB⟩
 case round =>
  obtain ⟨rfl,hB⟩:=hrel;go_wp2_with fail;go_ret;exact ⟨rfl,hB⟩
theorem Wp (xs:List Aks) (b ob cap lo:Nat) (w:World) (hin:SliceC AksC 4 lo w (some ⟨b,ob,none⟩) xs) (hsm:xs.length≤1048576) (hz:It xs 1048576) :
  Calls Tryz.prog 72 #[.slice (some ⟨b,ob,none⟩) xs.length cap,.func (.func 73) #[] #[]] w fun e w'=>∃ g q,e=.returned (.slice (some ⟨g,0,none⟩) xs.length q)∧w'.ownsRow w.heap.size 52 4 (.slice (some ⟨g,0,none⟩) xs.length q) xs.length (An xs)∧Below w.heap.size w w':=by
 have HI:=iH hin;have HZ:=iH hz;clear hin hz;go_enter Tryz.func72,Tryz.ntmps72;go_wp2_with fail;refine (Wg xs b ob cap lo _ HI hsm).mono ?_;rintro e w1 ⟨g,q,rfl,hO1,hB1⟩;have HO1:=iH hO1;clear hO1;go_wp2_with fail;go_loopw [11] (fun i wr=>∃ k:Nat,k≤xs.length∧i=.int .i64 k∧Hid (wr.ownsRow w.heap.size 52 4 (.slice (some ⟨g,0,none⟩) xs.length q) xs.length (An xs))∧Below w.heap.size w wr) (fun i _=>xs.length - (intOf i).toNat)
 case atStart=>exact ⟨0,zL,rfl,HO1,hB1⟩
 case round =>
  clear HO1 hB1;obtain ⟨k,hk,rfl,HO,hB⟩:=hrel;by_cases hlt:k<xs.length
  ·obtain ⟨x,hx⟩:=gXe hlt
   have HXX:=iH hx;have Z:=iH (HZ x (List.mem_of_getElem? hx));have hgl:g<wr.heap.size:=(HO.out.lt g rfl).2;have hgb:w.heap.size≤g:=Ob HO;have HRA:Hid (wr.rangeAt g (k*4) (aaL x)):=fun j v hv=>by
    have hj:j<4:=Ah hv;have h1:=HO.out.cellAt (k*4+j) (by omega);rw [Jr _ k x j hx hj] at h1;exact h1.trans hv
   clear hx;have hza:=Blk.alloc wr AaA 52;have HTS:Hid ((wr.alloc (Obj.cells AaA 52)).there wr.heap.size 0 4):=hza.there;obtain ⟨w4,HW4⟩:∃ w4,Hid (w4=(wr.alloc (Obj.cells AaA 52)).setCells wr.heap.size 0 (aaL x)):=⟨_,rfl⟩;have HK4:Hid (Blk wr.heap.size (aaA x) 52 w4):=by
    show Blk _ _ _ _
    rw [HW4.out];exact hza.setAll (aaA x) rfl
   have hbx:Below wr.heap.size wr w4:=by
    rw [HW4.out];exact Aa nL _ _ _ ((Below.refl _ wr).alloc nL _)
   have hB4:=qTr hB hbx;have HO4:=iH (Ae HO hbx);clear hza hbx HO hB;go_upto_region 5 with (first | (refine qLr Gd HRA ?_) | (refine Ab rfl 52 _ _ rfl wr.heap.size 0 (aaA x) rfl rfl HTS Bu (by simp [Value.oneCell']) w4 HW4 ?_));clear HRA HTS HW4;go_wp2_with (first | (refine qLk Gd HK4 ?_));refine (Wk x _ Z.out.1 Z.out.2).mono ?_;rintro e w5 ⟨rfl,hb5⟩;have HO5:=iH (Ae HO4 hb5);have hB5:=qTr hB4 hb5;clear hb5 hB4 HO4 HK4;have HT5:Hid (w5.there g (k*4) 4):=Cg HO5 (by rw [Br];omega);obtain ⟨w6,HW6⟩:∃ w6,Hid (w6=w5.setCells g (k*4) (Db x)):=⟨_,rfl⟩;have HO6:Hid (w6.ownsRow w.heap.size 52 4 (.slice (some ⟨g,0,none⟩) xs.length q) xs.length (An xs)):=by
    have h:=Cp (Db x) _ (k*4) _ HO5;rw [Nf xs k x HXX.out,← HW6.out] at h;exact h
   have hB6:Below w.heap.size w w6:=by
    rw [HW6.out];exact Aa hgb _ _ _ hB5
   unfold Db at HW6;clear hB5 HO5;have i0:(0:Int)≤(k:Int):=by omega
   have i1:(k:Int)<(xs.length:Int):=by omega
   go_wp2_with (first | (refine Ab rfl 52 _ _ rfl g (k*4) (aaA x) (by first | rfl | (simp [go_sem];done)) rfl HT5 Bu (by simp [Value.oneCell']) w6 HW6 ?_));go_roundw
   case rel=>exact ⟨k+1,by omega,by go_num,HO6,hB6⟩
   case measure=>simp [intOf];omega
  ·have hke:k=xs.length:=by omega
   subst hke;go_wp2_with fail;go_ret;exact ⟨g,q,rfl,HO,hB⟩
end Go.Proofs.YtkiloaiffopllaaGreat
namespace Go.Proofs.YtkiloaiffopllaaGreat
open Go.RowKit Go.WideMaps Go.Maps Go.Sort
structure TabA (D:DataW Unit) (xs:List Aks):Prop where
 has_:∀ s,has D (kOf s)=xs.any (fun a=>decide (a.hold=s))
 at_:∀ x∈xs,D.atKey (kOf x.hold) (Iz ⟨⟨#[]⟩,⟨#[]⟩,0,0⟩)=Iz x
theorem TabA.mem {D:DataW Unit} {xs:List Aks} (h:TabA D xs) (x:List UInt8):x∈nmL (xs.map (·.hold))↔has D (.string x)=true:=by
 have h1:=h.has_ ⟨⟨x⟩⟩;have h2:kOf ⟨⟨x⟩⟩=.string x:=rfl;rw [h2] at h1;rw [h1,List.any_eq_true];unfold nmL;simp only [List.map_map,List.mem_map,Function.comp];constructor
 ·rintro ⟨a,ha,e⟩
  refine ⟨a,ha,decide_eq_true (Hl ?_)⟩;rw [← ByteArray.toList_eq,e]
 ·rintro ⟨a,ha,e⟩
  refine ⟨a,ha,?_⟩;rw [of_decide_eq_true e,ByteArray.toList_eq]
theorem Ds:∀ (xs ys:List Aks),An (xs++ys)=An xs++An ys
 | [],_=>rfl
 | x::r,ys=>by simp only [List.cons_append,An,Ds r ys,List.append_assoc]
theorem Vv (s:BA):(⟨s.toList.toArray⟩:BA)=s:=by
 rw [ByteArray.toList_eq]
theorem Lu {base n:Nat} {w:World} {e:TypeId} {s:Nat} {cs:List Value} {v:Value} (h:w.ownsRow base e s v n cs):∀ j,v.ownBlock=some j→base≤j:=by
 intro j hj;rcases h.2 with ⟨h1,_⟩ | ⟨g',cap',cur,h1,h2,_⟩
 ·rw [h1] at hj
  cases hj
 ·rw [h1] at hj
  cases hj
  exact h2
theorem Wh {w:World} {m n:Nat} {D:DataW Unit} {xs:List Aks} {x:Aks} (h:w.ownsMap Tryz.prog 9 Bn m n D) (ht:TabA D xs) (hx:x∈xs) (hs:x.hold.size≤maxLen) :
  (Instr.lookup 121 (.map (some m)) (.string x.hold) false).run Tryz.prog w=.ok (.agg (aaA x)) w:=by
 obtain ⟨v,ps,hrun,hv⟩:=h.lookup Bo Tryz.underlying121 (Hd _) (Dd ⟨⟨#[]⟩,⟨#[]⟩,0,0⟩) (keyOf_string_mk Tryz.underlying9 hs);have hv2:Bn v=some (Iz x,ps):=hv.trans (congrArg (fun d=>some (d,ps)) (ht.at_ x hx));obtain ⟨z,rfl,e⟩:=Dt hv2;have:x=z:=Hn (congrArg Prod.fst e);subst this;exact hrun
theorem Iw (xs:List Aks) (b n:Nat) (D:DataW Unit) (w:World) (hown:w.ownsMap Tryz.prog 9 Bn b n D) (hn:n≤2097152) (ht:TabA D xs) (ha:Aw (xs.map (·.hold)) xs.length=true) (hz:∀ x∈xs,x.hold.size≤maxLen) (hl:xs.length≤1048576) :
  Calls Tryz.prog 90 #[.map (some b)] w fun e w'=>∃ a q,e=.returned (.slice a xs.length q)∧w'.ownsRow w.heap.size 52 4 (.slice a xs.length q) xs.length (An xs)∧Below w.heap.size w w':=by
 obtain ⟨i0,hi,hz0,hz1,hz2⟩:=info_parts Fe;have hsz:=hown.size_le;have HKp:=Om hown Bo Tryz.underlying9 (ns:=xs.map (·.hold)) (by rw [List.length_map];exact ha) (fun x=>ht.mem x);have HO:=iH hown;have HT:=iH ht;have HA:=iH ha;have HZ:=iH hz;have HP:=iH HKp;clear hown ht ha hz HKp;go_enter Tryz.func90,Tryz.ntmps90;go_wp2_with fail;refine (callsIn_wide.1 (Sc (some b) _)).mono ?_;rintro e w1 ⟨rfl,rfl⟩;go_wp2_with fail;refine (callsIn_wide.1 (Nz b n D Bn w HO (by unfold maxLen;omega) (by omega))).mono ?_;rintro e w2 ⟨v,ss,rfl,hS,hrow,hnil,hb2⟩;have hsort:ss.mergeSort (fun x y=>decide (x≤y))=nmL (xs.map (·.hold)):=Nb (by rw [List.length_map];exact HA.out) (hS.trans HP.out.symm);have hlen:ss.length=xs.length:=by rw [(hS.trans HP.out.symm).length_eq];simp [nmL]
 rw [hsort,hlen] at hrow;have hb1:=(Below.refl _ w).alloc nL (Obj.cells #[.map (some b)] 121);have hB2:=qTr hb1 hb2;have HO2:=iH (Ak HO hB2 HO.out.lt);have HR2:=iH hrow;clear hb1 hb2 HO HP hS hsort;by_cases h0:xs=[]
 ·subst h0
  have hss:ss=[]:=List.length_eq_zero_iff.1 hlen;have hv:v=.slice none 0 0:=hnil.2 hss;subst hv;clear hnil hss hlen HR2 hrow;go_wp2_with fail;go_loopw [3,10] (fun l i wr=>l=.slice none 0 0∧i=.int .i64 0∧Below w.heap.size w wr) (fun _ i _=>0)
  case atStart=>exact ⟨rfl,rfl,hB2⟩
  case round =>
   obtain ⟨rfl,rfl,hB⟩:=hrel;go_wp2_with fail;go_ret;exact ⟨none,0,rfl,World.ownsRow_nil _ _ _ _,hB⟩
 ·have hpos:0<xs.length:=List.length_pos_iff.2 h0
  have hv:v≠.slice none 0 0:=fun e=>by
   have:=hnil.1 e;rw [this] at hlen;simp at hlen;omega
  obtain ⟨g,cap,rfl⟩:=Co HR2 hv;clear hnil hlen hv hrow h0 ss;go_wp2_with fail;go_loopw [3,10] (fun l i wr=>∃ (k:Nat) (a:OA) (q:Nat),k≤xs.length∧i=.int .i64 k∧l=.slice a k q∧Hid (wr.ownsRow w2.heap.size 52 4 (.slice a k q) k (An (xs.take k)))∧Hid (Below w2.heap.size w2 wr)) (fun _ i _=>xs.length - (intOf i).toNat)
  case atStart=>exact ⟨0,none,0,zL,rfl,rfl,World.ownsRow_nil _ _ _ _,Below.refl _ _⟩
  case round =>
   obtain ⟨k,a,q,hk,rfl,rfl,HOW,HB⟩:=hrel;by_cases hlt:k<xs.length
   case neg =>
    have hke:k=xs.length:=by omega
    subst hke;rw [List.take_length] at HOW;have hBf:=hB2.trans (HB.out.mono hB2.size);have HOF:=iH (ownsRow_base_a HOW hB2.size);go_wp2_with fail;go_ret;exact ⟨a,q,rfl,HOF,hBf⟩
   obtain ⟨x,hx⟩:=gXe hlt;have HOr:=iH (Ak HO2 HB HO2.out.lt);have HRr:=iH (Ae HR2 HB);have yl:=Wh HOr HT (List.mem_of_getElem? hx) (HZ x (List.mem_of_getElem? hx));have kc:wr.cell? ⟨g,k,none⟩=some (.string x.hold):=by
    have h:=HRr.out.cellAt k (by omega);rw [h];unfold nmL;rw [List.getElem?_map,List.getElem?_map,List.getElem?_map,hx];show some (Value.string ⟨x.hold.toList.toArray⟩)=_
    rw [Vv]
   have HST:Hid (xs.take (k+1)=xs.take k++[x]):=by show _=_;rw [List.take_add_one,hx];rfl
   have i0':(0:Int)≤(k:Int):=by omega
   have i1':(k:Int)<(xs.length:Int):=by omega
   clear hx;obtain ⟨NV,hnv⟩:∃ l,l=Db x:=⟨_,rfl⟩;have HNV:=iH hnv;clear hnv;have HNL:Hid (NV.length=1*4):=by show _=_;rw [HNV.out];rfl
   have HNN:Hid (∀ j u,NV[j]?=some u→(wr.alloc (Obj.cells (aaA x) 52)).cell? ((⟨wr.heap.size,0,none⟩:Addr).add j)=some u):=by
    intro j u hj;rw [Addr.add_mid];rw [HNV.out] at hj;exact (Blk.alloc wr (aaA x) 52).rangeA j u hj
   have HN1:Hid (∀ u∈NV,u.oneCell'=true):=by
    intro u hu;rw [HNV.out] at hu;exact Bq [x] u (by simp only [An,List.append_nil];exact hu)
   have HOA:=iH (HOW.out.alloc (Obj.cells (aaA x) 52));have hws:w2.heap.size≤wr.heap.size:=HB.out.size;go_wp2_with (at_builtin;refine wpList_append_own _ rfl _ _ 30 rfl w2.heap.size 52 i0 _ 4 48 Tryz.underlying30 hi hz0 hz1 hz2 rfl (by decide) _ k _ rfl HOA ⟨wr.heap.size,0,none⟩ 1 1 NV rfl HNL HNN HN1 (by unfold maxLen;omega) (by omega) (by simp;omega) ?_;intro v' w8 hown8 hgrow8 hnil8;have hv8:v'≠.slice none 0 0:=(fun e=>by have h9:=(hnil8.1 e).2;cases h9);obtain ⟨g8,q8,rfl⟩:=Co hown8 hv8);have HO8:Hid (w8.ownsRow w2.heap.size 52 4 (.slice (some ⟨g8,0,none⟩) (k+1) q8) (k+1) (An (xs.take (k+1)))):=by
    show World.ownsRow _ _ _ _ _ _ _
    rw [HST.out,Ds];rw [HNV.out] at hown8;simp only [An,List.append_nil];exact hown8
   have HB8:Hid (Below w2.heap.size w2 w8):=(HB.out.alloc HB.out.size _).grown hgrow8 (by have:=HB.out.size;simp;omega) (Lu HOW);clear hown8 hgrow8 hnil8 hv8 yl kc;go_wp2_with fail;go_roundw
   case rel=>exact ⟨k+1,some ⟨g8,0,none⟩,q8,by omega,by go_num,rfl,HO8,HB8⟩
   case measure=>simp [intOf];omega
end Go.Proofs.YtkiloaiffopllaaGreat
namespace Go.Proofs.YtkiloaiffopllaaGreat
open Go.RowKit Go.WideMaps Go.Maps
def Gs (v:Value):Option (DataW Unit×List MemPlace):=match v with
 | .agg cs=>match cs.toList with
  | [.string c0,.int .i64 c1,.string c2,.int .i64 c3,.int .i64 c4,.int .i64 c5,.int .i64 c6,.int .i64 c7,.int .i64 c8,.int .i64 c9,.int .i64 c10]=>some (.agg [.lit (.string c0.data.toList),.lit (.int .i64 c1),.lit (.string c2.data.toList),.lit (.int .i64 c3),.lit (.int .i64 c4),.lit (.int .i64 c5),.lit (.int .i64 c6),.lit (.int .i64 c7),.lit (.int .i64 c8),.lit (.int .i64 c9),.lit (.int .i64 c10)],[])
  | _=>none
 | _=>none
def Jo (x:Rn):DataW Unit:=.agg [.lit (.string x.want.copy.data.toList),.lit (.int .i64 x.want.version),.lit (.string x.want.hold.data.toList),.lit (.int .i64 x.want.pull),.lit (.int .i64 x.want.start),.lit (.int .i64 x.want.dies),.lit (.int .i64 x.want.grace),.lit (.int .i64 x.state),.lit (.int .i64 x.left),.lit (.int .i64 x.falls),.lit (.int .i64 x.until_)]
theorem Ju (x:Rn):Gs (.agg (rrA x))=some (Jo x,[]):=rfl
theorem Np {v:Value} {z:DataW Unit×List MemPlace} (h:Gs v=some z):∃ x:Rn,v=.agg (rrA x)∧z=(Jo x,[]):=by
 cases v with
 | agg cs =>
  obtain ⟨l⟩:=cs
  match l,h with
  | [.string c0,.int .i64 c1,.string c2,.int .i64 c3,.int .i64 c4,.int .i64 c5,.int .i64 c6,.int .i64 c7,.int .i64 c8,.int .i64 c9,.int .i64 c10],e=>exact ⟨⟨⟨c0,c1,c2,c3,c4,c5,c6⟩,c7,c8,c9,c10⟩,rfl,(Option.some.inj e).symm⟩
 | _=>cases h
theorem Mw {x y:Rn} (h:Jo x=Jo y):x=y:=by
 unfold Jo at h;injection h with h;injection h with h0 h;injection h with h1 h;injection h with h2 h;injection h with h3 h;injection h with h4 h;injection h with h5 h;injection h with h6 h;injection h with h7 h;injection h with h8 h;injection h with h9 h;injection h with h10 _;injection h0 with h0;injection h0 with h0;injection h1 with h1;injection h1 with _ h1;injection h2 with h2;injection h2 with h2;injection h3 with h3;injection h3 with _ h3;injection h4 with h4;injection h4 with _ h4;injection h5 with h5;injection h5 with _ h5;injection h6 with h6;injection h6 with _ h6;injection h7 with h7;injection h7 with _ h7;injection h8 with h8;injection h8 with _ h8;injection h9 with h9;injection h9 with _ h9;injection h10 with h10;injection h10 with _ h10;obtain ⟨⟨a0,a1,a2,a3,a4,a5,a6⟩,a7,a8,a9,a10⟩:=x;obtain ⟨⟨b0,b1,b2,b3,b4,b5,b6⟩,b7,b8,b9,b10⟩:=y;simp only at h0 h1 h2 h3 h4 h5 h6 h7 h8 h9 h10;rw [Hl h0,h1,Hl h2,h3,h4,h5,h6,h7,h8,h9,h10]
def Jl:List Rn→DataW Unit
 | []=>.map []
 | a::r=>(Jl r).put (kOf a.want.copy) (Jo a)
theorem Iu:∀ r,IsMap (Jl r)
 | []=>⟨_,rfl⟩
 | _::r=>IsMap.put (Iu r) _ _
theorem Ry (s:BA):∀ r,has (Jl r) (kOf s)=r.any (fun a=>decide (a.want.copy=s))
 | []=>rfl
 | a::r=>by
  by_cases e:a.want.copy=s
  ·unfold Jl
   rw [← e];simp;exact has_put_same (Iu r) (show WideAt.IsKeyLit (kOf _) from trivial) _
  ·unfold Jl
   rw [has_put_other (fun h=>e (Cl h).symm),Ry s r];simp [e]
theorem Vs (s:BA) (d:DataW Unit):∀ r,(Jl r).atKey (kOf s) d=match r.find? (fun a=>decide (a.want.copy=s)) with
  | some a=>Jo a
  | none=>d
 | []=>rfl
 | a::r=>by
  by_cases e:a.want.copy=s
  ·unfold Jl
   simp only [List.find?_cons,e,decide_true];exact atKey_put_same (Iu r) (show WideAt.IsKeyLit (kOf _) from trivial) _ _
  ·unfold Jl
   rw [atKey_put_other (fun h=>e (Cl h).symm),Vs s d r];simp [e]
theorem Ws (xs:List Rn) (a:OA) (cap lo:Nat) (w:World) (hin:SliceC RnC 11 lo w a xs) (hsm:xs.length≤1048576) :
  Calls Tryz.prog 81 #[.slice a xs.length cap,.func (.func 82) #[] #[]] w fun e w'=>∃ m n:Nat,e=.returned (.map (some m))∧w.heap.size≤m∧n≤xs.length∧w'.ownsMap Tryz.prog 9 Gs m n (Jl xs.reverse)∧Below w.heap.size w w':=by
 have hmm:∀ q n w,(Instr.makeMap 118 (some (.int q n))).run Tryz.prog w=.ok (.map (some w.heap.size)) (w.alloc (.map #[] 0)):=fun q n w=>Dn Tryz.underlying118 q n w
 have HI:=iH hin;clear hin;go_enter Tryz.func81,Tryz.ntmps81;go_wp2_with fail;go_loopw [13] (fun i wr=>∃ k n:Nat,k≤xs.length∧i=.int .i64 k∧Hid (n≤k)∧Hid (wr.ownsMap Tryz.prog 9 Gs w.heap.size n (Jl (xs.take k).reverse))∧Below w.heap.size w wr) (fun i _=>xs.length - (intOf i).toNat)
 case atStart=>exact ⟨0,0,zL,rfl,Nat.le_refl _,World.ownsMap_made _ _ _ _,(Below.refl _ _).alloc nL _⟩
 case round =>
  clear hmm;obtain ⟨k,n,hk,rfl,hn,HO,hB⟩:=hrel;by_cases hlt:k<xs.length
  case neg =>
   have hke:k=xs.length:=by omega
   subst hke;have HOE:Hid (wr.ownsMap Tryz.prog 9 Gs w.heap.size n (Jl xs.reverse)):=by show World.ownsMap _ _ _ _ _ _ _;have:=HO.out;rw [List.take_length] at this;exact this
   go_wp2_with fail;go_ret;exact ⟨w.heap.size,n,rfl,Nat.le_refl _,hn.out,HOE,hB⟩
  obtain ⟨x,hx⟩:=gXe hlt;obtain ⟨b,o,rfl,_,hbl,hc⟩:=(HI.out.below RnC.holds hB nL).at hx;have HRA:=iH (Bc hc);obtain ⟨_,_,_,_,_,_,_,_,_,_,_,z0,z2⟩:=hc;have hkm:keyOf Tryz.prog 9 (.string x.want.copy)=some (kOf x.want.copy):=keyOf_string_mk Tryz.underlying9 z0;have HXX:=iH hx;clear z0 z2 hx;have hn2:=hn.out;have HK4:=iH (Blk.alloc wr (rrA x) 88);have HO4:=iH (HO.out.alloc (Obj.cells (rrA x) 88));have hB4:Below w.heap.size w (wr.alloc (Obj.cells (rrA x) 88)):=hB.trans (((Below.refl wr.heap.size wr).alloc nL _).mono hB.size);have hmg:w.heap.size<wr.heap.size:=HO.out.lt;clear HO hB;go_upto_region 5 with (refine qLr Bi HRA ?_);clear HRA;generalize wr.alloc (Obj.cells (rrA x) 88)=w4 at *;generalize wr.heap.size=g at *;refine wp_region_held_drew (S:=fun wy=>Blk g (rrA x) 88 wy) (by kernel_rfl) HK4.out.drew (fun hS=>?_);have hBd:=hB4.trans ((Below.refl w.heap.size w4).drew);have HOd:=iH HO4.out.drew;generalize w4.drew=wd at *;refine tz 0 17 (.map (some w.heap.size)) rfl hS ?_;simp only [pX];refine tz 1 18 (.func (.func 82) #[] #[]) rfl hS ?_;simp only [pX];refine tm 2 19 g 0 (rrL x) rfl (fun _ h=>h.rangeA) Tryz.underlying88 Ag hS ?_;simp only [pX];refine tm 4 21 g 0 (rrL x) rfl (fun _ h=>h.rangeA) Tryz.underlying88 Ag hS ?_;simp only [pX];refine rd1 3 ⟨some 20,_,_,_,_,none⟩ rfl (fun K hK=>?_);go_simp;refine (Jc x _).mono ?_;rintro e w5 ⟨rfl,hb5⟩;have hB5:=qTr hBd hb5;have HO5:=iH (Ak HOd hb5 HOd.out.lt);refine hK.out _ _ (hS.below hb5 hS.lt) (fun hS=>?_);clear hK K;clear hb5 HOd HO4 hBd hB4;obtain ⟨w6,yu,ho6,hg6⟩:=HO5.out.update Bo Tryz.underlying118 (by unfold maxLen;omega) hkm (Ju x);have HG6:=iH hg6;have hB6:Below w.heap.size w w6:=hB5.grown hg6 hB5.size (fun j hj=>by cases hj;exact Nat.le_refl _);have HO6:Hid (w6.ownsMap Tryz.prog 9 Gs w.heap.size (n+1) (Jl (xs.take (k+1)).reverse)):=by show World.ownsMap _ _ _ _ _ _ _;rw [Nj HXX.out];exact ho6
  clear ho6 hg6;refine rd1 5 ⟨none,_,_,_,_,none⟩ rfl (fun K hK=>?_);go_simp;refine hK.out _ _ (hS.grown HG6 (fun h=>absurd (Option.some.inj h) (by show ¬ _=_;omega))) (fun hS=>?_);clear hK K yu hkm HO5 hB5 HG6;refine td ?_;clear hS;go_wp2_with fail;go_roundw
  case rel=>exact ⟨k+1,n+1,by omega,by go_num,by show _≤_;omega,HO6,hB6⟩
  case measure=>simp [intOf];omega
end Go.Proofs.YtkiloaiffopllaaGreat
