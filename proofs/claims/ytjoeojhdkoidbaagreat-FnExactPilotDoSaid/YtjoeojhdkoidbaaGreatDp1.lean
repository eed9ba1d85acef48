import Derived.Test.YtjoeojhdkoidbaaGreatJ31
set_option maxHeartbeats 4000000
namespace Go.Proofs.YtjoeojhdkoidbaaGreat
open Tryz
set_option maxRecDepth 100000
open Go.RowKit Tryz
theorem Ei (s:BA) (w:World) (hs:s.size≤1048576) :
  Calls prog 106 #[.string s] w (Rt (.string s) w):=by
 go_enter func106,ntmps106;go_wp2_with fail;refine (Any.stringslite_Clone sX s w (by omega)).mono ?_;rintro e w1 ⟨rfl,hb⟩;go_wp2_with fail;go_ret;exact ⟨rfl,hb⟩
theorem jS (x:Lik) (w:World) (z0:x.select.size≤1048576) :
  Calls prog 111 #[.agg #[.string x.select,.int .i64 x.weight]] w (Rt (.agg #[.string x.select,.int .i64 x.weight]) w):=by
 have hB3:=bl2 w #[.string x.select,.int .i64 x.weight] 143 #[.string ⟨#[]⟩,.int .i64 0] 143;have h1:=Blk.alloc w #[.string x.select,.int .i64 x.weight] 143;have HX:=iH (h1.below ((Below.refl _ _).alloc nL (Obj.cells #[.string ⟨#[]⟩,.int .i64 0] 143)) h1.lt);have HZ:=al2 w #[.string x.select,.int .i64 x.weight] 143 #[.string ⟨#[]⟩,.int .i64 0] 143;clear h1;go_enter func111,ntmps111;go_upto_region 1 with fail;generalize ((w.alloc (Obj.cells #[.string x.select,.int .i64 x.weight] 143)).alloc (Obj.cells #[.string ⟨#[]⟩,.int .i64 0] 143))=w3 at *;have k0:w3.cell? ⟨w.heap.size,0,none⟩=some (.string x.select):=HX.out.cell rfl;go_wp2_with fail;refine (Ei x.select _ z0).mono ?_;rintro e w4 ⟨rfl,hb4⟩;have HX4:=qBk HX hb4;have HZ4:=qBk HZ hb4;have hB4:=qTr hB3 hb4;have c0:w4.cell? ⟨w.heap.size,0,none⟩=some (.string x.select):=HX4.out.cell rfl;have f0:=HX4.out.frozen 0;have HX5:Hid (Blk w.heap.size #[.string x.select,.int .i64 x.weight] 143 (w4.setCell ⟨w.heap.size,0,none⟩ (.string x.select))):=HX4.out.set 0 _;have HZ5:Hid (Blk (w.heap.size+1) #[.string ⟨#[]⟩,.int .i64 0] 143 (w4.setCell ⟨w.heap.size,0,none⟩ (.string x.select))):=HZ4.out.other (a:=⟨w.heap.size,0,none⟩) (show w.heap.size+1≠w.heap.size by omega) _;have hB5:Below w.heap.size w (w4.setCell ⟨w.heap.size,0,none⟩ (.string x.select)):=hB4.setCell (p:=⟨w.heap.size,0,none⟩) nL _;clear HX HZ hB3 hb4 k0;go_upto_region 2 with fail;clear c0 f0 HX4 HZ4 hB4;generalize w4.setCell ⟨w.heap.size,0,none⟩ (.string x.select)=w5 at *;obtain ⟨w8,HW8⟩:∃ w8,Hid (w8=w5.setCells (w.heap.size+1) 0 [.string x.select,.int .i64 x.weight]):=⟨_,rfl⟩;have HT:Hid (w5.there (w.heap.size+1) 0 2):=HZ5.out.there;have HR8:Hid (w8.rangeAt (w.heap.size+1) 0 [.string x.select,.int .i64 x.weight]):=by
  show World.rangeAt _ _ _ _
  rw [HW8.out];exact World.rangeAt_setCells_same _ _ _ _ HT
 have hB8:Below w.heap.size w w8:=by
  rw [HW8.out];exact Ad (by omega) _ _ _ hB5
 go_wp2_with (first | (refine qLk pZ HX5 ?_) | (refine Ag rfl 143 _ _ rfl (w.heap.size+1) 0 #[.string x.select,.int .i64 x.weight] rfl rfl HT Lw (by simp [Value.oneCell']) w8 HW8 ?_));exact bodyPost_ret (Av rfl _ _ (w.heap.size+1) [.string x.select,.int .i64 x.weight] _ rfl HR8 underlying143 rfl Lw) rfl ⟨rfl,hB8⟩
theorem mF (x:Svc) (w:World) (z0:x.name.size≤1048576) :
  Calls prog 74 #[.agg #[.string x.name,.int .i64 x.spare]] w (Rt (.agg #[.string x.name,.int .i64 x.spare]) w):=by
 have hB3:=bl2 w #[.string x.name,.int .i64 x.spare] 103 #[.string ⟨#[]⟩,.int .i64 0] 103;have h1:=Blk.alloc w #[.string x.name,.int .i64 x.spare] 103;have HX:=iH (h1.below ((Below.refl _ _).alloc nL (Obj.cells #[.string ⟨#[]⟩,.int .i64 0] 103)) h1.lt);have HZ:=al2 w #[.string x.name,.int .i64 x.spare] 103 #[.string ⟨#[]⟩,.int .i64 0] 103;clear h1;go_enter func74,ntmps74;go_upto_region 1 with fail;generalize ((w.alloc (Obj.cells #[.string x.name,.int .i64 x.spare] 103)).alloc (Obj.cells #[.string ⟨#[]⟩,.int .i64 0] 103))=w3 at *;have k0:w3.cell? ⟨w.heap.size,0,none⟩=some (.string x.name):=HX.out.cell rfl;go_wp2_with fail;refine (Ei x.name _ z0).mono ?_;rintro e w4 ⟨rfl,hb4⟩;have HX4:=qBk HX hb4;have HZ4:=qBk HZ hb4;have hB4:=qTr hB3 hb4;have c0:w4.cell? ⟨w.heap.size,0,none⟩=some (.string x.name):=HX4.out.cell rfl;have f0:=HX4.out.frozen 0;have HX5:Hid (Blk w.heap.size #[.string x.name,.int .i64 x.spare] 103 (w4.setCell ⟨w.heap.size,0,none⟩ (.string x.name))):=HX4.out.set 0 _;have HZ5:Hid (Blk (w.heap.size+1) #[.string ⟨#[]⟩,.int .i64 0] 103 (w4.setCell ⟨w.heap.size,0,none⟩ (.string x.name))):=HZ4.out.other (a:=⟨w.heap.size,0,none⟩) (show w.heap.size+1≠w.heap.size by omega) _;have hB5:Below w.heap.size w (w4.setCell ⟨w.heap.size,0,none⟩ (.string x.name)):=hB4.setCell (p:=⟨w.heap.size,0,none⟩) nL _;clear HX HZ hB3 hb4 k0;go_upto_region 2 with fail;clear c0 f0 HX4 HZ4 hB4;generalize w4.setCell ⟨w.heap.size,0,none⟩ (.string x.name)=w5 at *;obtain ⟨w8,HW8⟩:∃ w8,Hid (w8=w5.setCells (w.heap.size+1) 0 [.string x.name,.int .i64 x.spare]):=⟨_,rfl⟩;have HT:Hid (w5.there (w.heap.size+1) 0 2):=HZ5.out.there;have HR8:Hid (w8.rangeAt (w.heap.size+1) 0 [.string x.name,.int .i64 x.spare]):=by
  show World.rangeAt _ _ _ _
  rw [HW8.out];exact World.rangeAt_setCells_same _ _ _ _ HT
 have hB8:Below w.heap.size w w8:=by
  rw [HW8.out];exact Ad (by omega) _ _ _ hB5
 go_wp2_with (first | (refine qLk Tt HX5 ?_) | (refine Ag rfl 103 _ _ rfl (w.heap.size+1) 0 #[.string x.name,.int .i64 x.spare] rfl rfl HT Gc (by simp [Value.oneCell']) w8 HW8 ?_));exact bodyPost_ret (Av rfl _ _ (w.heap.size+1) [.string x.name,.int .i64 x.spare] _ rfl HR8 underlying103 rfl Gc) rfl ⟨rfl,hB8⟩
theorem jO (xs:List Lik) (ad:Addr) (cap lo:Nat) (w:World) (hin:SliceC LikC 2 lo w (some ad) xs) (hsm:xs.length≤1048576) :
  Calls prog 138 #[.slice (some ad) xs.length cap] w fun e w'=>∃ g c,e=.returned (.slice (some ⟨g,0,none⟩) xs.length c)∧w'.ownsRow w.heap.size 143 2 (.slice (some ⟨g,0,none⟩) xs.length c) xs.length (Ec xs)∧Below w.heap.size w w':=by
 obtain ⟨i0,hi,hz0,hz1,hz2⟩:=info_parts Sx;have q22:∀ (w:World) (a:OA) (n c n' c':Nat),(binOp .eql 53 (.slice a n c) (.slice none n' c')).run prog w=.ok (.bool a.isNone) w:=fun w a n c n' c'=>Lib.run_eql_slice_nil w _ _ a n c n' c' underlying53
 have HS:Hid (∀ j u,(Ec xs)[j]?=some u→w.cell? (ad.add j)=some u):=cX hin ad rfl;clear hin;go_enter func138,ntmps138;go_wp2_with (at_builtin;refine wpList_append_own _ rfl _ _ 53 rfl w.heap.size 143 i0 _ 2 24 underlying53 hi hz0 hz1 hz2 rfl (by decide) _ _ _ rfl (World.ownsRow_made w #[] 0 nL (zL) rfl) ad xs.length _ (Ec xs) rfl (by rw [Je]) (fun j u hj=>Lib.cell?_alloc_some _ (HS j u hj)) (Pr xs) (by unfold maxLen;omega) (by omega) (by simp) ?_;intro v' w1 hown hgrow hnil);have hv:v'≠.slice none 0 0:=fun e=>by have:=(hnil.1 e).1;cases this
 have hown':w1.ownsRow w.heap.size 143 2 v' xs.length (Ec xs):=by simpa using hown
 obtain ⟨g,c,rfl⟩:=Vh hown' hv;have HO:=iH hown';have hB:Below w.heap.size w w1:=((Below.refl _ w).alloc nL _).grown hgrow (by simp) (by intro k hk;cases hk;exact Nat.le_refl _);clear hown hgrow hnil hv hown';go_wp2_with fail;go_ret;exact ⟨g,c,rfl,HO,hB⟩
theorem eL (cap:Nat) (w:World) :
  Calls prog 138 #[.slice none 0 cap] w (Rt (.slice none 0 0) w):=by
 have q22:∀ (w:World) (a:OA) (n c n' c':Nat),(binOp .eql 53 (.slice a n c) (.slice none n' c')).run prog w=.ok (.bool a.isNone) w:=fun w a n c n' c'=>Lib.run_eql_slice_nil w _ _ a n c n' c' underlying53
 go_enter func138,ntmps138;go_wp2_with fail;go_ret;exact ⟨rfl,Below.refl _ _⟩
theorem fF (f:Value) (cap:Nat) (w:World) :
  Calls prog 110 #[.slice none 0 cap,f] w (Rt (.slice none 0 0) w):=by
 go_enter func110,ntmps110;go_wp2_with fail;refine (eL cap _).mono ?_;rintro e w1 ⟨rfl,hb⟩;have HB:=iH hb;clear hb;go_wp2_with fail;go_loopw [11] (fun i wr=>i=.int .i64 0∧Below w.heap.size w wr) (fun i _=>0)
 case atStart=>exact ⟨rfl,HB⟩
 case round =>
  obtain ⟨rfl,hB⟩:=hrel;go_wp2_with fail;go_ret;exact ⟨rfl,hB⟩
theorem kX (xs:List Lik) (ad:Addr) (cap lo:Nat) (w:World) (hin:SliceC LikC 2 lo w (some ad) xs) (hsm:xs.length≤1048576) (hz:Wd xs 1048576) :
  Calls prog 110 #[.slice (some ad) xs.length cap,.func (.func 111) #[] #[]] w fun e w'=>∃ g q,e=.returned (.slice (some ⟨g,0,none⟩) xs.length q)∧w'.ownsRow w.heap.size 143 2 (.slice (some ⟨g,0,none⟩) xs.length q) xs.length (Ec xs)∧Below w.heap.size w w':=by
 have HI:=iH hin;have HZ:=iH hz;clear hin hz;go_enter func110,ntmps110;go_wp2_with fail;refine (jO xs ad cap lo _ HI hsm).mono ?_;rintro e w1 ⟨g,q,rfl,hO1,hB1⟩;have HO1:=iH hO1;clear hO1;go_wp2_with fail;go_loopw [11] (fun i wr=>∃ k:Nat,k≤xs.length∧i=.int .i64 k∧Hid (wr.ownsRow w.heap.size 143 2 (.slice (some ⟨g,0,none⟩) xs.length q) xs.length (Ec xs))∧Below w.heap.size w wr) (fun i _=>xs.length - (intOf i).toNat)
 case atStart=>exact ⟨0,zL,rfl,HO1,hB1⟩
 case round =>
  clear HO1 hB1;obtain ⟨k,hk,rfl,HO,hB⟩:=hrel;by_cases hlt:k<xs.length
  ·obtain ⟨x,hx⟩:=gXe hlt
   have HXX:=iH hx;have Z:=iH (HZ x (List.mem_of_getElem? hx));have hgl:g<wr.heap.size:=(HO.out.lt g rfl).2;have hgb:w.heap.size≤g:=cT HO;have HRA:Hid (wr.rangeAt g (k*2) [.string x.select,.int .i64 x.weight]):=fun j v hv=>by
    have hj:j<2:=Ah hv;have h1:=HO.out.cellAt (k*2+j) (by omega);rw [Oi _ k x j hx hj] at h1;exact h1.trans hv
   clear hx;have hza:=Blk.alloc wr #[.string ⟨#[]⟩,.int .i64 0] 143;have HTS:Hid ((wr.alloc (Obj.cells #[.string ⟨#[]⟩,.int .i64 0] 143)).there wr.heap.size 0 2):=hza.there;obtain ⟨w4,HW4⟩:∃ w4,Hid (w4=(wr.alloc (Obj.cells #[.string ⟨#[]⟩,.int .i64 0] 143)).setCells wr.heap.size 0 [.string x.select,.int .i64 x.weight]):=⟨_,rfl⟩;have HK4:Hid (Blk wr.heap.size #[.string x.select,.int .i64 x.weight] 143 w4):=by
    show Blk _ _ _ _
    rw [HW4.out];exact hza.setAll #[.string x.select,.int .i64 x.weight] rfl
   have hbx:Below wr.heap.size wr w4:=by
    rw [HW4.out];exact Ad nL _ _ _ ((Below.refl _ wr).alloc nL _)
   have hB4:=qTr hB hbx;have HO4:=iH (Ap HO hbx);clear hza hbx HO hB;go_upto_region 5 with (first | (refine qLr pZ HRA ?_) | (refine Ag rfl 143 _ _ rfl wr.heap.size 0 #[.string x.select,.int .i64 x.weight] rfl rfl HTS Lw (by simp [Value.oneCell']) w4 HW4 ?_));clear HRA HTS HW4;go_wp2_with (first | (refine qLk pZ HK4 ?_));refine (jS x _ Z).mono ?_;rintro e w5 ⟨rfl,hb5⟩;have HO5:=iH (Ap HO4 hb5);have hB5:=qTr hB4 hb5;clear hb5 hB4 HO4 HK4;have HT5:Hid (w5.there g (k*2) 2):=Di HO5 (by rw [Je];omega);obtain ⟨w6,HW6⟩:∃ w6,Hid (w6=w5.setCells g (k*2) (Lt x)):=⟨_,rfl⟩;have HO6:Hid (w6.ownsRow w.heap.size 143 2 (.slice (some ⟨g,0,none⟩) xs.length q) xs.length (Ec xs)):=by
    have h:=Ds (Lt x) _ (k*2) _ HO5;rw [Tp xs k x HXX.out,← HW6.out] at h;exact h
   have hB6:Below w.heap.size w w6:=by
    rw [HW6.out];exact Ad hgb _ _ _ hB5
   unfold Lt at HW6;clear hB5 HO5;have i0:(0:Int)≤(k:Int):=by omega
   have i1:(k:Int)<(xs.length:Int):=by omega
   go_wp2_with (first | (refine Ag rfl 143 _ _ rfl g (k*2) #[.string x.select,.int .i64 x.weight] (by first | rfl | (simp [go_sem];done)) rfl HT5 Lw (by simp [Value.oneCell']) w6 HW6 ?_));go_roundw
   case rel=>exact ⟨k+1,by omega,by go_num,HO6,hB6⟩
   case measure=>simp [intOf];omega
  ·have hke:k=xs.length:=by omega
   subst hke;go_wp2_with fail;go_ret;exact ⟨g,q,rfl,HO,hB⟩
theorem Zu (xs:List Lik) (a:OA) (cap lo:Nat) (w:World) (hin:SliceC LikC 2 lo w a xs) (hsm:xs.length≤1048576) (hz:Wd xs 1048576) :
  Calls prog 110 #[.slice a xs.length cap,.func (.func 111) #[] #[]] w fun e w'=>∃ g q,e=.returned (.slice g xs.length q)∧w'.ownsRow w.heap.size 143 2 (.slice g xs.length q) xs.length (Ec xs)∧Below w.heap.size w w':=by
 cases a with
 | none =>
  have h0:xs=[]:=List.length_eq_zero_iff.1 (hin.nilD rfl);subst h0;refine (fF _ cap w).mono ?_;rintro e w1 ⟨rfl,hb⟩;exact ⟨none,0,rfl,World.ownsRow_nil _ _ _ _,hb⟩
 | some ad =>
  refine (kX xs ad cap lo w hin hsm hz).mono ?_;rintro e w1 ⟨g,q,rfl,hO,hb⟩;exact ⟨some ⟨g,0,none⟩,q,rfl,hO,hb⟩
theorem kZ (xs:List Svc) (ad:Addr) (cap lo:Nat) (w:World) (hin:SliceC SvcC 2 lo w (some ad) xs) (hsm:xs.length≤1048576) :
  Calls prog 108 #[.slice (some ad) xs.length cap] w fun e w'=>∃ g c,e=.returned (.slice (some ⟨g,0,none⟩) xs.length c)∧w'.ownsRow w.heap.size 103 2 (.slice (some ⟨g,0,none⟩) xs.length c) xs.length (Dq xs)∧Below w.heap.size w w':=by
 obtain ⟨i0,hi,hz0,hz1,hz2⟩:=info_parts Uq;have q22:∀ (w:World) (a:OA) (n c n' c':Nat),(binOp .eql 33 (.slice a n c) (.slice none n' c')).run prog w=.ok (.bool a.isNone) w:=fun w a n c n' c'=>Lib.run_eql_slice_nil w _ _ a n c n' c' underlying33
 have HS:Hid (∀ j u,(Dq xs)[j]?=some u→w.cell? (ad.add j)=some u):=qD hin ad rfl;clear hin;go_enter func108,ntmps108;go_wp2_with (at_builtin;refine wpList_append_own _ rfl _ _ 33 rfl w.heap.size 103 i0 _ 2 24 underlying33 hi hz0 hz1 hz2 rfl (by decide) _ _ _ rfl (World.ownsRow_made w #[] 0 nL (zL) rfl) ad xs.length _ (Dq xs) rfl (by rw [Fv]) (fun j u hj=>Lib.cell?_alloc_some _ (HS j u hj)) (Jj xs) (by unfold maxLen;omega) (by omega) (by simp) ?_;intro v' w1 hown hgrow hnil);have hv:v'≠.slice none 0 0:=fun e=>by have:=(hnil.1 e).1;cases this
 have hown':w1.ownsRow w.heap.size 103 2 v' xs.length (Dq xs):=by simpa using hown
 obtain ⟨g,c,rfl⟩:=Vh hown' hv;have HO:=iH hown';have hB:Below w.heap.size w w1:=((Below.refl _ w).alloc nL _).grown hgrow (by simp) (by intro k hk;cases hk;exact Nat.le_refl _);clear hown hgrow hnil hv hown';go_wp2_with fail;go_ret;exact ⟨g,c,rfl,HO,hB⟩
theorem eY (cap:Nat) (w:World) :
  Calls prog 108 #[.slice none 0 cap] w (Rt (.slice none 0 0) w):=by
 have q22:∀ (w:World) (a:OA) (n c n' c':Nat),(binOp .eql 33 (.slice a n c) (.slice none n' c')).run prog w=.ok (.bool a.isNone) w:=fun w a n c n' c'=>Lib.run_eql_slice_nil w _ _ a n c n' c' underlying33
 go_enter func108,ntmps108;go_wp2_with fail;go_ret;exact ⟨rfl,Below.refl _ _⟩
theorem dY (f:Value) (cap:Nat) (w:World) :
  Calls prog 73 #[.slice none 0 cap,f] w (Rt (.slice none 0 0) w):=by
 go_enter func73,ntmps73;go_wp2_with fail;refine (eY cap _).mono ?_;rintro e w1 ⟨rfl,hb⟩;have HB:=iH hb;clear hb;go_wp2_with fail;go_loopw [11] (fun i wr=>i=.int .i64 0∧Below w.heap.size w wr) (fun i _=>0)
 case atStart=>exact ⟨rfl,HB⟩
 case round =>
  obtain ⟨rfl,hB⟩:=hrel;go_wp2_with fail;go_ret;exact ⟨rfl,hB⟩
theorem mJ (xs:List Svc) (ad:Addr) (cap lo:Nat) (w:World) (hin:SliceC SvcC 2 lo w (some ad) xs) (hsm:xs.length≤1048576) (hz:Uf xs 1048576) :
  Calls prog 73 #[.slice (some ad) xs.length cap,.func (.func 74) #[] #[]] w fun e w'=>∃ g q,e=.returned (.slice (some ⟨g,0,none⟩) xs.length q)∧w'.ownsRow w.heap.size 103 2 (.slice (some ⟨g,0,none⟩) xs.length q) xs.length (Dq xs)∧Below w.heap.size w w':=by
 have HI:=iH hin;have HZ:=iH hz;clear hin hz;go_enter func73,ntmps73;go_wp2_with fail;refine (kZ xs ad cap lo _ HI hsm).mono ?_;rintro e w1 ⟨g,q,rfl,hO1,hB1⟩;have HO1:=iH hO1;clear hO1;go_wp2_with fail;go_loopw [11] (fun i wr=>∃ k:Nat,k≤xs.length∧i=.int .i64 k∧Hid (wr.ownsRow w.heap.size 103 2 (.slice (some ⟨g,0,none⟩) xs.length q) xs.length (Dq xs))∧Below w.heap.size w wr) (fun i _=>xs.length - (intOf i).toNat)
 case atStart=>exact ⟨0,zL,rfl,HO1,hB1⟩
 case round =>
  clear HO1 hB1;obtain ⟨k,hk,rfl,HO,hB⟩:=hrel;by_cases hlt:k<xs.length
  ·obtain ⟨x,hx⟩:=gXe hlt
   have HXX:=iH hx;have Z:=iH (HZ x (List.mem_of_getElem? hx));have hgl:g<wr.heap.size:=(HO.out.lt g rfl).2;have hgb:w.heap.size≤g:=cT HO;have HRA:Hid (wr.rangeAt g (k*2) [.string x.name,.int .i64 x.spare]):=fun j v hv=>by
    have hj:j<2:=Ah hv;have h1:=HO.out.cellAt (k*2+j) (by omega);rw [Ot _ k x j hx hj] at h1;exact h1.trans hv
   clear hx;have hza:=Blk.alloc wr #[.string ⟨#[]⟩,.int .i64 0] 103;have HTS:Hid ((wr.alloc (Obj.cells #[.string ⟨#[]⟩,.int .i64 0] 103)).there wr.heap.size 0 2):=hza.there;obtain ⟨w4,HW4⟩:∃ w4,Hid (w4=(wr.alloc (Obj.cells #[.string ⟨#[]⟩,.int .i64 0] 103)).setCells wr.heap.size 0 [.string x.name,.int .i64 x.spare]):=⟨_,rfl⟩;have HK4:Hid (Blk wr.heap.size #[.string x.name,.int .i64 x.spare] 103 w4):=by
    show Blk _ _ _ _
    rw [HW4.out];exact hza.setAll #[.string x.name,.int .i64 x.spare] rfl
   have hbx:Below wr.heap.size wr w4:=by
    rw [HW4.out];exact Ad nL _ _ _ ((Below.refl _ wr).alloc nL _)
   have hB4:=qTr hB hbx;have HO4:=iH (Ap HO hbx);clear hza hbx HO hB;go_upto_region 5 with (first | (refine qLr Tt HRA ?_) | (refine Ag rfl 103 _ _ rfl wr.heap.size 0 #[.string x.name,.int .i64 x.spare] rfl rfl HTS Gc (by simp [Value.oneCell']) w4 HW4 ?_));clear HRA HTS HW4;go_wp2_with (first | (refine qLk Tt HK4 ?_));refine (mF x _ Z).mono ?_;rintro e w5 ⟨rfl,hb5⟩;have HO5:=iH (Ap HO4 hb5);have hB5:=qTr hB4 hb5;clear hb5 hB4 HO4 HK4;have HT5:Hid (w5.there g (k*2) 2):=Di HO5 (by rw [Fv];omega);obtain ⟨w6,HW6⟩:∃ w6,Hid (w6=w5.setCells g (k*2) (Lf x)):=⟨_,rfl⟩;have HO6:Hid (w6.ownsRow w.heap.size 103 2 (.slice (some ⟨g,0,none⟩) xs.length q) xs.length (Dq xs)):=by
    have h:=Ds (Lf x) _ (k*2) _ HO5;rw [Sn xs k x HXX.out,← HW6.out] at h;exact h
   have hB6:Below w.heap.size w w6:=by
    rw [HW6.out];exact Ad hgb _ _ _ hB5
   unfold Lf at HW6;clear hB5 HO5;have i0:(0:Int)≤(k:Int):=by omega
   have i1:(k:Int)<(xs.length:Int):=by omega
   go_wp2_with (first | (refine Ag rfl 103 _ _ rfl g (k*2) #[.string x.name,.int .i64 x.spare] (by first | rfl | (simp [go_sem];done)) rfl HT5 Gc (by simp [Value.oneCell']) w6 HW6 ?_));go_roundw
   case rel=>exact ⟨k+1,by omega,by go_num,HO6,hB6⟩
   case measure=>simp [intOf];omega
  ·have hke:k=xs.length:=by omega
   subst hke;go_wp2_with fail;go_ret;exact ⟨g,q,rfl,HO,hB⟩
theorem bJ (xs:List Svc) (a:OA) (cap lo:Nat) (w:World) (hin:SliceC SvcC 2 lo w a xs) (hsm:xs.length≤1048576) (hz:Uf xs 1048576) :
  Calls prog 73 #[.slice a xs.length cap,.func (.func 74) #[] #[]] w fun e w'=>∃ g q,e=.returned (.slice g xs.length q)∧w'.ownsRow w.heap.size 103 2 (.slice g xs.length q) xs.length (Dq xs)∧Below w.heap.size w w':=by
 cases a with
 | none =>
  have h0:xs=[]:=List.length_eq_zero_iff.1 (hin.nilD rfl);subst h0;refine (dY _ cap w).mono ?_;rintro e w1 ⟨rfl,hb⟩;exact ⟨none,0,rfl,World.ownsRow_nil _ _ _ _,hb⟩
 | some ad =>
  refine (mJ xs ad cap lo w hin hsm hz).mono ?_;rintro e w1 ⟨g,q,rfl,hO,hb⟩;exact ⟨some ⟨g,0,none⟩,q,rfl,hO,hb⟩
theorem jQ (xs:List BA) (ad:Addr) (cap lo:Nat) (w:World) (hin:SliceC StrC 1 lo w (some ad) xs) (hsm:xs.length≤1048576) :
  Calls prog 137 #[.slice (some ad) xs.length cap] w fun e w'=>∃ g c,e=.returned (.slice (some ⟨g,0,none⟩) xs.length c)∧w'.ownsRow w.heap.size 9 1 (.slice (some ⟨g,0,none⟩) xs.length c) xs.length (Fc xs)∧Below w.heap.size w w':=by
 obtain ⟨i0,hi,hz0,hz1,hz2⟩:=info_parts Gx;have q22:∀ (w:World) (a:OA) (n c n' c':Nat),(binOp .eql 27 (.slice a n c) (.slice none n' c')).run prog w=.ok (.bool a.isNone) w:=fun w a n c n' c'=>Lib.run_eql_slice_nil w _ _ a n c n' c' underlying27
 have HS:Hid (∀ j u,(Fc xs)[j]?=some u→w.cell? (ad.add j)=some u):=dC hin ad rfl;clear hin;go_enter func137,ntmps137;go_wp2_with (at_builtin;refine wpList_append_own _ rfl _ _ 27 rfl w.heap.size 9 i0 _ 1 16 underlying27 hi hz0 hz1 hz2 rfl (by decide) _ _ _ rfl (World.ownsRow_made w #[] 0 nL (zL) rfl) ad xs.length _ (Fc xs) rfl (by rw [Ws]) (fun j u hj=>Lib.cell?_alloc_some _ (HS j u hj)) (Wv xs) (by unfold maxLen;omega) (by omega) (by simp) ?_;intro v' w1 hown hgrow hnil);have hv:v'≠.slice none 0 0:=fun e=>by have:=(hnil.1 e).1;cases this
 have hown':w1.ownsRow w.heap.size 9 1 v' xs.length (Fc xs):=by simpa using hown
 obtain ⟨g,c,rfl⟩:=Vh hown' hv;have HO:=iH hown';have hB:Below w.heap.size w w1:=((Below.refl _ w).alloc nL _).grown hgrow (by simp) (by intro k hk;cases hk;exact Nat.le_refl _);clear hown hgrow hnil hv hown';go_wp2_with fail;go_ret;exact ⟨g,c,rfl,HO,hB⟩
theorem eP (cap:Nat) (w:World) :
  Calls prog 137 #[.slice none 0 cap] w (Rt (.slice none 0 0) w):=by
 have q22:∀ (w:World) (a:OA) (n c n' c':Nat),(binOp .eql 27 (.slice a n c) (.slice none n' c')).run prog w=.ok (.bool a.isNone) w:=fun w a n c n' c'=>Lib.run_eql_slice_nil w _ _ a n c n' c' underlying27
 go_enter func137,ntmps137;go_wp2_with fail;go_ret;exact ⟨rfl,Below.refl _ _⟩
theorem fL (f:Value) (cap:Nat) (w:World) :
  Calls prog 107 #[.slice none 0 cap,f] w (Rt (.slice none 0 0) w):=by
 go_enter func107,ntmps107;go_wp2_with fail;refine (eP cap _).mono ?_;rintro e w1 ⟨rfl,hb⟩;have HB:=iH hb;clear hb;go_wp2_with fail;go_loopw [11] (fun i wr=>i=.int .i64 0∧Below w.heap.size w wr) (fun i _=>0)
 case atStart=>exact ⟨rfl,HB⟩
 case round =>
  obtain ⟨rfl,hB⟩:=hrel;go_wp2_with fail;go_ret;exact ⟨rfl,hB⟩
theorem mL (xs:List BA) (ad:Addr) (cap lo:Nat) (w:World) (hin:SliceC StrC 1 lo w (some ad) xs) (hsm:xs.length≤1048576) (hz:Xf xs 1048576) :
  Calls prog 107 #[.slice (some ad) xs.length cap,.func (.func 106) #[] #[]] w fun e w'=>∃ g q,e=.returned (.slice (some ⟨g,0,none⟩) xs.length q)∧w'.ownsRow w.heap.size 9 1 (.slice (some ⟨g,0,none⟩) xs.length q) xs.length (Fc xs)∧Below w.heap.size w w':=by
 have HI:=iH hin;have HZ:=iH hz;clear hin hz;go_enter func107,ntmps107;go_wp2_with fail;refine (jQ xs ad cap lo _ HI hsm).mono ?_;rintro e w1 ⟨g,q,rfl,hO1,hB1⟩;have HO1:=iH hO1;clear hO1;go_wp2_with fail;go_loopw [11] (fun i wr=>∃ k:Nat,k≤xs.length∧i=.int .i64 k∧Hid (wr.ownsRow w.heap.size 9 1 (.slice (some ⟨g,0,none⟩) xs.length q) xs.length (Fc xs))∧Below w.heap.size w wr) (fun i _=>xs.length - (intOf i).toNat)
 case atStart=>exact ⟨0,zL,rfl,HO1,hB1⟩
 case round =>
  clear HO1 hB1;obtain ⟨k,hk,rfl,HO,hB⟩:=hrel;by_cases hlt:k<xs.length
  ·obtain ⟨x,hx⟩:=gXe hlt
   have Z:=iH (HZ x (List.mem_of_getElem? hx));have hgl:g<wr.heap.size:=(HO.out.lt g rfl).2;have hgb:w.heap.size≤g:=cT HO;have HSE:Hid ((Fc xs).set k (.string x)=Fc xs):=by
    show _=_
    refine List.ext_getElem? (fun j=>?_);by_cases e:k=j
    ·subst e
     rw [List.getElem?_set_self (by simpa using hlt),List.getElem?_map,hx];rfl
    ·rw [List.getElem?_set_ne e]
   have c0:wr.cell? ⟨g,k,none⟩=some (.string x):=by
    rw [HO.out.cellAt k (by omega),List.getElem?_map,hx];rfl
   clear hx;have i0:(0:Int)≤(k:Int):=by omega
   have i1:(k:Int)<(xs.length:Int):=by omega
   go_upto_region 5 with fail;clear c0;go_wp2_with fail;refine (Ei x _ Z).mono ?_;rintro e w5 ⟨rfl,hb5⟩;have HO5:=iH (Ap HO hb5);have hB5:=qTr hB hb5;have c5:w5.cell? ⟨g,k,none⟩=some ((Fc xs)[k]'(by simpa using hlt)):=(HO5.out.cellAt k (by omega)).trans (gE (by simpa using hlt));have f5:=HO5.out.frozenAt k;have HO6:Hid ((w5.setCell ⟨g,k,none⟩ (.string x)).ownsRow w.heap.size 9 1 (.slice (some ⟨g,0,none⟩) xs.length q) xs.length (Fc xs)):=by
    have h:=(HO5.out.stored k (.string x)).1;rw [HSE.out] at h;exact h
   have hB6:Below w.heap.size w (w5.setCell ⟨g,k,none⟩ (.string x)):=hB5.setCell (p:=⟨g,k,none⟩) hgb _;clear hb5 hB HO HO5 hB5;go_wp2_with fail;go_roundw
   case rel=>exact ⟨k+1,by omega,by go_num,HO6,hB6⟩
   case measure=>simp [intOf];omega
  ·have hke:k=xs.length:=by omega
   subst hke;go_wp2_with fail;go_ret;exact ⟨g,q,rfl,HO,hB⟩
theorem Zy (xs:List BA) (a:OA) (cap lo:Nat) (w:World) (hin:SliceC StrC 1 lo w a xs) (hsm:xs.length≤1048576) (hz:Xf xs 1048576) :
  Calls prog 107 #[.slice a xs.length cap,.func (.func 106) #[] #[]] w fun e w'=>∃ g q,e=.returned (.slice g xs.length q)∧w'.ownsRow w.heap.size 9 1 (.slice g xs.length q) xs.length (Fc xs)∧Below w.heap.size w w':=by
 cases a with
 | none =>
  have h0:xs=[]:=List.length_eq_zero_iff.1 (hin.nilD rfl);subst h0;refine (fL _ cap w).mono ?_;rintro e w1 ⟨rfl,hb⟩;exact ⟨none,0,rfl,World.ownsRow_nil _ _ _ _,hb⟩
 | some ad =>
  refine (mL xs ad cap lo w hin hsm hz).mono ?_;rintro e w1 ⟨g,q,rfl,hO,hb⟩;exact ⟨some ⟨g,0,none⟩,q,rfl,hO,hb⟩
end Go.Proofs.YtjoeojhdkoidbaaGreat
