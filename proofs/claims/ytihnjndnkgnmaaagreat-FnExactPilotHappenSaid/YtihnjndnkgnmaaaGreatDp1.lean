import Derived.Test.YtihnjndnkgnmaaaGreatJ9
import Derived.Test.YtihnjndnkgnmaaaGreatJ16
set_option maxHeartbeats 4000000
namespace Go.Proofs.YtihnjndnkgnmaaaGreat
set_option maxRecDepth 100000
open Go.RowKit
theorem Fe (s:BA) (w:World) (hs:s.size≤1048576) :
  Calls Tryz.prog 103 #[.string s] w (Rt (.string s) w):=by
 go_enter Tryz.func103,Tryz.ntmps103;go_wp2_with fail;refine (Any.stringslite_Clone jM s w (by omega)).mono ?_;rintro e w1 ⟨rfl,hb⟩;go_wp2_with fail;go_ret;exact ⟨rfl,hb⟩
theorem dR (x:Lik) (w:World) (z0:x.select.size≤1048576) :
  Calls Tryz.prog 108 #[.agg #[.string x.select,.int .i64 x.weight]] w (Rt (.agg #[.string x.select,.int .i64 x.weight]) w):=by
 have hB3:=bl2 w #[.string x.select,.int .i64 x.weight] 125 #[.string ⟨#[]⟩,.int .i64 0] 125;have h1:=Blk.alloc w #[.string x.select,.int .i64 x.weight] 125;have HX:=iH (h1.below ((Below.refl _ _).alloc nL (Obj.cells #[.string ⟨#[]⟩,.int .i64 0] 125)) h1.lt);have HZ:=al2 w #[.string x.select,.int .i64 x.weight] 125 #[.string ⟨#[]⟩,.int .i64 0] 125;clear h1;go_enter Tryz.func108,Tryz.ntmps108;go_upto_region 1 with fail;generalize ((w.alloc (Obj.cells #[.string x.select,.int .i64 x.weight] 125)).alloc (Obj.cells #[.string ⟨#[]⟩,.int .i64 0] 125))=w3 at *;have k0:w3.cell? ⟨w.heap.size,0,none⟩=some (.string x.select):=HX.out.cell rfl;go_wp2_with fail;refine (Fe x.select _ z0).mono ?_;rintro e w4 ⟨rfl,hb4⟩;have HX4:=qb HX hb4;have HZ4:=qb HZ hb4;have hB4:=qt hB3 hb4;have c0:w4.cell? ⟨w.heap.size,0,none⟩=some (.string x.select):=HX4.out.cell rfl;have f0:=HX4.out.frozen 0;have HX5:Hid (Blk w.heap.size #[.string x.select,.int .i64 x.weight] 125 (w4.setCell ⟨w.heap.size,0,none⟩ (.string x.select))):=HX4.out.set 0 _;have HZ5:Hid (Blk (w.heap.size+1) #[.string ⟨#[]⟩,.int .i64 0] 125 (w4.setCell ⟨w.heap.size,0,none⟩ (.string x.select))):=HZ4.out.other (a:=⟨w.heap.size,0,none⟩) (show w.heap.size+1≠w.heap.size by omega) _;have hB5:Below w.heap.size w (w4.setCell ⟨w.heap.size,0,none⟩ (.string x.select)):=hB4.setCell (p:=⟨w.heap.size,0,none⟩) nL _;clear HX HZ hB3 hb4 k0;go_upto_region 2 with fail;clear c0 f0 HX4 HZ4 hB4;generalize w4.setCell ⟨w.heap.size,0,none⟩ (.string x.select)=w5 at *;obtain ⟨w8,HW8⟩:∃ w8,Hid (w8=w5.setCells (w.heap.size+1) 0 [.string x.select,.int .i64 x.weight]):=⟨_,rfl⟩;have HT:Hid (w5.there (w.heap.size+1) 0 2):=HZ5.out.there;have HR8:Hid (w8.rangeAt (w.heap.size+1) 0 [.string x.select,.int .i64 x.weight]):=by
  show World.rangeAt _ _ _ _
  rw [HW8.out];exact World.rangeAt_setCells_same _ _ _ _ HT
 have hB8:Below w.heap.size w w8:=by
  rw [HW8.out];exact Ac (by omega) _ _ _ hB5
 go_wp2_with (first | (refine lk fB HX5 ?_) | (refine Ad rfl 125 _ _ rfl (w.heap.size+1) 0 #[.string x.select,.int .i64 x.weight] rfl rfl HT Jw (by simp [Value.oneCell']) w8 HW8 ?_));exact bodyPost_ret (Ax rfl _ _ (w.heap.size+1) [.string x.select,.int .i64 x.weight] _ rfl HR8 Tryz.underlying125 rfl Jw) rfl ⟨rfl,hB8⟩
theorem cD (x:Svc) (w:World) (z0:x.name.size≤1048576) :
  Calls Tryz.prog 69 #[.agg #[.string x.name,.int .i64 x.spare]] w (Rt (.agg #[.string x.name,.int .i64 x.spare]) w):=by
 have hB3:=bl2 w #[.string x.name,.int .i64 x.spare] 94 #[.string ⟨#[]⟩,.int .i64 0] 94;have h1:=Blk.alloc w #[.string x.name,.int .i64 x.spare] 94;have HX:=iH (h1.below ((Below.refl _ _).alloc nL (Obj.cells #[.string ⟨#[]⟩,.int .i64 0] 94)) h1.lt);have HZ:=al2 w #[.string x.name,.int .i64 x.spare] 94 #[.string ⟨#[]⟩,.int .i64 0] 94;clear h1;go_enter Tryz.func69,Tryz.ntmps69;go_upto_region 1 with fail;generalize ((w.alloc (Obj.cells #[.string x.name,.int .i64 x.spare] 94)).alloc (Obj.cells #[.string ⟨#[]⟩,.int .i64 0] 94))=w3 at *;have k0:w3.cell? ⟨w.heap.size,0,none⟩=some (.string x.name):=HX.out.cell rfl;go_wp2_with fail;refine (Fe x.name _ z0).mono ?_;rintro e w4 ⟨rfl,hb4⟩;have HX4:=qb HX hb4;have HZ4:=qb HZ hb4;have hB4:=qt hB3 hb4;have c0:w4.cell? ⟨w.heap.size,0,none⟩=some (.string x.name):=HX4.out.cell rfl;have f0:=HX4.out.frozen 0;have HX5:Hid (Blk w.heap.size #[.string x.name,.int .i64 x.spare] 94 (w4.setCell ⟨w.heap.size,0,none⟩ (.string x.name))):=HX4.out.set 0 _;have HZ5:Hid (Blk (w.heap.size+1) #[.string ⟨#[]⟩,.int .i64 0] 94 (w4.setCell ⟨w.heap.size,0,none⟩ (.string x.name))):=HZ4.out.other (a:=⟨w.heap.size,0,none⟩) (show w.heap.size+1≠w.heap.size by omega) _;have hB5:Below w.heap.size w (w4.setCell ⟨w.heap.size,0,none⟩ (.string x.name)):=hB4.setCell (p:=⟨w.heap.size,0,none⟩) nL _;clear HX HZ hB3 hb4 k0;go_upto_region 2 with fail;clear c0 f0 HX4 HZ4 hB4;generalize w4.setCell ⟨w.heap.size,0,none⟩ (.string x.name)=w5 at *;obtain ⟨w8,HW8⟩:∃ w8,Hid (w8=w5.setCells (w.heap.size+1) 0 [.string x.name,.int .i64 x.spare]):=⟨_,rfl⟩;have HT:Hid (w5.there (w.heap.size+1) 0 2):=HZ5.out.there;have HR8:Hid (w8.rangeAt (w.heap.size+1) 0 [.string x.name,.int .i64 x.spare]):=by
  show World.rangeAt _ _ _ _
  rw [HW8.out];exact World.rangeAt_setCells_same _ _ _ _ HT
 have hB8:Below w.heap.size w w8:=by
  rw [HW8.out];exact Ac (by omega) _ _ _ hB5
 go_wp2_with (first | (refine lk Ofq HX5 ?_) | (refine Ad rfl 94 _ _ rfl (w.heap.size+1) 0 #[.string x.name,.int .i64 x.spare] rfl rfl HT Ff (by simp [Value.oneCell']) w8 HW8 ?_));exact bodyPost_ret (Ax rfl _ _ (w.heap.size+1) [.string x.name,.int .i64 x.spare] _ rfl HR8 Tryz.underlying94 rfl Ff) rfl ⟨rfl,hB8⟩
theorem dB (xs:List Lik) (ad:Addr) (cap lo:Nat) (w:World) (hin:SliceC LikC 2 lo w (some ad) xs) (hsm:xs.length≤1048576) :
  Calls Tryz.prog 127 #[.slice (some ad) xs.length cap] w fun e w'=>∃ g c,e=.returned (.slice (some ⟨g,0,none⟩) xs.length c)∧w'.ownsRow w.heap.size 125 2 (.slice (some ⟨g,0,none⟩) xs.length c) xs.length (Dd xs)∧Below w.heap.size w w':=by
 obtain ⟨i0,hi,hz0,hz1,hz2⟩:=info_parts Px;have q22:∀ (w:World) (a:OA) (n c n' c':Nat),(binOp .eql 46 (.slice a n c) (.slice none n' c')).run Tryz.prog w=.ok (.bool a.isNone) w:=fun w a n c n' c'=>Lib.run_eql_slice_nil w _ _ a n c n' c' Tryz.underlying46
 have HS:Hid (∀ j u,(Dd xs)[j]?=some u→w.cell? (ad.add j)=some u):=Uw hin ad rfl;clear hin;go_enter Tryz.func127,Tryz.ntmps127;go_wp2_with (at_builtin;refine wpList_append_own _ rfl _ _ 46 rfl w.heap.size 125 i0 _ 2 24 Tryz.underlying46 hi hz0 hz1 hz2 rfl (by decide) _ _ _ rfl (World.ownsRow_made w #[] 0 nL (zL) rfl) ad xs.length _ (Dd xs) rfl (by rw [Hk]) (fun j u hj=>Lib.cell?_alloc_some _ (HS j u hj)) (Mn xs) (by unfold maxLen;omega) (by omega) (by simp) ?_;intro v' w1 hown hgrow hnil);have hv:v'≠.slice none 0 0:=fun e=>by have:=(hnil.1 e).1;cases this
 have hown':w1.ownsRow w.heap.size 125 2 v' xs.length (Dd xs):=by simpa using hown
 obtain ⟨g,c,rfl⟩:=Dj hown' hv;have HO:=iH hown';have hB:Below w.heap.size w w1:=((Below.refl _ w).alloc nL _).grown hgrow (by simp) (by intro k hk;cases hk;exact Nat.le_refl _);clear hown hgrow hnil hv hown';go_wp2_with fail;go_ret;exact ⟨g,c,rfl,HO,hB⟩
theorem Xs (cap:Nat) (w:World) :
  Calls Tryz.prog 127 #[.slice none 0 cap] w (Rt (.slice none 0 0) w):=by
 have q22:∀ (w:World) (a:OA) (n c n' c':Nat),(binOp .eql 46 (.slice a n c) (.slice none n' c')).run Tryz.prog w=.ok (.bool a.isNone) w:=fun w a n c n' c'=>Lib.run_eql_slice_nil w _ _ a n c n' c' Tryz.underlying46
 go_enter Tryz.func127,Tryz.ntmps127;go_wp2_with fail;go_ret;exact ⟨rfl,Below.refl _ _⟩
theorem Yh (f:Value) (cap:Nat) (w:World) :
  Calls Tryz.prog 107 #[.slice none 0 cap,f] w (Rt (.slice none 0 0) w):=by
 go_enter Tryz.func107,Tryz.ntmps107;go_wp2_with fail;refine (Xs cap _).mono ?_;rintro e w1 ⟨rfl,hb⟩;have HB:=iH hb;clear hb;go_wp2_with fail;go_loopw [11] (fun i wr=>i=.int .i64 0∧Below w.heap.size w wr) (fun i _=>0)
 case atStart=>exact ⟨rfl,HB⟩
 case round =>
  obtain ⟨rfl,hB⟩:=hrel;go_wp2_with fail;go_ret;exact ⟨rfl,hB⟩
theorem bR (xs:List Lik) (ad:Addr) (cap lo:Nat) (w:World) (hin:SliceC LikC 2 lo w (some ad) xs) (hsm:xs.length≤1048576) (hz:Rp xs 1048576) :
  Calls Tryz.prog 107 #[.slice (some ad) xs.length cap,.func (.func 108) #[] #[]] w fun e w'=>∃ g q,e=.returned (.slice (some ⟨g,0,none⟩) xs.length q)∧w'.ownsRow w.heap.size 125 2 (.slice (some ⟨g,0,none⟩) xs.length q) xs.length (Dd xs)∧Below w.heap.size w w':=by
 have HI:=iH hin;have HZ:=iH hz;clear hin hz;go_enter Tryz.func107,Tryz.ntmps107;go_wp2_with fail;refine (dB xs ad cap lo _ HI hsm).mono ?_;rintro e w1 ⟨g,q,rfl,hO1,hB1⟩;have HO1:=iH hO1;clear hO1;go_wp2_with fail;go_loopw [11] (fun i wr=>∃ k:Nat,k≤xs.length∧i=.int .i64 k∧Hid (wr.ownsRow w.heap.size 125 2 (.slice (some ⟨g,0,none⟩) xs.length q) xs.length (Dd xs))∧Below w.heap.size w wr) (fun i _=>xs.length - (intOf i).toNat)
 case atStart=>exact ⟨0,zL,rfl,HO1,hB1⟩
 case round =>
  clear HO1 hB1;obtain ⟨k,hk,rfl,HO,hB⟩:=hrel;by_cases hlt:k<xs.length
  ·obtain ⟨x,hx⟩:=gX hlt
   have HXX:=iH hx;have Z:=iH (HZ x (List.mem_of_getElem? hx));have hgl:g<wr.heap.size:=(HO.out.lt g rfl).2;have hgb:w.heap.size≤g:=Ui HO;have HRA:Hid (wr.rangeAt g (k*2) [.string x.select,.int .i64 x.weight]):=fun j v hv=>by
    have hj:j<2:=Ae hv;have h1:=HO.out.cellAt (k*2+j) (by omega);rw [Lc _ k x j hx hj] at h1;exact h1.trans hv
   clear hx;have hza:=Blk.alloc wr #[.string ⟨#[]⟩,.int .i64 0] 125;have HTS:Hid ((wr.alloc (Obj.cells #[.string ⟨#[]⟩,.int .i64 0] 125)).there wr.heap.size 0 2):=hza.there;obtain ⟨w4,HW4⟩:∃ w4,Hid (w4=(wr.alloc (Obj.cells #[.string ⟨#[]⟩,.int .i64 0] 125)).setCells wr.heap.size 0 [.string x.select,.int .i64 x.weight]):=⟨_,rfl⟩;have HK4:Hid (Blk wr.heap.size #[.string x.select,.int .i64 x.weight] 125 w4):=by
    show Blk _ _ _ _
    rw [HW4.out];exact hza.setAll #[.string x.select,.int .i64 x.weight] rfl
   have hbx:Below wr.heap.size wr w4:=by
    rw [HW4.out];exact Ac nL _ _ _ ((Below.refl _ wr).alloc nL _)
   have hB4:=qt hB hbx;have HO4:=iH (Al HO hbx);clear hza hbx HO hB;go_upto_region 5 with (first | (refine lr fB HRA ?_) | (refine Ad rfl 125 _ _ rfl wr.heap.size 0 #[.string x.select,.int .i64 x.weight] rfl rfl HTS Jw (by simp [Value.oneCell']) w4 HW4 ?_));clear HRA HTS HW4;go_wp2_with (first | (refine lk fB HK4 ?_));refine (dR x _ Z).mono ?_;rintro e w5 ⟨rfl,hb5⟩;have HO5:=iH (Al HO4 hb5);have hB5:=qt hB4 hb5;clear hb5 hB4 HO4 HK4;have HT5:Hid (w5.there g (k*2) 2):=Ck HO5 (by rw [Hk];omega);obtain ⟨w6,HW6⟩:∃ w6,Hid (w6=w5.setCells g (k*2) (Ji x)):=⟨_,rfl⟩;have HO6:Hid (w6.ownsRow w.heap.size 125 2 (.slice (some ⟨g,0,none⟩) xs.length q) xs.length (Dd xs)):=by
    have h:=Cl (Ji x) _ (k*2) _ HO5;rw [Qf xs k x HXX.out,← HW6.out] at h;exact h
   have hB6:Below w.heap.size w w6:=by
    rw [HW6.out];exact Ac hgb _ _ _ hB5
   unfold Ji at HW6;clear hB5 HO5;have i0:(0:Int)≤(k:Int):=by omega
   have i1:(k:Int)<(xs.length:Int):=by omega
   go_wp2_with (first | (refine Ad rfl 125 _ _ rfl g (k*2) #[.string x.select,.int .i64 x.weight] (by first | rfl | (simp [go_sem];done)) rfl HT5 Jw (by simp [Value.oneCell']) w6 HW6 ?_));go_roundw
   case rel=>exact ⟨k+1,by omega,by go_num,HO6,hB6⟩
   case measure=>simp [intOf];omega
  ·have hke:k=xs.length:=by omega
   subst hke;go_wp2_with fail;go_ret;exact ⟨g,q,rfl,HO,hB⟩
theorem Wd (xs:List Lik) (a:OA) (cap lo:Nat) (w:World) (hin:SliceC LikC 2 lo w a xs) (hsm:xs.length≤1048576) (hz:Rp xs 1048576) :
  Calls Tryz.prog 107 #[.slice a xs.length cap,.func (.func 108) #[] #[]] w fun e w'=>∃ g q,e=.returned (.slice g xs.length q)∧w'.ownsRow w.heap.size 125 2 (.slice g xs.length q) xs.length (Dd xs)∧Below w.heap.size w w':=by
 cases a with
 | none =>
  have h0:xs=[]:=List.length_eq_zero_iff.1 (hin.nilD rfl);subst h0;refine (Yh _ cap w).mono ?_;rintro e w1 ⟨rfl,hb⟩;exact ⟨none,0,rfl,World.ownsRow_nil _ _ _ _,hb⟩
 | some ad =>
  refine (bR xs ad cap lo w hin hsm hz).mono ?_;rintro e w1 ⟨g,q,rfl,hO,hb⟩;exact ⟨some ⟨g,0,none⟩,q,rfl,hO,hb⟩
theorem bB (xs:List Svc) (ad:Addr) (cap lo:Nat) (w:World) (hin:SliceC SvcC 2 lo w (some ad) xs) (hsm:xs.length≤1048576) :
  Calls Tryz.prog 105 #[.slice (some ad) xs.length cap] w fun e w'=>∃ g c,e=.returned (.slice (some ⟨g,0,none⟩) xs.length c)∧w'.ownsRow w.heap.size 94 2 (.slice (some ⟨g,0,none⟩) xs.length c) xs.length (Cy xs)∧Below w.heap.size w w':=by
 obtain ⟨i0,hi,hz0,hz1,hz2⟩:=info_parts Pw;have q22:∀ (w:World) (a:OA) (n c n' c':Nat),(binOp .eql 38 (.slice a n c) (.slice none n' c')).run Tryz.prog w=.ok (.bool a.isNone) w:=fun w a n c n' c'=>Lib.run_eql_slice_nil w _ _ a n c n' c' Tryz.underlying38
 have HS:Hid (∀ j u,(Cy xs)[j]?=some u→w.cell? (ad.add j)=some u):=gF hin ad rfl;clear hin;go_enter Tryz.func105,Tryz.ntmps105;go_wp2_with (at_builtin;refine wpList_append_own _ rfl _ _ 38 rfl w.heap.size 94 i0 _ 2 24 Tryz.underlying38 hi hz0 hz1 hz2 rfl (by decide) _ _ _ rfl (World.ownsRow_made w #[] 0 nL (zL) rfl) ad xs.length _ (Cy xs) rfl (by rw [Et]) (fun j u hj=>Lib.cell?_alloc_some _ (HS j u hj)) (Hw xs) (by unfold maxLen;omega) (by omega) (by simp) ?_;intro v' w1 hown hgrow hnil);have hv:v'≠.slice none 0 0:=fun e=>by have:=(hnil.1 e).1;cases this
 have hown':w1.ownsRow w.heap.size 94 2 v' xs.length (Cy xs):=by simpa using hown
 obtain ⟨g,c,rfl⟩:=Dj hown' hv;have HO:=iH hown';have hB:Below w.heap.size w w1:=((Below.refl _ w).alloc nL _).grown hgrow (by simp) (by intro k hk;cases hk;exact Nat.le_refl _);clear hown hgrow hnil hv hown';go_wp2_with fail;go_ret;exact ⟨g,c,rfl,HO,hB⟩
theorem Yu (cap:Nat) (w:World) :
  Calls Tryz.prog 105 #[.slice none 0 cap] w (Rt (.slice none 0 0) w):=by
 have q22:∀ (w:World) (a:OA) (n c n' c':Nat),(binOp .eql 38 (.slice a n c) (.slice none n' c')).run Tryz.prog w=.ok (.bool a.isNone) w:=fun w a n c n' c'=>Lib.run_eql_slice_nil w _ _ a n c n' c' Tryz.underlying38
 go_enter Tryz.func105,Tryz.ntmps105;go_wp2_with fail;go_ret;exact ⟨rfl,Below.refl _ _⟩
theorem Xk (f:Value) (cap:Nat) (w:World) :
  Calls Tryz.prog 68 #[.slice none 0 cap,f] w (Rt (.slice none 0 0) w):=by
 go_enter Tryz.func68,Tryz.ntmps68;go_wp2_with fail;refine (Yu cap _).mono ?_;rintro e w1 ⟨rfl,hb⟩;have HB:=iH hb;clear hb;go_wp2_with fail;go_loopw [11] (fun i wr=>i=.int .i64 0∧Below w.heap.size w wr) (fun i _=>0)
 case atStart=>exact ⟨rfl,HB⟩
 case round =>
  obtain ⟨rfl,hB⟩:=hrel;go_wp2_with fail;go_ret;exact ⟨rfl,hB⟩
theorem dP (xs:List Svc) (ad:Addr) (cap lo:Nat) (w:World) (hin:SliceC SvcC 2 lo w (some ad) xs) (hsm:xs.length≤1048576) (hz:Ra xs 1048576) :
  Calls Tryz.prog 68 #[.slice (some ad) xs.length cap,.func (.func 69) #[] #[]] w fun e w'=>∃ g q,e=.returned (.slice (some ⟨g,0,none⟩) xs.length q)∧w'.ownsRow w.heap.size 94 2 (.slice (some ⟨g,0,none⟩) xs.length q) xs.length (Cy xs)∧Below w.heap.size w w':=by
 have HI:=iH hin;have HZ:=iH hz;clear hin hz;go_enter Tryz.func68,Tryz.ntmps68;go_wp2_with fail;refine (bB xs ad cap lo _ HI hsm).mono ?_;rintro e w1 ⟨g,q,rfl,hO1,hB1⟩;have HO1:=iH hO1;clear hO1;go_wp2_with fail;go_loopw [11] (fun i wr=>∃ k:Nat,k≤xs.length∧i=.int .i64 k∧Hid (wr.ownsRow w.heap.size 94 2 (.slice (some ⟨g,0,none⟩) xs.length q) xs.length (Cy xs))∧Below w.heap.size w wr) (fun i _=>xs.length - (intOf i).toNat)
 case atStart=>exact ⟨0,zL,rfl,HO1,hB1⟩
 case round =>
  clear HO1 hB1;obtain ⟨k,hk,rfl,HO,hB⟩:=hrel;by_cases hlt:k<xs.length
  ·obtain ⟨x,hx⟩:=gX hlt
   have HXX:=iH hx;have Z:=iH (HZ x (List.mem_of_getElem? hx));have hgl:g<wr.heap.size:=(HO.out.lt g rfl).2;have hgb:w.heap.size≤g:=Ui HO;have HRA:Hid (wr.rangeAt g (k*2) [.string x.name,.int .i64 x.spare]):=fun j v hv=>by
    have hj:j<2:=Ae hv;have h1:=HO.out.cellAt (k*2+j) (by omega);rw [Lr _ k x j hx hj] at h1;exact h1.trans hv
   clear hx;have hza:=Blk.alloc wr #[.string ⟨#[]⟩,.int .i64 0] 94;have HTS:Hid ((wr.alloc (Obj.cells #[.string ⟨#[]⟩,.int .i64 0] 94)).there wr.heap.size 0 2):=hza.there;obtain ⟨w4,HW4⟩:∃ w4,Hid (w4=(wr.alloc (Obj.cells #[.string ⟨#[]⟩,.int .i64 0] 94)).setCells wr.heap.size 0 [.string x.name,.int .i64 x.spare]):=⟨_,rfl⟩;have HK4:Hid (Blk wr.heap.size #[.string x.name,.int .i64 x.spare] 94 w4):=by
    show Blk _ _ _ _
    rw [HW4.out];exact hza.setAll #[.string x.name,.int .i64 x.spare] rfl
   have hbx:Below wr.heap.size wr w4:=by
    rw [HW4.out];exact Ac nL _ _ _ ((Below.refl _ wr).alloc nL _)
   have hB4:=qt hB hbx;have HO4:=iH (Al HO hbx);clear hza hbx HO hB;go_upto_region 5 with (first | (refine lr Ofq HRA ?_) | (refine Ad rfl 94 _ _ rfl wr.heap.size 0 #[.string x.name,.int .i64 x.spare] rfl rfl HTS Ff (by simp [Value.oneCell']) w4 HW4 ?_));clear HRA HTS HW4;go_wp2_with (first | (refine lk Ofq HK4 ?_));refine (cD x _ Z).mono ?_;rintro e w5 ⟨rfl,hb5⟩;have HO5:=iH (Al HO4 hb5);have hB5:=qt hB4 hb5;clear hb5 hB4 HO4 HK4;have HT5:Hid (w5.there g (k*2) 2):=Ck HO5 (by rw [Et];omega);obtain ⟨w6,HW6⟩:∃ w6,Hid (w6=w5.setCells g (k*2) (Jg x)):=⟨_,rfl⟩;have HO6:Hid (w6.ownsRow w.heap.size 94 2 (.slice (some ⟨g,0,none⟩) xs.length q) xs.length (Cy xs)):=by
    have h:=Cl (Jg x) _ (k*2) _ HO5;rw [Pe xs k x HXX.out,← HW6.out] at h;exact h
   have hB6:Below w.heap.size w w6:=by
    rw [HW6.out];exact Ac hgb _ _ _ hB5
   unfold Jg at HW6;clear hB5 HO5;have i0:(0:Int)≤(k:Int):=by omega
   have i1:(k:Int)<(xs.length:Int):=by omega
   go_wp2_with (first | (refine Ad rfl 94 _ _ rfl g (k*2) #[.string x.name,.int .i64 x.spare] (by first | rfl | (simp [go_sem];done)) rfl HT5 Ff (by simp [Value.oneCell']) w6 HW6 ?_));go_roundw
   case rel=>exact ⟨k+1,by omega,by go_num,HO6,hB6⟩
   case measure=>simp [intOf];omega
  ·have hke:k=xs.length:=by omega
   subst hke;go_wp2_with fail;go_ret;exact ⟨g,q,rfl,HO,hB⟩
theorem Vy (xs:List Svc) (a:OA) (cap lo:Nat) (w:World) (hin:SliceC SvcC 2 lo w a xs) (hsm:xs.length≤1048576) (hz:Ra xs 1048576) :
  Calls Tryz.prog 68 #[.slice a xs.length cap,.func (.func 69) #[] #[]] w fun e w'=>∃ g q,e=.returned (.slice g xs.length q)∧w'.ownsRow w.heap.size 94 2 (.slice g xs.length q) xs.length (Cy xs)∧Below w.heap.size w w':=by
 cases a with
 | none =>
  have h0:xs=[]:=List.length_eq_zero_iff.1 (hin.nilD rfl);subst h0;refine (Xk _ cap w).mono ?_;rintro e w1 ⟨rfl,hb⟩;exact ⟨none,0,rfl,World.ownsRow_nil _ _ _ _,hb⟩
 | some ad =>
  refine (dP xs ad cap lo w hin hsm hz).mono ?_;rintro e w1 ⟨g,q,rfl,hO,hb⟩;exact ⟨some ⟨g,0,none⟩,q,rfl,hO,hb⟩
theorem bU (xs:List BA) (ad:Addr) (cap lo:Nat) (w:World) (hin:SliceC StrC 1 lo w (some ad) xs) (hsm:xs.length≤1048576) :
  Calls Tryz.prog 126 #[.slice (some ad) xs.length cap] w fun e w'=>∃ g c,e=.returned (.slice (some ⟨g,0,none⟩) xs.length c)∧w'.ownsRow w.heap.size 9 1 (.slice (some ⟨g,0,none⟩) xs.length c) xs.length (Ed xs)∧Below w.heap.size w w':=by
 obtain ⟨i0,hi,hz0,hz1,hz2⟩:=info_parts Ot;have q22:∀ (w:World) (a:OA) (n c n' c':Nat),(binOp .eql 27 (.slice a n c) (.slice none n' c')).run Tryz.prog w=.ok (.bool a.isNone) w:=fun w a n c n' c'=>Lib.run_eql_slice_nil w _ _ a n c n' c' Tryz.underlying27
 have HS:Hid (∀ j u,(Ed xs)[j]?=some u→w.cell? (ad.add j)=some u):=Wy hin ad rfl;clear hin;go_enter Tryz.func126,Tryz.ntmps126;go_wp2_with (at_builtin;refine wpList_append_own _ rfl _ _ 27 rfl w.heap.size 9 i0 _ 1 16 Tryz.underlying27 hi hz0 hz1 hz2 rfl (by decide) _ _ _ rfl (World.ownsRow_made w #[] 0 nL (zL) rfl) ad xs.length _ (Ed xs) rfl (by rw [Rm]) (fun j u hj=>Lib.cell?_alloc_some _ (HS j u hj)) (Rs xs) (by unfold maxLen;omega) (by omega) (by simp) ?_;intro v' w1 hown hgrow hnil);have hv:v'≠.slice none 0 0:=fun e=>by have:=(hnil.1 e).1;cases this
 have hown':w1.ownsRow w.heap.size 9 1 v' xs.length (Ed xs):=by simpa using hown
 obtain ⟨g,c,rfl⟩:=Dj hown' hv;have HO:=iH hown';have hB:Below w.heap.size w w1:=((Below.refl _ w).alloc nL _).grown hgrow (by simp) (by intro k hk;cases hk;exact Nat.le_refl _);clear hown hgrow hnil hv hown';go_wp2_with fail;go_ret;exact ⟨g,c,rfl,HO,hB⟩
theorem Yz (cap:Nat) (w:World) :
  Calls Tryz.prog 126 #[.slice none 0 cap] w (Rt (.slice none 0 0) w):=by
 have q22:∀ (w:World) (a:OA) (n c n' c':Nat),(binOp .eql 27 (.slice a n c) (.slice none n' c')).run Tryz.prog w=.ok (.bool a.isNone) w:=fun w a n c n' c'=>Lib.run_eql_slice_nil w _ _ a n c n' c' Tryz.underlying27
 go_enter Tryz.func126,Tryz.ntmps126;go_wp2_with fail;go_ret;exact ⟨rfl,Below.refl _ _⟩
theorem Zg (f:Value) (cap:Nat) (w:World) :
  Calls Tryz.prog 104 #[.slice none 0 cap,f] w (Rt (.slice none 0 0) w):=by
 go_enter Tryz.func104,Tryz.ntmps104;go_wp2_with fail;refine (Yz cap _).mono ?_;rintro e w1 ⟨rfl,hb⟩;have HB:=iH hb;clear hb;go_wp2_with fail;go_loopw [11] (fun i wr=>i=.int .i64 0∧Below w.heap.size w wr) (fun i _=>0)
 case atStart=>exact ⟨rfl,HB⟩
 case round =>
  obtain ⟨rfl,hB⟩:=hrel;go_wp2_with fail;go_ret;exact ⟨rfl,hB⟩
theorem cU (xs:List BA) (ad:Addr) (cap lo:Nat) (w:World) (hin:SliceC StrC 1 lo w (some ad) xs) (hsm:xs.length≤1048576) (hz:Si xs 1048576) :
  Calls Tryz.prog 104 #[.slice (some ad) xs.length cap,.func (.func 103) #[] #[]] w fun e w'=>∃ g q,e=.returned (.slice (some ⟨g,0,none⟩) xs.length q)∧w'.ownsRow w.heap.size 9 1 (.slice (some ⟨g,0,none⟩) xs.length q) xs.length (Ed xs)∧Below w.heap.size w w':=by
 have HI:=iH hin;have HZ:=iH hz;clear hin hz;go_enter Tryz.func104,Tryz.ntmps104;go_wp2_with fail;refine (bU xs ad cap lo _ HI hsm).mono ?_;rintro e w1 ⟨g,q,rfl,hO1,hB1⟩;have HO1:=iH hO1;clear hO1;go_wp2_with fail;go_loopw [11] (fun i wr=>∃ k:Nat,k≤xs.length∧i=.int .i64 k∧Hid (wr.ownsRow w.heap.size 9 1 (.slice (some ⟨g,0,none⟩) xs.length q) xs.length (Ed xs))∧Below w.heap.size w wr) (fun i _=>xs.length - (intOf i).toNat)
 case atStart=>exact ⟨0,zL,rfl,HO1,hB1⟩
 case round =>
  clear HO1 hB1;obtain ⟨k,hk,rfl,HO,hB⟩:=hrel;by_cases hlt:k<xs.length
  ·obtain ⟨x,hx⟩:=gX hlt
   have Z:=iH (HZ x (List.mem_of_getElem? hx));have hgl:g<wr.heap.size:=(HO.out.lt g rfl).2;have hgb:w.heap.size≤g:=Ui HO;have HSE:Hid ((Ed xs).set k (.string x)=Ed xs):=by
    show _=_
    refine List.ext_getElem? (fun j=>?_);by_cases e:k=j
    ·subst e
     rw [List.getElem?_set_self (by simpa using hlt),List.getElem?_map,hx];rfl
    ·rw [List.getElem?_set_ne e]
   have c0:wr.cell? ⟨g,k,none⟩=some (.string x):=by
    rw [HO.out.cellAt k (by omega),List.getElem?_map,hx];rfl
   clear hx;have i0:(0:Int)≤(k:Int):=by omega
   have i1:(k:Int)<(xs.length:Int):=by omega
   go_upto_region 5 with fail;clear c0;go_wp2_with fail;refine (Fe x _ Z).mono ?_;rintro e w5 ⟨rfl,hb5⟩;have HO5:=iH (Al HO hb5);have hB5:=qt hB hb5;have c5:w5.cell? ⟨g,k,none⟩=some ((Ed xs)[k]'(by simpa using hlt)):=(HO5.out.cellAt k (by omega)).trans (gE (by simpa using hlt));have f5:=HO5.out.frozenAt k;have HO6:Hid ((w5.setCell ⟨g,k,none⟩ (.string x)).ownsRow w.heap.size 9 1 (.slice (some ⟨g,0,none⟩) xs.length q) xs.length (Ed xs)):=by
    have h:=(HO5.out.stored k (.string x)).1;rw [HSE.out] at h;exact h
   have hB6:Below w.heap.size w (w5.setCell ⟨g,k,none⟩ (.string x)):=hB5.setCell (p:=⟨g,k,none⟩) hgb _;clear hb5 hB HO HO5 hB5;go_wp2_with fail;go_roundw
   case rel=>exact ⟨k+1,by omega,by go_num,HO6,hB6⟩
   case measure=>simp [intOf];omega
  ·have hke:k=xs.length:=by omega
   subst hke;go_wp2_with fail;go_ret;exact ⟨g,q,rfl,HO,hB⟩
theorem Wf (xs:List BA) (a:OA) (cap lo:Nat) (w:World) (hin:SliceC StrC 1 lo w a xs) (hsm:xs.length≤1048576) (hz:Si xs 1048576) :
  Calls Tryz.prog 104 #[.slice a xs.length cap,.func (.func 103) #[] #[]] w fun e w'=>∃ g q,e=.returned (.slice g xs.length q)∧w'.ownsRow w.heap.size 9 1 (.slice g xs.length q) xs.length (Ed xs)∧Below w.heap.size w w':=by
 cases a with
 | none =>
  have h0:xs=[]:=List.length_eq_zero_iff.1 (hin.nilD rfl);subst h0;refine (Zg _ cap w).mono ?_;rintro e w1 ⟨rfl,hb⟩;exact ⟨none,0,rfl,World.ownsRow_nil _ _ _ _,hb⟩
 | some ad =>
  refine (cU xs ad cap lo w hin hsm hz).mono ?_;rintro e w1 ⟨g,q,rfl,hO,hb⟩;exact ⟨some ⟨g,0,none⟩,q,rfl,hO,hb⟩
end Go.Proofs.YtihnjndnkgnmaaaGreat
