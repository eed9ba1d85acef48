import Derived.Test.YtkiloaiffopllaaGreatAv5
import Derived.Test.YtkiloaiffopllaaGreatLcp
set_option maxHeartbeats 8000000
set_option maxRecDepth 100000
namespace Go.Proofs.YtkiloaiffopllaaGreat
open Go.RowKit
def Gp:Mte:=⟨⟨#[]⟩,false,0,false,0,[],[],[],[]⟩
def riU (x:Mte):Bool:=x.up || decide (x.clock<1000000)
def dR (x:Mte):Mte:=if mvB x=true then { x with up:=riU x } else Gp
theorem Dc {h:Nat}:Und none h:=fun _ _ _ e=>by cases e
theorem Keeps.lower {lo lo':Nat} {w w':World} (k:Keeps lo w w') (h:lo≤lo'):Keeps lo' w w':=⟨k.1,fun b o h1 h2=>k.2 b o (lT h h1) h2⟩
theorem G4.keep {x:Mte} {lo hi:Nat} {b5 b6 b7 b8:OA} {w w':World} (h:G4 x lo hi b5 b6 b7 b8 w) (k:Keeps lo w w'):G4 x lo hi b5 b6 b7 b8 w':=by
 obtain ⟨h5,h6,h7,l5,l6,l7,l8,l9,u5,u6,u7,u8,s5,s6,s7,s8⟩:=h;exact ⟨h5,h6,h7,l5,l6,l7,l8,lT l9 k.1,u5,u6,u7,u8,s5.keep WntC.holds k nL,s6.keep RnC.holds (k.lower (by omega)) nL,s7.keep AksC.holds (k.lower (by omega)) nL,s8.keep AksC.holds (k.lower (by omega)) nL⟩
theorem G4.widen {x:Mte} {lo lo' hi hi':Nat} {b5 b6 b7 b8:OA} {w:World} (h:G4 x lo hi b5 b6 b7 b8 w) (hl:lo'≤lo) (hh:hi≤hi') (hw:hi'≤w.heap.size):G4 x lo' hi' b5 b6 b7 b8 w:=by
 obtain ⟨h5,h6,h7,l5,l6,l7,l8,l9,u5,u6,u7,u8,s5,s6,s7,s8⟩:=h;exact ⟨h5,h6,h7,by omega,l6,l7,by omega,hw,u5,u6,u7,u8.mono hh,s5.keep WntC.holds (Keeps.refl _ _) hl,s6,s7,s8⟩
theorem MSv.below {x:Mte} {lo B:Nat} {a5 a6 a7 a8:OA} {w w':World} (h:MSv x lo a5 a6 a7 a8 w) (hb:Below B w w') (hB:w.heap.size≤B):MSv x lo a5 a6 a7 a8 w' :=
 ⟨h.s5.below WntC.holds hb hB,h.s6.below RnC.holds hb hB,h.s7.below AksC.holds hb hB,h.s8.below AksC.holds hb hB,h.p5,h.p6,h.p7,h.p8⟩
theorem Nq {x:Mte} {lo:Nat} {a5 a6 a7 a8:OA} {w:World} (m:MSz x) (h:MSv x lo a5 a6 a7 a8 w):MSl x lo a5 a6 a7 a8 w :=
 ⟨by have:=m.nm;unfold maxLen;omega,h.s5,h.s6,h.s7,h.s8,m.l5,m.l6,m.l7,m.l8⟩
structure Pcl where
 kind:Int
 berth:BA
 seen:Int
 wants:List Wnt
 hold:BA
 copy:BA
 at_:Int
abbrev ppL (x:Pcl) (a1:OA) (c1:Nat):List Value:=[.int .i64 x.kind,.string x.berth,.int .i64 x.seen,.slice a1 x.wants.length c1,.string x.hold,.string x.copy,.int .i64 x.at_]
abbrev ppA (x:Pcl) (a1:OA) (c1:Nat):Array Value:=#[.int .i64 x.kind,.string x.berth,.int .i64 x.seen,.slice a1 x.wants.length c1,.string x.hold,.string x.copy,.int .i64 x.at_]
abbrev PpL:List Value:=[.int .i64 0,.string ⟨#[]⟩,.int .i64 0,.slice none 0 0,.string ⟨#[]⟩,.string ⟨#[]⟩,.int .i64 0]
abbrev PpA:Array Value:=#[.int .i64 0,.string ⟨#[]⟩,.int .i64 0,.slice none 0 0,.string ⟨#[]⟩,.string ⟨#[]⟩,.int .i64 0]
def Rv (x:Pcl):Nat:=x.berth.size+(wS Cx x.wants)+x.hold.size+x.copy.size
def PclC:Fv Pcl:=fun lo w f x=>∃ (a3:OA) (c3:Nat),f 0=some (.int .i64 x.kind)∧f 1=some (.string x.berth)∧f 2=some (.int .i64 x.seen)∧f 3=some (.slice a3 x.wants.length c3)∧f 4=some (.string x.hold)∧f 5=some (.string x.copy)∧f 6=some (.int .i64 x.at_)∧x.berth.size≤maxLen∧x.hold.size≤maxLen∧x.copy.size≤maxLen∧SliceC WntC 7 lo w a3 x.wants
theorem PclC.holds:Gc PclC 7:=by
 rintro lo lo' w w' f g x h k hl ⟨a3,c3,q0,q1,q2,q3,q4,q5,q6,z1,z4,z5,n3⟩;exact ⟨a3,c3,(h 0 (by omega)).trans q0,(h 1 (by omega)).trans q1,(h 2 (by omega)).trans q2,(h 3 (by omega)).trans q3,(h 4 (by omega)).trans q4,(h 5 (by omega)).trans q5,(h 6 (by omega)).trans q6,z1,z4,z5,n3.keep WntC.holds k hl⟩
theorem Lp:(Tryz.prog.info? 54).map (·.size)=some 7:=by kernel_rfl
theorem cW:Nv 54 7:=⟨_,Tryz.underlying54,rfl,Lp⟩
theorem Xq (x:Pcl) (a3:OA) (c3:Nat) (a3p:OA) (c3p:Nat) (lo lo':Nat) (w:World) (n3:SliceC WntC 7 lo w a3 x.wants) (p3:SliceC WntC 7 lo' w a3p x.wants) (hsm:Rv x≤1048576) :
  Calls Tryz.prog 40 #[.agg (ppA x a3 c3),.agg (ppA x a3p c3p)] w (Rt (.bool true) w):=by
 have N3:=iH n3;have P3:=iH p3;have M3:wS Cx x.wants≤1048576:=by unfold Rv at hsm;omega
 clear hsm n3 p3;go_enter Tryz.func40,Tryz.ntmps40;go_wp2_with fail;refine (Mv x.wants a3 a3p c3 c3p lo lo' _ (N3.out.below WntC.holds (B:=w.heap.size) (by go_grown) nL) (P3.out.below WntC.holds (B:=w.heap.size) (by go_grown) nL) M3).mono ?_;rintro e w1 ⟨rfl,hb1⟩;have hB1:Below w.heap.size w w1:=(show Below w.heap.size w _ by go_grown).trans (hb1.mono (by simp;omega));have k1_4:w1.cell? ⟨w.heap.size,4,none⟩=some (.string x.hold):=(hb1.cell (p:=⟨w.heap.size,4,none⟩) (by simp;omega)).trans (by simp);have l1_4:w1.cell? ⟨w.heap.size+1,4,none⟩=some (.string x.hold):=(hb1.cell (p:=⟨w.heap.size+1,4,none⟩) (by simp)).trans (by simp);have k1_5:w1.cell? ⟨w.heap.size,5,none⟩=some (.string x.copy):=(hb1.cell (p:=⟨w.heap.size,5,none⟩) (by simp;omega)).trans (by simp);have l1_5:w1.cell? ⟨w.heap.size+1,5,none⟩=some (.string x.copy):=(hb1.cell (p:=⟨w.heap.size+1,5,none⟩) (by simp)).trans (by simp);have k1_6:w1.cell? ⟨w.heap.size,6,none⟩=some (.int .i64 x.at_):=(hb1.cell (p:=⟨w.heap.size,6,none⟩) (by simp;omega)).trans (by simp);have l1_6:w1.cell? ⟨w.heap.size+1,6,none⟩=some (.int .i64 x.at_):=(hb1.cell (p:=⟨w.heap.size+1,6,none⟩) (by simp)).trans (by simp);have hs1:w.heap.size+1<w1.heap.size:=by have:=hb1.size;simp at this;omega
 clear hb1;go_wp2_with fail;go_ret;exact ⟨rfl,hB1⟩
theorem Nm:(Tryz.prog.info? 54).map (fun i=>(i.zero,i.size,i.bytes))=some (some (.agg PpA),7,96):=by kernel_rfl
theorem Ix (xs:List Pcl) (a a':OA) (cap cap' lo lo':Nat) (w:World) (hg:SliceC PclC 7 lo w a xs) (hh:SliceC PclC 7 lo' w a' xs) (hsm:wS Rv xs≤1048576) :
  Calls Tryz.prog 9 #[.slice a xs.length cap,.slice a' xs.length cap'] w (Rt (.bool true) w):=by
 have hlen:xs.length≤1048576:=lT Ff hsm;have HG:=iH hg;have HH:=iH hh;have HSM:=iH hsm;clear hg hh hsm;go_enter Tryz.func9,Tryz.ntmps9;go_wp2_with fail;go_loopw [5] (fun i wr=>∃ (k:Nat),k≤xs.length∧i=.int .i64 k∧Below w.heap.size w wr) (fun i _=>xs.length - (intOf i).toNat)
 case atStart=>exact ⟨0,zL,rfl,Below.refl _ _⟩
 case round =>
  obtain ⟨k,hk,rfl,hbel⟩:=hrel;by_cases hlt:k<xs.length
  ·obtain ⟨x,hx⟩:=gXe hlt
   obtain ⟨b,o,rfl,_,_,hc⟩:=(HG.out.below PclC.holds hbel nL).at hx;obtain ⟨b',o',rfl,_,_,hc'⟩:=(HH.out.below PclC.holds hbel nL).at hx;obtain ⟨a3,c3,q0,q1,q2,q3,q4,q5,q6,_,_,_,n3⟩:=hc;obtain ⟨a3p,c3p,r0,r1,r2,r3,r4,r5,r6,_,_,_,p3⟩:=hc';simp only [Nat.add_zero] at q0 q1 q2 q3 q4 q5 q6 r0 r1 r2 r3 r4 r5 r6;have hwx:Rv x≤1048576:=lT (Na (List.mem_of_getElem? hx)) HSM;have k0:=cell_regrown q0;have l0:=cell_regrown r0;have k1:=cell_regrown q1;have l1:=cell_regrown r1;have k2:=cell_regrown q2;have l2:=cell_regrown r2;have k3:=cell_regrown q3;have l3:=cell_regrown r3;have k4:=cell_regrown q4;have l4:=cell_regrown r4;have k5:=cell_regrown q5;have l5:=cell_regrown r5;have k6:=cell_regrown q6;have l6:=cell_regrown r6;have cE:∀ d os,Calls Tryz.prog 40 #[.agg (ppA x a3 c3),.agg (ppA x a3p c3p)] (Sort.grow (redrawn wr d) os) fun e w''=>e=.returned (.bool true)∧∃ p:Regrown,w''=Sort.grow (redrawn wr p.d) p.os:=fun d os=>Calls.regrown_of (Xq x a3 c3 a3p c3p lo lo' _ (n3.below WntC.holds (below_regrown wr d os) nL) (p3.below WntC.holds (below_regrown wr d os) nL) hwx)
   have i0:(0:Int)≤(k:Int):=by omega
   have i1:(k:Int)<(xs.length:Int):=by omega
   clear hx q0 q1 q2 q3 q4 q5 q6 r0 r1 r2 r3 r4 r5 r6 n3 p3 hwx;go_wp2_with fail;refine wp_region_quiet_below (by kernel_rfl) (by kernel_rfl) ?_
   repeat (quiet_step (first | exact cE _ _))
   refine wpQuiet_nil ?_;intro _ hw';obtain ⟨⟨dq,osq⟩,hw''⟩:=hw';have hB:=hbel.trans ((below_regrown wr dq osq).mono hbel.size);simp only [] at hw'';rw [← hw''] at hB;clear hw'' cE k0 l0 k1 l1 k2 l2 k3 l3 k4 l4 k5 l5 k6 l6;go_wp2_with fail;go_roundw
   case rel=>exact ⟨k+1,by omega,by go_num,hB⟩
   case measure=>simp [intOf];omega
  ·go_wp2_with fail
   go_ret;exact ⟨rfl,hbel⟩
end Go.Proofs.YtkiloaiffopllaaGreat
namespace Go.Proofs.YtkiloaiffopllaaGreat
open Go.RowKit Go.WideMaps Go.Maps Go.Sort
theorem Ia {α:Type} {f:α→BA}:∀ {xs:List α} {x:α},(xs.map f).Nodup→x∈xs→xs.find? (fun a=>decide (f a=f x))=some x
 | [],_,_,h=>by cases h
 | y::r,x,hn,h=>by
  rw [List.map_cons,List.nodup_cons] at hn;rcases List.mem_cons.1 h with rfl | h
  ·simp
  ·have hne:¬ f y=f x:=fun e=>hn.1 (e▸List.mem_map_of_mem h)
   rw [List.find?_cons,decide_eq_false hne];exact Ia hn.2 h
theorem Nc {ns:List BA} (h:Aw ns ns.length=true):ns.Nodup:=by
 have:=Ki h;unfold nmL at this;exact (List.pairwise_map.1 this).imp (fun h e=>h (by rw [e]))
theorem Kt {l:List BA} (h:l.Nodup):l.reverse.Nodup:=List.pairwise_reverse.2 (h.imp (fun h e=>h e.symm))
theorem Vc {xs:List Aks} (h:Aw (xs.map (·.hold)) xs.length=true):TabA (asM xs.reverse) xs:=by
 have hn:(xs.map (·.hold)).Nodup:=Nc (by rw [List.length_map];exact h);refine ⟨fun s=>by rw [Qm,Lr],fun x hx=>?_⟩;rw [Zi,Ia (f:=(·.hold)) (by rw [List.map_reverse];exact Kt hn) (List.mem_reverse.2 hx)]
theorem aV {xs:List Rn} (h:Aw (xs.map (·.want.copy)) xs.length=true):TabR (Jl xs.reverse) xs:=by
 have hn:(xs.map (·.want.copy)).Nodup:=Nc (by rw [List.length_map];exact h);refine ⟨fun s=>by rw [Ry,Lr],fun x hx=>?_⟩;rw [Vs,Ia (f:=(·.want.copy)) (by rw [List.map_reverse];exact Kt hn) (List.mem_reverse.2 hx)]
theorem TabA.del {D:DataW Unit} {xs:List Aks} (h:TabA D xs) (s:BA):TabA (D.del (kOf s)) (xs.filter (fun g=>!decide (g.hold=s))):=by
 refine ⟨fun t=>?_,fun x hx=>?_⟩
 ·by_cases e:t=s
  ·subst e
   rw [has_del_same]
   symm
   rw [List.any_eq_false];intro a ha;have:=(List.mem_filter.1 ha).2;simpa using this
  ·rw [has_del_other (fun h=>e (Cl h)),h.has_ t]
   rw [Bool.eq_iff_iff,List.any_eq_true,List.any_eq_true];constructor
   ·rintro ⟨a,ha,e2⟩
    exact ⟨a,List.mem_filter.2 ⟨ha,by have:=of_decide_eq_true e2;simp [this,e]⟩,e2⟩
   ·rintro ⟨a,ha,e2⟩
    exact ⟨a,(List.mem_filter.1 ha).1,e2⟩
 ·obtain ⟨h1,h2⟩:=List.mem_filter.1 hx
  have hne:¬ x.hold=s:=by simpa using h2
  rw [atKey_del_other (fun h=>hne (Cl h))];exact h.at_ x h1
theorem TabR.put {D:DataW Unit} {xs:List Rn} (h:TabR D xs) (hm:IsMap D) {c:BA} {r:Rn} (hr:r.want.copy=c) (hc:xs.any (fun a=>decide (a.want.copy=c))=true) (f:Rn→Rn) (hf:∀ z,(f z).want=z.want) (hs:∀ z∈xs,z.want.copy=c→f z=r) (ho:∀ z∈xs,z.want.copy≠c→f z=z):TabR (D.put (kOf c) (Jo r)) (xs.map f):=by
 have ha:∀ s,(xs.map f).any (fun a=>decide (a.want.copy=s))=xs.any (fun a=>decide (a.want.copy=s)):=by
  intro s;rw [List.any_map]
  congr 1
  funext z;simp only [Function.comp,hf]
 refine ⟨fun s=>?_,fun x hx=>?_⟩
 ·rw [ha]
  by_cases e:s=c
  ·subst e
   rw [hc];exact has_put_same hm (show WideAt.IsKeyLit (kOf _) from trivial) _
  ·rw [has_put_other (fun h=>e (Cl h)),h.has_ s]
 ·obtain ⟨z,hz,rfl⟩:=List.mem_map.1 hx
  rw [hf];by_cases e:z.want.copy=c
  ·rw [hs z hz e,e]
   exact atKey_put_same hm (show WideAt.IsKeyLit (kOf _) from trivial) _ _
  ·rw [atKey_put_other (fun h=>e (Cl h)),ho z hz e]
   exact h.at_ z hz
theorem Rk {ns:List BA} (h:(nmL ns).Pairwise (·<·)):Aw ns ns.length=true:=by
 suffices hh:∀ n,n≤ns.length→Aw ns n=true from hh _ nL
 intro n
 induction n with
 | zero=>intro _;rfl
 | succ k ih =>
  intro hk;rw [Aw,ih (by omega),Bool.true_and]
  cases k with
  | zero=>rfl
  | succ m =>
   have e1:ns[m]?=some (ns[m]'(by omega)):=gE (by omega);have e2:ns[m+1]?=some (ns[m+1]'(by omega)):=gE (by omega);rw [Eo e1 e2];rw [List.pairwise_iff_getElem] at h;have:=h m (m+1) (by unfold nmL;simp;omega) (by unfold nmL;simp;omega) (by omega);unfold nmL at this;simp at this;rw [bytesLess_eq];exact decide_eq_true this
end Go.Proofs.YtkiloaiffopllaaGreat
namespace Go.Proofs.YtkiloaiffopllaaGreat
open Go.RowKit
theorem Ho {base g q n s:Nat} {w:World} {e:TypeId} {cs:List Value} (h:w.ownsRow base e s (.slice (some ⟨g,0,none⟩) n q) n cs):n≤q:=by
 rcases h.2 with ⟨h1,_⟩ | ⟨g',cap,cur,h1,_,_,h4⟩
 ·cases h1
 ·cases h1
  exact h4.1
theorem Ld (x:Mte) (a5:OA) (c5:Nat) (a6:OA) (c6:Nat) (a7:OA) (c7:Nat) (a8:OA) (c8:Nat) (lo:Nat) (w:World) (hin:MSv x lo a5 a6 a7 a8 w) (hv:Ul a5 x.wants.length c5 a6 x.runs.length c6 a7 x.asks.length c7 a8 x.gives.length c8) (hm:MSz x) :
  Calls Tryz.prog 18 #[.agg (mmA x a5 c5 a6 c6 a7 c7 a8 c8)] w fun e w'=>∃ b5 q5 b6 q6 b7 q7 b8 q8,e=.returned (.agg (mmA x (some ⟨b5,0,none⟩) q5 (some ⟨b6,0,none⟩) q6 (some ⟨b7,0,none⟩) q7 (some ⟨b8,0,none⟩) q8))∧G4 x w.heap.size w'.heap.size (some ⟨b5,0,none⟩) (some ⟨b6,0,none⟩) (some ⟨b7,0,none⟩) (some ⟨b8,0,none⟩) w'∧(x.asks.length≤q7∧x.gives.length≤q8)∧Below w.heap.size w w':=by
 obtain ⟨iWnt,hiWnt,hz0Wnt,hz1Wnt,hz2Wnt⟩:=info_parts Jv;obtain ⟨iRn,hiRn,hz0Rn,hz1Rn,hz2Rn⟩:=info_parts Ei;obtain ⟨iAks,hiAks,hz0Aks,hz1Aks,hz2Aks⟩:=info_parts Fe;have HI:=iH hin;have HM:=iH hm;have HV:=iH hv;clear hin hm hv;have HKa:=Blk.alloc w (mmA x a5 c5 a6 c6 a7 c7 a8 c8) 32;have HZ2:=al2 w (mmA x a5 c5 a6 c6 a7 c7 a8 c8) 32 MmA 32;have HK2:=iH (HKa.below ((Below.refl _ _).alloc nL (Obj.cells MmA 32)) HKa.lt);have hB2:=bl2 w (mmA x a5 c5 a6 c6 a7 c7 a8 c8) 32 MmA 32;clear HKa;go_enter Tryz.func18,Tryz.ntmps18;go_upto_region 1 with fail;generalize (w.alloc (Obj.cells (mmA x a5 c5 a6 c6 a7 c7 a8 c8) 32)).alloc (Obj.cells MmA 32)=w2 at *;have k5:(w2.alloc (Obj.cells #[] 86)).cell? ⟨w.heap.size,5,none⟩=some (.slice a5 x.wants.length c5):=(World.cell?_alloc_lt _ _ _ HK2.out.lt).trans (HK2.out.cell rfl);have hba:=(Below.refl _ w2).alloc nL (Obj.cells #[] 86);have hBa:=qTr hB2 hba;have HS5:=iH (HI.out.s5.below WntC.holds hBa nL);have HN5:Hid (∀ ad,a5=some ad→∀ j u,(Ct x.wants)[j]?=some u→(w2.alloc (Obj.cells #[] 86)).cell? (ad.add j)=some u):=fun ad e j u hu=>by
  obtain ⟨b,o,s⟩:=ad;have hs:=HI.out.p5 b o s e;subst hs;exact Qd (e▸HS5.out) j u hu
 have hl5:=HM.out.l5;have hgl:w.heap.size+1<w2.heap.size:=HZ2.out.lt;clear hba hBa HS5;go_upto_region 2 with (at_builtin;refine Bk rfl _ _ 28 rfl w2.heap.size 86 iWnt _ 7 72 Tryz.underlying28 hiWnt hz0Wnt hz1Wnt hz2Wnt rfl (by decide) _ _ _ rfl (World.ownsRow_made w2 #[] 0 nL (zL) rfl) a5 x.wants.length c5 (Ct x.wants) rfl HV.out.e5 (by rw [Ez]) HN5 (Ic x.wants) (by unfold maxLen;omega) (by omega) (by simp) ?_;intro v' w3 hown hgrow hnil;have hv:v'≠.slice none 0 0:=(fun e=>by have h9:=(hnil.1 e).1;cases h9);have hown':w3.ownsRow w2.heap.size 86 7 v' x.wants.length (Ct x.wants):=(by simpa using hown);obtain ⟨b5,q5,rfl⟩:=Co hown' hv;have hb:Below w2.heap.size w2 w3:=((Below.refl _ w2).alloc nL _).grown hgrow (by simp) (by intro k hk;cases hk;exact Nat.le_refl _);have HK3:=qBk HK2 hb;have kx:w3.cell? ⟨w.heap.size,5,none⟩=some (.slice a5 x.wants.length c5):=HK3.out.cell rfl;have fx:w3.frozen? ⟨w.heap.size,5,none⟩=false:=HK3.out.frozen _;have HOW:=iH hown';have HBB:=iH hb;clear hown hown' hgrow hnil hv hb);clear kx fx k5 HN5;obtain ⟨h5,hh5⟩:∃ h,h=w2.heap.size:=⟨_,rfl⟩;have P5:Hid (SliceC WntC 7 h5 w3 (some ⟨b5,0,none⟩) x.wants):=by rw [hh5];exact Ml HOW HM.out.l5 HM.out.z5
 have hl5x:h5≤b5:=by rw [hh5];exact (HOW.out.lt b5 rfl).1
 have hu5:b5<w3.heap.size:=(HOW.out.lt b5 rfl).2;have hlt5:w.heap.size+1<h5:=by rw [hh5];exact hgl
 have HZ3:=iH (HZ2.out.below HBB HZ2.out.lt);have hB3:=hB2.trans (HBB.out.mono hB2.size);clear HOW HBB HK2 HZ2 hB2 hgl;have HK4:Hid (Blk w.heap.size (mmA x (some ⟨b5,0,none⟩) q5 a6 c6 a7 c7 a8 c8) 32 (w3.setCell ⟨w.heap.size,5,none⟩ (.slice (some ⟨b5,0,none⟩) x.wants.length q5))):=HK3.out.set 5 _;have HZ4:Hid (Blk (w.heap.size+1) MmA 32 (w3.setCell ⟨w.heap.size,5,none⟩ (.slice (some ⟨b5,0,none⟩) x.wants.length q5))):=HZ3.out.other (a:=⟨w.heap.size,5,none⟩) (show w.heap.size+1≠w.heap.size by omega) _;have hB4:Below w.heap.size w (w3.setCell ⟨w.heap.size,5,none⟩ (.slice (some ⟨b5,0,none⟩) x.wants.length q5)):=hB3.setCell (p:=⟨w.heap.size,5,none⟩) nL _;replace P5:Hid (SliceC WntC 7 h5 (w3.setCell ⟨w.heap.size,5,none⟩ (.slice (some ⟨b5,0,none⟩) x.wants.length q5)) (some ⟨b5,0,none⟩) x.wants):=P5.out.keep WntC.holds (Keeps.set (a:=⟨w.heap.size,5,none⟩) (show w.heap.size<h5 by omega) _) nL;replace hu5:b5<(w3.setCell ⟨w.heap.size,5,none⟩ (.slice (some ⟨b5,0,none⟩) x.wants.length q5)).heap.size:=by simpa using hu5
 clear HK3 HZ3 hB3;generalize (w3.setCell ⟨w.heap.size,5,none⟩ (.slice (some ⟨b5,0,none⟩) x.wants.length q5))=w4 at *;have k6:(w4.alloc (Obj.cells #[] 88)).cell? ⟨w.heap.size,6,none⟩=some (.slice a6 x.runs.length c6):=(World.cell?_alloc_lt _ _ _ HK4.out.lt).trans (HK4.out.cell rfl);have hba:=(Below.refl _ w4).alloc nL (Obj.cells #[] 88);have hBa:=qTr hB4 hba;have HS6:=iH (HI.out.s6.below RnC.holds hBa nL);have HN6:Hid (∀ ad,a6=some ad→∀ j u,(Aq x.runs)[j]?=some u→(w4.alloc (Obj.cells #[] 88)).cell? (ad.add j)=some u):=fun ad e j u hu=>by
  obtain ⟨b,o,s⟩:=ad;have hs:=HI.out.p6 b o s e;subst hs;exact Tw (e▸HS6.out) j u hu
 have hl6:=HM.out.l6;have hgl:w.heap.size+1<w4.heap.size:=HZ4.out.lt;clear hba hBa HS6;go_upto_region 3 with (at_builtin;refine Bk rfl _ _ 29 rfl w4.heap.size 88 iRn _ 11 104 Tryz.underlying29 hiRn hz0Rn hz1Rn hz2Rn rfl (by decide) _ _ _ rfl (World.ownsRow_made w4 #[] 0 nL (zL) rfl) a6 x.runs.length c6 (Aq x.runs) rfl HV.out.e6 (by rw [Cb]) HN6 (Ca x.runs) (by unfold maxLen;omega) (by omega) (by simp) ?_;intro v' w5 hown hgrow hnil;have hv:v'≠.slice none 0 0:=(fun e=>by have h9:=(hnil.1 e).1;cases h9);have hown':w5.ownsRow w4.heap.size 88 11 v' x.runs.length (Aq x.runs):=(by simpa using hown);obtain ⟨b6,q6,rfl⟩:=Co hown' hv;have hb:Below w4.heap.size w4 w5:=((Below.refl _ w4).alloc nL _).grown hgrow (by simp) (by intro k hk;cases hk;exact Nat.le_refl _);have HK5:=qBk HK4 hb;have kx:w5.cell? ⟨w.heap.size,6,none⟩=some (.slice a6 x.runs.length c6):=HK5.out.cell rfl;have fx:w5.frozen? ⟨w.heap.size,6,none⟩=false:=HK5.out.frozen _;have HOW:=iH hown';have HBB:=iH hb;clear hown hown' hgrow hnil hv hb);clear kx fx k6 HN6;obtain ⟨h6,hh6⟩:∃ h,h=w4.heap.size:=⟨_,rfl⟩;have P6:Hid (SliceC RnC 11 h6 w5 (some ⟨b6,0,none⟩) x.runs):=by rw [hh6];exact Dl HOW HM.out.l6 HM.out.z6
 have hl6x:h6≤b6:=by rw [hh6];exact (HOW.out.lt b6 rfl).1
 have hu6:b6<w5.heap.size:=(HOW.out.lt b6 rfl).2;replace hu5:b5<h6:=by rw [hh6];exact hu5
 replace P5:=iH (P5.out.below WntC.holds HBB nL);have hlt6:w.heap.size+1<h6:=by rw [hh6];exact hgl
 have HZ5:=iH (HZ4.out.below HBB HZ4.out.lt);have hB5:=hB4.trans (HBB.out.mono hB4.size);clear HOW HBB HK4 HZ4 hB4 hgl;have HK6:Hid (Blk w.heap.size (mmA x (some ⟨b5,0,none⟩) q5 (some ⟨b6,0,none⟩) q6 a7 c7 a8 c8) 32 (w5.setCell ⟨w.heap.size,6,none⟩ (.slice (some ⟨b6,0,none⟩) x.runs.length q6))):=HK5.out.set 6 _;have HZ6:Hid (Blk (w.heap.size+1) MmA 32 (w5.setCell ⟨w.heap.size,6,none⟩ (.slice (some ⟨b6,0,none⟩) x.runs.length q6))):=HZ5.out.other (a:=⟨w.heap.size,6,none⟩) (show w.heap.size+1≠w.heap.size by omega) _;have hB6:Below w.heap.size w (w5.setCell ⟨w.heap.size,6,none⟩ (.slice (some ⟨b6,0,none⟩) x.runs.length q6)):=hB5.setCell (p:=⟨w.heap.size,6,none⟩) nL _;replace P5:Hid (SliceC WntC 7 h5 (w5.setCell ⟨w.heap.size,6,none⟩ (.slice (some ⟨b6,0,none⟩) x.runs.length q6)) (some ⟨b5,0,none⟩) x.wants):=P5.out.keep WntC.holds (Keeps.set (a:=⟨w.heap.size,6,none⟩) (show w.heap.size<h5 by omega) _) nL;replace P6:Hid (SliceC RnC 11 h6 (w5.setCell ⟨w.heap.size,6,none⟩ (.slice (some ⟨b6,0,none⟩) x.runs.length q6)) (some ⟨b6,0,none⟩) x.runs):=P6.out.keep RnC.holds (Keeps.set (a:=⟨w.heap.size,6,none⟩) (show w.heap.size<h6 by omega) _) nL;replace hu6:b6<(w5.setCell ⟨w.heap.size,6,none⟩ (.slice (some ⟨b6,0,none⟩) x.runs.length q6)).heap.size:=by simpa using hu6
 clear HK5 HZ5 hB5;generalize (w5.setCell ⟨w.heap.size,6,none⟩ (.slice (some ⟨b6,0,none⟩) x.runs.length q6))=w6 at *;have k7:(w6.alloc (Obj.cells #[] 52)).cell? ⟨w.heap.size,7,none⟩=some (.slice a7 x.asks.length c7):=(World.cell?_alloc_lt _ _ _ HK6.out.lt).trans (HK6.out.cell rfl);have hba:=(Below.refl _ w6).alloc nL (Obj.cells #[] 52);have hBa:=qTr hB6 hba;have HS7:=iH (HI.out.s7.below AksC.holds hBa nL);have HN7:Hid (∀ ad,a7=some ad→∀ j u,(An x.asks)[j]?=some u→(w6.alloc (Obj.cells #[] 52)).cell? (ad.add j)=some u):=fun ad e j u hu=>by
  obtain ⟨b,o,s⟩:=ad;have hs:=HI.out.p7 b o s e;subst hs;exact Hx (e▸HS7.out) j u hu
 have hl7:=HM.out.l7;have hgl:w.heap.size+1<w6.heap.size:=HZ6.out.lt;clear hba hBa HS7;go_upto_region 4 with (at_builtin;refine Bk rfl _ _ 30 rfl w6.heap.size 52 iAks _ 4 48 Tryz.underlying30 hiAks hz0Aks hz1Aks hz2Aks rfl (by decide) _ _ _ rfl (World.ownsRow_made w6 #[] 0 nL (zL) rfl) a7 x.asks.length c7 (An x.asks) rfl HV.out.e7 (by rw [Br]) HN7 (Bq x.asks) (by unfold maxLen;omega) (by omega) (by simp) ?_;intro v' w7 hown hgrow hnil;have hv:v'≠.slice none 0 0:=(fun e=>by have h9:=(hnil.1 e).1;cases h9);have hown':w7.ownsRow w6.heap.size 52 4 v' x.asks.length (An x.asks):=(by simpa using hown);obtain ⟨b7,q7,rfl⟩:=Co hown' hv;have hb:Below w6.heap.size w6 w7:=((Below.refl _ w6).alloc nL _).grown hgrow (by simp) (by intro k hk;cases hk;exact Nat.le_refl _);have HK7:=qBk HK6 hb;have kx:w7.cell? ⟨w.heap.size,7,none⟩=some (.slice a7 x.asks.length c7):=HK7.out.cell rfl;have fx:w7.frozen? ⟨w.heap.size,7,none⟩=false:=HK7.out.frozen _;have HOW:=iH hown';have HBB:=iH hb;clear hown hown' hgrow hnil hv hb);clear kx fx k7 HN7;obtain ⟨h7,hh7⟩:∃ h,h=w6.heap.size:=⟨_,rfl⟩;have P7:Hid (SliceC AksC 4 h7 w7 (some ⟨b7,0,none⟩) x.asks):=by rw [hh7];exact Cn HOW HM.out.l7 HM.out.z7
 have hl7x:h7≤b7:=by rw [hh7];exact (HOW.out.lt b7 rfl).1
 have hc7:x.asks.length≤q7:=Ho HOW;have hu7:b7<w7.heap.size:=(HOW.out.lt b7 rfl).2;replace hu6:b6<h7:=by rw [hh7];exact hu6
 replace P5:=iH (P5.out.below WntC.holds HBB nL);replace P6:=iH (P6.out.below RnC.holds HBB nL);have hlt7:w.heap.size+1<h7:=by rw [hh7];exact hgl
 have HZ7:=iH (HZ6.out.below HBB HZ6.out.lt);have hB7:=hB6.trans (HBB.out.mono hB6.size);clear HOW HBB HK6 HZ6 hB6 hgl;have HK8:Hid (Blk w.heap.size (mmA x (some ⟨b5,0,none⟩) q5 (some ⟨b6,0,none⟩) q6 (some ⟨b7,0,none⟩) q7 a8 c8) 32 (w7.setCell ⟨w.heap.size,7,none⟩ (.slice (some ⟨b7,0,none⟩) x.asks.length q7))):=HK7.out.set 7 _;have HZ8:Hid (Blk (w.heap.size+1) MmA 32 (w7.setCell ⟨w.heap.size,7,none⟩ (.slice (some ⟨b7,0,none⟩) x.asks.length q7))):=HZ7.out.other (a:=⟨w.heap.size,7,none⟩) (show w.heap.size+1≠w.heap.size by omega) _;have hB8:Below w.heap.size w (w7.setCell ⟨w.heap.size,7,none⟩ (.slice (some ⟨b7,0,none⟩) x.asks.length q7)):=hB7.setCell (p:=⟨w.heap.size,7,none⟩) nL _;replace P5:Hid (SliceC WntC 7 h5 (w7.setCell ⟨w.heap.size,7,none⟩ (.slice (some ⟨b7,0,none⟩) x.asks.length q7)) (some ⟨b5,0,none⟩) x.wants):=P5.out.keep WntC.holds (Keeps.set (a:=⟨w.heap.size,7,none⟩) (show w.heap.size<h5 by omega) _) nL;replace P6:Hid (SliceC RnC 11 h6 (w7.setCell ⟨w.heap.size,7,none⟩ (.slice (some ⟨b7,0,none⟩) x.asks.length q7)) (some ⟨b6,0,none⟩) x.runs):=P6.out.keep RnC.holds (Keeps.set (a:=⟨w.heap.size,7,none⟩) (show w.heap.size<h6 by omega) _) nL;replace P7:Hid (SliceC AksC 4 h7 (w7.setCell ⟨w.heap.size,7,none⟩ (.slice (some ⟨b7,0,none⟩) x.asks.length q7)) (some ⟨b7,0,none⟩) x.asks):=P7.out.keep AksC.holds (Keeps.set (a:=⟨w.heap.size,7,none⟩) (show w.heap.size<h7 by omega) _) nL;replace hu7:b7<(w7.setCell ⟨w.heap.size,7,none⟩ (.slice (some ⟨b7,0,none⟩) x.asks.length q7)).heap.size:=by simpa using hu7
 clear HK7 HZ7 hB7;generalize (w7.setCell ⟨w.heap.size,7,none⟩ (.slice (some ⟨b7,0,none⟩) x.asks.length q7))=w8 at *;have k8:(w8.alloc (Obj.cells #[] 52)).cell? ⟨w.heap.size,8,none⟩=some (.slice a8 x.gives.length c8):=(World.cell?_alloc_lt _ _ _ HK8.out.lt).trans (HK8.out.cell rfl);have hba:=(Below.refl _ w8).alloc nL (Obj.cells #[] 52);have hBa:=qTr hB8 hba;have HS8:=iH (HI.out.s8.below AksC.holds hBa nL);have HN8:Hid (∀ ad,a8=some ad→∀ j u,(An x.gives)[j]?=some u→(w8.alloc (Obj.cells #[] 52)).cell? (ad.add j)=some u):=fun ad e j u hu=>by
  obtain ⟨b,o,s⟩:=ad;have hs:=HI.out.p8 b o s e;subst hs;exact Hx (e▸HS8.out) j u hu
 have hl8:=HM.out.l8;have hgl:w.heap.size+1<w8.heap.size:=HZ8.out.lt;clear hba hBa HS8;go_upto_region 5 with (at_builtin;refine Bk rfl _ _ 30 rfl w8.heap.size 52 iAks _ 4 48 Tryz.underlying30 hiAks hz0Aks hz1Aks hz2Aks rfl (by decide) _ _ _ rfl (World.ownsRow_made w8 #[] 0 nL (zL) rfl) a8 x.gives.length c8 (An x.gives) rfl HV.out.e8 (by rw [Br]) HN8 (Bq x.gives) (by unfold maxLen;omega) (by omega) (by simp) ?_;intro v' w9 hown hgrow hnil;have hv:v'≠.slice none 0 0:=(fun e=>by have h9:=(hnil.1 e).1;cases h9);have hown':w9.ownsRow w8.heap.size 52 4 v' x.gives.length (An x.gives):=(by simpa using hown);obtain ⟨b8,q8,rfl⟩:=Co hown' hv;have hb:Below w8.heap.size w8 w9:=((Below.refl _ w8).alloc nL _).grown hgrow (by simp) (by intro k hk;cases hk;exact Nat.le_refl _);have HK9:=qBk HK8 hb;have kx:w9.cell? ⟨w.heap.size,8,none⟩=some (.slice a8 x.gives.length c8):=HK9.out.cell rfl;have fx:w9.frozen? ⟨w.heap.size,8,none⟩=false:=HK9.out.frozen _;have HOW:=iH hown';have HBB:=iH hb;clear hown hown' hgrow hnil hv hb);clear kx fx k8 HN8;obtain ⟨h8,hh8⟩:∃ h,h=w8.heap.size:=⟨_,rfl⟩;have P8:Hid (SliceC AksC 4 h8 w9 (some ⟨b8,0,none⟩) x.gives):=by rw [hh8];exact Cn HOW HM.out.l8 HM.out.z8
 have hl8x:h8≤b8:=by rw [hh8];exact (HOW.out.lt b8 rfl).1
 have hc8:x.gives.length≤q8:=Ho HOW;have hu8:b8<w9.heap.size:=(HOW.out.lt b8 rfl).2;replace hu7:b7<h8:=by rw [hh8];exact hu7
 replace P5:=iH (P5.out.below WntC.holds HBB nL);replace P6:=iH (P6.out.below RnC.holds HBB nL);replace P7:=iH (P7.out.below AksC.holds HBB nL);have hlt8:w.heap.size+1<h8:=by rw [hh8];exact hgl
 have HZ9:=iH (HZ8.out.below HBB HZ8.out.lt);have hB9:=hB8.trans (HBB.out.mono hB8.size);clear HOW HBB HK8 HZ8 hB8 hgl;have HK10:Hid (Blk w.heap.size (mmA x (some ⟨b5,0,none⟩) q5 (some ⟨b6,0,none⟩) q6 (some ⟨b7,0,none⟩) q7 (some ⟨b8,0,none⟩) q8) 32 (w9.setCell ⟨w.heap.size,8,none⟩ (.slice (some ⟨b8,0,none⟩) x.gives.length q8))):=HK9.out.set 8 _;have HZ10:Hid (Blk (w.heap.size+1) MmA 32 (w9.setCell ⟨w.heap.size,8,none⟩ (.slice (some ⟨b8,0,none⟩) x.gives.length q8))):=HZ9.out.other (a:=⟨w.heap.size,8,none⟩) (show w.heap.size+1≠w.heap.size by omega) _;have hB10:Below w.heap.size w (w9.setCell ⟨w.heap.size,8,none⟩ (.slice (some ⟨b8,0,none⟩) x.gives.length q8)):=hB9.setCell (p:=⟨w.heap.size,8,none⟩) nL _;replace P5:Hid (SliceC WntC 7 h5 (w9.setCell ⟨w.heap.size,8,none⟩ (.slice (some ⟨b8,0,none⟩) x.gives.length q8)) (some ⟨b5,0,none⟩) x.wants):=P5.out.keep WntC.holds (Keeps.set (a:=⟨w.heap.size,8,none⟩) (show w.heap.size<h5 by omega) _) nL;replace P6:Hid (SliceC RnC 11 h6 (w9.setCell ⟨w.heap.size,8,none⟩ (.slice (some ⟨b8,0,none⟩) x.gives.length q8)) (some ⟨b6,0,none⟩) x.runs):=P6.out.keep RnC.holds (Keeps.set (a:=⟨w.heap.size,8,none⟩) (show w.heap.size<h6 by omega) _) nL;replace P7:Hid (SliceC AksC 4 h7 (w9.setCell ⟨w.heap.size,8,none⟩ (.slice (some ⟨b8,0,none⟩) x.gives.length q8)) (some ⟨b7,0,none⟩) x.asks):=P7.out.keep AksC.holds (Keeps.set (a:=⟨w.heap.size,8,none⟩) (show w.heap.size<h7 by omega) _) nL;replace P8:Hid (SliceC AksC 4 h8 (w9.setCell ⟨w.heap.size,8,none⟩ (.slice (some ⟨b8,0,none⟩) x.gives.length q8)) (some ⟨b8,0,none⟩) x.gives):=P8.out.keep AksC.holds (Keeps.set (a:=⟨w.heap.size,8,none⟩) (show w.heap.size<h8 by omega) _) nL;replace hu8:b8<(w9.setCell ⟨w.heap.size,8,none⟩ (.slice (some ⟨b8,0,none⟩) x.gives.length q8)).heap.size:=by simpa using hu8
 clear HK9 HZ9 hB9;generalize (w9.setCell ⟨w.heap.size,8,none⟩ (.slice (some ⟨b8,0,none⟩) x.gives.length q8))=w10 at *;obtain ⟨wf,HE⟩:∃ wf,Hid (wf=w10.setCells (w.heap.size+1) 0 (mmL x (some ⟨b5,0,none⟩) q5 (some ⟨b6,0,none⟩) q6 (some ⟨b7,0,none⟩) q7 (some ⟨b8,0,none⟩) q8)):=⟨_,rfl⟩;have HTS:=iH HZ10.out.there;have HRf:Hid (wf.rangeAt (w.heap.size+1) 0 (mmL x (some ⟨b5,0,none⟩) q5 (some ⟨b6,0,none⟩) q6 (some ⟨b7,0,none⟩) q7 (some ⟨b8,0,none⟩) q8)):=by
  show World.rangeAt _ _ _ _
  rw [HE.out];exact World.rangeAt_setCells_same _ _ _ _ HTS
 have hBf:Below w.heap.size w wf:=by
  rw [HE.out];exact Aa (by omega) _ _ _ hB10
 replace P5:Hid (SliceC WntC 7 h5 wf (some ⟨b5,0,none⟩) x.wants):=by
  show SliceC _ _ _ _ _ _
  rw [HE.out];exact P5.out.keep WntC.holds (Keeps.setCells (show w.heap.size+1<h5 by omega) _ _ _) nL
 replace P6:Hid (SliceC RnC 11 h6 wf (some ⟨b6,0,none⟩) x.runs):=by
  show SliceC _ _ _ _ _ _
  rw [HE.out];exact P6.out.keep RnC.holds (Keeps.setCells (show w.heap.size+1<h6 by omega) _ _ _) nL
 replace P7:Hid (SliceC AksC 4 h7 wf (some ⟨b7,0,none⟩) x.asks):=by
  show SliceC _ _ _ _ _ _
  rw [HE.out];exact P7.out.keep AksC.holds (Keeps.setCells (show w.heap.size+1<h7 by omega) _ _ _) nL
 replace P8:Hid (SliceC AksC 4 h8 wf (some ⟨b8,0,none⟩) x.gives):=by
  show SliceC _ _ _ _ _ _
  rw [HE.out];exact P8.out.keep AksC.holds (Keeps.setCells (show w.heap.size+1<h8 by omega) _ _ _) nL
 have hsf:w10.heap.size≤wf.heap.size:=by rw [HE.out];exact (Keeps.setCells (show w.heap.size+1<w.heap.size+2 by omega) _ _ _).1
 have HGF:Hid (G4 x w.heap.size wf.heap.size (some ⟨b5,0,none⟩) (some ⟨b6,0,none⟩) (some ⟨b7,0,none⟩) (some ⟨b8,0,none⟩) wf):=⟨h6,h7,h8,by omega,by omega,by omega,by omega,Nat.le_refl _,fun b o s e=>by cases e;exact hu5,fun b o s e=>by cases e;exact hu6,fun b o s e=>by cases e;exact hu7,fun b o s e=>by cases e;omega,P5.out.keep WntC.holds (Keeps.refl _ _) (by omega),P6,P7,P8⟩;clear hsf P5 P6 P7 P8 hu5 hu6 hu7 hu8;clear hB10;go_wp2_with (first | (refine qLk Cu HK10 ?_) | (refine Ab rfl 32 _ _ rfl (w.heap.size+1) 0 (mmA x (some ⟨b5,0,none⟩) q5 (some ⟨b6,0,none⟩) q6 (some ⟨b7,0,none⟩) q7 (some ⟨b8,0,none⟩) q8) rfl rfl HTS Am (by simp [Value.oneCell']) wf HE ?_));exact bodyPost_ret (Ai rfl _ _ (w.heap.size+1) (mmL x (some ⟨b5,0,none⟩) q5 (some ⟨b6,0,none⟩) q6 (some ⟨b7,0,none⟩) q7 (some ⟨b8,0,none⟩) q8) _ rfl HRf Tryz.underlying32 rfl Am) rfl ⟨b5,q5,b6,q6,b7,q7,b8,q8,rfl,HGF,⟨hc7,hc8⟩,hBf⟩
end Go.Proofs.YtkiloaiffopllaaGreat
