import Derived.Test.YtkiloaiffopllaaGreatRows
import Derived.Test.YtkiloaiffopllaaGreatLawTk
import Derived.Test.YtkiloaiffopllaaGreatJ52
import Derived.ChangeOld
import Derived.ChangeSame
import Derived.SizedLaws
import Derived.Lib.SmallJoins
set_option maxHeartbeats 400000
set_option maxRecDepth 100000
namespace Go.Proofs.YtkiloaiffopllaaGreat
open Go.ChangeShapes Go.WideShapes Go.ChangeAt Go.RowKit
theorem dK:ownKnob Tryz.prog.godebug=none:=by kernel_rfl
theorem Sm:laidOutB Tryz.prog=true:=by kernel_rfl
theorem bZ (os:Os) (started:os.Started) (H:Type) (enc:TypeId×Value→H) :
  ReturnsInHanded {} Tryz.checked os 3 .any (Rows.fnExactMateTickSpec.pre6 enc Tryz.prog Tryz.f3 Rows.fnExactMateTickRow.domain false) (Rows.fnExactMateTickSpec.post enc Tryz.prog Tryz.f3 false true false false):=by
 refine returnsInHanded_of_change (C:=Tryz.checked) dK started (by kernel_rfl) Tryz.func3
  (ChangeSpec.witness6 (enc:=enc) (C:=Tryz.checked) false ⟨#[],#[.agg #[.string ⟨#[]⟩,.bool false,.int .i64 0,.bool false,.int .i64 0,.slice none 0 0,.slice none 0 0,.slice none 0 0,.slice none 0 0],.int .i64 0],[]⟩ 8 (by kernel_rfl) (by kernel_rfl) (by kernel_rfl) (by kernel_rfl)) ?_
 intro W base args ds gs before hval0 hW _ _;have hval:∀ (j:Nat) t v,Tryz.f3.params[j]?=some t→args[j]?=some v→Value.okWide Tryz.prog W .any base t v:=hval0;have hW':=hW;obtain ⟨p,q,hA0,hV,rfl,_,_⟩:=hW;have hA:DataW.TrodAll enc Tryz.prog W 0 (fun _=>true) true Tryz.f3.params.toList args.toList ds p:=hA0;rw [Tryz.params3] at hA hval;obtain ⟨v0,v1,d0,d1,p0,p1,rfl,rfl,rfl,h0,h1⟩:=trodAll_two hA;obtain ⟨rfl,rfl⟩:=trodVars_none hV;obtain ⟨cs0,rfl,hcs0⟩:=okWide_struct Tryz.underlying26 (hval 0 26 v0 rfl rfl);obtain ⟨n1,rfl,hn1⟩:=okWide_int Tryz.underlying3 (hval 1 3 v1 rfl rfl);have h0k:=h0;have h1k:=h1;have hlt0:∀ x∈p0,x.block<W.heap.size:=by obtain ⟨m,hm⟩:=h0k;exact DataW.trod_lt m _ _ _ hm
 have hlt1:∀ x∈p1,x.block<W.heap.size:=by obtain ⟨m,hm⟩:=h1k;exact DataW.trod_lt m _ _ _ hm
 obtain ⟨fuel0,hf0⟩:=h0;obtain ⟨fuel1,hf1⟩:=h1;clear hA0 hval0;obtain ⟨hl0,x0,hc0⟩:=aE hf0;obtain ⟨a5,c5,a6,c6,a7,c7,a8,c8,rfl,sz0,s5,s6,s7,s8⟩:=aH hl0 hc0;refine (bK x0 a5 c5 a6 c6 a7 c7 a8 c8 n1 0 W sz0 s5 s6 s7 s8).mono ?_;rintro e W' ⟨he,bel⟩;subst he;exact ⟨_,rfl,_,_,_,[],_,[],hW',trodAll_mk1 (shut_bool Tryz.underlying4 _),trodAll_mk2 (Below.trod Sm (by kernel_rfl) (of_decide_eq_true (by kernel_rfl)) h0k bel hlt0) (Below.trod Sm (by kernel_rfl) (of_decide_eq_true (by kernel_rfl)) h1k bel hlt1),rfl,bel.frame _,fun h=>by cases h⟩
theorem x_holds:Rows.FnExactMateTickSaid :=
 OpenClaim.holds_of_wide 3 Tryz.f3 rfl rfl rfl rfl rfl rfl rfl ⟨rfl,rfl,rfl,rfl,rfl⟩ rfl rfl rfl rfl rfl (by kernel_rfl) Tryz.func3 (by kernel_rfl)
  (of_decide_eq_true (by kernel_rfl)) (by unfold Func.isWrapper;first | (rw [if_pos (by decide +kernel)];kernel_rfl) | (rw [if_neg (by decide +kernel)];exact ⟨rfl,rfl⟩))
  (fun os started H enc _=>bZ os started H enc)
end Go.Proofs.YtkiloaiffopllaaGreat
