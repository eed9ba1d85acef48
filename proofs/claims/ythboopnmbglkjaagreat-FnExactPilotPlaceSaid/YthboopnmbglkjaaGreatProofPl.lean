import Derived.Test.YthboopnmbglkjaaGreatRows
import Derived.Test.YthboopnmbglkjaaGreatJ52
import Derived.ShutString
import Derived.ChangeOld
import Derived.ChangeSame
import Derived.SizedLaws
set_option maxHeartbeats 400000
set_option maxRecDepth 100000
namespace Go.Proofs.YthboopnmbglkjaaGreat
open Go.ChangeShapes Go.WideShapes Go.ChangeAt Go.RowKit
theorem CS:ownKnob Tryz.prog.godebug=none:=by kernel_rfl
theorem rE:laidOutB Tryz.prog=true:=by kernel_rfl
theorem AO{cs:Array Value}{a b c d:Value}(hl:cs.toList.length=4)(h0:cs.toList[0]?=some a)(h1:cs.toList[1]?=some b)(h2:cs.toList[2]?=some c)(h3:cs.toList[3]?=some d):cs=#[a,b,c,d]:=by
 obtain⟨l⟩:=cs;obtain⟨c0,c1,c2,c3,rfl⟩:=yU hl;simp at h0 h1 h2 h3;rw[h0,h1,h2,h3]
theorem AK(os:Os)(started:os.Started)(H:Type)(enc:TypeId×Value->H) :
  ReturnsInHanded {} Tryz.checked os 3 .any (Rows.fnExactPilotPlaceSpec.pre6 enc Tryz.prog Tryz.f3 Rows.fnExactPilotPlaceRow.domain false) (Rows.fnExactPilotPlaceSpec.post enc Tryz.prog Tryz.f3 false true false false):=by
 refine returnsInHanded_of_change (C:=Tryz.checked) CS started (by kernel_rfl) Tryz.func3
  (ChangeSpec.witness6 (enc:=enc) (C:=Tryz.checked) false ⟨#[],#[.agg #[.bool false,.slice none 0 0,.slice none 0 0,.slice none 0 0]],[]⟩ 8 (by kernel_rfl) (by kernel_rfl) (by kernel_rfl) (by kernel_rfl)) ?_
 intro W base args ds gs before hval0 hW _ _;have hval:∀(j:Nat) t v,Tryz.f3.params[j]?=some t->args[j]?=some v->Value.okWide Tryz.prog W .any base t v:=hval0;have hW':=hW;obtain⟨p,q,hA0,hV,rfl,_,_⟩:=hW;have hA:DataW.TrodAll enc Tryz.prog W 0 (λ_=>true) true Tryz.f3.params.toList args.toList ds p:=hA0;rw[Tryz.params3]at hA hval;obtain⟨v0,d0,rfl,rfl,h0⟩:=trodAll_one hA;obtain⟨rfl,rfl⟩:=trodVars_none hV;obtain⟨cs,rfl,hcs⟩:=okWide_struct Tryz.underlying26 (hval 0 26 v0 rfl rfl);have h0k:=h0;have hlt0:∀x∈p,x.block<W.heap.size:=by obtain⟨m,hm⟩:=h0k;exact DataW.trod_lt m _ _ _ hm
 obtain⟨fuel,hf⟩:=h0;clear hA0 hval0;obtain⟨hl,x,a1,c1,a2,c2,a3,c3,e0,e1,e2,e3,n1,n2,n3⟩:=sH hf;have hagg:=AO hl e0 e1 e2 e3;subst hagg;refine(yG x a1 c1 a2 c2 a3 c3 0 W n1 n2 n3).mono ?_;rintro e W' ⟨he,bel⟩;subst he;exact⟨_,rfl,_,_,_,[],_,[],hW',trodAll_mk1 (shut_bool Tryz.underlying4 _),trodAll_mk1 (Below.trod rE (by kernel_rfl) (of_decide_eq_true (by kernel_rfl)) h0k bel hlt0),rfl,bel.frame _,λh=>by cases h⟩
theorem x_holds:Rows.FnExactPilotPlaceSaid :=
 OpenClaim.holds_of_wide 3 Tryz.f3 rfl rfl rfl rfl rfl rfl rfl ⟨rfl,rfl,rfl,rfl,rfl⟩ rfl rfl rfl rfl rfl (by kernel_rfl) Tryz.func3 (by kernel_rfl)
  (of_decide_eq_true (by kernel_rfl)) (by unfold Func.isWrapper;first|(rw[if_pos (by decide +kernel)];kernel_rfl)|(rw[if_neg (by decide +kernel)];exact⟨rfl,rfl⟩))
  (λos started H enc _=>AK os started H enc)
end Go.Proofs.YthboopnmbglkjaaGreat
