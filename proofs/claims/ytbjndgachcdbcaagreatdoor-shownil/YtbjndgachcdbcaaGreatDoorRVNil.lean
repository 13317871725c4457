/- Over no heap nothing is shown: for every input ShowNil returns true, and its arguments read behind the call as they read before. The tables are tied to the program's text. -/
import Derived.Test.YtbjndgachcdbcaaGreatDoorCards
import Derived.Test.YtbjndgachcdbcaaGreatDoorTie
import Derived.Test.YtbjndgachcdbcaaGreatDoorLVNil
import Derived.Test.YtbjndgachcdbcaaGreatDoorVTabs
import Derived.JoinedCond
import Derived.Stop.Joined
namespace Go.Proofs.YtbjndgachcdbcaaGreatDoor
open Go.ChangeShapes Go.WideShapes Go.ChangeAt Go.RowKit
set_option maxRecDepth 100000
theorem YA (os:Os) (started:os.Started) (H:Type) (enc:TypeId × Value→H) (F:Stop.Interp) :
  ReturnsInHanded {} Tryz.checked os 7 .any ((OpenSpec.ofChange Rows.showNilSpec).preRow enc Tryz.prog Tryz.f7 Rows.showNilRow.domain false Rows.showNilRow.laid) (((OpenSpec.ofChange Rows.showNilSpec).at F).post enc Tryz.prog Tryz.f7 false true false false):=by
 refine returnsInHanded_of_row (C:=Tryz.checked) (s:=OpenSpec.ofChange Rows.showNilSpec) own started (by kernel_rfl) Tryz.func7
  (xx (World.laidAll Tryz.prog os Rows.showNilRow.laid) #[.agg #[.int .i64 0,.int .i64 0,.int .i64 0,.slice none 0 0,.string ⟨#[]⟩,.int .i64 0,.slice none 0 0,.int .i64 0,.int .i64 0,.string ⟨#[]⟩]] (World.laidAll_os _ _ _) (World.shaped_of_ZipB (by kernel_rfl) (by kernel_rfl)) (by kernel_rfl)
   (OpenSpec.preRow_of_B rfl 8 (by kernel_rfl) (by kernel_rfl)
    (by rw [MakeChecks.laidMetH_plain _ _ _ (by kernel_rfl)];exact laidMet_laidAll _ (by kernel_rfl) (by kernel_rfl)))) ?_
 intro W base b ds gs z c Z _ M _ U I _;rw [MakeChecks.laidMetH_plain _ _ _ (by kernel_rfl)] at U
 have hT:Yc W:=Vu U (by unfold laidX Rows.showNilRow;simp) (by unfold Rows.showNilRow;simp) I
 have o:∀(j:Nat) t v,Tryz.f7.params[j]?=some t→b[j]?=some v→Value.okWide Tryz.prog W .any base t v:=c;have O:=Z;obtain ⟨p,q,y,hV,rfl,aa,ad⟩:=Z;have Y:DataW.TrodAll enc Tryz.prog W 0 (fun _=>true) true Tryz.f7.params.toList b.toList ds p:=y
 rw [Tryz.params7] at Y o;obtain ⟨v0,ae,d0,ab,p0,q0,G,rfl,rfl,X,r0⟩:=trodAll_cons Y;obtain ⟨rfl,rfl,rfl⟩:=trodAll_nil r0;obtain rfl:b=#[v0]:=by cases b;simp_all
 obtain ⟨rfl,rfl⟩:=trodVars_none hV;have V:=X;have K:∀x∈p0,x.block<W.heap.size:=by obtain ⟨m,hm⟩:=V;exact DataW.trod_lt m _ _ _ hm
 obtain ⟨R,u,-⟩:=okWide_struct Tryz.underlying35 (o 0 35 v0 rfl rfl);obtain ⟨s0,D,T,J,B,E,A,rfl⟩:=vM ⟨R,u⟩ X;clear y c;refine (Xg s0 D T J B E A W hT).mono fun e W' ⟨he,bel⟩=>?_
 subst he;exact ⟨_,rfl,_,_,_,[],_,[],O,trodAll_mk1 (shut_bool Tryz.underlying4 _),trodAll_cons_mk (Below.trod V2 (by kernel_rfl) (of_decide_eq_true (by kernel_rfl)) V bel K) trodAll_mk0,rfl,bel.frame _,fun h=>by cases h⟩
theorem Xj:Rows.ShowNilSaid :=
 OpenClaim.holds_of_cond 7 Tryz.f7 rfl rfl rfl rfl rfl rfl rfl ⟨rfl,rfl,rfl,rfl,rfl⟩ rfl rfl rfl rfl rfl (by kernel_rfl) Tryz.func7 (by kernel_rfl)
  (of_decide_eq_true (by kernel_rfl)) (by unfold Func.isWrapper;first | (rw [if_pos (by decide +kernel)];kernel_rfl) | (rw [if_neg (by decide +kernel)];exact ⟨rfl,rfl⟩))
  (fun os started H enc _ F=>by rw [OpenClaim.pre_eq_preRow];exact YA os started H enc F)
theorem showNil_proved:Rows.ShowNilCardSaid :=
 Claim7.holds_tied_plain_at .later [] [.data,.data,.data,.data,.sentinel,.sentinel,.data,.data,.data,.data,.pinned] true Rows.showNilCard.stood.harness true
  Xj (fun _ h=>by cases h) (by kernel_rfl) (fun _ h=>by cases h) showNil_row_tie rfl ⟨rfl,rfl⟩ (by kernel_rfl) rfl
  (fun f fn hf hfn=>by
   obtain rfl : f = 7 := Option.some.inj ((show Tryz.prog.funcNamed "hindcast/hindcastlaw16.ShowNil" = some 7 by kernel_rfl).symm.trans hf) |>.symm
   obtain rfl:fn=Tryz.f7:=(Option.some.inj (Tryz.func7.symm.trans hfn)).symm
   exact ⟨by kernel_rfl,fun j t ht=>by
    rw [Tryz.params7] at ht;have c:t∈[35]:=by simpa using Array.mem_of_getElem? ht
    have b:([35].all fun u=>!Tryz.prog.wantsStandIn u)=true:=by kernel_rfl
    exact (show Tryz.prog.wantsStandIn t=false by simpa using List.all_eq_true.1 b t c)⟩)
  (by kernel_rfl)
#print axioms showNil_proved
end Go.Proofs.YtbjndgachcdbcaaGreatDoor
