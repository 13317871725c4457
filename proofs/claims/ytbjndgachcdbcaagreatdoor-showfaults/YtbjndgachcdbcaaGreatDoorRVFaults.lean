/- Any fault has the name that the document says, or none: for every input ShowFaults returns true, and its arguments read behind the call as they read before. The tables are tied to the program's text. -/
import Derived.Test.YtbjndgachcdbcaaGreatDoorCards
import Derived.Test.YtbjndgachcdbcaaGreatDoorTie
import Derived.Test.YtbjndgachcdbcaaGreatDoorLVNil
import Derived.Test.YtbjndgachcdbcaaGreatDoorVTabs
import Derived.JoinedCond
import Derived.Stop.Joined
namespace Go.Proofs.YtbjndgachcdbcaaGreatDoor
open Go.ChangeShapes Go.WideShapes Go.ChangeAt Go.RowKit
set_option maxRecDepth 100000
theorem yo (os:Os) (started:os.Started) (H:Type) (enc:TypeId × Value→H) (F:Stop.Interp) :
  ReturnsInHanded {} Tryz.checked os 3 .any ((OpenSpec.ofChange Rows.showFaultsSpec).preRow enc Tryz.prog Tryz.f3 Rows.showFaultsRow.domain false Rows.showFaultsRow.laid) (((OpenSpec.ofChange Rows.showFaultsSpec).at F).post enc Tryz.prog Tryz.f3 false true false false):=by
 refine returnsInHanded_of_row (C:=Tryz.checked) (s:=OpenSpec.ofChange Rows.showFaultsSpec) own started (by kernel_rfl) Tryz.func3
  (xg (World.laidAll Tryz.prog os Rows.showFaultsRow.laid) #[.int .i64 0] (World.laidAll_os _ _ _) (World.shaped_of_ZipB (by kernel_rfl) (by kernel_rfl)) (by kernel_rfl)
   (OpenSpec.preRow_of_B rfl 8 (by kernel_rfl) (by kernel_rfl)
    (by rw [MakeChecks.laidMetH_plain _ _ _ (by kernel_rfl)];exact laidMet_laidAll _ (by kernel_rfl) (by kernel_rfl)))) ?_
 intro W base b U Z u c B _ z _ E y _;rw [MakeChecks.laidMetH_plain _ _ _ (by kernel_rfl)] at E
 have I:yW W:=vP E (by unfold laidX Rows.showFaultsRow;simp) (by unfold Rows.showFaultsRow;simp) y
 have m:∀(j:Nat) t v,Tryz.f3.params[j]?=some t→b[j]?=some v→Value.okWide Tryz.prog W .any base t v:=c;have x:=B;obtain ⟨p,q,o,M,rfl,J,R⟩:=B;have D:DataW.TrodAll enc Tryz.prog W 0 (fun _=>true) true Tryz.f3.params.toList b.toList U p:=o
 rw [Tryz.params3] at D m;obtain ⟨G,V,d0,K,Y,q0,A,rfl,rfl,T,O⟩:=trodAll_cons D;obtain ⟨rfl,rfl,rfl⟩:=trodAll_nil O;obtain rfl:b=#[G]:=by cases b;simp_all
 obtain ⟨rfl,rfl⟩:=trodVars_none M;obtain ⟨X,rfl,rfl,rfl,w0⟩:=open_int Tryz.underlying3 (m 0 3 G rfl rfl) T;clear o c;refine (Yp X W I).mono fun e W' ⟨he,bel⟩=>?_
 subst he;exact ⟨_,rfl,_,_,_,[],_,[],x,trodAll_mk1 (shut_bool Tryz.underlying4 _),trodAll_cons_mk (shut_int Tryz.underlying3 w0) trodAll_mk0,rfl,bel.frame _,fun h=>by cases h⟩
theorem Yq:Rows.ShowFaultsSaid :=
 OpenClaim.holds_of_cond 3 Tryz.f3 rfl rfl rfl rfl rfl rfl rfl ⟨rfl,rfl,rfl,rfl,rfl⟩ rfl rfl rfl rfl rfl (by kernel_rfl) Tryz.func3 (by kernel_rfl)
  (of_decide_eq_true (by kernel_rfl)) (by unfold Func.isWrapper;first | (rw [if_pos (by decide +kernel)];kernel_rfl) | (rw [if_neg (by decide +kernel)];exact ⟨rfl,rfl⟩))
  (fun os started H enc _ F=>by rw [OpenClaim.pre_eq_preRow];exact yo os started H enc F)
theorem showFaults_proved:Rows.ShowFaultsCardSaid :=
 Claim7.holds_tied_plain_at .later [] [.data,.data,.data,.data,.sentinel,.sentinel,.data,.data,.data,.data,.pinned] true Rows.showFaultsCard.stood.harness true
  Yq (fun _ h=>by cases h) (by kernel_rfl) (fun _ h=>by cases h) showFaults_row_tie rfl ⟨rfl,rfl⟩ (by kernel_rfl) rfl
  (fun f fn hf hfn=>by
   obtain rfl : f = 3 := Option.some.inj ((show Tryz.prog.funcNamed "hindcast/hindcastlaw16.ShowFaults" = some 3 by kernel_rfl).symm.trans hf) |>.symm
   obtain rfl:fn=Tryz.f3:=(Option.some.inj (Tryz.func3.symm.trans hfn)).symm
   exact ⟨by kernel_rfl,fun j t ht=>by
    rw [Tryz.params3] at ht;have c:t∈[3]:=by simpa using Array.mem_of_getElem? ht
    have b:([3].all fun u=>!Tryz.prog.wantsStandIn u)=true:=by kernel_rfl
    exact (show Tryz.prog.wantsStandIn t=false by simpa using List.all_eq_true.1 b t c)⟩)
  (by kernel_rfl)
#print axioms showFaults_proved
end Go.Proofs.YtbjndgachcdbcaaGreatDoor
