/- Any command is right or not, and has the text that the document says, or none: for every input CommandPrints returns true, and its arguments read behind the call as they read before. The tables are tied to the program's text. -/
import Derived.Test.YtmbofhpmockmbaaGreatDoorCards
import Derived.Test.YtmbofhpmockmbaaGreatDoorTie
import Derived.Test.YtmbofhpmockmbaaGreatDoorMC50
import Derived.Test.YtmbofhpmockmbaaGreatDoorMC51
import Derived.MakeChecks
namespace Go.Proofs.YtmbofhpmockmbaaGreatDoor
open Go.ChangeShapes Go.WideShapes Go.ChangeAt Go.RowKit
set_option maxRecDepth 100000
open Go.ChangeMaps (open_string shut_string)
theorem YU (os:Os) (started:os.Started) (H:Type) (enc:TypeId × Value→H) (F:Stop.Interp) :
  ReturnsInHanded {} Tryz.checked os 3 .any ((OpenSpec.ofChange Rows.commandPrintsSpec).preRow enc Tryz.prog Tryz.f3 Rows.commandPrintsRow.domain false Rows.commandPrintsRow.laid) (((OpenSpec.ofChange Rows.commandPrintsSpec).at F).post enc Tryz.prog Tryz.f3 false true false false):=by
 refine returnsInHanded_of_row (C:=Tryz.checked) (s:=OpenSpec.ofChange Rows.commandPrintsSpec) own started (by kernel_rfl) Tryz.func3
  (Vz (Q9 os) #[.agg #[.int .i64 0,.int .i64 0,.string ⟨#[]⟩]] (zaa os) (World.shaped_of_ZipB (by kernel_rfl) (by kernel_rfl)) (by kernel_rfl)
   (OpenSpec.preRow_of_B rfl 8 (by kernel_rfl) (by kernel_rfl)
    (Qv os _))) ?_
 intro W base args ds gs E o R _ _ _ hL _ _;have hT:QT W:=zac hL;have y:∀(j:Nat) t v,Tryz.f3.params[j]?=some t→args[j]?=some v→Value.okWide Tryz.prog W .any base t v:=o;have I:=R;obtain ⟨p,q,D,Y,rfl,ab,Z⟩:=R;have X:DataW.TrodAll enc Tryz.prog W 0 (fun _=>true) true Tryz.f3.params.toList args.toList ds p:=D
 rw [Tryz.params3] at X y;obtain ⟨T,ae,d0,ad,p0,q0,O,rfl,rfl,U,r0⟩:=trodAll_cons X;obtain ⟨rfl,rfl,rfl⟩:=trodAll_nil r0;obtain rfl:args=#[T]:=by cases args;simp_all
 obtain ⟨rfl,rfl⟩:=trodVars_none Y;have V:=U;have G:∀x∈p0,x.block<W.heap.size:=by obtain ⟨m,hm⟩:=V;exact DataW.trod_lt m _ _ _ hm
 obtain ⟨J,A,-⟩:=okWide_struct Tryz.underlying24 (y 0 24 T rfl rfl);obtain ⟨K,Q,L,rfl,M,N,aa⟩:=zad ⟨J,A⟩ U;clear D o;have z:=uG K Q L M N W hT;refine z.mono fun e W' ⟨he,bel⟩=>?_
 subst he;exact ⟨_,rfl,_,_,_,[],_,[],I,trodAll_mk1 (shut_bool Tryz.underlying4 _),trodAll_cons_mk (Below.trod zab (by kernel_rfl) (of_decide_eq_true (by kernel_rfl)) V bel G) trodAll_mk0,rfl,bel.frame _,fun h=>by cases h⟩
theorem xF:Rows.CommandPrintsSaid :=
 OpenClaim.holds_of_cond 3 Tryz.f3 rfl rfl rfl rfl rfl rfl rfl ⟨rfl,rfl,rfl,rfl,rfl⟩ rfl rfl rfl rfl rfl (by kernel_rfl) Tryz.func3 (by kernel_rfl)
  (of_decide_eq_true (by kernel_rfl)) (by unfold Func.isWrapper;first | (rw [if_pos (by decide +kernel)];kernel_rfl) | (rw [if_neg (by decide +kernel)];exact ⟨rfl,rfl⟩))
  (fun os started H enc _ F=>by rw [OpenClaim.pre_eq_preRow];exact YU os started H enc F)
theorem commandPrints_proved:Rows.CommandPrintsCardSaid :=
 Claim7.holds_tied_plain_at .later [] [.data,.data,.data,.handle,.sentinel,.sentinel,.data,.data,.data,.data] true Rows.commandPrintsCard.stood.harness true
  xF (fun _ h=>by cases h) (by kernel_rfl) (fun _ h=>by cases h) commandPrints_row_tie rfl ⟨rfl,rfl⟩ (by kernel_rfl) rfl
  (fun f fn hf hfn=>by
   obtain rfl : f = 3 := Option.some.inj ((show Tryz.prog.funcNamed "hindcast/hindcastlaw17.CommandPrints" = some 3 by kernel_rfl).symm.trans hf) |>.symm
   obtain rfl:fn=Tryz.f3:=(Option.some.inj (Tryz.func3.symm.trans hfn)).symm
   exact ⟨by kernel_rfl,fun j t ht=>by
    rw [Tryz.params3] at ht;have o:t∈[24]:=by simpa using Array.mem_of_getElem? ht
    have e:([24].all fun u=>!Tryz.prog.wantsStandIn u)=true:=by kernel_rfl
    exact (show Tryz.prog.wantsStandIn t=false by simpa using List.all_eq_true.1 e t o)⟩)
  (by kernel_rfl)
#print axioms commandPrints_proved
end Go.Proofs.YtmbofhpmockmbaaGreatDoor
