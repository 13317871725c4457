/- Any text is the command that the document says, or none: for every input CommandParses returns true, and its arguments read behind the call as they read before. Where what it reads is of bulk at most 1048576. The tables are tied to the program's text. -/
import Derived.Test.YtmbofhpmockmbaaGreatDoorCards
import Derived.Test.YtmbofhpmockmbaaGreatDoorTie
import Derived.Test.YtmbofhpmockmbaaGreatDoorLQParses
import Derived.Test.YtmbofhpmockmbaaGreatDoorMC51
import Derived.MakeChecks
namespace Go.Proofs.YtmbofhpmockmbaaGreatDoor
open Go.ChangeShapes Go.WideShapes Go.ChangeAt Go.RowKit
set_option maxRecDepth 100000
open Go.ChangeMaps (open_string shut_string)
theorem xg (os:Os) {H:Type} (enc:TypeId × Value→H):∃places,DataW.whole enc Tryz.prog ((QU os).forCall (fun _ _=>0) ⟨#[],#[.string ⟨#[]⟩],[]⟩).memory Tryz.f4.params.toList Rows.commandParsesSpec.vars false (#[Value.string ⟨#[]⟩]:Array Value).toList 8=some ([.lit (.string [])],[],places) :=
 ⟨[],by kernel_rfl⟩
theorem Y2 (os:Os) (started:os.Started) (H:Type) (enc:TypeId × Value→H) (F:Stop.Interp) :
  ReturnsInHanded {} Tryz.checked os 4 .any ((Rows.OpenSpec.upto Rows.commandParsesSpec).preRow enc Tryz.prog Tryz.f4 Rows.commandParsesUptoRow.domain false Rows.commandParsesUptoRow.laid) (((Rows.OpenSpec.upto Rows.commandParsesSpec).at F).post enc Tryz.prog Tryz.f4 false true false false):=by
 obtain ⟨G,U⟩:=xg os enc
 refine returnsInHanded_of_row (C:=Tryz.checked) (s:=Rows.OpenSpec.upto Rows.commandParsesSpec) own started (by kernel_rfl) Tryz.func4
  (VU (QU os) #[.string ⟨#[]⟩] (zaz os) (World.shaped_of_ZipB (by kernel_rfl) (by kernel_rfl)) (by kernel_rfl)
   (OpenSpec.preRow_of_cond 8 U (by kernel_rfl) (fun k I=>by cases I;kernel_rfl) (by kernel_rfl)
    (QV os _))) ?_
 intro W base args ds gs E o Q _ A _ X _ _;have hT:QT W:=zaA X;have z:∀(j:Nat) t v,Tryz.f4.params[j]?=some t→args[j]?=some v→Value.okWide Tryz.prog W .any base t v:=o;have M:=Q;obtain ⟨p,q,D,Z,rfl,aa,ad⟩:=Q;have R:DataW.TrodAll enc Tryz.prog W 0 (fun _=>true) true Tryz.f4.params.toList args.toList ds p:=D
 rw [Tryz.params4] at R z;obtain ⟨T,ab,O,Y,p0,q0,L,rfl,rfl,V,r0⟩:=trodAll_cons R;obtain ⟨rfl,rfl,rfl⟩:=trodAll_nil r0;obtain rfl:args=#[T]:=by cases args;simp_all
 obtain ⟨rfl,rfl⟩:=trodVars_none Z
 have I:Rows.uptoBulkAll [O]≤1048576:=by
  have h:Rows.uptoBulkAll ([O]++[])≤1048576:=of_decide_eq_true (A _ rfl)
  simpa only [List.append_nil] using h
 simp only [Rows.uptoBulkAll] at I;obtain ⟨N,rfl,rfl,rfl,m0⟩:=open_string Tryz.underlying9 (z 0 9 T rfl rfl) V
 have J:N.data.toList.length≤1048576:=by
  have K:=I;simp only [Rows.uptoBulk] at K;omega
 clear D o;have y:=Ud N.data.toList J W hT;rw [U5] at y;refine y.mono fun e W' ⟨he,bel⟩=>?_
 subst he;exact ⟨_,rfl,_,_,_,[],_,[],M,trodAll_mk1 (shut_bool Tryz.underlying4 _),trodAll_cons_mk (shut_string Tryz.underlying9 m0) trodAll_mk0,rfl,bel.frame _,fun h=>by cases h⟩
theorem xP:Rows.CommandParsesUptoSaid :=
 OpenClaim.holds_of_cond 4 Tryz.f4 rfl rfl rfl rfl rfl rfl rfl ⟨rfl,rfl,rfl,rfl,rfl⟩ rfl rfl rfl rfl rfl (by kernel_rfl) Tryz.func4 (by kernel_rfl)
  (of_decide_eq_true (by kernel_rfl)) (by unfold Func.isWrapper;first | (rw [if_pos (by decide +kernel)];kernel_rfl) | (rw [if_neg (by decide +kernel)];exact ⟨rfl,rfl⟩))
  (fun os started H enc _ F=>by rw [OpenClaim.pre_eq_preRow];exact Y2 os started H enc F)
theorem commandParses_proved:Rows.CommandParsesUptoCardSaid :=
 Claim7.holds_tied_plain_at .later [] [.data,.data,.data,.handle,.sentinel,.sentinel,.data,.data,.data,.data] true Rows.commandParsesUptoCard.stood.harness true
  xP (fun _ h=>by cases h) (by kernel_rfl) (fun _ h=>by cases h) commandParsesUpto_row_tie rfl ⟨rfl,rfl⟩ (by kernel_rfl) rfl
  (fun f fn hf hfn=>by
   obtain rfl : f = 4 := Option.some.inj ((show Tryz.prog.funcNamed "hindcast/hindcastlaw17.CommandParses" = some 4 by kernel_rfl).symm.trans hf) |>.symm
   obtain rfl:fn=Tryz.f4:=(Option.some.inj (Tryz.func4.symm.trans hfn)).symm
   exact ⟨by kernel_rfl,fun j t ht=>by
    rw [Tryz.params4] at ht;have o:t∈[9]:=by simpa using Array.mem_of_getElem? ht
    have e:([9].all fun u=>!Tryz.prog.wantsStandIn u)=true:=by kernel_rfl
    exact (show Tryz.prog.wantsStandIn t=false by simpa using List.all_eq_true.1 e t o)⟩)
  (by kernel_rfl)
#print axioms commandParses_proved
end Go.Proofs.YtmbofhpmockmbaaGreatDoor
