/- What is read is written and read again as it, and written the same: for every input SyntaxAgain returns true, and its arguments read behind the call as they read before. The tables are tied to the program text. -/
import Derived.Test.YtpejpbbdgblbeaaGreatDoorCards
import Derived.Test.YtpejpbbdgblbeaaGreatDoorTie
import Derived.Test.YtpejpbbdgblbeaaGreatDoorMC36
import Derived.Test.YtpejpbbdgblbeaaGreatDoorMC0
import Derived.ChangeSame
import Derived.JoinedOf
import Derived.SizedLaws
import Derived.MakeChecks
namespace Go.Proofs.YtpejpbbdgblbeaaGreatDoor
open Go.ChangeShapes Go.WideShapes Go.ChangeAt Go.RowKit
set_option maxRecDepth 100000
open Go.ChangeMaps (open_string shut_string)
theorem VA (os:Os) (started:os.Started) (H:Type) (enc:TypeId × Value→H) :
  ReturnsInHanded {} Tryz.checked os 6 .any (fun w args=>(Rows.syntaxAgainSpec.pre enc Tryz.prog Tryz.f6 Rows.syntaxAgainRow.domain false w args∧laidMetH Tryz.prog Rows.syntaxAgainRow.laid w)∧sizedMet enc Tryz.prog Tryz.f6 (OpenSpec.ofChange Rows.syntaxAgainSpec) false w args) (Rows.syntaxAgainSpec.post enc Tryz.prog Tryz.f6 false true false false):=by
 refine returnsInHanded_of_change_and (C:=Tryz.checked) (X:=fun w _=>laidMetH Tryz.prog Rows.syntaxAgainRow.laid w) (fun _ _ _ hh h=>h.of_heap hh) own started (by kernel_rfl) Tryz.func6
  (ChangeSpec.witness_shaped (enc:=enc) (C:=Tryz.checked) (os:=os) (X:=fun w _=>laidMetH Tryz.prog Rows.syntaxAgainRow.laid w) false (zhj os) #[.string ⟨#[]⟩] 8 (zhk os) (World.shaped_of_ZipB (by kernel_rfl) (by kernel_rfl)) (by kernel_rfl) (by kernel_rfl) (by kernel_rfl)
   (zf4 os _)) ?_
 intro W D args Y gs G y N _ _ Q _;have hT:Vz W:=zeq Q;have z:∀(j:Nat) t v,Tryz.f6.params[j]?=some t→args[j]?=some v→Value.okWide Tryz.prog W .any D t v:=y;have I:=N;obtain ⟨p,q,A,Z,rfl,V,ab⟩:=N;have L:DataW.TrodAll enc Tryz.prog W 0 (fun _=>true) true Tryz.f6.params.toList args.toList Y p:=A
 rw [Tryz.params6] at L z;obtain ⟨O,R,d0,aa,p0,q0,J,rfl,rfl,T,U⟩:=trodAll_cons L;obtain ⟨rfl,rfl,rfl⟩:=trodAll_nil U;obtain rfl:args=#[O]:=by cases args;simp_all
 obtain ⟨rfl,rfl⟩:=trodVars_none Z;obtain ⟨a0,rfl,rfl,rfl,m0⟩:=open_string Tryz.underlying9 (z 0 9 O rfl rfl) T;clear A y;have o:=zer a0.data.toList W hT;rw [zcU] at o;refine o.mono fun e W' ⟨he,bel⟩=>?_
 subst he;exact ⟨_,rfl,_,_,_,[],_,[],I,trodAll_mk1 (shut_bool Tryz.underlying4 _),trodAll_cons_mk (shut_string Tryz.underlying9 m0) trodAll_mk0,rfl,bel.frame _,fun h=>by cases h⟩
theorem uW:Rows.SyntaxAgainSaid :=
 OpenClaim.holds_of_wide 6 Tryz.f6 rfl rfl rfl rfl rfl rfl rfl ⟨rfl,rfl,rfl,rfl,rfl⟩ rfl rfl rfl rfl rfl (by kernel_rfl) Tryz.func6 (by kernel_rfl)
  (of_decide_eq_true (by kernel_rfl)) (by unfold Func.isWrapper;first | (rw [if_pos (by decide +kernel)];kernel_rfl) | (rw [if_neg (by decide +kernel)];exact ⟨rfl,rfl⟩))
  (fun os started H enc _=>VA os started H enc)
theorem syntaxAgain_proved:Rows.SyntaxAgainCardSaid :=
 Claim7.holds_tied_plain_at .later [] [.data,.data,.data,.handle,.sentinel,.sentinel,.data,.data,.data,.data] true Rows.syntaxAgainCard.stood.harness true
  uW (fun _ h=>by cases h) (by kernel_rfl) (fun _ h=>by cases h) syntaxAgain_row_tie rfl ⟨rfl,rfl⟩ (by kernel_rfl) rfl
  (fun f fn hf hfn=>by
   obtain rfl : f = 6 := Option.some.inj ((show Tryz.prog.funcNamed "hindcast/hindcastlaw04.SyntaxAgain" = some 6 by kernel_rfl).symm.trans hf) |>.symm
   obtain rfl:fn=Tryz.f6:=(Option.some.inj (Tryz.func6.symm.trans hfn)).symm
   exact ⟨by kernel_rfl,fun j t ht=>by
    rw [Tryz.params6] at ht;have y:t∈[9]:=by simpa using Array.mem_of_getElem? ht
    have o:([9].all fun u=>!Tryz.prog.wantsStandIn u)=true:=by kernel_rfl
    exact (show Tryz.prog.wantsStandIn t=false by simpa using List.all_eq_true.1 o t y)⟩)
  (by kernel_rfl)
#print axioms syntaxAgain_proved
end Go.Proofs.YtpejpbbdgblbeaaGreatDoor
