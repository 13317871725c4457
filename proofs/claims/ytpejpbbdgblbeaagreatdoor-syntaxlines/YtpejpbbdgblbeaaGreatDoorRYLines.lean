/- With so many line ends ahead each line is so many further, and nothing else is another: for every input SyntaxLines returns true, and its arguments read behind the call as they read before. The tables are tied to the program's text. -/
import Derived.Test.YtpejpbbdgblbeaaGreatDoorCards
import Derived.Test.YtpejpbbdgblbeaaGreatDoorTie
import Derived.Test.YtpejpbbdgblbeaaGreatDoorMC35
import Derived.Test.YtpejpbbdgblbeaaGreatDoorLYLines
import Derived.Test.YtpejpbbdgblbeaaGreatDoorMC0
import Derived.ChangeSame
import Derived.JoinedOf
import Derived.SizedLaws
import Derived.MakeChecks
namespace Go.Proofs.YtpejpbbdgblbeaaGreatDoor
open Go.ChangeShapes Go.WideShapes Go.ChangeAt Go.RowKit
set_option maxRecDepth 100000
open Go.ChangeMaps (open_string shut_string)
theorem vR (os:Os) (started:os.Started) (H:Type) (enc:TypeId × Value→H) :
  ReturnsInHanded {} Tryz.checked os 7 .any (fun w args=>(Rows.syntaxLinesSpec.pre enc Tryz.prog Tryz.f7 Rows.syntaxLinesRow.domain false w args∧laidMetH Tryz.prog Rows.syntaxLinesRow.laid w)∧sizedMet enc Tryz.prog Tryz.f7 (OpenSpec.ofChange Rows.syntaxLinesSpec) false w args) (Rows.syntaxLinesSpec.post enc Tryz.prog Tryz.f7 false true false false):=by
 refine returnsInHanded_of_change_and (C:=Tryz.checked) (X:=fun w _=>laidMetH Tryz.prog Rows.syntaxLinesRow.laid w) (fun _ _ _ hh h=>h.of_heap hh) own started (by kernel_rfl) Tryz.func7
  (ChangeSpec.witness_shaped (enc:=enc) (C:=Tryz.checked) (os:=os) (X:=fun w _=>laidMetH Tryz.prog Rows.syntaxLinesRow.laid w) false (ze2 os) #[.string ⟨#[]⟩,.int .i64 0] 8 (ze3 os) (World.shaped_of_ZipB (by kernel_rfl) (by kernel_rfl)) (by kernel_rfl) (by kernel_rfl) (by kernel_rfl)
   (zd1 os _)) ?_
 intro W A args U gs D y N _ _ T _;have hT:XL W:=zcI T;have o:∀(j:Nat) t v,Tryz.f7.params[j]?=some t→args[j]?=some v→Value.okWide Tryz.prog W .any A t v:=y;have I:=N;obtain ⟨p,q,z,hV,rfl,ad,R⟩:=N;have J:DataW.TrodAll enc Tryz.prog W 0 (fun _=>true) true Tryz.f7.params.toList args.toList U p:=z
 rw [Tryz.params7] at J o;obtain ⟨L,V,d0,ab,p0,q0,G,rfl,rfl,h0,Z⟩:=trodAll_cons J;obtain ⟨K,aa,d1,Y,p1,q1,rfl,rfl,rfl,h1,r1⟩:=trodAll_cons Z;obtain ⟨rfl,rfl,rfl⟩:=trodAll_nil r1;obtain rfl:args=#[L,K]:=by cases args;simp_all
 obtain ⟨rfl,rfl⟩:=trodVars_none hV;obtain ⟨a0,rfl,rfl,rfl,O⟩:=open_string Tryz.underlying9 (o 0 9 L rfl rfl) h0;obtain ⟨a1,rfl,rfl,rfl,Q⟩:=open_int Tryz.underlying3 (o 1 3 K rfl rfl) h1;clear z y;have s:=zcW a0.data.toList a1 W hT;rw [zbC] at s;refine s.mono fun e W' ⟨he,bel⟩=>?_
 subst he;exact ⟨_,rfl,_,_,_,[],_,[],I,trodAll_mk1 (shut_bool Tryz.underlying4 _),trodAll_cons_mk (shut_string Tryz.underlying9 O) (trodAll_cons_mk (shut_int Tryz.underlying3 Q) trodAll_mk0),rfl,bel.frame _,fun h=>by cases h⟩
theorem V9:Rows.SyntaxLinesSaid :=
 OpenClaim.holds_of_wide 7 Tryz.f7 rfl rfl rfl rfl rfl rfl rfl ⟨rfl,rfl,rfl,rfl,rfl⟩ rfl rfl rfl rfl rfl (by kernel_rfl) Tryz.func7 (by kernel_rfl)
  (of_decide_eq_true (by kernel_rfl)) (by unfold Func.isWrapper;first | (rw [if_pos (by decide +kernel)];kernel_rfl) | (rw [if_neg (by decide +kernel)];exact ⟨rfl,rfl⟩))
  (fun os started H enc _=>vR os started H enc)
theorem syntaxLines_proved:Rows.SyntaxLinesCardSaid :=
 Claim7.holds_tied_plain_at .later [] [.data,.data,.data,.handle,.sentinel,.sentinel,.data,.data,.data,.data] true Rows.syntaxLinesCard.stood.harness true
  V9 (fun _ h=>by cases h) (by kernel_rfl) (fun _ h=>by cases h) syntaxLines_row_tie rfl ⟨rfl,rfl⟩ (by kernel_rfl) rfl
  (fun f fn hf hfn=>by
   obtain rfl : f = 7 := Option.some.inj ((show Tryz.prog.funcNamed "hindcast/hindcastlaw04.SyntaxLines" = some 7 by kernel_rfl).symm.trans hf) |>.symm
   obtain rfl:fn=Tryz.f7:=(Option.some.inj (Tryz.func7.symm.trans hfn)).symm
   exact ⟨by kernel_rfl,fun j t ht=>by
    rw [Tryz.params7] at ht;have s:t∈[9,3]:=by simpa using Array.mem_of_getElem? ht
    have o:([9,3].all fun u=>!Tryz.prog.wantsStandIn u)=true:=by kernel_rfl
    exact (show Tryz.prog.wantsStandIn t=false by simpa using List.all_eq_true.1 o t s)⟩)
  (by kernel_rfl)
#print axioms syntaxLines_proved
end Go.Proofs.YtpejpbbdgblbeaaGreatDoor
