/- Of no reader there is no command; of one that is not well there is none, and it stays where it was: for every input CommandNil returns true, and its arguments read behind the call as they read before. Where what it reads is of bulk at most 1048576. The tables are tied to the program's text. -/
import Derived.Test.YtmbofhpmockmbaaGreatDoorCards
import Derived.Test.YtmbofhpmockmbaaGreatDoorTie
import Derived.Test.YtmbofhpmockmbaaGreatDoorLQNil
import Derived.Test.YtmbofhpmockmbaaGreatDoorQRowIn
import Derived.MakeChecks
namespace Go.Proofs.YtmbofhpmockmbaaGreatDoor
open Go.ChangeShapes Go.WideShapes Go.ChangeAt Go.RowKit
set_option maxRecDepth 100000
open Go.ChangeMaps (open_string shut_string)
theorem Ya (os:Os) {H:Type} (enc:TypeId × Value→H):∃places,DataW.whole enc Tryz.prog ((uq os).forCall (fun _ _=>0) ⟨#[],#[.agg #[.int .i64 0,.int .i64 0,.string ⟨#[]⟩]],[]⟩).memory Tryz.f8.params.toList Rows.commandNilSpec.vars false (#[Value.agg #[.int .i64 0,.int .i64 0,.string ⟨#[]⟩]]:Array Value).toList 8=some ([.agg [.lit (.int .i64 0),.lit (.int .i64 0),.lit (.string [])]],[],places) :=
 ⟨[],by kernel_rfl⟩
theorem y0 (os:Os) (started:os.Started) (H:Type) (enc:TypeId × Value→H) (F:Stop.Interp) :
  ReturnsInHanded {} Tryz.checked os 8 .any ((Rows.OpenSpec.upto Rows.commandNilSpec).preRow enc Tryz.prog Tryz.f8 Rows.commandNilUptoRow.domain false Rows.commandNilUptoRow.laid) (((Rows.OpenSpec.upto Rows.commandNilSpec).at F).post enc Tryz.prog Tryz.f8 false true false false):=by
 obtain ⟨L,hx⟩:=Ya os enc
 refine returnsInHanded_of_row (C:=Tryz.checked) (s:=Rows.OpenSpec.upto Rows.commandNilSpec) own started (by kernel_rfl) Tryz.func8
  (Xb (uq os) #[.agg #[.int .i64 0,.int .i64 0,.string ⟨#[]⟩]] (uP os) (World.shaped_of_ZipB (by kernel_rfl) (by kernel_rfl)) (by kernel_rfl)
   (OpenSpec.preRow_of_cond 8 hx (by kernel_rfl) (fun k K=>by cases K;kernel_rfl) (by kernel_rfl)
    (ur os _))) ?_
 intro W base args ds gs J o hW _ A _ hL _ _;have hT:QT W:=uR hL;have y:∀(j:Nat) t v,Tryz.f8.params[j]?=some t→args[j]?=some v→Value.okWide Tryz.prog W .any base t v:=o;have O:=hW;obtain ⟨p,q,D,hV,rfl,ae,aa⟩:=hW;have hA:DataW.TrodAll enc Tryz.prog W 0 (fun _=>true) true Tryz.f8.params.toList args.toList ds p:=D
 rw [Tryz.params8] at hA y;obtain ⟨v0,ab,Y,ad,p0,q0,U,rfl,rfl,h0,r0⟩:=trodAll_cons hA;obtain ⟨rfl,rfl,rfl⟩:=trodAll_nil r0;obtain rfl:args=#[v0]:=by cases args;simp_all
 obtain ⟨rfl,rfl⟩:=trodVars_none hV
 have K:Rows.uptoBulkAll [Y]≤1048576:=by
  have h:Rows.uptoBulkAll ([Y]++[])≤1048576:=of_decide_eq_true (A _ rfl)
  simpa only [List.append_nil] using h
 simp only [Rows.uptoBulkAll] at K;have Z:=h0;have R:∀x∈p0,x.block<W.heap.size:=by obtain ⟨m,hm⟩:=Z;exact DataW.trod_lt m _ _ _ hm
 obtain ⟨M,E,-⟩:=okWide_struct Tryz.underlying24 (y 0 24 v0 rfl rfl);obtain ⟨T,V,G,rfl,S,X,Q⟩:=uS ⟨M,E⟩ h0
 have N:G.length≤1048576:=by
  have I:=K;rw [Q] at I;simp only [Rows.uptoBulk,Rows.uptoBulkAll] at I;omega
 clear D o;have z:=ul T V G S X N W hT;refine z.mono fun e W' ⟨he,bel⟩=>?_
 subst he;exact ⟨_,rfl,_,_,_,[],_,[],O,trodAll_mk1 (shut_bool Tryz.underlying4 _),trodAll_cons_mk (Below.trod uQ (by kernel_rfl) (of_decide_eq_true (by kernel_rfl)) Z bel R) trodAll_mk0,rfl,bel.frame _,fun h=>by cases h⟩
theorem Y1:Rows.CommandNilUptoSaid :=
 OpenClaim.holds_of_cond 8 Tryz.f8 rfl rfl rfl rfl rfl rfl rfl ⟨rfl,rfl,rfl,rfl,rfl⟩ rfl rfl rfl rfl rfl (by kernel_rfl) Tryz.func8 (by kernel_rfl)
  (of_decide_eq_true (by kernel_rfl)) (by unfold Func.isWrapper;first | (rw [if_pos (by decide +kernel)];kernel_rfl) | (rw [if_neg (by decide +kernel)];exact ⟨rfl,rfl⟩))
  (fun os started H enc _ F=>by rw [OpenClaim.pre_eq_preRow];exact y0 os started H enc F)
theorem commandNil_proved:Rows.CommandNilUptoCardSaid :=
 Claim7.holds_tied_plain_at .later [] [.data,.data,.data,.handle,.sentinel,.sentinel,.data,.data,.data,.data] true Rows.commandNilUptoCard.stood.harness true
  Y1 (fun _ h=>by cases h) (by kernel_rfl) (fun _ h=>by cases h) commandNilUpto_row_tie rfl ⟨rfl,rfl⟩ (by kernel_rfl) rfl
  (fun f fn hf hfn=>by
   obtain rfl : f = 8 := Option.some.inj ((show Tryz.prog.funcNamed "hindcast/hindcastlaw17.CommandNil" = some 8 by kernel_rfl).symm.trans hf) |>.symm
   obtain rfl:fn=Tryz.f8:=(Option.some.inj (Tryz.func8.symm.trans hfn)).symm
   exact ⟨by kernel_rfl,fun j t ht=>by
    rw [Tryz.params8] at ht;have y:t∈[24]:=by simpa using Array.mem_of_getElem? ht
    have o:([24].all fun u=>!Tryz.prog.wantsStandIn u)=true:=by kernel_rfl
    exact (show Tryz.prog.wantsStandIn t=false by simpa using List.all_eq_true.1 o t y)⟩)
  (by kernel_rfl)
#print axioms commandNil_proved
end Go.Proofs.YtmbofhpmockmbaaGreatDoor
