/- A command that is printed is parsed as it was; what is parsed is printed as it stood: for every input CommandBack returns true, and its arguments read behind the call as they read before. Where what it reads is of bulk at most 1048576. The tables are tied to the program's text. -/
import Derived.Test.YtmbofhpmockmbaaGreatDoorCards
import Derived.Test.YtmbofhpmockmbaaGreatDoorTie
import Derived.Test.YtmbofhpmockmbaaGreatDoorLQBack
import Derived.Test.YtmbofhpmockmbaaGreatDoorQRowIn
import Derived.MakeChecks
namespace Go.Proofs.YtmbofhpmockmbaaGreatDoor
open Go.ChangeShapes Go.WideShapes Go.ChangeAt Go.RowKit
set_option maxRecDepth 100000
open Go.ChangeMaps (open_string shut_string)
theorem yI (os:Os) {H:Type} (enc:TypeId × Value→H):∃places,DataW.whole enc Tryz.prog ((Vh os).forCall (fun _ _=>0) ⟨#[],#[.agg #[.int .i64 0,.int .i64 0,.string ⟨#[]⟩],.string ⟨#[]⟩],[]⟩).memory Tryz.f6.params.toList Rows.commandBackSpec.vars false (#[Value.agg #[.int .i64 0,.int .i64 0,.string ⟨#[]⟩],Value.string ⟨#[]⟩]:Array Value).toList 8=some ([.agg [.lit (.int .i64 0),.lit (.int .i64 0),.lit (.string [])],.lit (.string [])],[],places) :=
 ⟨[],by kernel_rfl⟩
theorem yD (os:Os) (started:os.Started) (H:Type) (enc:TypeId × Value→H) (F:Stop.Interp) :
  ReturnsInHanded {} Tryz.checked os 6 .any ((Rows.OpenSpec.upto Rows.commandBackSpec).preRow enc Tryz.prog Tryz.f6 Rows.commandBackUptoRow.domain false Rows.commandBackUptoRow.laid) (((Rows.OpenSpec.upto Rows.commandBackSpec).at F).post enc Tryz.prog Tryz.f6 false true false false):=by
 obtain ⟨L,hx⟩:=yI os enc
 refine returnsInHanded_of_row (C:=Tryz.checked) (s:=Rows.OpenSpec.upto Rows.commandBackSpec) own started (by kernel_rfl) Tryz.func6
  (xu (Vh os) #[.agg #[.int .i64 0,.int .i64 0,.string ⟨#[]⟩],.string ⟨#[]⟩] (VD os) (World.shaped_of_ZipB (by kernel_rfl) (by kernel_rfl)) (by kernel_rfl)
   (OpenSpec.preRow_of_cond 8 hx (by kernel_rfl) (fun k J=>by cases J;kernel_rfl) (by kernel_rfl)
    (Vi os _))) ?_
 intro W base args ds gs K z hW _ D _ hL _ _;have hT:QT W:=VF hL;have y:∀(j:Nat) t v,Tryz.f6.params[j]?=some t→args[j]?=some v→Value.okWide Tryz.prog W .any base t v:=z;have N:=hW;obtain ⟨p,q,G,hV,rfl,af,ad⟩:=hW;have hA:DataW.TrodAll enc Tryz.prog W 0 (fun _=>true) true Tryz.f6.params.toList args.toList ds p:=G
 rw [Tryz.params6] at hA y;obtain ⟨v0,aa,d0,ab,p0,q0,Q,rfl,rfl,h0,r0⟩:=trodAll_cons hA;obtain ⟨v1,ag,d1,ae,p1,q1,rfl,rfl,rfl,h1,r1⟩:=trodAll_cons r0;obtain ⟨rfl,rfl,rfl⟩:=trodAll_nil r1;obtain rfl:args=#[v0,v1]:=by cases args;simp_all
 obtain ⟨rfl,rfl⟩:=trodVars_none hV
 have J:Rows.uptoBulkAll [d0,d1]≤1048576:=by
  have h:Rows.uptoBulkAll ([d0,d1]++[])≤1048576:=of_decide_eq_true (D _ rfl)
  simpa only [List.append_nil] using h
 simp only [Rows.uptoBulkAll] at J;have Z:=h0;have M:∀x∈p0,x.block<W.heap.size:=by obtain ⟨m,hm⟩:=Z;exact DataW.trod_lt m _ _ _ hm
 obtain ⟨R,E,-⟩:=okWide_struct Tryz.underlying24 (y 0 24 v0 rfl rfl);obtain ⟨T,O,I,rfl,U,Y,X⟩:=VG ⟨R,E⟩ h0
 have V:I.length≤1048576:=by
  have A:=J;rw [X] at A;simp only [Rows.uptoBulk,Rows.uptoBulkAll] at A;omega
 obtain ⟨a1,rfl,rfl,rfl,m1⟩:=open_string Tryz.underlying9 (y 1 9 v1 rfl rfl) h1
 have S:a1.data.toList.length≤1048576:=by
  have A:=J;simp only [Rows.uptoBulk] at A;omega
 clear G z;have o:=vB T O I U Y V a1.data.toList S W hT;rw [xt] at o;refine o.mono fun e W' ⟨he,bel⟩=>?_
 subst he;exact ⟨_,rfl,_,_,_,[],_,[],N,trodAll_mk1 (shut_bool Tryz.underlying4 _),trodAll_cons_mk (Below.trod VE (by kernel_rfl) (of_decide_eq_true (by kernel_rfl)) Z bel M) (trodAll_cons_mk (shut_string Tryz.underlying9 m1) trodAll_mk0),rfl,bel.frame _,fun h=>by cases h⟩
theorem y7:Rows.CommandBackUptoSaid :=
 OpenClaim.holds_of_cond 6 Tryz.f6 rfl rfl rfl rfl rfl rfl rfl ⟨rfl,rfl,rfl,rfl,rfl⟩ rfl rfl rfl rfl rfl (by kernel_rfl) Tryz.func6 (by kernel_rfl)
  (of_decide_eq_true (by kernel_rfl)) (by unfold Func.isWrapper;first | (rw [if_pos (by decide +kernel)];kernel_rfl) | (rw [if_neg (by decide +kernel)];exact ⟨rfl,rfl⟩))
  (fun os started H enc _ F=>by rw [OpenClaim.pre_eq_preRow];exact yD os started H enc F)
theorem commandBack_proved:Rows.CommandBackUptoCardSaid :=
 Claim7.holds_tied_plain_at .later [] [.data,.data,.data,.handle,.sentinel,.sentinel,.data,.data,.data,.data] true Rows.commandBackUptoCard.stood.harness true
  y7 (fun _ h=>by cases h) (by kernel_rfl) (fun _ h=>by cases h) commandBackUpto_row_tie rfl ⟨rfl,rfl⟩ (by kernel_rfl) rfl
  (fun f fn hf hfn=>by
   obtain rfl : f = 6 := Option.some.inj ((show Tryz.prog.funcNamed "hindcast/hindcastlaw17.CommandBack" = some 6 by kernel_rfl).symm.trans hf) |>.symm
   obtain rfl:fn=Tryz.f6:=(Option.some.inj (Tryz.func6.symm.trans hfn)).symm
   exact ⟨by kernel_rfl,fun j t ht=>by
    rw [Tryz.params6] at ht;have o:t∈[24,9]:=by simpa using Array.mem_of_getElem? ht
    have e:([24,9].all fun u=>!Tryz.prog.wantsStandIn u)=true:=by kernel_rfl
    exact (show Tryz.prog.wantsStandIn t=false by simpa using List.all_eq_true.1 e t o)⟩)
  (by kernel_rfl)
#print axioms commandBack_proved
end Go.Proofs.YtmbofhpmockmbaaGreatDoor
