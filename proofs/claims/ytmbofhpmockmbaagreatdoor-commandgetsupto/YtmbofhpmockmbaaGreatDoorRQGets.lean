/- Any command has the bytes, and any bytes are, at their front, the command, that the document says; or none: for every input CommandGets returns true, and its arguments read behind the call as they read before. Where what it reads is of bulk at most 1048576. The tables are tied to the program's text. -/
import Derived.Test.YtmbofhpmockmbaaGreatDoorCards
import Derived.Test.YtmbofhpmockmbaaGreatDoorTie
import Derived.Test.YtmbofhpmockmbaaGreatDoorLQGets
import Derived.Test.YtmbofhpmockmbaaGreatDoorQRowIn
import Derived.MakeChecks
namespace Go.Proofs.YtmbofhpmockmbaaGreatDoor
open Go.ChangeShapes Go.WideShapes Go.ChangeAt Go.RowKit
set_option maxRecDepth 100000
open Go.ChangeMaps (open_string shut_string)
theorem YE (os:Os) {H:Type} (enc:TypeId × Value→H):∃places,DataW.whole enc Tryz.prog ((UB os).forCall (fun _ _=>0) ⟨#[],#[.agg #[.int .i64 0,.int .i64 0,.string ⟨#[]⟩],.slice none 0 0],[]⟩).memory Tryz.f5.params.toList Rows.commandGetsSpec.vars false (#[Value.agg #[.int .i64 0,.int .i64 0,.string ⟨#[]⟩],Value.slice none 0 0]:Array Value).toList 8=some ([.agg [.lit (.int .i64 0),.lit (.int .i64 0),.lit (.string [])],.nil],[],places) :=
 ⟨[],by kernel_rfl⟩
theorem Yu (os:Os) (started:os.Started) (H:Type) (enc:TypeId × Value→H) (F:Stop.Interp) :
  ReturnsInHanded {} Tryz.checked os 5 .any ((Rows.OpenSpec.upto Rows.commandGetsSpec).preRow enc Tryz.prog Tryz.f5 Rows.commandGetsUptoRow.domain false Rows.commandGetsUptoRow.laid) (((Rows.OpenSpec.upto Rows.commandGetsSpec).at F).post enc Tryz.prog Tryz.f5 false true false false):=by
 obtain ⟨O,hx⟩:=YE os enc
 refine returnsInHanded_of_row (C:=Tryz.checked) (s:=Rows.OpenSpec.upto Rows.commandGetsSpec) own started (by kernel_rfl) Tryz.func5
  (XZ (UB os) #[.agg #[.int .i64 0,.int .i64 0,.string ⟨#[]⟩],.slice none 0 0] (U1 os) (World.shaped_of_ZipB (by kernel_rfl) (by kernel_rfl)) (by kernel_rfl)
   (OpenSpec.preRow_of_cond 8 hx (by kernel_rfl) (fun k M=>by cases M;kernel_rfl) (by kernel_rfl)
    (UC os _))) ?_
 intro W base args ds gs L y hW _ A _ hL _ _;have hT:QT W:=U2 hL;have o:∀(j:Nat) t v,Tryz.f5.params[j]?=some t→args[j]?=some v→Value.okWide Tryz.prog W .any base t v:=y;have V:=hW;obtain ⟨p,q,I,hV,rfl,af,ag⟩:=hW;have hA:DataW.TrodAll enc Tryz.prog W 0 (fun _=>true) true Tryz.f5.params.toList args.toList ds p:=I
 rw [Tryz.params5] at hA o;obtain ⟨v0,aj,d0,ak,p0,q0,R,rfl,rfl,h0,r0⟩:=trodAll_cons hA;obtain ⟨v1,ah,d1,ai,p1,q1,rfl,rfl,rfl,h1,r1⟩:=trodAll_cons r0;obtain ⟨rfl,rfl,rfl⟩:=trodAll_nil r1;obtain rfl:args=#[v0,v1]:=by cases args;simp_all
 obtain ⟨rfl,rfl⟩:=trodVars_none hV
 have M:Rows.uptoBulkAll [d0,d1]≤1048576:=by
  have h:Rows.uptoBulkAll ([d0,d1]++[])≤1048576:=of_decide_eq_true (A _ rfl)
  simpa only [List.append_nil] using h
 simp only [Rows.uptoBulkAll] at M;have k0:=h0;have ad:∀x∈p0,x.block<W.heap.size:=by obtain ⟨m,hm⟩:=k0;exact DataW.trod_lt m _ _ _ hm
 obtain ⟨Z,K,-⟩:=okWide_struct Tryz.underlying24 (o 0 24 v0 rfl rfl);obtain ⟨ab,ae,G,rfl,T,aa,X⟩:=U3 ⟨Z,K⟩ h0
 have Q:G.length≤1048576:=by
  have E:=M;rw [X] at E;simp only [Rows.uptoBulk,Rows.uptoBulkAll] at E;omega
 have k1:=h1;have U:∀x∈p1,x.block<W.heap.size:=by obtain ⟨m,hm⟩:=k1;exact DataW.trod_lt m _ _ _ hm
 obtain ⟨b1,D,J,rfl⟩:=okWide_slice Tryz.underlying39 (o 1 39 v1 rfl rfl);obtain ⟨Y,x1,l1⟩:=uN h1 (by omega)
 clear I y;have z:=uJ ab ae G T aa Q (.slice b1 D J) Y W x1 l1 hT;refine z.mono fun e W' ⟨he,bel⟩=>?_
 subst he;exact ⟨_,rfl,_,_,_,[],_,[],V,trodAll_mk1 (shut_bool Tryz.underlying4 _),trodAll_cons_mk (Below.trod V1 (by kernel_rfl) (of_decide_eq_true (by kernel_rfl)) k0 bel ad) (trodAll_cons_mk (Below.trod V1 (by kernel_rfl) (of_decide_eq_true (by kernel_rfl)) k1 bel U) trodAll_mk0),rfl,bel.frame _,fun h=>by cases h⟩
theorem Y7:Rows.CommandGetsUptoSaid :=
 OpenClaim.holds_of_cond 5 Tryz.f5 rfl rfl rfl rfl rfl rfl rfl ⟨rfl,rfl,rfl,rfl,rfl⟩ rfl rfl rfl rfl rfl (by kernel_rfl) Tryz.func5 (by kernel_rfl)
  (of_decide_eq_true (by kernel_rfl)) (by unfold Func.isWrapper;first | (rw [if_pos (by decide +kernel)];kernel_rfl) | (rw [if_neg (by decide +kernel)];exact ⟨rfl,rfl⟩))
  (fun os started H enc _ F=>by rw [OpenClaim.pre_eq_preRow];exact Yu os started H enc F)
theorem commandGets_proved:Rows.CommandGetsUptoCardSaid :=
 Claim7.holds_tied_plain_at .later [] [.data,.data,.data,.handle,.sentinel,.sentinel,.data,.data,.data,.data] true Rows.commandGetsUptoCard.stood.harness true
  Y7 (fun _ h=>by cases h) (by kernel_rfl) (fun _ h=>by cases h) commandGetsUpto_row_tie rfl ⟨rfl,rfl⟩ (by kernel_rfl) rfl
  (fun f fn hf hfn=>by
   obtain rfl : f = 5 := Option.some.inj ((show Tryz.prog.funcNamed "hindcast/hindcastlaw17.CommandGets" = some 5 by kernel_rfl).symm.trans hf) |>.symm
   obtain rfl:fn=Tryz.f5:=(Option.some.inj (Tryz.func5.symm.trans hfn)).symm
   exact ⟨by kernel_rfl,fun j t ht=>by
    rw [Tryz.params5] at ht;have y:t∈[24,39]:=by simpa using Array.mem_of_getElem? ht
    have o:([24,39].all fun u=>!Tryz.prog.wantsStandIn u)=true:=by kernel_rfl
    exact (show Tryz.prog.wantsStandIn t=false by simpa using List.all_eq_true.1 o t y)⟩)
  (by kernel_rfl)
#print axioms commandGets_proved
end Go.Proofs.YtmbofhpmockmbaaGreatDoor
