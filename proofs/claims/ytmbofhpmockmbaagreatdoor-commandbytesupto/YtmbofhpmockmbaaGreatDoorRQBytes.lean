/- A command that is put is got as it was, whatever stands behind it; commands that are put one behind the other are got so: for every input CommandBytes returns true, and its arguments read behind the call as they read before. Where what it reads is of bulk at most 1048576. The tables are tied to the program's text. -/
import Derived.Test.YtmbofhpmockmbaaGreatDoorCards
import Derived.Test.YtmbofhpmockmbaaGreatDoorTie
import Derived.Test.YtmbofhpmockmbaaGreatDoorLQBytes
import Derived.Test.YtmbofhpmockmbaaGreatDoorQRowIn
import Derived.MakeChecks
namespace Go.Proofs.YtmbofhpmockmbaaGreatDoor
open Go.ChangeShapes Go.WideShapes Go.ChangeAt Go.RowKit
set_option maxRecDepth 100000
open Go.ChangeMaps (open_string shut_string)
theorem Yb (os:Os) {H:Type} (enc:TypeId × Value→H):∃places,DataW.whole enc Tryz.prog ((uQ os).forCall (fun _ _=>0) ⟨#[],#[.agg #[.int .i64 0,.int .i64 0,.string ⟨#[]⟩],.agg #[.int .i64 0,.int .i64 0,.string ⟨#[]⟩],.slice none 0 0],[]⟩).memory Tryz.f7.params.toList Rows.commandBytesSpec.vars false (#[Value.agg #[.int .i64 0,.int .i64 0,.string ⟨#[]⟩],Value.agg #[.int .i64 0,.int .i64 0,.string ⟨#[]⟩],Value.slice none 0 0]:Array Value).toList 8=some ([.agg [.lit (.int .i64 0),.lit (.int .i64 0),.lit (.string [])],.agg [.lit (.int .i64 0),.lit (.int .i64 0),.lit (.string [])],.nil],[],places) :=
 ⟨[],by kernel_rfl⟩
theorem yX (os:Os) (started:os.Started) (H:Type) (enc:TypeId × Value→H) (F:Stop.Interp) :
  ReturnsInHanded {} Tryz.checked os 7 .any ((Rows.OpenSpec.upto Rows.commandBytesSpec).preRow enc Tryz.prog Tryz.f7 Rows.commandBytesUptoRow.domain false Rows.commandBytesUptoRow.laid) (((Rows.OpenSpec.upto Rows.commandBytesSpec).at F).post enc Tryz.prog Tryz.f7 false true false false):=by
 obtain ⟨Q,hx⟩:=Yb os enc
 refine returnsInHanded_of_row (C:=Tryz.checked) (s:=Rows.OpenSpec.upto Rows.commandBytesSpec) own started (by kernel_rfl) Tryz.func7
  (Xs (uQ os) #[.agg #[.int .i64 0,.int .i64 0,.string ⟨#[]⟩],.agg #[.int .i64 0,.int .i64 0,.string ⟨#[]⟩],.slice none 0 0] (Uq os) (World.shaped_of_ZipB (by kernel_rfl) (by kernel_rfl)) (by kernel_rfl)
   (OpenSpec.preRow_of_cond 8 hx (by kernel_rfl) (fun k L=>by cases L;kernel_rfl) (by kernel_rfl)
    (uR os _))) ?_
 intro W base args ds gs R y hW _ D _ hL _ _;have hT:QT W:=Ur hL;have o:∀(j:Nat) t v,Tryz.f7.params[j]?=some t→args[j]?=some v→Value.okWide Tryz.prog W .any base t v:=y;have ae:=hW;obtain ⟨p,q,I,hV,rfl,ap,ar⟩:=hW;have hA:DataW.TrodAll enc Tryz.prog W 0 (fun _=>true) true Tryz.f7.params.toList args.toList ds p:=I
 rw [Tryz.params7] at hA o;obtain ⟨v0,ax,d0,aq,p0,q0,ag,rfl,rfl,h0,r0⟩:=trodAll_cons hA;obtain ⟨v1,ay,d1,av,p1,q1,rfl,rfl,rfl,h1,r1⟩:=trodAll_cons r0;obtain ⟨v2,au,d2,aw,p2,q2,rfl,rfl,rfl,h2,r2⟩:=trodAll_cons r1;obtain ⟨rfl,rfl,rfl⟩:=trodAll_nil r2;obtain rfl:args=#[v0,v1,v2]:=by cases args;simp_all
 obtain ⟨rfl,rfl⟩:=trodVars_none hV
 have L:Rows.uptoBulkAll [d0,d1,d2]≤1048576:=by
  have h:Rows.uptoBulkAll ([d0,d1,d2]++[])≤1048576:=of_decide_eq_true (D _ rfl)
  simpa only [List.append_nil] using h
 simp only [Rows.uptoBulkAll] at L;have k0:=h0;have Z:∀x∈p0,x.block<W.heap.size:=by obtain ⟨m,G⟩:=k0;exact DataW.trod_lt m _ _ _ G
 obtain ⟨af,J,-⟩:=okWide_struct Tryz.underlying24 (o 0 24 v0 rfl rfl);obtain ⟨T,an,N,rfl,X,ab,ak⟩:=Vr ⟨af,J⟩ h0
 have ai:N.length≤1048576:=by
  have z:=L;rw [ak] at z;simp only [Rows.uptoBulk,Rows.uptoBulkAll] at z;omega
 have k1:=h1;have ao:∀x∈p1,x.block<W.heap.size:=by obtain ⟨m,G⟩:=k1;exact DataW.trod_lt m _ _ _ G
 obtain ⟨aj,E,-⟩:=okWide_struct Tryz.underlying24 (o 1 24 v1 rfl rfl);obtain ⟨am,aa,O,rfl,Y,V,al⟩:=Vr ⟨aj,E⟩ h1
 have U:O.length≤1048576:=by
  have z:=L;rw [al] at z;simp only [Rows.uptoBulk,Rows.uptoBulkAll] at z;omega
 have k2:=h2;have ah:∀x∈p2,x.block<W.heap.size:=by obtain ⟨m,G⟩:=k2;exact DataW.trod_lt m _ _ _ G
 obtain ⟨b2,M,K,rfl⟩:=okWide_slice Tryz.underlying39 (o 2 39 v2 rfl rfl);obtain ⟨ad,x2,l2⟩:=V9 h2 (by omega)
 clear I y;have A:=vO T an N X ab ai am aa O Y V U (.slice b2 M K) ad W x2 l2 hT;refine A.mono fun e W' ⟨he,bel⟩=>?_
 subst he;exact ⟨_,rfl,_,_,_,[],_,[],ae,trodAll_mk1 (shut_bool Tryz.underlying4 _),trodAll_cons_mk (Below.trod Xr (by kernel_rfl) (of_decide_eq_true (by kernel_rfl)) k0 bel Z) (trodAll_cons_mk (Below.trod Xr (by kernel_rfl) (of_decide_eq_true (by kernel_rfl)) k1 bel ao) (trodAll_cons_mk (Below.trod Xr (by kernel_rfl) (of_decide_eq_true (by kernel_rfl)) k2 bel ah) trodAll_mk0)),rfl,bel.frame _,fun h=>by cases h⟩
theorem Yt:Rows.CommandBytesUptoSaid :=
 OpenClaim.holds_of_cond 7 Tryz.f7 rfl rfl rfl rfl rfl rfl rfl ⟨rfl,rfl,rfl,rfl,rfl⟩ rfl rfl rfl rfl rfl (by kernel_rfl) Tryz.func7 (by kernel_rfl)
  (of_decide_eq_true (by kernel_rfl)) (by unfold Func.isWrapper;first | (rw [if_pos (by decide +kernel)];kernel_rfl) | (rw [if_neg (by decide +kernel)];exact ⟨rfl,rfl⟩))
  (fun os started H enc _ F=>by rw [OpenClaim.pre_eq_preRow];exact yX os started H enc F)
theorem commandBytes_proved:Rows.CommandBytesUptoCardSaid :=
 Claim7.holds_tied_plain_at .later [] [.data,.data,.data,.handle,.sentinel,.sentinel,.data,.data,.data,.data] true Rows.commandBytesUptoCard.stood.harness true
  Yt (fun _ h=>by cases h) (by kernel_rfl) (fun _ h=>by cases h) commandBytesUpto_row_tie rfl ⟨rfl,rfl⟩ (by kernel_rfl) rfl
  (fun f fn hf hfn=>by
   obtain rfl : f = 7 := Option.some.inj ((show Tryz.prog.funcNamed "hindcast/hindcastlaw17.CommandBytes" = some 7 by kernel_rfl).symm.trans hf) |>.symm
   obtain rfl:fn=Tryz.f7:=(Option.some.inj (Tryz.func7.symm.trans hfn)).symm
   exact ⟨by kernel_rfl,fun j t ht=>by
    rw [Tryz.params7] at ht;have o:t∈[24,24,39]:=by simpa using Array.mem_of_getElem? ht
    have e:([24,24,39].all fun u=>!Tryz.prog.wantsStandIn u)=true:=by kernel_rfl
    exact (show Tryz.prog.wantsStandIn t=false by simpa using List.all_eq_true.1 e t o)⟩)
  (by kernel_rfl)
#print axioms commandBytes_proved
end Go.Proofs.YtmbofhpmockmbaaGreatDoor
