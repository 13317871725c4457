/- Lines of a view with a frame selected: exactly that frame begins with the sign: for every input ShowSelects returns true, and its arguments read behind the call as they read before. Where what it reads is of bulk at most 1048576. The tables are tied to the program's text. -/
import Derived.Test.YtbjndgachcdbcaaGreatDoorCards
import Derived.Test.YtbjndgachcdbcaaGreatDoorTie
import Derived.Test.YtbjndgachcdbcaaGreatDoorLVSelects
import Derived.Test.YtbjndgachcdbcaaGreatDoorVObjs
import Derived.JoinedCond
import Derived.Stop.Joined
namespace Go.Proofs.YtbjndgachcdbcaaGreatDoor
open Go.ChangeShapes Go.WideShapes Go.ChangeAt Go.RowKit
set_option maxRecDepth 100000
theorem yO (os:Os) {H:Type} (enc:TypeId × Value→H):∃places,DataW.whole enc Tryz.prog ((World.laidAll Tryz.prog os Rows.showSelectsUptoRow.laid).forCall (fun _ _=>0) ⟨#[],#[.agg #[.int .i64 0,.int .i64 0,.int .i64 0,.slice none 0 0,.string ⟨#[]⟩,.int .i64 0,.slice none 0 0,.int .i64 0,.int .i64 0,.string ⟨#[]⟩],.slice none 0 0,.int .i64 0],[]⟩).memory Tryz.f6.params.toList Rows.showSelectsSpec.vars false (#[.agg #[.int .i64 0,.int .i64 0,.int .i64 0,.slice none 0 0,.string ⟨#[]⟩,.int .i64 0,.slice none 0 0,.int .i64 0,.int .i64 0,.string ⟨#[]⟩],.slice none 0 0,.int .i64 0]:Array Value).toList 8=some ([.agg [.agg [.lit (.int .i64 0),.lit (.int .i64 0),.lit (.int .i64 0),.nil,.lit (.string [])],.lit (.int .i64 0),.nil,.agg [.lit (.int .i64 0),.lit (.int .i64 0),.lit (.string [])]],.nil,.lit (.int .i64 0)],[],places) :=
 ⟨[],by kernel_rfl⟩
theorem yF (os:Os) (started:os.Started) (H:Type) (enc:TypeId × Value→H) (F:Stop.Interp) :
  ReturnsInHanded {} Tryz.checked os 6 .any ((Rows.OpenSpec.upto Rows.showSelectsSpec).preRow enc Tryz.prog Tryz.f6 Rows.showSelectsUptoRow.domain false Rows.showSelectsUptoRow.laid) (((Rows.OpenSpec.upto Rows.showSelectsSpec).at F).post enc Tryz.prog Tryz.f6 false true false false):=by
 obtain ⟨A,hx⟩:=yO os enc
 refine returnsInHanded_of_row (C:=Tryz.checked) (s:=Rows.OpenSpec.upto Rows.showSelectsSpec) own started (by kernel_rfl) Tryz.func6
  (xS (World.laidAll Tryz.prog os Rows.showSelectsUptoRow.laid) #[.agg #[.int .i64 0,.int .i64 0,.int .i64 0,.slice none 0 0,.string ⟨#[]⟩,.int .i64 0,.slice none 0 0,.int .i64 0,.int .i64 0,.string ⟨#[]⟩],.slice none 0 0,.int .i64 0] (World.laidAll_os _ _ _) (World.shaped_of_ZipB (by kernel_rfl) (by kernel_rfl)) (by kernel_rfl)
   (OpenSpec.preRow_of_cond 8 hx (by kernel_rfl) (fun k D=>by cases D;kernel_rfl) (by kernel_rfl)
    (laidMet_laidAll _ (by kernel_rfl) (by kernel_rfl)))) ?_
 intro W base b ds gs B o hW _ u _ hL I _;rw [MakeChecks.laidMetH_plain _ _ _ (by kernel_rfl)] at hL
 have hT:YB W:=ui hL (by unfold laidX Rows.showSelectsUptoRow;simp) (by unfold Rows.showSelectsUptoRow;simp) I
 have c:∀(j:Nat) t v,Tryz.f6.params[j]?=some t→b[j]?=some v→Value.okWide Tryz.prog W .any base t v:=o;have X:=hW;obtain ⟨p,q,z,hV,rfl,al,an⟩:=hW;have hA:DataW.TrodAll enc Tryz.prog W 0 (fun _=>true) true Tryz.f6.params.toList b.toList ds p:=z
 rw [Tryz.params6] at hA c;obtain ⟨v0,ao,d0,ah,p0,q0,aa,rfl,rfl,h0,r0⟩:=trodAll_cons hA;obtain ⟨v1,af,R,ap,p1,q1,rfl,rfl,rfl,h1,r1⟩:=trodAll_cons r0;obtain ⟨v2,ag,d2,aj,p2,q2,rfl,rfl,rfl,h2,r2⟩:=trodAll_cons r1;obtain ⟨rfl,rfl,rfl⟩:=trodAll_nil r2;obtain rfl:b=#[v0,v1,v2]:=by cases b;simp_all
 obtain ⟨rfl,rfl⟩:=trodVars_none hV
 have D:Rows.uptoBulkAll [d0,R,d2]≤1048576:=by
  have h:Rows.uptoBulkAll ([d0,R,d2]++[])≤1048576:=of_decide_eq_true (u _ rfl)
  simpa only [List.append_nil] using h
 simp only [Rows.uptoBulkAll] at D;have k0:=h0;have M:∀x∈p0,x.block<W.heap.size:=by obtain ⟨m,U⟩:=k0;exact DataW.trod_lt m _ _ _ U
 obtain ⟨O,y,-⟩:=okWide_struct Tryz.underlying35 (c 0 35 v0 rfl rfl);obtain ⟨s0,aq,ak,ae,au,ar,am,rfl,Y,J⟩:=uh ⟨O,y⟩ h0 (by omega)
 have k1:=h1;have K:∀x∈p1,x.block<W.heap.size:=by obtain ⟨m,U⟩:=k1;exact DataW.trod_lt m _ _ _ U
 obtain ⟨a1,ab,ad,rfl⟩:=okWide_slice Tryz.underlying36 (c 1 36 v1 rfl rfl);obtain ⟨ai,E⟩:=h1;obtain ⟨l1,G,Z,V,T⟩:=uj (x:=(R,p1)) (by simpa [Value.cells] using E) (by simp only;omega)
 obtain ⟨a2,rfl,rfl,rfl,w2⟩:=open_int Tryz.underlying3 (c 2 3 v2 rfl rfl) h2;clear z o;refine (Yq W s0 _ _ Y J l1 _ G Z V T a2 (V6 w2) hT).mono fun e W' ⟨he,bel⟩=>?_
 subst he;exact ⟨_,rfl,_,_,_,[],_,[],X,trodAll_mk1 (shut_bool Tryz.underlying4 _),trodAll_cons_mk (Below.trod vJ (by kernel_rfl) (of_decide_eq_true (by kernel_rfl)) k0 bel M) (trodAll_cons_mk (Below.trod vJ (by kernel_rfl) (of_decide_eq_true (by kernel_rfl)) k1 bel K) (trodAll_cons_mk (shut_int Tryz.underlying3 w2) trodAll_mk0)),rfl,bel.frame _,fun h=>by cases h⟩
theorem Ys:Rows.ShowSelectsUptoSaid :=
 OpenClaim.holds_of_cond 6 Tryz.f6 rfl rfl rfl rfl rfl rfl rfl ⟨rfl,rfl,rfl,rfl,rfl⟩ rfl rfl rfl rfl rfl (by kernel_rfl) Tryz.func6 (by kernel_rfl)
  (of_decide_eq_true (by kernel_rfl)) (by unfold Func.isWrapper;first | (rw [if_pos (by decide +kernel)];kernel_rfl) | (rw [if_neg (by decide +kernel)];exact ⟨rfl,rfl⟩))
  (fun os started H enc _ F=>by rw [OpenClaim.pre_eq_preRow];exact yF os started H enc F)
theorem showSelects_proved:Rows.ShowSelectsUptoCardSaid :=
 Claim7.holds_tied_plain_at .later [] [.data,.data,.data,.data,.sentinel,.sentinel,.data,.data,.data,.data,.pinned] true Rows.showSelectsUptoCard.stood.harness true
  Ys (fun _ h=>by cases h) (by kernel_rfl) (fun _ h=>by cases h) showSelectsUpto_row_tie rfl ⟨rfl,rfl⟩ (by kernel_rfl) rfl
  (fun f fn hf hfn=>by
   obtain rfl : f = 6 := Option.some.inj ((show Tryz.prog.funcNamed "hindcast/hindcastlaw16.ShowSelects" = some 6 by kernel_rfl).symm.trans hf) |>.symm
   obtain rfl:fn=Tryz.f6:=(Option.some.inj (Tryz.func6.symm.trans hfn)).symm
   exact ⟨by kernel_rfl,fun j t ht=>by
    rw [Tryz.params6] at ht;have c:t∈[35,36,3]:=by simpa using Array.mem_of_getElem? ht
    have b:([35,36,3].all fun u=>!Tryz.prog.wantsStandIn u)=true:=by kernel_rfl
    exact (show Tryz.prog.wantsStandIn t=false by simpa using List.all_eq_true.1 b t c)⟩)
  (by kernel_rfl)
#print axioms showSelects_proved
end Go.Proofs.YtbjndgachcdbcaaGreatDoor
