/- Lines of a view, each of them: how many there are, how long each is, of which bytes, and that Bytes are the lines with an end behind each: for every input ShowEach returns true, and its arguments read behind the call as they read before. Where what it reads is of bulk at most 1048576. The tables are tied to the program's text. -/
import Derived.Test.YtbjndgachcdbcaaGreatDoorCards
import Derived.Test.YtbjndgachcdbcaaGreatDoorTie
import Derived.Test.YtbjndgachcdbcaaGreatDoorLVEach
import Derived.Test.YtbjndgachcdbcaaGreatDoorVObjs
import Derived.JoinedCond
import Derived.Stop.Joined
namespace Go.Proofs.YtbjndgachcdbcaaGreatDoor
open Go.ChangeShapes Go.WideShapes Go.ChangeAt Go.RowKit
set_option maxRecDepth 100000
theorem Y0 (os:Os) {H:Type} (enc:TypeId × Value→H):∃places,DataW.whole enc Tryz.prog ((World.laidAll Tryz.prog os Rows.showEachUptoRow.laid).forCall (fun _ _=>0) ⟨#[],#[.agg #[.int .i64 0,.int .i64 0,.int .i64 0,.slice none 0 0,.string ⟨#[]⟩,.int .i64 0,.slice none 0 0,.int .i64 0,.int .i64 0,.string ⟨#[]⟩],.slice none 0 0],[]⟩).memory Tryz.f4.params.toList Rows.showEachSpec.vars false (#[.agg #[.int .i64 0,.int .i64 0,.int .i64 0,.slice none 0 0,.string ⟨#[]⟩,.int .i64 0,.slice none 0 0,.int .i64 0,.int .i64 0,.string ⟨#[]⟩],.slice none 0 0]:Array Value).toList 8=some ([.agg [.agg [.lit (.int .i64 0),.lit (.int .i64 0),.lit (.int .i64 0),.nil,.lit (.string [])],.lit (.int .i64 0),.nil,.agg [.lit (.int .i64 0),.lit (.int .i64 0),.lit (.string [])]],.nil],[],places) :=
 ⟨[],by kernel_rfl⟩
theorem Yu (os:Os) (started:os.Started) (H:Type) (enc:TypeId × Value→H) (F:Stop.Interp) :
  ReturnsInHanded {} Tryz.checked os 4 .any ((Rows.OpenSpec.upto Rows.showEachSpec).preRow enc Tryz.prog Tryz.f4 Rows.showEachUptoRow.domain false Rows.showEachUptoRow.laid) (((Rows.OpenSpec.upto Rows.showEachSpec).at F).post enc Tryz.prog Tryz.f4 false true false false):=by
 obtain ⟨B,hx⟩:=Y0 os enc
 refine returnsInHanded_of_row (C:=Tryz.checked) (s:=Rows.OpenSpec.upto Rows.showEachSpec) own started (by kernel_rfl) Tryz.func4
  (xX (World.laidAll Tryz.prog os Rows.showEachUptoRow.laid) #[.agg #[.int .i64 0,.int .i64 0,.int .i64 0,.slice none 0 0,.string ⟨#[]⟩,.int .i64 0,.slice none 0 0,.int .i64 0,.int .i64 0,.string ⟨#[]⟩],.slice none 0 0] (World.laidAll_os _ _ _) (World.shaped_of_ZipB (by kernel_rfl) (by kernel_rfl)) (by kernel_rfl)
   (OpenSpec.preRow_of_cond 8 hx (by kernel_rfl) (fun k T=>by cases T;kernel_rfl) (by kernel_rfl)
    (laidMet_laidAll _ (by kernel_rfl) (by kernel_rfl)))) ?_
 intro W base b ds gs A o hW _ u _ hL E _;rw [MakeChecks.laidMetH_plain _ _ _ (by kernel_rfl)] at hL
 have hT:Yr W:=uq hL (by unfold laidX Rows.showEachUptoRow;simp) (by unfold Rows.showEachUptoRow;simp) E
 have c:∀(j:Nat) t v,Tryz.f4.params[j]?=some t→b[j]?=some v→Value.okWide Tryz.prog W .any base t v:=o;have M:=hW;obtain ⟨p,q,y,hV,rfl,aj,ai⟩:=hW;have hA:DataW.TrodAll enc Tryz.prog W 0 (fun _=>true) true Tryz.f4.params.toList b.toList ds p:=y
 rw [Tryz.params4] at hA c;obtain ⟨v0,ao,d0,ae,p0,q0,G,rfl,rfl,h0,r0⟩:=trodAll_cons hA;obtain ⟨v1,am,X,aq,p1,q1,rfl,rfl,rfl,h1,r1⟩:=trodAll_cons r0;obtain ⟨rfl,rfl,rfl⟩:=trodAll_nil r1;obtain rfl:b=#[v0,v1]:=by cases b;simp_all
 obtain ⟨rfl,rfl⟩:=trodVars_none hV
 have T:Rows.uptoBulkAll [d0,X]≤1048576:=by
  have h:Rows.uptoBulkAll ([d0,X]++[])≤1048576:=of_decide_eq_true (u _ rfl)
  simpa only [List.append_nil] using h
 simp only [Rows.uptoBulkAll] at T;have k0:=h0;have U:∀x∈p0,x.block<W.heap.size:=by obtain ⟨m,Y⟩:=k0;exact DataW.trod_lt m _ _ _ Y
 obtain ⟨R,z,-⟩:=okWide_struct Tryz.underlying35 (c 0 35 v0 rfl rfl);obtain ⟨s0,ak,af,ap,an,ah,ag,rfl,J,O⟩:=uo ⟨R,z⟩ h0 (by omega)
 have k1:=h1;have aa:∀x∈p1,x.block<W.heap.size:=by obtain ⟨m,Y⟩:=k1;exact DataW.trod_lt m _ _ _ Y
 obtain ⟨a1,ad,ab,rfl⟩:=okWide_slice Tryz.underlying36 (c 1 36 v1 rfl rfl);obtain ⟨al,K⟩:=h1;obtain ⟨l1,Z,V,D,I⟩:=ur (x:=(X,p1)) (by simpa [Value.cells] using K) (by simp only;omega)
 clear y o;refine (xV W s0 _ _ J O l1 _ Z V D I hT).mono fun e W' ⟨he,bel⟩=>?_
 subst he;exact ⟨_,rfl,_,_,_,[],_,[],M,trodAll_mk1 (shut_bool Tryz.underlying4 _),trodAll_cons_mk (Below.trod vR (by kernel_rfl) (of_decide_eq_true (by kernel_rfl)) k0 bel U) (trodAll_cons_mk (Below.trod vR (by kernel_rfl) (of_decide_eq_true (by kernel_rfl)) k1 bel aa) trodAll_mk0),rfl,bel.frame _,fun h=>by cases h⟩
theorem xY:Rows.ShowEachUptoSaid :=
 OpenClaim.holds_of_cond 4 Tryz.f4 rfl rfl rfl rfl rfl rfl rfl ⟨rfl,rfl,rfl,rfl,rfl⟩ rfl rfl rfl rfl rfl (by kernel_rfl) Tryz.func4 (by kernel_rfl)
  (of_decide_eq_true (by kernel_rfl)) (by unfold Func.isWrapper;first | (rw [if_pos (by decide +kernel)];kernel_rfl) | (rw [if_neg (by decide +kernel)];exact ⟨rfl,rfl⟩))
  (fun os started H enc _ F=>by rw [OpenClaim.pre_eq_preRow];exact Yu os started H enc F)
theorem showEach_proved:Rows.ShowEachUptoCardSaid :=
 Claim7.holds_tied_plain_at .later [] [.data,.data,.data,.data,.sentinel,.sentinel,.data,.data,.data,.data,.pinned] true Rows.showEachUptoCard.stood.harness true
  xY (fun _ h=>by cases h) (by kernel_rfl) (fun _ h=>by cases h) showEachUpto_row_tie rfl ⟨rfl,rfl⟩ (by kernel_rfl) rfl
  (fun f fn hf hfn=>by
   obtain rfl : f = 4 := Option.some.inj ((show Tryz.prog.funcNamed "hindcast/hindcastlaw16.ShowEach" = some 4 by kernel_rfl).symm.trans hf) |>.symm
   obtain rfl:fn=Tryz.f4:=(Option.some.inj (Tryz.func4.symm.trans hfn)).symm
   exact ⟨by kernel_rfl,fun j t ht=>by
    rw [Tryz.params4] at ht;have c:t∈[35,36]:=by simpa using Array.mem_of_getElem? ht
    have b:([35,36].all fun u=>!Tryz.prog.wantsStandIn u)=true:=by kernel_rfl
    exact (show Tryz.prog.wantsStandIn t=false by simpa using List.all_eq_true.1 b t c)⟩)
  (by kernel_rfl)
#print axioms showEach_proved
end Go.Proofs.YtbjndgachcdbcaaGreatDoor
