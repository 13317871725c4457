/- The same lines, asked twice and whatever lies behind the objects: for every input ShowSame returns true, and its arguments read behind the call as they read before. Where what it reads is of bulk at most 1048576. The tables are tied to the program's text. -/
import Derived.Test.YtbjndgachcdbcaaGreatDoorCards
import Derived.Test.YtbjndgachcdbcaaGreatDoorTie
import Derived.Test.YtbjndgachcdbcaaGreatDoorLVSame
import Derived.Test.YtbjndgachcdbcaaGreatDoorVObjs2
import Derived.JoinedCond
import Derived.Stop.Joined
namespace Go.Proofs.YtbjndgachcdbcaaGreatDoor
open Go.ChangeShapes Go.WideShapes Go.ChangeAt Go.RowKit
set_option maxRecDepth 100000
theorem Y9 (os:Os) {H:Type} (enc:TypeId × Value→H):∃places,DataW.whole enc Tryz.prog ((World.laidAll Tryz.prog os Rows.showSameUptoRow.laid).forCall (fun _ _=>0) ⟨#[],#[.agg #[.int .i64 0,.int .i64 0,.int .i64 0,.slice none 0 0,.string ⟨#[]⟩,.int .i64 0,.slice none 0 0,.int .i64 0,.int .i64 0,.string ⟨#[]⟩],.slice none 0 0,.agg #[.string ⟨#[]⟩,.slice none 0 0]],[]⟩).memory Tryz.f5.params.toList Rows.showSameSpec.vars false (#[.agg #[.int .i64 0,.int .i64 0,.int .i64 0,.slice none 0 0,.string ⟨#[]⟩,.int .i64 0,.slice none 0 0,.int .i64 0,.int .i64 0,.string ⟨#[]⟩],.slice none 0 0,.agg #[.string ⟨#[]⟩,.slice none 0 0]]:Array Value).toList 8=some ([.agg [.agg [.lit (.int .i64 0),.lit (.int .i64 0),.lit (.int .i64 0),.nil,.lit (.string [])],.lit (.int .i64 0),.nil,.agg [.lit (.int .i64 0),.lit (.int .i64 0),.lit (.string [])]],.nil,.agg [.lit (.string []),.nil]],[],places) :=
 ⟨[],by kernel_rfl⟩
theorem YC (os:Os) (started:os.Started) (H:Type) (enc:TypeId × Value→H) (F:Stop.Interp) :
  ReturnsInHanded {} Tryz.checked os 5 .any ((Rows.OpenSpec.upto Rows.showSameSpec).preRow enc Tryz.prog Tryz.f5 Rows.showSameUptoRow.domain false Rows.showSameUptoRow.laid) (((Rows.OpenSpec.upto Rows.showSameSpec).at F).post enc Tryz.prog Tryz.f5 false true false false):=by
 obtain ⟨E,hx⟩:=Y9 os enc
 refine returnsInHanded_of_row (C:=Tryz.checked) (s:=Rows.OpenSpec.upto Rows.showSameSpec) own started (by kernel_rfl) Tryz.func5
  (Xm (World.laidAll Tryz.prog os Rows.showSameUptoRow.laid) #[.agg #[.int .i64 0,.int .i64 0,.int .i64 0,.slice none 0 0,.string ⟨#[]⟩,.int .i64 0,.slice none 0 0,.int .i64 0,.int .i64 0,.string ⟨#[]⟩],.slice none 0 0,.agg #[.string ⟨#[]⟩,.slice none 0 0]] (World.laidAll_os _ _ _) (World.shaped_of_ZipB (by kernel_rfl) (by kernel_rfl)) (by kernel_rfl)
   (OpenSpec.preRow_of_cond 8 hx (by kernel_rfl) (fun k U=>by cases U;kernel_rfl) (by kernel_rfl)
    (laidMet_laidAll _ (by kernel_rfl) (by kernel_rfl)))) ?_
 intro W base c ds gs D o hW _ u _ hL ah _;rw [MakeChecks.laidMetH_plain _ _ _ (by kernel_rfl)] at hL
 have hT:Yz W:=uQ hL (by unfold laidX Rows.showSameUptoRow;simp) (by unfold Rows.showSameUptoRow;simp) ah
 have b:∀(j:Nat) t v,Tryz.f5.params[j]?=some t→c[j]?=some v→Value.okWide Tryz.prog W .any base t v:=o;have ag:=hW;obtain ⟨p,q,B,hV,rfl,al,an⟩:=hW;have hA:DataW.TrodAll enc Tryz.prog W 0 (fun _=>true) true Tryz.f5.params.toList c.toList ds p:=B
 rw [Tryz.params5] at hA b;obtain ⟨v0,aq,d0,av,p0,q0,G,rfl,rfl,h0,r0⟩:=trodAll_cons hA;obtain ⟨v1,am,I,az,p1,q1,rfl,rfl,rfl,h1,r1⟩:=trodAll_cons r0;obtain ⟨v2,ax,d2,ao,p2,q2,rfl,rfl,rfl,h2,r2⟩:=trodAll_cons r1;obtain ⟨rfl,rfl,rfl⟩:=trodAll_nil r2;obtain rfl:c=#[v0,v1,v2]:=by cases c;simp_all
 obtain ⟨rfl,rfl⟩:=trodVars_none hV
 have U:Rows.uptoBulkAll [d0,I,d2]≤1048576:=by
  have h:Rows.uptoBulkAll ([d0,I,d2]++[])≤1048576:=of_decide_eq_true (u _ rfl)
  simpa only [List.append_nil] using h
 simp only [Rows.uptoBulkAll] at U;have k0:=h0;have X:∀x∈p0,x.block<W.heap.size:=by obtain ⟨m,y⟩:=k0;exact DataW.trod_lt m _ _ _ y
 obtain ⟨J,z,-⟩:=okWide_struct Tryz.underlying35 (b 0 35 v0 rfl rfl);obtain ⟨s0,aB,ay,ar,au,ap,aw,rfl,ab,T⟩:=uP ⟨J,z⟩ h0 (by omega)
 have k1:=h1;have Y:∀x∈p1,x.block<W.heap.size:=by obtain ⟨m,y⟩:=k1;exact DataW.trod_lt m _ _ _ y
 obtain ⟨a1,ai,aj,rfl⟩:=okWide_slice Tryz.underlying36 (b 1 36 v1 rfl rfl);obtain ⟨ak,K⟩:=h1;obtain ⟨l1,V,af,M,ae,O⟩:=V6 (x:=(I,p1)) (by simpa [Value.cells] using K) (by simp only;omega)
 have k2:=h2;have ad:∀x∈p2,x.block<W.heap.size:=by obtain ⟨m,y⟩:=k2;exact DataW.trod_lt m _ _ _ y
 obtain ⟨Z,A,-⟩:=okWide_struct Tryz.underlying49 (b 2 49 v2 rfl rfl);obtain ⟨o2,aA,rfl,R,aa⟩:=Uv ⟨Z,A⟩ h2 (by omega)
 clear B o;refine (Xn W s0 _ _ ab T l1 _ V af M ae O o2 _ R aa hT).mono fun e W' ⟨he,bel⟩=>?_
 subst he;exact ⟨_,rfl,_,_,_,[],_,[],ag,trodAll_mk1 (shut_bool Tryz.underlying4 _),trodAll_cons_mk (Below.trod Xi (by kernel_rfl) (of_decide_eq_true (by kernel_rfl)) k0 bel X) (trodAll_cons_mk (Below.trod Xi (by kernel_rfl) (of_decide_eq_true (by kernel_rfl)) k1 bel Y) (trodAll_cons_mk (Below.trod Xi (by kernel_rfl) (of_decide_eq_true (by kernel_rfl)) k2 bel ad) trodAll_mk0)),rfl,bel.frame _,fun h=>by cases h⟩
theorem Xo:Rows.ShowSameUptoSaid :=
 OpenClaim.holds_of_cond 5 Tryz.f5 rfl rfl rfl rfl rfl rfl rfl ⟨rfl,rfl,rfl,rfl,rfl⟩ rfl rfl rfl rfl rfl (by kernel_rfl) Tryz.func5 (by kernel_rfl)
  (of_decide_eq_true (by kernel_rfl)) (by unfold Func.isWrapper;first | (rw [if_pos (by decide +kernel)];kernel_rfl) | (rw [if_neg (by decide +kernel)];exact ⟨rfl,rfl⟩))
  (fun os started H enc _ F=>by rw [OpenClaim.pre_eq_preRow];exact YC os started H enc F)
theorem showSame_proved:Rows.ShowSameUptoCardSaid :=
 Claim7.holds_tied_plain_at .later [] [.data,.data,.data,.data,.sentinel,.sentinel,.data,.data,.data,.data,.pinned] true Rows.showSameUptoCard.stood.harness true
  Xo (fun _ h=>by cases h) (by kernel_rfl) (fun _ h=>by cases h) showSameUpto_row_tie rfl ⟨rfl,rfl⟩ (by kernel_rfl) rfl
  (fun f fn hf hfn=>by
   obtain rfl : f = 5 := Option.some.inj ((show Tryz.prog.funcNamed "hindcast/hindcastlaw16.ShowSame" = some 5 by kernel_rfl).symm.trans hf) |>.symm
   obtain rfl:fn=Tryz.f5:=(Option.some.inj (Tryz.func5.symm.trans hfn)).symm
   exact ⟨by kernel_rfl,fun j t ht=>by
    rw [Tryz.params5] at ht;have c:t∈[35,36,49]:=by simpa using Array.mem_of_getElem? ht
    have b:([35,36,49].all fun u=>!Tryz.prog.wantsStandIn u)=true:=by kernel_rfl
    exact (show Tryz.prog.wantsStandIn t=false by simpa using List.all_eq_true.1 b t c)⟩)
  (by kernel_rfl)
#print axioms showSame_proved
end Go.Proofs.YtbjndgachcdbcaaGreatDoor
