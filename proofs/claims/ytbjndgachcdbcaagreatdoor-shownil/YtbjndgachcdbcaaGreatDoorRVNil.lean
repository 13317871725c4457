/- Over no heap nothing is shown: for every input ShowNil returns true, and its arguments read behind the call as they read before. The tables are tied to the program's text. -/
import Derived.Test.YtbjndgachcdbcaaGreatDoorCards
import Derived.Test.YtbjndgachcdbcaaGreatDoorTie
import Derived.Test.YtbjndgachcdbcaaGreatDoorLVNil
import Derived.Test.YtbjndgachcdbcaaGreatDoorVTabs
import Derived.JoinedCond
import Derived.Stop.Joined
namespace Go.Proofs.YtbjndgachcdbcaaGreatDoor
open Go.ChangeShapes Go.WideShapes Go.ChangeAt Go.RowKit
set_option maxRecDepth 100000
theorem YA (os:Os) (started:os.Started) (H:Type) (enc:TypeId × Value→H) (F:Stop.Interp) :
  ReturnsInHanded {} Tryz.checked os 7 .any ((OpenSpec.ofChange Rows.showNilSpec).preRow enc Tryz.prog Tryz.f7 Rows.showNilRow.domain false Rows.showNilRow.laid) (((OpenSpec.ofChange Rows.showNilSpec).at F).post enc Tryz.prog Tryz.f7 false true false false):=by
 refine returnsInHanded_of_row (C:=Tryz.checked) (s:=OpenSpec.ofChange Rows.showNilSpec) own started (by kernel_rfl) Tryz.func7
  (xx (World.laidAll Tryz.prog os Rows.showNilRow.laid) #[.agg #[.int .i64 0,.int .i64 0,.int .i64 0,.slice none 0 0,.string ⟨#[]⟩,.int .i64 0,.slice none 0 0,.int .i64 0,.int .i64 0,.string ⟨#[]⟩]] (World.laidAll_os _ _ _) (World.shaped_of_ZipB (by kernel_rfl) (by kernel_rfl)) (by kernel_rfl)
   (OpenSpec.preRow_of_B rfl 8 (by kernel_rfl) (by kernel_rfl)
    (by rw [MakeChecks.laidMetH_plain _ _ _ (by kernel_rfl)];exact laidMet_laidAll _ (by kernel_rfl) (by kernel_rfl)))) ?_
 intro W base b ds gs z c V _ T _ Z J _;rw [MakeChecks.laidMetH_plain _ _ _ (by kernel_rfl)] at Z
 have hT:Yc W:=Vu Z (by unfold laidX Rows.showNilRow;simp) (by unfold Rows.showNilRow;simp) J
 have o:∀(j:Nat) t v,Tryz.f7.params[j]?=some t→b[j]?=some v→Value.okWide Tryz.prog W .any base t v:=c;have D:=V;obtain ⟨p,q,u,hV,rfl,ae,ad⟩:=V;have U:DataW.TrodAll enc Tryz.prog W 0 (fun _=>true) true Tryz.f7.params.toList b.toList ds p:=u
 rw [Tryz.params7] at U o;obtain ⟨X,ab,d0,aa,p0,q0,K,rfl,rfl,h0,r0⟩:=trodAll_cons U;obtain ⟨rfl,rfl,rfl⟩:=trodAll_nil r0;obtain rfl:b=#[X]:=by cases b;simp_all
 obtain ⟨rfl,rfl⟩:=trodVars_none hV;have Y:=h0;have E:∀x∈p0,x.block<W.heap.size:=by obtain ⟨m,hm⟩:=Y;exact DataW.trod_lt m _ _ _ hm
 obtain ⟨O,y,-⟩:=okWide_struct Tryz.underlying35 (o 0 35 X rfl rfl);obtain ⟨s0,B,I,R,A,G,M,rfl⟩:=vM ⟨O,y⟩ h0;clear u c;refine (Xg s0 B I R A G M W hT).mono fun e W' ⟨he,bel⟩=>?_
 subst he;exact ⟨_,rfl,_,_,_,[],_,[],D,trodAll_mk1 (shut_bool Tryz.underlying4 _),trodAll_cons_mk (Below.trod V2 (by kernel_rfl) (of_decide_eq_true (by kernel_rfl)) Y bel E) trodAll_mk0,rfl,bel.frame _,fun h=>by cases h⟩
theorem Xj:Rows.ShowNilSaid :=
 OpenClaim.holds_of_cond 7 Tryz.f7 rfl rfl rfl rfl rfl rfl rfl ⟨rfl,rfl,rfl,rfl,rfl⟩ rfl rfl rfl rfl rfl (by kernel_rfl) Tryz.func7 (by kernel_rfl)
  (of_decide_eq_true (by kernel_rfl)) (by unfold Func.isWrapper;first | (rw [if_pos (by decide +kernel)];kernel_rfl) | (rw [if_neg (by decide +kernel)];exact ⟨rfl,rfl⟩))
  (fun os started H enc _ F=>by rw [OpenClaim.pre_eq_preRow];exact YA os started H enc F)
theorem showNil_proved:Rows.ShowNilCardSaid :=
 Claim7.holds_tied_plain_at .later [] [.data,.data,.data,.data,.sentinel,.sentinel,.data,.data,.data,.data,.pinned] true Rows.showNilCard.stood.harness true
  Xj (fun _ h=>by cases h) (by kernel_rfl) (fun _ h=>by cases h) showNil_row_tie rfl ⟨rfl,rfl⟩ (by kernel_rfl) rfl
  (fun f fn hf hfn=>by
   obtain rfl : f = 7 := Option.some.inj ((show Tryz.prog.funcNamed "hindcast/hindcastlaw16.ShowNil" = some 7 by kernel_rfl).symm.trans hf) |>.symm
   obtain rfl:fn=Tryz.f7:=(Option.some.inj (Tryz.func7.symm.trans hfn)).symm
   exact ⟨by kernel_rfl,fun j t ht=>by
    rw [Tryz.params7] at ht;have c:t∈[35]:=by simpa using Array.mem_of_getElem? ht
    have b:([35].all fun u=>!Tryz.prog.wantsStandIn u)=true:=by kernel_rfl
    exact (show Tryz.prog.wantsStandIn t=false by simpa using List.all_eq_true.1 b t c)⟩)
  (by kernel_rfl)
#print axioms showNil_proved
end Go.Proofs.YtbjndgachcdbcaaGreatDoor
