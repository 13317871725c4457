/- What is printed of any program, of any expression is read back as it: for every input SyntaxBack returns true, and its arguments read behind the call as they read before. Where what it reads is of bulk at most 1048576. The tables are tied to the program's text. -/
import Derived.Test.YtcphojjpapgblaaGreatDoorCards
import Derived.Test.YtcphojjpapgblaaGreatDoorTie
import Derived.Test.YtcphojjpapgblaaGreatDoorMC32
import Derived.Test.YtcphojjpapgblaaGreatDoorMC36
import Derived.Test.YtcphojjpapgblaaGreatDoorMC51
import Derived.JoinedOf
import Derived.JoinedCond
import Derived.SizedLaws
import Derived.MakeChecks
namespace Go.Proofs.YtcphojjpapgblaaGreatDoor
open Go.ChangeShapes Go.WideShapes Go.ChangeAt Go.RowKit
set_option maxRecDepth 100000
theorem zay {H:Type} {enc:TypeId × Value→H} {C:Checked} {os:Os} {f:FuncId} {fn:Func} {s:OpenSpec} {conds:List PathCond} {apart:Bool} {laid:List (String × DataW Unit)} (w0:World) (args:Array Value) (hos:w0.os=os)
  (hsh:(w0.forCall (fun _ _=>0) ⟨#[],args,[]⟩).Shaped C.prog) (hok:Input.okWideB C.prog (w0.forCall (fun _ _=>0) ⟨#[],args,[]⟩) f ⟨#[],args,[]⟩=true)
  (hrow:s.preRow enc C.prog fn conds apart laid (w0.forCall (fun _ _=>0) ⟨#[],args,[]⟩).memory args) :
  ∃(w:World) (tape:Tape) (i:Input),w.os=os∧(w.forCall tape i).Shaped C.prog∧i.vars=[]∧Input.okWide C.prog (w.forCall tape i) .any w.heap.size f i ∧
   s.preRow enc C.prog fn conds apart laid (w.forCall tape i).memory i.args∧({}:Assume).holds C.prog (lone (Frame.enter C.prog f i.args .normal) [] (w.forCall tape i)) :=
 ⟨w0,fun _ _=>0,⟨#[],args,[]⟩,hos,hsh,(Input.okWide_of_okWideB (base:=0) hok).1,(Input.okWide_of_okWideB hok).2,hrow,by
  simp only [Assume.holds]
  exact ⟨by simp,by simp,fun _=>Modest.zero,by simp,by simp⟩⟩
theorem uF (os:Os) {H:Type} (enc:TypeId × Value→H):∃places,DataW.whole enc Tryz.prog ((zf8 os).forCall (fun _ _=>0) ⟨#[],#[.agg #[.slice none 0 0,.slice none 0 0],.agg #[.int .i64 0,.string ⟨#[]⟩,.int .i64 0,.slice none 0 0,.int .i64 0]],[]⟩).memory Tryz.f5.params.toList Rows.syntaxBackSpec.vars false #[Value.agg #[.slice none 0 0,.slice none 0 0],Value.agg #[.int .i64 0,.string ⟨#[]⟩,.int .i64 0,.slice none 0 0,.int .i64 0]].toList 8=some ([.agg [.nil,.nil],.agg [.lit (.int .i64 0),.lit (.string []),.lit (.int .i64 0),.nil,.lit (.int .i64 0)]],[],places) :=
 ⟨[],by kernel_rfl⟩
theorem V0 (os:Os) (started:os.Started) (H:Type) (enc:TypeId × Value→H) (F:Stop.Interp) :
  ReturnsInHanded {} Tryz.checked os 5 .any ((Rows.OpenSpec.upto Rows.syntaxBackSpec).preRow enc Tryz.prog Tryz.f5 Rows.syntaxBackUptoRow.domain false Rows.syntaxBackUptoRow.laid) (((Rows.OpenSpec.upto Rows.syntaxBackSpec).at F).post enc Tryz.prog Tryz.f5 false true false false):=by
 obtain ⟨I,T⟩:=uF os enc
 refine returnsInHanded_of_row (C:=Tryz.checked) (s:=Rows.OpenSpec.upto Rows.syntaxBackSpec) own started (by kernel_rfl) Tryz.func5
  (zay (zf8 os) #[.agg #[.slice none 0 0,.slice none 0 0],.agg #[.int .i64 0,.string ⟨#[]⟩,.int .i64 0,.slice none 0 0,.int .i64 0]] (zhu os) (World.shaped_of_ZipB (by kernel_rfl) (by kernel_rfl)) (by kernel_rfl)
   (OpenSpec.preRow_of_cond 8 T (by kernel_rfl) (fun k U=>by cases U;kernel_rfl) (by kernel_rfl)
    (zf9 os _))) ?_
 intro W base args ds gs J o hW _ A _ hL _ _;have hT:Vw W:=zey hL;have y:∀(j:Nat) t v,Tryz.f5.params[j]?=some t→args[j]?=some v→Value.okWide Tryz.prog W .any base t v:=o;have O:=hW;obtain ⟨p,q,D,hV,rfl,ad,aa⟩:=hW;have Z:DataW.TrodAll enc Tryz.prog W 0 (fun _=>true) true Tryz.f5.params.toList args.toList ds p:=D
 rw [Tryz.params5] at Z y;obtain ⟨X,ag,d0,ab,p0,q0,Q,rfl,rfl,h0,r0⟩:=trodAll_cons Z;obtain ⟨v1,ae,d1,af,p1,q1,rfl,rfl,rfl,h1,r1⟩:=trodAll_cons r0;obtain ⟨rfl,rfl,rfl⟩:=trodAll_nil r1;obtain rfl:args=#[X,v1]:=by cases args;simp_all
 obtain ⟨rfl,rfl⟩:=trodVars_none hV
 have U:Rows.uptoBulkAll [d0,d1]≤1048576:=by
  have h:Rows.uptoBulkAll ([d0,d1]++[])≤1048576:=of_decide_eq_true (A _ rfl)
  simpa only [List.append_nil] using h
 simp only [Rows.uptoBulkAll] at U;have k0:=h0;have R:∀x∈p0,x.block<W.heap.size:=by obtain ⟨m,V⟩:=k0;exact DataW.trod_lt m _ _ _ V
 have k1:=h1;have Y:∀x∈p1,x.block<W.heap.size:=by obtain ⟨m,V⟩:=k1;exact DataW.trod_lt m _ _ _ V
 obtain ⟨L,G,-⟩:=okWide_struct Tryz.underlying25 (y 0 25 X rfl rfl);obtain ⟨x,T⟩:=zfS ⟨L,G⟩ h0 (by omega)
 obtain ⟨cs,rfl,ah⟩:=okWide_struct Tryz.underlying45 (y 1 45 v1 rfl rfl)
 obtain ⟨z,N⟩:∃z:Ez,Zl W.heap.size W z (.agg cs):=by
  obtain ⟨fuel,hf⟩:=h1;obtain ⟨z,N,-⟩:=ut 1048576 (Nat.le_refl _) true fuel _ _ (by simp only;omega) hf
  exact ⟨z,by simpa [Value.cells] using N⟩
 clear D o;refine (zgn _ x X z (.agg cs) W T N hT).mono fun e W' ⟨he,bel⟩=>?_
 subst he;exact ⟨_,rfl,_,_,_,[],_,[],O,trodAll_mk1 (shut_bool Tryz.underlying4 _),trodAll_cons_mk (Below.trod zdw (by kernel_rfl) (of_decide_eq_true (by kernel_rfl)) k0 bel R) (trodAll_cons_mk (Below.trod zdw (by kernel_rfl) (of_decide_eq_true (by kernel_rfl)) k1 bel Y) trodAll_mk0),rfl,bel.frame _,fun h=>by cases h⟩
theorem qv:Rows.SyntaxBackUptoSaid :=
 OpenClaim.holds_of_cond 5 Tryz.f5 rfl rfl rfl rfl rfl rfl rfl ⟨rfl,rfl,rfl,rfl,rfl⟩ rfl rfl rfl rfl rfl (by kernel_rfl) Tryz.func5 (by kernel_rfl)
  (of_decide_eq_true (by kernel_rfl)) (by unfold Func.isWrapper;first | (rw [if_pos (by decide +kernel)];kernel_rfl) | (rw [if_neg (by decide +kernel)];exact ⟨rfl,rfl⟩))
  (fun os started H enc _ F=>by rw [OpenClaim.pre_eq_preRow];exact V0 os started H enc F)
theorem syntaxBack_proved:Rows.SyntaxBackUptoCardSaid :=
 Claim7.holds_tied_plain_at .later [] [.data,.data,.data,.handle,.sentinel,.sentinel,.data,.data,.data,.data] true Rows.syntaxBackUptoCard.stood.harness true
  qv (fun _ h=>by cases h) (by kernel_rfl) (fun _ h=>by cases h) syntaxBackUpto_row_tie rfl ⟨rfl,rfl⟩ (by kernel_rfl) rfl
  (fun f fn hf hfn=>by
   obtain rfl : f = 5 := Option.some.inj ((show Tryz.prog.funcNamed "hindcast/hindcastlaw04.SyntaxBack" = some 5 by kernel_rfl).symm.trans hf) |>.symm
   obtain rfl:fn=Tryz.f5:=(Option.some.inj (Tryz.func5.symm.trans hfn)).symm
   exact ⟨by kernel_rfl,fun j t ht=>by
    rw [Tryz.params5] at ht;have y:t∈[25,45]:=by simpa using Array.mem_of_getElem? ht
    have o:([25,45].all fun u=>!Tryz.prog.wantsStandIn u)=true:=by kernel_rfl
    exact (show Tryz.prog.wantsStandIn t=false by simpa using List.all_eq_true.1 o t y)⟩)
  (by kernel_rfl)
#print axioms syntaxBack_proved
end Go.Proofs.YtcphojjpapgblaaGreatDoor
