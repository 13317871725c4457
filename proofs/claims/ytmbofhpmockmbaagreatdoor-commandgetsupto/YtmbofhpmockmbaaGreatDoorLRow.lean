import Derived.Test.YtmbofhpmockmbaaGreatDoorRows
import Derived.Test.YtmbofhpmockmbaaGreatDoorWAll
import Derived.ProofKit
import Derived.OpenShut
import Derived.ShutString
import Derived.ChangeOld
import Derived.Below
namespace Go.Proofs.YtmbofhpmockmbaaGreatDoor
open Go.ChangeShapes Go.WideShapes Go.ChangeAt Go.RowKit
set_option maxRecDepth 100000
theorem own:ownKnob Tryz.prog.godebug=none:=by kernel_rfl
theorem V1:laidOutB Tryz.prog=true:=by kernel_rfl
theorem UD {n:Int} (h:(Lit.int .i64 n).wf=true):-9223372036854775808≤n∧n≤9223372036854775807:=by
 simpa [Lit.wf,IntKind.min,IntKind.max,IntKind.signed,IntKind.bits] using h
theorem qM {n:Int} (h:(Lit.int .u8 n).wf=true):0≤n∧n≤255:=by
 simpa [Lit.wf,IntKind.min,IntKind.max,IntKind.signed,IntKind.bits] using h
def U8 (k:IntKind) (w:World) (a:Option Addr) (len cap:Nat) (zs:List Int):Prop :=
 (a=none∧len=0∧cap=0∧zs=[]) ∨
 ∃x,a=some x∧len≤cap∧cap≤maxLen∧zs.length=cap∧(∀i,i<zs.length→w.cell? (x.add i)=some (.int k (zs.getD i 0)))∧∀n∈zs,(Lit.int k n).wf=true
theorem vT {w:World} {a:Option Addr} {len cap:Nat} {zs:List Int} (h:U8 .u8 w a len cap zs):∃bs:List UInt8,bs.length=len∧zt w (.slice a len cap) bs:=by
 rcases h with ⟨rfl,rfl,rfl,rfl⟩ | ⟨x,rfl,J,G,I,E,H⟩
 ·exact ⟨[],rfl,YS w⟩
 ·have o:((zs.take len).map (fun z=>z.toNat.toUInt8)).length=len:=by rw [List.length_map,List.length_take];omega
  refine ⟨(zs.take len).map (fun z=>z.toNat.toUInt8),o,some x,cap,by rw [o],(fun h=>by cases h),by omega,G,fun b D j u hj=>?_⟩
  cases D
  have A:j<len:=by
   rcases Nat.lt_or_ge j len with h | h
   ·exact h
   ·rw [List.getElem?_eq_none (by rw [Lib.byteCells_length,o];exact h)] at hj;cases hj
  have y:j<zs.length:=by omega
  rw [E j y]
  unfold Lib.byteCells at hj
  rw [List.getElem?_map,List.getElem?_map,List.getElem?_take_of_lt A,List.getElem?_eq_getElem y] at hj;simp only [Option.map_some,Option.some.injEq] at hj;subst hj;have D:=qM (H zs[j] (List.getElem_mem y));rw [List.getD_eq_getElem?_getD,List.getElem?_eq_getElem y,Option.getD_some]
  congr 2
  rw [show (zs[j].toNat.toUInt8).toNat=zs[j].toNat from by simp [Nat.toUInt8,UInt8.toNat_ofNat'];omega]
  omega
theorem UE {H:Type} (d:DataW H):1≤Rows.uptoBulk d:=by
 cases d with
 | lit l=>cases l <;> simp [Rows.uptoBulk]
 | nil=>simp [Rows.uptoBulk]
 | ptr d=>simp [Rows.uptoBulk]
 | slice elems spare=>simp [Rows.uptoBulk]
 | agg parts=>simp [Rows.uptoBulk]
 | iface t d=>simp [Rows.uptoBulk]
 | map entries=>simp [Rows.uptoBulk]
 | held h=>simp [Rows.uptoBulk]
theorem UF {H:Type} (l:List (DataW H)):l.length≤Rows.uptoBulkAll l:=by
 induction l with
 | nil=>simp [Rows.uptoBulkAll]
 | cons x r ih=>have:=UE x;simp only [Rows.uptoBulkAll,List.length_cons];omega
end Go.Proofs.YtmbofhpmockmbaaGreatDoor
