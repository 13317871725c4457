import Derived.Test.YtghhamgealkodaaGreatDoorRows
import Derived.Test.YtghhamgealkodaaGreatDoorWAll
import Derived.ProofKit
import Derived.OpenShut
import Derived.ShutString
import Derived.ChangeOld
import Derived.Below
import Derived.Test.YtghhamgealkodaaGreatDoorMC46
import Derived.Test.YtghhamgealkodaaGreatDoorMC7
import Derived.ChangeSame
import Derived.Deep.DeepHandedRow
import Derived.Deep.Slices
namespace Go.Proofs.YtghhamgealkodaaGreatDoor
open Go.ChangeShapes Go.WideShapes Go.ChangeAt Go.RowKit
set_option maxRecDepth 100000
theorem own:ownKnob Tryz.prog.godebug=none:=by kernel_rfl
theorem laidOut:laidOutB Tryz.prog=true:=by kernel_rfl
theorem wf_i64 {n:Int} (h:(Lit.int .i64 n).wf=true):-9223372036854775808≤n∧n≤9223372036854775807:=by
 simpa [Lit.wf,IntKind.min,IntKind.max,IntKind.signed,IntKind.bits] using h
instance:Inhabited Ez:=⟨.mk 0 [] 0 [] 0⟩
theorem yone_of {v:Value} {cs:List Value} {i:Nat} (h:(cs.drop i).take 1=[v]):cs[i]?=some v:=by
 have:=congrArg (fun l=>l[0]?) h
 simpa [List.getElem?_take,List.getElem?_drop] using this
theorem yspot_of {w:World} {a:Addr} {v:Value} (h:w.cell? a=some v):a.spot=none:=by
 unfold World.cell? at h
 split at h
 ·cases hs:a.spot with
  | none=>rfl
  | some x=>simp [hs] at h
 ·simp at h
theorem yadd_at0 (a:Addr):a.add 0=a:=by unfold Addr.add;simp
theorem yadd_plain (b o q:Nat):(⟨b,o,none⟩:Addr).add q=⟨b,o+q,none⟩:=by
 by_cases h:q=0
 ·subst h;simp [Addr.add]
 ·simp [Addr.add,h]
theorem ybulk_mem {H:Type} {d:DataW H}:∀{l:List (DataW H)},d∈l→Rows.uptoBulk d≤Rows.uptoBulkAll l
 | [],h=>by cases h
 | x::l,h=>by
  simp only [Rows.uptoBulkAll]
  rcases List.mem_cons.1 h with rfl | h
  ·omega
  ·have:=ybulk_mem h;omega
theorem yln_map {H:Type} (f:Nat→Ez) (D:Nat→DataW H):∀l:List Nat,(∀i∈l,lnE (f i)+4≤200*Rows.uptoBulk (D i))→lnL (l.map f)≤200*Rows.uptoBulkAll (l.map D)
 | [],_=>by simp [lnL,Rows.uptoBulkAll]
 | x::l,h=>by
  have h1:=h x (by simp)
  have h2:=yln_map f D l fun i hi=>h i (by simp [hi])
  simp only [List.map_cons,lnL,Rows.uptoBulkAll]
  omega
theorem ydp_map {H:Type} (f:Nat→Ez) (D:Nat→DataW H) (l:List Nat) (h:∀i∈l,dpE (f i)≤Rows.uptoBulk (D i)):dpL (l.map f)≤Rows.uptoBulkAll (l.map D):=by
 refine dpL_mem.2 fun y hy=>?_
 obtain ⟨i,hi,rfl⟩:=List.mem_map.1 hy
 exact Nat.le_trans (h i hi) (ybulk_mem (List.mem_map.2 ⟨i,hi,rfl⟩))
theorem yflat {sz:Nat}:∀(us:List (List Value)),(∀c∈us,c.length=sz)→1≤sz→∀j u,us.flatten[j]?=some u→∃c,us[j / sz]?=some c∧c[j % sz]?=some u
 | [],_,_,j,u,h=>by simp at h
 | c::us,hw,hs,j,u,h=>by
  have hc:c.length=sz:=hw c (by simp)
  rw [List.flatten_cons] at h
  by_cases hj:j<sz
  ·rw [List.getElem?_append_left (by omega)] at h
   refine ⟨c,?_,?_⟩
   ·rw [Nat.div_eq_of_lt hj];rfl
   ·rw [Nat.mod_eq_of_lt hj];exact h
  ·rw [List.getElem?_append_right (by omega),hc] at h
   obtain ⟨d,h1,h2⟩:=yflat us (fun c h=>hw c (by simp [h])) hs (j-sz) u h
   refine ⟨d,?_,?_⟩
   ·rw [Nat.div_eq_sub_div (by omega) (by omega)];exact h1
   ·rw [Nat.mod_eq_sub_mod (by omega)];exact h2
theorem ex_fields:∃f0 f1 f2 f3 f4:Field,Tryz.prog.underlying 40=some (.struct #[f0,f1,f2,f3,f4])∧(f0.type=37∧f1.type=9∧f2.type=3∧f3.type=38∧f4.type=3)∧(f0.offset=0∧f1.offset=1∧f2.offset=2∧f3.offset=3∧f4.offset=4) :=
 ⟨_,_,_,_,_,Tryz.underlying40,⟨rfl,rfl,rfl,rfl,rfl⟩,⟨rfl,rfl,rfl,rfl,rfl⟩⟩
theorem yc_kind:Tryz.prog.cellsOf 37=1:=by kernel_rfl
theorem yc_str:Tryz.prog.cellsOf 9=1:=by kernel_rfl
theorem yc_int:Tryz.prog.cellsOf 3=1:=by kernel_rfl
theorem yc_row:Tryz.prog.cellsOf 38=1:=by kernel_rfl
theorem yc_expr:Tryz.prog.cellsOf 40=5:=by kernel_rfl
theorem expr_open {H:Type} {enc:TypeId × Value→H} {w:World}:∀(B:Nat),B≤1048576→∀(hd:Bool) (fuel:Nat) (cs:List Value) (x:DataW H × List MemPlace),Rows.uptoBulk x.1≤B→DataW.trod enc Tryz.prog w 0 (fun _=>true) hd fuel 40 cs=some x →
  ∃z:Ez,EzIn w.heap.size w z (.agg cs.toArray)∧cs.length=5∧dpE z≤Rows.uptoBulk x.1∧lnE z+4≤200*Rows.uptoBulk x.1
 | 0,_,hd,fuel,cs,x,hx,h=>by
  obtain ⟨f0,f1,f2,f3,f4,hu,-,-⟩:=ex_fields
  obtain ⟨xs,m,-,rfl,-,-,-⟩:=DataW.trod_struct hu h
  simp only [Rows.uptoBulk] at hx
  omega
 | B+1,hB,hd,fuel,cs,x,hx,h=>by
  obtain ⟨f0,f1,f2,f3,f4,hu,⟨t0,t1,t2,t3,t4⟩,⟨o0,o1,o2,o3,o4⟩⟩:=ex_fields
  obtain ⟨xs,m,-,rfl,hlc,hl,hel⟩:=DataW.trod_struct hu h
  have h0:=hel 0 f0 rfl
  have h1:=hel 1 f1 rfl
  have h2:=hel 2 f2 rfl
  have h3:=hel 3 f3 rfl
  have h4:=hel 4 f4 rfl
  rw [t0,o0,yc_kind] at h0
  rw [t1,o1,yc_str] at h1
  rw [t2,o2,yc_int] at h2
  rw [t3,o3,yc_row] at h3
  rw [t4,o4,yc_int] at h4
  rw [yc_expr] at hlc
  match xs,hl with
  | [x0,x1,x2,x3,x4],_ =>
   obtain ⟨k,a0,b0,-⟩:=DataW.trod_int Tryz.underlying37 h0
   obtain ⟨s,a1,b1,-⟩:=DataW.trod_string Tryz.underlying9 h1
   obtain ⟨n,a2,b2,c2⟩:=DataW.trod_int Tryz.underlying3 h2
   obtain ⟨line,a4,b4,-⟩:=DataW.trod_int Tryz.underlying3 h4
   have hn:=wf_i64 c2
   have hbk:Rows.uptoBulk (DataW.agg ([x0,x1,x2,x3,x4].map (·.1)))=s.data.toList.length+5+Rows.uptoBulk x3.1:=by
    simp only [List.map_cons,List.map_nil,Rows.uptoBulk,Rows.uptoBulkAll,b0,b1,b2,b4]
    omega
   simp only at hx
   rw [hbk] at hx ⊢
   have q0:=yone_of a0
   have q1:=yone_of a1
   have q2:=yone_of a2
   have q4:=yone_of a4
   match cs,hlc with
   | [v0,v1,v2,v3,v4],_ =>
    simp only [List.getElem?_cons_zero,List.getElem?_cons_succ,Option.some.injEq] at q0 q1 q2 q4
    subst q0 q1 q2 q4
    have h3':DataW.trod enc Tryz.prog w 0 (fun _=>true) hd m 38 [v3]=some x3:=h3
    have hs8:s.data.toList.length≤100000000:=by omega
    have e1:(Value.string s)=.string (strB s.data.toList):=by rw [strB_of]
    rcases Deep.open_slice Tryz.underlying38 h3' with ⟨hcs,hxx⟩ | ⟨a,len,cap,mm,nn,D,Pl,hcs,-,hle,hm,hmm,hxx,hr⟩
    ·simp only [List.cons.injEq,and_true] at hcs
     subst hcs
     refine ⟨.mk k s.data.toList n [] line,?_,rfl,?_,?_⟩
     ·rw [e1]
      exact EzIn.mk k s.data.toList n [] line none 0 0 0 [] hs8 hn.1 hn.2 (fun h=>absurd rfl h) rfl (Nat.le_refl _) (Nat.zero_le _) (fun j u hj=>by simp at hj) (fun c hc=>by simp at hc) (fun j x c hx=>by simp at hx)
     ·rw [dpE,dpL];omega
     ·rw [lnE,lnL];omega
    ·simp only [List.cons.injEq,and_true] at hcs
     subst hcs
     have hln:len≤mm:=by split at hmm <;> omega
     have hb3:Rows.uptoBulkAll ((List.range len).map D)+1≤Rows.uptoBulk x3.1:=by
      rw [hxx]
      simp only [Rows.uptoBulk]
      omega
     have each:∀i,i<len→∃p:Ez × List Value,EzIn w.heap.size w p.1 (.agg p.2.toArray)∧p.2.length=5∧dpE p.1≤Rows.uptoBulk (D i)∧lnE p.1+4≤200*Rows.uptoBulk (D i)∧∀q z,p.2[q]?=some z→w.cell? (a.add (i*5+q))=some z:=fun i hi=>by
      obtain ⟨cs',g1,g2⟩:=hr i (by omega)
      rw [yc_expr] at g1
      obtain ⟨-,hlen,hcell⟩:=World.cells?_some g1
      have hDi:=ybulk_mem (List.mem_map.2 ⟨i,List.mem_range.2 hi,rfl⟩:D i∈(List.range len).map D)
      obtain ⟨z,hz,hcl,hdz,hlz⟩:=expr_open B (by omega) hd nn cs' (D i,Pl i) (by simp only;omega) g2
      refine ⟨(z,cs'),hz,hcl,hdz,hlz,fun q u hq=>?_⟩
      have hq5:q<5:=by rw [←hcl];exact (List.getElem?_eq_some_iff.1 hq).1
      have:=hcell q (by omega)
      rw [Deep.add_add] at this
      exact this.trans hq
     obtain ⟨F,hF⟩:=Deep.choose_lt each
     have hkl:((List.range len).map fun i=>(F i).1).length=len:=by simp
     have hdp:=ydp_map (fun i=>(F i).1) D (List.range len) fun i hi=>(hF i (List.mem_range.1 hi)).2.2.1
     have hll:=yln_map (fun i=>(F i).1) D (List.range len) fun i hi=>(hF i (List.mem_range.1 hi)).2.2.2.1
     refine ⟨.mk k s.data.toList n ((List.range len).map fun i=>(F i).1) line,?_,rfl,?_,?_⟩
     ·rw [e1]
      rcases Nat.eq_zero_or_pos len with h0' | h0'
      ·subst h0'
       exact EzIn.mk k s.data.toList n [] line (some a) cap 0 0 [] hs8 hn.1 hn.2 (fun h=>absurd rfl h) rfl (Nat.zero_le _) hm (fun j u hj=>by simp at hj) (fun c hc=>by simp at hc) (fun j x c hx=>by simp at hx)
      ·obtain ⟨-,hl0,-,-,hc0⟩:=hF 0 h0'
       have hz0:=hc0 0 _ (List.getElem?_eq_getElem (show 0<(F 0).2.length by omega))
       rw [Nat.zero_mul,Nat.add_zero,yadd_at0] at hz0
       have hsp:=yspot_of hz0
       have hbl:=World.block_lt_of_cell? w _ hz0
       obtain ⟨b,o,sp⟩:=a
       simp only at hsp hbl
       subst hsp
       have hwid:∀c∈(List.range len).map (fun i=>(F i).2),c.length=5:=fun c hc=>by
        obtain ⟨i,hi,rfl⟩:=List.mem_map.1 hc
        exact (hF i (List.mem_range.1 hi)).2.1
       have:=EzIn.mk (B:=w.heap.size) (w:=w) k s.data.toList n ((List.range len).map fun i=>(F i).1) line (some ⟨b,o,none⟩) cap b o ((List.range len).map fun i=>(F i).2) hs8 hn.1 hn.2 (fun _=>⟨rfl,hbl,hbl⟩) (by simp) (by rw [hkl];exact hle) hm
        (fun j u hj=>by
         obtain ⟨c,e5,e6⟩:=yflat _ hwid (by omega) j u hj
         rw [List.getElem?_map] at e5
         cases hrg:(List.range len)[j / 5]? with
         | none=>rw [hrg] at e5;simp at e5
         | some i =>
          rw [hrg] at e5
          simp only [Option.map_some,Option.some.injEq] at e5
          subst e5
          obtain ⟨hlt,hi⟩:=List.getElem?_eq_some_iff.1 hrg
          simp only [List.getElem_range] at hi
          subst hi
          have:=(hF (j / 5) (by simpa using hlt)).2.2.2.2 (j % 5) u e6
          rw [yadd_plain] at this
          rw [show o+(j / 5*5+j % 5)=o+j by omega] at this
          exact this)
        hwid (fun j x c hx hc=>by
         rw [List.getElem?_map] at hx hc
         cases hrg:(List.range len)[j]? with
         | none=>rw [hrg] at hx;simp at hx
         | some i =>
          rw [hrg] at hx hc
          simp only [Option.map_some,Option.some.injEq] at hx hc
          subst hx hc
          have hi:i<len:=by
           have:=List.mem_of_getElem? hrg
           simpa using this
          exact (hF i hi).1)
       rw [hkl] at this
       exact this
     ·rw [dpE];omega
     ·rw [lnE];omega
end Go.Proofs.YtghhamgealkodaaGreatDoor
