import Derived.Lib.ItoaNum
import Derived.Lib.AtoiAllCases
namespace Go.Proofs.YtmbofhpmockmbaaGreatDoor
def YI (l:List UInt8):Int :=
 match Lib.atoiAll l with
 | .ok v=>v
 | .syntax=>0
 | .range=>Lib.atoiSat l
def Zp (l:List UInt8):List UInt8 × List UInt8:=(l.takeWhile (· != 32),(l.dropWhile (· != 32)).drop 1)
theorem Xu (l:List UInt8):(Zp l).1.length≤l.length∧(Zp l).2.length≤l.length:=by
 unfold Zp
 refine ⟨(List.takeWhile_sublist _).length_le,?_⟩
 have:=(List.dropWhile_sublist (fun c:UInt8=>c != 32) (l:=l)).length_le
 simp only [List.length_drop];omega
abbrev Wq:=Int × List UInt8 × Bool × Int × Bool × List UInt8
def tabQ:List Wq:=[
 (1,[115,116,101,112],false,0,false,[]),
 (2,[110,101,120,116],false,0,false,[]),
 (3,[102,105,110,105,115,104],false,0,false,[]),
 (4,[99,111,110,116,105,110,117,101],false,0,false,[]),
 (5,[98,97,99,107,45,115,116,101,112],false,0,false,[]),
 (6,[98,97,99,107,45,110,101,120,116],false,0,false,[]),
 (7,[98,97,99,107,45,102,105,110,105,115,104],false,0,false,[]),
 (8,[98,97,99,107,45,99,111,110,116,105,110,117,101],false,0,false,[]),
 (9,[103,111,116,111],true,0,false,[]),
 (10,[98,114,101,97,107],true,1,true,[105,102]),
 (11,[119,97,116,99,104],false,0,true,[]),
 (12,[100,101,108,101,116,101],true,1,false,[]),
 (13,[101,110,97,98,108,101],true,1,false,[]),
 (14,[100,105,115,97,98,108,101],true,1,false,[]),
 (15,[117,112],false,0,false,[]),
 (16,[100,111,119,110],false,0,false,[]),
 (17,[112,114,105,110,116],false,0,true,[])]
def yT:Wq:=(0,[],false,0,false,[])
def findQ (p:Wq→Bool):Wq:=(tabQ.find? p).getD yT
def ofKind (k:Int):Wq:=findQ fun r=>decide (r.1=k)
def ofWord (t:List UInt8):Wq:=findQ fun r=>decide (r.2.1=t)
def ZP (X:List UInt8→Prop) (k n:Int) (s:List UInt8):Prop :=
 ofKind k≠yT∧((ofKind k).2.2.1=false→n=0)∧((ofKind k).2.2.2.2.1=false→s=[]) ∧
 ((ofKind k).2.2.1=true→(ofKind k).2.2.2.1≤n∧n≤4294967296) ∧
 ((ofKind k).2.2.2.2.1=true→(s=[]∧(ofKind k).2.2.2.2.2≠[])∨(s.length≤255∧X s))
def y7 (k n:Int) (s:List UInt8):List UInt8 :=
 (ofKind k).2.1++(if (ofKind k).2.2.1=true then 32::Lib.itoa n else [])++(if s≠[]∧(ofKind k).2.2.2.2.2≠[] then 32::(ofKind k).2.2.2.2.2 else [])++(if s≠[] then 32::s else [])
def Zy (l:List UInt8):Int × Int × List UInt8 :=
 let w:=ofWord (Zp l).1
 let r1:=(Zp l).2
 let n:=if w.2.2.1=true then YI (Zp r1).1 else 0
 let r2:=if w.2.2.1=true then (Zp r1).2 else r1
 let r3:=if w.2.2.2.2.2≠[] then (Zp r2).2 else r2
 (w.1,n,if w.2.2.2.2.1=true then r3 else [])
theorem yU (k:Int) (h:k<1∨17<k):ofKind k=yT:=by
 have:tabQ.find? (fun r=>decide (r.1=k))=none:=by
  rw [List.find?_eq_none];intro r e
  have o:1≤r.1∧r.1≤17:=by
   have:∀r∈tabQ,1≤r.1∧r.1≤17:=by decide
   exact this r e
  simp only [decide_eq_true_eq];omega
 unfold ofKind findQ
 rw [this];rfl
theorem Xv {P:Int→Prop} (h1:P 1) (h2:P 2) (h3:P 3) (h4:P 4) (h5:P 5) (h6:P 6) (h7:P 7) (h8:P 8) (h9:P 9) (h10:P 10) (h11:P 11) (h12:P 12) (h13:P 13) (h14:P 14) (h15:P 15) (h16:P 16) (h17:P 17) (k:Int) (a:1≤k) (b:k≤17):P k:=by
 have:k=1∨k=2∨k=3∨k=4∨k=5∨k=6∨k=7∨k=8∨k=9∨k=10∨k=11∨k=12∨k=13∨k=14∨k=15∨k=16∨k=17:=by omega
 rcases this with rfl | rfl | rfl | rfl | rfl | rfl | rfl | rfl | rfl | rfl | rfl | rfl | rfl | rfl | rfl | rfl | rfl <;> assumption
theorem qU {X:List UInt8→Prop} {k n:Int} {s:List UInt8} (h:ZP X k n s):1≤k∧k≤17:=by
 by_cases hk:1≤k∧k≤17
 ·exact hk
 ·exact absurd (yU k (by omega)) h.1
theorem UC (n:Int) (h:0≤n):Lib.itoa n=Lib.decDigits n.toNat:=by unfold Lib.itoa;rw [if_neg (by omega)]
end Go.Proofs.YtmbofhpmockmbaaGreatDoor
