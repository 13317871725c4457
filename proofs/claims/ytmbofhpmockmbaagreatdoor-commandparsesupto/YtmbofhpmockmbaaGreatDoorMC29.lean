import Derived.Test.YtmbofhpmockmbaaGreatDoorMC28
import Derived.Test.YtmbofhpmockmbaaGreatDoorMC13
namespace Go.Proofs.YtmbofhpmockmbaaGreatDoor
open Go.RowKit Go.Shelf
def zaS (e:Ex):Bool:=e.kind==4||e.kind==8||e.kind==9
mutual
def zbg:Nat→List Tk→Option (PR St)
 | 0,_=>none
 | f+1,ts =>
  if zm (zx ts) [108,101,116]=true then zq (yI ts.tail) fun s us=>zq (Zj [61] us) fun _ us=>zq (zh f 1 us) fun e us=>zq (Zj [59] us) fun _ us=>some (.ok (.mk 1 s [e] [] [] (zx ts).line,us))
  else if zm (zx ts) [105,102]=true then zq (zh f 1 ts.tail) fun e us=>zq (UE f us) fun b us=>if zm (zx us) [101,108,115,101]=true then zq (UE f us.tail) fun c us=>some (.ok (.mk 4 [] [e] b c (zx ts).line,us)) else some (.ok (.mk 3 [] [e] b [] (zx ts).line,us))
  else if zm (zx ts) [119,104,105,108,101]=true then zq (zh f 1 ts.tail) fun e us=>zq (UE f us) fun b us=>some (.ok (.mk 5 [] [e] b [] (zx ts).line,us))
  else if zm (zx ts) [114,101,116,117,114,110]=true then if zm (zx ts.tail) [59]=true then some (.ok (.mk 6 [] [] [] [] (zx ts).line,ts.tail.tail)) else zq (zh f 1 ts.tail) fun e us=>zq (Zj [59] us) fun _ us=>some (.ok (.mk 6 [] [e] [] [] (zx ts).line,us))
  else zq (zh f 1 ts) fun e us=>if zm (zx us) [61]=true then (if zaS e=true then zq (zh f 1 us.tail) fun e2 us=>zq (Zj [59] us) fun _ us=>some (.ok (.mk 2 [] [e,e2] [] [] (zx ts).line,us)) else some (.error (zx us).at0)) else zq (Zj [59] us) fun _ us=>some (.ok (.mk 7 [] [e] [] [] (zx ts).line,us))
def UE:Nat→List Tk→Option (PR (List St))
 | 0,_=>none
 | f+1,ts=>zq (Zj [123] ts) fun _ us=>QO f [] us
def QO:Nat→List St→List Tk→Option (PR (List St))
 | 0,_,_=>none
 | f+1,pre,ts=>if zm (zx ts) [125]=true then some (.ok (pre,ts.tail)) else zq (zbg f ts) fun s us=>QO f (pre++[s]) us
end
abbrev zb2 (w:World) (N:Nat) (a b c d e f:Value):World:=(set5 w N a b c d e).setCell ⟨N,5,none⟩ f
def xo {α:Type} (p:Nat→Option (PR α)) (n:Nat):Prop:=∃f r,(∀k,p (f+k)=some r)∧∀x us,r=.ok (x,us)→us.length≤n∧zt us
theorem xo.then {α β:Type} {p:Nat→Option (PR α)} {q:Nat→α→List Tk→Option (PR β)} {n m:Nat} (h:xo p n) (hq:∀x us,us.length≤n→zt us→xo (fun f=>q f x us) m):xo (fun f=>zq (p f) (q f)) m:=by
 obtain ⟨f,r,z,e⟩:=h;cases r with
 | error a=>exact ⟨f,.error a,fun k=>by simp [zq,z k],fun x us h=>by cases h⟩
 | ok y =>
  obtain ⟨g,s,D,E⟩:=hq y.1 y.2 (e _ _ rfl).1 (e _ _ rfl).2;refine ⟨f+g,s,fun k=>?_,E⟩
  have A:=z (g+k);have o:=D (f+k);rw [show f+(g+k)=f+g+k by omega] at A
  rw [show g+(f+k)=f+g+k by omega] at o
  simp only [zq,A];exact o
theorem xo.step {α:Type} {p q:Nat→Option (PR α)} {n:Nat} (h:xo q n) (hp:∀f,p (f+1)=q f):xo p n:=by
 obtain ⟨f,r,e,o⟩:=h;exact ⟨f+1,r,fun k=>by rw [show f+1+k=f+k+1 by omega,hp];exact e k,o⟩
theorem xo.le {α:Type} {p:Nat→Option (PR α)} {n m:Nat} (h:xo p n) (hm:n≤m):xo p m:=by
 obtain ⟨f,r,o,e⟩:=h;exact ⟨f,r,o,fun x us h=>⟨Nat.le_trans (e x us h).1 hm,(e x us h).2⟩⟩
end Go.Proofs.YtmbofhpmockmbaaGreatDoor
