import Derived.Test.YtmbofhpmockmbaaGreatDoorMC29
import Derived.Test.YtmbofhpmockmbaaGreatDoorMC14
namespace Go.Proofs.YtmbofhpmockmbaaGreatDoor
open Go.RowKit Go.Shelf
def zav (e:Ex):Bool:=e.kind==4||e.kind==8||e.kind==9
mutual
def zaT:Nat→List Tk→Option (PR St)
 | 0,_=>none
 | f+1,ts =>
  if zk (zu ts) [108,101,116]=true then zo (yD ts.tail) fun s us=>zo (Zg [61] us) fun _ us=>zo (zg f 1 us) fun e us=>zo (Zg [59] us) fun _ us=>some (.ok (.mk 1 s [e] [] [] (zu ts).line,us))
  else if zk (zu ts) [105,102]=true then zo (zg f 1 ts.tail) fun e us=>zo (Uh f us) fun b us=>if zk (zu us) [101,108,115,101]=true then zo (Uh f us.tail) fun c us=>some (.ok (.mk 4 [] [e] b c (zu ts).line,us)) else some (.ok (.mk 3 [] [e] b [] (zu ts).line,us))
  else if zk (zu ts) [119,104,105,108,101]=true then zo (zg f 1 ts.tail) fun e us=>zo (Uh f us) fun b us=>some (.ok (.mk 5 [] [e] b [] (zu ts).line,us))
  else if zk (zu ts) [114,101,116,117,114,110]=true then if zk (zu ts.tail) [59]=true then some (.ok (.mk 6 [] [] [] [] (zu ts).line,ts.tail.tail)) else zo (zg f 1 ts.tail) fun e us=>zo (Zg [59] us) fun _ us=>some (.ok (.mk 6 [] [e] [] [] (zu ts).line,us))
  else zo (zg f 1 ts) fun e us=>if zk (zu us) [61]=true then (if zav e=true then zo (zg f 1 us.tail) fun e2 us=>zo (Zg [59] us) fun _ us=>some (.ok (.mk 2 [] [e,e2] [] [] (zu ts).line,us)) else some (.error (zu us).at0)) else zo (Zg [59] us) fun _ us=>some (.ok (.mk 7 [] [e] [] [] (zu ts).line,us))
def Uh:Nat→List Tk→Option (PR (List St))
 | 0,_=>none
 | f+1,ts=>zo (Zg [123] ts) fun _ us=>Qq f [] us
def Qq:Nat→List St→List Tk→Option (PR (List St))
 | 0,_,_=>none
 | f+1,pre,ts=>if zk (zu ts) [125]=true then some (.ok (pre,ts.tail)) else zo (zaT f ts) fun s us=>Qq f (pre++[s]) us
end
abbrev zbE (w:World) (N:Nat) (a b c d e f:Value):World:=(set5 w N a b c d e).setCell ⟨N,5,none⟩ f
def Y8 {α:Type} (p:Nat→Option (PR α)) (n:Nat):Prop:=∃f r,(∀k,p (f+k)=some r)∧∀x us,r=.ok (x,us)→us.length≤n∧zq us
theorem Y8.then {α β:Type} {p:Nat→Option (PR α)} {q:Nat→α→List Tk→Option (PR β)} {n m:Nat} (h:Y8 p n) (hq:∀x us,us.length≤n→zq us→Y8 (fun f=>q f x us) m):Y8 (fun f=>zo (p f) (q f)) m:=by
 obtain ⟨f,r,o,z⟩:=h;cases r with
 | error a=>exact ⟨f,.error a,fun k=>by simp [zo,o k],fun x us h=>by cases h⟩
 | ok y =>
  obtain ⟨g,s,E,D⟩:=hq y.1 y.2 (z _ _ rfl).1 (z _ _ rfl).2;refine ⟨f+g,s,fun k=>?_,D⟩
  have A:=o (g+k);have e:=E (f+k);rw [show f+(g+k)=f+g+k by omega] at A
  rw [show g+(f+k)=f+g+k by omega] at e
  simp only [zo,A];exact e
theorem Y8.step {α:Type} {p q:Nat→Option (PR α)} {n:Nat} (h:Y8 q n) (hp:∀f,p (f+1)=q f):Y8 p n:=by
 obtain ⟨f,r,e,o⟩:=h;exact ⟨f+1,r,fun k=>by rw [show f+1+k=f+k+1 by omega,hp];exact e k,o⟩
theorem Y8.le {α:Type} {p:Nat→Option (PR α)} {n m:Nat} (h:Y8 p n) (hm:n≤m):Y8 p m:=by
 obtain ⟨f,r,o,e⟩:=h;exact ⟨f,r,o,fun x us h=>⟨Nat.le_trans (e x us h).1 hm,(e x us h).2⟩⟩
end Go.Proofs.YtmbofhpmockmbaaGreatDoor
