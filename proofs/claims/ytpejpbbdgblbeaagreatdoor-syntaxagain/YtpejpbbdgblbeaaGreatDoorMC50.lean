import Derived.Test.YtpejpbbdgblbeaaGreatDoorMC45
import Derived.Test.YtpejpbbdgblbeaaGreatDoorMC31
import Derived.Test.YtpejpbbdgblbeaaGreatDoorMC35
namespace Go.Proofs.YtpejpbbdgblbeaaGreatDoor
open Go.RowKit Go.Shelf
mutual
def zcm:Ez→List Int
 | .mk _ _ _ kids line=>line::UZ kids
def UZ:List Ez→List Int
 | []=>[]
 | x::xs=>zcm x++UZ xs
end
abbrev zjW (l:List Int):List Value:=l.map fun x=>Value.int .i64 x
theorem Zr.near {α:Type} {P P':α→List Value→Prop} {sz:Nat} {w W:World} {l:List α} {base:Option Addr} {m cap:Nat} (h:Zr P sz w.heap.size w l base m cap) (hb:Below w.heap.size w W) (hP:∀x c,P x c→P' x c):Zr P' sz W.heap.size W l base m cap:=(h.kept hb hP).wide hb.size fun _ _ h=>h
theorem XP (f:Nat) (x y:Pz) (v v':Value) (w:World) (Q:xJ w.heap.size w f x v) (O:xJ w.heap.size w f y v') (hs:SmP x y) :
  Calls Tryz.prog 10 #[v,v'] w fun e w'=>e=.returned (.bool true)∧Below w.heap.size w w':=by
 obtain ⟨b,m,ai,b2,m2,ae,rfl,V,Y⟩:=Q;obtain ⟨b',m',af,ah,m2',T,rfl,r2,f2⟩:=O;obtain rfl:m=m':=by have:=V.1;have:=r2.1;have:=hs.rl;omega
 obtain rfl:m2=m2':=by have:=Y.1;have:=f2.1;have:=hs.fl;omega
 refine UU b b2 b' ah m ai m2 ae af T w (by have:=V.2.1;have:=V.2.2.1;have:=V.1;unfold maxLen at *;omega) (by have:=Y.2.1;have:=Y.2.2.1;have:=Y.1;unfold maxLen at *;omega) (fun i hi W hW=>?_) (fun i hi W hW=>?_)
 ·have k1:=V.near hW fun x c h=>Xk.wide hW.size x c (Xk.kept hW x c h)
  have k2:=r2.near hW fun x c h=>Xk.wide hW.size x c (Xk.kept hW x c h)
  have Q:x.recs[i]?=some (x.recs[i]'(by have:=V.1;omega)):=List.getElem?_eq_getElem _
  have O:y.recs[i]?=some (y.recs[i]'(by have:=r2.1;omega)):=List.getElem?_eq_getElem _
  obtain ⟨bb,o,c,e1,U,-,-,hp,J⟩:=k1.2.2.2 i _ Q;obtain ⟨L,o',c',N,A,-,-,R,z⟩:=k2.2.2.2 i _ O;obtain ⟨Z,mf,cf,rfl,-,hf⟩:=hp;obtain ⟨H,D,I,rfl,-,G⟩:=R;obtain ⟨n1,n2⟩:=hs.r i _ _ Q O;refine ⟨bb,o,_,Z,mf,cf,L,o',H,D,I,e1,N,U,A,J 0 _ rfl,J 1 _ rfl,?_,z 1 _ rfl,fun wx hwx=>?_⟩
  ·rw [n1];exact z 0 _ rfl
  ·rw [←n2] at G
   exact (vw _ Z H mf D cf I wx (hf.near hwx fun _ _ h=>h) (G.near hwx fun _ _ h=>h)).mono fun e w'' h=>⟨h.1,hwx.trans (h.2.mono hwx.size)⟩
 ·have k1:=Y.near hW fun x c h=>Xl.wide hW.size f x c (Xl.kept hW f x c h)
  have k2:=f2.near hW fun x c h=>Xl.wide hW.size f x c (Xl.kept hW f x c h)
  have Q:x.funs[i]?=some (x.funs[i]'(by have:=Y.1;omega)):=List.getElem?_eq_getElem _
  have O:y.funs[i]?=some (y.funs[i]'(by have:=f2.1;omega)):=List.getElem?_eq_getElem _
  obtain ⟨bb,o,c,e1,U,-,-,hp,J⟩:=k1.2.2.2 i _ Q;obtain ⟨L,o',c',N,A,-,-,R,z⟩:=k2.2.2.2 i _ O;obtain ⟨Z,mf,cf,bg,mg,cg,rfl,-,-,hf,hg⟩:=hp;obtain ⟨H,D,I,aa,ab,ad,rfl,-,-,G,ag⟩:=R;obtain ⟨n1,n2,n3,n4⟩:=hs.f i _ _ Q O;refine ⟨bb,o,_,Z,mf,cf,_,bg,mg,cg,_,L,o',H,D,I,aa,ab,ad,_,e1,N,U,A,J 0 _ rfl,J 1 _ rfl,J 2 _ rfl,J 3 _ rfl,J 4 _ rfl,?_,z 1 _ rfl,?_,z 3 _ rfl,z 4 _ rfl,fun wx hwx=>?_,fun wx hwx=>?_⟩
  ·rw [n1];exact z 0 _ rfl
  ·rw [n2];exact z 2 _ rfl
  ·rw [←n3] at G
   exact vw _ Z H mf D cf I wx (hf.near hwx fun _ _ h=>h) (G.near hwx fun _ _ h=>h)
  ·exact qD f _ _ bg aa mg ab cg ad wx (hg.near hwx fun x c h=>ZW.wide hwx.size f x c (ZW.kept hwx f x c h)) (ag.near hwx fun x c h=>ZW.wide hwx.size f x c (ZW.kept hwx f x c h)) n4
mutual
def zcn:Sz→List Int
 | .mk _ _ es body els line=>line::(UZ es++(vy body++vy els))
def vy:List Sz→List Int
 | []=>[]
 | x::xs=>zcn x++vy xs
end
end Go.Proofs.YtpejpbbdgblbeaaGreatDoor
