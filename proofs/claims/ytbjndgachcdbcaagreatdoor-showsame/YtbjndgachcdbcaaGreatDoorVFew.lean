import Derived.Test.YtbjndgachcdbcaaGreatDoorMC31
import Derived.Test.YtbjndgachcdbcaaGreatDoorHLoad
namespace Go.Proofs.YtbjndgachcdbcaaGreatDoor
open Go.RowKit Go.Shelf
set_option maxHeartbeats 16000000
set_option maxRecDepth 100000
def uE (e:Ending):Prop:=∃b,e=.returned (.bool b)
theorem Up {T U:Nat→Prop} (v:Vw) (vf vs:Value) (os:List Ob) (vo:Value) (w:World) (hv:zR T w v vf vs) (hs:yg v) (ho:zD U w vo os) (hol:os.length≤1048576) (hoc:∀o∈os,o.2.length≤1048576) :
  Calls Tryz.prog 12 #[uu vf vs v,vo] w fun e w'=>uE e∧Below w.heap.size w w':=by
 obtain ⟨bf,cf,rfl,-,-,E⟩:=hv.frames.at
 obtain ⟨bs,cs,rfl,-⟩:=hv.stops.at
 obtain ⟨bo,co,rfl,-,-,F⟩:=ho.at
 obtain ⟨⟨V,y,z,c,Z⟩,R,A,⟨aa,n,D⟩⟩:=v;obtain ⟨w1,X,I,ah,h0⟩:=yE w (.cells (yS V y z (.slice bf c.length cf) Z R (.slice bs A.length cs) aa n D) 35);have af:Hid (w1=w.alloc (.cells (yS V y z (.slice bf c.length cf) Z R (.slice bs A.length cs) aa n D) 35)):=X;have B:Hid (Below w.heap.size w w1):=I;have M:Hid (∀i (hi:i<c.length),∃b o,bf=some ⟨b,o,none⟩∧T b∧b<w.heap.size∧UF T w b (o+i*3) c[i]):=E;have ab:Hid (∀i (hi:i<os.length),∃b o u,bo=some ⟨b,o,none⟩∧U b∧b<w.heap.size∧w.cell? ⟨b,o+i*2,none⟩=some (.string (za (os[i]).1))∧w.cell? ⟨b,o+i*2+1,none⟩=some u∧zk U w u (os[i]).2):=F;have ag:Hid (∀f∈c,yf f):=hs.frames;have ai:Hid (∀o∈os,o.2.length≤1048576):=hoc;have q1:=hs.nframes;have q2:=hs.nstops;have q3:=hs.out;have q4:=hs.says;simp only at q1 q2 q3 q4;obtain ⟨p0,p1,p2,p3,p4,p5,p6,p7,p8,p9⟩:=zl h0;have Y:Hid (∀b q,b<w.heap.size→w1.cell? ⟨b,q,none⟩=w.cell? ⟨b,q,none⟩):=fun b q hb=>zb I hb
 clear X I h0 ah E F hv hs ho hoc
 go_enter Tryz.func12,Tryz.ntmps12
 go_upto_region 2 with fail
 rw [←af.out];go_wp2
 go_loopw [5,6] (fun vn vi wr=>∃(i:Nat) (m:Int),i≤c.length∧vi=.int .i64 (i:Int)∧vn=.int .i64 m∧0≤m∧m≤4000000∧wr=w1) (fun _ vi _=>c.length-(intOf vi).toNat)
 case atStart=>exact ⟨0,_,Nat.zero_le _,rfl,rfl,by omega,by omega,rfl⟩
 case round =>
  obtain ⟨i,m,hi,rfl,rfl,W,K,rfl⟩:=hrel
  by_cases hlt:i<c.length
  ·have ae:(i:Int)<c.length:=by omega
   by_cases hm:m<5000
   ·obtain ⟨b,o,rfl,-,J,-,-,u,e2,G⟩:=M.out i hlt
    obtain ⟨bv,cv,rfl,-⟩:=G.at
    rw [←Y.out b _ J] at e2;have H:=(ag.out _ (List.getElem_mem hlt)).nvars;obtain ⟨O,h⟩:∃O,O=(c[i]).vars.length:=⟨_,rfl⟩;rw [←h] at e2 H;clear h;go_wp2
    exact ⟨⟨i+1,_,by omega,by go_num,rfl,by omega,by omega,trivial⟩,by simp [intOf];omega⟩
   ·have ad:¬ m<5000:=hm
    go_wp2
    go_loopw [5,7] (fun vn vi wq=>∃(i:Nat),i=0∧vi=.int .i64 (i:Int)∧vn=.int .i64 m∧wq=wr) (fun _ _ _=>0)
    case atStart=>exact ⟨0,rfl,rfl,rfl,rfl⟩
    case round =>
     obtain ⟨j,rfl,rfl,rfl,rfl⟩:=hrel
     by_cases h9:0<os.length
     ·have h8:(0:Int)<os.length:=by omega
      go_wp2
      go_ret
      exact ⟨⟨_,rfl⟩,B.out⟩
     ·have h8:¬ (0:Int)<os.length:=by omega
      go_wp2
      go_ret
      exact ⟨⟨_,rfl⟩,B.out⟩
  ·have ae:¬ (i:Int)<c.length:=by omega
   go_wp2
   go_loopw [5,7] (fun vn vi wq=>∃(i:Nat) (m:Int),i≤os.length∧vi=.int .i64 (i:Int)∧vn=.int .i64 m∧0≤m∧m≤4000000∧wq=wr) (fun _ vi _=>os.length-(intOf vi).toNat)
   case atStart=>exact ⟨0,_,Nat.zero_le _,rfl,rfl,W,K,rfl⟩
   case round =>
    obtain ⟨j,m,hj,rfl,rfl,W,K,rfl⟩:=hrel
    by_cases hlt:j<os.length
    ·have aj:(j:Int)<os.length:=by omega
     by_cases hm:m<5000
     ·obtain ⟨b,o,u,rfl,-,J,-,e2,G⟩:=ab.out j hlt
      obtain ⟨bv,cv,rfl,-⟩:=G.at
      rw [←Y.out b _ J] at e2;have H:=ai.out _ (List.getElem_mem hlt);obtain ⟨O,h⟩:∃O,O=(os[j]).2.length:=⟨_,rfl⟩;rw [←h] at e2 H;clear h;go_wp2
      exact ⟨⟨j+1,_,by omega,by go_num,rfl,by omega,by omega,trivial⟩,by simp [intOf];omega⟩
     ·have ad:¬ m<5000:=hm
      go_wp2
      go_ret
      exact ⟨⟨_,rfl⟩,B.out⟩
    ·have aj:¬ (j:Int)<os.length:=by omega
     go_wp2
     go_ret
     exact ⟨⟨_,rfl⟩,B.out⟩
end Go.Proofs.YtbjndgachcdbcaaGreatDoor
