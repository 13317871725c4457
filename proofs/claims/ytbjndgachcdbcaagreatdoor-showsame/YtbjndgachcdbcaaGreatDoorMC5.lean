import Derived.Test.YtbjndgachcdbcaaGreatDoorMC4
import Derived.Lib.AppendIntMem
namespace Go.Proofs.YtbjndgachcdbcaaGreatDoor
open Go.RowKit
set_option maxHeartbeats 16000000
set_option maxRecDepth 100000
end Go.Proofs.YtbjndgachcdbcaaGreatDoor
namespace Go.Proofs.YtbjndgachcdbcaaGreatDoor
open Go.RowKit Go.Shelf
set_option maxHeartbeats 16000000
set_option maxRecDepth 100000
theorem VD {w:World} {B e sz n:Nat} {v:Value} {xs:List Value} (h:w.ownsRow B e sz v n xs) (hn:1≤n):∃g b,v=.slice (some ⟨g,0,none⟩) n b∧B≤g∧g<w.heap.size∧n≤b∧∀j u,xs[j]?=some u→w.cell? ⟨g,j,none⟩=some u:=by
 obtain ⟨-,⟨-,z⟩ | ⟨g,b,y,rfl,o,c,m,-,-,q⟩⟩:=h
 ·omega
 ·refine ⟨g,b,rfl,o,(Array.getElem?_eq_some_iff.1 c).1,m,fun j u hj=>?_⟩
  rw [cell_of_row _ _ _ _ _ _ c];rw [←q,List.getElem?_take] at hj
  split at hj
  ·rw [Array.getElem?_toList] at hj;exact hj
  ·cases hj
theorem zb {n:Nat} {w w':World} (h:Below n w w') {g j:Nat} (hg:g<n):w'.cell? ⟨g,j,none⟩=w.cell? ⟨g,j,none⟩:=World.cell?_of_block (h.block g hg)
def Zc (c:UInt8):List UInt8:=if c.toNat=92 then [92,92] else if c.toNat=34 then [92,34] else if c.toNat=10 then [92,110] else [c]
def yY (s:List UInt8):List UInt8:=34::(s.flatMap Zc++[34])
theorem UC {c:UInt8} {i:Nat} (hi:i<3) (he:(xf[i]'hi)=c.toNat):Zc c=[92,(Yx[i]'hi).toUInt8]:=by
 have b:i=0∨i=1∨i=2:=by omega
 unfold Zc
 rcases b with rfl | rfl | rfl
 ·rw [←he];rfl
 ·rw [←he];rfl
 ·rw [←he];rfl
theorem Ua {c:UInt8} (h:∀j (hj:j<3),(xf[j]'hj)≠c.toNat):Zc c=[c]:=by
 have b:92≠c.toNat:=h 0 (by decide)
 have e:34≠c.toNat:=h 1 (by decide)
 have m:10≠c.toNat:=h 2 (by decide)
 unfold Zc
 rw [if_neg (by omega),if_neg (by omega),if_neg (by omega)]
theorem Ub (c:UInt8):(Zc c).length≤2:=by
 unfold Zc
 split
 ·simp
 ·split
  ·simp
  ·split <;> simp
theorem Xv {w:World} {g r q:Nat} (hr:r<256) (hq:q<256) (hc:w.cell? ⟨g,0,none⟩=some (.int .u8 (r:Int))) (hd:w.cell? ⟨g,1,none⟩=some (.int .u8 (q:Int))):YE w (.slice (some ⟨g,0,none⟩) 2 2) [r.toUInt8,q.toUInt8] :=
 Ym rfl (by unfold maxLen;decide) (fun j u hj=>by
  match j,hj with
  | 0,hj=>simp [Lib.byteCells,Lib.toUInt8_toNat hr] at hj;subst hj;exact hc
  | 1,hj=>simp [Lib.byteCells,Lib.toUInt8_toNat hq] at hj;subst hj;exact hd)
theorem VE (B:Nat) (v:Value) (us:List UInt8) (c:UInt8) (w:World) (hown:w.ownsRow B 5 1 v us.length (Lib.byteCells us)) (hB:B≤w.heap.size) (hl:us.length≤1000000000) (ht:Zi w) :
  Calls Tryz.prog 79 #[v,.int .u8 (c.toNat:Int)] w fun e w'=>∃v',e=.returned v'∧w'.ownsRow B 5 1 v' (us++Zc c).length (Lib.byteCells (us++Zc c)) ∧
   Below B w w'∧∀k,k<w.heap.size→some k≠v.ownBlock→w'.heap[k]?=w.heap[k]?:=by
 have V:=ht.escs 0 (by decide)
 have W:=ht.escs 1 (by decide)
 have Y:=ht.escs 2 (by decide)
 have e3:=ht.escs 3 (by decide)
 have X:=ht.escs 4 (by decide)
 have Z:=ht.escs 5 (by decide)
 simp only [List.getElem_cons_zero,List.getElem_cons_succ] at V W Y e3 X Z;clear ht;have T:Hid (w.ownsRow B 5 1 v us.length (Lib.byteCells us)):=hown;obtain ⟨n,O⟩:∃n,n=c.toNat:=⟨_,rfl⟩;have u:n<256:=by rw [O];exact UInt8.toNat_lt c
 rw [←O];have R:Hid (n=c.toNat):=O;clear hown O
 go_enter Tryz.func79,Tryz.ntmps79
 go_wp2
 clear V W Y e3 X Z
 go_loopw [8] (fun x wr=>∃i:Nat,i≤3∧x=.int .i64 i∧(∀j (hj:j<3),j<i→(xf[j]'hj)≠n)∧Below w.heap.size w wr) (fun x _=>3-(intOf x).toNat)
 case atStart=>exact ⟨0,Nat.zero_le _,rfl,fun j _ h=>by omega,Below.refl _ _⟩
 case round =>
  obtain ⟨i,hi,rfl,z,y⟩:=hrel;have HA:Hid (∀j (hj:j<3),j<i→(xf[j]'hj)≠n):=z;have G:Hid (Below w.heap.size w wr):=y;have H:=y.size;have M:Hid (wr.ownsRow B 5 1 v us.length (Lib.byteCells us)):=yV T.out y (Nat.le_refl _);clear z y
  by_cases hlt:i<3
  ·have K:=fun wx=>Xu wx i hlt
   obtain ⟨a,J⟩:∃a,a=xf[i]'hlt:=⟨_,rfl⟩;obtain ⟨b,F⟩:∃b,b=Yx[i]'hlt:=⟨_,rfl⟩
   have D:b<256:=by
    have:∀j (hj:j<3),(Yx[j]'hj)<256:=by decide
    rw [F];exact this i hlt
   rw [←J,←F] at K
   by_cases he:a=n
   ·have I:Hid (Zc c=[(92:Nat).toUInt8,b.toUInt8]):=show _=_ by rw [F];exact UC hlt (by rw [←J,he,R.out])
    subst he;clear J F
    go_wp2_with (at_builtin;refine Zn rfl _ _ rfl B _ us rfl ((M.out.alloc _).alloc _) _ [(92:Nat).toUInt8,b.toUInt8] rfl (Xv (by decide) D (by simp) (by simp)) (by simp;omega) (by simp;omega) ?_;intro U w3 o m)
    have A:∀k,k<w.heap.size→some k≠v.ownBlock→w3.heap[k]?=w.heap[k]?:=fun k hk hne=>by
     rw [m.block k (by simp;omega) hne,Below.heap_alloc _ _ _ (by simp;omega),Below.heap_alloc _ _ _ (by omega),G.out.block k hk]
    have E:Below B w w3:=(((G.out.mono hB).alloc (by omega) _).alloc (by simp;omega) _).grown m (by simp;omega) (fun q hq=>(T.out.lt q hq).1)
    go_ret
    refine ⟨U,rfl,?_,E,A⟩;rw [I.out];exact o
   ·have aa:((a:Int)==(n:Int))=false:=by rw [beq_eq_false_iff_ne];omega
    have I:Hid ((xf[i]'hlt)≠n):=show (xf[i]'hlt)≠n by rw [←J];exact he
    clear J F he;go_wp2
    refine ⟨⟨i+1,by omega,by go_num,fun j hj hji=>?_,G.out.alloc H _⟩,by simp [intOf];omega⟩
    by_cases h:j<i
    ·exact HA.out j hj h
    ·obtain rfl:j=i:=by omega
     exact I.out
  ·obtain rfl:i=3:=by omega
   have I:Hid (Zc c=[n.toUInt8]):=show _=_ by
    rw [Ua (fun j hj=>by rw [←R.out];exact HA.out j hj hj),R.out]
    congr 1
    exact (UInt8.toNat_inj.1 (Lib.toUInt8_toNat (by rw [←R.out];exact u))).symm
   go_wp2_with (at_builtin;refine Zn rfl _ _ rfl B _ us rfl (M.out.alloc _) _ [n.toUInt8] rfl (yb u (by simp)) (by simp;omega) (by simp;omega) ?_;intro U w3 o m)
   have A:∀k,k<w.heap.size→some k≠v.ownBlock→w3.heap[k]?=w.heap[k]?:=fun k hk hne=>by
    rw [m.block k (by simp;omega) hne,Below.heap_alloc _ _ _ (by omega),G.out.block k hk]
   have E:Below B w w3:=((G.out.mono hB).alloc (by omega) _).grown m (by simp;omega) (fun q hq=>(T.out.lt q hq).1)
   go_ret
   refine ⟨U,rfl,?_,E,A⟩;rw [I.out];exact o
theorem vr (w:World) (c:Nat) (hc:c<256):(w.alloc (.cells #[.int .u8 (c:Int)] 5)).ownsRow w.heap.size 5 1 (.slice (some ⟨w.heap.size,0,none⟩) 1 1) [c.toUInt8].length (Lib.byteCells [c.toUInt8]):=by
 refine ⟨by simp [Lib.byteCells],.inr ⟨w.heap.size,1,#[.int .u8 (c:Int)],rfl,Nat.le_refl _,World.alloc_heap_new w _,Nat.le_refl _,by unfold maxLen;decide,by simp,?_⟩⟩
 simp [Lib.byteCells,Lib.toUInt8_toNat hc]
theorem VF (s:List UInt8) (i:Nat) (h:i<s.length):(s.take (i+1)).flatMap Zc=(s.take i).flatMap Zc++Zc s[i]:=by
 rw [List.take_succ_eq_append_getElem h,List.flatMap_append]
 simp
theorem Xw (s:List UInt8):(s.flatMap Zc).length≤2*s.length:=by
 induction s with
 | nil=>simp
 | cons x s ih =>
  have:=Ub x
  rw [List.flatMap_cons,List.length_append,List.length_cons];omega
theorem vv (s:List UInt8) (w:World) (hl:s.length≤100000000) (ht:Zi w) :
  Calls Tryz.prog 61 #[.string (za s)] w fun e w'=>e=.returned (.string (za (yY s)))∧Below w.heap.size w w':=by
 have HT:Hid (Zi w):=ht;have ao:(za s).size=s.length:=rfl;obtain ⟨w1,b⟩:∃w1,w1=w.alloc (.cells #[.int .u8 ((34:Nat):Int)] 5):=⟨_,rfl⟩;have U:w1.heap.size=w.heap.size+1:=by rw [b];simp
 have V:Below w.heap.size w w1:=by rw [b];exact (Below.refl _ w).alloc (Nat.le_refl _) _
 have T:w1.ownsRow w.heap.size 5 1 (.slice (some ⟨w.heap.size,0,none⟩) 1 1) [(34:Nat).toUInt8].length (Lib.byteCells [(34:Nat).toUInt8]):=by rw [b];exact vr w 34 (by decide)
 have A:=fun (wx:World)=>Lib.run_convert_string_bytes (P:=Tryz.prog) wx 9 44 5 (za s) Tryz.underlying9 Tryz.underlying44 Tryz.underlying5
 have I:(Lib.bytesWorld w1 5 (za s)).heap.size=w1.heap.size+1:=Lib.bytesWorld_size w1 5 _;have E:Below w1.heap.size w1 (Lib.bytesWorld w1 5 (za s)):=bytesWorld_below w1 5 _
 have F:∀j (h:j<s.length),(Lib.bytesWorld w1 5 (za s)).cell? ⟨w1.heap.size,j,none⟩=some (.int .u8 ((s[j]).toNat:Int)):=fun j h=>by
  have h9:=Lib.bytesWorld_cell w1 5 (za s) j h;rw [h9]
  simp [List.getD_eq_getElem?_getD,List.getElem?_eq_getElem h]
 have R:=Lib.bytesWorld_at_new w1 5 (za s)
 have B:∀u,(Lib.bytesWorld w1 5 (za s)).heap[w1.heap.size]?≠some (.cells u 5 (0,0)):=fun u h=>by
  rw [R] at h
  simp at h
 have am:=grownCap_ge w1 (za s).size 0 5;have X:=grownCap_le_maxLen w1 (za s).size 0 5 (by rw [zu];unfold maxLen;omega)
 rw [zu] at am X
 unfold maxLen at X
 rw [U] at I F B;clear R ht
 go_enter Tryz.func61,Tryz.ntmps61
 go_wp2_with fail
 rw [show w.alloc (Obj.cells #[Value.int IntKind.u8 34] 5)=w1 from b.symm]
 generalize grownCap w1 s.length 0 5=cp at *;have ab:Hid (∀j (h:j<s.length),(Lib.bytesWorld w1 5 (za s)).cell? ⟨w.heap.size+1,j,none⟩=some (.int .u8 ((s[j]).toNat:Int))):=F;have ak:Hid (∀u,(Lib.bytesWorld w1 5 (za s)).heap[w.heap.size+1]?≠some (.cells u 5 (0,0))):=B;have af:Hid (Below w.heap.size w (Lib.bytesWorld w1 5 (za s))):=V.trans (E.mono (by omega))
 have ae:Hid ((Lib.bytesWorld w1 5 (za s)).ownsRow w.heap.size 5 1 (.slice (some ⟨w.heap.size,0,none⟩) 1 1) [(34:Nat).toUInt8].length (Lib.byteCells [(34:Nat).toUInt8])):=yV T E (Nat.le_refl _);have aq:Hid ((Lib.bytesWorld w1 5 (za s)).heap.size=w.heap.size+2):=I;clear F B V E T I A b U;generalize Lib.bytesWorld w1 5 (za s)=w2 at *
 go_loopw [3,10] (fun vb vi wr=>∃i:Nat,i≤s.length∧vi=.int .i64 i∧wr.ownsRow w.heap.size 5 1 vb (34::(s.take i).flatMap Zc).length (Lib.byteCells (34::(s.take i).flatMap Zc))∧Below w.heap.size w wr∧wr.heap[w.heap.size+1]?=w2.heap[w.heap.size+1]?) (fun _ vi _=>s.length-(intOf vi).toNat)
 case atStart=>exact ⟨0,Nat.zero_le _,rfl,ae.out,af.out,rfl⟩
 case round =>
  obtain ⟨i,hi,rfl,y,G,Z⟩:=hrel;have z:=G.size;have HB:Hid (Below w.heap.size w wr):=G;have M:Hid (wr.ownsRow w.heap.size 5 1 u3 (34::(s.take i).flatMap Zc).length (Lib.byteCells (34::(s.take i).flatMap Zc))):=y;have D:Hid (wr.heap[w.heap.size+1]?=w2.heap[w.heap.size+1]?):=Z
  have al:(34::(s.take i).flatMap Zc).length≤2*s.length+1:=by
   have h9:=Xw (s.take i);rw [List.length_take] at h9;rw [List.length_cons];omega
  clear y G Z
  by_cases hlt:i<s.length
  ·have hc:wr.cell? ⟨w.heap.size+1,i,none⟩=some (.int .u8 ((s[i]).toNat:Int)):=by
    rw [World.cell?_of_block D.out];exact ab.out i hlt
   have ad:(i:Int)<s.length:=by omega
   have ca:=VE w.heap.size u3 (34::(s.take i).flatMap Zc) s[i] wr M.out z (by omega) (HT.out.below HB.out (Nat.le_refl _))
   have ah:Hid ((34::(s.take i).flatMap Zc)++Zc s[i]=34::(s.take (i+1)).flatMap Zc):=by
    show _=_
    rw [VF s i hlt];rfl
   rw [ah.out] at ca
   have ai:Hid (some (w.heap.size+1)≠u3.ownBlock):=fun e=>by
    obtain ⟨-,⟨hv,-⟩ | ⟨g,ap,u,hv,-,hh,-⟩⟩:=M.out
    ·rw [hv] at e;simp [Value.ownBlock] at e
    ·rw [hv] at e
     simp [Value.ownBlock] at e
     rw [←e,D.out] at hh;exact ak.out _ hh
   have hz:w.heap.size+1<wr.heap.size:=World.block_lt_of_cell? wr _ hc;obtain ⟨n,hn⟩:∃n,n=(s[i]).toNat:=⟨_,rfl⟩;rw [←hn] at hc ca;clear hn;go_wp2_with fail
   refine ca.mono ?_;clear ca;rintro e J ⟨v3,rfl,Y,aa,O⟩;have ag:Hid (J.ownsRow w.heap.size 5 1 v3 (34::(s.take (i+1)).flatMap Zc).length (Lib.byteCells (34::(s.take (i+1)).flatMap Zc))):=Y;have H:Hid (Below w.heap.size w J):=HB.out.trans aa;have an:Hid (J.heap[w.heap.size+1]?=w2.heap[w.heap.size+1]?):=(O _ hz ai.out).trans D.out;clear Y aa O;go_wp2
   exact ⟨⟨i+1,by omega,by go_num,ag.out,H.out,an.out⟩,by simp [intOf];omega⟩
  ·obtain rfl:i=s.length:=by omega
   have ad:¬ (s.length:Int)<s.length:=by omega
   have HQ:Hid (yY s=(34::(s.take s.length).flatMap Zc)++[(34:Nat).toUInt8]):=by
    show _=_
    rw [List.take_length];rfl
   obtain ⟨us,W⟩:∃us,us=34::(s.take s.length).flatMap Zc:=⟨_,rfl⟩;rw [←W] at HQ M al;clear W
   go_wp2_with (at_builtin;refine Zn rfl _ _ rfl w.heap.size _ us rfl (M.out.alloc _) _ [(34:Nat).toUInt8] rfl (yb (by decide) (by simp)) (by simp;omega) (by simp;omega) ?_;intro v3 J m o;obtain ⟨b3,K,rfl,c,-,-,-⟩:=ZH m;have aj:=ZS J b3 _ K c;rw [show (us++[(34:Nat).toUInt8]).length=us.length+1 by simp] at aj ⊢)
   have H:Hid (Below w.heap.size w J):=(HB.out.alloc z _).grown o (by simp;omega) (fun q hq=>(M.out.lt q hq).1)
   clear c m o;go_ret
   rw [HQ.out];exact ⟨rfl,H.out⟩
end Go.Proofs.YtbjndgachcdbcaaGreatDoor
