import Derived.Test.YtbjndgachcdbcaaGreatDoorMC4
import Derived.Lib.AppendIntMem
namespace Go.Proofs.YtbjndgachcdbcaaGreatDoor
open Go.RowKit
set_option maxHeartbeats 16000000
set_option maxRecDepth 100000
end Go.Proofs.YtbjndgachcdbcaaGreatDoor
namespace Go.Proofs.YtbjndgachcdbcaaGreatDoor
open Go.RowKit Go.Shelf
set_option maxHeartbeats 16000000
set_option maxRecDepth 100000
theorem XO {w:World} {B e sz n:Nat} {v:Value} {xs:List Value} (h:w.ownsRow B e sz v n xs) (hn:1≤n):∃g b,v=.slice (some ⟨g,0,none⟩) n b∧B≤g∧g<w.heap.size∧n≤b∧∀j u,xs[j]?=some u→w.cell? ⟨g,j,none⟩=some u:=by
 obtain ⟨-,⟨-,y⟩ | ⟨g,b,m,rfl,x,c,o,-,-,q⟩⟩:=h
 ·omega
 ·refine ⟨g,b,rfl,x,(Array.getElem?_eq_some_iff.1 c).1,o,fun j u hj=>?_⟩
  rw [cell_of_row _ _ _ _ _ _ c];rw [←q,List.getElem?_take] at hj
  split at hj
  ·rw [Array.getElem?_toList] at hj;exact hj
  ·cases hj
theorem zh {n:Nat} {w w':World} (h:Below n w w') {g j:Nat} (hg:g<n):w'.cell? ⟨g,j,none⟩=w.cell? ⟨g,j,none⟩:=World.cell?_of_block (h.block g hg)
def zV (c:UInt8):List UInt8:=if c.toNat=92 then [92,92] else if c.toNat=34 then [92,34] else if c.toNat=10 then [92,110] else [c]
def yt (s:List UInt8):List UInt8:=34::(s.flatMap zV++[34])
theorem Vy {c:UInt8} {i:Nat} (hi:i<3) (he:(Yt[i]'hi)=c.toNat):zV c=[92,(yO[i]'hi).toUInt8]:=by
 have b:i=0∨i=1∨i=2:=by omega
 unfold zV
 rcases b with rfl | rfl | rfl
 ·rw [←he];rfl
 ·rw [←he];rfl
 ·rw [←he];rfl
theorem vX {c:UInt8} (h:∀j (hj:j<3),(Yt[j]'hj)≠c.toNat):zV c=[c]:=by
 have m:92≠c.toNat:=h 0 (by decide)
 have e:34≠c.toNat:=h 1 (by decide)
 have b:10≠c.toNat:=h 2 (by decide)
 unfold zV
 rw [if_neg (by omega),if_neg (by omega),if_neg (by omega)]
theorem vY (c:UInt8):(zV c).length≤2:=by
 unfold zV
 split
 ·simp
 ·split
  ·simp
  ·split <;> simp
theorem xp {w:World} {g r q:Nat} (hr:r<256) (hq:q<256) (hc:w.cell? ⟨g,0,none⟩=some (.int .u8 (r:Int))) (hd:w.cell? ⟨g,1,none⟩=some (.int .u8 (q:Int))):yR w (.slice (some ⟨g,0,none⟩) 2 2) [r.toUInt8,q.toUInt8] :=
 yF rfl (by unfold maxLen;decide) (fun j u hj=>by
  match j,hj with
  | 0,hj=>simp [Lib.byteCells,Lib.toUInt8_toNat hr] at hj;subst hj;exact hc
  | 1,hj=>simp [Lib.byteCells,Lib.toUInt8_toNat hq] at hj;subst hj;exact hd)
theorem XP (B:Nat) (v:Value) (us:List UInt8) (c:UInt8) (w:World) (hown:w.ownsRow B 5 1 v us.length (Lib.byteCells us)) (hB:B≤w.heap.size) (hl:us.length≤1000000000) (ht:z6 w) :
  Calls Tryz.prog 79 #[v,.int .u8 (c.toNat:Int)] w fun e w'=>∃v',e=.returned v'∧w'.ownsRow B 5 1 v' (us++zV c).length (Lib.byteCells (us++zV c)) ∧
   Below B w w'∧∀k,k<w.heap.size→some k≠v.ownBlock→w'.heap[k]?=w.heap[k]?:=by
 have e0:=ht.escs 0 (by decide)
 have Y:=ht.escs 1 (by decide)
 have V:=ht.escs 2 (by decide)
 have e3:=ht.escs 3 (by decide)
 have Z:=ht.escs 4 (by decide)
 have W:=ht.escs 5 (by decide)
 simp only [List.getElem_cons_zero,List.getElem_cons_succ] at e0 Y V e3 Z W;clear ht;have T:Hid (w.ownsRow B 5 1 v us.length (Lib.byteCells us)):=hown;obtain ⟨n,R⟩:∃n,n=c.toNat:=⟨_,rfl⟩;have u:n<256:=by rw [R];exact UInt8.toNat_lt c
 rw [←R];have O:Hid (n=c.toNat):=R;clear hown R
 go_enter Tryz.func79,Tryz.ntmps79
 go_wp2
 clear e0 Y V e3 Z W
 go_loopw [8] (fun x wr=>∃i:Nat,i≤3∧x=.int .i64 i∧(∀j (hj:j<3),j<i→(Yt[j]'hj)≠n)∧Below w.heap.size w wr) (fun x _=>3-(intOf x).toNat)
 case atStart=>exact ⟨0,Nat.zero_le _,rfl,fun j _ h=>by omega,Below.refl _ _⟩
 case round =>
  obtain ⟨i,hi,rfl,z,y⟩:=hrel;have X:Hid (∀j (hj:j<3),j<i→(Yt[j]'hj)≠n):=z;have I:Hid (Below w.heap.size w wr):=y;have F:=y.size;have J:Hid (wr.ownsRow B 5 1 v us.length (Lib.byteCells us)):=yr T.out y (Nat.le_refl _);clear z y
  by_cases hlt:i<3
  ·have G:=fun wx=>xo wx i hlt
   obtain ⟨a,H⟩:∃a,a=Yt[i]'hlt:=⟨_,rfl⟩;obtain ⟨b,M⟩:∃b,b=yO[i]'hlt:=⟨_,rfl⟩
   have A:b<256:=by
    have:∀j (hj:j<3),(yO[j]'hj)<256:=by decide
    rw [M];exact this i hlt
   rw [←H,←M] at G
   by_cases he:a=n
   ·have K:Hid (zV c=[(92:Nat).toUInt8,b.toUInt8]):=show _=_ by rw [M];exact Vy hlt (by rw [←H,he,O.out])
    subst he;clear H M
    go_wp2_with (at_builtin;refine Ze rfl _ _ rfl B _ us rfl ((J.out.alloc _).alloc _) _ [(92:Nat).toUInt8,b.toUInt8] rfl (xp (by decide) A (by simp) (by simp)) (by simp;omega) (by simp;omega) ?_;intro U w3 o m)
    have D:∀k,k<w.heap.size→some k≠v.ownBlock→w3.heap[k]?=w.heap[k]?:=fun k hk hne=>by
     rw [m.block k (by simp;omega) hne,Below.heap_alloc _ _ _ (by simp;omega),Below.heap_alloc _ _ _ (by omega),I.out.block k hk]
    have E:Below B w w3:=(((I.out.mono hB).alloc (by omega) _).alloc (by simp;omega) _).grown m (by simp;omega) (fun q hq=>(T.out.lt q hq).1)
    go_ret
    refine ⟨U,rfl,?_,E,D⟩;rw [K.out];exact o
   ·have aa:((a:Int)==(n:Int))=false:=by rw [beq_eq_false_iff_ne];omega
    have K:Hid ((Yt[i]'hlt)≠n):=show (Yt[i]'hlt)≠n by rw [←H];exact he
    clear H M he;go_wp2
    refine ⟨⟨i+1,by omega,by go_num,fun j hj hji=>?_,I.out.alloc F _⟩,by simp [intOf];omega⟩
    by_cases h:j<i
    ·exact X.out j hj h
    ·obtain rfl:j=i:=by omega
     exact K.out
  ·obtain rfl:i=3:=by omega
   have K:Hid (zV c=[n.toUInt8]):=show _=_ by
    rw [vX (fun j hj=>by rw [←O.out];exact X.out j hj hj),O.out]
    congr 1
    exact (UInt8.toNat_inj.1 (Lib.toUInt8_toNat (by rw [←O.out];exact u))).symm
   go_wp2_with (at_builtin;refine Ze rfl _ _ rfl B _ us rfl (J.out.alloc _) _ [n.toUInt8] rfl (ZR u (by simp)) (by simp;omega) (by simp;omega) ?_;intro U w3 o m)
   have D:∀k,k<w.heap.size→some k≠v.ownBlock→w3.heap[k]?=w.heap[k]?:=fun k hk hne=>by
    rw [m.block k (by simp;omega) hne,Below.heap_alloc _ _ _ (by omega),I.out.block k hk]
   have E:Below B w w3:=((I.out.mono hB).alloc (by omega) _).grown m (by simp;omega) (fun q hq=>(T.out.lt q hq).1)
   go_ret
   refine ⟨U,rfl,?_,E,D⟩;rw [K.out];exact o
theorem xX (w:World) (c:Nat) (hc:c<256):(w.alloc (.cells #[.int .u8 (c:Int)] 5)).ownsRow w.heap.size 5 1 (.slice (some ⟨w.heap.size,0,none⟩) 1 1) [c.toUInt8].length (Lib.byteCells [c.toUInt8]):=by
 refine ⟨by simp [Lib.byteCells],.inr ⟨w.heap.size,1,#[.int .u8 (c:Int)],rfl,Nat.le_refl _,World.alloc_heap_new w _,Nat.le_refl _,by unfold maxLen;decide,by simp,?_⟩⟩
 simp [Lib.byteCells,Lib.toUInt8_toNat hc]
theorem XQ (s:List UInt8) (i:Nat) (h:i<s.length):(s.take (i+1)).flatMap zV=(s.take i).flatMap zV++zV s[i]:=by
 rw [List.take_succ_eq_append_getElem h,List.flatMap_append]
 simp
theorem xq (s:List UInt8):(s.flatMap zV).length≤2*s.length:=by
 induction s with
 | nil=>simp
 | cons x s ih =>
  have:=vY x
  rw [List.flatMap_cons,List.length_append,List.length_cons];omega
theorem xY (s:List UInt8) (w:World) (hl:s.length≤100000000) (ht:z6 w) :
  Calls Tryz.prog 61 #[.string (za s)] w fun e w'=>e=.returned (.string (za (yt s)))∧Below w.heap.size w w':=by
 have HT:Hid (z6 w):=ht;have ap:(za s).size=s.length:=rfl;obtain ⟨w1,c⟩:∃w1,w1=w.alloc (.cells #[.int .u8 ((34:Nat):Int)] 5):=⟨_,rfl⟩;have T:w1.heap.size=w.heap.size+1:=by rw [c];simp
 have X:Below w.heap.size w w1:=by rw [c];exact (Below.refl _ w).alloc (Nat.le_refl _) _
 have W:w1.ownsRow w.heap.size 5 1 (.slice (some ⟨w.heap.size,0,none⟩) 1 1) [(34:Nat).toUInt8].length (Lib.byteCells [(34:Nat).toUInt8]):=by rw [c];exact xX w 34 (by decide)
 have H:=fun (wx:World)=>Lib.run_convert_string_bytes (P:=Tryz.prog) wx 9 44 5 (za s) Tryz.underlying9 Tryz.underlying44 Tryz.underlying5
 have F:(Lib.bytesWorld w1 5 (za s)).heap.size=w1.heap.size+1:=Lib.bytesWorld_size w1 5 _;have G:Below w1.heap.size w1 (Lib.bytesWorld w1 5 (za s)):=bytesWorld_below w1 5 _
 have D:∀j (h:j<s.length),(Lib.bytesWorld w1 5 (za s)).cell? ⟨w1.heap.size,j,none⟩=some (.int .u8 ((s[j]).toNat:Int)):=fun j h=>by
  have h9:=Lib.bytesWorld_cell w1 5 (za s) j h;rw [h9]
  simp [List.getD_eq_getElem?_getD,List.getElem?_eq_getElem h]
 have U:=Lib.bytesWorld_at_new w1 5 (za s)
 have B:∀u,(Lib.bytesWorld w1 5 (za s)).heap[w1.heap.size]?≠some (.cells u 5 (0,0)):=fun u h=>by
  rw [U] at h
  simp at h
 have ag:=grownCap_ge w1 (za s).size 0 5;have J:=grownCap_le_maxLen w1 (za s).size 0 5 (by rw [zo];unfold maxLen;omega)
 rw [zo] at ag J
 unfold maxLen at J
 rw [T] at F D B;clear U ht
 go_enter Tryz.func61,Tryz.ntmps61
 go_wp2_with fail
 rw [show w.alloc (Obj.cells #[Value.int IntKind.u8 34] 5)=w1 from c.symm]
 generalize grownCap w1 s.length 0 5=cp at *;have ai:Hid (∀j (h:j<s.length),(Lib.bytesWorld w1 5 (za s)).cell? ⟨w.heap.size+1,j,none⟩=some (.int .u8 ((s[j]).toNat:Int))):=D;have ad:Hid (∀u,(Lib.bytesWorld w1 5 (za s)).heap[w.heap.size+1]?≠some (.cells u 5 (0,0))):=B;have ak:Hid (Below w.heap.size w (Lib.bytesWorld w1 5 (za s))):=X.trans (G.mono (by omega))
 have ah:Hid ((Lib.bytesWorld w1 5 (za s)).ownsRow w.heap.size 5 1 (.slice (some ⟨w.heap.size,0,none⟩) 1 1) [(34:Nat).toUInt8].length (Lib.byteCells [(34:Nat).toUInt8])):=yr W G (Nat.le_refl _);have an:Hid ((Lib.bytesWorld w1 5 (za s)).heap.size=w.heap.size+2):=F;clear D B X G W F H c T;generalize Lib.bytesWorld w1 5 (za s)=w2 at *
 go_loopw [3,10] (fun vb vi wr=>∃i:Nat,i≤s.length∧vi=.int .i64 i∧wr.ownsRow w.heap.size 5 1 vb (34::(s.take i).flatMap zV).length (Lib.byteCells (34::(s.take i).flatMap zV))∧Below w.heap.size w wr∧wr.heap[w.heap.size+1]?=w2.heap[w.heap.size+1]?) (fun _ vi _=>s.length-(intOf vi).toNat)
 case atStart=>exact ⟨0,Nat.zero_le _,rfl,ah.out,ak.out,rfl⟩
 case round =>
  obtain ⟨i,hi,rfl,y,A,Z⟩:=hrel;have x:=A.size;have HB:Hid (Below w.heap.size w wr):=A;have Y:Hid (wr.ownsRow w.heap.size 5 1 u3 (34::(s.take i).flatMap zV).length (Lib.byteCells (34::(s.take i).flatMap zV))):=y;have z:Hid (wr.heap[w.heap.size+1]?=w2.heap[w.heap.size+1]?):=Z
  have ab:(34::(s.take i).flatMap zV).length≤2*s.length+1:=by
   have h9:=xq (s.take i);rw [List.length_take] at h9;rw [List.length_cons];omega
  clear y A Z
  by_cases hlt:i<s.length
  ·have hc:wr.cell? ⟨w.heap.size+1,i,none⟩=some (.int .u8 ((s[i]).toNat:Int)):=by
    rw [World.cell?_of_block z.out];exact ai.out i hlt
   have al:(i:Int)<s.length:=by omega
   have ca:=XP w.heap.size u3 (34::(s.take i).flatMap zV) s[i] wr Y.out x (by omega) (HT.out.below HB.out (Nat.le_refl _))
   have aa:Hid ((34::(s.take i).flatMap zV)++zV s[i]=34::(s.take (i+1)).flatMap zV):=by
    show _=_
    rw [XQ s i hlt];rfl
   rw [aa.out] at ca
   have aj:Hid (some (w.heap.size+1)≠u3.ownBlock):=fun e=>by
    obtain ⟨-,⟨hv,-⟩ | ⟨g,ao,u,hv,-,hh,-⟩⟩:=Y.out
    ·rw [hv] at e;simp [Value.ownBlock] at e
    ·rw [hv] at e
     simp [Value.ownBlock] at e
     rw [←e,z.out] at hh;exact ad.out _ hh
   have hz:w.heap.size+1<wr.heap.size:=World.block_lt_of_cell? wr _ hc;obtain ⟨n,hn⟩:∃n,n=(s[i]).toNat:=⟨_,rfl⟩;rw [←hn] at hc ca;clear hn;go_wp2_with fail
   refine ca.mono ?_;clear ca;rintro e I ⟨v3,rfl,R,M,O⟩;have am:Hid (I.ownsRow w.heap.size 5 1 v3 (34::(s.take (i+1)).flatMap zV).length (Lib.byteCells (34::(s.take (i+1)).flatMap zV))):=R;have E:Hid (Below w.heap.size w I):=HB.out.trans M;have af:Hid (I.heap[w.heap.size+1]?=w2.heap[w.heap.size+1]?):=(O _ hz aj.out).trans z.out;clear R M O;go_wp2
   exact ⟨⟨i+1,by omega,by go_num,am.out,E.out,af.out⟩,by simp [intOf];omega⟩
  ·obtain rfl:i=s.length:=by omega
   have al:¬ (s.length:Int)<s.length:=by omega
   have HQ:Hid (yt s=(34::(s.take s.length).flatMap zV)++[(34:Nat).toUInt8]):=by
    show _=_
    rw [List.take_length];rfl
   obtain ⟨us,K⟩:∃us,us=34::(s.take s.length).flatMap zV:=⟨_,rfl⟩;rw [←K] at HQ Y ab;clear K
   go_wp2_with (at_builtin;refine Ze rfl _ _ rfl w.heap.size _ us rfl (Y.out.alloc _) _ [(34:Nat).toUInt8] rfl (ZR (by decide) (by simp)) (by simp;omega) (by simp;omega) ?_;intro v3 I o m;obtain ⟨b3,V,rfl,b,-,-,-⟩:=Zq o;have ae:=ZA I b3 _ V b;rw [show (us++[(34:Nat).toUInt8]).length=us.length+1 by simp] at ae ⊢)
   have E:Hid (Below w.heap.size w I):=(HB.out.alloc x _).grown m (by simp;omega) (fun q hq=>(Y.out.lt q hq).1)
   clear b o m;go_ret
   rw [HQ.out];exact ⟨rfl,E.out⟩
end Go.Proofs.YtbjndgachcdbcaaGreatDoor
