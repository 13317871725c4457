import Derived.Test.YtpejpbbdgblbeaaGreatDoorXScan
import Derived.Test.YtpejpbbdgblbeaaGreatDoorMC4
import Derived.Lib.AppendIntMem
import Derived.Test.YtpejpbbdgblbeaaGreatDoorProg
import Derived.WalkKit
import Derived.LaidEql
import Derived.Stop.Asserts
import Derived.RowKitTokens
import Derived.Below
import Derived.LoopN
import Derived.Defers
import Derived.Recover
import Derived.Tactics
import Derived.Tactics2
import Derived.Laws.Pointers
import Derived.RangeFuncRecord
namespace Go.Proofs.YtpejpbbdgblbeaaGreatDoor
open Go.RowKit Go.Shelf
set_option maxHeartbeats 16000000
set_option maxRecDepth 100000
attribute [local go_sem] Oper.semAt_some
theorem zeL (l:List UInt8) (w:World) (hl:4096<l.length) :
  Calls Tryz.prog 47 #[.string (zb l)] w fun e w'=>e=.returned (.tuple #[.slice none 0 0,.int .i64 0,.int .i64 5])∧Below w.heap.size w w':=by
 have y:(zb l).size=l.length:=rfl;have D:(4096:Int)<l.length:=by omega
 refine (callsIn_wide (n:=7)).1 ?_;refine callsIn_of_wp_marks Tryz.func47 rfl trivial ?_ rfl;simp only [Tryz.ntmps47,List.size_toArray,List.length_cons,List.length_nil,Nat.reduceAdd,Nat.reduceSub,Array.replicate_succ,Array.replicate_zero,List.push_toArray,List.append_toArray,List.nil_append,List.cons_append]
 gi_wp2
 have G:Boxed (((w.alloc (.cells #[.slice none 0 0] 58)).alloc (.cells #[.int .i64 0] 3)).alloc (.cells #[.int .i64 5] 26)) w.heap.size 58 (.slice none 0 0):=((Boxed.new w _ _).alloc _).alloc _
 have A:Boxed (((w.alloc (.cells #[.slice none 0 0] 58)).alloc (.cells #[.int .i64 0] 3)).alloc (.cells #[.int .i64 5] 26)) (w.heap.size+1) 3 (.int .i64 0):=by
  have h:=(Boxed.new (w.alloc (.cells #[.slice none 0 0] 58)) 3 (.int .i64 0)).alloc (.cells #[.int .i64 5] 26);rw [World.size_alloc] at h;exact h
 have H:Boxed (((w.alloc (.cells #[.slice none 0 0] 58)).alloc (.cells #[.int .i64 0] 3)).alloc (.cells #[.int .i64 5] 26)) (w.heap.size+1+1) 26 (.int .i64 5):=by
  have h:=Boxed.new ((w.alloc (.cells #[.slice none 0 0] 58)).alloc (.cells #[.int .i64 0] 3)) 26 (.int .i64 5);rw [World.size_alloc,World.size_alloc] at h;exact h
 have o:Below w.heap.size w (((w.alloc (.cells #[.slice none 0 0] 58)).alloc (.cells #[.int .i64 0] 3)).alloc (.cells #[.int .i64 5] 26)):=(((Below.refl _ w).alloc (Nat.le_refl _) _).alloc (by simp) _).alloc (by simp;omega) _
 have z:=G.cell;have c1:=A.cell;have c2:=H.cell;generalize ((w.alloc (.cells #[.slice none 0 0] 58)).alloc (.cells #[.int .i64 0] 3)).alloc (.cells #[.int .i64 5] 26)=W at z c1 c2 o ⊢;exact ⟨_,xW rfl _ _ _ rfl rfl rfl (by simp [go_sem,z]) (by simp [go_sem,c1]) (by simp [go_sem,c2]),rfl,o⟩
theorem zat (l:List UInt8) (w:World) (ht:yI w) :
  Calls Tryz.prog 47 #[.string (zb l)] w fun e w'=>∃(r:Value),e=.returned (.tuple #[r,.int .i64 (zW l).2.1,.int .i64 (zW l).2.2]) ∧
   w'.ownsRow w.heap.size 66 5 r (zW l).1.length (ZG (zW l).1)∧Below w.heap.size w w':=by
 by_cases h:4096<l.length
 ·refine (zeL l w h).mono ?_
  rintro e w' ⟨rfl,o⟩
  unfold zW
  rw [if_pos h];exact ⟨_,rfl,World.ownsRow_nil _ _ _ _,o⟩
 ·refine (zgh l w (by omega) ht).mono ?_
  rintro e w' y
  unfold zW
  rw [if_neg h];exact y
theorem zdv {w:World} {B e sz n:Nat} {v:Value} {xs:List Value} (h:w.ownsRow B e sz v n xs) (hn:1≤n):∃g o,v=.slice (some ⟨g,0,none⟩) n o∧B≤g∧g<w.heap.size∧n≤o∧∀j u,xs[j]?=some u→w.cell? ⟨g,j,none⟩=some u:=by
 obtain ⟨-,⟨-,H⟩ | ⟨g,o,G,rfl,z,y,A,-,-,D⟩⟩:=h
 ·omega
 ·refine ⟨g,o,rfl,z,(Array.getElem?_eq_some_iff.1 y).1,A,fun j u hj=>?_⟩
  rw [cell_of_row _ _ _ _ _ _ y];rw [←D,List.getElem?_take] at hj
  split at hj
  ·rw [Array.getElem?_toList] at hj;exact hj
  ·cases hj
def Zs (c:UInt8):List UInt8:=if c.toNat=92 then [92,92] else if c.toNat=34 then [92,34] else if c.toNat=10 then [92,110] else [c]
def yg (s:List UInt8):List UInt8:=34::(s.flatMap Zs++[34])
theorem zhH {c:UInt8} {i:Nat} (hi:i<3) (he:(qm[i]'hi)=c.toNat):Zs c=[92,(uP[i]'hi).toUInt8]:=by
 have h:i=0∨i=1∨i=2:=by omega
 unfold Zs
 rcases h with rfl | rfl | rfl
 ·rw [←he];rfl
 ·rw [←he];rfl
 ·rw [←he];rfl
theorem zgi {c:UInt8} (h:∀j (hj:j<3),(qm[j]'hj)≠c.toNat):Zs c=[c]:=by
 have z:92≠c.toNat:=h 0 (by decide)
 have y:34≠c.toNat:=h 1 (by decide)
 have o:10≠c.toNat:=h 2 (by decide)
 unfold Zs
 rw [if_neg (by omega),if_neg (by omega),if_neg (by omega)]
theorem zgj (c:UInt8):(Zs c).length≤2:=by
 unfold Zs
 split
 ·simp
 ·split
  ·simp
  ·split <;> simp
theorem zau {w:World} {g r q:Nat} (hr:r<256) (hq:q<256) (hc:w.cell? ⟨g,0,none⟩=some (.int .u8 (r:Int))) (hd:w.cell? ⟨g,1,none⟩=some (.int .u8 (q:Int))):uX w (.slice (some ⟨g,0,none⟩) 2 2) [r.toUInt8,q.toUInt8] :=
 ux rfl (by unfold maxLen;decide) (fun j u hj=>by
  match j,hj with
  | 0,hj=>simp [Lib.byteCells,Lib.toUInt8_toNat hr] at hj;subst hj;exact hc
  | 1,hj=>simp [Lib.byteCells,Lib.toUInt8_toNat hq] at hj;subst hj;exact hd)
theorem zdw (B:Nat) (v:Value) (us:List UInt8) (c:UInt8) (w:World) (hown:w.ownsRow B 5 1 v us.length (Lib.byteCells us)) (hB:B≤w.heap.size) (hl:us.length≤1000000000) (ht:yI w) :
  Calls Tryz.prog 193 #[v,.int .u8 (c.toNat:Int)] w fun e w'=>∃v',e=.returned v'∧w'.ownsRow B 5 1 v' (us++Zs c).length (Lib.byteCells (us++Zs c)) ∧
   Below B w w'∧∀k,k<w.heap.size→some k≠v.ownBlock→w'.heap[k]?=w.heap[k]?:=by
 have e0:=ht.escs 0 (by decide)
 have e1:=ht.escs 1 (by decide)
 have e2:=ht.escs 2 (by decide)
 have e3:=ht.escs 3 (by decide)
 have Z:=ht.escs 4 (by decide)
 have e5:=ht.escs 5 (by decide)
 simp only [List.getElem_cons_zero,List.getElem_cons_succ] at e0 e1 e2 e3 Z e5;clear ht;have Y:Hid (w.ownsRow B 5 1 v us.length (Lib.byteCells us)):=hown;obtain ⟨n,U⟩:∃n,n=c.toNat:=⟨_,rfl⟩;have z:n<256:=by rw [U];exact UInt8.toNat_lt c
 rw [←U];have V:Hid (n=c.toNat):=U;clear hown U
 go_enter Tryz.func193,Tryz.ntmps193
 go_wp2
 clear e0 e1 e2 e3 Z e5
 go_loopw [8] (fun x wr=>∃i:Nat,i≤3∧x=.int .i64 i∧(∀j (hj:j<3),j<i→(qm[j]'hj)≠n)∧Below w.heap.size w wr) (fun x _=>3-(intOf x).toNat)
 case atStart=>exact ⟨0,Nat.zero_le _,rfl,fun j _ h=>by omega,Below.refl _ _⟩
 case round =>
  obtain ⟨i,hi,rfl,D,A⟩:=hrel;have HA:Hid (∀j (hj:j<3),j<i→(qm[j]'hj)≠n):=D;have J:Hid (Below w.heap.size w wr):=A;have T:=A.size;have L:Hid (wr.ownsRow B 5 1 v us.length (Lib.byteCells us)):=V2 Y.out A (Nat.le_refl _);clear D A
  by_cases hlt:i<3
  ·have Q:=fun wx=>zao wx i hlt
   obtain ⟨a,O⟩:∃a,a=qm[i]'hlt:=⟨_,rfl⟩;obtain ⟨b,N⟩:∃b,b=uP[i]'hlt:=⟨_,rfl⟩
   have G:b<256:=by
    have:∀j (hj:j<3),(uP[j]'hj)<256:=by decide
    rw [N];exact this i hlt
   rw [←O,←N] at Q
   by_cases he:a=n
   ·have R:Hid (Zs c=[(92:Nat).toUInt8,b.toUInt8]):=show _=_ by rw [N];exact zhH hlt (by rw [←O,he,V.out])
    subst he;clear O N
    go_wp2_with (at_builtin;refine Y7 rfl _ _ rfl B _ us rfl ((L.out.alloc _).alloc _) _ [(92:Nat).toUInt8,b.toUInt8] rfl (zau (by decide) G (by simp) (by simp)) (by simp;omega) (by simp;omega) ?_;intro W w3 y o)
    have I:∀k,k<w.heap.size→some k≠v.ownBlock→w3.heap[k]?=w.heap[k]?:=fun k hk hne=>by
     rw [o.block k (by simp;omega) hne,Below.heap_alloc _ _ _ (by simp;omega),Below.heap_alloc _ _ _ (by omega),J.out.block k hk]
    have H:Below B w w3:=(((J.out.mono hB).alloc (by omega) _).alloc (by simp;omega) _).grown o (by simp;omega) (fun q hq=>(Y.out.lt q hq).1)
    go_ret
    refine ⟨W,rfl,?_,H,I⟩;rw [R.out];exact y
   ·have aa:((a:Int)==(n:Int))=false:=by rw [beq_eq_false_iff_ne];omega
    have R:Hid ((qm[i]'hlt)≠n):=show (qm[i]'hlt)≠n by rw [←O];exact he
    clear O N he;go_wp2
    refine ⟨⟨i+1,by omega,by go_num,fun j hj hji=>?_,J.out.alloc T _⟩,by simp [intOf];omega⟩
    by_cases h:j<i
    ·exact HA.out j hj h
    ·obtain rfl:j=i:=by omega
     exact R.out
  ·obtain rfl:i=3:=by omega
   have R:Hid (Zs c=[n.toUInt8]):=show _=_ by
    rw [zgi (fun j hj=>by rw [←V.out];exact HA.out j hj hj),V.out]
    congr 1
    exact (UInt8.toNat_inj.1 (Lib.toUInt8_toNat (by rw [←V.out];exact z))).symm
   go_wp2_with (at_builtin;refine Y7 rfl _ _ rfl B _ us rfl (L.out.alloc _) _ [n.toUInt8] rfl (XT z (by simp)) (by simp;omega) (by simp;omega) ?_;intro W w3 y o)
   have I:∀k,k<w.heap.size→some k≠v.ownBlock→w3.heap[k]?=w.heap[k]?:=fun k hk hne=>by
    rw [o.block k (by simp;omega) hne,Below.heap_alloc _ _ _ (by omega),J.out.block k hk]
   have H:Below B w w3:=((J.out.mono hB).alloc (by omega) _).grown o (by simp;omega) (fun q hq=>(Y.out.lt q hq).1)
   go_ret
   refine ⟨W,rfl,?_,H,I⟩;rw [R.out];exact y
theorem zbD (w:World) (c:Nat) (hc:c<256):(w.alloc (.cells #[.int .u8 (c:Int)] 5)).ownsRow w.heap.size 5 1 (.slice (some ⟨w.heap.size,0,none⟩) 1 1) [c.toUInt8].length (Lib.byteCells [c.toUInt8]):=by
 refine ⟨by simp [Lib.byteCells],.inr ⟨w.heap.size,1,#[.int .u8 (c:Int)],rfl,Nat.le_refl _,World.alloc_heap_new w _,Nat.le_refl _,by unfold maxLen;decide,by simp,?_⟩⟩
 simp [Lib.byteCells,Lib.toUInt8_toNat hc]
theorem zdx (s:List UInt8) (i:Nat) (h:i<s.length):(s.take (i+1)).flatMap Zs=(s.take i).flatMap Zs++Zs s[i]:=by
 rw [List.take_succ_eq_append_getElem h,List.flatMap_append]
 simp
theorem zav (s:List UInt8):(s.flatMap Zs).length≤2*s.length:=by
 induction s with
 | nil=>simp
 | cons x s ih =>
  have:=zgj x
  rw [List.flatMap_cons,List.length_append,List.length_cons];omega
theorem zbE (s:List UInt8) (w:World) (hl:s.length≤100000000) (ht:yI w) :
  Calls Tryz.prog 178 #[.string (zb s)] w fun e w'=>e=.returned (.string (zb (yg s)))∧Below w.heap.size w w':=by
 have HT:Hid (yI w):=ht;have ax:(zb s).size=s.length:=rfl;obtain ⟨w1,D⟩:∃w1,w1=w.alloc (.cells #[.int .u8 ((34:Nat):Int)] 5):=⟨_,rfl⟩;have ab:w1.heap.size=w.heap.size+1:=by rw [D];simp
 have ae:Below w.heap.size w w1:=by rw [D];exact (Below.refl _ w).alloc (Nat.le_refl _) _
 have Z:w1.ownsRow w.heap.size 5 1 (.slice (some ⟨w.heap.size,0,none⟩) 1 1) [(34:Nat).toUInt8].length (Lib.byteCells [(34:Nat).toUInt8]):=by rw [D];exact zbD w 34 (by decide)
 have N:=fun (wx:World)=>Lib.run_convert_string_bytes (P:=Tryz.prog) wx 9 120 5 (zb s) Tryz.underlying9 Tryz.underlying120 Tryz.underlying5
 have L:(Lib.bytesWorld w1 5 (zb s)).heap.size=w1.heap.size+1:=Lib.bytesWorld_size w1 5 _;have J:Below w1.heap.size w1 (Lib.bytesWorld w1 5 (zb s)):=bytesWorld_below w1 5 _
 have Q:∀j (h:j<s.length),(Lib.bytesWorld w1 5 (zb s)).cell? ⟨w1.heap.size,j,none⟩=some (.int .u8 ((s[j]).toNat:Int)):=fun j h=>by
  have h9:=Lib.bytesWorld_cell w1 5 (zb s) j h;rw [h9]
  simp [List.getD_eq_getElem?_getD,List.getElem?_eq_getElem h]
 have ag:=Lib.bytesWorld_at_new w1 5 (zb s)
 have O:∀y,(Lib.bytesWorld w1 5 (zb s)).heap[w1.heap.size]?≠some (.cells y 5 (0,0)):=fun y h=>by
  rw [ag] at h
  simp at h
 have au:=grownCap_ge w1 (zb s).size 0 5;have V:=grownCap_le_maxLen w1 (zb s).size 0 5 (by rw [Zh];unfold maxLen;omega)
 rw [Zh] at au V
 unfold maxLen at V
 rw [ab] at L Q O;clear ag ht
 go_enter Tryz.func178,Tryz.ntmps178
 go_wp2_with fail
 rw [show w.alloc (Obj.cells #[Value.int IntKind.u8 34] 5)=w1 from D.symm]
 generalize grownCap w1 s.length 0 5=cp at *;have al:Hid (∀j (h:j<s.length),(Lib.bytesWorld w1 5 (zb s)).cell? ⟨w.heap.size+1,j,none⟩=some (.int .u8 ((s[j]).toNat:Int))):=Q;have am:Hid (∀y,(Lib.bytesWorld w1 5 (zb s)).heap[w.heap.size+1]?≠some (.cells y 5 (0,0))):=O;have aj:Hid (Below w.heap.size w (Lib.bytesWorld w1 5 (zb s))):=ae.trans (J.mono (by omega))
 have ar:Hid ((Lib.bytesWorld w1 5 (zb s)).ownsRow w.heap.size 5 1 (.slice (some ⟨w.heap.size,0,none⟩) 1 1) [(34:Nat).toUInt8].length (Lib.byteCells [(34:Nat).toUInt8])):=V2 Z J (Nat.le_refl _);have ay:Hid ((Lib.bytesWorld w1 5 (zb s)).heap.size=w.heap.size+2):=L;clear Q O ae J Z L N D ab;generalize Lib.bytesWorld w1 5 (zb s)=w2 at *
 go_loopw [3,10] (fun vb vi wr=>∃i:Nat,i≤s.length∧vi=.int .i64 i∧wr.ownsRow w.heap.size 5 1 vb (34::(s.take i).flatMap Zs).length (Lib.byteCells (34::(s.take i).flatMap Zs))∧Below w.heap.size w wr∧wr.heap[w.heap.size+1]?=w2.heap[w.heap.size+1]?) (fun _ vi _=>s.length-(intOf vi).toNat)
 case atStart=>exact ⟨0,Nat.zero_le _,rfl,ar.out,aj.out,rfl⟩
 case round =>
  obtain ⟨i,hi,rfl,G,I,aa⟩:=hrel;have H:=I.size;have HB:Hid (Below w.heap.size w wr):=I;have HO:Hid (wr.ownsRow w.heap.size 5 1 u3 (34::(s.take i).flatMap Zs).length (Lib.byteCells (34::(s.take i).flatMap Zs))):=G;have T:Hid (wr.heap[w.heap.size+1]?=w2.heap[w.heap.size+1]?):=aa
  have ao:(34::(s.take i).flatMap Zs).length≤2*s.length+1:=by
   have h9:=zav (s.take i);rw [List.length_take] at h9;rw [List.length_cons];omega
  clear G I aa
  by_cases hlt:i<s.length
  ·have hc:wr.cell? ⟨w.heap.size+1,i,none⟩=some (.int .u8 ((s[i]).toNat:Int)):=by
    rw [World.cell?_of_block T.out];exact al.out i hlt
   have av:(i:Int)<s.length:=by omega
   have ca:=zdw w.heap.size u3 (34::(s.take i).flatMap Zs) s[i] wr HO.out H (by omega) (HT.out.below HB.out (Nat.le_refl _))
   have ak:Hid ((34::(s.take i).flatMap Zs)++Zs s[i]=34::(s.take (i+1)).flatMap Zs):=by
    show _=_
    rw [zdx s i hlt];rfl
   rw [ak.out] at ca
   have ap:Hid (some (w.heap.size+1)≠u3.ownBlock):=fun e=>by
    obtain ⟨-,⟨hv,-⟩ | ⟨g,aw,y,hv,-,hh,-⟩⟩:=HO.out
    ·rw [hv] at e;simp [Value.ownBlock] at e
    ·rw [hv] at e
     simp [Value.ownBlock] at e
     rw [←e,T.out] at hh;exact am.out _ hh
   have hz:w.heap.size+1<wr.heap.size:=World.block_lt_of_cell? wr _ hc;obtain ⟨n,hn⟩:∃n,n=(s[i]).toNat:=⟨_,rfl⟩;rw [←hn] at hc ca;clear hn;go_wp2_with fail
   refine ca.mono ?_;clear ca;rintro e U ⟨v3,rfl,W,ad,ah⟩;have aq:Hid (U.ownsRow w.heap.size 5 1 v3 (34::(s.take (i+1)).flatMap Zs).length (Lib.byteCells (34::(s.take (i+1)).flatMap Zs))):=W;have R:Hid (Below w.heap.size w U):=HB.out.trans ad;have an:Hid (U.heap[w.heap.size+1]?=w2.heap[w.heap.size+1]?):=(ah _ hz ap.out).trans T.out;clear W ad ah;go_wp2
   exact ⟨⟨i+1,by omega,by go_num,aq.out,R.out,an.out⟩,by simp [intOf];omega⟩
  ·obtain rfl:i=s.length:=by omega
   have av:¬ (s.length:Int)<s.length:=by omega
   have HQ:Hid (yg s=(34::(s.take s.length).flatMap Zs)++[(34:Nat).toUInt8]):=by
    show _=_
    rw [List.take_length];rfl
   obtain ⟨us,Y⟩:∃us,us=34::(s.take s.length).flatMap Zs:=⟨_,rfl⟩;rw [←Y] at HQ HO ao;clear Y
   go_wp2_with (at_builtin;refine Y7 rfl _ _ rfl w.heap.size _ us rfl (HO.out.alloc _) _ [(34:Nat).toUInt8] rfl (XT (by decide) (by simp)) (by simp;omega) (by simp;omega) ?_;intro v3 U o A;obtain ⟨b3,af,rfl,z,-,-,-⟩:=Qv o;have ai:=zak U b3 _ af z;rw [show (us++[(34:Nat).toUInt8]).length=us.length+1 by simp] at ai ⊢)
   have R:Hid (Below w.heap.size w U):=(HB.out.alloc H _).grown A (by simp;omega) (fun q hq=>(HO.out.lt q hq).1)
   clear z o A;go_ret
   rw [HQ.out];exact ⟨rfl,R.out⟩
end Go.Proofs.YtpejpbbdgblbeaaGreatDoor
namespace Go.Proofs.YtpejpbbdgblbeaaGreatDoor
open Go.RowKit Go.Extern.Stop Go.Stop Go.Extern
set_option maxHeartbeats 16000000
set_option maxRecDepth 100000
theorem zaw (t:Addr) (w:World):(ReflectliteValue.unpack (.iface 147 (.pointer (some t)))).run Tryz.prog w
  = .ok (.agg #[.pointer (some ⟨11,147,none⟩),.pointer (some ⟨w.heap.size,0,none⟩),.int .u64 150]) (w.alloc (.cells #[.pointer (some t)] 147)):=by kernel_rfl
theorem zeM (a : Addr) (w : World) : (ReflectliteValue.methodAny (ReflectliteValue.valueError "reflectlite.Value.Type" 0) (fun t _ _ _ => ReflectliteType.toType t) #[.agg #[.pointer (some ⟨11, 147, none⟩), .pointer (some a), .int .u64 150]]).run Tryz.prog w
  = .ok (.iface 196 (.agg #[.pointer (some ⟨11,147,none⟩)])) w:=by kernel_rfl
theorem qo (h : Value) (w : World) : (Go.method 387 196 (.agg #[h]) "Kind").run Tryz.prog w = .ok (242, h) w := by kernel_rfl
theorem zeN (w:World):((ReflectliteType.abiMethod fun t=>(fun a:Nat=>Value.int IntKind.u8 (a:Int)) <$> Rtype.kind t) #[.pointer (some ⟨11,147,none⟩)]).run Tryz.prog w=.ok (.int .u8 22) w:=by kernel_rfl
theorem zeO (w:World):((ReflectliteType.abiMethod fun t=>(fun a:Nat=>Value.int IntKind.u8 (a:Int)) <$> Rtype.kind t) #[.pointer (some ⟨11,145,none⟩)]).run Tryz.prog w=.ok (.int .u8 25) w:=by kernel_rfl
theorem ziA (z:Sem Value) (f:TypeId→Addr→Nat→Nat→Sem Value) (v:Value) :
  ReflectliteValue.method z f #[v]=(do match ←ReflectliteValue.parts v with | none=>z | some (t,a,fl)=>f t a fl (fl % 32)):=rfl
theorem qO (a:Addr) (w:World):(ReflectliteValue.parts (.agg #[.pointer (some ⟨11,147,none⟩),.pointer (some a),.int .u64 150])).run Tryz.prog w=.ok (some (147,a,150)) w:=by kernel_rfl
theorem zdy (a p:Addr) (W:World) (ha:W.cell? a=some (.pointer (some p))) :
  (ReflectliteValue.method (ReflectliteValue.valueError "reflectlite.Value.IsNil" 0) ReflectliteValue.isNil #[.agg #[.pointer (some ⟨11, 147, none⟩), .pointer (some a), .int .u64 150]]).run Tryz.prog W = .ok (.bool false) W := by
 rw [ziA];simp only [Sem.run_bind,qO,Result.andThen]
 simp [ReflectliteValue.isNil,loadVar,isAgg,underlying,Tryz.underlying147,ha,Result.andThen]
theorem qp (h : Value) (w : World) : (Go.method 387 196 (.agg #[h]) "Elem").run Tryz.prog w = .ok (253, .agg #[h]) w := by kernel_rfl
theorem vN (h : Value) (w : World) : (Go.method 387 196 (.agg #[h]) "Implements").run Tryz.prog w = .ok (254, .agg #[h]) w := by kernel_rfl
theorem XR (h : Value) (w : World) : (Go.method 387 196 (.agg #[h]) "AssignableTo").run Tryz.prog w = .ok (251, .agg #[h]) w := by kernel_rfl
theorem zeP (w:World):(ReflectliteType.method ReflectliteType.elem #[.agg #[.pointer (some ⟨11,147,none⟩)]]).run Tryz.prog w=.ok (.iface 196 (.agg #[.pointer (some ⟨11,145,none⟩)])) w:=by kernel_rfl
theorem Up (w : World) : (ReflectliteType.relation "Implements" ReflectliteType.implements_ #[.agg #[.pointer (some ⟨11, 145, none⟩)], .iface 196 (.agg #[.pointer (some ⟨11, 142, none⟩)])]).run Tryz.prog w = .ok (.bool true) w := by kernel_rfl
theorem zbF (v:Value) (w:World):(ReflectliteType.typeOf #[.iface 145 v]).run Tryz.prog w=.ok (.iface 196 (.agg #[.pointer (some ⟨11,145,none⟩)])) w:=by kernel_rfl
theorem Uq (w : World) : (ReflectliteType.relation "AssignableTo" ReflectliteType.assignableTo #[.agg #[.pointer (some ⟨11, 145, none⟩)], .iface 196 (.agg #[.pointer (some ⟨11, 145, none⟩)])]).run Tryz.prog w = .ok (.bool true) w := by kernel_rfl
theorem zax (a b:Value) (w:World):(ReflectliteValue.unpack (.iface 145 (.agg #[a,b]))).run Tryz.prog w
  = .ok (.agg #[.pointer (some ⟨11,145,none⟩),.pointer (some ⟨w.heap.size,0,none⟩),.int .u64 153]) (w.alloc (.cells #[a,b] 145)):=by kernel_rfl
theorem zbG (w:World):(Rtype.elem? 147).run Tryz.prog w=.ok (some 145) w:=by kernel_rfl
theorem zhI (p:Addr) (w:World):(ReflectliteValue.mk 145 p ReflectliteValue.flagAddr).run Tryz.prog w=.ok (.agg #[.pointer (some ⟨11,145,none⟩),.pointer (some p),.int .u64 409]) w:=by kernel_rfl
theorem zdz (a p:Addr) (W:World) (ha:W.cell? a=some (.pointer (some p))) :
  (ReflectliteValue.method (ReflectliteValue.valueError "reflectlite.Value.Elem" 0) ReflectliteValue.elem #[.agg #[.pointer (some ⟨11, 147, none⟩), .pointer (some a), .int .u64 150]]).run Tryz.prog W
   = .ok (.agg #[.pointer (some ⟨11,145,none⟩),.pointer (some p),.int .u64 409]) W:=by
 rw [ziA];simp only [Sem.run_bind,qO,Result.andThen]
 simp [ReflectliteValue.elem,loadVar,isAgg,underlying,Tryz.underlying147,ha,Result.andThen,zbG,zhI]
theorem zbH (a:Addr) (w:World):(ReflectliteValue.parts (.agg #[.pointer (some ⟨11,145,none⟩),.pointer (some a),.int .u64 409])).run Tryz.prog w=.ok (some (145,a,409)) w:=by kernel_rfl
theorem zdA (a:Addr) (w:World):(ReflectliteValue.parts (.agg #[.pointer (some ⟨11,145,none⟩),.pointer (some a),.int .u64 153])).run Tryz.prog w=.ok (some (145,a,153)) w:=by kernel_rfl
theorem zbI (w:World):(Rtype.directlyAssignable 145 145).run Tryz.prog w=.ok true w:=by kernel_rfl
theorem zjj (v x:Value):ReflectliteValue.set #[v,x]=(do
  let (some (dst,a,fl),some (src,b,_)):=(←ReflectliteValue.parts v,←ReflectliteValue.parts x)
   | unsupported (.noEntry "extern/(internal/reflectlite.Value).Set.zeroValue")
  if fl / ReflectliteValue.flagAddr % 2 == 0 then unsupported (.noEntry "extern/(internal/reflectlite.Value).Set.unaddressable")
  let val ←loadVar src b
  if ←Rtype.directlyAssignable dst src then storeVar dst a val
  else if ←Rtype.implements dst src then
   if (←Rtype.kind src)==20 then
    match val with
    | .nilIface => unsupported (.noEntry "extern/reflectlite: a nil value of one interface type handed on as a value of another")
    | _=>storeVar dst a val
   else storeVar dst a (.iface src val)
  else panicString ("reflectlite.Set: value of type " ++ (← Rtype.spelt src) ++ " is not assignable to type " ++ (← Rtype.spelt dst))
  pure (.tuple #[])):=rfl
theorem zgk (g h:Nat) (x y:Int) (o0 o1:Value) (W:World) (hx:W.cell? ⟨h,0,none⟩=some (.int .i64 x)) (hy:W.cell? ⟨h,1,none⟩=some (.int .i64 y)) (h0:W.cell? ⟨g,0,none⟩=some o0) (h1:W.cell? ⟨g,1,none⟩=some o1) (f0:W.frozen? ⟨g,0,none⟩=false) (f1:W.frozen? ⟨g,1,none⟩=false) :
  (ReflectliteValue.set #[.agg #[.pointer (some ⟨11,145,none⟩),.pointer (some ⟨g,0,none⟩),.int .u64 409],.agg #[.pointer (some ⟨11,145,none⟩),.pointer (some ⟨h,0,none⟩),.int .u64 153]]).run Tryz.prog W
   = .ok (.tuple #[]) ((W.setCell ⟨g,0,none⟩ (.int .i64 x)).setCell ⟨g,1,none⟩ (.int .i64 y)):=by
 have z:(loadCells ⟨h,0,none⟩ 2).run Tryz.prog W=.ok #[.int .i64 x,.int .i64 y] W:=by
  have e:=run_loadCells_list (P:=Tryz.prog) W ⟨h,0,none⟩ [.int .i64 x,.int .i64 y] (fun j v hj=>by
   match j,hj with
   | 0,hj=>simp at hj;subst hj;simpa [Addr.add] using hx
   | 1,hj=>simp at hj;subst hj;simpa [Addr.add] using hy)
  exact e
 rw [zjj];simp only [Sem.run_bind,zbH,zdA,Result.andThen]
 simp [ReflectliteValue.flagAddr,loadVar,z,Result.andThen,zbI,storeVar,Value.cells,storeCells,Addr.add]
 rw [run_store Tryz.prog W ⟨g,0,none⟩ _ _ (by rfl)]
 simp [h0,f0]
 have o:(W.setCell ⟨g,0,none⟩ (.int .i64 x)).cell? ⟨g,1,none⟩=some o1:=by
  rw [World.cell?_setCell_other W _ _ _ (by simp)];exact h1
 rw [run_store Tryz.prog (W.setCell ⟨g,0,none⟩ (.int .i64 x)) ⟨g,1,none⟩ _ _ (by rfl)]
 simp [o,f1]
theorem zeQ (why at0:Int) (g:Nat) (o0 o1:Value) (w:World) (hg:w.cell? ⟨0,0,none⟩=some (.iface 196 (.agg #[.pointer (some ⟨11,142,none⟩)]))) (ht0:w.cell? ⟨g,0,none⟩=some o0) (ht1:w.cell? ⟨g,1,none⟩=some o1) (hf0:w.frozen? ⟨g,0,none⟩=false) (hf1:w.frozen? ⟨g,1,none⟩=false) :
  Calls Tryz.prog 91 #[.iface 145 (.agg #[.int .i64 why,.int .i64 at0]),.iface 147 (.pointer (some ⟨g,0,none⟩))] w fun ev w'=>ev=.returned (.bool true)∧w'=((((((w.alloc (.cells #[.pointer (some ⟨g,0,none⟩)] 147)).alloc (.cells #[.pointer (some ⟨11,147,none⟩),.pointer (some ⟨w.heap.size,0,none⟩),.int .u64 150] 177)).alloc (.cells #[.pointer (some ⟨11,147,none⟩),.pointer (some ⟨w.heap.size,0,none⟩),.int .u64 150] 177)).alloc (.cells #[.int .i64 why,.int .i64 at0] 145)).setCell ⟨g,0,none⟩ (.int .i64 why)).setCell ⟨g,1,none⟩ (.int .i64 at0)):=by
 have Z:=@run_callFunc_extern Tryz.prog 131 _ (fun args=>ReflectliteValue.unpack (args.getD 0 (.tuple #[]))) Tryz.func131 (by kernel_rfl) (by kernel_rfl) (by kernel_rfl) (by kernel_rfl)
 have h7 := @run_callFunc_extern Tryz.prog 132 _ (ReflectliteValue.methodAny (ReflectliteValue.valueError "reflectlite.Value.Type" 0) (fun t _ _ _ => ReflectliteType.toType t)) Tryz.func132 (by kernel_rfl) (by kernel_rfl) (by kernel_rfl) (by kernel_rfl)
 have h8 := @run_callFunc_extern Tryz.prog 133 _ (ReflectliteValue.method (ReflectliteValue.valueError "reflectlite.Value.IsNil" 0) ReflectliteValue.isNil) Tryz.func133 (by kernel_rfl) (by kernel_rfl) (by kernel_rfl) (by kernel_rfl)
 have O:=@run_callFunc_extern Tryz.prog 242 _ (ReflectliteType.abiMethod fun t=>do pure (.int .u8 (←Rtype.kind t))) Tryz.func242 (by kernel_rfl) (by kernel_rfl) (by kernel_rfl) (by kernel_rfl)
 have D:=@run_callFunc_extern Tryz.prog 253 _ (ReflectliteType.method ReflectliteType.elem) Tryz.func253 (by kernel_rfl) (by kernel_rfl) (by kernel_rfl) (by kernel_rfl)
 have H := @run_callFunc_extern Tryz.prog 254 _ (ReflectliteType.relation "Implements" ReflectliteType.implements_) Tryz.func254 (by kernel_rfl) (by kernel_rfl) (by kernel_rfl) (by kernel_rfl)
 have N:=@run_callFunc_extern Tryz.prog 161 _ ReflectliteType.typeOf Tryz.func161 (by kernel_rfl) (by kernel_rfl) (by kernel_rfl) (by kernel_rfl)
 have V := @run_callFunc_extern Tryz.prog 251 _ (ReflectliteType.relation "AssignableTo" ReflectliteType.assignableTo) Tryz.func251 (by kernel_rfl) (by kernel_rfl) (by kernel_rfl) (by kernel_rfl)
 have I := @run_callFunc_extern Tryz.prog 162 _ (ReflectliteValue.method (ReflectliteValue.valueError "reflectlite.Value.Elem" 0) ReflectliteValue.elem) Tryz.func162 (by kernel_rfl) (by kernel_rfl) (by kernel_rfl) (by kernel_rfl)
 have J:=@run_callFunc_extern Tryz.prog 163 _ ReflectliteValue.set Tryz.func163 (by kernel_rfl) (by kernel_rfl) (by kernel_rfl) (by kernel_rfl)
 have tO:=zbF;have mA:=XR;have W:=Uq;have L:=zax;have f6:=zaw;have f7:=zeM;have mK:=qo;have mE:=qp;have mI:=vN;have U:=zeN;have R:=zeO;have G:=zeP;have Q:=Up;have n8:=zdy ⟨w.heap.size,0,none⟩ ⟨g,0,none⟩ ((w.alloc (.cells #[.pointer (some ⟨g,0,none⟩)] 147)).alloc (.cells #[.pointer (some ⟨11,147,none⟩),.pointer (some ⟨w.heap.size,0,none⟩),.int .u64 150] 177)) (by simp)
 have y:0<w.heap.size:=World.block_lt_of_cell? w _ hg
 have T:((w.alloc (.cells #[.pointer (some ⟨g,0,none⟩)] 147)).alloc (.cells #[.pointer (some ⟨11,147,none⟩),.pointer (some ⟨w.heap.size,0,none⟩),.int .u64 150] 177)).cell? ⟨0,0,none⟩=some (.iface 196 (.agg #[.pointer (some ⟨11,142,none⟩)])):=by
  rw [World.cell?_alloc_lt _ _ ⟨0,0,none⟩ (by simp <;> omega),World.cell?_alloc_lt _ _ ⟨0,0,none⟩ y];exact hg
 have o:g<w.heap.size:=World.block_lt_of_cell? w _ ht0;have el:=zdz ⟨w.heap.size,0,none⟩ ⟨g,0,none⟩ (((w.alloc (.cells #[.pointer (some ⟨g,0,none⟩)] 147)).alloc (.cells #[.pointer (some ⟨11,147,none⟩),.pointer (some ⟨w.heap.size,0,none⟩),.int .u64 150] 177)).alloc (.cells #[.pointer (some ⟨11,147,none⟩),.pointer (some ⟨w.heap.size,0,none⟩),.int .u64 150] 177)) (by rw [World.cell?_alloc_lt _ _ ⟨w.heap.size,0,none⟩ (by simp;omega)];simp)
 have z:∀j v,w.cell? ⟨g,j,none⟩=some v→((((w.alloc (.cells #[.pointer (some ⟨g,0,none⟩)] 147)).alloc (.cells #[.pointer (some ⟨11,147,none⟩),.pointer (some ⟨w.heap.size,0,none⟩),.int .u64 150] 177)).alloc (.cells #[.pointer (some ⟨11,147,none⟩),.pointer (some ⟨w.heap.size,0,none⟩),.int .u64 150] 177)).alloc (.cells #[.int .i64 why,.int .i64 at0] 145)).cell? ⟨g,j,none⟩=some v:=fun j v h=>by
  rw [World.cell?_alloc_lt _ _ ⟨g,j,none⟩ (by simp;omega),World.cell?_alloc_lt _ _ ⟨g,j,none⟩ (by simp;omega),World.cell?_alloc_lt _ _ ⟨g,j,none⟩ (by simp;omega),World.cell?_alloc_lt _ _ ⟨g,j,none⟩ o];exact h
 have A:∀j,w.frozen? ⟨g,j,none⟩=false→((((w.alloc (.cells #[.pointer (some ⟨g,0,none⟩)] 147)).alloc (.cells #[.pointer (some ⟨11,147,none⟩),.pointer (some ⟨w.heap.size,0,none⟩),.int .u64 150] 177)).alloc (.cells #[.pointer (some ⟨11,147,none⟩),.pointer (some ⟨w.heap.size,0,none⟩),.int .u64 150] 177)).alloc (.cells #[.int .i64 why,.int .i64 at0] 145)).frozen? ⟨g,j,none⟩=false:=fun j h=>by
  rw [World.frozen?_alloc_old _ _ ⟨g,j,none⟩ (by simp;omega),World.frozen?_alloc_old _ _ ⟨g,j,none⟩ (by simp;omega),World.frozen?_alloc_old _ _ ⟨g,j,none⟩ (by simp;omega),World.frozen?_alloc_old _ _ ⟨g,j,none⟩ (Nat.ne_of_lt o)];exact h
 have Y:=zgk g (w.heap.size+1+1+1) why at0 o0 o1 ((((w.alloc (.cells #[.pointer (some ⟨g,0,none⟩)] 147)).alloc (.cells #[.pointer (some ⟨11,147,none⟩),.pointer (some ⟨w.heap.size,0,none⟩),.int .u64 150] 177)).alloc (.cells #[.pointer (some ⟨11,147,none⟩),.pointer (some ⟨w.heap.size,0,none⟩),.int .u64 150] 177)).alloc (.cells #[.int .i64 why,.int .i64 at0] 145))
  (by rw [World.cell?_alloc_at _ _ _ _ (by simp)];rfl) (by rw [World.cell?_alloc_at _ _ _ _ (by simp)];rfl) (z 0 o0 ht0) (z 1 o1 ht1) (A 0 hf0) (A 1 hf1)
 clear z A
 go_enter Tryz.func91,Tryz.ntmps91
 go_wp2
 refine wp_loop_rounds 1 ?_;rw [rounds_succ];go_wp2
 go_ret
 exact ⟨rfl,rfl⟩
theorem QD (v:Value) (w:World):(Instr.typeAssert (.iface 145 v) 20 142 true).run Tryz.prog w=.ok (.tuple #[.iface 145 v,.bool true]) w:=by kernel_rfl
theorem zbJ (w:World):(Instr.typeAssert .nilIface 20 142 true).run Tryz.prog w=.ok (.tuple #[.nilIface,.bool false]) w:=by kernel_rfl
def xp (w:World):Prop:=w.cell? ⟨0,0,none⟩=some (.iface 196 (.agg #[.pointer (some ⟨11,142,none⟩)]))
theorem zbK (p q:Addr) (w:World) :
  CallsD Tryz.prog 90 #[.pointer (some p),.pointer (some q)] .returning w fun e u' w'=>e=.returned (.tuple #[])∧u'=.returning∧w'=w:=by
 have h:=zbJ;refine callsD_of_wpS Tryz.func90 rfl fun c₀ cs hu=>?_
 simp only [Tryz.ntmps90,List.size_toArray,List.length_cons,List.length_nil,Nat.reduceAdd,Nat.reduceSub,Array.replicate_succ,Array.replicate_zero,List.push_toArray,List.append_toArray,List.nil_append,List.cons_append]
 apply wpS_seq
 apply wpS_region
 simp [wpOpsS,go_sem,recoverD,hu,Exit.thenS,h]
 apply wpS_seq
 apply wpS_region
 simp [wpOpsS,go_sem,Exit.thenS]
 refine wpS_cond (t:=false) (by simp [Act.eval]) ?_
 simp only [Bool.false_eq_true,if_false];refine wpS_of_wp (wp_skip ?_);cases c₀
 simp_all [bodyPostS,results,Tryz.results90]
theorem zay (N:Nat) (why at0 x y:Int) (older:List PanicEntry) (w:World) (h0:w.heap[N]?=some (.cells #[.int .i64 x] 3 (0,0))) (h1:w.heap[N+1]?=some (.cells #[.int .i64 y] 26 (0,0))) (hg:xp w) :
  CallsD Tryz.prog 90 #[.pointer (some ⟨N,0,none⟩),.pointer (some ⟨N+1,0,none⟩)] (.panicking ({ v:=.iface 145 (.agg #[.int .i64 why,.int .i64 at0]),recovered:=false }::older)) w fun e u' w' =>
   e=.returned (.tuple #[])∧u'=.panicking ({ v:=.iface 145 (.agg #[.int .i64 why,.int .i64 at0]),recovered:=true }::older)∧w'.cell? ⟨N,0,none⟩=some (.int .i64 at0)∧w'.cell? ⟨N+1,0,none⟩=some (.int .i64 why)∧Below N w w':=by
 have W:=QD;refine callsD_of_wpS Tryz.func90 rfl fun c₀ cs hu=>?_
 simp only [Tryz.ntmps90,List.size_toArray,List.length_cons,List.length_nil,Nat.reduceAdd,Nat.reduceSub,Array.replicate_succ,Array.replicate_zero,List.push_toArray,List.append_toArray,List.nil_append,List.cons_append]
 apply wpS_seq
 apply wpS_region
 simp [wpOpsS,go_sem,recoverD,hu,Exit.thenS,W]
 apply wpS_seq
 apply wpS_region
 simp [wpOpsS,go_sem,Exit.thenS]
 refine wpS_cond (t:=true) (by simp [Act.eval]) ?_
 simp only [if_true];refine wpS_of_wp ?_;have U:N+1<w.heap.size:=(Array.getElem?_eq_some_iff.1 h1).1;obtain ⟨w1,A⟩:∃w1,w1=w.alloc (.cells #[.int .i64 0,.int .i64 0] 145):=⟨_,rfl⟩;have ab:w1.heap.size=w.heap.size+1:=by rw [A];simp
 have o:w1.heap[w.heap.size]?=some (.cells #[.int .i64 0,.int .i64 0] 145 (0,0)):=by rw [A];exact World.alloc_heap_new w _
 have G:∀k,k<w.heap.size→w1.heap[k]?=w.heap[k]?:=fun k hk=>by rw [A];exact Below.heap_alloc w _ k hk
 have I:xp w1:=by
  unfold xp at hg ⊢
  have hl:=World.block_lt_of_cell? w _ hg;rw [World.cell?_of_block (G _ hl)];exact hg
 have Q:=zeQ why at0 w.heap.size (.int .i64 0) (.int .i64 0) w1 I (by simp [World.cell?,o]) (by simp [World.cell?,o]) (by simp [World.frozen?,o]) (by simp [World.frozen?,o])
 rw [A] at Q;go_wp2_with fail
 refine Q.mono ?_;clear Q;rw [←A];rintro e w2 ⟨rfl,D⟩
 have z:∀k,k<w.heap.size→w2.heap[k]?=w.heap[k]?:=fun k hk=>by
  rw [D,Below.heap_setCell _ _ _ _ (by simp;omega),Below.heap_setCell _ _ _ _ (by simp;omega),Below.heap_alloc _ _ _ (by simp;omega),Below.heap_alloc _ _ _ (by simp;omega),Below.heap_alloc _ _ _ (by simp;omega),Below.heap_alloc _ _ _ (by omega),G k hk]
 have O:∀j v,w1.cell? ⟨w.heap.size,j,none⟩=some v→∀o1 o2 o3 o4,((((w1.alloc o1).alloc o2).alloc o3).alloc o4).cell? ⟨w.heap.size,j,none⟩=some v:=fun j v h o1 o2 o3 o4=>by
  rw [World.cell?_alloc_lt _ _ ⟨w.heap.size,j,none⟩ (by simp;omega),World.cell?_alloc_lt _ _ ⟨w.heap.size,j,none⟩ (by simp;omega),World.cell?_alloc_lt _ _ ⟨w.heap.size,j,none⟩ (by simp;omega),World.cell?_alloc_lt _ _ ⟨w.heap.size,j,none⟩ (by simp;omega)];exact h
 have Z:w1.cell? ⟨w.heap.size,0,none⟩=some (.int .i64 0):=by simp [World.cell?,o]
 have c1:w1.cell? ⟨w.heap.size,1,none⟩=some (.int .i64 0):=by simp [World.cell?,o]
 have d0:w2.cell? ⟨w.heap.size,0,none⟩=some (.int .i64 why):=by
  rw [D,World.cell?_setCell_other _ _ _ _ (by simp),World.cell?_setCell_same _ _ _ (O 0 _ Z _ _ _ _)]
 have d1:w2.cell? ⟨w.heap.size,1,none⟩=some (.int .i64 at0):=by
  rw [D];refine World.cell?_setCell_same _ _ _ (u:=.int .i64 0) ?_;rw [World.cell?_setCell_other _ _ _ _ (by simp)]
  exact O 1 _ c1 _ _ _ _
 have Y:w.heap.size≤w2.heap.size:=by rw [D];simp;omega
 have V:w2.heap[N]?=some (.cells #[.int .i64 x] 3 (0,0)):=(z N (by omega)).trans h0
 have R:w2.heap[N+1]?=some (.cells #[.int .i64 y] 26 (0,0)):=(z (N+1) U).trans h1
 have H:Below N w w2:=by
  rw [D,A];exact (((((((Below.refl N w).alloc (by omega) _).alloc (by simp;omega) _).alloc (by simp;omega) _).alloc (by simp;omega) _).alloc (by simp;omega) _).setCell (p:=⟨w.heap.size,0,none⟩) (by simp;omega) _).setCell (p:=⟨w.heap.size,1,none⟩) (by simp;omega) _
 have L:Hid (Below N w w2):=H;have k0:w2.cell? ⟨N,0,none⟩=some (.int .i64 x):=by simp [World.cell?,V]
 have k1:w2.cell? ⟨N+1,0,none⟩=some (.int .i64 y):=by simp [World.cell?,R]
 have ad:w2.frozen? ⟨N,0,none⟩=false:=by simp [World.frozen?,V]
 have aa:w2.frozen? ⟨N+1,0,none⟩=false:=by simp [World.frozen?,R]
 have T:∀v,(w2.setCell ⟨N,0,none⟩ v).cell? ⟨N+1,0,none⟩=some (.int .i64 y):=fun v=>(World.cell?_setCell_other _ _ _ _ (by simp)).trans k1
 clear D z O Z c1 V R H o G I A;go_wp2
 have J:Below N w ((w2.setCell ⟨N,0,none⟩ (.int .i64 at0)).setCell ⟨N+1,0,none⟩ (.int .i64 why)):=(L.out.setCell (p:=⟨N,0,none⟩) (by simp) _).setCell (p:=⟨N+1,0,none⟩) (by simp) _
 have e0:((w2.setCell ⟨N,0,none⟩ (.int .i64 at0)).setCell ⟨N+1,0,none⟩ (.int .i64 why)).cell? ⟨N,0,none⟩=some (.int .i64 at0):=by
  rw [World.cell?_setCell_other _ _ _ _ (by simp),World.cell?_setCell_same _ _ _ k0]
 have e1:((w2.setCell ⟨N,0,none⟩ (.int .i64 at0)).setCell ⟨N+1,0,none⟩ (.int .i64 why)).cell? ⟨N+1,0,none⟩=some (.int .i64 why):=World.cell?_setCell_same _ _ _ (T _)
 simp [bodyPostS,results,Tryz.results90]
 exact ⟨e0,e1,J⟩
abbrev QE (why at0:Int):Value:=.iface 145 (.agg #[.int .i64 why,.int .i64 at0])
abbrev zgl (w:World):World:=(w.alloc (.cells #[.int .i64 0] 3)).alloc (.cells #[.int .i64 0] 26)
end Go.Proofs.YtpejpbbdgblbeaaGreatDoor
namespace Go.Proofs.YtpejpbbdgblbeaaGreatDoor
open Go.RowKit Go.Shelf
set_option maxHeartbeats 16000000
set_option maxRecDepth 100000
abbrev uA (t:Tk):Value:=.agg #[.int .i64 t.k,.string (zb t.s),.int .i64 t.n,.int .i64 t.line,.int .i64 t.at0]
abbrev ZK (t:Tk):Obj:=.cells #[.int .i64 t.k,.string (zb t.s),.int .i64 t.n,.int .i64 t.line,.int .i64 t.at0] 66
structure zg (r g o cap:Nat) (ts:List Tk) (w:World):Prop where
 cell:w.cell? ⟨r,0,none⟩=some (.slice (some ⟨g,o,none⟩) ts.length cap)
 soft:w.frozen? ⟨r,0,none⟩=false
 hcap:ts.length≤cap
 hmax:cap≤maxLen
 other:r≠g
 toks:∀j u,(ZG ts)[j]?=some u→w.cell? ⟨g,o+j,none⟩=some u
 few:ts.length≤1099511627776
theorem zl {w:World} {p:Addr} {v:Value} (h:w.cell? p=some v) (ob:Obj):(w.alloc ob).cell? p=some v:=by
 rw [World.cell?_alloc_lt _ _ p (World.block_lt_of_cell? w _ h)];exact h
theorem zeR (a b c d e:Value) (w:World):(Instr.field 66 (.agg #[a,b,c,d,e]) 4).run Tryz.prog w=.ok e w:=by kernel_rfl
theorem Va (a b c d e:Value) (w:World):(Instr.field 66 (.agg #[a,b,c,d,e]) 0).run Tryz.prog w=.ok a w:=by kernel_rfl
theorem zbL (a b c d e:Value) (w:World):(Instr.field 66 (.agg #[a,b,c,d,e]) 1).run Tryz.prog w=.ok b w:=by kernel_rfl
theorem Xv (a b c d e:Value) (w:World):(Instr.field 66 (.agg #[a,b,c,d,e]) 3).run Tryz.prog w=.ok d w:=by kernel_rfl
theorem yh (r g o cap:Nat) (t:Tk) (ts:List Tk) (w:World) (h:zg r g o cap (t::ts) w) :
  Calls Tryz.prog 51 #[.pointer (some ⟨r,0,none⟩)] w fun e w'=>e=.returned (uA t)∧w'=w.alloc (ZK t):=by
 have y:=h.cell;have T:=h.hmax;have L:=h.hcap;have z:=h.toks 0 (.int .i64 t.k) (by simp [ZG])
 have G:=h.toks 1 (.string (zb t.s)) (by simp [ZG])
 have A:=h.toks 2 (.int .i64 t.n) (by simp [ZG])
 have D:=h.toks 3 (.int .i64 t.line) (by simp [ZG])
 have H:=h.toks 4 (.int .i64 t.at0) (by simp [ZG])
 clear h;simp only [List.length_cons,Nat.add_zero] at y L z;have I:=zl y;have R:=zl z;have J:=zl G;have O:=zl A;have N:=zl D;have Q:=zl H;clear y z G A D H
 go_enter Tryz.func51,Tryz.ntmps51
 go_wp2
 simp [bodyPost,results,Tryz.results51,go_sem]
theorem Vb (r g o cap:Nat) (t:Tk) (ts:List Tk) (w:World) (h:zg r g o cap (t::ts) w) (hne:ts≠[]) :
  Calls Tryz.prog 93 #[.pointer (some ⟨r,0,none⟩)] w fun e w'=>e=.returned (.tuple #[])∧w'=w.setCell ⟨r,0,none⟩ (.slice (some ⟨g,o+5,none⟩) ts.length (cap-1)):=by
 have y:=h.cell;have D:=h.hmax;have z:=h.hcap;have A:=h.soft;clear h;simp only [List.length_cons] at y z
 go_enter Tryz.func93,Tryz.ntmps93
 go_wp2
 ·exfalso
  have:=List.length_pos_iff.2 hne
  omega
 ·simp [bodyPost,results,Tryz.results93]
theorem zg.keep {r g o cap:Nat} {ts:List Tk} {w w':World} (h:zg r g o cap ts w) (hr:w'.heap[r]?=w.heap[r]?) (hg:w'.heap[g]?=w.heap[g]?):zg r g o cap ts w' where
 cell:=by rw [World.cell?_of_block hr];exact h.cell
 soft:=by have:=h.soft;simp only [World.frozen?,hr] at this ⊢;exact this
 hcap:=h.hcap
 hmax:=h.hmax
 other:=h.other
 toks:=fun j u hj=>by rw [World.cell?_of_block hg];exact h.toks j u hj
 few:=h.few
theorem zg.next {r g o cap:Nat} {t:Tk} {ts:List Tk} {w:World} (h:zg r g o cap (t::ts) w):zg r g (o+5) (cap-1) ts (w.setCell ⟨r,0,none⟩ (.slice (some ⟨g,o+5,none⟩) ts.length (cap-1))) where
 cell:=World.cell?_setCell_same _ _ _ h.cell
 soft:=by rw [World.frozen?_setCell];exact h.soft
 hcap:=by have:=h.hcap;simp only [List.length_cons] at this;omega
 hmax:=by have:=h.hmax;omega
 other:=h.other
 toks:=fun j u hj=>by
  rw [World.cell?_setCell_other _ _ _ _ (by simp)]
  have:=h.toks (5+j) u (by simpa [ZG,List.getElem?_append,Nat.add_comm] using hj)
  rw [show o+5+j=o+(5+j) by omega];exact this
 few:=by have:=h.few;simp only [List.length_cons] at this;omega
theorem Ur (r g o cap:Nat) (t:Tk) (ts:List Tk) (w:World) (h:zg r g o cap (t::ts) w) :
  Calls Tryz.prog 55 #[.pointer (some ⟨r,0,none⟩)] w fun e w'=>e=.panicked [{ v:=QE 6 t.at0,recovered:=false }]∧w'=w.alloc (ZK t):=by
 have y:=yh r g o cap t ts w h;have A:=zeR;have z:∀(v:Value) (w:World),(Instr.panic (.iface 145 v)).run Tryz.prog w=.halt (.panic (.iface 145 v)) w:=fun _ _=>rfl
 clear h
 go_enter Tryz.func55,Tryz.ntmps55
 go_wp2_with fail
 refine y.mono ?_;rintro e w' ⟨rfl,rfl⟩;simp only [uA];go_wp2
 exact ⟨rfl,rfl,rfl⟩
def zm (t:Tk) (s:List UInt8):Bool:=(t.k==4||t.k==5)&&t.s==s
theorem zgm (r g o cap:Nat) (t:Tk) (ts:List Tk) (s:List UInt8) (w:World) (h:zg r g o cap (t::ts) w) :
  Calls Tryz.prog 92 #[.pointer (some ⟨r,0,none⟩),.string (zb s)] w fun e w'=>e=.returned (.bool (zm t s))∧w'=(w.alloc (ZK t)).alloc (ZK t):=by
 have z:=yh r g o cap t ts w h;clear h
 go_enter Tryz.func92,Tryz.ntmps92
 go_wp2_with fail
 refine z.mono ?_;clear z;rintro e w' ⟨rfl,rfl⟩;simp only [uA];go_wp2
 all_goals simp_all [bodyPost,results,Tryz.results92,zm]
 ·rename_i h
  have y:t.k=4:=by omega
  exact ⟨fun _=>.inl y,by simp [ZK,y]⟩
 ·rename_i h
  have y:t.k=5:=by omega
  exact ⟨fun _=>.inr y,by simp [ZK,y]⟩
 ·intro A;omega
end Go.Proofs.YtpejpbbdgblbeaaGreatDoor
