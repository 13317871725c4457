import Derived.Test.YtbjndgachcdbcaaGreatDoorHWrite3
import Derived.Test.YtbjndgachcdbcaaGreatDoorPBase
import Derived.Laws.OwnMore
namespace Go.Proofs.YtbjndgachcdbcaaGreatDoor
open Go.RowKit Go.Shelf
set_option maxHeartbeats 16000000
set_option maxRecDepth 100000
theorem XJ:YI 2:=YU 2 (uq 1 (by omega) (YU 1 (uq 0 (by omega) (YU 0 vA))))
theorem vC (w:World) (v:Vl) (B:Nat) (hB:w.heap.size<B):zk (fun k=>k<B) (w.alloc (.cells #[.int .i64 v.k,.int .i64 v.n,.string (za v.s)] 56)) (.slice (some ⟨w.heap.size,0,none⟩) 1 1) [v]:=by
 refine ⟨_,1,rfl,by simp,by unfold maxLen;omega,.inr ⟨w.heap.size,0,rfl,hB,by simp,fun j u hj=>?_⟩⟩
 have b:=yX w [.int .i64 v.k,.int .i64 v.n,.string (za v.s)] 56 j u (by rw [Vf] at hj;exact hj)
 by_cases h0:j=0
 ·subst h0;simpa [Addr.add] using b
 ·simpa [Addr.add,h0] using b
theorem YV {B n cap:Nat} {w:World} {b:Option Addr} {bs:List UInt8} (h:zg B w (.slice b n cap) bs) (m:Nat) (hm:m≤bs.length):zg B w (.slice b m cap) (bs.take m):=by
 have o:(bs.take m).length=m:=by rw [List.length_take];omega
 refine ⟨by rw [Lib.byteCells_length,Nat.mul_one],?_⟩
 rw [o];rcases h.2 with ⟨q,u⟩ | ⟨g,y,c,q,u,A,F,D,E,z⟩
 ·simp only [Value.slice.injEq] at q
  obtain ⟨rfl,rfl,rfl⟩:=q
  left
  have:m=0:=by omega
  subst this;exact ⟨rfl,rfl⟩
 ·simp only [Value.slice.injEq] at q
  obtain ⟨rfl,rfl,rfl⟩:=q;refine .inr ⟨g,cap,c,rfl,u,A,by omega,D,E,?_⟩
  have e:c.toList.take (m*1)=(c.toList.take (bs.length*1)).take (m*1):=by rw [List.take_take,Nat.min_eq_left (by omega)]
  rw [e,z]
  unfold Lib.byteCells
  rw [List.map_take,Nat.mul_one]
theorem XK {S:Nat→Prop} {most:Nat} {os:List Ob} {h:Nat} {vo vc:Value} (v:Vl) (w:World) (H:zs S w most os h vo vc) (hv:zr v) (ht:zJ w) :
  Calls Tryz.prog 37 #[.pointer (some ⟨h,0,none⟩),Uc v] w fun e w'=>e=.returned (.string (za (Za os v)))∧Below w.heap.size w w':=by
 have ax:=H.lt;obtain ⟨w1,z⟩:∃w1,w1=w.alloc (.cells #[.int .i64 v.k,.int .i64 v.n,.string (za v.s)] 56):=⟨_,rfl⟩;have au:w1.heap.size=w.heap.size+1:=by rw [z];simp
 have B:Below w.heap.size w w1:=by rw [z];exact (Below.refl _ _).alloc (Nat.le_refl _) _
 have E:w1.heap[w.heap.size]?=some (.cells #[.int .i64 v.k,.int .i64 v.n,.string (za v.s)] 56 (0,0)):=by rw [z];exact World.alloc_heap_new _ _
 obtain ⟨p0,p1,p2,-⟩:=zt E;have Y:=H.below B
 have HC:Hid (∀wx,Below w1.heap.size w1 wx→Calls Tryz.prog 47 #[.pointer (some ⟨h,0,none⟩)] wx fun e w''=>e=.returned (.bool true)∧Below w1.heap.size w1 w''):=fun wx hx =>
  (Yp wx (Y.below hx)).mono fun e w'' ⟨he,K⟩=>⟨he,K ▸ hx⟩
 have O:Hid (∀wx,Below w1.heap.size w1 wx→Calls Tryz.prog 15 #[Uc v,.int .i64 (os.length:Int)] wx fun e w''=>e=.returned (.int .i64 (zI (rightV v os.length)))∧Below w1.heap.size w1 w''):=fun wx hx =>
  (yj v os.length wx hv ((ht.below B (Nat.le_refl _)).below hx (Nat.le_refl _))).mono fun e w'' ⟨he,K⟩=>⟨he,hx.trans (K.mono hx.size)⟩
 obtain ⟨-,-,c2,-,-⟩:=Zy Y.blk;obtain ⟨ob,oc,ao,aA,ay⟩:=zT Y.objs;subst ao;have x0:=Zh (n:=w1.heap.size) p0 (by simp only;omega)
 have x1:=Zh (n:=w1.heap.size) p1 (by simp only;omega)
 have x2:=Zh (n:=w1.heap.size) p2 (by simp only;omega)
 have x3:=Zh (n:=w1.heap.size) c2 (by simp only;omega)
 have aa:Hid (Below w.heap.size w w1):=B;have HH:Hid (zs S w most os h (.slice ob os.length oc) vc):=H;have HT:Hid (zJ w):=ht;have HV:Hid (zr v):=hv;have aC:Hid (w1.heap[w.heap.size]?=some (.cells #[.int .i64 v.k,.int .i64 v.n,.string (za v.s)] 56 (0,0))):=E;have F:=z.symm;have y:Hid (Za os v=if rightV v os.length=true then (if 200<(zy os 2 v).length then (zy os 2 v).take 197++z8 else zy os 2 v) else []):=rfl
 have ab:Hid ((zy os 2 v).length≤Zj 2):=yN (fun o ho=>(H.ok o ho).2) 2 v hv
 obtain ⟨SB,I⟩:∃SB,SB=Za os v:=⟨_,rfl⟩;rw [←I] at y ⊢;cases hr:rightV v os.length with
 | false =>
  rw [hr] at O y;rw [show zI false=2 from rfl] at O
  obtain ⟨k,m,s⟩:=v;simp only at p0 p1 p2 x0 x1 x2 F;clear z E H Y ht B hr I hv
  go_enter Tryz.func37,Tryz.ntmps37
  go_wp2_with fail
  refine ZM (n:=w1.heap.size) (w0:=w1) (Below.refl _ _) (by kernel_rfl) (by kernel_rfl) ?_
  go_big_quiet_step (fail)
  go_big_quiet_step (exact ZT HC.out _)
  iterate 8 (go_big_quiet_step (fail))
  go_big_quiet_step (exact ZT O.out _)
  iterate 2 (go_big_quiet_step (fail))
  refine wpQuiet_nil ?_;rintro _ ⟨c,rfl⟩;have am:Hid (Below w.heap.size w c.1):=aa.out.trans (c.2.mono (by omega))
  clear x0 x1 x2 x3;go_wp2
  go_ret
  rw [y.out];exact ⟨rfl,am.out⟩
 | true =>
  rw [hr] at O y;rw [show zI true=0 from rfl] at O
  have ak:Hid (rightV v os.length=true):=hr
  have af:∀W,Below w1.heap.size w1 W→∀W1,W1=W.alloc (.cells #[.int .i64 v.k,.int .i64 v.n,.string (za v.s)] 56)→Calls Tryz.prog 48 #[.pointer (some ⟨h,0,none⟩),.slice none 0 0,.int .i64 2,.slice (some ⟨W.heap.size,0,none⟩) 1 1] W1 fun e w'=>∃v',e=.returned v'∧Hid (zg W1.heap.size w' v' (zy os 2 v))∧Hid (Below w.heap.size w w')∧W1.heap.size≤w'.heap.size∧w.heap.size≤W1.heap.size:=fun W hW W1 hW1=>by
   have aB:W1.heap.size=W.heap.size+1:=by rw [hW1];simp
   have az:=hW.size;have J:Below w.heap.size w W1:=by rw [hW1];exact (aa.out.trans (hW.mono (by omega))).alloc (by omega) _
   have ap:XF W1.heap.size W1 most os h (.slice ob os.length oc) vc:=⟨(HH.out.below J).wide fun k hk _=>hk,Nat.le_refl _,fun W' hW'=>(HT.out.below J (Nat.le_refl _)).below hW' (Nat.le_refl _)⟩
   have c:=XJ W1.heap.size W1 most os h _ _ ap [v] (.slice (some ⟨W.heap.size,0,none⟩) 1 1) [] (.slice none 0 0) (by rw [hW1];exact vC W v _ (by simp)) (fun u hu=>by rw [List.mem_singleton] at hu;subst hu;exact ⟨ak.out,HV.out⟩) (by simp) (World.ownsRow_nil _ _ _ _) (by simp [Zj])
   refine c.mono ?_;rintro e w' ⟨v',rfl,ho,K⟩;refine ⟨v',rfl,?_,J.trans (K.mono (by omega)),K.size,by omega⟩
   show zg _ _ _ _
   simpa [zf] using ho
  obtain ⟨k,m,s⟩:=v;simp only at p0 p1 p2 x0 x1 x2 F;clear z E H Y ht B hr I hv
  go_enter Tryz.func37,Tryz.ntmps37
  go_wp2_with fail
  refine ZM (n:=w1.heap.size) (w0:=w1) (Below.refl _ _) (by kernel_rfl) (by kernel_rfl) ?_
  go_big_quiet_step (fail)
  go_big_quiet_step (exact ZT HC.out _)
  iterate 8 (go_big_quiet_step (fail))
  go_big_quiet_step (exact ZT O.out _)
  iterate 2 (go_big_quiet_step (fail))
  refine wpQuiet_nil ?_;rintro _ ⟨c,rfl⟩;have y0:=x0 c;have y1:=x1 c;have y2:=x2 c;have cw:=af c.1 c.2 _ rfl;clear x0 x1 x2 x3 af;go_wp2_with fail
  refine cw.mono ?_;clear cw;rintro e w4 ⟨v4,rfl,G,V,aw,av⟩;obtain ⟨M,b,ai,A,aq,al,aD⟩:=ZH G.out.own;subst ai;obtain ⟨T,hT⟩:∃T,T=zy os 2 ⟨k,m,s⟩:=⟨_,rfl⟩;have U:=ab.out;have ad:Zj 2=333000000:=rfl;rw [ad] at U;rw [←hT] at G A aq U y ⊢;clear hT ad ab y0 y1 y2
  unfold maxLen at al
  by_cases h2:200<T.length
  ·have aj:(200:Int)<(T.length:Int):=by omega
   have Z:Hid (zg (c.1.alloc (.cells #[.int .i64 k,.int .i64 m,.string (za s)] 56)).heap.size w4 (.slice M 197 b) (T.take 197)):=YV G.out 197 (by omega)
   have ar:∀W:World,(Instr.slice 44 (.slice M T.length b) none (some (.int .i64 197)) none).run Tryz.prog W=.ok (.slice M 197 b) W:=fun W=>by
    rw [run_slice_h (P:=Tryz.prog) (w:=W) 44 M T.length b Tryz.underlying44 .i64 197 (by omega) (by omega)]
    cases M <;> simp [sliced,go_sem,Addr.add]
   have ag:(T.take 197).length=197:=by rw [List.length_take];omega
   go_wp2_with (at_builtin;refine ze rfl _ _ rfl (c.1.alloc (.cells #[.int .i64 k,.int .i64 m,.string (za s)] 56)).heap.size _ (T.take 197) rfl Z.out.own z8 rfl (by rw [ag];simp [z8]) (by omega) ?_;intro v5 w5 ah R;obtain ⟨b5,X,rfl,D,-,-,-⟩:=ZH ah;have ae:=ZS w5 b5 _ X D;rw [show (T.take 197++z8).length=200 by rw [List.length_append,ag];rfl] at ae ⊢)
   have an:Hid (Below w.heap.size w w5):=V.out.grown R (by omega) (fun q hq=>by have:=Z.out.lt q hq;omega)
   clear D ah R;go_ret
   rw [y.out,if_pos h2];exact ⟨rfl,an.out⟩
  ·have aj:¬ (200:Int)<(T.length:Int):=by omega
   have ae:=ZS w4 M _ b A;go_wp2
   go_ret
   rw [y.out,if_neg h2];exact ⟨rfl,V.out⟩
def zY (w:World) (b o:Nat) (s:List UInt8):Prop:=w.cell? ⟨b,o,none⟩=some (.string (za s))
def strC (l:List (List UInt8)):List Value:=l.map fun s=>Value.string (za s)
theorem ur (l m:List (List UInt8)):strC (l++m)=strC l++strC m:=by simp [strC]
theorem ZZ (l:List (List UInt8)):(strC l).length=l.length:=by simp [strC]
theorem YW (l:List (List UInt8)):∀u∈strC l,u.oneCell'=true:=by
 intro u b
 unfold strC at b
 rw [List.mem_map] at b;obtain ⟨s,_,rfl⟩:=b
 rfl
theorem vD (S:Nat→Prop):ye S zY:=fun _ _ _ _ _ _ hb hS hlt h=>(World.cell?_of_block (hb _ hS hlt)).trans h
theorem YX:(Tryz.prog.info? 9).map (fun i=>(i.zero,i.size,i.bytes))=some (some (.string ⟨#[]⟩),1,16):=by kernel_rfl
structure zo (B:Nat) (w0 wr:World) (v:Value) (l:List (List UInt8)):Prop where
 row:wr.ownsRow B 9 1 v l.length (strC l)
 below:Below B w0 wr
 low:B≤wr.heap.size
theorem zo.nil (B:Nat) (w0 w:World) (hb:Below B w0 w) (h:B≤w.heap.size):zo B w0 w (.slice none 0 0) []:=⟨World.ownsRow_nil _ _ _ _,hb,h⟩
theorem zo.new {B:Nat} {w0 wr w1:World} {v:Value} {l:List (List UInt8)} (h:zo B w0 wr v l) (hb:Below wr.heap.size wr w1):zo B w0 w1 v l:=⟨um h.row hb,h.below.trans (hb.mono h.low),Nat.le_trans h.low hb.size⟩
theorem ut (w:World) (l:List (List UInt8)) (hl:l.length≤maxLen):(w.alloc (.cells (strC l).toArray 9)).ownsRow w.heap.size 9 1 (.slice (some ⟨w.heap.size,0,none⟩) l.length l.length) l.length (strC l) :=
 ⟨by rw [ZZ,Nat.mul_one],.inr ⟨w.heap.size,l.length,(strC l).toArray,rfl,Nat.le_refl _,World.alloc_heap_new _ _,Nat.le_refl _,hl,by simp [ZZ],by simp [ZZ,List.take_of_length_le]⟩⟩
theorem zo.lit (B:Nat) (w0 w:World) (l:List (List UInt8)) (hb:Below B w0 w) (h:B≤w.heap.size) (hl:l.length≤maxLen):zo B w0 (w.alloc (.cells (strC l).toArray 9)) (.slice (some ⟨w.heap.size,0,none⟩) l.length l.length) l:=by
 obtain ⟨o,b⟩:=ut w l hl;refine ⟨⟨o,?_⟩,hb.alloc h _,by simp;omega⟩
 rcases b with b | ⟨g,c,e,m,q,rest⟩
 ·exact .inl b
 ·exact .inr ⟨g,c,e,m,by omega,rest⟩
theorem zo.app {B:Nat} {w0 wr w2 w3:World} {v v':Value} {l m:List (List UInt8)} (h:zo B w0 wr v l) (h2:Below wr.heap.size wr w2) (hr:w3.ownsRow B 9 1 v' (l.length+m.length) (strC l++strC m)) (hg:w2.grownBy w3 v.ownBlock):zo B w0 w3 v' (l++m):=by
 have c:=h2.size;have o:=hg.size;have b:=h.low;refine ⟨by rw [ur,List.length_append];exact hr,⟨?_,?_,?_,by have:=h.below.size;omega,fun k hk=>?_⟩,by omega⟩
 ·rw [hg.os,h2.os];exact h.below.os
 ·rw [hg.tape,h2.tape];exact h.below.tape
 ·rw [hg.output,h2.output];exact h.below.output
 ·rw [hg.block k (by omega) (fun e=>by have:=(h.row.lt k e.symm).1;omega),h2.block k (by omega)]
  exact h.below.block k hk
theorem zo.in {B:Nat} {w0 wr:World} {v:Value} {l:List (List UInt8)} (h:zo B w0 wr v l):rowIn (fun k=>B≤k) wr v 1 zY l:=by
 rcases h.row.2 with ⟨b,q⟩ | ⟨g,A,D,b,y,u,m,c,z,e⟩
 ·exact ⟨none,0,by rw [b,q],by omega,Nat.zero_le _,.inl (List.length_eq_zero_iff.1 q)⟩
 ·refine ⟨some ⟨g,0,none⟩,A,b,m,c,.inr ⟨g,0,rfl,y,zc u,fun j hj=>?_⟩⟩
  have o:=h.row.cells (g:=g) (by rw [b];rfl) j (.string (za l[j])) (by unfold strC;rw [List.getElem?_map,List.getElem?_eq_getElem hj];rfl)
  rw [yi] at o;show wr.cell? _=_
  rw [Nat.zero_add,Nat.mul_one];exact o
theorem zp {B:Nat} {w2 w3:World} {v:Value} {n:Nat} {xs:List Value} (hr:w2.ownsRow B 9 1 v n xs) (hg:w2.grownBy w3 v.ownBlock) {q:Nat} {ys:Array Value} {ty:TypeId} {z:Nat × Nat} (hq:w2.heap[q]?=some (.cells ys ty z)) (hne:ty≠9):w3.heap[q]?=some (.cells ys ty z):=by
 refine (hg.block q (zc hq) fun e=>?_).trans hq
 obtain ⟨c,b⟩:=Zs hr e.symm;rw [hq] at b;cases b
 exact hne rfl
theorem Z9 {P:Program} {ops:Array Oper} {o:Oper} {a:Act} {w:World} {K:Act→World→Prop} {Q:Exit→Act→World→Prop} {E:Prop} (s x:Operand) (t:TypeId)
  (ho:o.op=.call { callee:=.builtin .append,args:=#[s,x],argTypes:=#[t,t] }) (hw:Region.wanted o (yielded ops a.tmps)=true)
  (base:Nat) (e:TypeId) (i:TypeInfo) (z:Value) (size bytes:Nat) (ht:P.underlying t=some (.slice e)) (hi:P.info? e=some i) (hz:i.zero=some z)
  (hsize:i.size=size) (hby:i.bytes=bytes) (hzs:z.cells.size=size) (hsz:0<size)
  (v:Value) (n:Nat) (xs:List Value) (hs:a.eval s=v) (hown:w.ownsRow base e size v n xs)
  (ad:Addr) (m c:Nat) (news:List Value) (hx:a.eval x=.slice (some ad) m c) (hl:news.length=m*size) (hnews:∀j u,news[j]?=some u→w.cell? (ad.add j)=some u) (h1:∀u∈news,u.oneCell'=true)
  (h63:n+m≤maxLen) (hbytes:(n+m)*bytes≤140737488355328) (hbase:base≤w.heap.size)
  (h:∀b q,q.ownsRow base e size b (n+m) (xs++news)→w.grownBy q v.ownBlock→(b.ownBlock=v.ownBlock∨b.ownBlock=some w.heap.size)→K (a.put o.dst b) q) :
  if Region.wanted o (yielded ops a.tmps)=true then Oper.wp P o a w K Q else E:=by
 rw [if_pos hw];obtain ⟨b,q,y,B,A,-,D⟩:=run_append_own_at (P:=P) w base t o.type e i z size bytes ht hi hz hsize hby hzs hsz v n xs hown ad m c news hl hnews h1 h63 hbytes hbase
 unfold Oper.wp
 simp [execOp,ho,resolve,invoke,builtin,hs,hx,y,Result.andThen]
 exact h b q B A D
theorem Zk {ops:Array Oper} {rest:List Oper} {o:Oper} {a:Act} {w:World} {Q:Exit→Act→World→Prop} (hgd:o.guard=none) (s x:Operand)
  (ho:o.op=.call { callee:=.builtin .append,args:=#[s,x],argTypes:=#[41,41] })
  (B:Nat) (v:Value) (l m:List (List UInt8)) (hs:a.eval s=v) (w1:World) (w0:World) (hj:zo B w0 w1 v l) (hw:w=w1.alloc (.cells (strC m).toArray 9)) (hx:a.eval x=.slice (some ⟨w1.heap.size,0,none⟩) m.length m.length)
  (hb:l.length+m.length≤4294967296)
  (h:∀e b,zo B w0 b e (l++m)→w.grownBy b v.ownBlock→wpList Tryz.prog ops Q rest (a.put o.dst e) b):wpList Tryz.prog ops Q (o::rest) a w:=by
 obtain ⟨E,D,q,y,z⟩:=info_parts YX;subst hw;have A:=hj.low;refine wpList_append_own_at _ hgd s x 41 ho B 9 E (.string ⟨#[]⟩) 1 16 Tryz.underlying41 D q y z rfl (by decide) v l.length _ hs (hj.row.alloc _) ⟨w1.heap.size,0,none⟩ m.length m.length (strC m) hx (by rw [ZZ,Nat.mul_one]) (yF _ _ _) (YW m) (by unfold maxLen;omega) (by omega) (by simp;omega) ?_
 intro e b u c _ _;exact h e b (hj.app ((Below.refl _ _).alloc (Nat.le_refl _) _) u c) c
theorem Zf {ops:Array Oper} {o:Oper} {a:Act} {w:World} {K:Act→World→Prop} {Q:Exit→Act→World→Prop} {E:Prop} (s x:Operand)
  (ho:o.op=.call { callee:=.builtin .append,args:=#[s,x],argTypes:=#[41,41] }) (hw:Region.wanted o (yielded ops a.tmps)=true)
  (B:Nat) (v:Value) (l m:List (List UInt8)) (hs:a.eval s=v) (w1:World) (w0:World) (hj:zo B w0 w1 v l) (hw1:w=w1.alloc (.cells (strC m).toArray 9)) (hx:a.eval x=.slice (some ⟨w1.heap.size,0,none⟩) m.length m.length)
  (hb:l.length+m.length≤4294967296)
  (h:∀e b,zo B w0 b e (l++m)→w.grownBy b v.ownBlock→K (a.put o.dst e) b) :
  if Region.wanted o (yielded ops a.tmps)=true then Oper.wp Tryz.prog o a w K Q else E:=by
 obtain ⟨F,D,q,y,z⟩:=info_parts YX;subst hw1;have A:=hj.low;refine Z9 s x 41 ho hw B 9 F (.string ⟨#[]⟩) 1 16 Tryz.underlying41 D q y z rfl (by decide) v l.length _ hs (hj.row.alloc _) ⟨w1.heap.size,0,none⟩ m.length m.length (strC m) hx (by rw [ZZ,Nat.mul_one]) (yF _ _ _) (YW m) (by unfold maxLen;omega) (by omega) (by simp;omega) ?_
 intro e b u c _;exact h e b (hj.app ((Below.refl _ _).alloc (Nat.le_refl _) _) u c) c
theorem xh (ys:List UInt8) (k:Nat) (z:UInt8):(Lib.byteCells ys).set k (.int .u8 (z.toNat:Int))=Lib.byteCells (ys.set k z):=by
 unfold Lib.byteCells
 rw [List.map_set]
theorem Uh {w:World} {B:Nat} {bx:Option Addr} {n cx:Nat} {ys:List UInt8} (h:zg B w (.slice bx n cx) ys) {k:Nat} (hk:k<ys.length):∃g,bx=some ⟨g,0,none⟩∧B≤g∧w.cell? ⟨g,k,none⟩=some (.int .u8 ((ys[k]).toNat:Int))∧w.frozen? ⟨g,k,none⟩=false ∧
  ∀z:UInt8,zg B (w.setCell ⟨g,k,none⟩ (.int .u8 (z.toNat:Int))) (.slice bx n cx) (ys.set k z):=by
 rcases h.own.2 with ⟨c,y⟩ | ⟨g,o,u,c,m,q,_⟩
 ·omega
 ·cases c
  have b:=World.ownsRow.cells h (g:=g) rfl k (.int .u8 ((ys[k]).toNat:Int)) (by unfold Lib.byteCells;rw [List.getElem?_map,List.getElem?_eq_getElem hk];rfl)
  rw [yi] at b;refine ⟨g,rfl,m,b,?_,fun z=>?_⟩
  ·simp only [World.frozen?,q];simp
  ·have e:=(World.ownsRow.stored h k (.int .u8 (z.toNat:Int))).1
   rw [xh] at e;show World.ownsRow _ _ _ _ _ _ _
   rw [List.length_set];exact e
end Go.Proofs.YtbjndgachcdbcaaGreatDoor
