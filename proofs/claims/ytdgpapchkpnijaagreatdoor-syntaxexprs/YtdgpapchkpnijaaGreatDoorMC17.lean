import Derived.Test.YtdgpapchkpnijaaGreatDoorMC16
import Derived.Deep.RegionHeld3
import Derived.RegionDies
namespace Go.Proofs.YtdgpapchkpnijaaGreatDoor
open Go.RowKit Go.Shelf
set_option maxHeartbeats 16000000
set_option maxRecDepth 100000
theorem zb.grown {r:Nat} {w w1 w2:World} {row:Option Nat} (h:zb r w w1) (hg:w1.grownBy w2 row) (hrow:∀k,row=some k→w.heap.size≤k):zb r w w2 :=
 ⟨hg.os.trans h.os,hg.tape.trans h.tape,hg.output.trans h.output,Nat.le_trans h.size hg.size,fun k hk hr=>(hg.block k (Nat.lt_of_lt_of_le hk h.size) fun e=>by have:=hrow k e.symm;omega).trans (h.block k hk hr)⟩
theorem Vr:(Tryz.prog.info? 40).map (fun i=>(i.zero,i.size,i.bytes))=some (some (.agg #[.int .i64 0,.string ⟨#[]⟩,.int .i64 0,.slice none 0 0,.int .i64 0]),5,64):=by kernel_rfl
theorem zfo (r g o cap F:Nat) (ts:List Tk) (w:World) (res:PR (List Ex)) (h:zg r g o cap ts w) (hE:zk ts) (hN:ts.length≤1099511627776) (hp:yy (F+1) [] ts=some res)
  (hone:∀w1 o1 cap1 ts1 r1,zh F 1 ts1=some r1→zk ts1→ts1.length≤1099511627776→zg r g o1 cap1 ts1 w1→zb r w w1→Calls Tryz.prog 36 #[.pointer (some ⟨r,0,none⟩)] w1 (zI r g w1 r1)) :
  Calls Tryz.prog 197 #[.pointer (some ⟨r,0,none⟩),.func (.func 36) #[.pointer (some ⟨r,0,none⟩)] #[]] w (XZ r g w res):=by
 obtain ⟨i0,hi0,hz0,hz1,hz2⟩:=info_parts Vr;obtain ⟨t0,ts0,rfl⟩:=hE.cons;have hr:=h.lt.1;have hgw:=h.lt.2;rw [yy] at hp;cases hb:zh F 1 (t0::ts0) with
 | none=>rw [hb] at hp;cases hp
 | some r1 =>
  have c1:=hone w o cap (t0::ts0) r1 hb hE hN h (zb.refl r w);rw [hb] at hp;simp only [zn] at hp
  go_enter Tryz.func197,Tryz.ntmps197
  go_wp2_with fail
  refine c1.mono ?_;clear c1;rintro e w1 ⟨hk1,hpost⟩;rcases r1 with a | ⟨x,us⟩
  ·obtain rfl:=hpost
   simp only [Option.some.injEq] at hp;subst hp;exact ⟨rfl,hk1,rfl⟩
  ·obtain ⟨v,o1,cap1,rfl,hx,hrd⟩:=hpost
   obtain ⟨a,b,c,d0,d1,d2,l,rfl⟩:=hx.agg;have hE1:=(Zk F).1 _ _ _ _ hb hE;have hl1:=Yi hb;have HP:Hid (V0 F [x] us=some res):=hp;obtain ⟨t1,ts1,rfl⟩:=hE1.cons
   have HR1:Hid (Zf uV 5 40 w.heap.size (w1.alloc (.cells #[.int .i64 a,.string b,.int .i64 c,.slice d0 d1 d2,.int .i64 l] 40)) [x] (.slice (some ⟨w1.heap.size,0,none⟩) 1 1) w1.heap.size 1 [[.int .i64 a,.string b,.int .i64 c,.slice d0 d1 d2,.int .i64 l]]) :=
    Zf.first yQ (c:=[.int .i64 a,.string b,.int .i64 c,.slice d0 d1 d2,.int .i64 l]) (show zQ _ _ _ _ from hx) rfl hk1.size
   have HD1:Hid (zg r g o1 cap1 (t1::ts1) (w1.alloc (.cells #[.int .i64 a,.string b,.int .i64 c,.slice d0 d1 d2,.int .i64 l] 40))):=hrd.alloc _;have HK1:Hid (zb r w (w1.alloc (.cells #[.int .i64 a,.string b,.int .i64 c,.slice d0 d1 d2,.int .i64 l] 40))):=hk1.alloc _;have HE1:Hid (zk (t1::ts1)):=hE1;have hn:ts1.length+2≤1099511627776:=by simp only [List.length_cons] at hl1 hN;omega
   have HONE:Hid (∀w1 o1 cap1 ts1 r1,zh F 1 ts1=some r1→zk ts1→ts1.length≤1099511627776→zg r g o1 cap1 ts1 w1→zb r w w1→Calls Tryz.prog 36 #[.pointer (some ⟨r,0,none⟩)] w1 (zI r g w1 r1)):=hone;clear hx hrd hk1 hE1 hone hp hb hE hN h hl1;go_wp2_with fail
   go_loopw [5] (fun v wr=>∃(L:List Ex) (g1 cap1:Nat) (us:List (List Value)) (o2 cap2:Nat) (ts2:List Tk) (f2:Nat),f2≤F∧V0 f2 L ts2=some res∧zk ts2∧L.length+ts2.length≤1099511627776∧Zf uV 5 40 w.heap.size wr L v g1 cap1 us∧zg r g o2 cap2 ts2 wr∧zb r w wr) (fun _ wr=>ZQ r wr)
   case atStart=>exact ⟨[x],_,_,_,o1,cap1,t1::ts1,F,Nat.le_refl _,HP.out,HE1.out,by simp only [List.length_cons,List.length_nil];omega,HR1.out,HD1.out,HK1.out⟩
   case round =>
    obtain ⟨L,g1,cp1,us,o2,cap2,ts2,f2,hf2,hT,hE2,hN2,hrow,hrd2,hk2⟩:=hrel;clear HP HR1 HD1 HK1 HE1 hn;obtain ⟨t2,ts3,rfl⟩:=hE2.cons;have cs:=Zu r g o2 cap2 t2 ts3 [44] wr hrd2 (fun hi=>(hE2.tail (zi hi)).ne)
    have hleft:=hrd2.left;have HROW:Hid (Zf uV 5 40 w.heap.size wr L _ g1 cp1 us):=hrow;have HK2:Hid (zb r w wr):=hk2;have hval:=hrow.val;subst hval
    unfold V0 at hT
    simp only [zC,List.tail_cons] at hT
    by_cases hi:zo t2 [44]=true
    ·rw [hi] at cs
     rw [if_pos hi] at hT;have hE3:=hE2.tail (zi hi);clear hrow hk2 hrd2 hE2;go_wp2_with fail
     refine cs.mono ?_;clear cs;rintro e w3 ⟨rfl,hk3,h3⟩;simp only [if_true] at h3;have hkk:zb r w w3:=HK2.out.trans hk3;have hrow3:=HROW.out.kept yQ hk3.size fun k hB hlt=>hk3.block k hlt (by omega)
     cases f2 with
     | zero=>simp [yy] at hT
     | succ f3 =>
      rw [yy] at hT;cases hb3:zh f3 1 ts3 with
      | none=>rw [hb3] at hT;cases hT
      | some r3 =>
       rw [hb3] at hT;simp only [zn] at hT
       have hb4:zh F 1 ts3=some r3:=by
        have:=YH (k:=F-f3) hb3
        rwa [show f3+(F-f3)=F by omega] at this
       have c3:=HONE.out w3 _ _ ts3 r3 hb4 hE3 (by simp only [List.length_cons] at hN2;omega) h3 hkk
       have hg3:=hrow3.block;have HROW3:Hid (Zf uV 5 40 w.heap.size w3 L _ g1 cp1 us):=hrow3;have HK3:Hid (zb r w w3):=hkk;clear hrow3 hkk hk3 h3 HROW HK2;go_wp2_with fail
       refine c3.mono ?_;clear c3;rintro e w4 ⟨hk4,hpost⟩;have HK4:Hid (zb r w w4):=HK3.out.trans hk4;rcases r3 with a | ⟨x3,us3⟩
       ·obtain rfl:=hpost
        simp only [Option.some.injEq] at hT;subst hT;exact ⟨rfl,HK4.out,rfl⟩
       ·obtain ⟨v,o4,cap4,rfl,hx,hrd⟩:=hpost
        obtain ⟨a4,b4,c4,p4,q4,s4,l4,rfl⟩:=hx.agg;have hrow4:=HROW3.out.kept yQ hk4.size fun k hB hlt=>hk4.block k hlt (by omega)
        have hx4:uV (fun k=>w.heap.size≤k∧k≠g1) w4 x3 [.int .i64 a4,.string b4,.int .i64 c4,.slice p4 q4 s4,.int .i64 l4]:=zQ.wide hx fun k hk=>⟨Nat.le_trans HK3.out.size hk,by omega⟩
        have HX4:Hid (uV (fun k=>w.heap.size≤k∧k≠g1) w4 x3 [.int .i64 a4,.string b4,.int .i64 c4,.slice p4 q4 s4,.int .i64 l4]):=hx4
        have HROW4:Hid (Zf uV 5 40 w.heap.size w4 L _ g1 cp1 us):=hrow4;have HRD:Hid (zg r g o4 cap4 us3 w4):=hrd;have hE5:=(Zk F).1 _ _ _ _ hb4 hE3;have hl5:=Yi hb4;have HOWN:=(hrow4.own.alloc (.cells #[.int .i64 a4,.string b4,.int .i64 c4,.slice p4 q4 s4,.int .i64 l4] 40));have HT:Hid (V0 f3 (L++[x3]) us3=some res):=hT;have hsz4:w.heap.size≤w4.heap.size:=HK4.out.size;clear hrow4 hx4 hx hrd hT hk4
        go_wp2_with (at_builtin;refine wpList_append_own_at _ rfl _ _ 38 rfl w.heap.size 40 i0 _ 5 64 Tryz.underlying38 hi0 hz0 hz1 hz2 rfl (by decide) _ _ _ rfl HOWN ⟨w4.heap.size,0,none⟩ 1 1 [.int .i64 a4,.string b4,.int .i64 c4,.slice p4 q4 s4,.int .i64 l4] rfl rfl (Zn _ _ _) (by simp [Value.oneCell']) (by unfold maxLen;simp only [List.length_cons] at hN2;omega) (by simp only [List.length_cons] at hN2;omega) (by simp;omega) ?_;intro v' w5 hown' hgrow _ hat)
        obtain ⟨g5,cap5,hrow5,hg5⟩:=HROW4.out.snoc yQ HX4.out rfl hown' hgrow hat
        have hgr5:(w4.alloc (.cells #[.int .i64 a4,.string b4,.int .i64 c4,.slice p4 q4 s4,.int .i64 l4] 40)).grownBy w5 (some g1):=hgrow;have hk5:zb r w w5:=(HK4.out.alloc _).grown hgr5 fun k hk=>by have:=Option.some.inj hk;omega
        have hr4:w.heap.size≤w4.heap.size:=HK4.out.size;have hrd5:zg r g o4 cap4 us3 w5:=HRD.out.keep ((hgr5.block r (by simp;omega) (fun e=>by have:=Option.some.inj e;omega)).trans (Below.heap_alloc _ _ _ (by omega))) ((hgr5.block g (by simp;omega) (fun e=>by have:=Option.some.inj e;omega)).trans (Below.heap_alloc _ _ _ (by omega)))
        refine ⟨⟨L++[x3],g5,cap5,_,o4,cap4,us3,f3,by omega,HT.out,hE5,?_,hrow5,hrd5,hk5⟩,?_⟩
        ·simp only [List.length_append,List.length_cons,List.length_nil] at hN2 ⊢;omega
        ·rw [hrd5.left,hleft];simp only [List.length_cons];omega
    ·have hi':zo t2 [44]=false:=by simpa using hi
     rw [hi'] at cs;rw [if_neg hi] at hT;clear hrow hk2 hrd2 hE2;go_wp2_with fail
     refine cs.mono ?_;clear cs;rintro e w3 ⟨rfl,hk3,h3⟩;have HK3:Hid (zb r w w3):=HK2.out.trans hk3;have HROW3:Hid (Z9 w.heap.size w3 L (.slice (some ⟨g1,0,none⟩) L.length cp1)):=(HROW.out.kept yQ hk3.size fun k hB hlt=>hk3.block k hlt (by omega)).row
     have HR3:Hid (zg r g o2 cap2 (t2::ts3) w3):=show zg _ _ _ _ _ _ by simpa using h3
     simp only [Option.some.injEq] at hT;subst hT;clear hk3 h3;go_wp2
     refine bodyPost_ret (v:=.slice (some ⟨g1,0,none⟩) L.length cp1) (by simp [results,Tryz.results197,go_sem]) rfl ⟨HK3.out,_,_,_,rfl,HROW3.out,HR3.out⟩
theorem zG.one {S:Nat→Prop} {w:World} {x:Ex} {c:List Value} (ty:Nat) (hx:zQ S w x (.agg c.toArray)) (hc:c.length=5) (hB:S w.heap.size):zG S (w.alloc (.cells c.toArray ty)) [x] (.slice (some ⟨w.heap.size,0,none⟩) 1 1):=by
 refine .inr ⟨w.heap.size,1,[c],rfl,by simp,rfl,hB,by simp,Nat.le_refl _,by simp [maxLen],fun j u hj=>?_,fun z hz=>?_,fun j z e hz he=>?_⟩
 ·have h:=Zn w c ty j u (by simpa using hj)
  by_cases h0:j=0
  ·subst h0;simpa [Addr.add] using h
  ·simpa [Addr.add,h0] using h
 ·simp only [List.mem_cons,List.not_mem_nil,or_false] at hz
  subst hz;exact hc
 ·match j,hz,he with
  | 0,hz,he =>
   simp only [List.getElem?_cons_zero,Option.some.injEq] at hz he
   subst hz he;exact zQ.kept hx (by simp) fun k _ hlt=>Below.heap_alloc _ _ _ hlt
  | j+1,hz,he=>simp at hz
theorem zG.two {S:Nat→Prop} {w:World} {x y:Ex} {c d:List Value} (ty:Nat) (hx:zQ S w x (.agg c.toArray)) (hy:zQ S w y (.agg d.toArray)) (hc:c.length=5) (hd:d.length=5) (hB:S w.heap.size) :
  zG S (w.alloc (.cells (c++d).toArray ty)) [x,y] (.slice (some ⟨w.heap.size,0,none⟩) 2 2):=by
 refine .inr ⟨w.heap.size,2,[c,d],rfl,by simp,rfl,hB,by simp,Nat.le_refl _,by simp [maxLen],fun j u hj=>?_,fun z hz=>?_,fun j z e hz he=>?_⟩
 ·have h:=Zn w (c++d) ty j u (by simpa using hj)
  by_cases h0:j=0
  ·subst h0;simpa [Addr.add] using h
  ·simpa [Addr.add,h0] using h
 ·simp only [List.mem_cons,List.not_mem_nil,or_false] at hz
  rcases hz with rfl | rfl <;> assumption
 ·have hk:∀z e,zQ S w z (.agg e)→zQ S (w.alloc (.cells (c++d).toArray ty)) z (.agg e):=fun z e h=>zQ.kept h (by simp) fun k _ hlt=>Below.heap_alloc _ _ _ hlt
  match j,hz,he with
  | 0,hz,he =>
   simp only [List.getElem?_cons_zero,Option.some.injEq] at hz he;subst hz he;exact hk _ _ hx
  | 1,hz,he =>
   simp only [List.getElem?_cons_succ,List.getElem?_cons_zero,Option.some.injEq] at hz he;subst hz he;exact hk _ _ hy
  | j+2,hz,he=>simp at hz
theorem xU {w:World} {N M j:Nat} {v:Value} (a b c d e:Value) (hne:M≠N) (h:w.cell? ⟨M,j,none⟩=some v):(set5 w N a b c d e).cell? ⟨M,j,none⟩=some v:=by
 exact (World.cell?_of_block (a:=⟨M,j,none⟩) (zr w N a b c d e hne)).trans h
theorem zI.of_set5 {r g o cap N B:Nat} {w w5:World} {us:List Tk} {l:List Ex} {v:Value} (k:Nat) (s:List UInt8) (n:Int) (line:Nat) (hK:zb r w w5) (hN:w.heap.size≤N) (hr:r<w.heap.size) (hg:g<w.heap.size) (hrow:Z9 B w5 l v) (hB:N<B) (hrd:zg r g o cap us w5) :
  zI r g w (.ok (.mk k s n l line,us)) (.returned (.agg #[.int .i64 k,.string (za s),.int .i64 n,v,.int .i64 line])) (set5 w5 N (.int .i64 k) (.string (za s)) (.int .i64 n) v (.int .i64 line)):=by
 refine ⟨ZM hK hN _ _ _ _ _,_,o,cap,rfl,?_,hrd.keep (zr _ _ _ _ _ _ _ (by omega)) (zr _ _ _ _ _ _ _ (by omega))⟩
 have h:=hrow.kept (w':=set5 w5 N (.int .i64 k) (.string (za s)) (.int .i64 n) v (.int .i64 line)) (by simp) fun k hB _=>zr _ _ _ _ _ _ _ (by omega)
 exact Zc.of_row (h.mono (by omega)) k s n line
theorem zI.of_set5' {r g o cap N B:Nat} {w w5:World} {us:List Tk} {x:Ex} {a b c d e:Value} (hK:zb r w w5) (hN:w.heap.size≤N) (hr:r<w.heap.size) (hg:g<w.heap.size) (hx:Zc B w5 x (.agg #[a,b,c,d,e])) (hB:N<B) (hrd:zg r g o cap us w5) :
  zI r g w (.ok (x,us)) (.returned (.agg #[a,b,c,d,e])) (set5 w5 N a b c d e):=by
 refine ⟨ZM hK hN _ _ _ _ _,_,o,cap,rfl,?_,hrd.keep (zr _ _ _ _ _ _ _ (by omega)) (zr _ _ _ _ _ _ _ (by omega))⟩
 exact Zc.mono (Zc.kept hx (w':=set5 w5 N a b c d e) (by simp) fun k hB _=>zr _ _ _ _ _ _ _ (by omega)) (by omega)
def uu (t:Tk):PR Ex→PR Ex
 | .error a=>.error a
 | .ok (e,ts)=>.ok (.mk 6 t.s 0 [e] t.line,ts)
theorem qg (r g o cap:Nat) (t:Tk) (ts:List Tk) (w:World) (res:PR Ex) (h:zg r g o cap (t::ts) w) (hE:zk (t::ts)) (hk:t.k=4) (hs:(t.s==[45]||t.s==[33])=true)
  (hun:∀w1 o1 cap1,zg r g o1 cap1 ts w1→zb r w w1→Calls Tryz.prog 115 #[.pointer (some ⟨r,0,none⟩)] w1 (zI r g w1 res)) :
  Calls Tryz.prog 115 #[.pointer (some ⟨r,0,none⟩)] w (zI r g w (uu t res)):=by
 have hr:=h.lt.1;have hgw:=h.lt.2;have ca:=fun w=>vw t.s w
 simp only [hs] at ca;have h0:=h.alloc Ze;have ch:=ye r g o cap t ts _ h0;obtain ⟨w2,hw2⟩:∃w2,w2=((w.alloc Ze).alloc (ZK t)).alloc (.cells #[.int .i64 4,.string (za t.s),.int .i64 t.n,.int .i64 t.line,.int .i64 t.at0] 69):=⟨_,rfl⟩;have h2:zg r g o cap (t::ts) w2:=by rw [hw2];exact (h0.alloc _).alloc _
 have k2:zb r w w2:=by rw [hw2];exact (((zb.refl r w).alloc _).alloc _).alloc _
 have cs:=vj r g o cap t ts w2 h2 (hE.tail (by omega)).ne
 have HW2:Hid (w2=((w.alloc Ze).alloc (ZK t)).alloc (.cells #[.int .i64 4,.string (za t.s),.int .i64 t.n,.int .i64 t.line,.int .i64 t.at0] 69)):=hw2;clear h h0
 go_enter Tryz.func115,Tryz.ntmps115
 go_wp2_with fail
 refine ch.mono ?_;clear ch;rintro e w1 ⟨rfl,rfl⟩;simp only [Xc];go_wp2_with (go_at_call 127;refine (ca _).mono ?_;rintro e w1 ⟨rfl,rfl⟩)
 rw [←HW2.out];refine cs.mono ?_;clear cs ca;rintro e w3 ⟨rfl,hw3⟩
 have n2:w2.heap[w.heap.size+1+1]?=some (.cells #[.int .i64 4,.string (za t.s),.int .i64 t.n,.int .i64 t.line,.int .i64 t.at0] 69 (0,0)):=by
  have hx:=World.alloc_heap_new ((w.alloc Ze).alloc (ZK t)) (.cells #[.int .i64 4,.string (za t.s),.int .i64 t.n,.int .i64 t.line,.int .i64 t.at0] 69);rw [←hw2,show ((w.alloc Ze).alloc (ZK t)).heap.size=w.heap.size+1+1 by simp] at hx
  exact hx
 have n0:w2.heap[w.heap.size]?=some Ze:=by
  rw [hw2,Below.heap_alloc _ _ _ (by simp;omega),Below.heap_alloc _ _ _ (by simp)]
  exact World.alloc_heap_new _ _
 have k3:zb r w w3:=by rw [hw3];exact k2.setCell 0 _
 have k23:zb r w2 w3:=by rw [hw3];exact (zb.refl r w2).setCell 0 _
 have h3:zg r g (o+5) (cap-1) ts w3:=by rw [hw3];exact h2.next
 have m2:=(k23.block _ (Array.getElem?_eq_some_iff.1 n2).1 (by omega)).trans n2
 have m0:=(k23.block _ (Array.getElem?_eq_some_iff.1 n0).1 (by omega)).trans n0
 have cu:∀W:World,W.heap=w3.heap→W.os=w3.os→W.tape=w3.tape→W.output=w3.output→Calls Tryz.prog 115 #[.pointer (some ⟨r,0,none⟩)] W fun e w'=>zb r w3 w'∧zI r g W res e w':=fun W e1 e2 e3 e4 =>
  (hun W _ _ (h3.keep (by rw [e1]) (by rw [e1])) ⟨e2.trans k3.os,e3.trans k3.tape,e4.trans k3.output,by rw [e1];exact k3.size,fun k hk hr=>by rw [e1];exact k3.block k hk hr⟩).mono fun e w' h =>
   ⟨⟨h.1.os.trans e2,h.1.tape.trans e3,h.1.output.trans e4,by rw [←e1];exact h.1.size,fun k hk hr=>by rw [←e1];exact h.1.block k (by rw [e1];exact hk) hr⟩,h⟩
 have HK3:Hid (zb r w w3):=k3;have hl2:w.heap.size+1+1<w3.heap.size:=(Array.getElem?_eq_some_iff.1 m2).1;have c1:w3.cell? ⟨w.heap.size+1+1,1,none⟩=some (.string (za t.s)):=by simp only [World.cell?,m2];rfl
 have c3:w3.cell? ⟨w.heap.size+1+1,3,none⟩=some (.int .i64 t.line):=by simp only [World.cell?,m2];rfl
 clear hun hw3 n2 n0 k3 k23 h3 h2 k2 hw2 HW2 hE;rcases res with a | ⟨x,us⟩
 ·have cu':∀W:World,W.heap=w3.heap→W.os=w3.os→W.tape=w3.tape→W.output=w3.output→Calls Tryz.prog 115 #[.pointer (some ⟨r,0,none⟩)] W fun e w'=>e=ZF a∧zb r w w':=fun W e1 e2 e3 e4=>(cu W e1 e2 e3 e4).mono fun e w' h=>⟨h.2.2,HK3.out.trans h.1⟩
  clear cu;go_wp2_with fail
  go_region_dies
  all_goals (go_wp2_with fail;refine (cu' _ (by rfl) (by rfl) (by rfl) (by rfl)).mono ?_;rintro e w4 ⟨rfl,hk4⟩;exact ⟨rfl,hk4,rfl⟩)
 ·have cu':∀W:World,W.heap=w3.heap→W.os=w3.os→W.tape=w3.tape→W.output=w3.output→Calls Tryz.prog 115 #[.pointer (some ⟨r,0,none⟩)] W fun e w'=>∃(a:Int) (b:ByteArray) (c:Int) (d0:Option Addr) (d1 d2:Nat) (l:Int),e=.returned (.agg #[.int .i64 a,.string b,.int .i64 c,.slice d0 d1 d2,.int .i64 l]) ∧
    w'.cell? ⟨w.heap.size+1+1,1,none⟩=some (.string (za t.s))∧w'.cell? ⟨w.heap.size+1+1,3,none⟩=some (.int .i64 t.line)∧w'.heap[w.heap.size]?=some Ze∧Hid (zb r w w')∧w3.heap.size≤w'.heap.size ∧
    Hid (Zc w3.heap.size w' x (.agg #[.int .i64 a,.string b,.int .i64 c,.slice d0 d1 d2,.int .i64 l]))∧Hid (∃o4 cap4,zg r g o4 cap4 us w'):=fun W e1 e2 e3 e4=>(cu W e1 e2 e3 e4).mono fun e w' h=>by
   obtain ⟨hk4,-,v,o4,cap4,rfl,hx,hrd⟩:=h;obtain ⟨a,b,c,d0,d1,d2,l,rfl⟩:=hx.agg;exact ⟨a,b,c,d0,d1,d2,l,rfl,hk4.cell (p:=⟨w.heap.size+1+1,1,none⟩) (by simp;omega) c1,hk4.cell (p:=⟨w.heap.size+1+1,3,none⟩) (by simp;omega) c3,(hk4.block _ (by omega) (by omega)).trans m0,HK3.out.trans hk4,hk4.size,(by rw [←e1];exact hx:Zc w3.heap.size w' x _),⟨o4,cap4,hrd⟩⟩
  clear cu m0 m2;go_wp2_with fail
  go_region_held3 (fun W=>W.cell? ⟨w.heap.size+1+1,1,none⟩=some (.string (za t.s))∧W.cell? ⟨w.heap.size+1+1,3,none⟩=some (.int .i64 t.line)) (first | go_keep | exact ⟨xU _ _ _ _ _ (by omega) (c1'' _),xU _ _ _ _ _ (by omega) (c3'' _)⟩) (first | (go_at_call 115;refine (cu' _ (by rfl) (by rfl) (by rfl) (by rfl)).mono ?_;rintro e w4 ⟨a,b,c,d0,d1,d2,l,rfl,c1',c3',p4,HK4,hsz4,HX4,HR4⟩;have q0:w4.cell? ⟨w.heap.size,0,none⟩=some (.int .i64 0):=(by simp only [World.cell?,p4];rfl);have q1:w4.cell? ⟨w.heap.size,1,none⟩=some (.string ⟨#[]⟩):=(by simp only [World.cell?,p4];rfl);have q2:w4.cell? ⟨w.heap.size,2,none⟩=some (.int .i64 0):=(by simp only [World.cell?,p4];rfl);have q3:w4.cell? ⟨w.heap.size,3,none⟩=some (.slice none 0 0):=(by simp only [World.cell?,p4];rfl);have q4:w4.cell? ⟨w.heap.size,4,none⟩=some (.int .i64 0):=(by simp only [World.cell?,p4];rfl);have qf:∀j,w4.frozen? ⟨w.heap.size,j,none⟩=false:=(fun j=>by simp only [World.frozen?,p4];simp);have qf':∀ob j,(w4.alloc ob).frozen? ⟨w.heap.size,j,none⟩=false:=(fun ob j=>by simp only [World.frozen?,Below.heap_alloc w4 ob w.heap.size (Array.getElem?_eq_some_iff.1 p4).1,p4];simp);have q0':=zj q0;have q1':=zj q1;have q2':=zj q2;have q3':=zj q3;have q4':=zj q4;have c1'':=zj c1';have c3'':=zj c3'))
  obtain ⟨o4,cap4,hrd4⟩:=HR4.out;have hr4:=World.block_lt_of_cell? w4 _ q0;have p5:(w4.alloc (.cells #[.int .i64 a,.string b,.int .i64 c,.slice d0 d1 d2,.int .i64 l] 40)).heap[w.heap.size]?=some Ze:=(Below.heap_alloc _ _ _ hr4).trans p4;obtain ⟨z0,z1,z2,z3,z4⟩:=zt p5 (.int .i64 6) (.string (za t.s)) (.int .i64 0) (.slice (some ⟨w4.heap.size,0,none⟩) 1 1) (.int .i64 t.line)
  change Exit.then _ _ _ _ (set5 (w4.alloc (.cells #[.int .i64 a,.string b,.int .i64 c,.slice d0 d1 d2,.int .i64 l] 40)) w.heap.size (.int .i64 6) (.string (za t.s)) (.int .i64 0) (.slice (some ⟨w4.heap.size,0,none⟩) 1 1) (.int .i64 t.line))
  have hp:zI r g w (uu t (.ok (x,us))) (.returned (.agg #[.int .i64 6,.string (za t.s),.int .i64 0,.slice (some ⟨w4.heap.size,0,none⟩) 1 1,.int .i64 t.line])) (set5 (w4.alloc (.cells #[.int .i64 a,.string b,.int .i64 c,.slice d0 d1 d2,.int .i64 l] 40)) w.heap.size (.int .i64 6) (.string (za t.s)) (.int .i64 0) (.slice (some ⟨w4.heap.size,0,none⟩) 1 1) (.int .i64 t.line)) :=
   zI.of_set5 (B:=w3.heap.size) 6 t.s 0 t.line (HK4.out.alloc _) (Nat.le_refl _) hr hgw (zG.one 40 (c:=[.int .i64 a,.string b,.int .i64 c,.slice d0 d1 d2,.int .i64 l]) HX4.out rfl hsz4) (by omega) (hrd4.keep (Below.heap_alloc _ _ _ (by have:=HK4.out.size;omega)) (Below.heap_alloc _ _ _ (by have:=HK4.out.size;omega)))
  generalize set5 (w4.alloc (.cells #[.int .i64 a,.string b,.int .i64 c,.slice d0 d1 d2,.int .i64 l] 40)) w.heap.size (.int .i64 6) (.string (za t.s)) (.int .i64 0) (.slice (some ⟨w4.heap.size,0,none⟩) 1 1) (.int .i64 t.line)=W at *;have HP:Hid (zI r g w (uu t (.ok (x,us))) (.returned (.agg #[.int .i64 6,.string (za t.s),.int .i64 0,.slice (some ⟨w4.heap.size,0,none⟩) 1 1,.int .i64 t.line])) W):=hp;clear hp p5 hr4 hrd4 q0 q1 q2 q3 q4 qf qf' q0' q1' q2' q3' q4' c1'' c3'' c1' c3' c1 c3 p4 HK4 hsz4 HX4 HR4 cu' HK3 hl2;go_wp2
  exact bodyPost_ret (v:=.agg #[.int .i64 6,.string (za t.s),.int .i64 0,.slice (some ⟨w4.heap.size,0,none⟩) 1 1,.int .i64 t.line]) (by simp [results,Tryz.results115,go_sem,z0,z1,z2,z3,z4]) rfl HP.out
end Go.Proofs.YtdgpapchkpnijaaGreatDoor
