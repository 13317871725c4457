import Derived.Test.YtmbofhpmockmbaaGreatDoorMC18
namespace Go.Proofs.YtmbofhpmockmbaaGreatDoor
open Go.RowKit Go.Shelf
set_option maxHeartbeats 16000000
set_option maxRecDepth 100000
theorem zb.grown {r:Nat} {w w1 w2:World} {row:Option Nat} (h:zb r w w1) (hg:w1.grownBy w2 row) (hrow:∀k,row=some k→w.heap.size≤k):zb r w w2 :=
 ⟨hg.os.trans h.os,hg.tape.trans h.tape,hg.output.trans h.output,Nat.le_trans h.size hg.size,fun k hk hr=>(hg.block k (Nat.lt_of_lt_of_le hk h.size) fun e=>by have:=hrow k e.symm;omega).trans (h.block k hk hr)⟩
theorem Vt:(Tryz.prog.info? 90).map (fun i=>(i.zero,i.size,i.bytes))=some (some (.agg #[.int .i64 0,.string ⟨#[]⟩,.int .i64 0,.slice none 0 0,.int .i64 0]),5,64):=by kernel_rfl
theorem Ut (r g o cap F:Nat) (ts:List Tk) (w:World) (res:PR (List Ex)) (h:zc r g o cap ts w) (hE:zi ts) (hN:ts.length≤1099511627776) (hp:ZE (F+1) [] ts=some res)
  (hone:∀I o1 z y r1,zd F 1 y=some r1→zi y→y.length≤1099511627776→zc r g o1 z y I→zb r w I→Calls Tryz.prog 74 #[.pointer (some ⟨r,0,none⟩)] I (zj r g I r1)) :
  Calls Tryz.prog 178 #[.pointer (some ⟨r,0,none⟩),.func (.func 74) #[.pointer (some ⟨r,0,none⟩)] #[]] w (yN r g w res):=by
 obtain ⟨i0,aK,aI,aN,aL⟩:=info_parts Vt;obtain ⟨t0,ax,rfl⟩:=hE.cons;have hr:=h.lt.1;have aV:=h.lt.2;rw [ZE] at hp;cases hb:zd F 1 (t0::ax) with
 | none=>rw [hb] at hp;cases hp
 | some r1 =>
  have c1:=hone w o cap (t0::ax) r1 hb hE hN h (zb.refl r w);rw [hb] at hp;simp only [zo] at hp
  go_enter Tryz.func178,Tryz.ntmps178
  go_wp2_with fail
  refine c1.mono ?_;clear c1;rintro e I ⟨Z,A⟩;rcases r1 with a | ⟨x,us⟩
  ·obtain rfl:=A
   simp only [Option.some.injEq] at hp;subst hp;exact ⟨rfl,Z,rfl⟩
  ·obtain ⟨v,o1,z,rfl,hx,V⟩:=A
   obtain ⟨a,b,c,d0,d1,d2,l,rfl⟩:=hx.agg;have ak:=(zU F).1 _ _ _ _ hb hE;have az:=Zy hb;have HP:Hid (Ys F [x] us=some res):=hp;obtain ⟨t1,y,rfl⟩:=ak.cons
   have aA:Hid (Ze uJ 5 90 w.heap.size (I.alloc (.cells #[.int .i64 a,.string b,.int .i64 c,.slice d0 d1 d2,.int .i64 l] 90)) [x] (.slice (some ⟨I.heap.size,0,none⟩) 1 1) I.heap.size 1 [[.int .i64 a,.string b,.int .i64 c,.slice d0 d1 d2,.int .i64 l]]) :=
    Ze.first yZ (c:=[.int .i64 a,.string b,.int .i64 c,.slice d0 d1 d2,.int .i64 l]) (show zA _ _ _ _ from hx) rfl Z.size
   have aD:Hid (zc r g o1 z (t1::y) (I.alloc (.cells #[.int .i64 a,.string b,.int .i64 c,.slice d0 d1 d2,.int .i64 l] 90))):=V.alloc _;have aw:Hid (zb r w (I.alloc (.cells #[.int .i64 a,.string b,.int .i64 c,.slice d0 d1 d2,.int .i64 l] 90))):=Z.alloc _;have ar:Hid (zi (t1::y)):=ak;have hn:y.length+2≤1099511627776:=by simp only [List.length_cons] at az hN;omega
   have aB:Hid (∀I o1 z y r1,zd F 1 y=some r1→zi y→y.length≤1099511627776→zc r g o1 z y I→zb r w I→Calls Tryz.prog 74 #[.pointer (some ⟨r,0,none⟩)] I (zj r g I r1)):=hone;clear hx V Z ak hone hp hb hE hN h az;go_wp2_with fail
   go_loopw [5] (fun v wr=>∃(L:List Ex) (Y z:Nat) (us:List (List Value)) (o2 M:Nat) (R:List Tk) (f2:Nat),f2≤F∧Ys f2 L R=some res∧zi R∧L.length+R.length≤1099511627776∧Ze uJ 5 90 w.heap.size wr L v Y z us∧zc r g o2 M R wr∧zb r w wr) (fun _ wr=>Za r wr)
   case atStart=>exact ⟨[x],_,_,_,o1,z,t1::y,F,Nat.le_refl _,HP.out,ar.out,by simp only [List.length_cons,List.length_nil];omega,aA.out,aD.out,aw.out⟩
   case round =>
    obtain ⟨L,Y,O,us,o2,M,R,f2,aQ,E,Q,ab,K,N,al⟩:=hrel;clear HP aA aD aw ar hn;obtain ⟨t2,S,rfl⟩:=Q.cons;have cs:=z6 r g o2 M t2 S [44] wr N (fun hi=>(Q.tail (zg hi)).ne)
    have am:=N.left;have X:Hid (Ze uJ 5 90 w.heap.size wr L _ Y O us):=K;have aj:Hid (zb r w wr):=al;have aq:=K.val;subst aq
    unfold Ys at E
    simp only [zE,List.tail_cons] at E
    by_cases hi:zp t2 [44]=true
    ·rw [hi] at cs
     rw [if_pos hi] at E;have ay:=Q.tail (zg hi);clear K al N Q;go_wp2_with fail
     refine cs.mono ?_;clear cs;rintro e w3 ⟨rfl,D,h3⟩;simp only [if_true] at h3;have an:zb r w w3:=aj.out.trans D;have H:=X.out.kept yZ D.size fun k hB hlt=>D.block k hlt (by omega)
     cases f2 with
     | zero=>simp [ZE] at E
     | succ f3 =>
      rw [ZE] at E;cases hb3:zd f3 1 S with
      | none=>rw [hb3] at E;cases E
      | some r3 =>
       rw [hb3] at E;simp only [zo] at E
       have ah:zd F 1 S=some r3:=by
        have:=ZO (k:=F-f3) hb3
        rwa [show f3+(F-f3)=F by omega] at this
       have c3:=aB.out w3 _ _ S r3 ah ay (by simp only [List.length_cons] at ab;omega) h3 an
       have aR:=H.block;have G:Hid (Ze uJ 5 90 w.heap.size w3 L _ Y O us):=H;have af:Hid (zb r w w3):=an;clear H an D h3 X aj;go_wp2_with fail
       refine c3.mono ?_;clear c3;rintro e w4 ⟨ae,A⟩;have ad:Hid (zb r w w4):=af.out.trans ae;rcases r3 with a | ⟨x3,aa⟩
       ·obtain rfl:=A
        simp only [Option.some.injEq] at E;subst E;exact ⟨rfl,ad.out,rfl⟩
       ·obtain ⟨v,o4,T,rfl,hx,V⟩:=A
        obtain ⟨a4,b4,c4,p4,q4,s4,l4,rfl⟩:=hx.agg;have J:=G.out.kept yZ ae.size fun k hB hlt=>ae.block k hlt (by omega)
        have aC:uJ (fun k=>w.heap.size≤k∧k≠Y) w4 x3 [.int .i64 a4,.string b4,.int .i64 c4,.slice p4 q4 s4,.int .i64 l4]:=zA.wide hx fun k hk=>⟨Nat.le_trans af.out.size hk,by omega⟩
        have aJ:Hid (uJ (fun k=>w.heap.size≤k∧k≠Y) w4 x3 [.int .i64 a4,.string b4,.int .i64 c4,.slice p4 q4 s4,.int .i64 l4]):=aC
        have ap:Hid (Ze uJ 5 90 w.heap.size w4 L _ Y O us):=J;have aM:Hid (zc r g o4 T aa w4):=V;have aF:=(zU F).1 _ _ _ _ ah ay;have aU:=Zy ah;have au:=(J.own.alloc (.cells #[.int .i64 a4,.string b4,.int .i64 c4,.slice p4 q4 s4,.int .i64 l4] 90));have HT:Hid (Ys f3 (L++[x3]) aa=some res):=E;have aP:w.heap.size≤w4.heap.size:=ad.out.size;clear J aC hx V E ae
        go_wp2_with (at_builtin;refine wpList_append_own_at _ rfl _ _ 88 rfl w.heap.size 90 i0 _ 5 64 Tryz.underlying88 aK aI aN aL rfl (by decide) _ _ _ rfl au ⟨w4.heap.size,0,none⟩ 1 1 [.int .i64 a4,.string b4,.int .i64 c4,.slice p4 q4 s4,.int .i64 l4] rfl rfl (yI _ _ _) (by simp [Value.oneCell']) (by unfold maxLen;simp only [List.length_cons] at ab;omega) (by simp only [List.length_cons] at ab;omega) (by simp;omega) ?_;intro v' w5 ao W _ aO)
        obtain ⟨g5,av,ai,aS⟩:=ap.out.snoc yZ aJ.out rfl ao W aO
        have U:(w4.alloc (.cells #[.int .i64 a4,.string b4,.int .i64 c4,.slice p4 q4 s4,.int .i64 l4] 90)).grownBy w5 (some Y):=W;have aH:zb r w w5:=(ad.out.alloc _).grown U fun k hk=>by have:=Option.some.inj hk;omega
        have aT:w.heap.size≤w4.heap.size:=ad.out.size;have ag:zc r g o4 T aa w5:=aM.out.keep ((U.block r (by simp;omega) (fun e=>by have:=Option.some.inj e;omega)).trans (Below.heap_alloc _ _ _ (by omega))) ((U.block g (by simp;omega) (fun e=>by have:=Option.some.inj e;omega)).trans (Below.heap_alloc _ _ _ (by omega)))
        refine ⟨⟨L++[x3],g5,av,_,o4,T,aa,f3,by omega,HT.out,aF,?_,ai,ag,aH⟩,?_⟩
        ·simp only [List.length_append,List.length_cons,List.length_nil] at ab ⊢;omega
        ·rw [ag.left,am];simp only [List.length_cons];omega
    ·have aE:zp t2 [44]=false:=by simpa using hi
     rw [aE] at cs;rw [if_neg hi] at E;clear K al N Q;go_wp2_with fail
     refine cs.mono ?_;clear cs;rintro e w3 ⟨rfl,D,h3⟩;have af:Hid (zb r w w3):=aj.out.trans D;have G:Hid (Zn w.heap.size w3 L (.slice (some ⟨Y,0,none⟩) L.length O)):=(X.out.kept yZ D.size fun k hB hlt=>D.block k hlt (by omega)).row
     have aG:Hid (zc r g o2 M (t2::S) w3):=show zc _ _ _ _ _ _ by simpa using h3
     simp only [Option.some.injEq] at E;subst E;clear D h3;go_wp2
     refine bodyPost_ret (v:=.slice (some ⟨Y,0,none⟩) L.length O) (by simp [results,Tryz.results178,go_sem]) rfl ⟨af.out,_,_,_,rfl,G.out,aG.out⟩
theorem zG.one {S:Nat→Prop} {w:World} {x:Ex} {c:List Value} (ty:Nat) (hx:zA S w x (.agg c.toArray)) (hc:c.length=5) (hB:S w.heap.size):zG S (w.alloc (.cells c.toArray ty)) [x] (.slice (some ⟨w.heap.size,0,none⟩) 1 1):=by
 refine .inr ⟨w.heap.size,1,[c],rfl,by simp,rfl,hB,by simp,Nat.le_refl _,by simp [maxLen],fun j u hj=>?_,fun z hz=>?_,fun j z e hz he=>?_⟩
 ·have h:=yI w c ty j u (by simpa using hj)
  by_cases h0:j=0
  ·subst h0;simpa [Addr.add] using h
  ·simpa [Addr.add,h0] using h
 ·simp only [List.mem_cons,List.not_mem_nil,or_false] at hz
  subst hz;exact hc
 ·match j,hz,he with
  | 0,hz,he =>
   simp only [List.getElem?_cons_zero,Option.some.injEq] at hz he
   subst hz he;exact zA.kept hx (by simp) fun k _ hlt=>Below.heap_alloc _ _ _ hlt
  | j+1,hz,he=>simp at hz
theorem zG.two {S:Nat→Prop} {w:World} {x y:Ex} {c d:List Value} (ty:Nat) (hx:zA S w x (.agg c.toArray)) (hy:zA S w y (.agg d.toArray)) (hc:c.length=5) (hd:d.length=5) (hB:S w.heap.size) :
  zG S (w.alloc (.cells (c++d).toArray ty)) [x,y] (.slice (some ⟨w.heap.size,0,none⟩) 2 2):=by
 refine .inr ⟨w.heap.size,2,[c,d],rfl,by simp,rfl,hB,by simp,Nat.le_refl _,by simp [maxLen],fun j u hj=>?_,fun z hz=>?_,fun j z e hz he=>?_⟩
 ·have h:=yI w (c++d) ty j u (by simpa using hj)
  by_cases h0:j=0
  ·subst h0;simpa [Addr.add] using h
  ·simpa [Addr.add,h0] using h
 ·simp only [List.mem_cons,List.not_mem_nil,or_false] at hz
  rcases hz with rfl | rfl <;> assumption
 ·have o:∀z e,zA S w z (.agg e)→zA S (w.alloc (.cells (c++d).toArray ty)) z (.agg e):=fun z e h=>zA.kept h (by simp) fun k _ hlt=>Below.heap_alloc _ _ _ hlt
  match j,hz,he with
  | 0,hz,he =>
   simp only [List.getElem?_cons_zero,Option.some.injEq] at hz he;subst hz he;exact o _ _ hx
  | 1,hz,he =>
   simp only [List.getElem?_cons_succ,List.getElem?_cons_zero,Option.some.injEq] at hz he;subst hz he;exact o _ _ hy
  | j+2,hz,he=>simp at hz
theorem yh {w:World} {N M j:Nat} {v:Value} (a b c d e:Value) (hne:M≠N) (h:w.cell? ⟨M,j,none⟩=some v):(set5 w N a b c d e).cell? ⟨M,j,none⟩=some v:=by
 exact (World.cell?_of_block (a:=⟨M,j,none⟩) (zh w N a b c d e hne)).trans h
theorem zj.of_set5 {r g o cap N B:Nat} {w w5:World} {us:List Tk} {l:List Ex} {v:Value} (k:Nat) (s:List UInt8) (n:Int) (line:Nat) (hK:zb r w w5) (hN:w.heap.size≤N) (hr:r<w.heap.size) (hg:g<w.heap.size) (hrow:Zn B w5 l v) (hB:N<B) (hrd:zc r g o cap us w5) :
  zj r g w (.ok (.mk k s n l line,us)) (.returned (.agg #[.int .i64 k,.string (za s),.int .i64 n,v,.int .i64 line])) (set5 w5 N (.int .i64 k) (.string (za s)) (.int .i64 n) v (.int .i64 line)):=by
 refine ⟨Zu hK hN _ _ _ _ _,_,o,cap,rfl,?_,hrd.keep (zh _ _ _ _ _ _ _ (by omega)) (zh _ _ _ _ _ _ _ (by omega))⟩
 have h:=hrow.kept (w':=set5 w5 N (.int .i64 k) (.string (za s)) (.int .i64 n) v (.int .i64 line)) (by simp) fun k hB _=>zh _ _ _ _ _ _ _ (by omega)
 exact zN.of_row (h.mono (by omega)) k s n line
theorem zj.of_set5' {r g o cap N B:Nat} {w w5:World} {us:List Tk} {x:Ex} {a b c d e:Value} (hK:zb r w w5) (hN:w.heap.size≤N) (hr:r<w.heap.size) (hg:g<w.heap.size) (hx:zN B w5 x (.agg #[a,b,c,d,e])) (hB:N<B) (hrd:zc r g o cap us w5) :
  zj r g w (.ok (x,us)) (.returned (.agg #[a,b,c,d,e])) (set5 w5 N a b c d e):=by
 refine ⟨Zu hK hN _ _ _ _ _,_,o,cap,rfl,?_,hrd.keep (zh _ _ _ _ _ _ _ (by omega)) (zh _ _ _ _ _ _ _ (by omega))⟩
 exact zN.mono (zN.kept hx (w':=set5 w5 N a b c d e) (by simp) fun k hB _=>zh _ _ _ _ _ _ _ (by omega)) (by omega)
end Go.Proofs.YtmbofhpmockmbaaGreatDoor
