import Derived.Test.YtmbofhpmockmbaaGreatDoorMC18
namespace Go.Proofs.YtmbofhpmockmbaaGreatDoor
open Go.RowKit Go.Shelf
set_option maxHeartbeats 16000000
set_option maxRecDepth 100000
theorem zb.grown {r:Nat} {w w1 w2:World} {row:Option Nat} (h:zb r w w1) (hg:w1.grownBy w2 row) (hrow:∀k,row=some k→w.heap.size≤k):zb r w w2 :=
 ⟨hg.os.trans h.os,hg.tape.trans h.tape,hg.output.trans h.output,Nat.le_trans h.size hg.size,fun k hk hr=>(hg.block k (Nat.lt_of_lt_of_le hk h.size) fun e=>by have:=hrow k e.symm;omega).trans (h.block k hk hr)⟩
theorem VT:(Tryz.prog.info? 90).map (fun i=>(i.zero,i.size,i.bytes))=some (some (.agg #[.int .i64 0,.string ⟨#[]⟩,.int .i64 0,.slice none 0 0,.int .i64 0]),5,64):=by kernel_rfl
theorem UY (r g o cap F:Nat) (ts:List Tk) (w:World) (res:PR (List Ex)) (h:zc r g o cap ts w) (hE:zj ts) (hN:ts.length≤1099511627776) (hp:ZJ (F+1) [] ts=some res)
  (hone:∀I o1 z y r1,zd F 1 y=some r1→zj y→y.length≤1099511627776→zc r g o1 z y I→zb r w I→Calls Tryz.prog 74 #[.pointer (some ⟨r,0,none⟩)] I (zk r g I r1)) :
  Calls Tryz.prog 178 #[.pointer (some ⟨r,0,none⟩),.func (.func 74) #[.pointer (some ⟨r,0,none⟩)] #[]] w (y3 r g w res):=by
 obtain ⟨i0,aM,aO,aP,aH⟩:=info_parts VT;obtain ⟨t0,aA,rfl⟩:=hE.cons;have hr:=h.lt.1;have aV:=h.lt.2;rw [ZJ] at hp;cases hb:zd F 1 (t0::aA) with
 | none=>rw [hb] at hp;cases hp
 | some r1 =>
  have c1:=hone w o cap (t0::aA) r1 hb hE hN h (zb.refl r w);rw [hb] at hp;simp only [zo] at hp
  go_enter Tryz.func178,Tryz.ntmps178
  go_wp2_with fail
  refine c1.mono ?_;clear c1;rintro e I ⟨ad,A⟩;rcases r1 with a | ⟨x,us⟩
  ·obtain rfl:=A
   simp only [Option.some.injEq] at hp;subst hp;exact ⟨rfl,ad,rfl⟩
  ·obtain ⟨v,o1,z,rfl,hx,Q⟩:=A
   obtain ⟨a,b,c,d0,d1,d2,l,rfl⟩:=hx.agg;have am:=(zX F).1 _ _ _ _ hb hE;have aB:=ZD hb;have HP:Hid (YJ F [x] us=some res):=hp;obtain ⟨t1,y,rfl⟩:=am.cons
   have ay:Hid (Zi Uk 5 90 w.heap.size (I.alloc (.cells #[.int .i64 a,.string b,.int .i64 c,.slice d0 d1 d2,.int .i64 l] 90)) [x] (.slice (some ⟨I.heap.size,0,none⟩) 1 1) I.heap.size 1 [[.int .i64 a,.string b,.int .i64 c,.slice d0 d1 d2,.int .i64 l]]) :=
    Zi.first Yh (c:=[.int .i64 a,.string b,.int .i64 c,.slice d0 d1 d2,.int .i64 l]) (show zB _ _ _ _ from hx) rfl ad.size
   have aw:Hid (zc r g o1 z (t1::y) (I.alloc (.cells #[.int .i64 a,.string b,.int .i64 c,.slice d0 d1 d2,.int .i64 l] 90))):=Q.alloc _;have aE:Hid (zb r w (I.alloc (.cells #[.int .i64 a,.string b,.int .i64 c,.slice d0 d1 d2,.int .i64 l] 90))):=ad.alloc _;have av:Hid (zj (t1::y)):=am;have hn:y.length+2≤1099511627776:=by simp only [List.length_cons] at aB hN;omega
   have ar:Hid (∀I o1 z y r1,zd F 1 y=some r1→zj y→y.length≤1099511627776→zc r g o1 z y I→zb r w I→Calls Tryz.prog 74 #[.pointer (some ⟨r,0,none⟩)] I (zk r g I r1)):=hone;clear hx Q ad am hone hp hb hE hN h aB;go_wp2_with fail
   go_loopw [5] (fun v wr=>∃(L:List Ex) (Z z:Nat) (us:List (List Value)) (o2 N:Nat) (W:List Tk) (f2:Nat),f2≤F∧YJ f2 L W=some res∧zj W∧L.length+W.length≤1099511627776∧Zi Uk 5 90 w.heap.size wr L v Z z us∧zc r g o2 N W wr∧zb r w wr) (fun _ wr=>Ze r wr)
   case atStart=>exact ⟨[x],_,_,_,o1,z,t1::y,F,Nat.le_refl _,HP.out,av.out,by simp only [List.length_cons,List.length_nil];omega,ay.out,aw.out,aE.out⟩
   case round =>
    obtain ⟨L,Z,T,us,o2,N,W,f2,aU,E,R,ag,M,K,an⟩:=hrel;clear HP ay aw aE av hn;obtain ⟨t2,X,rfl⟩:=R.cons;have cs:=Zb r g o2 N t2 X [44] wr K (fun hi=>(R.tail (zf hi)).ne)
    have ak:=K.left;have O:Hid (Zi Uk 5 90 w.heap.size wr L _ Z T us):=M;have ai:Hid (zb r w wr):=an;have aD:=M.val;subst aD
    unfold YJ at E
    simp only [zG,List.tail_cons] at E
    by_cases hi:zp t2 [44]=true
    ·rw [hi] at cs
     rw [if_pos hi] at E;have au:=R.tail (zf hi);clear M an K R;go_wp2_with fail
     refine cs.mono ?_;clear cs;rintro e w3 ⟨rfl,D,h3⟩;simp only [if_true] at h3;have aq:zb r w w3:=ai.out.trans D;have J:=O.out.kept Yh D.size fun k hB hlt=>D.block k hlt (by omega)
     cases f2 with
     | zero=>simp [ZJ] at E
     | succ f3 =>
      rw [ZJ] at E;cases hb3:zd f3 1 X with
      | none=>rw [hb3] at E;cases E
      | some r3 =>
       rw [hb3] at E;simp only [zo] at E
       have aj:zd F 1 X=some r3:=by
        have:=ZS (k:=F-f3) hb3
        rwa [show f3+(F-f3)=F by omega] at this
       have c3:=ar.out w3 _ _ X r3 aj au (by simp only [List.length_cons] at ag;omega) h3 aq
       have aW:=J.block;have G:Hid (Zi Uk 5 90 w.heap.size w3 L _ Z T us):=J;have ae:Hid (zb r w w3):=aq;clear J aq D h3 O ai;go_wp2_with fail
       refine c3.mono ?_;clear c3;rintro e w4 ⟨aa,A⟩;have ab:Hid (zb r w w4):=ae.out.trans aa;rcases r3 with a | ⟨x3,af⟩
       ·obtain rfl:=A
        simp only [Option.some.injEq] at E;subst E;exact ⟨rfl,ab.out,rfl⟩
       ·obtain ⟨v,o4,V,rfl,hx,Q⟩:=A
        obtain ⟨a4,b4,c4,p4,q4,s4,l4,rfl⟩:=hx.agg;have H:=G.out.kept Yh aa.size fun k hB hlt=>aa.block k hlt (by omega)
        have aC:Uk (fun k=>w.heap.size≤k∧k≠Z) w4 x3 [.int .i64 a4,.string b4,.int .i64 c4,.slice p4 q4 s4,.int .i64 l4]:=zB.wide hx fun k hk=>⟨Nat.le_trans ae.out.size hk,by omega⟩
        have aN:Hid (Uk (fun k=>w.heap.size≤k∧k≠Z) w4 x3 [.int .i64 a4,.string b4,.int .i64 c4,.slice p4 q4 s4,.int .i64 l4]):=aC
        have ap:Hid (Zi Uk 5 90 w.heap.size w4 L _ Z T us):=H;have aF:Hid (zc r g o4 V af w4):=Q;have aG:=(zX F).1 _ _ _ _ aj au;have aT:=ZD aj;have ax:=(H.own.alloc (.cells #[.int .i64 a4,.string b4,.int .i64 c4,.slice p4 q4 s4,.int .i64 l4] 90));have HT:Hid (YJ f3 (L++[x3]) af=some res):=E;have aQ:w.heap.size≤w4.heap.size:=ab.out.size;clear H aC hx Q E aa
        go_wp2_with (at_builtin;refine wpList_append_own_at _ rfl _ _ 88 rfl w.heap.size 90 i0 _ 5 64 Tryz.underlying88 aM aO aP aH rfl (by decide) _ _ _ rfl ax ⟨w4.heap.size,0,none⟩ 1 1 [.int .i64 a4,.string b4,.int .i64 c4,.slice p4 q4 s4,.int .i64 l4] rfl rfl (yU _ _ _) (by simp [Value.oneCell']) (by unfold maxLen;simp only [List.length_cons] at ag;omega) (by simp only [List.length_cons] at ag;omega) (by simp;omega) ?_;intro v' w5 al U _ aK)
        obtain ⟨g5,az,ao,aR⟩:=ap.out.snoc Yh aN.out rfl al U aK
        have Y:(w4.alloc (.cells #[.int .i64 a4,.string b4,.int .i64 c4,.slice p4 q4 s4,.int .i64 l4] 90)).grownBy w5 (some Z):=U;have aL:zb r w w5:=(ab.out.alloc _).grown Y fun k hk=>by have:=Option.some.inj hk;omega
        have aS:w.heap.size≤w4.heap.size:=ab.out.size;have ah:zc r g o4 V af w5:=aF.out.keep ((Y.block r (by simp;omega) (fun e=>by have:=Option.some.inj e;omega)).trans (Below.heap_alloc _ _ _ (by omega))) ((Y.block g (by simp;omega) (fun e=>by have:=Option.some.inj e;omega)).trans (Below.heap_alloc _ _ _ (by omega)))
        refine ⟨⟨L++[x3],g5,az,_,o4,V,af,f3,by omega,HT.out,aG,?_,ao,ah,aL⟩,?_⟩
        ·simp only [List.length_append,List.length_cons,List.length_nil] at ag ⊢;omega
        ·rw [ah.left,ak];simp only [List.length_cons];omega
    ·have aJ:zp t2 [44]=false:=by simpa using hi
     rw [aJ] at cs;rw [if_neg hi] at E;clear M an K R;go_wp2_with fail
     refine cs.mono ?_;clear cs;rintro e w3 ⟨rfl,D,h3⟩;have ae:Hid (zb r w w3):=ai.out.trans D;have G:Hid (Zr w.heap.size w3 L (.slice (some ⟨Z,0,none⟩) L.length T)):=(O.out.kept Yh D.size fun k hB hlt=>D.block k hlt (by omega)).row
     have aI:Hid (zc r g o2 N (t2::X) w3):=show zc _ _ _ _ _ _ by simpa using h3
     simp only [Option.some.injEq] at E;subst E;clear D h3;go_wp2
     refine bodyPost_ret (v:=.slice (some ⟨Z,0,none⟩) L.length T) (by simp [results,Tryz.results178,go_sem]) rfl ⟨ae.out,_,_,_,rfl,G.out,aI.out⟩
theorem zI.one {S:Nat→Prop} {w:World} {x:Ex} {c:List Value} (ty:Nat) (hx:zB S w x (.agg c.toArray)) (hc:c.length=5) (hB:S w.heap.size):zI S (w.alloc (.cells c.toArray ty)) [x] (.slice (some ⟨w.heap.size,0,none⟩) 1 1):=by
 refine .inr ⟨w.heap.size,1,[c],rfl,by simp,rfl,hB,by simp,Nat.le_refl _,by simp [maxLen],fun j u hj=>?_,fun z hz=>?_,fun j z e hz he=>?_⟩
 ·have h:=yU w c ty j u (by simpa using hj)
  by_cases h0:j=0
  ·subst h0;simpa [Addr.add] using h
  ·simpa [Addr.add,h0] using h
 ·simp only [List.mem_cons,List.not_mem_nil,or_false] at hz
  subst hz;exact hc
 ·match j,hz,he with
  | 0,hz,he =>
   simp only [List.getElem?_cons_zero,Option.some.injEq] at hz he
   subst hz he;exact zB.kept hx (by simp) fun k _ hlt=>Below.heap_alloc _ _ _ hlt
  | j+1,hz,he=>simp at hz
theorem zI.two {S:Nat→Prop} {w:World} {x y:Ex} {c d:List Value} (ty:Nat) (hx:zB S w x (.agg c.toArray)) (hy:zB S w y (.agg d.toArray)) (hc:c.length=5) (hd:d.length=5) (hB:S w.heap.size) :
  zI S (w.alloc (.cells (c++d).toArray ty)) [x,y] (.slice (some ⟨w.heap.size,0,none⟩) 2 2):=by
 refine .inr ⟨w.heap.size,2,[c,d],rfl,by simp,rfl,hB,by simp,Nat.le_refl _,by simp [maxLen],fun j u hj=>?_,fun z hz=>?_,fun j z e hz he=>?_⟩
 ·have h:=yU w (c++d) ty j u (by simpa using hj)
  by_cases h0:j=0
  ·subst h0;simpa [Addr.add] using h
  ·simpa [Addr.add,h0] using h
 ·simp only [List.mem_cons,List.not_mem_nil,or_false] at hz
  rcases hz with rfl | rfl <;> assumption
 ·have o:∀z e,zB S w z (.agg e)→zB S (w.alloc (.cells (c++d).toArray ty)) z (.agg e):=fun z e h=>zB.kept h (by simp) fun k _ hlt=>Below.heap_alloc _ _ _ hlt
  match j,hz,he with
  | 0,hz,he =>
   simp only [List.getElem?_cons_zero,Option.some.injEq] at hz he;subst hz he;exact o _ _ hx
  | 1,hz,he =>
   simp only [List.getElem?_cons_succ,List.getElem?_cons_zero,Option.some.injEq] at hz he;subst hz he;exact o _ _ hy
  | j+2,hz,he=>simp at hz
theorem yr {w:World} {N M j:Nat} {v:Value} (a b c d e:Value) (hne:M≠N) (h:w.cell? ⟨M,j,none⟩=some v):(set5 w N a b c d e).cell? ⟨M,j,none⟩=some v:=by
 exact (World.cell?_of_block (a:=⟨M,j,none⟩) (zi w N a b c d e hne)).trans h
theorem zk.of_set5 {r g o cap N B:Nat} {w w5:World} {us:List Tk} {l:List Ex} {v:Value} (k:Nat) (s:List UInt8) (n:Int) (line:Nat) (hK:zb r w w5) (hN:w.heap.size≤N) (hr:r<w.heap.size) (hg:g<w.heap.size) (hrow:Zr B w5 l v) (hB:N<B) (hrd:zc r g o cap us w5) :
  zk r g w (.ok (.mk k s n l line,us)) (.returned (.agg #[.int .i64 k,.string (za s),.int .i64 n,v,.int .i64 line])) (set5 w5 N (.int .i64 k) (.string (za s)) (.int .i64 n) v (.int .i64 line)):=by
 refine ⟨Zx hK hN _ _ _ _ _,_,o,cap,rfl,?_,hrd.keep (zi _ _ _ _ _ _ _ (by omega)) (zi _ _ _ _ _ _ _ (by omega))⟩
 have h:=hrow.kept (w':=set5 w5 N (.int .i64 k) (.string (za s)) (.int .i64 n) v (.int .i64 line)) (by simp) fun k hB _=>zi _ _ _ _ _ _ _ (by omega)
 exact zQ.of_row (h.mono (by omega)) k s n line
theorem zk.of_set5' {r g o cap N B:Nat} {w w5:World} {us:List Tk} {x:Ex} {a b c d e:Value} (hK:zb r w w5) (hN:w.heap.size≤N) (hr:r<w.heap.size) (hg:g<w.heap.size) (hx:zQ B w5 x (.agg #[a,b,c,d,e])) (hB:N<B) (hrd:zc r g o cap us w5) :
  zk r g w (.ok (x,us)) (.returned (.agg #[a,b,c,d,e])) (set5 w5 N a b c d e):=by
 refine ⟨Zx hK hN _ _ _ _ _,_,o,cap,rfl,?_,hrd.keep (zi _ _ _ _ _ _ _ (by omega)) (zi _ _ _ _ _ _ _ (by omega))⟩
 exact zQ.mono (zQ.kept hx (w':=set5 w5 N a b c d e) (by simp) fun k hB _=>zi _ _ _ _ _ _ _ (by omega)) (by omega)
end Go.Proofs.YtmbofhpmockmbaaGreatDoor
