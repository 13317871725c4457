import Derived.Test.YtmbofhpmockmbaaGreatDoorMC22
namespace Go.Proofs.YtmbofhpmockmbaaGreatDoor
open Go.RowKit Go.Shelf
set_option maxHeartbeats 16000000
set_option maxRecDepth 100000
theorem zb.grown {r:Nat} {w w1 w2:World} {row:Option Nat} (h:zb r w w1) (hg:w1.grownBy w2 row) (hrow:∀k,row=some k→w.heap.size≤k):zb r w w2 :=
 ⟨hg.os.trans h.os,hg.tape.trans h.tape,hg.output.trans h.output,Nat.le_trans h.size hg.size,fun k hk hr=>(hg.block k (Nat.lt_of_lt_of_le hk h.size) fun e=>by have:=hrow k e.symm;omega).trans (h.block k hk hr)⟩
theorem uD:(Tryz.prog.info? 90).map (fun i=>(i.zero,i.size,i.bytes))=some (some (.agg #[.int .i64 0,.string ⟨#[]⟩,.int .i64 0,.slice none 0 0,.int .i64 0]),5,64):=by kernel_rfl
theorem qG (r g o cap F:Nat) (ts:List Tk) (w:World) (res:PR (List Ex)) (h:zc r g o cap ts w) (hE:zk ts) (hN:ts.length≤1099511627776) (hp:ZQ (F+1) [] ts=some res)
  (hone:∀G o1 z y r1,zd F 1 y=some r1→zk y→y.length≤1099511627776→zc r g o1 z y G→zb r w G→Calls Tryz.prog 74 #[.pointer (some ⟨r,0,none⟩)] G (zl r g G r1)) :
  Calls Tryz.prog 178 #[.pointer (some ⟨r,0,none⟩),.func (.func 74) #[.pointer (some ⟨r,0,none⟩)] #[]] w (Yl r g w res):=by
 obtain ⟨i0,aI,aO,aH,aM⟩:=info_parts uD;obtain ⟨t0,aA,rfl⟩:=hE.cons;have hr:=h.lt.1;have aR:=h.lt.2;rw [ZQ] at hp;cases hb:zd F 1 (t0::aA) with
 | none=>rw [hb] at hp;cases hp
 | some r1 =>
  have c1:=hone w o cap (t0::aA) r1 hb hE hN h (zb.refl r w);rw [hb] at hp;simp only [zp] at hp
  go_enter Tryz.func178,Tryz.ntmps178
  go_wp2_with fail
  refine c1.mono ?_;clear c1;rintro e G ⟨aa,A⟩;rcases r1 with a | ⟨x,us⟩
  ·obtain rfl:=A
   simp only [Option.some.injEq] at hp;subst hp;exact ⟨rfl,aa,rfl⟩
  ·obtain ⟨v,o1,z,rfl,hx,Q⟩:=A
   obtain ⟨a,b,c,d0,d1,d2,l,rfl⟩:=hx.agg;have an:=(Zd F).1 _ _ _ _ hb hE;have aE:=ZM hb;have HP:Hid (Y9 F [x] us=some res):=hp;obtain ⟨t1,y,rfl⟩:=an.cons
   have ax:Hid (Zq UZ 5 90 w.heap.size (G.alloc (.cells #[.int .i64 a,.string b,.int .i64 c,.slice d0 d1 d2,.int .i64 l] 90)) [x] (.slice (some ⟨G.heap.size,0,none⟩) 1 1) G.heap.size 1 [[.int .i64 a,.string b,.int .i64 c,.slice d0 d1 d2,.int .i64 l]]) :=
    Zq.first YC (c:=[.int .i64 a,.string b,.int .i64 c,.slice d0 d1 d2,.int .i64 l]) (show zC _ _ _ _ from hx) rfl aa.size
   have aB:Hid (zc r g o1 z (t1::y) (G.alloc (.cells #[.int .i64 a,.string b,.int .i64 c,.slice d0 d1 d2,.int .i64 l] 90))):=Q.alloc _;have aw:Hid (zb r w (G.alloc (.cells #[.int .i64 a,.string b,.int .i64 c,.slice d0 d1 d2,.int .i64 l] 90))):=aa.alloc _;have aD:Hid (zk (t1::y)):=an;have hn:y.length+2≤1099511627776:=by simp only [List.length_cons] at aE hN;omega
   have au:Hid (∀G o1 z y r1,zd F 1 y=some r1→zk y→y.length≤1099511627776→zc r g o1 z y G→zb r w G→Calls Tryz.prog 74 #[.pointer (some ⟨r,0,none⟩)] G (zl r g G r1)):=hone;clear hx Q aa an hone hp hb hE hN h aE;go_wp2_with fail
   go_loopw [5] (fun v wr=>∃(L:List Ex) (g1 z:Nat) (us:List (List Value)) (o2 K:Nat) (X:List Tk) (f2:Nat),f2≤F∧Y9 f2 L X=some res∧zk X∧L.length+X.length≤1099511627776∧Zq UZ 5 90 w.heap.size wr L v g1 z us∧zc r g o2 K X wr∧zb r w wr) (fun _ wr=>Zm r wr)
   case atStart=>exact ⟨[x],_,_,_,o1,z,t1::y,F,Nat.le_refl _,HP.out,aD.out,by simp only [List.length_cons,List.length_nil];omega,ax.out,aB.out,aw.out⟩
   case round =>
    obtain ⟨L,g1,V,us,o2,K,X,f2,aT,E,U,ae,M,O,am⟩:=hrel;clear HP ax aB aw aD hn;obtain ⟨t2,W,rfl⟩:=U.cons;have cs:=Zi r g o2 K t2 W [44] wr O (fun hi=>(U.tail (zi hi)).ne)
    have ak:=O.left;have Y:Hid (Zq UZ 5 90 w.heap.size wr L _ g1 V us):=M;have ao:Hid (zb r w wr):=am;have ar:=M.val;subst ar
    unfold Y9 at E
    simp only [zH,List.tail_cons] at E
    by_cases hi:zq t2 [44]=true
    ·rw [hi] at cs
     rw [if_pos hi] at E;have aC:=U.tail (zi hi);clear M am O U;go_wp2_with fail
     refine cs.mono ?_;clear cs;rintro e w3 ⟨rfl,D,h3⟩;simp only [if_true] at h3;have aq:zb r w w3:=ao.out.trans D;have H:=Y.out.kept YC D.size fun k hB hlt=>D.block k hlt (by omega)
     cases f2 with
     | zero=>simp [ZQ] at E
     | succ f3 =>
      rw [ZQ] at E;cases hb3:zd f3 1 W with
      | none=>rw [hb3] at E;cases E
      | some r3 =>
       rw [hb3] at E;simp only [zp] at E
       have ap:zd F 1 W=some r3:=by
        have:=Z2 (k:=F-f3) hb3
        rwa [show f3+(F-f3)=F by omega] at this
       have c3:=au.out w3 _ _ W r3 ap aC (by simp only [List.length_cons] at ae;omega) h3 aq
       have aW:=H.block;have J:Hid (Zq UZ 5 90 w.heap.size w3 L _ g1 V us):=H;have af:Hid (zb r w w3):=aq;clear H aq D h3 Y ao;go_wp2_with fail
       refine c3.mono ?_;clear c3;rintro e w4 ⟨ab,A⟩;have ag:Hid (zb r w w4):=af.out.trans ab;rcases r3 with a | ⟨x3,ad⟩
       ·obtain rfl:=A
        simp only [Option.some.injEq] at E;subst E;exact ⟨rfl,ag.out,rfl⟩
       ·obtain ⟨v,o4,Z,rfl,hx,Q⟩:=A
        obtain ⟨a4,b4,c4,p4,q4,s4,l4,rfl⟩:=hx.agg;have I:=J.out.kept YC ab.size fun k hB hlt=>ab.block k hlt (by omega)
        have ay:UZ (fun k=>w.heap.size≤k∧k≠g1) w4 x3 [.int .i64 a4,.string b4,.int .i64 c4,.slice p4 q4 s4,.int .i64 l4]:=zC.wide hx fun k hk=>⟨Nat.le_trans af.out.size hk,by omega⟩
        have aJ:Hid (UZ (fun k=>w.heap.size≤k∧k≠g1) w4 x3 [.int .i64 a4,.string b4,.int .i64 c4,.slice p4 q4 s4,.int .i64 l4]):=ay
        have aj:Hid (Zq UZ 5 90 w.heap.size w4 L _ g1 V us):=I;have aP:Hid (zc r g o4 Z ad w4):=Q;have aL:=(Zd F).1 _ _ _ _ ap aC;have aU:=ZM ap;have av:=(I.own.alloc (.cells #[.int .i64 a4,.string b4,.int .i64 c4,.slice p4 q4 s4,.int .i64 l4] 90));have HT:Hid (Y9 f3 (L++[x3]) ad=some res):=E;have aQ:w.heap.size≤w4.heap.size:=ag.out.size;clear I ay hx Q E ab
        go_wp2_with (at_builtin;refine wpList_append_own_at _ rfl _ _ 88 rfl w.heap.size 90 i0 _ 5 64 Tryz.underlying88 aI aO aH aM rfl (by decide) _ _ _ rfl av ⟨w4.heap.size,0,none⟩ 1 1 [.int .i64 a4,.string b4,.int .i64 c4,.slice p4 q4 s4,.int .i64 l4] rfl rfl (Ye _ _ _) (by simp [Value.oneCell']) (by unfold maxLen;simp only [List.length_cons] at ae;omega) (by simp only [List.length_cons] at ae;omega) (by simp;omega) ?_;intro v' w5 ai T _ aG)
        obtain ⟨g5,az,al,aV⟩:=aj.out.snoc YC aJ.out rfl ai T aG
        have R:(w4.alloc (.cells #[.int .i64 a4,.string b4,.int .i64 c4,.slice p4 q4 s4,.int .i64 l4] 90)).grownBy w5 (some g1):=T;have aN:zb r w w5:=(ag.out.alloc _).grown R fun k hk=>by have:=Option.some.inj hk;omega
        have aS:w.heap.size≤w4.heap.size:=ag.out.size;have ah:zc r g o4 Z ad w5:=aP.out.keep ((R.block r (by simp;omega) (fun e=>by have:=Option.some.inj e;omega)).trans (Below.heap_alloc _ _ _ (by omega))) ((R.block g (by simp;omega) (fun e=>by have:=Option.some.inj e;omega)).trans (Below.heap_alloc _ _ _ (by omega)))
        refine ⟨⟨L++[x3],g5,az,_,o4,Z,ad,f3,by omega,HT.out,aL,?_,al,ah,aN⟩,?_⟩
        ·simp only [List.length_append,List.length_cons,List.length_nil] at ae ⊢;omega
        ·rw [ah.left,ak];simp only [List.length_cons];omega
    ·have aF:zq t2 [44]=false:=by simpa using hi
     rw [aF] at cs;rw [if_neg hi] at E;clear M am O U;go_wp2_with fail
     refine cs.mono ?_;clear cs;rintro e w3 ⟨rfl,D,h3⟩;have af:Hid (zb r w w3):=ao.out.trans D;have J:Hid (Zz w.heap.size w3 L (.slice (some ⟨g1,0,none⟩) L.length V)):=(Y.out.kept YC D.size fun k hB hlt=>D.block k hlt (by omega)).row
     have aK:Hid (zc r g o2 K (t2::W) w3):=show zc _ _ _ _ _ _ by simpa using h3
     simp only [Option.some.injEq] at E;subst E;clear D h3;go_wp2
     refine bodyPost_ret (v:=.slice (some ⟨g1,0,none⟩) L.length V) (by simp [results,Tryz.results178,go_sem]) rfl ⟨af.out,_,_,_,rfl,J.out,aK.out⟩
theorem zO.one {S:Nat→Prop} {w:World} {x:Ex} {c:List Value} (ty:Nat) (hx:zC S w x (.agg c.toArray)) (hc:c.length=5) (hB:S w.heap.size):zO S (w.alloc (.cells c.toArray ty)) [x] (.slice (some ⟨w.heap.size,0,none⟩) 1 1):=by
 refine .inr ⟨w.heap.size,1,[c],rfl,by simp,rfl,hB,by simp,Nat.le_refl _,by simp [maxLen],fun j u hj=>?_,fun z hz=>?_,fun j z e hz he=>?_⟩
 ·have h:=Ye w c ty j u (by simpa using hj)
  by_cases h0:j=0
  ·subst h0;simpa [Addr.add] using h
  ·simpa [Addr.add,h0] using h
 ·simp only [List.mem_cons,List.not_mem_nil,or_false] at hz
  subst hz;exact hc
 ·match j,hz,he with
  | 0,hz,he =>
   simp only [List.getElem?_cons_zero,Option.some.injEq] at hz he
   subst hz he;exact zC.kept hx (by simp) fun k _ hlt=>Below.heap_alloc _ _ _ hlt
  | j+1,hz,he=>simp at hz
theorem zO.two {S:Nat→Prop} {w:World} {x y:Ex} {c d:List Value} (ty:Nat) (hx:zC S w x (.agg c.toArray)) (hy:zC S w y (.agg d.toArray)) (hc:c.length=5) (hd:d.length=5) (hB:S w.heap.size) :
  zO S (w.alloc (.cells (c++d).toArray ty)) [x,y] (.slice (some ⟨w.heap.size,0,none⟩) 2 2):=by
 refine .inr ⟨w.heap.size,2,[c,d],rfl,by simp,rfl,hB,by simp,Nat.le_refl _,by simp [maxLen],fun j u hj=>?_,fun z hz=>?_,fun j z e hz he=>?_⟩
 ·have h:=Ye w (c++d) ty j u (by simpa using hj)
  by_cases h0:j=0
  ·subst h0;simpa [Addr.add] using h
  ·simpa [Addr.add,h0] using h
 ·simp only [List.mem_cons,List.not_mem_nil,or_false] at hz
  rcases hz with rfl | rfl <;> assumption
 ·have o:∀z e,zC S w z (.agg e)→zC S (w.alloc (.cells (c++d).toArray ty)) z (.agg e):=fun z e h=>zC.kept h (by simp) fun k _ hlt=>Below.heap_alloc _ _ _ hlt
  match j,hz,he with
  | 0,hz,he =>
   simp only [List.getElem?_cons_zero,Option.some.injEq] at hz he;subst hz he;exact o _ _ hx
  | 1,hz,he =>
   simp only [List.getElem?_cons_succ,List.getElem?_cons_zero,Option.some.injEq] at hz he;subst hz he;exact o _ _ hy
  | j+2,hz,he=>simp at hz
theorem yB {w:World} {N M j:Nat} {v:Value} (a b c d e:Value) (hne:M≠N) (h:w.cell? ⟨M,j,none⟩=some v):(set5 w N a b c d e).cell? ⟨M,j,none⟩=some v:=by
 exact (World.cell?_of_block (a:=⟨M,j,none⟩) (zj w N a b c d e hne)).trans h
theorem zl.of_set5 {r g o cap N B:Nat} {w w5:World} {us:List Tk} {l:List Ex} {v:Value} (k:Nat) (s:List UInt8) (n:Int) (line:Nat) (hK:zb r w w5) (hN:w.heap.size≤N) (hr:r<w.heap.size) (hg:g<w.heap.size) (hrow:Zz B w5 l v) (hB:N<B) (hrd:zc r g o cap us w5) :
  zl r g w (.ok (.mk k s n l line,us)) (.returned (.agg #[.int .i64 k,.string (za s),.int .i64 n,v,.int .i64 line])) (set5 w5 N (.int .i64 k) (.string (za s)) (.int .i64 n) v (.int .i64 line)):=by
 refine ⟨ZF hK hN _ _ _ _ _,_,o,cap,rfl,?_,hrd.keep (zj _ _ _ _ _ _ _ (by omega)) (zj _ _ _ _ _ _ _ (by omega))⟩
 have h:=hrow.kept (w':=set5 w5 N (.int .i64 k) (.string (za s)) (.int .i64 n) v (.int .i64 line)) (by simp) fun k hB _=>zj _ _ _ _ _ _ _ (by omega)
 exact zX.of_row (h.mono (by omega)) k s n line
theorem zl.of_set5' {r g o cap N B:Nat} {w w5:World} {us:List Tk} {x:Ex} {a b c d e:Value} (hK:zb r w w5) (hN:w.heap.size≤N) (hr:r<w.heap.size) (hg:g<w.heap.size) (hx:zX B w5 x (.agg #[a,b,c,d,e])) (hB:N<B) (hrd:zc r g o cap us w5) :
  zl r g w (.ok (x,us)) (.returned (.agg #[a,b,c,d,e])) (set5 w5 N a b c d e):=by
 refine ⟨ZF hK hN _ _ _ _ _,_,o,cap,rfl,?_,hrd.keep (zj _ _ _ _ _ _ _ (by omega)) (zj _ _ _ _ _ _ _ (by omega))⟩
 exact zX.mono (zX.kept hx (w':=set5 w5 N a b c d e) (by simp) fun k hB _=>zj _ _ _ _ _ _ _ (by omega)) (by omega)
end Go.Proofs.YtmbofhpmockmbaaGreatDoor
