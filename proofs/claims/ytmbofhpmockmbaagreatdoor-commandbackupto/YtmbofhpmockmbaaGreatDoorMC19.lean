import Derived.Test.YtmbofhpmockmbaaGreatDoorMC17
namespace Go.Proofs.YtmbofhpmockmbaaGreatDoor
open Go.RowKit Go.Shelf
set_option maxHeartbeats 16000000
set_option maxRecDepth 100000
theorem zb.grown {r:Nat} {w w1 w2:World} {row:Option Nat} (h:zb r w w1) (hg:w1.grownBy w2 row) (hrow:∀k,row=some k→w.heap.size≤k):zb r w w2 :=
 ⟨hg.os.trans h.os,hg.tape.trans h.tape,hg.output.trans h.output,Nat.le_trans h.size hg.size,fun k hk hr=>(hg.block k (Nat.lt_of_lt_of_le hk h.size) fun e=>by have:=hrow k e.symm;omega).trans (h.block k hk hr)⟩
theorem vt:(Tryz.prog.info? 90).map (fun i=>(i.zero,i.size,i.bytes))=some (some (.agg #[.int .i64 0,.string ⟨#[]⟩,.int .i64 0,.slice none 0 0,.int .i64 0]),5,64):=by kernel_rfl
theorem V4 (r g o cap F:Nat) (ts:List Tk) (w:World) (res:PR (List Ex)) (h:zc r g o cap ts w) (hE:zh ts) (hN:ts.length≤1099511627776) (hp:Zu (F+1) [] ts=some res)
  (hone:∀G o1 z y r1,zd F 1 y=some r1→zh y→y.length≤1099511627776→zc r g o1 z y G→zb r w G→Calls Tryz.prog 74 #[.pointer (some ⟨r,0,none⟩)] G (zi r g G r1)) :
  Calls Tryz.prog 178 #[.pointer (some ⟨r,0,none⟩),.func (.func 74) #[.pointer (some ⟨r,0,none⟩)] #[]] w (yx r g w res):=by
 obtain ⟨i0,aK,aH,aN,aM⟩:=info_parts vt;obtain ⟨t0,av,rfl⟩:=hE.cons;have hr:=h.lt.1;have aU:=h.lt.2;rw [Zu] at hp;cases hb:zd F 1 (t0::av) with
 | none=>rw [hb] at hp;cases hp
 | some r1 =>
  have c1:=hone w o cap (t0::av) r1 hb hE hN h (zb.refl r w);rw [hb] at hp;simp only [zm] at hp
  go_enter Tryz.func178,Tryz.ntmps178
  go_wp2_with fail
  refine c1.mono ?_;clear c1;rintro e G ⟨ad,A⟩;rcases r1 with a | ⟨x,us⟩
  ·obtain rfl:=A
   simp only [Option.some.injEq] at hp;subst hp;exact ⟨rfl,ad,rfl⟩
  ·obtain ⟨v,o1,z,rfl,hx,W⟩:=A
   obtain ⟨a,b,c,d0,d1,d2,l,rfl⟩:=hx.agg;have al:=(zR F).1 _ _ _ _ hb hE;have au:=Zp hb;have HP:Hid (y9 F [x] us=some res):=hp;obtain ⟨t1,y,rfl⟩:=al.cons
   have aD:Hid (Za Vx 5 90 w.heap.size (G.alloc (.cells #[.int .i64 a,.string b,.int .i64 c,.slice d0 d1 d2,.int .i64 l] 90)) [x] (.slice (some ⟨G.heap.size,0,none⟩) 1 1) G.heap.size 1 [[.int .i64 a,.string b,.int .i64 c,.slice d0 d1 d2,.int .i64 l]]) :=
    Za.first yG (c:=[.int .i64 a,.string b,.int .i64 c,.slice d0 d1 d2,.int .i64 l]) (show zy _ _ _ _ from hx) rfl ad.size
   have aA:Hid (zc r g o1 z (t1::y) (G.alloc (.cells #[.int .i64 a,.string b,.int .i64 c,.slice d0 d1 d2,.int .i64 l] 90))):=W.alloc _;have aB:Hid (zb r w (G.alloc (.cells #[.int .i64 a,.string b,.int .i64 c,.slice d0 d1 d2,.int .i64 l] 90))):=ad.alloc _;have aC:Hid (zh (t1::y)):=al;have hn:y.length+2≤1099511627776:=by simp only [List.length_cons] at au hN;omega
   have az:Hid (∀G o1 z y r1,zd F 1 y=some r1→zh y→y.length≤1099511627776→zc r g o1 z y G→zb r w G→Calls Tryz.prog 74 #[.pointer (some ⟨r,0,none⟩)] G (zi r g G r1)):=hone;clear hx W ad al hone hp hb hE hN h au;go_wp2_with fail
   go_loopw [5] (fun v wr=>∃(L:List Ex) (Y z:Nat) (us:List (List Value)) (o2 N:Nat) (X:List Tk) (f2:Nat),f2≤F∧y9 f2 L X=some res∧zh X∧L.length+X.length≤1099511627776∧Za Vx 5 90 w.heap.size wr L v Y z us∧zc r g o2 N X wr∧zb r w wr) (fun _ wr=>z6 r wr)
   case atStart=>exact ⟨[x],_,_,_,o1,z,t1::y,F,Nat.le_refl _,HP.out,aC.out,by simp only [List.length_cons,List.length_nil];omega,aD.out,aA.out,aB.out⟩
   case round =>
    obtain ⟨L,Y,V,us,o2,N,X,f2,aT,E,R,ag,K,M,am⟩:=hrel;clear HP aD aA aB aC hn;obtain ⟨t2,Q,rfl⟩:=R.cons;have cs:=zX r g o2 N t2 Q [44] wr M (fun hi=>(R.tail (zf hi)).ne)
    have ak:=M.left;have O:Hid (Za Vx 5 90 w.heap.size wr L _ Y V us):=K;have aj:Hid (zb r w wr):=am;have ax:=K.val;subst ax
    unfold y9 at E
    simp only [zD,List.tail_cons] at E
    by_cases hi:zn t2 [44]=true
    ·rw [hi] at cs
     rw [if_pos hi] at E;have aw:=R.tail (zf hi);clear K am M R;go_wp2_with fail
     refine cs.mono ?_;clear cs;rintro e w3 ⟨rfl,D,h3⟩;simp only [if_true] at h3;have ap:zb r w w3:=aj.out.trans D;have H:=O.out.kept yG D.size fun k hB hlt=>D.block k hlt (by omega)
     cases f2 with
     | zero=>simp [Zu] at E
     | succ f3 =>
      rw [Zu] at E;cases hb3:zd f3 1 Q with
      | none=>rw [hb3] at E;cases E
      | some r3 =>
       rw [hb3] at E;simp only [zm] at E
       have aq:zd F 1 Q=some r3:=by
        have:=ZC (k:=F-f3) hb3
        rwa [show f3+(F-f3)=F by omega] at this
       have c3:=az.out w3 _ _ Q r3 aq aw (by simp only [List.length_cons] at ag;omega) h3 ap
       have aS:=H.block;have I:Hid (Za Vx 5 90 w.heap.size w3 L _ Y V us):=H;have af:Hid (zb r w w3):=ap;clear H ap D h3 O aj;go_wp2_with fail
       refine c3.mono ?_;clear c3;rintro e Z ⟨aa,A⟩;have ab:Hid (zb r w Z):=af.out.trans aa;rcases r3 with a | ⟨x3,ae⟩
       ·obtain rfl:=A
        simp only [Option.some.injEq] at E;subst E;exact ⟨rfl,ab.out,rfl⟩
       ·obtain ⟨v,o4,S,rfl,hx,W⟩:=A
        obtain ⟨a4,b4,c4,p4,q4,s4,l4,rfl⟩:=hx.agg;have J:=I.out.kept yG aa.size fun k hB hlt=>aa.block k hlt (by omega)
        have aE:Vx (fun k=>w.heap.size≤k∧k≠Y) Z x3 [.int .i64 a4,.string b4,.int .i64 c4,.slice p4 q4 s4,.int .i64 l4]:=zy.wide hx fun k hk=>⟨Nat.le_trans af.out.size hk,by omega⟩
        have aF:Hid (Vx (fun k=>w.heap.size≤k∧k≠Y) Z x3 [.int .i64 a4,.string b4,.int .i64 c4,.slice p4 q4 s4,.int .i64 l4]):=aE
        have ao:Hid (Za Vx 5 90 w.heap.size Z L _ Y V us):=J;have aO:Hid (zc r g o4 S ae Z):=W;have aL:=(zR F).1 _ _ _ _ aq aw;have aV:=Zp aq;have ar:=(J.own.alloc (.cells #[.int .i64 a4,.string b4,.int .i64 c4,.slice p4 q4 s4,.int .i64 l4] 90));have HT:Hid (y9 f3 (L++[x3]) ae=some res):=E;have aQ:w.heap.size≤Z.heap.size:=ab.out.size;clear J aE hx W E aa
        go_wp2_with (at_builtin;refine wpList_append_own_at _ rfl _ _ 88 rfl w.heap.size 90 i0 _ 5 64 Tryz.underlying88 aK aH aN aM rfl (by decide) _ _ _ rfl ar ⟨Z.heap.size,0,none⟩ 1 1 [.int .i64 a4,.string b4,.int .i64 c4,.slice p4 q4 s4,.int .i64 l4] rfl rfl (yr _ _ _) (by simp [Value.oneCell']) (by unfold maxLen;simp only [List.length_cons] at ag;omega) (by simp only [List.length_cons] at ag;omega) (by simp;omega) ?_;intro v' w5 an U _ aJ)
        obtain ⟨g5,ay,ai,aR⟩:=ao.out.snoc yG aF.out rfl an U aJ
        have T:(Z.alloc (.cells #[.int .i64 a4,.string b4,.int .i64 c4,.slice p4 q4 s4,.int .i64 l4] 90)).grownBy w5 (some Y):=U;have aP:zb r w w5:=(ab.out.alloc _).grown T fun k hk=>by have:=Option.some.inj hk;omega
        have aW:w.heap.size≤Z.heap.size:=ab.out.size;have ah:zc r g o4 S ae w5:=aO.out.keep ((T.block r (by simp;omega) (fun e=>by have:=Option.some.inj e;omega)).trans (Below.heap_alloc _ _ _ (by omega))) ((T.block g (by simp;omega) (fun e=>by have:=Option.some.inj e;omega)).trans (Below.heap_alloc _ _ _ (by omega)))
        refine ⟨⟨L++[x3],g5,ay,_,o4,S,ae,f3,by omega,HT.out,aL,?_,ai,ah,aP⟩,?_⟩
        ·simp only [List.length_append,List.length_cons,List.length_nil] at ag ⊢;omega
        ·rw [ah.left,ak];simp only [List.length_cons];omega
    ·have aG:zn t2 [44]=false:=by simpa using hi
     rw [aG] at cs;rw [if_neg hi] at E;clear K am M R;go_wp2_with fail
     refine cs.mono ?_;clear cs;rintro e w3 ⟨rfl,D,h3⟩;have af:Hid (zb r w w3):=aj.out.trans D;have I:Hid (Zg w.heap.size w3 L (.slice (some ⟨Y,0,none⟩) L.length V)):=(O.out.kept yG D.size fun k hB hlt=>D.block k hlt (by omega)).row
     have aI:Hid (zc r g o2 N (t2::Q) w3):=show zc _ _ _ _ _ _ by simpa using h3
     simp only [Option.some.injEq] at E;subst E;clear D h3;go_wp2
     refine bodyPost_ret (v:=.slice (some ⟨Y,0,none⟩) L.length V) (by simp [results,Tryz.results178,go_sem]) rfl ⟨af.out,_,_,_,rfl,I.out,aI.out⟩
theorem zF.one {S:Nat→Prop} {w:World} {x:Ex} {c:List Value} (ty:Nat) (hx:zy S w x (.agg c.toArray)) (hc:c.length=5) (hB:S w.heap.size):zF S (w.alloc (.cells c.toArray ty)) [x] (.slice (some ⟨w.heap.size,0,none⟩) 1 1):=by
 refine .inr ⟨w.heap.size,1,[c],rfl,by simp,rfl,hB,by simp,Nat.le_refl _,by simp [maxLen],fun j u hj=>?_,fun z hz=>?_,fun j z e hz he=>?_⟩
 ·have h:=yr w c ty j u (by simpa using hj)
  by_cases h0:j=0
  ·subst h0;simpa [Addr.add] using h
  ·simpa [Addr.add,h0] using h
 ·simp only [List.mem_cons,List.not_mem_nil,or_false] at hz
  subst hz;exact hc
 ·match j,hz,he with
  | 0,hz,he =>
   simp only [List.getElem?_cons_zero,Option.some.injEq] at hz he
   subst hz he;exact zy.kept hx (by simp) fun k _ hlt=>Below.heap_alloc _ _ _ hlt
  | j+1,hz,he=>simp at hz
theorem zF.two {S:Nat→Prop} {w:World} {x y:Ex} {c d:List Value} (ty:Nat) (hx:zy S w x (.agg c.toArray)) (hy:zy S w y (.agg d.toArray)) (hc:c.length=5) (hd:d.length=5) (hB:S w.heap.size) :
  zF S (w.alloc (.cells (c++d).toArray ty)) [x,y] (.slice (some ⟨w.heap.size,0,none⟩) 2 2):=by
 refine .inr ⟨w.heap.size,2,[c,d],rfl,by simp,rfl,hB,by simp,Nat.le_refl _,by simp [maxLen],fun j u hj=>?_,fun z hz=>?_,fun j z e hz he=>?_⟩
 ·have h:=yr w (c++d) ty j u (by simpa using hj)
  by_cases h0:j=0
  ·subst h0;simpa [Addr.add] using h
  ·simpa [Addr.add,h0] using h
 ·simp only [List.mem_cons,List.not_mem_nil,or_false] at hz
  rcases hz with rfl | rfl <;> assumption
 ·have o:∀z e,zy S w z (.agg e)→zy S (w.alloc (.cells (c++d).toArray ty)) z (.agg e):=fun z e h=>zy.kept h (by simp) fun k _ hlt=>Below.heap_alloc _ _ _ hlt
  match j,hz,he with
  | 0,hz,he =>
   simp only [List.getElem?_cons_zero,Option.some.injEq] at hz he;subst hz he;exact o _ _ hx
  | 1,hz,he =>
   simp only [List.getElem?_cons_succ,List.getElem?_cons_zero,Option.some.injEq] at hz he;subst hz he;exact o _ _ hy
  | j+2,hz,he=>simp at hz
theorem Z5 {w:World} {N M j:Nat} {v:Value} (a b c d e:Value) (hne:M≠N) (h:w.cell? ⟨M,j,none⟩=some v):(set5 w N a b c d e).cell? ⟨M,j,none⟩=some v:=by
 exact (World.cell?_of_block (a:=⟨M,j,none⟩) (zg w N a b c d e hne)).trans h
theorem zi.of_set5 {r g o cap N B:Nat} {w w5:World} {us:List Tk} {l:List Ex} {v:Value} (k:Nat) (s:List UInt8) (n:Int) (line:Nat) (hK:zb r w w5) (hN:w.heap.size≤N) (hr:r<w.heap.size) (hg:g<w.heap.size) (hrow:Zg B w5 l v) (hB:N<B) (hrd:zc r g o cap us w5) :
  zi r g w (.ok (.mk k s n l line,us)) (.returned (.agg #[.int .i64 k,.string (za s),.int .i64 n,v,.int .i64 line])) (set5 w5 N (.int .i64 k) (.string (za s)) (.int .i64 n) v (.int .i64 line)):=by
 refine ⟨Zk hK hN _ _ _ _ _,_,o,cap,rfl,?_,hrd.keep (zg _ _ _ _ _ _ _ (by omega)) (zg _ _ _ _ _ _ _ (by omega))⟩
 have h:=hrow.kept (w':=set5 w5 N (.int .i64 k) (.string (za s)) (.int .i64 n) v (.int .i64 line)) (by simp) fun k hB _=>zg _ _ _ _ _ _ _ (by omega)
 exact zM.of_row (h.mono (by omega)) k s n line
theorem zi.of_set5' {r g o cap N B:Nat} {w w5:World} {us:List Tk} {x:Ex} {a b c d e:Value} (hK:zb r w w5) (hN:w.heap.size≤N) (hr:r<w.heap.size) (hg:g<w.heap.size) (hx:zM B w5 x (.agg #[a,b,c,d,e])) (hB:N<B) (hrd:zc r g o cap us w5) :
  zi r g w (.ok (x,us)) (.returned (.agg #[a,b,c,d,e])) (set5 w5 N a b c d e):=by
 refine ⟨Zk hK hN _ _ _ _ _,_,o,cap,rfl,?_,hrd.keep (zg _ _ _ _ _ _ _ (by omega)) (zg _ _ _ _ _ _ _ (by omega))⟩
 exact zM.mono (zM.kept hx (w':=set5 w5 N a b c d e) (by simp) fun k hB _=>zg _ _ _ _ _ _ _ (by omega)) (by omega)
end Go.Proofs.YtmbofhpmockmbaaGreatDoor
