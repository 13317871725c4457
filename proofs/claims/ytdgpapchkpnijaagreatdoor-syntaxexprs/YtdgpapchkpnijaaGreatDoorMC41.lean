import Derived.Test.YtdgpapchkpnijaaGreatDoorSDMath
import Derived.Test.YtdgpapchkpnijaaGreatDoorMC18
import Derived.Test.YtdgpapchkpnijaaGreatDoorMC9
import Derived.Test.YtdgpapchkpnijaaGreatDoorMC21
namespace Go.Proofs.YtdgpapchkpnijaaGreatDoor
open Go.RowKit Go.Shelf
set_option maxHeartbeats 16000000
set_option maxRecDepth 100000
structure y6 (r g p cap:Nat) (TS:List Tk) (σ:RS) (w:World):Prop where
 rest:σ.2=TS.drop p
 lt:p<TS.length
 blk:w.heap[r]?=some (.cells #[.slice (some ⟨g,0,none⟩) TS.length cap,.int .i64 (p:Int),.bool σ.1] 66 (0,0))
 other:r≠g
 glt:g<w.heap.size
 hcap:TS.length≤cap
 hmax:cap≤maxLen
 few:TS.length≤1099511627776
 toks:∀j u,(zO TS)[j]?=some u→w.cell? ⟨g,j,none⟩=some u
 ends:zk σ.2
def z7 (r g:Nat) (σ:RS) (w:World):Prop:=∃p cap TS,y6 r g p cap TS σ w
theorem y6.keep {r g p cap:Nat} {TS:List Tk} {σ:RS} {w w':World} (h:y6 r g p cap TS σ w) (hr:w'.heap[r]?=w.heap[r]?) (hg:w'.heap[g]?=w.heap[g]?):y6 r g p cap TS σ w' where
 rest:=h.rest
 lt:=h.lt
 blk:=hr.trans h.blk
 other:=h.other
 glt:=by
  have h1:=h.glt;rw [Array.getElem?_eq_getElem h1] at hg;exact (Array.getElem?_eq_some_iff.1 hg).1
 hcap:=h.hcap
 hmax:=h.hmax
 few:=h.few
 toks:=fun j u hj=>by rw [World.cell?_of_block hg];exact h.toks j u hj
 ends:=h.ends
theorem z7.keep {r g:Nat} {σ:RS} {w w':World} (h:z7 r g σ w) (hr:w'.heap[r]?=w.heap[r]?) (hg:w'.heap[g]?=w.heap[g]?):z7 r g σ w':=by
 obtain ⟨p,cap,TS,h⟩:=h;exact ⟨p,cap,TS,h.keep hr hg⟩
theorem z7.lt {r g:Nat} {σ:RS} {w:World} (h:z7 r g σ w):r<w.heap.size∧g<w.heap.size:=by
 obtain ⟨p,cap,TS,h⟩:=h;exact ⟨(Array.getElem?_eq_some_iff.1 h.blk).1,h.glt⟩
theorem z7.few {r g:Nat} {σ:RS} {w:World} (h:z7 r g σ w):σ.2.length≤1099511627776:=by
 obtain ⟨p,cap,TS,h⟩:=h
 have:=h.few
 rw [h.rest,List.length_drop];omega
theorem z7.below {r g:Nat} {σ:RS} {w w':World} (h:z7 r g σ w) (hb:Below w.heap.size w w'):z7 r g σ w':=h.keep (hb.block _ h.lt.1) (hb.block _ h.lt.2)
theorem z7.alloc {r g:Nat} {σ:RS} {w:World} (h:z7 r g σ w) (ob:Obj):z7 r g σ (w.alloc ob):=h.keep (Below.heap_alloc _ _ _ h.lt.1) (Below.heap_alloc _ _ _ h.lt.2)
theorem y6.step {r g p cap:Nat} {TS:List Tk} {σ:RS} {w:World} (h:y6 r g p cap TS σ w) (hk:(zz σ.2).k≠0):y6 r g (p+1) cap TS (σ.1,σ.2.tail) (w.setCell ⟨r,1,none⟩ (.int .i64 ((p:Int)+1))) where
 rest:=by show σ.2.tail=_;rw [h.rest,List.tail_drop]
 lt:=by
  have h1:=yP h.ends hk;have h2:=List.length_pos_iff.2 h1.ne;rw [h.rest,List.tail_drop,List.length_drop] at h2;omega
 blk:=zp _ h.blk
 other:=h.other
 glt:=by simpa using h.glt
 hcap:=h.hcap
 hmax:=h.hmax
 few:=h.few
 toks:=fun j u hj=>by
  have ho:=h.other;rw [World.cell?_setCell_other _ _ _ _ (by simp)]
  exact h.toks j u hj
 ends:=yP h.ends hk
theorem y6.fail {r g p cap:Nat} {TS:List Tk} {σ:RS} {w:World} (h:y6 r g p cap TS σ w):y6 r g p cap TS (true,σ.2) (w.setCell ⟨r,2,none⟩ (.bool true)) where
 rest:=h.rest
 lt:=h.lt
 blk:=zp _ h.blk
 other:=h.other
 glt:=by simpa using h.glt
 hcap:=h.hcap
 hmax:=h.hmax
 few:=h.few
 toks:=fun j u hj=>by
  have ho:=h.other;rw [World.cell?_setCell_other _ _ _ _ (by simp)]
  exact h.toks j u hj
 ends:=h.ends
def yx (r:Nat) (w:World):Nat:=match w.cell? ⟨r,0,none⟩,w.cell? ⟨r,1,none⟩ with | some (.slice _ n _),some (.int _ p)=>n-p.toNat | _,_=>0
theorem ZO {w:World} {N:Nat} {x0 x1 x2:Value} {ty:TypeId} (h:w.heap[N]?=some (.cells #[x0,x1,x2] ty (0,0))):w.cell? ⟨N,0,none⟩=some x0∧w.cell? ⟨N,1,none⟩=some x1∧w.cell? ⟨N,2,none⟩=some x2∧∀j,w.frozen? ⟨N,j,none⟩=false:=by
 refine ⟨?_,?_,?_,fun j=>?_⟩
 ·simp only [World.cell?,h];rfl
 ·simp only [World.cell?,h];rfl
 ·simp only [World.cell?,h];rfl
 ·simp only [World.frozen?,h];simp
theorem z7.left {r g:Nat} {σ:RS} {w:World} (h:z7 r g σ w):yx r w=σ.2.length:=by
 obtain ⟨p,cap,TS,h⟩:=h;obtain ⟨h0,h1,-,-⟩:=ZO h.blk
 unfold yx
 rw [h0,h1,h.rest,List.length_drop]
 simp
theorem Up (TS:List Tk):∀p,(zO TS).drop (p*5)=zO (TS.drop p):=by
 induction TS with
 | nil=>intro p;simp [zO]
 | cons t ts ih =>
  intro p;cases p with
  | zero=>simp
  | succ p =>
   rw [List.drop_succ_cons,←ih p]
   unfold zO
   rw [List.flatMap_cons];rw [show (p+1)*5=5+p*5 by omega,←List.drop_drop]
   rfl
theorem y6.tok {r g p cap:Nat} {TS:List Tk} {σ:RS} {w:World} (h:y6 r g p cap TS σ w) (t:Tk) (ht:t=zz σ.2):w.cell? ⟨g,p*5,none⟩=some (.int .i64 t.k)∧w.cell? ⟨g,p*5+1,none⟩=some (.string (za t.s))∧w.cell? ⟨g,p*5+2,none⟩=some (.int .i64 t.n)∧w.cell? ⟨g,p*5+3,none⟩=some (.int .i64 t.line)∧w.cell? ⟨g,p*5+4,none⟩=some (.int .i64 t.at0):=by
 have key:∀j u,[Value.int .i64 t.k,.string (za t.s),.int .i64 t.n,.int .i64 t.line,.int .i64 t.at0][j]?=some u→w.cell? ⟨g,p*5+j,none⟩=some u:=fun j u hj=>by
  refine h.toks _ _ ?_;rw [←List.getElem?_drop,Up,←h.rest];obtain ⟨t',ts,e⟩:=h.ends.cons;rw [e] at ht ⊢
  have:t=t':=ht
  subst this
  unfold zO
  rw [List.flatMap_cons,List.getElem?_append_left (by have:=(List.getElem?_eq_some_iff.1 hj).1;simpa using this)]
  exact hj
 exact ⟨key 0 _ rfl,key 1 _ rfl,key 2 _ rfl,key 3 _ rfl,key 4 _ rfl⟩
theorem VM (r g:Nat) (σ:RS) (w:World) (h:z7 r g σ w) :
  Calls Tryz.prog 29 #[.pointer (some ⟨r,0,none⟩)] w fun e w'=>e=.returned (Xc (zz σ.2))∧Below w.heap.size w w':=by
 obtain ⟨p,cap,TS,h⟩:=h;obtain ⟨t,ht⟩:∃t,t=zz σ.2:=⟨_,rfl⟩;obtain ⟨t0,t1,t2,t3,t4⟩:=h.tok t ht;rw [←ht];obtain ⟨h0,h1,h2,-⟩:=ZO h.blk;have hlt:=h.lt;have hfew:=h.few;have hm:=h.hmax;have hc:=h.hcap;obtain ⟨n,hn⟩:∃n,n=TS.length:=⟨_,rfl⟩;rw [←hn] at h0 hlt hfew hc;have hp1:(p:Int)<(n:Int):=by omega
 have t0':=zj t0;have t1':=zj t1;have t2':=zj t2;have t3':=zj t3;have t4':=zj t4;have h0':=zj h0;have h1':=zj h1;clear h ht hn
 go_enter Tryz.func29,Tryz.ntmps29
 go_wp2
 go_region
 go_wp2
 exact bodyPost_ret (v:=Xc t) (by simp [results,Tryz.results29,go_sem]) rfl ⟨rfl,((Below.refl _ w).alloc (Nat.le_refl _) _).drew⟩
theorem zga (r g:Nat) (σ:RS) (s:List UInt8) (w:World) (h:z7 r g σ w) :
  Calls Tryz.prog 69 #[.pointer (some ⟨r,0,none⟩),.string (za s)] w fun e w'=>e=.returned (.bool (ZC s σ))∧Below w.heap.size w w':=by
 have ch:=VM r g σ w h;obtain ⟨t,ht⟩:∃t,t=zz σ.2:=⟨_,rfl⟩;obtain ⟨b,hb⟩:∃b,b=σ.1:=⟨_,rfl⟩;have he:ZC s σ=(!b&&zo t s):=by rw [ht,hb];rfl
 rw [he];rw [←ht] at ch
 go_enter Tryz.func69,Tryz.ntmps69
 go_wp2_with fail
 refine ch.mono ?_;clear ch;rintro e w1 ⟨rfl,hb1⟩;have HB:Hid (∀ob,Below w.heap.size w (w1.alloc ob)):=fun ob=>hb1.alloc hb1.size ob
 obtain ⟨p,cap,TS,h1⟩:=h.below hb1;obtain ⟨-,-,h2,-⟩:=ZO h1.blk;rw [←hb] at h2;have h2':=zj h2;clear h h1 hb1 ht hb he h2;simp only [Xc];obtain ⟨k,s',n,line,at0⟩:=t;cases b
 ·by_cases h4:k=4
  ·subst h4
   go_wp2
   all_goals
    refine bodyPost_ret (v:=.bool (s'==s)) (by simp [results,Tryz.results69,go_sem, *]) rfl ⟨by simp [zo],HB.out _⟩
  ·have h4':¬ (k:Int)=4:=by omega
   have e4:(k==4)=false:=by simpa using h4
   by_cases h5:k=5
   ·subst h5
    go_wp2
    all_goals
     refine bodyPost_ret (v:=.bool (s'==s)) (by simp [results,Tryz.results69,go_sem, *]) rfl ⟨by simp [zo],HB.out _⟩
   ·have h5':¬ (k:Int)=5:=by omega
    have e5:(k==5)=false:=by simpa using h5
    go_wp2
    all_goals
     refine bodyPost_ret (v:=.bool false) (by simp [results,Tryz.results69,go_sem, *]) rfl ⟨by simp [zo,e4,e5],HB.out _⟩
 ·go_wp2
  all_goals
   refine bodyPost_ret (v:=.bool false) (by simp [results,Tryz.results69,go_sem, *]) rfl ⟨by simp [zo],HB.out _⟩
theorem Ve {s:List UInt8} {σ:RS} (h:ZC s σ=true):σ.1=false∧zo (zz σ.2) s=true∧(zz σ.2).k≠0:=by
 unfold ZC at h
 rw [Bool.and_eq_true] at h;exact ⟨by simpa using h.1,h.2,zi h.2⟩
theorem Yy (r g:Nat) (σ:RS) (s:List UInt8) (w:World) (h:z7 r g σ w) :
  Calls Tryz.prog 65 #[.pointer (some ⟨r,0,none⟩),.string (za s)] w fun e w'=>e=.returned (.bool (ZC s σ))∧zb r w w'∧z7 r g (yw s σ) w':=by
 have ch:=zga r g σ s w h
 go_enter Tryz.func65,Tryz.ntmps65
 go_wp2_with fail
 refine ch.mono ?_;clear ch;rintro e w1 ⟨rfl,hbw⟩;have HK:Hid (zb r w w1):=zb.of hbw;obtain ⟨p,cap,TS,hb1⟩:=h.below hbw;obtain ⟨c0,c1,c2,cf⟩:=ZO hb1.blk;have hpl:p≤1099511627776:=by have:=hb1.lt;have:=hb1.few;omega
 have HB:Hid (y6 r g p cap TS σ w1):=hb1;cases hi:ZC s σ
 ·have HT:Hid (yw s σ=σ):=show _=_ by unfold yw;rw [if_neg (by simp [hi])]
  clear h hb1 hbw;go_wp2
  refine bodyPost_ret (v:=.bool false) (by simp [results,Tryz.results65,go_sem]) rfl ⟨by rw [hi],HK.out,?_⟩
  rw [HT.out];exact ⟨p,cap,TS,HB.out⟩
 ·obtain ⟨e1,e2,e3⟩:=Ve hi
  have HT:Hid (yw s σ=(σ.1,σ.2.tail)):=show _=_ by unfold yw;rw [if_pos hi,e1]
  have HS:Hid (y6 r g (p+1) cap TS (σ.1,σ.2.tail) (w1.setCell ⟨r,1,none⟩ (.int .i64 ((p:Int)+1)))):=hb1.step e3;clear h hb1 hbw e1 e2 e3;go_wp2
  refine bodyPost_ret (v:=.bool true) (by simp [results,Tryz.results65,go_sem]) rfl ⟨by rw [hi],HK.out.setCell _ _,?_⟩
  rw [HT.out];exact ⟨_,_,_,HS.out⟩
theorem qA (r g:Nat) (σ:RS) (s:List UInt8) (w:World) (h:z7 r g σ w) :
  Calls Tryz.prog 67 #[.pointer (some ⟨r,0,none⟩),.string (za s)] w fun e w'=>e=.returned (.tuple #[])∧zb r w w'∧z7 r g (ZT s σ) w':=by
 have ch:=Yy r g σ s w h;clear h;cases hi:ZC s σ
 ·have HM:Hid (ZT s σ=(true,σ.2)∧yw s σ=σ):=⟨by unfold ZT;rw [if_neg (by simp [hi])],by unfold yw;rw [if_neg (by simp [hi])]⟩
  rw [hi] at ch
  go_enter Tryz.func67,Tryz.ntmps67
  go_wp2_with fail
  refine ch.mono ?_;clear ch;rintro e w1 ⟨rfl,hk,hr⟩;rw [HM.out.2] at hr;obtain ⟨p,cap,TS,hb1⟩:=hr;obtain ⟨c0,c1,c2,cf⟩:=ZO hb1.blk;have HS:Hid (y6 r g p cap TS (true,σ.2) (w1.setCell ⟨r,2,none⟩ (.bool true))):=hb1.fail;have HK:Hid (zb r w w1):=hk;clear hb1 hk;go_wp2
  refine bodyPost_end (v:=.tuple #[]) (by simp [results,Tryz.results67]) rfl ⟨rfl,HK.out.setCell _ _,?_⟩
  rw [HM.out.1];exact ⟨_,_,_,HS.out⟩
 ·have HM:Hid (ZT s σ=yw s σ):=show _=_ by unfold ZT yw;rw [if_pos hi,if_pos hi]
  rw [hi] at ch
  go_enter Tryz.func67,Tryz.ntmps67
  go_wp2_with fail
  refine ch.mono ?_;clear ch;rintro e w1 ⟨rfl,hk,hr⟩;have HK:Hid (zb r w w1):=hk;have HR:Hid (z7 r g (ZT s σ) w1):=show z7 _ _ _ _ by rw [HM.out];exact hr
  clear hk hr;go_wp2
  exact bodyPost_end (v:=.tuple #[]) (by simp [results,Tryz.results67]) rfl ⟨rfl,HK.out,HR.out⟩
theorem zds (r g:Nat) (σ:RS) (w:World) (h:z7 r g σ w) :
  Calls Tryz.prog 66 #[.pointer (some ⟨r,0,none⟩)] w fun e w'=>e=.returned (.string (za (nameF σ).1))∧zb r w w'∧z7 r g (nameF σ).2 w':=by
 have ch:=VM r g σ w h;obtain ⟨t,ht⟩:∃t,t=zz σ.2:=⟨_,rfl⟩;obtain ⟨b,hb⟩:∃b,b=σ.1:=⟨_,rfl⟩;rw [←ht] at ch
 go_enter Tryz.func66,Tryz.ntmps66
 go_wp2_with fail
 refine ch.mono ?_;clear ch;rintro e w1 ⟨rfl,hb1⟩;simp only [Xc];obtain ⟨p,cap,TS,hb2⟩:=h.below hb1;have hA:∀ob,y6 r g p cap TS σ (w1.alloc ob):=fun ob=>hb2.keep (Below.heap_alloc _ _ _ (Array.getElem?_eq_some_iff.1 hb2.blk).1) (Below.heap_alloc _ _ _ hb2.glt)
 have c1:=fun ob=>(ZO (hA ob).blk).2.1
 have c2:=fun ob=>(ZO (hA ob).blk).2.2.1
 have cf:=fun ob j=>(ZO (hA ob).blk).2.2.2 j
 have hpl:p≤1099511627776:=by have:=hb2.lt;have:=hb2.few;omega
 simp only [←hb] at c2;have HA:Hid (y6 r g p cap TS σ w1∧Below w.heap.size w w1):=⟨hb2,hb1⟩;have hr1:r<w1.heap.size:=(Array.getElem?_eq_some_iff.1 hb2.blk).1;have HT:Hid (t=zz σ.2∧b=σ.1):=⟨ht,hb⟩;clear h hb1 hb2 hA ht hb;obtain ⟨k,s',n,line,at0⟩:=t
 by_cases hc:b=false∧k=1
 ·obtain ⟨rfl,rfl⟩:=hc
  have HN:Hid (nameF σ=(s',(σ.1,σ.2.tail))):=show _=_ by unfold nameF;rw [if_pos ⟨HT.out.2.symm,by rw [←HT.out.1]⟩,←HT.out.1,←HT.out.2]
  have HS:Hid (∀ob,z7 r g (σ.1,σ.2.tail) ((w1.setCell ⟨r,1,none⟩ (.int .i64 ((p:Int)+1))).alloc ob)):=fun ob=>z7.alloc ⟨_,_,_,HA.out.1.step (by rw [←HT.out.1];exact Nat.one_ne_zero)⟩ ob
  go_wp2
  refine bodyPost_ret (v:=.string (za s')) (by simp [results,Tryz.results66,go_sem]) rfl ⟨by rw [HN.out],((zb.of HA.out.2).setCell _ _).alloc _,?_⟩
  rw [HN.out];exact HS.out _
 ·have HN:Hid (nameF σ=([],(true,σ.2))):=show _=_ by unfold nameF;rw [if_neg (by rw [←HT.out.1,←HT.out.2];exact hc)]
  have HS:Hid (∀ob,z7 r g (true,σ.2) ((w1.setCell ⟨r,2,none⟩ (.bool true)).alloc ob)):=fun ob=>z7.alloc ⟨_,_,_,HA.out.1.fail⟩ ob
  cases b
  ·have hk2':¬ (k:Int)=1:=fun he=>hc ⟨rfl,by omega⟩
   have hk3:((k:Int)==1)=false:=by rw [beq_eq_false_iff_ne];exact hk2'
   have hk4:((k:Int) != 1)=true:=by simp [bne,hk3]
   clear hc;go_wp2
   refine bodyPost_ret (v:=.string ⟨#[]⟩) (by simp [results,Tryz.results66,go_sem]) rfl ⟨by rw [HN.out],((zb.of HA.out.2).setCell _ _).alloc _,?_⟩
   rw [HN.out];exact HS.out _
  ·clear hc
   go_wp2
   refine bodyPost_ret (v:=.string ⟨#[]⟩) (by simp [results,Tryz.results66,go_sem]) rfl ⟨by rw [HN.out],((zb.of HA.out.2).setCell _ _).alloc _,?_⟩
   rw [HN.out];exact HS.out _
def Zq (r g:Nat) (w:World) (q:Ex × RS) (e:Ending) (w':World):Prop:=zb r w w'∧∃v,e=.returned v∧Zc w.heap.size w' q.1 v∧z7 r g q.2 w'
def vN (r g:Nat) (w:World) (q:List Ex × RS) (e:Ending) (w':World):Prop:=zb r w w'∧∃v,e=.returned v∧Z9 w.heap.size w' q.1 v∧z7 r g q.2 w'
theorem Zq.of_set5 {r g N B:Nat} {w w5:World} {σ:RS} {l:List Ex} {v:Value} (k:Nat) (s:List UInt8) (n:Int) (line:Nat) (hK:zb r w w5) (hN:w.heap.size≤N) (hr:r<w.heap.size) (hg:g<w.heap.size) (hrow:Z9 B w5 l v) (hB:N<B) (hrd:z7 r g σ w5) :
  Zq r g w (.mk k s n l line,σ) (.returned (.agg #[.int .i64 k,.string (za s),.int .i64 n,v,.int .i64 line])) (set5 w5 N (.int .i64 k) (.string (za s)) (.int .i64 n) v (.int .i64 line)):=by
 refine ⟨ZM hK hN _ _ _ _ _,_,rfl,?_,hrd.keep (zr _ _ _ _ _ _ _ (by omega)) (zr _ _ _ _ _ _ _ (by omega))⟩
 have h:=hrow.kept (w':=set5 w5 N (.int .i64 k) (.string (za s)) (.int .i64 n) v (.int .i64 line)) (by simp) fun k hB _=>zr _ _ _ _ _ _ _ (by omega)
 exact Zc.of_row (h.mono (by omega)) k s n line
theorem Zq.of_set5' {r g N B:Nat} {w w5:World} {σ:RS} {x:Ex} {a b c d e:Value} (hK:zb r w w5) (hN:w.heap.size≤N) (hr:r<w.heap.size) (hg:g<w.heap.size) (hx:Zc B w5 x (.agg #[a,b,c,d,e])) (hB:N<B) (hrd:z7 r g σ w5) :
  Zq r g w (x,σ) (.returned (.agg #[a,b,c,d,e])) (set5 w5 N a b c d e):=by
 refine ⟨ZM hK hN _ _ _ _ _,_,rfl,?_,hrd.keep (zr _ _ _ _ _ _ _ (by omega)) (zr _ _ _ _ _ _ _ (by omega))⟩
 exact Zc.mono (Zc.kept hx (w':=set5 w5 N a b c d e) (by simp) fun k hB _=>zr _ _ _ _ _ _ _ (by omega)) (by omega)
structure yD (r g N:Nat) (w:World) (e:Ex) (σ:RS) (a:Int) (b:ByteArray) (c:Int) (d0:Option Addr) (d1 d2:Nat) (l:Int) (wr:World):Prop where
 blk:wr.heap[N]?=some (.cells #[.int .i64 a,.string b,.int .i64 c,.slice d0 d1 d2,.int .i64 l] 40 (0,0))
 ex:zQ (fun k=>w.heap.size<k∧k≠N) wr e (.agg #[.int .i64 a,.string b,.int .i64 c,.slice d0 d1 d2,.int .i64 l])
 rd:z7 r g σ wr
 kept:zb r w wr
 res:wr.heap[w.heap.size]?=some Ze
def XL (r g N F:Nat) (w:World) (res:Ex × RS) (p:Nat→Ex→RS→Option (Ex × RS)) (wr:World):Prop :=
 ∃e σ f a b c d0 d1 d2 l,f≤F∧p f e σ=some res∧yD r g N w e σ a b c d0 d1 d2 l wr
theorem yD.leave {r g N:Nat} {w wr W:World} {e:Ex} {σ σ':RS} {a:Int} {b:ByteArray} {c:Int} {d0:Option Addr} {d1 d2:Nat} {l:Int} (h:yD r g N w e σ a b c d0 d1 d2 l wr) (hr:r<w.heap.size) (hg:g<w.heap.size) (hNw:w.heap.size<N) (hK:zb r wr W) (hrd:z7 r g σ' W) :
  W.heap[N]?=some (.cells #[.int .i64 a,.string b,.int .i64 c,.slice d0 d1 d2,.int .i64 l] 40 (0,0))∧W.heap[w.heap.size]?=some Ze ∧
  Zq r g w (e,σ') (.returned (.agg #[.int .i64 a,.string b,.int .i64 c,.slice d0 d1 d2,.int .i64 l])) (set5 W w.heap.size (.int .i64 a) (.string b) (.int .i64 c) (.slice d0 d1 d2) (.int .i64 l)):=by
 refine ⟨(hK.block _ (Array.getElem?_eq_some_iff.1 h.blk).1 (by omega)).trans h.blk,(hK.block _ (Array.getElem?_eq_some_iff.1 h.res).1 (by omega)).trans h.res,?_⟩
 refine Zq.of_set5' (B:=w.heap.size+1) (h.kept.trans hK) (Nat.le_refl _) hr hg ?_ (Nat.lt_succ_self _) hrd;exact zQ.wide (zQ.kept h.ex hK.size fun k hk' hlt=>hK.block k hlt (by omega)) fun k hk'=>hk'.1
theorem yD.start {r g:Nat} {w w0 w1:World} {x:Ex} {σ:RS} {a:Int} {b:ByteArray} {c:Int} {d0:Option Addr} {d1 d2:Nat} {l:Int} (hsz:w.heap.size<w0.heap.size) (hz:w0.heap[w.heap.size]?=some Ze) (hk0:zb r w w0) (hr:r<w.heap.size) (hk:zb r w0 w1)
  (hx:Zc w0.heap.size w1 x (.agg #[.int .i64 a,.string b,.int .i64 c,.slice d0 d1 d2,.int .i64 l])) (hrd:z7 r g σ w1) :
  yD r g w1.heap.size w x σ a b c d0 d1 d2 l (w1.alloc (.cells #[.int .i64 a,.string b,.int .i64 c,.slice d0 d1 d2,.int .i64 l] 40)) where
 blk:=World.alloc_heap_new _ _
 ex:=zQ.wide (zQ.kept (zQ.low hx) (by simp) fun k hk _=>Below.heap_alloc _ _ _ hk.2) fun k hk=>⟨by omega,by omega⟩
 rd:=hrd.alloc _
 kept:=(hk0.trans hk).alloc _
 res:=by
  have:=hk.size
  rw [Below.heap_alloc _ _ _ (by omega),hk.block _ (by omega) (by omega)];exact hz
theorem yD.moved {r g N:Nat} {w wr W:World} {e:Ex} {σ σ':RS} {a:Int} {b:ByteArray} {c:Int} {d0:Option Addr} {d1 d2:Nat} {l:Int} (h:yD r g N w e σ a b c d0 d1 d2 l wr) (hr:r<w.heap.size) (hNw:w.heap.size<N) (hK:zb r wr W) (hrd:z7 r g σ' W):yD r g N w e σ' a b c d0 d1 d2 l W where
 blk:=(hK.block _ (Array.getElem?_eq_some_iff.1 h.blk).1 (by omega)).trans h.blk
 ex:=zQ.kept h.ex hK.size fun k hk' hlt=>hK.block k hlt (by omega)
 rd:=hrd
 kept:=h.kept.trans hK
 res:=(hK.block _ (Array.getElem?_eq_some_iff.1 h.res).1 (by omega)).trans h.res
theorem yD.two {r g N:Nat} {w wr wE w7:World} {e x:Ex} {σ σ7:RS} {a2:Int} {b2:ByteArray} {c2:Int} {p2:Option Addr} {q2 s2:Nat} {l2:Int} {a3:Int} {b3:ByteArray} {c3:Int} {u0:Option Addr} {u1 u2:Nat} {l3:Int}
  (k:Nat) (s:List UInt8) (h:yD r g N w e σ a2 b2 c2 p2 q2 s2 l2 wr) (hr:r<w.heap.size) (hg:g<w.heap.size) (hNw:w.heap.size<N) (hkE:zb r wr wE) (hk7:zb r wE w7)
  (hx7:Zc wE.heap.size w7 x (.agg #[.int .i64 a3,.string b3,.int .i64 c3,.slice u0 u1 u2,.int .i64 l3])) (hrd:z7 r g σ7 w7) (kv:Value) (hkv:kv=.int .i64 k) (W:World)
  (hW:W=(set5 w7 N kv (.string (za s)) (.int .i64 0) (.slice (some ⟨w7.heap.size,0,none⟩) 2 2) (.int .i64 l2)).alloc (.cells #[.int .i64 a2,.string b2,.int .i64 c2,.slice p2 q2 s2,.int .i64 l2,.int .i64 a3,.string b3,.int .i64 c3,.slice u0 u1 u2,.int .i64 l3] 40)) :
  yD r g N w (.mk k s 0 [e,x] e.line) σ7 k (za s) 0 (some ⟨w7.heap.size,0,none⟩) 2 2 (e.line:Int) W:=by
 obtain rfl:l2=(e.line:Int):=h.ex.line_eq;have h7:=h.moved hr hNw (hkE.trans hk7) hrd;have hN7:=(Array.getElem?_eq_some_iff.1 h7.blk).1;rw [←Xl _ _ _ _ _ _ hN7] at hW;subst hkv;have hs7:=hk7.size;have hsE:=hkE.size;have hNr:=(Array.getElem?_eq_some_iff.1 h.blk).1;have hz7:=(Array.getElem?_eq_some_iff.1 h7.res).1;have hrow:=zG.two 40 (c:=[.int .i64 a2,.string b2,.int .i64 c2,.slice p2 q2 s2,.int .i64 (e.line:Int)]) (d:=[.int .i64 a3,.string b3,.int .i64 c3,.slice u0 u1 u2,.int .i64 l3]) h7.ex (zQ.wide hx7 fun k hk'=>⟨by omega,by omega⟩) rfl rfl ⟨by omega,by omega⟩
 simp only [List.cons_append,List.nil_append] at hrow;obtain ⟨ob,hob⟩:∃ob:Obj,ob=.cells #[.int .i64 a2,.string b2,.int .i64 c2,.slice p2 q2 s2,.int .i64 (e.line:Int),.int .i64 a3,.string b3,.int .i64 c3,.slice u0 u1 u2,.int .i64 l3] 40:=⟨_,rfl⟩;rw [←hob] at hW;have hrow':zG (fun k=>w.heap.size<k∧k≠N) (w7.alloc ob) [e,x] (.slice (some ⟨w7.heap.size,0,none⟩) 2 2):=by rw [hob];exact hrow
 have hs8:(w7.alloc ob).heap.size=w7.heap.size+1:=by simp
 subst hW;refine ⟨y9 ((Below.heap_alloc _ _ _ hN7).trans h7.blk) _ _ _ _ _,?_,(hrd.alloc ob).keep (zr _ _ _ _ _ _ _ (by omega)) (zr _ _ _ _ _ _ _ (by omega)),ZM (h7.kept.alloc _) (by omega) _ _ _ _ _,?_⟩
 ·exact zQ.of_row (hrow'.kept (w':=set5 (w7.alloc ob) N (.int .i64 k) (.string (za s)) (.int .i64 0) (.slice (some ⟨w7.heap.size,0,none⟩) 2 2) (.int .i64 (e.line:Int))) (by simp) fun k hk _=>zr _ _ _ _ _ _ _ hk.2) k s 0 e.line
 ·rw [zr _ _ _ _ _ _ _ (by omega),Below.heap_alloc _ _ _ hz7];exact h7.res
theorem yD.one {r g N:Nat} {w wr w7:World} {e:Ex} {σ σ7:RS} {a2:Int} {b2:ByteArray} {c2:Int} {p2:Option Addr} {q2 s2:Nat} {l2:Int}
  (k:Nat) (s:List UInt8) (h:yD r g N w e σ a2 b2 c2 p2 q2 s2 l2 wr) (hr:r<w.heap.size) (hg:g<w.heap.size) (hNw:w.heap.size<N) (hk7:zb r wr w7) (hrd:z7 r g σ7 w7) (kv:Value) (hkv:kv=.int .i64 k) (W:World)
  (hW:W=(set5 w7 N kv (.string (za s)) (.int .i64 0) (.slice (some ⟨w7.heap.size,0,none⟩) 1 1) (.int .i64 l2)).alloc (.cells #[.int .i64 a2,.string b2,.int .i64 c2,.slice p2 q2 s2,.int .i64 l2] 40)) :
  yD r g N w (.mk k s 0 [e] e.line) σ7 k (za s) 0 (some ⟨w7.heap.size,0,none⟩) 1 1 (e.line:Int) W:=by
 obtain rfl:l2=(e.line:Int):=h.ex.line_eq;have h7:=h.moved hr hNw hk7 hrd;have hN7:=(Array.getElem?_eq_some_iff.1 h7.blk).1;rw [←Xl _ _ _ _ _ _ hN7] at hW;subst hkv;have hs7:=hk7.size;have hNr:=(Array.getElem?_eq_some_iff.1 h.blk).1;have hz7:=(Array.getElem?_eq_some_iff.1 h7.res).1;have hrow:=zG.one 40 (c:=[.int .i64 a2,.string b2,.int .i64 c2,.slice p2 q2 s2,.int .i64 (e.line:Int)]) h7.ex rfl ⟨by omega,by omega⟩
 obtain ⟨ob,hob⟩:∃ob:Obj,ob=.cells #[.int .i64 a2,.string b2,.int .i64 c2,.slice p2 q2 s2,.int .i64 (e.line:Int)] 40:=⟨_,rfl⟩;rw [←hob] at hW;have hrow':zG (fun k=>w.heap.size<k∧k≠N) (w7.alloc ob) [e] (.slice (some ⟨w7.heap.size,0,none⟩) 1 1):=by rw [hob];exact hrow
 have hs8:(w7.alloc ob).heap.size=w7.heap.size+1:=by simp
 subst hW;refine ⟨y9 ((Below.heap_alloc _ _ _ hN7).trans h7.blk) _ _ _ _ _,?_,(hrd.alloc ob).keep (zr _ _ _ _ _ _ _ (by omega)) (zr _ _ _ _ _ _ _ (by omega)),ZM (h7.kept.alloc _) (by omega) _ _ _ _ _,?_⟩
 ·exact zQ.of_row (hrow'.kept (w':=set5 (w7.alloc ob) N (.int .i64 k) (.string (za s)) (.int .i64 0) (.slice (some ⟨w7.heap.size,0,none⟩) 1 1) (.int .i64 (e.line:Int))) (by simp) fun k hk _=>zr _ _ _ _ _ _ _ hk.2) k s 0 e.line
 ·rw [zr _ _ _ _ _ _ _ (by omega),Below.heap_alloc _ _ _ hz7];exact h7.res
theorem yD.one' {r g N:Nat} {w wr w7:World} {e:Ex} {σ σ7:RS} {a2:Int} {b2:ByteArray} {c2:Int} {p2:Option Addr} {q2 s2:Nat} {l2:Int} (wE:World)
  (k:Nat) (s:List UInt8) (h:yD r g N w e σ a2 b2 c2 p2 q2 s2 l2 wr) (hr:r<w.heap.size) (hg:g<w.heap.size) (hNw:w.heap.size<N) (hkE:zb r wr wE)
  (hk7:zb r (wE.alloc (.cells #[.int .i64 a2,.string b2,.int .i64 c2,.slice p2 q2 s2,.int .i64 l2] 40)) w7) (hrd:z7 r g σ7 w7) (kv:Value) (hkv:kv=.int .i64 k) (W:World)
  (hW:W=set5 w7 N kv (.string (za s)) (.int .i64 0) (.slice (some ⟨wE.heap.size,0,none⟩) 1 1) (.int .i64 l2)) :
  yD r g N w (.mk k s 0 [e] e.line) σ7 k (za s) 0 (some ⟨wE.heap.size,0,none⟩) 1 1 (e.line:Int) W:=by
 obtain rfl:l2=(e.line:Int):=h.ex.line_eq;subst hkv;have hs7:=hk7.size;have hsE:=hkE.size;simp only [World.size_alloc] at hs7;have hNr:=(Array.getElem?_eq_some_iff.1 h.blk).1;have hzr:=(Array.getElem?_eq_some_iff.1 h.res).1;have hkr7:zb r wr w7:=(hkE.alloc _).trans hk7;have h7:=h.moved hr hNw hkr7 hrd;have hxe:=zQ.kept h.ex hkE.size fun k hk' hlt=>hkE.block k hlt (by omega)
 have hrow:=zG.one 40 (c:=[.int .i64 a2,.string b2,.int .i64 c2,.slice p2 q2 s2,.int .i64 (e.line:Int)]) hxe rfl ⟨by omega,by omega⟩
 have hrow7:=hrow.kept hk7.size fun k hk' hlt=>hk7.block k hlt (by omega)
 subst hW;refine ⟨y9 h7.blk _ _ _ _ _,?_,hrd.keep (zr _ _ _ _ _ _ _ (by omega)) (zr _ _ _ _ _ _ _ (by omega)),ZM h7.kept (by omega) _ _ _ _ _,?_⟩
 ·exact zQ.of_row (hrow7.kept (w':=set5 w7 N (.int .i64 k) (.string (za s)) (.int .i64 0) (.slice (some ⟨wE.heap.size,0,none⟩) 1 1) (.int .i64 (e.line:Int))) (by simp) fun k hk _=>zr _ _ _ _ _ _ _ hk.2) k s 0 e.line
 ·rw [zr _ _ _ _ _ _ _ (by omega)];exact h7.res
end Go.Proofs.YtdgpapchkpnijaaGreatDoor
