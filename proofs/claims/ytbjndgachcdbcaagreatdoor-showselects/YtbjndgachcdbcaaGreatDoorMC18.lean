import Derived.Test.YtbjndgachcdbcaaGreatDoorMC17
import Derived.RangeFuncNested
import Derived.RangeFuncBound
import Derived.RangeFuncCalls
import Derived.RangeFuncLeaves
import Derived.RangeFuncBox
import Derived.Shelf.Abstract
import Derived.Shelf.RegionOpen
import Derived.WalkKit
import Derived.OwnWalkIn
import Derived.TacticsInMore
import Derived.LoopNIn
import Derived.LoopIn
namespace Go.Proofs.YtbjndgachcdbcaaGreatDoor
open Go.RowKit Go.Shelf
set_option maxHeartbeats 16000000
set_option maxRecDepth 100000
def yo (c:UInt8):UInt8:=if c<32∨126<c then 63 else c
def zY (l:List UInt8):List UInt8:=l.map yo
def zA (l:List UInt8):List UInt8:=if 200<l.length then (zY l).take 197++zO else zY l
theorem Zb (l:List UInt8):(zY l).length=l.length:=by simp [zY]
theorem v8 (l:List UInt8):(zA l).length≤200:=by
 unfold zA
 split
 ·rw [List.length_append,List.length_take];simp [zO];omega
 ·rw [Zb];omega
def zy (l:List UInt8) (i:Nat):List UInt8:=zY (l.take i)++l.drop i
theorem XX (l:List UInt8) (i:Nat):(zy l i).length=l.length:=by
 unfold zy
 rw [List.length_append,Zb,←List.length_append,List.take_append_drop]
theorem XY (l:List UInt8) (i:Nat) (h:i<l.length) (h':i<(zy l i).length):(zy l i)[i]=l[i]:=by
 have e:(zy l i)[i]?=some l[i]:=by
  unfold zy
  rw [List.getElem?_append_right (by rw [Zb,List.length_take];omega),Zb,List.length_take,Nat.min_eq_left (Nat.le_of_lt h),Nat.sub_self,List.getElem?_drop,Nat.add_zero,List.getElem?_eq_getElem h]
 rw [List.getElem?_eq_getElem h'] at e;exact Option.some.inj e
theorem xh (a b:List UInt8):zY (a++b)=zY a++zY b:=by unfold zY;rw [List.map_append]
theorem YP (l:List UInt8) (i:Nat) (h:i<l.length) (c:UInt8) (hc:yo l[i]=c):(zy l i).set i c=zy l (i+1):=by
 unfold zy
 have e:l.take (i+1)=l.take i++[l[i]]:=(List.take_append_getElem h).symm;have d:l.drop i=l[i]::l.drop (i+1):=(List.getElem_cons_drop h).symm;rw [e,d,List.set_append_right _ _ (by rw [Zb,List.length_take];omega),Zb,List.length_take,Nat.min_eq_left (Nat.le_of_lt h),Nat.sub_self,List.set_cons_zero,xh,List.append_assoc]
 congr 1
 rw [←hc]
 rfl
theorem Xp (l:List UInt8) (i:Nat) (h:i<l.length) (hc:yo l[i]=l[i]):zy l i=zy l (i+1):=by
 unfold zy
 have e:l.take (i+1)=l.take i++[l[i]]:=(List.take_append_getElem h).symm;have d:l.drop i=l[i]::l.drop (i+1):=(List.getElem_cons_drop h).symm;rw [e,d,xh,List.append_assoc]
 congr 1
 show _=[yo l[i]]++_
 rw [hc]
 rfl
theorem XZ (l:List UInt8):zy l l.length=zY l:=by simp [zy]
structure Bn where
 name:List UInt8
 val:Vl
structure Fr where
 fn:List UInt8
 line:Int
 vars:List Bn
structure Lk where
 pos:Int
 status:Int
 fault:Int
 frames:List Fr
 out:List UInt8
structure Sp where
 id:Int
 line:Int
 cond:List UInt8
 watch:List UInt8
 off:Bool
structure Rp where
 err:Int
 n:Int
 says:List UInt8
structure Vw where
 look:Lk
 sel:Int
 stops:List Sp
 last:Rp
def Uj (w:World) (b o:Nat) (x:Bn):Prop:=w.cell? ⟨b,o,none⟩=some (.string (za x.name))∧w.cell? ⟨b,o+1,none⟩=some (.int .i64 x.val.k)∧w.cell? ⟨b,o+2,none⟩=some (.int .i64 x.val.n)∧w.cell? ⟨b,o+3,none⟩=some (.string (za x.val.s))
def Uk (S:Nat→Prop) (w:World) (b o:Nat) (x:Fr):Prop:=w.cell? ⟨b,o,none⟩=some (.string (za x.fn))∧w.cell? ⟨b,o+1,none⟩=some (.int .i64 x.line)∧∃u,w.cell? ⟨b,o+2,none⟩=some u∧rowIn S w u 4 Uj x.vars
def Ur (w:World) (b o:Nat) (x:Sp):Prop:=w.cell? ⟨b,o,none⟩=some (.int .i64 x.id)∧w.cell? ⟨b,o+1,none⟩=some (.int .i64 x.line)∧w.cell? ⟨b,o+2,none⟩=some (.string (za x.cond))∧w.cell? ⟨b,o+3,none⟩=some (.string (za x.watch))∧w.cell? ⟨b,o+4,none⟩=some (.bool x.off)
theorem xi (S:Nat→Prop):yx S Uj:=fun _ _ _ _ _ _ hb hS hlt ⟨a,b,c,d⟩=>⟨(World.cell?_of_block (hb _ hS hlt)).trans a,(World.cell?_of_block (hb _ hS hlt)).trans b,(World.cell?_of_block (hb _ hS hlt)).trans c,(World.cell?_of_block (hb _ hS hlt)).trans d⟩
theorem Va (S:Nat→Prop):yx S (Uk S):=fun _ _ _ _ _ hs hb hS hlt ⟨a,b,u,c,d⟩=>⟨(World.cell?_of_block (hb _ hS hlt)).trans a,(World.cell?_of_block (hb _ hS hlt)).trans b,u,(World.cell?_of_block (hb _ hS hlt)).trans c,rowIn.kept d (xi S) hs hb⟩
theorem Vb (S:Nat→Prop):yx S Ur:=fun _ _ _ _ _ _ hb hS hlt ⟨a,b,c,d,e⟩=>⟨(World.cell?_of_block (hb _ hS hlt)).trans a,(World.cell?_of_block (hb _ hS hlt)).trans b,(World.cell?_of_block (hb _ hS hlt)).trans c,(World.cell?_of_block (hb _ hS hlt)).trans d,(World.cell?_of_block (hb _ hS hlt)).trans e⟩
def YQ (S:Nat→Prop) (w:World) (v:Value) (l:List Bn):Prop:=rowIn S w v 4 Uj l
def Xq (S:Nat→Prop) (w:World) (v:Value) (l:List Fr):Prop:=rowIn S w v 3 (Uk S) l
def uB (S:Nat→Prop) (w:World) (v:Value) (l:List Sp):Prop:=rowIn S w v 5 Ur l
abbrev Uw (vf:Value) (pos status fault:Int) (out:List UInt8):Value:=.agg #[.int .i64 pos,.int .i64 status,.int .i64 fault,vf,.string (za out)]
abbrev UA (err n:Int) (says:List UInt8):Value:=.agg #[.int .i64 err,.int .i64 n,.string (za says)]
abbrev Ux (x:Sp):Value:=.agg #[.int .i64 x.id,.int .i64 x.line,.string (za x.cond),.string (za x.watch),.bool x.off]
abbrev Uu (u:Value) (fn:List UInt8) (line:Int):Value:=.agg #[.string (za fn),.int .i64 line,u]
abbrev uS (vf vs:Value) (v:Vw):Value:=.agg #[.int .i64 v.look.pos,.int .i64 v.look.status,.int .i64 v.look.fault,vf,.string (za v.look.out),.int .i64 v.sel,vs,.int .i64 v.last.err,.int .i64 v.last.n,.string (za v.last.says)]
def Zq (n:Int):Prop:=-9223372036854775808≤n∧n≤9223372036854775807
structure Z6 (f:Fr):Prop where
 fn:f.fn.length≤1048576
 line:Zq f.line
 nvars:f.vars.length≤1048576
 vars:∀b∈f.vars,b.name.length≤1048576∧zq b.val
structure YA (s:Sp):Prop where
 id:Zq s.id
 line:Zq s.line
 cond:s.cond.length≤1048576
 watch:s.watch.length≤1048576
structure yz (v:Vw):Prop where
 pos:Zq v.look.pos
 status:Zq v.look.status
 fault:Zq v.look.fault
 nframes:v.look.frames.length≤1048576
 frames:∀f∈v.look.frames,Z6 f
 out:v.look.out.length≤1048576
 sel:Zq v.sel
 nstops:v.stops.length≤1048576
 stops:∀s∈v.stops,YA s
 err:Zq v.last.err
 n:Zq v.last.n
 says:v.last.says.length≤1048576
structure zR (S:Nat→Prop) (w:World) (v:Vw) (vf vs:Value):Prop where
 frames:Xq S w vf v.look.frames
 stops:uB S w vs v.stops
theorem zR.kept {S:Nat→Prop} {w w':World} {v:Vw} {vf vs:Value} (h:zR S w v vf vs) (hs:w.heap.size≤w'.heap.size) (hb:∀q,S q→q<w.heap.size→w'.heap[q]?=w.heap[q]?):zR S w' v vf vs :=
 ⟨rowIn.kept h.frames (Va S) hs hb,rowIn.kept h.stops (Vb S) hs hb⟩
theorem zR.below {S:Nat→Prop} {w w':World} {v:Vw} {vf vs:Value} (h:zR S w v vf vs) (hb:Below w.heap.size w w'):zR S w' v vf vs:=h.kept hb.size fun q _ hq=>hb.block q hq
def ZY:List (List UInt8):=[[],[100,105,118,105,115,105,111,110],[105,110,100,101,120],[115,105,122,101],[116,101,120,116],[105,110,112,117,116],[104,101,97,112],[102,114,97,109,101,115],[111,117,116,112,117,116],[115,116,101,112,115],[107,105,110,100]]
def zS (f:Int):List UInt8:=if f<0∨11≤f then [] else (ZY[f.toNat]?).getD []
theorem X0 (f:Int):(zS f).length≤8:=by
 unfold zS
 split
 ·simp
 ·rename_i h
  cases hf:ZY[f.toNat]? with
  | none=>simp
  | some x =>
   have b:=List.mem_of_getElem? hf;simp only [Option.getD_some]
   unfold ZY at b
   simp only [List.mem_cons,List.mem_nil_iff,or_false] at b;rcases b with h | h | h | h | h | h | h | h | h | h | h <;> (rw [h];simp)
def VR (pos status fault:Int):List (List UInt8) :=
 if status=0 then [[97,116,32],Lib.itoa pos,[32,114,117,110,110,105,110,103]] else if status=1 then [[97,116,32],Lib.itoa pos,[32,100,111,110,101]] else [[97,116,32],Lib.itoa pos,[32,102,97,117,108,116,32],zS fault]
def Zk (pos status fault:Int):List UInt8:=zA (VR pos status fault).flatten
def zP (os:List Ob) (l:List Bn):List (List UInt8):=l.flatMap fun b=>[[32],b.name,[61],Zm os b.val]
def xH (os:List Ob) (f:Fr) (sel:Bool):List (List UInt8):=[if sel then [62,32] else [32,32],f.fn,[58],Lib.itoa f.line]++zP os f.vars
def zL (os:List Ob) (f:Fr) (sel:Bool):List UInt8:=zA (xH os f sel).flatten
def Xr (s:Sp):List (List UInt8) :=
 [[35],Lib.itoa s.id]++(if s.watch≠[] then [[32,119,97,116,99,104,32],s.watch] else if s.cond≠[] then [[32,108,105,110,101,32],Lib.itoa s.line,[32,105,102,32],s.cond] else [[32,108,105,110,101,32],Lib.itoa s.line])++(if s.off then [[32,111,102,102]] else [])
def Zh (s:Sp):List UInt8:=zA (Xr s).flatten
def YR (err n:Int) (says:List UInt8):List (List UInt8) :=
 (if err≠0 then [[101,114,114,111,114,32],Lib.itoa err] else [[111,107]])++(if n≠0 then [[32],Lib.itoa n] else [])++(if says≠[] then [[32],says] else [])
def ZI (err n:Int) (says:List UInt8):List UInt8:=zA (YR err n says).flatten
def endsAt:List UInt8→List UInt8→List (List UInt8)
 | _,[]=>[]
 | cur,c::t=>if c=10 then cur::endsAt [] t else endsAt (cur++[c]) t
def VS (l:List (List UInt8)):List (List UInt8):=l.drop (l.length-4)
def y6 (out:List UInt8):List (List UInt8):=VS (endsAt [] out)
def zl (os:List Ob) (sel:Int):Nat→List Fr→List (List UInt8)
 | _,[]=>[]
 | n,f::t=>zL os f (decide ((n:Int)=sel))::zl os sel (n+1) t
def Zx (os:List Ob) (v:Vw):List (List UInt8) :=
 [Zk v.look.pos v.look.status v.look.fault]++zl os v.sel 0 v.look.frames.reverse++(y6 v.look.out).map (fun s=>zA ([124,32]++s))++v.stops.map Zh++[ZI v.last.err v.last.n v.last.says]
def uC (k:Nat) (v:Vw):Bool :=
 decide (0≤v.look.status∧v.look.status≤2)&&(decide (zS v.look.fault≠[])==decide (v.look.status=2))&&v.look.frames.all fun f=>f.vars.all fun b=>rightV b.val k
def zk (l:List (List UInt8)):List UInt8:=l.flatMap fun s=>s++[10]
attribute [local go_sem] Oper.semAt_some
theorem Y4 (v:Value) (base:Option Addr) (len cap:Nat) (hv:v=.slice base len cap) (w:World) :
  CallsIn Fence.wide 4 Tryz.prog 25 #[v] w fun e w'=>e=.returned (.func (.func 39) #[] #[.pointer (some ⟨w.heap.size,0,none⟩)])∧w'=w.alloc (.cells #[v] 27):=by
 subst hv;refine callsIn_of_wp Tryz.func25 rfl trivial ?_ rfl;simp only [Tryz.ntmps25,List.size_toArray,List.length_cons,List.length_nil,Nat.reduceAdd,Nat.reduceSub,Array.replicate_succ,Array.replicate_zero,List.push_toArray,List.append_toArray,List.nil_append,List.cons_append]
 gi_wp2
 go_ret
 exact ⟨rfl,rfl⟩
theorem Vc (l Bn:Nat) (base:Option Addr) (cap:Nat) (frames:List Fr) (hlen:frames.length≤1048576) (J:Nat→World→Prop) (P:Nat→Value→Prop)
  (hJc:∀i W,J i W→W.cell? ⟨Bn,0,none⟩=some (.slice base frames.length cap))
  (hJe:∀i W,J i W→∀k (h:k<frames.length),∃b o u,base=some ⟨b,o,none⟩∧W.cell? ⟨b,o+k*3,none⟩=some (.string (za (frames[k]).fn))∧W.cell? ⟨b,o+k*3+1,none⟩=some (.int .i64 (frames[k]).line)∧W.cell? ⟨b,o+k*3+2,none⟩=some u∧P k u)
  (hY:∀i W u k (h:k<frames.length),frames.length=k+1+i→J i W→P k u→YieldAt Fence.wide (4-1) Tryz.prog l #[.int .i64 (i:Int),Uu u (frames[k]).fn (frames[k]).line] W fun e W'=>e=.returned (.bool true)∧J (i+1) W')
  (W:World) (h0:J 0 W) :
  CallsIn Fence.wide 4 Tryz.prog 39 #[.func (.yield l) #[] #[],.pointer (some ⟨Bn,0,none⟩)] W fun e W'=>(∃u,e=.returned u)∧J frames.length W':=by
 have Z:=hJc _ _ h0;refine callsIn_of_wp Tryz.func39 rfl trivial ?_ rfl;simp only [Tryz.ntmps39,List.size_toArray,List.length_cons,List.length_nil,Nat.reduceAdd,Nat.reduceSub,Array.replicate_succ,Array.replicate_zero,List.push_toArray,List.append_toArray,List.nil_append,List.cons_append]
 gi_wp2
 gi_loopw [6] (fun vi wr=>∃i:Nat,i≤frames.length∧vi=.int .i64 (i:Int)∧J i wr) (fun vi _=>frames.length-(intOf vi).toNat)
 case atStart=>exact ⟨0,Nat.zero_le _,rfl,h0⟩
 case round =>
  obtain ⟨i,V,rfl,c⟩:=hrel;have B:=hJc _ _ c
  by_cases hlt:i<frames.length
  ·have z:(i:Int)<frames.length:=by omega
   obtain ⟨k,h⟩:∃k,frames.length=k+1+i:=⟨frames.length-1-i,by omega⟩
   have q:k<frames.length:=by omega
   obtain ⟨b,o,u,rfl,H,K,R,I⟩:=hJe _ _ c k q;obtain ⟨X,F,y,G,M,D⟩:=hY i wr u k q h c I;have U:Hid (frames.length=k+1+i):=h;have O:(frames.length:Int)-1-(i:Int)=(k:Int):=by omega
   have Y:Hid (J i wr):=c;obtain ⟨f,E⟩:∃f,f=frames[k]:=⟨_,rfl⟩;rw [←E] at H K M;clear E c h I hJc hJe hY
   gi_wp2
   refine D.mono ?_;rintro e T ⟨rfl,m⟩;have A:Hid (J (i+1) T):=m;clear D M B H K R m
   gi_wp2
   go_roundw
   case rel=>exact ⟨i+1,by omega,by go_num,A.out⟩
   case measure=>simp [intOf];omega
  ·have z:¬ (i:Int)<frames.length:=by omega
   obtain rfl:i=frames.length:=by omega
   gi_wp2
   go_end0
   exact ⟨⟨_,rfl⟩,c⟩
theorem xI {n:Nat} {P:Program} {g:Operand} {ps:Array Tmp} {assign body:Code} {Q:Exit→Act→World→Prop} {a:Act} {w:World} {gf:Nat} {lb:Array Value}
  (hg:a.eval g=.func (.func gf) #[] lb) (eg:∀args w,(callFunc gf args).run P w=.ok (.enter gf args) w)
  (h:∀r0:Loop,r0.state=.ready→r0.pending=none→r0.tmps=a.tmps→r0.params=ps→r0.assign=assign→r0.body=body →
   CallsIn Fence.wide (n-1) P gf (#[.func (.yield (w.heap.size+1)) #[] #[]]++lb) ((w.alloc (.deferred (some []))).alloc (.loop r0)) (rangePost Fence.wide n P (w.heap.size+1) Q { a with defers:=[{ target:=.collected w.heap.size,args:=#[] }]++a.defers })) :
  (Code.rangeFunc g ps assign body).wpIn Fence.wide n P Q a w :=
 wpIn_rangeFunc fun fn _=>⟨_,_,_,{ target:=.fn (.func gf) lb,args:=#[.func (.yield (w.heap.size+1)) #[] #[]] },_,gf,_,_,run_enterLoop_outer fn a.tmps ps assign body,
  by simp only [resolve,hg];simp [go_sem];rfl,fun _ _=>trivial,by simp [invoke,go_sem,eg];rfl,(fun hd=>by cases hd),h _ rfl rfl rfl rfl rfl rfl⟩
end Go.Proofs.YtbjndgachcdbcaaGreatDoor
