import Derived.Test.YtbjndgachcdbcaaGreatDoorMC17
import Derived.RangeFuncNested
import Derived.RangeFuncBound
import Derived.RangeFuncCalls
import Derived.RangeFuncLeaves
import Derived.RangeFuncBox
import Derived.Shelf.Abstract
import Derived.Shelf.RegionOpen
import Derived.WalkKit
import Derived.OwnWalkIn
import Derived.TacticsInMore
import Derived.LoopNIn
import Derived.LoopIn
namespace Go.Proofs.YtbjndgachcdbcaaGreatDoor
open Go.RowKit Go.Shelf
set_option maxHeartbeats 16000000
set_option maxRecDepth 100000
def Ys (c:UInt8):UInt8:=if c<32∨126<c then 63 else c
def Zz (l:List UInt8):List UInt8:=l.map Ys
def zG (l:List UInt8):List UInt8:=if 200<l.length then (Zz l).take 197++z8 else Zz l
theorem Zt (l:List UInt8):(Zz l).length=l.length:=by simp [Zz]
def zz (l:List UInt8) (i:Nat):List UInt8:=Zz (l.take i)++l.drop i
theorem vF (l:List UInt8) (i:Nat):(zz l i).length=l.length:=by
 unfold zz
 rw [List.length_append,Zt,←List.length_append,List.take_append_drop]
theorem vG (l:List UInt8) (i:Nat) (h:i<l.length) (h':i<(zz l i).length):(zz l i)[i]=l[i]:=by
 have e:(zz l i)[i]?=some l[i]:=by
  unfold zz
  rw [List.getElem?_append_right (by rw [Zt,List.length_take];omega),Zt,List.length_take,Nat.min_eq_left (Nat.le_of_lt h),Nat.sub_self,List.getElem?_drop,Nat.add_zero,List.getElem?_eq_getElem h]
 rw [List.getElem?_eq_getElem h'] at e;exact Option.some.inj e
theorem xB (a b:List UInt8):Zz (a++b)=Zz a++Zz b:=by unfold Zz;rw [List.map_append]
theorem YY (l:List UInt8) (i:Nat) (h:i<l.length) (c:UInt8) (hc:Ys l[i]=c):(zz l i).set i c=zz l (i+1):=by
 unfold zz
 have e:l.take (i+1)=l.take i++[l[i]]:=(List.take_append_getElem h).symm;have d:l.drop i=l[i]::l.drop (i+1):=(List.getElem_cons_drop h).symm;rw [e,d,List.set_append_right _ _ (by rw [Zt,List.length_take];omega),Zt,List.length_take,Nat.min_eq_left (Nat.le_of_lt h),Nat.sub_self,List.set_cons_zero,xB,List.append_assoc]
 congr 1
 rw [←hc]
 rfl
theorem XL (l:List UInt8) (i:Nat) (h:i<l.length) (hc:Ys l[i]=l[i]):zz l i=zz l (i+1):=by
 unfold zz
 have e:l.take (i+1)=l.take i++[l[i]]:=(List.take_append_getElem h).symm;have d:l.drop i=l[i]::l.drop (i+1):=(List.getElem_cons_drop h).symm;rw [e,d,xB,List.append_assoc]
 congr 1
 show _=[Ys l[i]]++_
 rw [hc]
 rfl
theorem vH (l:List UInt8):zz l l.length=Zz l:=by simp [zz]
structure Bn where
 name:List UInt8
 val:Vl
structure Fr where
 fn:List UInt8
 line:Int
 vars:List Bn
structure Lk where
 pos:Int
 status:Int
 fault:Int
 frames:List Fr
 out:List UInt8
structure Sp where
 id:Int
 line:Int
 cond:List UInt8
 watch:List UInt8
 off:Bool
structure Rp where
 err:Int
 n:Int
 says:List UInt8
structure Vw where
 look:Lk
 sel:Int
 stops:List Sp
 last:Rp
def UE (w:World) (b o:Nat) (x:Bn):Prop:=w.cell? ⟨b,o,none⟩=some (.string (za x.name))∧w.cell? ⟨b,o+1,none⟩=some (.int .i64 x.val.k)∧w.cell? ⟨b,o+2,none⟩=some (.int .i64 x.val.n)∧w.cell? ⟨b,o+3,none⟩=some (.string (za x.val.s))
def UF (S:Nat→Prop) (w:World) (b o:Nat) (x:Fr):Prop:=w.cell? ⟨b,o,none⟩=some (.string (za x.fn))∧w.cell? ⟨b,o+1,none⟩=some (.int .i64 x.line)∧∃u,w.cell? ⟨b,o+2,none⟩=some u∧rowIn S w u 4 UE x.vars
def UU (w:World) (b o:Nat) (x:Sp):Prop:=w.cell? ⟨b,o,none⟩=some (.int .i64 x.id)∧w.cell? ⟨b,o+1,none⟩=some (.int .i64 x.line)∧w.cell? ⟨b,o+2,none⟩=some (.string (za x.cond))∧w.cell? ⟨b,o+3,none⟩=some (.string (za x.watch))∧w.cell? ⟨b,o+4,none⟩=some (.bool x.off)
theorem xC (S:Nat→Prop):ye S UE:=fun _ _ _ _ _ _ hb hS hlt ⟨a,b,c,d⟩=>⟨(World.cell?_of_block (hb _ hS hlt)).trans a,(World.cell?_of_block (hb _ hS hlt)).trans b,(World.cell?_of_block (hb _ hS hlt)).trans c,(World.cell?_of_block (hb _ hS hlt)).trans d⟩
theorem VK (S:Nat→Prop):ye S (UF S):=fun _ _ _ _ _ hs hb hS hlt ⟨a,b,u,c,d⟩=>⟨(World.cell?_of_block (hb _ hS hlt)).trans a,(World.cell?_of_block (hb _ hS hlt)).trans b,u,(World.cell?_of_block (hb _ hS hlt)).trans c,rowIn.kept d (xC S) hs hb⟩
theorem VL (S:Nat→Prop):ye S UU:=fun _ _ _ _ _ _ hb hS hlt ⟨a,b,c,d,e⟩=>⟨(World.cell?_of_block (hb _ hS hlt)).trans a,(World.cell?_of_block (hb _ hS hlt)).trans b,(World.cell?_of_block (hb _ hS hlt)).trans c,(World.cell?_of_block (hb _ hS hlt)).trans d,(World.cell?_of_block (hb _ hS hlt)).trans e⟩
def YZ (S:Nat→Prop) (w:World) (v:Value) (l:List Bn):Prop:=rowIn S w v 4 UE l
def XM (S:Nat→Prop) (w:World) (v:Value) (l:List Fr):Prop:=rowIn S w v 3 (UF S) l
def Ui (S:Nat→Prop) (w:World) (v:Value) (l:List Sp):Prop:=rowIn S w v 5 UU l
abbrev UY (vf:Value) (pos status fault:Int) (out:List UInt8):Value:=.agg #[.int .i64 pos,.int .i64 status,.int .i64 fault,vf,.string (za out)]
abbrev U2 (err n:Int) (says:List UInt8):Value:=.agg #[.int .i64 err,.int .i64 n,.string (za says)]
abbrev UZ (x:Sp):Value:=.agg #[.int .i64 x.id,.int .i64 x.line,.string (za x.cond),.string (za x.watch),.bool x.off]
abbrev UW (u:Value) (fn:List UInt8) (line:Int):Value:=.agg #[.string (za fn),.int .i64 line,u]
abbrev uu (vf vs:Value) (v:Vw):Value:=.agg #[.int .i64 v.look.pos,.int .i64 v.look.status,.int .i64 v.look.fault,vf,.string (za v.look.out),.int .i64 v.sel,vs,.int .i64 v.last.err,.int .i64 v.last.n,.string (za v.last.says)]
def ZA (n:Int):Prop:=-9223372036854775808≤n∧n≤9223372036854775807
structure yf (f:Fr):Prop where
 fn:f.fn.length≤1048576
 line:ZA f.line
 nvars:f.vars.length≤1048576
 vars:∀b∈f.vars,b.name.length≤1048576∧zr b.val
structure YJ (s:Sp):Prop where
 id:ZA s.id
 line:ZA s.line
 cond:s.cond.length≤1048576
 watch:s.watch.length≤1048576
structure yg (v:Vw):Prop where
 pos:ZA v.look.pos
 status:ZA v.look.status
 fault:ZA v.look.fault
 nframes:v.look.frames.length≤1048576
 frames:∀f∈v.look.frames,yf f
 out:v.look.out.length≤1048576
 sel:ZA v.sel
 nstops:v.stops.length≤1048576
 stops:∀s∈v.stops,YJ s
 err:ZA v.last.err
 n:ZA v.last.n
 says:v.last.says.length≤1048576
structure zR (S:Nat→Prop) (w:World) (v:Vw) (vf vs:Value):Prop where
 frames:XM S w vf v.look.frames
 stops:Ui S w vs v.stops
theorem zR.kept {S:Nat→Prop} {w w':World} {v:Vw} {vf vs:Value} (h:zR S w v vf vs) (hs:w.heap.size≤w'.heap.size) (hb:∀q,S q→q<w.heap.size→w'.heap[q]?=w.heap[q]?):zR S w' v vf vs :=
 ⟨rowIn.kept h.frames (VK S) hs hb,rowIn.kept h.stops (VL S) hs hb⟩
theorem zR.below {S:Nat→Prop} {w w':World} {v:Vw} {vf vs:Value} (h:zR S w v vf vs) (hb:Below w.heap.size w w'):zR S w' v vf vs:=h.kept hb.size fun q _ hq=>hb.block q hq
def Z7:List (List UInt8):=[[],[100,105,118,105,115,105,111,110],[105,110,100,101,120],[115,105,122,101],[116,101,120,116],[105,110,112,117,116],[104,101,97,112],[102,114,97,109,101,115],[111,117,116,112,117,116],[115,116,101,112,115],[107,105,110,100]]
def zV (f:Int):List UInt8:=if f<0∨11≤f then [] else (Z7[f.toNat]?).getD []
theorem vI (f:Int):(zV f).length≤8:=by
 unfold zV
 split
 ·simp
 ·rename_i h
  cases hf:Z7[f.toNat]? with
  | none=>simp
  | some x =>
   have b:=List.mem_of_getElem? hf;simp only [Option.getD_some]
   unfold Z7 at b
   simp only [List.mem_cons,List.mem_nil_iff,or_false] at b;rcases b with h | h | h | h | h | h | h | h | h | h | h <;> (rw [h];simp)
def uv (pos status fault:Int):List (List UInt8) :=
 if status=0 then [[97,116,32],Lib.itoa pos,[32,114,117,110,110,105,110,103]] else if status=1 then [[97,116,32],Lib.itoa pos,[32,100,111,110,101]] else [[97,116,32],Lib.itoa pos,[32,102,97,117,108,116,32],zV fault]
def Zm (pos status fault:Int):List UInt8:=zG (uv pos status fault).flatten
def zM (os:List Ob) (l:List Bn):List (List UInt8):=l.flatMap fun b=>[[32],b.name,[61],Za os b.val]
def vJ (os:List Ob) (f:Fr) (sel:Bool):List (List UInt8):=[if sel then [62,32] else [32,32],f.fn,[58],Lib.itoa f.line]++zM os f.vars
def ZB (os:List Ob) (f:Fr) (sel:Bool):List UInt8:=zG (vJ os f sel).flatten
def XN (s:Sp):List (List UInt8) :=
 [[35],Lib.itoa s.id]++(if s.watch≠[] then [[32,119,97,116,99,104,32],s.watch] else if s.cond≠[] then [[32,108,105,110,101,32],Lib.itoa s.line,[32,105,102,32],s.cond] else [[32,108,105,110,101,32],Lib.itoa s.line])++(if s.off then [[32,111,102,102]] else [])
def Zl (s:Sp):List UInt8:=zG (XN s).flatten
def Y0 (err n:Int) (says:List UInt8):List (List UInt8) :=
 (if err≠0 then [[101,114,114,111,114,32],Lib.itoa err] else [[111,107]])++(if n≠0 then [[32],Lib.itoa n] else [])++(if says≠[] then [[32],says] else [])
def ZO (err n:Int) (says:List UInt8):List UInt8:=zG (Y0 err n says).flatten
def endsAt:List UInt8→List UInt8→List (List UInt8)
 | _,[]=>[]
 | cur,c::t=>if c=10 then cur::endsAt [] t else endsAt (cur++[c]) t
def uw (l:List (List UInt8)):List (List UInt8):=l.drop (l.length-4)
def Y1 (out:List UInt8):List (List UInt8):=uw (endsAt [] out)
def zn (os:List Ob) (sel:Int):Nat→List Fr→List (List UInt8)
 | _,[]=>[]
 | n,f::t=>ZB os f (decide ((n:Int)=sel))::zn os sel (n+1) t
def ZC (os:List Ob) (v:Vw):List (List UInt8) :=
 [Zm v.look.pos v.look.status v.look.fault]++zn os v.sel 0 v.look.frames.reverse++(Y1 v.look.out).map (fun s=>zG ([124,32]++s))++v.stops.map Zl++[ZO v.last.err v.last.n v.last.says]
def Yy (k:Nat) (v:Vw):Bool :=
 decide (0≤v.look.status∧v.look.status≤2)&&(decide (zV v.look.fault≠[])==decide (v.look.status=2))&&v.look.frames.all fun f=>f.vars.all fun b=>rightV b.val k
def zm (l:List (List UInt8)):List UInt8:=l.flatMap fun s=>s++[10]
attribute [local go_sem] Oper.semAt_some
theorem xi (v:Value) (base:Option Addr) (len cap:Nat) (hv:v=.slice base len cap) (w:World) :
  CallsIn Fence.wide 4 Tryz.prog 25 #[v] w fun e w'=>e=.returned (.func (.func 39) #[] #[.pointer (some ⟨w.heap.size,0,none⟩)])∧w'=w.alloc (.cells #[v] 27):=by
 subst hv;refine callsIn_of_wp Tryz.func25 rfl trivial ?_ rfl;simp only [Tryz.ntmps25,List.size_toArray,List.length_cons,List.length_nil,Nat.reduceAdd,Nat.reduceSub,Array.replicate_succ,Array.replicate_zero,List.push_toArray,List.append_toArray,List.nil_append,List.cons_append]
 gi_wp2
 go_ret
 exact ⟨rfl,rfl⟩
theorem VM (l Bn:Nat) (base:Option Addr) (cap:Nat) (frames:List Fr) (hlen:frames.length≤1048576) (J:Nat→World→Prop) (P:Nat→Value→Prop)
  (hJc:∀i W,J i W→W.cell? ⟨Bn,0,none⟩=some (.slice base frames.length cap))
  (hJe:∀i W,J i W→∀k (h:k<frames.length),∃b o u,base=some ⟨b,o,none⟩∧W.cell? ⟨b,o+k*3,none⟩=some (.string (za (frames[k]).fn))∧W.cell? ⟨b,o+k*3+1,none⟩=some (.int .i64 (frames[k]).line)∧W.cell? ⟨b,o+k*3+2,none⟩=some u∧P k u)
  (hY:∀i W u k (h:k<frames.length),frames.length=k+1+i→J i W→P k u→YieldAt Fence.wide (4-1) Tryz.prog l #[.int .i64 (i:Int),UW u (frames[k]).fn (frames[k]).line] W fun e W'=>e=.returned (.bool true)∧J (i+1) W')
  (W:World) (h0:J 0 W) :
  CallsIn Fence.wide 4 Tryz.prog 39 #[.func (.yield l) #[] #[],.pointer (some ⟨Bn,0,none⟩)] W fun e W'=>(∃u,e=.returned u)∧J frames.length W':=by
 have U:=hJc _ _ h0;refine callsIn_of_wp Tryz.func39 rfl trivial ?_ rfl;simp only [Tryz.ntmps39,List.size_toArray,List.length_cons,List.length_nil,Nat.reduceAdd,Nat.reduceSub,Array.replicate_succ,Array.replicate_zero,List.push_toArray,List.append_toArray,List.nil_append,List.cons_append]
 gi_wp2
 gi_loopw [6] (fun vi wr=>∃i:Nat,i≤frames.length∧vi=.int .i64 (i:Int)∧J i wr) (fun vi _=>frames.length-(intOf vi).toNat)
 case atStart=>exact ⟨0,Nat.zero_le _,rfl,h0⟩
 case round =>
  obtain ⟨i,X,rfl,c⟩:=hrel;have A:=hJc _ _ c
  by_cases hlt:i<frames.length
  ·have z:(i:Int)<frames.length:=by omega
   obtain ⟨k,h⟩:∃k,frames.length=k+1+i:=⟨frames.length-1-i,by omega⟩
   have q:k<frames.length:=by omega
   obtain ⟨b,o,u,rfl,F,G,R,E⟩:=hJe _ _ c k q;obtain ⟨Z,I,y,H,D,M⟩:=hY i wr u k q h c E;have V:Hid (frames.length=k+1+i):=h;have O:(frames.length:Int)-1-(i:Int)=(k:Int):=by omega
   have Y:Hid (J i wr):=c;obtain ⟨f,K⟩:∃f,f=frames[k]:=⟨_,rfl⟩;rw [←K] at F G D;clear K c h E hJc hJe hY
   gi_wp2
   refine M.mono ?_;rintro e T ⟨rfl,m⟩;have B:Hid (J (i+1) T):=m;clear M D A F G R m
   gi_wp2
   go_roundw
   case rel=>exact ⟨i+1,by omega,by go_num,B.out⟩
   case measure=>simp [intOf];omega
  ·have z:¬ (i:Int)<frames.length:=by omega
   obtain rfl:i=frames.length:=by omega
   gi_wp2
   go_end0
   exact ⟨⟨_,rfl⟩,c⟩
theorem xZ {n:Nat} {P:Program} {g:Operand} {ps:Array Tmp} {assign body:Code} {Q:Exit→Act→World→Prop} {a:Act} {w:World} {gf:Nat} {lb:Array Value}
  (hg:a.eval g=.func (.func gf) #[] lb) (eg:∀args w,(callFunc gf args).run P w=.ok (.enter gf args) w)
  (h:∀r0:Loop,r0.state=.ready→r0.pending=none→r0.tmps=a.tmps→r0.params=ps→r0.assign=assign→r0.body=body →
   CallsIn Fence.wide (n-1) P gf (#[.func (.yield (w.heap.size+1)) #[] #[]]++lb) ((w.alloc (.deferred (some []))).alloc (.loop r0)) (rangePost Fence.wide n P (w.heap.size+1) Q { a with defers:=[{ target:=.collected w.heap.size,args:=#[] }]++a.defers })) :
  (Code.rangeFunc g ps assign body).wpIn Fence.wide n P Q a w :=
 wpIn_rangeFunc fun fn _=>⟨_,_,_,{ target:=.fn (.func gf) lb,args:=#[.func (.yield (w.heap.size+1)) #[] #[]] },_,gf,_,_,run_enterLoop_outer fn a.tmps ps assign body,
  by simp only [resolve,hg];simp [go_sem];rfl,fun _ _=>trivial,by simp [invoke,go_sem,eg];rfl,(fun hd=>by cases hd),h _ rfl rfl rfl rfl rfl rfl⟩
end Go.Proofs.YtbjndgachcdbcaaGreatDoor
