import Derived.Test.YtbjndgachcdbcaaGreatDoorVMath
namespace Go.Proofs.YtbjndgachcdbcaaGreatDoor
open Go.RowKit Go.Shelf
structure Bn where
 name:List UInt8
 val:Vl
structure Fr where
 fn:List UInt8
 line:Int
 vars:List Bn
structure Lk where
 pos:Int
 status:Int
 fault:Int
 frames:List Fr
 out:List UInt8
structure Sp where
 id:Int
 line:Int
 cond:List UInt8
 watch:List UInt8
 off:Bool
structure Rp where
 err:Int
 n:Int
 says:List UInt8
structure Vw where
 look:Lk
 sel:Int
 stops:List Sp
 last:Rp
def ul (w:World) (b o:Nat) (x:Bn):Prop:=w.cell? ⟨b,o,none⟩=some (.string (za x.name))∧w.cell? ⟨b,o+1,none⟩=some (.int .i64 x.val.k)∧w.cell? ⟨b,o+2,none⟩=some (.int .i64 x.val.n)∧w.cell? ⟨b,o+3,none⟩=some (.string (za x.val.s))
def ux (S:Nat→Prop) (w:World) (b o:Nat) (x:Fr):Prop:=w.cell? ⟨b,o,none⟩=some (.string (za x.fn))∧w.cell? ⟨b,o+1,none⟩=some (.int .i64 x.line)∧∃u,w.cell? ⟨b,o+2,none⟩=some u∧rowIn S w u 4 ul x.vars
def uA (w:World) (b o:Nat) (x:Sp):Prop:=w.cell? ⟨b,o,none⟩=some (.int .i64 x.id)∧w.cell? ⟨b,o+1,none⟩=some (.int .i64 x.line)∧w.cell? ⟨b,o+2,none⟩=some (.string (za x.cond))∧w.cell? ⟨b,o+3,none⟩=some (.string (za x.watch))∧w.cell? ⟨b,o+4,none⟩=some (.bool x.off)
theorem Y0 (S:Nat→Prop):yc S ul:=fun _ _ _ _ _ _ hb hS hlt ⟨a,b,c,d⟩=>⟨(World.cell?_of_block (hb _ hS hlt)).trans a,(World.cell?_of_block (hb _ hS hlt)).trans b,(World.cell?_of_block (hb _ hS hlt)).trans c,(World.cell?_of_block (hb _ hS hlt)).trans d⟩
theorem vp (S:Nat→Prop):yc S (ux S):=fun _ _ _ _ _ hs hb hS hlt ⟨a,b,u,c,d⟩=>⟨(World.cell?_of_block (hb _ hS hlt)).trans a,(World.cell?_of_block (hb _ hS hlt)).trans b,u,(World.cell?_of_block (hb _ hS hlt)).trans c,rowIn.kept d (Y0 S) hs hb⟩
theorem vq (S:Nat→Prop):yc S uA:=fun _ _ _ _ _ _ hb hS hlt ⟨a,b,c,d,e⟩=>⟨(World.cell?_of_block (hb _ hS hlt)).trans a,(World.cell?_of_block (hb _ hS hlt)).trans b,(World.cell?_of_block (hb _ hS hlt)).trans c,(World.cell?_of_block (hb _ hS hlt)).trans d,(World.cell?_of_block (hb _ hS hlt)).trans e⟩
def Yr (S:Nat→Prop) (w:World) (v:Value) (l:List Bn):Prop:=rowIn S w v 4 ul l
def xU (S:Nat→Prop) (w:World) (v:Value) (l:List Fr):Prop:=rowIn S w v 3 (ux S) l
def VN (S:Nat→Prop) (w:World) (v:Value) (l:List Sp):Prop:=rowIn S w v 5 uA l
abbrev uD (vf:Value) (pos status fault:Int) (out:List UInt8):Value:=.agg #[.int .i64 pos,.int .i64 status,.int .i64 fault,vf,.string (za out)]
abbrev uH (err n:Int) (says:List UInt8):Value:=.agg #[.int .i64 err,.int .i64 n,.string (za says)]
abbrev uE (x:Sp):Value:=.agg #[.int .i64 x.id,.int .i64 x.line,.string (za x.cond),.string (za x.watch),.bool x.off]
abbrev uB (u:Value) (fn:List UInt8) (line:Int):Value:=.agg #[.string (za fn),.int .i64 line,u]
abbrev VO (vf vs:Value) (v:Vw):Value:=.agg #[.int .i64 v.look.pos,.int .i64 v.look.status,.int .i64 v.look.fault,vf,.string (za v.look.out),.int .i64 v.sel,vs,.int .i64 v.last.err,.int .i64 v.last.n,.string (za v.last.says)]
def Zm (n:Int):Prop:=-9223372036854775808≤n∧n≤9223372036854775807
structure yC (f:Fr):Prop where
 fn:f.fn.length≤1048576
 line:Zm f.line
 nvars:f.vars.length≤1048576
 vars:∀b∈f.vars,b.name.length≤1048576∧zw b.val
structure xi (s:Sp):Prop where
 id:Zm s.id
 line:Zm s.line
 cond:s.cond.length≤1048576
 watch:s.watch.length≤1048576
structure Xy (v:Vw):Prop where
 pos:Zm v.look.pos
 status:Zm v.look.status
 fault:Zm v.look.fault
 nframes:v.look.frames.length≤1048576
 frames:∀f∈v.look.frames,yC f
 out:v.look.out.length≤1048576
 sel:Zm v.sel
 nstops:v.stops.length≤1048576
 stops:∀s∈v.stops,xi s
 err:Zm v.last.err
 n:Zm v.last.n
 says:v.last.says.length≤1048576
structure Zn (S:Nat→Prop) (w:World) (v:Vw) (vf vs:Value):Prop where
 frames:xU S w vf v.look.frames
 stops:VN S w vs v.stops
theorem Zn.kept {S:Nat→Prop} {w w':World} {v:Vw} {vf vs:Value} (h:Zn S w v vf vs) (hs:w.heap.size≤w'.heap.size) (hb:∀q,S q→q<w.heap.size→w'.heap[q]?=w.heap[q]?):Zn S w' v vf vs :=
 ⟨rowIn.kept h.frames (vp S) hs hb,rowIn.kept h.stops (vq S) hs hb⟩
theorem Zn.below {S:Nat→Prop} {w w':World} {v:Vw} {vf vs:Value} (h:Zn S w v vf vs) (hb:Below w.heap.size w w'):Zn S w' v vf vs:=h.kept hb.size fun q _ hq=>hb.block q hq
def ZP:List (List UInt8):=[[],[100,105,118,105,115,105,111,110],[105,110,100,101,120],[115,105,122,101],[116,101,120,116],[105,110,112,117,116],[104,101,97,112],[102,114,97,109,101,115],[111,117,116,112,117,116],[115,116,101,112,115],[107,105,110,100]]
def zN (f:Int):List UInt8:=if f<0∨11≤f then [] else (ZP[f.toNat]?).getD []
theorem Xz (f:Int):(zN f).length≤8:=by
 unfold zN
 split
 ·simp
 ·rename_i h
  cases hf:ZP[f.toNat]? with
  | none=>simp
  | some x =>
   have b:=List.mem_of_getElem? hf;simp only [Option.getD_some]
   unfold ZP at b
   simp only [List.mem_cons,List.mem_nil_iff,or_false] at b;rcases b with h | h | h | h | h | h | h | h | h | h | h <;> (rw [h];simp)
def Vb (pos status fault:Int):List (List UInt8) :=
 if status=0 then [[97,116,32],Lib.itoa pos,[32,114,117,110,110,105,110,103]] else if status=1 then [[97,116,32],Lib.itoa pos,[32,100,111,110,101]] else [[97,116,32],Lib.itoa pos,[32,102,97,117,108,116,32],zN fault]
def Zc (pos status fault:Int):List UInt8:=zB (Vb pos status fault).flatten
def zL (os:List Ob) (l:List Bn):List (List UInt8):=l.flatMap fun b=>[[32],b.name,[61],Ze os b.val]
def Vc (os:List Ob) (f:Fr) (sel:Bool):List (List UInt8):=[if sel then [62,32] else [32,32],f.fn,[58],Lib.itoa f.line]++zL os f.vars
def ZA (os:List Ob) (f:Fr) (sel:Bool):List UInt8:=zB (Vc os f sel).flatten
def xV (s:Sp):List (List UInt8) :=
 [[35],Lib.itoa s.id]++(if s.watch≠[] then [[32,119,97,116,99,104,32],s.watch] else if s.cond≠[] then [[32,108,105,110,101,32],Lib.itoa s.line,[32,105,102,32],s.cond] else [[32,108,105,110,101,32],Lib.itoa s.line])++(if s.off then [[32,111,102,102]] else [])
def Zb (s:Sp):List UInt8:=zB (xV s).flatten
def Ys (err n:Int) (says:List UInt8):List (List UInt8) :=
 (if err≠0 then [[101,114,114,111,114,32],Lib.itoa err] else [[111,107]])++(if n≠0 then [[32],Lib.itoa n] else [])++(if says≠[] then [[32],says] else [])
def ZB (err n:Int) (says:List UInt8):List UInt8:=zB (Ys err n says).flatten
def endsAt:List UInt8→List UInt8→List (List UInt8)
 | _,[]=>[]
 | cur,c::t=>if c=10 then cur::endsAt [] t else endsAt (cur++[c]) t
def Vd (l:List (List UInt8)):List (List UInt8):=l.drop (l.length-4)
def YH (out:List UInt8):List (List UInt8):=Vd (endsAt [] out)
def zl (os:List Ob) (sel:Int):Nat→List Fr→List (List UInt8)
 | _,[]=>[]
 | n,f::t=>ZA os f (decide ((n:Int)=sel))::zl os sel (n+1) t
def xj (os:List Ob) (v:Vw):List (List UInt8) :=
 [Zc v.look.pos v.look.status v.look.fault]++zl os v.sel 0 v.look.frames.reverse++(YH v.look.out).map (fun s=>zB ([124,32]++s))++v.stops.map Zb++[ZB v.last.err v.last.n v.last.says]
def VP (k:Nat) (v:Vw):Bool :=
 decide (0≤v.look.status∧v.look.status≤2)&&(decide (zN v.look.fault≠[])==decide (v.look.status=2))&&v.look.frames.all fun f=>f.vars.all fun b=>zb b.val k
def zi (l:List (List UInt8)):List UInt8:=l.flatMap fun s=>s++[10]
end Go.Proofs.YtbjndgachcdbcaaGreatDoor
