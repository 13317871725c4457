import Derived.Test.YtbjndgachcdbcaaGreatDoorVApp
namespace Go.Proofs.YtbjndgachcdbcaaGreatDoor
open Go.RowKit Go.Shelf
set_option maxHeartbeats 16000000
set_option maxRecDepth 100000
theorem xt (S T:Nat→Prop) (l m:List (List UInt8)) (v u:Value) (w:World) (hl:rowIn S w v 1 zY l) (hm:rowIn T w u 1 zY m) (hll:l.length≤4194304) :
  Calls Tryz.prog 17 #[v,u] w fun e w'=>e=.returned (.bool (decide (l=m)))∧Below w.heap.size w w':=by
 obtain ⟨b1,k1,rfl,-,-,q⟩:=hl.at
 obtain ⟨b2,k2,rfl,-,-,V⟩:=hm.at
 have H1:Hid (∀i (Z:i<l.length),∃b o,b1=some ⟨b,o,none⟩∧S b∧b<w.heap.size∧zY w b (o+i*1) l[i]):=q;have H2:Hid (∀i (Z:i<m.length),∃b o,b2=some ⟨b,o,none⟩∧T b∧b<w.heap.size∧zY w b (o+i*1) m[i]):=V;have B:Hid (Below w.heap.size w w):=Below.refl _ _;clear q V hl hm
 by_cases hlen:l.length=m.length
 ·have E:((l.length:Int)==(m.length:Int))=true:=by rw [hlen];simp
  have D:(l.length==m.length)=true:=by rw [hlen];simp
  obtain ⟨n,hn⟩:∃n,n=m.length:=⟨_,rfl⟩;have F:Hid (l.length=m.length):=hlen;rw [hlen];rw [hlen] at hll;have ab:(m.length:Int)≤4194304:=by omega
  clear E D hn hlen
  go_enter Tryz.func17,Tryz.ntmps17
  go_wp2
  go_loopw [5] (fun vi wr=>∃i:Nat,i≤m.length∧vi=.int .i64 (i:Int)∧Hid (l.take i=m.take i)∧Below w.heap.size w wr) (fun vi _=>m.length-(intOf vi).toNat)
  case atStart=>exact ⟨0,Nat.zero_le _,rfl,by show _=_;simp,B.out⟩
  case round =>
   obtain ⟨i,Z,rfl,W,z⟩:=hrel;have c:Hid (Below w.heap.size w wr):=z;clear z
   by_cases hlt:i<m.length
   ·have K:(i:Int)<m.length:=by omega
    have h:i<l.length:=by have:=F.out;omega
    obtain ⟨g1,o1,rfl,-,R,H⟩:=H1.out i h;obtain ⟨Y,X,rfl,-,U,A⟩:=H2.out i hlt;obtain ⟨x,O⟩:∃x,x=l[i]:=⟨_,rfl⟩;obtain ⟨y,J⟩:∃y,y=m[i]:=⟨_,rfl⟩
    have d1:wr.cell? ⟨g1,o1+i,none⟩=some (.string (za x)):=by
     have:=(zb (g:=g1) (j:=o1+i*1) c.out R).trans H
     rw [O]
     simpa only [Nat.mul_one] using this
    have d2:wr.cell? ⟨Y,X+i,none⟩=some (.string (za y)):=by
     have:=(zb (g:=Y) (j:=X+i*1) c.out U).trans A
     rw [J]
     simpa only [Nat.mul_one] using this
    have I:Hid (x=l[i]∧y=m[i]):=⟨O,J⟩;clear H A O J
    by_cases he:x=y
    ·subst he
     have M:Hid (l.take (i+1)=m.take (i+1)):=by
      have e1:l.take i++[l[i]]=l.take (i+1):=List.take_append_getElem h;have e2:m.take i++[m[i]]=m.take (i+1):=List.take_append_getElem hlt;show _=_
      rw [←e1,←e2,W.out,←I.out.1,←I.out.2]
     go_upto_region 6 with fail
     go_quiet (fail)
     go_wp2
     exact ⟨⟨i+1,by omega,by go_num,M,⟨c.out.os,c.out.tape,c.out.output,c.out.size,c.out.block⟩⟩,by simp [intOf];omega⟩
    ·have aa:(x==y)=false:=by rw [uV];exact decide_eq_false he
     have G:Hid (decide (l=m)=false):=decide_eq_false fun e=>he (by
      rw [I.out.1,I.out.2]
      simp only [e])
     clear he
     go_upto_region 6 with fail
     go_quiet (fail)
     go_wp2
     go_ret
     rw [G.out];exact ⟨rfl,⟨c.out.os,c.out.tape,c.out.output,c.out.size,c.out.block⟩⟩
   ·obtain rfl:i=m.length:=by omega
    have K:¬ (m.length:Int)<m.length:=by omega
    have G:Hid (decide (l=m)=true):=decide_eq_true (by
     have q:=W.out;rw [List.take_length,←F.out,List.take_length] at q
     exact q)
    go_wp2
    go_ret
    rw [G.out];exact ⟨rfl,c.out⟩
 ·have E:((l.length:Int)==(m.length:Int))=false:=by rw [beq_eq_false_iff_ne];omega
  have D:(l.length==m.length)=false:=by rw [beq_eq_false_iff_ne];exact hlen
  have G:Hid (decide (l=m)=false):=decide_eq_false fun e=>hlen (by rw [e])
  clear hlen
  go_enter Tryz.func17,Tryz.ntmps17
  go_wp2
  go_ret
  rw [G.out];exact ⟨rfl,B.out⟩
theorem X2 (os ex:List Ob) (hok:∀o∈os,xb o os.length=true):∀(d:Nat) (v:Vl),rightV v os.length=true→zy (os++ex) d v=zy os d v
 | 0,_,_=>rfl
 | d+1,v,h=>by
  unfold zy zX
  by_cases h4:v.k=4
  ·have q:0≤v.n∧v.n<(os.length:Int):=by
    unfold rightV at h
    rw [if_neg (by omega),if_neg (by omega),if_neg (by omega),if_neg (by omega),if_pos h4,decide_eq_true_eq] at h
    exact h.1
   have e:v.n.toNat<os.length:=by omega
   rw [if_neg (by omega),if_neg (by omega),if_neg (by omega),if_pos h4,if_neg (by omega),if_neg (by omega),if_neg (by omega),if_pos h4,List.getElem?_append_left e,List.getElem?_eq_getElem e,Option.getD_some]
   have c:=hok _ (List.getElem_mem e)
   unfold xb at c
   rw [Bool.and_eq_true,List.all_eq_true] at c
   have m:∀l:List Vl,(∀x∈l,x∈(os[v.n.toNat]).2)→zf (zy (os++ex) d) l=zf (zy os d) l:=fun l hl=>by
    have b:∀x∈l,zy (os++ex) d x=zy os d x:=fun x hx=>X2 os ex hok d x (by
     have:=c.1 x (hl x hx)
     unfold ZW at this
     rw [Bool.and_eq_true] at this
     exact this.2)
    cases l with
    | nil=>rfl
    | cons x t =>
     show zy (os++ex) d x++_=zy os d x++_
     rw [b x (by simp)]
     congr 1
     have:∀t:List Vl,(∀y∈t,zy (os++ex) d y=zy os d y)→(t.flatMap fun u=>[44,32]++zy (os++ex) d u)=t.flatMap fun u=>[44,32]++zy os d u:=fun t ht=>by
      induction t with
      | nil=>rfl
      | cons y t ih=>rw [List.flatMap_cons,List.flatMap_cons,ht y (by simp),ih fun z hz=>ht z (by simp [hz])]
     exact this t fun y hy=>b y (by simp [hy])
   unfold Uw
   rw [m _ fun x hx=>List.mem_of_mem_take hx]
  ·rw [if_neg h4,if_neg h4]
theorem VV (os:List Ob) (o:Ob) (hok:∀o∈os,xb o os.length=true) (v:Vl) (h:rightV v os.length=true):Za (os++[o]) v=Za os v:=by
 have b:rightV v ((os++[o]).length:Int)=true:=Yo h (by simp;omega)
 unfold Za
 rw [if_pos b,if_pos h,X2 os [o] hok 2 v h]
theorem xM (os:List Ob) (o:Ob) (hok:∀o∈os,xb o os.length=true):∀l:List Bn,(∀b∈l,rightV b.val os.length=true)→zM (os++[o]) l=zM os l
 | [],_=>rfl
 | b::t,h=>by
  have c:=xM os o hok t fun x hx=>h x (by simp [hx])
  unfold zM at c ⊢
  rw [List.flatMap_cons,List.flatMap_cons,c,VV os o hok b.val (h b (by simp))]
theorem yR (os:List Ob) (o:Ob) (hok:∀o∈os,xb o os.length=true) (sel:Int):∀(k:Nat) (l:List Fr),(∀f∈l,∀b∈f.vars,rightV b.val os.length=true)→zn (os++[o]) sel k l=zn os sel k l
 | _,[],_=>rfl
 | k,f::t,h=>by
  unfold zn
  rw [yR os o hok sel (k+1) t fun x hx=>h x (by simp [hx])]
  congr 1
  unfold ZB vJ
  rw [xM os o hok f.vars (h f (by simp))]
theorem X3 (os:List Ob) (o:Ob) (v:Vw) (hok:∀o∈os,xb o os.length=true) (h:∀f∈v.look.frames,∀b∈f.vars,rightV b.val os.length=true):ZC (os++[o]) v=ZC os v∧Yy (os++[o]).length v=Yy os.length v:=by
 constructor
 ·unfold ZC
  rw [yR os o hok v.sel 0 _ fun f hf=>h f (List.mem_reverse.1 hf)]
 ·unfold Yy
  congr 1
  have e:(v.look.frames.all fun f=>f.vars.all fun b=>rightV b.val os.length)=true:=List.all_eq_true.2 fun f hf=>List.all_eq_true.2 fun b hb=>h f hf b hb
  have c:(v.look.frames.all fun f=>f.vars.all fun b=>rightV b.val ((os++[o]).length:Nat))=true:=List.all_eq_true.2 fun f hf=>List.all_eq_true.2 fun b hb=>Yo (h f hf b hb) (by simp;omega)
  rw [e,c]
theorem Yf {S T:Nat→Prop} {most:Nat} {os:List Ob} {h:Nat} {vo vc:Value} (v:Vw) (vf vs:Value) (w:World) (H:zs S w most os h vo vc) (hv:zR T w v vf vs) (hs:yg v) (ht:Yz w) :
  Calls Tryz.prog 13 #[uu vf vs v,.pointer (some ⟨h,0,none⟩)] w fun e w'=>∃r,e=.returned (.tuple #[r,.int .i64 (if Yy os.length v=true then 0 else 2)])∧rowIn (fun _=>True) w' r 1 zY (if Yy os.length v=true then ZC os v else [])∧Below w.heap.size w w':=by
 refine (xI v vf vs w H hv hs ht).mono ?_;rintro e w' (⟨c,rfl,z⟩ | ⟨c,r,rfl,u⟩)
 ·rw [if_neg (by rw [c];decide),if_neg (by rw [c];decide)]
  exact ⟨_,rfl,⟨none,0,rfl,Nat.le_refl _,Nat.zero_le _,.inl rfl⟩,z⟩
 ·rw [if_pos c,if_pos c]
  refine ⟨r,rfl,?_,u.below⟩;obtain ⟨base,m,e,A,y,q⟩:=u.in;refine ⟨base,m,e,A,y,?_⟩;rcases q with q | ⟨b,o,B,-,D,E⟩
  ·exact .inl q
  ·exact .inr ⟨b,o,B,trivial,D,E⟩
end Go.Proofs.YtbjndgachcdbcaaGreatDoor
