import Derived.Test.YtmbofhpmockmbaaGreatDoorMC1
import Derived.Test.YtmbofhpmockmbaaGreatDoorShelf
namespace Go.Proofs.YtmbofhpmockmbaaGreatDoor
open Go.RowKit
set_option maxHeartbeats 16000000
set_option maxRecDepth 100000
def Z9 (n:Nat):Bool:=n==95||(decide (97≤n)&&decide (n≤122))||(decide (65≤n)&&decide (n≤90))
def Zp (n:Nat):Bool:=decide (48≤n)&&decide (n≤57)
def zz (n:Nat):Bool:=n==32||n==9||n==10
def Zg (n:Nat):Bool:=n != 10
theorem uc {a b:Bool} (h:a=b):Ending.returned (.bool a)=.returned (.bool b):=by rw [h]
theorem yg (n:Nat) (hn:n<256) (w:World) :
  Calls Tryz.prog 159 #[.int .u8 n] w fun e w'=>e=.returned (.bool (Z9 n))∧w=w':=by
 go_enter Tryz.func159,Tryz.ntmps159
 go_wp2
 all_goals go_ret
 all_goals refine ⟨uc ?_,rfl⟩
 all_goals (rw [Bool.eq_iff_iff];simp [Z9];try omega)
theorem yX (n:Nat) (hn:n<256) (w:World) :
  Calls Tryz.prog 161 #[.int .u8 n] w fun e w'=>e=.returned (.bool (Zp n))∧w=w':=by
 go_enter Tryz.func161,Tryz.ntmps161
 go_wp2
 all_goals go_ret
 all_goals refine ⟨uc ?_,rfl⟩
 all_goals (rw [Bool.eq_iff_iff];simp [Zp];try omega)
theorem vt (n:Nat) (hn:n<256) (w:World) :
  Calls Tryz.prog 153 #[.int .u8 n] w fun e w'=>e=.returned (.bool (zz n))∧w=w':=by
 go_enter Tryz.func153,Tryz.ntmps153
 go_wp2
 all_goals go_ret
 all_goals refine ⟨uc ?_,rfl⟩
 all_goals (rw [Bool.eq_iff_iff];simp [zz];try omega)
theorem Uc (n:Nat) (_:n<256) (w:World) :
  Calls Tryz.prog 155 #[.int .u8 n] w fun e w'=>e=.returned (.bool (Zg n))∧w=w':=by
 go_enter Tryz.func155,Tryz.ntmps155
 go_wp2
 all_goals go_ret
 all_goals refine ⟨uc ?_,rfl⟩
 all_goals (rw [Bool.eq_iff_iff];simp [Zg];try omega)
def xr (n:Nat):Bool:=Z9 n||Zp n
theorem ud (n:Nat) (hn:n<256) (w:World) :
  Calls Tryz.prog 173 #[.int .u8 n] w fun e w'=>e=.returned (.bool (xr n))∧w=w':=by
 cases h1:Z9 n with
 | true =>
  have o:=yg n hn w;rw [h1] at o
  go_enter Tryz.func173,Tryz.ntmps173
  go_wp2_with fail
  refine o.mono ?_;rintro e y ⟨rfl,rfl⟩;go_wp2
  go_ret
  exact ⟨uc (by simp [xr,h1]),rfl⟩
 | false =>
  have o:=yg n hn w;rw [h1] at o
  go_enter Tryz.func173,Tryz.ntmps173
  go_wp2_with fail
  refine o.mono ?_;rintro e y ⟨rfl,rfl⟩;go_wp2_with fail
  refine (yX n hn w).mono ?_;rintro e y ⟨rfl,rfl⟩;go_wp2
  go_ret
  exact ⟨uc (by simp [xr,h1]),rfl⟩
theorem ya (p:UInt8→Bool):∀(l:List UInt8) (k:Nat),k≤l.length→(∀j (h:j<l.length),j<k→p l[j]=true)→(∀h:k<l.length,p l[k]=false)→(l.takeWhile p).length=k
 | [],k,hk,_,_=>by simp at hk;simp [hk]
 | x::l,0,_,_,h2=>by
  have:=h2 (by simp)
  simp at this
  simp [this]
 | x::l,k+1,hk,h1,h2=>by
  have o:p x=true:=h1 0 (by simp) (by omega)
  have:=ya p l k (by simpa using hk) (fun j h hj=>h1 (j+1) (by simpa using h) (by omega)) (fun h=>h2 (by simpa using h))
  simp [o,this]
theorem Xo (l:List UInt8) (w:World) (hl:l.length≤9223372036854775000) :
  Calls Tryz.prog 152 #[.string (za l),.func (.func 153) #[] #[]] w fun e w'=>e=.returned (.int .i64 (l.takeWhile fun c=>zz c.toNat).length)∧w=w':=by
 obtain ⟨p,y⟩:∃p:UInt8→Bool,p=fun c=>zz c.toNat:=⟨_,rfl⟩
 have H:Hid (∀(c:UInt8) (wx:World),Calls Tryz.prog 153 #[.int .u8 (c.toNat:Int)] wx fun e w'=>e=.returned (.bool (p c))∧wx=w'):=fun c wx=>by rw [y];exact vt c.toNat (UInt8.toNat_lt c) wx
 rw [←y];clear y;have G:(za l).size=l.length:=rfl
 go_enter Tryz.func152,Tryz.ntmps152
 go_wp2
 go_loop [5] (fun v=>∃i:Nat,i≤l.length∧v=.int .i64 i∧∀j (h:j<l.length),j<i→p l[j]=true) (fun v=>l.length-(intOf v).toNat)
 case atStart=>exact ⟨0,Nat.zero_le _,rfl,fun j h hj=>by omega⟩
 case round =>
  obtain ⟨i,E,rfl,o⟩:=hrel;have z:Hid (∀j (h:j<l.length),j<i→p l[j]=true):=o;clear o
  by_cases hlt:i<l.length
  ·have D:∀wx,(Instr.index 9 (.string (za l)) (.int .i64 (i:Int))).run Tryz.prog wx=.ok (.int .u8 ((l[i]).toNat:Int)) wx:=fun wx=>by
    rw [run_index_string (P:=Tryz.prog) (w:=wx) 9 (za l) .i64 _ Tryz.underlying9,dif_pos ⟨by omega,by rw [zZ];omega⟩]
    simp only [Int.toNat_natCast]
    rfl
   go_wp2_with fail
   refine (H.out l[i] w).mono ?_;rintro e I ⟨rfl,rfl⟩;cases hp:p l[i] with
   | true =>
    go_wp2
    refine ⟨⟨i+1,by omega,by go_num,fun j h hj=>?_⟩,by simp [intOf];omega⟩
    by_cases hji:j<i
    ·exact z.out j h hji
    ·obtain rfl:j=i:=by omega
     exact hp
   | false =>
    have A:Hid ((l.takeWhile p).length=i):=ya p l i E z.out (fun _=>hp)
    go_wp2
    go_ret
    rw [A.out];exact ⟨rfl,rfl⟩
  ·obtain rfl:i=l.length:=by omega
   have A:Hid ((l.takeWhile p).length=l.length):=ya p l l.length E z.out (fun h=>absurd h (by omega))
   go_wp2
   go_ret
   rw [A.out];exact ⟨rfl,rfl⟩
theorem ue (l:List UInt8) (w:World) (hl:l.length≤9223372036854775000) :
  Calls Tryz.prog 152 #[.string (za l),.func (.func 161) #[] #[]] w fun e w'=>e=.returned (.int .i64 (l.takeWhile fun c=>Zp c.toNat).length)∧w=w':=by
 obtain ⟨p,y⟩:∃p:UInt8→Bool,p=fun c=>Zp c.toNat:=⟨_,rfl⟩
 have H:Hid (∀(c:UInt8) (wx:World),Calls Tryz.prog 161 #[.int .u8 (c.toNat:Int)] wx fun e w'=>e=.returned (.bool (p c))∧wx=w'):=fun c wx=>by rw [y];exact yX c.toNat (UInt8.toNat_lt c) wx
 rw [←y];clear y;have G:(za l).size=l.length:=rfl
 go_enter Tryz.func152,Tryz.ntmps152
 go_wp2
 go_loop [5] (fun v=>∃i:Nat,i≤l.length∧v=.int .i64 i∧∀j (h:j<l.length),j<i→p l[j]=true) (fun v=>l.length-(intOf v).toNat)
 case atStart=>exact ⟨0,Nat.zero_le _,rfl,fun j h hj=>by omega⟩
 case round =>
  obtain ⟨i,E,rfl,o⟩:=hrel;have z:Hid (∀j (h:j<l.length),j<i→p l[j]=true):=o;clear o
  by_cases hlt:i<l.length
  ·have D:∀wx,(Instr.index 9 (.string (za l)) (.int .i64 (i:Int))).run Tryz.prog wx=.ok (.int .u8 ((l[i]).toNat:Int)) wx:=fun wx=>by
    rw [run_index_string (P:=Tryz.prog) (w:=wx) 9 (za l) .i64 _ Tryz.underlying9,dif_pos ⟨by omega,by rw [zZ];omega⟩]
    simp only [Int.toNat_natCast]
    rfl
   go_wp2_with fail
   refine (H.out l[i] w).mono ?_;rintro e I ⟨rfl,rfl⟩;cases hp:p l[i] with
   | true =>
    go_wp2
    refine ⟨⟨i+1,by omega,by go_num,fun j h hj=>?_⟩,by simp [intOf];omega⟩
    by_cases hji:j<i
    ·exact z.out j h hji
    ·obtain rfl:j=i:=by omega
     exact hp
   | false =>
    have A:Hid ((l.takeWhile p).length=i):=ya p l i E z.out (fun _=>hp)
    go_wp2
    go_ret
    rw [A.out];exact ⟨rfl,rfl⟩
  ·obtain rfl:i=l.length:=by omega
   have A:Hid ((l.takeWhile p).length=l.length):=ya p l l.length E z.out (fun h=>absurd h (by omega))
   go_wp2
   go_ret
   rw [A.out];exact ⟨rfl,rfl⟩
theorem uf (l:List UInt8) (w:World) (hl:l.length≤9223372036854775000) :
  Calls Tryz.prog 152 #[.string (za l),.func (.func 155) #[] #[]] w fun e w'=>e=.returned (.int .i64 (l.takeWhile fun c=>Zg c.toNat).length)∧w=w':=by
 obtain ⟨p,y⟩:∃p:UInt8→Bool,p=fun c=>Zg c.toNat:=⟨_,rfl⟩
 have H:Hid (∀(c:UInt8) (wx:World),Calls Tryz.prog 155 #[.int .u8 (c.toNat:Int)] wx fun e w'=>e=.returned (.bool (p c))∧wx=w'):=fun c wx=>by rw [y];exact Uc c.toNat (UInt8.toNat_lt c) wx
 rw [←y];clear y;have G:(za l).size=l.length:=rfl
 go_enter Tryz.func152,Tryz.ntmps152
 go_wp2
 go_loop [5] (fun v=>∃i:Nat,i≤l.length∧v=.int .i64 i∧∀j (h:j<l.length),j<i→p l[j]=true) (fun v=>l.length-(intOf v).toNat)
 case atStart=>exact ⟨0,Nat.zero_le _,rfl,fun j h hj=>by omega⟩
 case round =>
  obtain ⟨i,E,rfl,o⟩:=hrel;have z:Hid (∀j (h:j<l.length),j<i→p l[j]=true):=o;clear o
  by_cases hlt:i<l.length
  ·have D:∀wx,(Instr.index 9 (.string (za l)) (.int .i64 (i:Int))).run Tryz.prog wx=.ok (.int .u8 ((l[i]).toNat:Int)) wx:=fun wx=>by
    rw [run_index_string (P:=Tryz.prog) (w:=wx) 9 (za l) .i64 _ Tryz.underlying9,dif_pos ⟨by omega,by rw [zZ];omega⟩]
    simp only [Int.toNat_natCast]
    rfl
   go_wp2_with fail
   refine (H.out l[i] w).mono ?_;rintro e I ⟨rfl,rfl⟩;cases hp:p l[i] with
   | true =>
    go_wp2
    refine ⟨⟨i+1,by omega,by go_num,fun j h hj=>?_⟩,by simp [intOf];omega⟩
    by_cases hji:j<i
    ·exact z.out j h hji
    ·obtain rfl:j=i:=by omega
     exact hp
   | false =>
    have A:Hid ((l.takeWhile p).length=i):=ya p l i E z.out (fun _=>hp)
    go_wp2
    go_ret
    rw [A.out];exact ⟨rfl,rfl⟩
  ·obtain rfl:i=l.length:=by omega
   have A:Hid ((l.takeWhile p).length=l.length):=ya p l l.length E z.out (fun h=>absurd h (by omega))
   go_wp2
   go_ret
   rw [A.out];exact ⟨rfl,rfl⟩
theorem Ud (l:List UInt8) (w:World) (hl:l.length≤9223372036854775000) :
  Calls Tryz.prog 152 #[.string (za l),.func (.func 173) #[] #[]] w fun e w'=>e=.returned (.int .i64 (l.takeWhile fun c=>xr c.toNat).length)∧w=w':=by
 obtain ⟨p,y⟩:∃p:UInt8→Bool,p=fun c=>xr c.toNat:=⟨_,rfl⟩
 have H:Hid (∀(c:UInt8) (wx:World),Calls Tryz.prog 173 #[.int .u8 (c.toNat:Int)] wx fun e w'=>e=.returned (.bool (p c))∧wx=w'):=fun c wx=>by rw [y];exact ud c.toNat (UInt8.toNat_lt c) wx
 rw [←y];clear y;have G:(za l).size=l.length:=rfl
 go_enter Tryz.func152,Tryz.ntmps152
 go_wp2
 go_loop [5] (fun v=>∃i:Nat,i≤l.length∧v=.int .i64 i∧∀j (h:j<l.length),j<i→p l[j]=true) (fun v=>l.length-(intOf v).toNat)
 case atStart=>exact ⟨0,Nat.zero_le _,rfl,fun j h hj=>by omega⟩
 case round =>
  obtain ⟨i,E,rfl,o⟩:=hrel;have z:Hid (∀j (h:j<l.length),j<i→p l[j]=true):=o;clear o
  by_cases hlt:i<l.length
  ·have D:∀wx,(Instr.index 9 (.string (za l)) (.int .i64 (i:Int))).run Tryz.prog wx=.ok (.int .u8 ((l[i]).toNat:Int)) wx:=fun wx=>by
    rw [run_index_string (P:=Tryz.prog) (w:=wx) 9 (za l) .i64 _ Tryz.underlying9,dif_pos ⟨by omega,by rw [zZ];omega⟩]
    simp only [Int.toNat_natCast]
    rfl
   go_wp2_with fail
   refine (H.out l[i] w).mono ?_;rintro e I ⟨rfl,rfl⟩;cases hp:p l[i] with
   | true =>
    go_wp2
    refine ⟨⟨i+1,by omega,by go_num,fun j h hj=>?_⟩,by simp [intOf];omega⟩
    by_cases hji:j<i
    ·exact z.out j h hji
    ·obtain rfl:j=i:=by omega
     exact hp
   | false =>
    have A:Hid ((l.takeWhile p).length=i):=ya p l i E z.out (fun _=>hp)
    go_wp2
    go_ret
    rw [A.out];exact ⟨rfl,rfl⟩
  ·obtain rfl:i=l.length:=by omega
   have A:Hid ((l.takeWhile p).length=l.length):=ya p l l.length E z.out (fun h=>absurd h (by omega))
   go_wp2
   go_ret
   rw [A.out];exact ⟨rfl,rfl⟩
def zQ:List (List UInt8):=[[102,110],[114,101,99,111,114,100],[108,101,116],[105,102],[101,108,115,101],[119,104,105,108,101],[114,101,116,117,114,110],[110,101,119],[116,114,117,101],[102,97,108,115,101]]
def signsL:List (List UInt8):=[[40],[41],[123],[125],[91],[93],[44],[58],[59],[46],[61],[61,61],[33,61],[60],[60,61],[62],[62,61],[43],[45],[42],[47],[37],[33],[38,38],[124,124]]
structure ZB (w:World):Prop where
 words:∀j (h:j<zQ.length),w.cell? ⟨9,j,none⟩=some (.string (za zQ[j]))
 signs:∀j (h:j<signsL.length),w.cell? ⟨8,j,none⟩=some (.string (za signsL[j]))
 escs:∀j (h:j<6),w.cell? ⟨10,j,none⟩=some (.int .u8 ([92,92,34,34,10,110][j]:Nat))
 range:∃te pe,w.cell? ⟨2,0,none⟩=some (.iface te pe)
def yp (l:List UInt8):Bool:=zQ.contains l
theorem ug (w:World) (i:Nat) (h:i<10):(Instr.index 227 (.agg #[.string (za zQ[0]),.string (za zQ[1]),.string (za zQ[2]),.string (za zQ[3]),.string (za zQ[4]),.string (za zQ[5]),.string (za zQ[6]),.string (za zQ[7]),.string (za zQ[8]),.string (za zQ[9])]) (.int .i64 (i:Int))).run Tryz.prog w=.ok (.string (za (zQ[i]'h))) w:=by
 have o:i=0∨i=1∨i=2∨i=3∨i=4∨i=5∨i=6∨i=7∨i=8∨i=9:=by omega
 rcases o with rfl | rfl | rfl | rfl | rfl | rfl | rfl | rfl | rfl | rfl
 all_goals rfl
theorem uh (w:World) (i:Nat) (h:i<25):(Instr.index 225 (.agg #[.string (za signsL[0]),.string (za signsL[1]),.string (za signsL[2]),.string (za signsL[3]),.string (za signsL[4]),.string (za signsL[5]),.string (za signsL[6]),.string (za signsL[7]),.string (za signsL[8]),.string (za signsL[9]),.string (za signsL[10]),.string (za signsL[11]),.string (za signsL[12]),.string (za signsL[13]),.string (za signsL[14]),.string (za signsL[15]),.string (za signsL[16]),.string (za signsL[17]),.string (za signsL[18]),.string (za signsL[19]),.string (za signsL[20]),.string (za signsL[21]),.string (za signsL[22]),.string (za signsL[23]),.string (za signsL[24])]) (.int .i64 (i:Int))).run Tryz.prog w=.ok (.string (za (signsL[i]'h))) w:=by
 have o:i=0∨i=1∨i=2∨i=3∨i=4∨i=5∨i=6∨i=7∨i=8∨i=9∨i=10∨i=11∨i=12∨i=13∨i=14∨i=15∨i=16∨i=17∨i=18∨i=19∨i=20∨i=21∨i=22∨i=23∨i=24:=by omega
 rcases o with rfl | rfl | rfl | rfl | rfl | rfl | rfl | rfl | rfl | rfl | rfl | rfl | rfl | rfl | rfl | rfl | rfl | rfl | rfl | rfl | rfl | rfl | rfl | rfl | rfl
 all_goals rfl
theorem qV {a b:List UInt8}:(a==b)=decide (a=b):=by by_cases h:a=b <;> simp [h]
theorem UP {l:List UInt8} {i:Nat} (h:i<zQ.length) (he:zQ[i]=l):yp l=true:=by
 unfold yp;rw [List.contains_iff_mem];rw [←he];exact List.getElem_mem h
theorem Ue {l:List UInt8} (h:∀j (h:j<zQ.length),zQ[j]≠l):yp l=false:=by
 unfold yp
 rw [Bool.eq_false_iff];intro o;rw [List.contains_iff_mem] at o;obtain ⟨j,y,z⟩:=List.getElem_of_mem o;exact h j y z
theorem Uf (l:List UInt8) (w:World) (ht:ZB w) :
  Calls Tryz.prog 174 #[.string (za l)] w fun e w'=>e=.returned (.bool (yp l))∧w=w':=by
 have J:=ht.words 0 (by decide)
 have Q:=ht.words 1 (by decide)
 have M:=ht.words 2 (by decide)
 have I:=ht.words 3 (by decide)
 have L:=ht.words 4 (by decide)
 have O:=ht.words 5 (by decide)
 have R:=ht.words 6 (by decide)
 have H:=ht.words 7 (by decide)
 have K:=ht.words 8 (by decide)
 have T:=ht.words 9 (by decide)
 clear ht
 go_enter Tryz.func174,Tryz.ntmps174
 go_wp2
 clear J Q M I L O R H K T
 go_loop [6] (fun v=>∃i:Nat,i≤10∧v=.int .i64 i∧∀j (h:j<zQ.length),j<i→zQ[j]≠l) (fun v=>10-(intOf v).toNat)
 case atStart=>exact ⟨0,Nat.zero_le _,rfl,fun j h hj=>by omega⟩
 case round =>
  obtain ⟨i,V,rfl,o⟩:=hrel;have G:Hid (∀j (h:j<zQ.length),j<i→zQ[j]≠l):=o;clear o
  by_cases hlt:i<10
  ·have z:=fun wx=>ug wx i hlt
   obtain ⟨x,A⟩:∃x,x=zQ[i]'hlt:=⟨_,rfl⟩;rw [←A] at z;have E:Hid (x=zQ[i]'hlt):=A;clear A
   by_cases y:x=l
   ·subst y
    have D:Hid (yp x=true):=UP (i:=i) hlt E.out.symm;go_wp2
    go_ret
    rw [D.out];exact ⟨rfl,rfl⟩
   ·have U:Hid (x≠l):=y
    have W:(x==l)=false:=by rw [qV];exact decide_eq_false y
    clear y;go_wp2
    refine ⟨⟨i+1,by omega,by go_num,fun j h hj=>?_⟩,by simp [intOf];omega⟩
    by_cases hji:j<i
    ·exact G.out j h hji
    ·obtain rfl:j=i:=by omega
     intro y;exact U.out (E.out.trans y)
  ·obtain rfl:i=10:=by omega
   have D:Hid (yp l=false):=Ue (fun j h=>G.out j h h)
   go_wp2
   go_ret
   rw [D.out];exact ⟨rfl,rfl⟩
end Go.Proofs.YtmbofhpmockmbaaGreatDoor
