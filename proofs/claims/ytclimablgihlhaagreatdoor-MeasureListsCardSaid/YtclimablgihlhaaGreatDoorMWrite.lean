/- Texts of decimal digits: AreDigits; what a text of digits says. -/
import Derived.Test.YtclimablgihlhaaGreatDoorMBase
import Derived.Laws.RangeString
import Derived.Laws.RangeAny
import Derived.Laws.Strings
import Derived.Outline
import Derived.Lib.TrimByte
import Derived.Test.YtclimablgihlhaaGreatDoorMDiv64
import Derived.Test.YtclimablgihlhaaGreatDoorShelf
import Derived.Test.YtclimablgihlhaaGreatDoorMMul
import Derived.Test.YtclimablgihlhaaGreatDoorShelfB
import Derived.Lib.ParseIntB
import Derived.Lib.ConvBytes
import Derived.Lib.UnsafeStr
import Derived.Lib.Split
import Derived.Laws.MakeOwn
import Derived.Laws.Strings3
import Derived.Test.YtclimablgihlhaaGreatDoorMDivWord
import Derived.RegionTactic
import Derived.ChangeAlike
import Derived.Laws.IdiomStrings
import Derived.Laws.BytesArg
set_option linter.all false
namespace Go.Proofs.YtclimablgihlhaaGreatDoor
open Go.RowKit
set_option maxRecDepth 100000
set_option maxHeartbeats 4000000
def isD(c:UInt8):Bool:=decide (48≤c.toNat∧c.toNat≤57)
def qj9(l:List UInt8):Bool := !l.isEmpty&&l.all isD
theorem qep(l:List UInt8):qj9 l=true↔l≠[]∧∀c ∈ l,isD c=true:=by
 unfold qj9;cases l<;>simp
theorem qdm(s:BA)(k:Nat)(h:k<s.size):s.data.toList[k]'(by simpa using h)=s[k]'h:=rfl
theorem q37(s:BA)(k:Nat)(h:k<s.size)(hb:isD (s[k]'h)=false):qj9 s.data.toList=false:=by
 unfold qj9;rw[Bool.and_eq_false_iff]
 right
 rw[List.all_eq_false];exact⟨s[k]'h,by rw[←qdm s k h];exact List.getElem_mem _,by simp[hb]⟩
theorem qdf(s:BA)(k:Nat)(h:k<s.size):s.data.toList.take (k+1)=s.data.toList.take k++[s[k]'h]:=by
 rw[List.take_succ_eq_append_getElem (by simpa using h)];rfl
theorem q38(s:BA)(pos:Nat)(h:pos<s.size)(hb:isD (s[pos]'h)=false):(Utf8.decode s pos).1<48∨57<(Utf8.decode s pos).1:=by
 by_cases ha:(s[pos]'h).toNat<128
 ·rw[decode_ascii s pos h ha]
  unfold isD at hb;simp at hb;show(s[pos]'h).toNat<48∨57<(s[pos]'h).toNat;omega
 ·have:=(decode_high s pos h (by omega)).1
  omega
theorem qqa(w:World)(s:BA)(p:Nat):Below w.heap.size w (w.iter s p):=zam _ _
theorem qfv(s:BA)(w:World):
  Calls Tryz.prog 48 #[.string s] w fun e w'=>e = .returned (.bool (qj9 s.data.toList))∧Below w.heap.size w w':=by
 have pG:=hid (fun p=>qqa w s p);have nM:=hid (q37 s);have qP:=hid (q38 s);have lA:=hid (qdf s)
 have Be:Hid ((∀c ∈ s.data.toList.take s.size,isD c=true)→qj9 s.data.toList = !s.data.toList.isEmpty):=hid fun h=>by
  rw[List.take_of_length_le (by simp)] at h;unfold qj9;rw[List.all_eq_true.2 h,Bool.and_true]
 generalize qj9 s.data.toList=res at *;go_enter Tryz.func48,Tryz.ntmps48;go_wp2_with fail
 go_loopw [4] (fun _ wr=>∃pos:Nat,pos≤s.size∧wr=w.iter s pos∧Hid (∀c ∈ s.data.toList.take pos,isD c=true)) (fun _ w'=>s.size-w'.iterPos w.heap.size)
 case atStart=>exact⟨0,Nat.zero_le _,rfl,hid (by simp)⟩
 case round=>
  obtain⟨pos,Ny,rfl,HD⟩:=hrel;by_cases hp:pos<s.size
  ·by_cases hd:isD (s[pos]'hp)=true
   ·have h1:48≤(s[pos]'hp).toNat∧(s[pos]'hp).toNat≤57:=by simpa [isD] using hd
    have Nz:∀ty,(Instr.next (.pointer (some ⟨w.heap.size,0,none⟩)) true ty).run Tryz.prog (w.iter s pos)=_:=fun ty=>run_next_ascii w s pos ty hp (by omega)
    have pP:Hid (∀c ∈ s.data.toList.take (pos+1),isD c=true):=hid (by
     rw[lA.out pos hp];intro c hc;rcases List.mem_append.1 hc with hc|hc
     ·exact HD.out c hc
     ·rw[List.mem_singleton.1 hc];exact hd)
    clear hd;generalize (s[pos]'hp).toNat=c at *;obtain⟨h48,h57⟩:=h1;have g1:decide ((c:Int)<48)=false:=zar (by omega);have g2:decide ((57:Int)<(c:Int))=false:=zar (by omega);go_wp2_with fail;go_roundw
    case rel=>exact⟨pos+1,by omega,rfl,pP⟩
    case measure=>simp;omega
   ·have hd':isD (s[pos]'hp)=false:=by simpa using hd
    have hr:=qP.out pos hp hd';have yM:res=false:=nM.out pos hp hd';have Nz:∀ty,(Instr.next (.pointer (some ⟨w.heap.size,0,none⟩)) true ty).run Tryz.prog (w.iter s pos)=_:=fun ty=>run_next_any w s pos ty hp;have aS:=hid yM;clear yM hd hd';generalize (Utf8.decode s pos).2=wid at *;generalize (Utf8.decode s pos).1=c at *;rcases hr with hr|hr
    ·have g1:decide ((c:Int)<48)=true:=zas (by omega)
     go_wp2_with fail;go_ret;exact⟨qbb aS.out.symm,pG.out _⟩
    ·have g1:decide ((c:Int)<48)=false:=zar (by omega)
     have g2:decide ((57:Int)<(c:Int))=true:=zas (by omega);go_wp2_with fail;go_ret;exact⟨qbb aS.out.symm,pG.out _⟩
  ·have Kk:pos=s.size:=by omega
   have aS:Hid (res = !s.data.toList.isEmpty):=hid (Be.out (by rw[←Kk];exact HD.out));have Nz:∀ty,(Instr.next (.pointer (some ⟨w.heap.size,0,none⟩)) true ty).run Tryz.prog (w.iter s pos)=_:=fun ty=>run_next_end w s pos ty hp;clear Kk;go_wp2_with fail;go_ret;refine⟨qbb ?_,pG.out _⟩;rw[aS.out];simp[ByteArray.toList_eq]
def qaz(a:Nat)(l:List UInt8):Nat:=l.foldl (fun a c=>a*10+(c.toNat-48)) a
theorem qhv(a:Nat):qaz a []=a:=by unfold qaz;rw[List.foldl_nil]
theorem qge(a:Nat)(c:UInt8)(l:List UInt8):qaz a (c::l)=qaz (a*10+(c.toNat-48)) l:=by unfold qaz;rw[List.foldl_cons]
theorem qka(a:Nat)(l r:List UInt8):qaz a (l++r)=qaz (qaz a l) r:=by unfold qaz;rw[List.foldl_append]
theorem qjd(l:List UInt8):∀a,qaz a l=a*10^l.length+qaz 0 l:=by
 induction l with
 | nil=>intro a;simp[qaz]
 | cons c l ih=>
  intro a;rw[qge,qge,ih,ih (0*10+(c.toNat-48)),List.length_cons,Nat.pow_succ,Nat.add_mul,Nat.zero_mul,Nat.zero_add,Nat.mul_assoc,Nat.mul_comm 10,Nat.add_assoc]
theorem q0b(l:List UInt8)(a:Nat):a≤qaz a l:=by
 rw[qjd];have:1≤10^l.length:=Nat.one_le_pow _ _ (by omega);have:=Nat.mul_le_mul_left a this;omega
theorem ql5(c:UInt8):isD c=true↔48≤c.toNat∧c.toNat≤57:=by unfold isD;exact decide_eq_true_iff
theorem qso(d p v:Nat)(oC:d≤9)(h1:v<p):d*p+v<p*10:=by
 have h3:d*p≤9*p:=Nat.mul_le_mul_right _ oC;omega
theorem qfn:∀(l:List UInt8),(∀c ∈ l,isD c=true)→qaz 0 l<10^l.length
 | [],_=>by decide
 | c::l,h=>by
  have h1:=qfn l (fun c hc=>h c (List.mem_cons_of_mem _ hc));have h2:=(ql5 c).1 (h c (List.mem_cons_self ..));rw[qge,qjd,List.length_cons,Nat.pow_succ,Nat.zero_mul,Nat.zero_add];exact qso _ _ _ (by omega) h1
end Go.Proofs.YtclimablgihlhaaGreatDoor
namespace Go.Proofs.YtclimablgihlhaaGreatDoor
set_option maxRecDepth 100000
set_option maxHeartbeats 4000000
def dig(d:Nat):UInt8:=UInt8.ofNat (48+d % 10)
theorem qis(d:Nat):(dig d).toNat=48+d % 10:=by
 unfold dig;rw[UInt8.toNat_ofNat'];omega
theorem q63(d:Nat):isD (dig d)=true:=by rw[ql5,qis];omega
def qfr(n:Nat):List UInt8:=if n=0 then[] else qfr (n/10)++[dig n]
decreasing_by omega
theorem qcu:qfr 0=[]:=by rw[qfr];simp
theorem qdn{n:Nat}(h:0<n):qfr n=qfr (n/10)++[dig n]:=by rw[qfr,if_neg (by omega)]
def qaw(n:Nat):List UInt8:=if n=0 then[48] else qfr n
def pd:Nat→Nat→List UInt8
 | 0,_=>[]
 | k+1,n=>dig n::pd k (n/10)
theorem qk5:∀k n,(pd k n).length=k
 | 0,_=>rfl
 | k+1,n=>by rw[pd,List.length_cons,qk5]
theorem quu:∀k n,pd (k+1) n=pd k n++[dig (n/10^k)]
 | 0,n=>by simp[pd]
 | k+1,n=>by
  rw[pd,quu k (n/10),pd];rw[Nat.div_div_eq_div_mul,Nat.pow_succ,Nat.mul_comm (10^k)];rfl
theorem qsp:∀k m n,pd (k+m) n=pd k n++pd m (n/10^k)
 | 0,m,n=>by simp[pd]
 | k+1,m,n=>by
  have e:k+1+m=(k+m)+1:=by omega
  rw[e,pd,pd,qsp k m,Nat.div_div_eq_div_mul,Nat.pow_succ,Nat.mul_comm (10^k)];rfl
theorem qq6{n m:Nat}(h:n % 10=m % 10):dig n=dig m:=by unfold dig;rw[h]
theorem q6b:∀k n m,n % 10^k=m % 10^k→pd k n=pd k m
 | 0,_,_,_=>rfl
 | k+1,n,m,h=>by
  have h1:n % 10=m % 10:=by
   have h2:∀x,x % 10^(k+1) % 10=x % 10:=fun x=>Nat.mod_mod_of_dvd x ⟨10^k,by rw[Nat.pow_succ,Nat.mul_comm]⟩;rw[←h2 n,←h2 m,h]
  have h3:n/10 % 10^k=m/10 % 10^k:=by
   have h2:∀x,x % 10^(k+1)/10=x/10 % 10^k:=fun x=>by
    rw[Nat.pow_succ,Nat.mul_comm,Nat.mod_mul_right_div_self]
   rw[←h2 n,←h2 m,h]
  rw[pd,pd,qq6 h1,q6b k _ _ h3]
theorem qsq(n:Nat):(dig n==48)=true↔n % 10=0:=by
 rw[beq_iff_eq];constructor
 ·intro h
  have:=qis n;rw[h] at this;have e:(48:UInt8).toNat=48:=rfl;omega
 ·intro h
  unfold dig;rw[h];rfl
theorem qnc(p:UInt8→Bool)(l r:List UInt8):(l++r).dropWhile p=if l.dropWhile p=[] then r.dropWhile p else l.dropWhile p++r:=by
 induction l with
 | nil=>simp
 | cons x l ih=>
  rw[List.cons_append,List.dropWhile_cons,List.dropWhile_cons];cases p x
  ·simp
  ·simp[ih]
theorem q0c:∀k n,n<10^k→Lib.trimLeftB (pd k n).reverse 48=qfr n
 | 0,n,h=>by
  have:n=0:=by simpa using h
  subst this;rw[qcu];rfl
 | k+1,n,h=>by
  have h1:n/10<10^k:=by
   rw[Nat.div_lt_iff_lt_mul (by omega)];rw[Nat.pow_succ] at h;exact h
  have ih:=q0c k (n/10) h1;unfold Lib.trimLeftB at *;rw[pd,List.reverse_cons,qnc,ih];rcases zav n with e|e
  ·subst e
   rw[qcu,if_pos rfl];rfl
  ·rw[qdn e]
   rcases zav (n/10) with e2|e2
   ·rw[e2,qcu,if_pos rfl,List.dropWhile_cons]
    have:(dig n==48)=false:=by
     rw[Bool.eq_false_iff];intro hh;have:=(qsq n).1 hh;omega
    rw[this];rfl
   ·rw[if_neg]
    rw[qdn e2];simp
theorem qbm:∀(k n:Nat),n<10^k→(qfr n).length≤k
 | 0,n,h=>by
  have:n=0:=by simpa using h
  subst this;rw[qcu];exact zap _
 | k+1,n,h=>by
  rcases zav n with e|e
  ·subst e;rw[qcu];exact Nat.zero_le _
  ·rw[qdn e,List.length_append]
   have h1:n/10<10^k:=by
    rw[Nat.div_lt_iff_lt_mul (by omega)];rw[Nat.pow_succ] at h;exact h
   have:=qbm k _ h1;simp;omega
theorem qwk(n:Nat):∀c ∈ qfr n,isD c=true:=by
 induction n using Nat.strongRecOn with
 | _ n ih=>
  rcases zav n with e|e
  ·subst e;rw[qcu];simp
  ·rw[qdn e]
   intro c hc;rcases List.mem_append.1 hc with hc|hc
   ·exact ih (n/10) (by omega) c hc
   ·rw[List.mem_singleton.1 hc];exact q63 n
theorem qsr(n:Nat):qaz 0 (qfr n)=n:=by
 induction n using Nat.strongRecOn with
 | _ n ih=>
  rcases zav n with e|e
  ·subst e;rw[qcu,qhv]
  ·rw[qdn e,qka,ih (n/10) (by omega),qge,qhv,qis]
   omega
theorem qgf(n:Nat):n<10^(qfr n).length:=by
 have:=qfn (qfr n) (qwk n)
 rwa [qsr] at this
theorem qhb(n:Nat):∀c ∈ qaw n,isD c=true:=by
 unfold qaw;split
 ·intro c hc;rw[List.mem_singleton.1 hc];rfl
 ·exact qwk n
theorem qje(n:Nat):qaw n≠[]:=by
 unfold qaw;split
 ·simp
 ·rw[qdn (by omega)];simp
theorem qf6(n:Nat):qaz 0 (qaw n)=n:=by
 unfold qaw;split
 ·rename_i h;subst h;rfl
 ·exact qsr n
theorem qqb{n m:Nat}(h:10^m≤n):m<(qaw n).length:=by
 have h1:0<10^m:=Nat.pow_pos (by omega);unfold qaw;rw[if_neg (by omega)];have h2:=qgf n;exact(Nat.pow_lt_pow_iff_right (by omega:1<10)).1 (Nat.lt_of_le_of_lt h h2)
theorem quv{L m n:Nat}(h:m/3*10+10<L)(h1:2^(L-1)≤n):10^m≤n:=by
 have h2:2^(10*(m/3+1))≤2^(L-1):=Nat.pow_le_pow_right (by omega) (by omega);rw[Nat.pow_mul] at h2;have h3:(10^3)^(m/3+1)≤(2^10)^(m/3+1):=Nat.pow_le_pow_left (by decide) _;rw[←Nat.pow_mul] at h3;have h4:10^m≤10^(3*(m/3+1)):=Nat.pow_le_pow_right (by omega) (by omega);exact Nat.le_trans h4 (Nat.le_trans h3 (Nat.le_trans h2 h1))
end Go.Proofs.YtclimablgihlhaaGreatDoor
namespace Go.Proofs.YtclimablgihlhaaGreatDoor
open Go.RowKit
set_option maxRecDepth 100000
set_option maxHeartbeats 4000000
theorem q64{k x n L:Nat}(h:B64^k*x≤n)(h1:2^(L-1)≤x)(hL:1≤L):2^(k*64+L-1)≤n:=by
 have e:k*64+L-1=64*k+(L-1):=by omega
 rw[e,Nat.pow_add,Nat.pow_mul];have e2:2^64=B64:=by rw[qab]
 rw[e2];exact Nat.le_trans (Nat.mul_le_mul_left _ h1) h
def q8y(n:Nat)(w:World)(e:Ending)(w':World):Prop:=∃L:Nat,e = .returned (.int .i64 (L:Nat))∧(L=0∨2^(L-1)≤n)∧w=w'
theorem qk6(v:Value)(n:Nat)(w:World)(h:qap w v n)(aP:wl n≤Cap):
  Calls Tryz.prog 196 #[v] w (q8y n w):=by
 rcases zav n with h0|h0
 ·subst h0
  unfold qap Wds at h;rw[qal] at h;obtain⟨_,p,c,rfl,h1,h2,_⟩:=h;clear aP h1 h2;go_enter Tryz.func196,Tryz.ntmps196;go_wp2_with fail;go_ret;exact⟨0,rfl,.inl rfl,rfl⟩
 ·have hl:0<wl n:=by
   rcases zav (wl n) with e|e
   ·have:=qek e;omega
   ·exact e
  obtain⟨l,p,c,rfl,hw,hv,aF⟩:=qj5 h;have hp:=qgx (b:=B64) qae h0
  have Cz:l=qaf B64 n:=by
   obtain⟨_,p',c',he,_⟩:=h;obtain⟨dG,_⟩:=hw
   have h1:qaf B64 (val B64 l)=l:=by
    have h2:=aF;unfold wl at h2
    exact(by
     refine qkr B64 qae l dG ?_;rintro z d hz rfl;have h3:=qij B64 z (fun d hd=>dG d (by rw[hz];exact List.mem_append_left _ hd));have h4:val B64 l=val B64 z:=by rw[hz,qd2];simp
     have h5:z.length=(qaf B64 n).length-1:=by rw[←h2,hz];simp
     rw[←h5] at hp
     omega)
   rw[←h1,hv]
  obtain⟨k,hk⟩:∃k,l.length=k+1:=⟨l.length-1,by omega⟩;obtain⟨dG,p',c',he,bP,bK,aA⟩:=hw;cases he
  rcases aA with h1|⟨b,o,rfl,aB⟩
  ·omega
  have aC:=aB k (by omega);unfold wd at aC;have hx:=qan (b:=B64) (by rw[qab];omega) dG k
  have hxn:B64^k*l.getD k 0≤n:=by
   have h1:=qao B64 l k;rw[qa4 B64 l (k+1) (by omega),hv] at h1;omega
  have oH:0<l.getD k 0:=by
   rcases List.eq_nil_or_concat l with e|⟨z,x,e⟩
   ·rw[e] at hk;simp at hk
   ·rw[List.concat_eq_append] at e
    have hz:z.length=k:=by rw[e] at hk;simpa using hk
    have h1:=qil qae (Cz.symm.trans e);rw[e,←hz];simp;omega
  generalize l.getD k 0=x at *;rw[qab] at hx;obtain⟨bB,aT,_⟩:=qn9 x oH (by rw[show(2:Nat)^64=18446744073709551616 from by decide];exact hx)
  have aU:Hid (∀w,Calls Tryz.prog 170 #[.int .u64 (x:Nat)] w fun e w'=>e = .returned (.int .i64 (Lib.bitLen x:Nat))∧w'=w):=hid fun w=>by
   have h:=Tryz.bits_Len64 (x:Int) w (by omega) (by omega);rw[Int.toNat_natCast] at h;exact h
  have hL64:Lib.bitLen x≤64:=by
   rcases Nat.lt_or_ge 64 (Lib.bitLen x) with h1|h1
   ·have h2:2^64≤2^(Lib.bitLen x-1):=Nat.pow_le_pow_right (by omega) (by omega)
    rw[show(2:Nat)^64=18446744073709551616 from by decide] at h2;omega
   ·exact h1
  generalize Lib.bitLen x=L at *;have aG:Hid (2^(k*64+L-1)≤n):=hid (q64 hxn aT bB);rw[hk]
  have hk63:k<1099511627776:=by
   rw[←aF,hk] at aP;unfold Cap at aP;omega
  have e1:((k+1:Nat):Int)-1=(k:Int):=by omega
  clear aT hxn hp dG bP bK aB aP aF hl hk h Cz hv hx oH;go_enter Tryz.func196,Tryz.ntmps196;go_wp2_with fail;refine(aU.out _).mono ?_;rintro e w' ⟨rfl,hw'⟩;rw[hw'];clear hw' aU;go_wp2_with fail;go_ret;exact⟨k*64+L,qa0 (by omega),.inr aG.out,rfl⟩
theorem qoi{w w':World}{base:Nat}{e:TypeId}{size:Nat}{v:Value}{n:Nat}{xs:List Value}(h:w.ownsRow base e size v n xs)(hb:Below w.heap.size w w'):w'.ownsRow base e size v n xs:=
 h.kept (row:=none) ⟨hb.os,hb.tape,hb.output,hb.size,fun k hk _=>hb.block k hk⟩ (by cases v.ownBlock<;>simp)
theorem qnd(w:World)(e:TypeId)(s:BA):Below w.heap.size w (Lib.bytesWorld w e s):=by
 refine⟨rfl, ?_,rfl, ?_,fun k hk=>Lib.bytesWorld_at_old w e s k hk⟩
 ·show(w.drew).tape=w.tape
  rfl
 ·rw[Lib.bytesWorld_size];omega
theorem qss:∀(l:List UInt8) (a:Nat),(∀c ∈ l,isD c=true)→qaz a l≤18446744073709551615→Lib.parseUintM (2^64-1) a l = .ok (qaz a l)
 | [],a,_,_=>by rw[qhv];rfl
 | c::r,a,h,hl=>by
  have hc:=(ql5 c).1 (h c (List.mem_cons_self ..));rw[qge] at hl ⊢;have dF:=q0b r (a*10+(c.toNat-48));unfold Lib.parseUintM;rw[if_pos hc,if_neg (by omega),if_neg (by omega)];exact qss r _ (fun x hx=>h x (List.mem_cons_of_mem _ hx)) hl
theorem q0d(l:List UInt8)(h:∀c ∈ l,isD c=true)(hne:l≠[])(hl:l.length≤19):Lib.parseUintB 64 l = .ok (qaz 0 l):=by
 unfold Lib.parseUintB;rw[if_neg hne];refine qss l 0 h ?_;have h1:=qfn l h;have h2:10^l.length≤10^19:=Nat.pow_le_pow_right (by omega) hl;have h3:10^19=10000000000000000000:=by decide
 omega
def uw(l:List Nat):List Value:=l.map fun x=>Value.int .u64 (x:Nat)
theorem q8z(l:List Nat)(k x:Nat):uw (l.set k x)=(uw l).set k (.int .u64 (x:Nat)):=by unfold uw;rw[List.map_set]
theorem q65(l:List Nat)(x:Nat):uw (l++[x])=uw l++[.int .u64 (x:Nat)]:=by unfold uw;simp
theorem q80(l:List Nat)(k:Nat)(h:k<l.length):(uw l)[k]? = some (.int .u64 (l.getD k 0:Nat)):=by unfold uw;simp[h]
theorem q66{B p S L m m0 lo hi x P:Nat}(h:S+p*m=L*P+m0)(hy:lo+B*hi=x*P+m):S+p*lo+p*B*hi=(L+p*x)*P+m0:=by
 have e:=congrArg (p * ·) hy;simp only[Nat.mul_add] at e;rw[Nat.add_mul,Nat.mul_assoc p x,Nat.mul_assoc p B];omega
theorem q67{l S:List Nat}{m m0 P v:Nat}(hl:l=qaf B64 v)(aF:S.length=l.length)(hS:∀d ∈ S,d<B64)(hm:m<B64)(hP:1≤P)
  (h:val B64 S+B64^l.length*m=v*P+m0):qaf B64 (v*P+m0)=if 0<m then S++[m] else S:=by
 by_cases h0:0<m
 ·rw[if_pos h0,←h,←aF,←qd2]
  refine qkr B64 qae _ ?_ ?_
  ·intro d hd
   rcases List.mem_append.1 hd with hd|hd
   ·exact hS d hd
   ·rw[List.mem_singleton.1 hd];exact hm
  ·intro z d hz
   have:=List.append_inj_right' hz rfl;have:m=d:=by simpa using this
   omega
 ·rw[if_neg h0]
  have:m=0:=by omega
  subst this;rw[←h,Nat.mul_zero,Nat.add_zero];refine qkr B64 qae _ hS ?_;rintro z d hz rfl
  have pW:0<v:=by
   rcases zav v with e|e
   ·rw[e,qal] at hl
    rw[hl,hz] at aF;simp at aF
   ·exact e
  have h1:=qgx (b:=B64) qae pW;rw[←hl,←aF,hz] at h1;simp at h1;have h2:=qij B64 z (fun d hd=>hS d (by rw[hz];exact List.mem_append_left _ hd));have h3:val B64 S=val B64 z:=by rw[hz,qd2];simp
  have h4:v*1≤v*P:=Nat.mul_le_mul_left _ hP;omega
theorem qmw(w:World)(a:Value)(t:TypeId):∀j u,[a][j]? = some u→(w.alloc (.cells #[a] t)).cell? ((⟨w.heap.size,0,none⟩:Addr).add j)=some u:=by
 intro j u hj
 match j,hj with
 | 0,hj=>simp at hj;subst hj;simp[Addr.add]
 | j+1,hj=>simp at hj
theorem q39(t:BA)(w:World)(h:∀c ∈ t.data.toList,isD c=true)(hne:t.data.toList≠[])(hl:t.data.toList.length≤19):
  Calls Tryz.prog 148 #[.string t,.int .i64 10,.int .i64 64] w fun e w'=>e = .returned (.tuple #[.int .u64 (qaz 0 t.data.toList:Nat),.nilIface])∧Below w.heap.size w w':=by
 refine(Tryz.strconv_ParseUint_10_at64_ok t ?_ _ (q0d _ h hne hl) w).mono ?_
 ·simp at hl;omega
 ·rintro e w' ⟨rfl,rfl|rfl⟩
  ·exact⟨rfl,zan _ _⟩
  ·exact⟨rfl,qnd w _ t⟩
def ql6(n:Nat)(f:Nat→Value)(i q:Nat):Value:=if q<i∨n≤q+i then f (n-1-q) else f q
theorem qx3(n:Nat)(f:Nat→Value)(q:Nat)(h:q<n):ql6 n f 0 q=f q:=by
 unfold ql6;rw[if_neg (by omega)]
theorem q0e{n i:Nat}(f:Nat→Value)(h:n≤2*i+1)(q:Nat)(hq:q<n):ql6 n f i q=f (n-1-q):=by
 unfold ql6;by_cases e:q<i∨n≤q+i
 ·rw[if_pos e]
 ·rw[if_neg e];congr 1;omega
theorem qx4{n i:Nat}(f:Nat→Value)(h:2*i+1<n)(q:Nat):ql6 n f (i+1) q=if q=n-1-i then ql6 n f i i else if q=i then ql6 n f i (n-1-i) else ql6 n f i q:=by
 unfold ql6;by_cases e1:q=n-1-i
 ·rw[if_pos e1,if_pos (by omega),if_neg (by omega)];congr 1;omega
 ·rw[if_neg e1]
  by_cases e2:q=i
  ·rw[if_pos e2,if_pos (by omega),if_neg (by omega)];congr 1;omega
  ·rw[if_neg e2]
   by_cases e3:q<i∨n≤q+i
   ·rw[if_pos e3,if_pos (by omega)]
   ·rw[if_neg e3,if_neg (by omega)]
theorem quw(g n c:Nat)(f:Nat→Value)(w:World)(hn:n≤9223372036854775807)(ho:Own w g n f)(h1:∀q,q<n→∃x:Int,f q = .int .u8 x):
  Calls Tryz.prog 197 #[.slice (some ⟨g,0,none⟩) n c] w fun e w'=>e = .returned (.tuple #[])∧Own w' g n (fun q=>f (n-1-q))∧qe6 g w w':=by
 have HO:=hid ho;have H1:=hid h1;clear ho h1;go_enter Tryz.func197,Tryz.ntmps197;go_wp2_with fail
 go_loopw [2,3] (fun a b wr=>∃i:Nat,2*i≤n+1∧a = .int .i64 i∧b = .int .i64 ((n:Int)-1-i)∧Hid (Own wr g n (ql6 n f i))∧Hid (qe6 g w wr)) (fun a _ _=>n-(intOf a).toNat)
 case atStart=>exact⟨0,by omega,rfl,by go_num,hid (HO.out.congr fun q hq=>(qx3 n f q hq).symm),hid (qe6.refl _ _)⟩
 case round=>
  obtain⟨i,hi,rfl,rfl,HR,HB⟩:=hrel;by_cases bI:2*i+1<n
  ·obtain⟨j,hj⟩:∃j,j=n-1-i:=⟨_,rfl⟩
   have hE:(n:Int)-1-i=(j:Int):=by omega
   have hij:i<j:=by omega
   have pM:j<n:=by omega
   have Kl:i<n:=by omega
   have hne:¬i=j:=by omega
   obtain⟨vS,hfi⟩:=HR.out.2 i Kl;obtain⟨hcj,hfj⟩:=HR.out.2 j pM
   have hv:∀q,q<n→∃x:Int,ql6 n f i q = .int .u8 x:=fun q hq=>by
    unfold ql6;split
    ·exact H1.out _ (by omega)
    ·exact H1.out _ hq
   obtain⟨x,hx⟩:=hv i Kl;obtain⟨y,hy⟩:=hv j pM;rw[hx] at vS;rw[hy] at hcj;have HX:=hid hx;have HY:=hid hy;clear hx hy hv;rw[hE];have HJ:=hid hj;clear hj hE;go_wp2_with fail
   go_region
   go_wp2_with fail;go_roundw
   case rel=>
    refine⟨i+1,by omega,by go_num,by have:=HJ.out;go_num,hid ?_,hid ?_⟩
    ·have h:=(HR.out.set i Kl (.int .u8 y)).set j pM (.int .u8 x)
     have h2:=h.congr (f':=ql6 n f (i+1)) (fun q hq=>by
      rw[qx4 f bI,←HJ.out,HX.out,HY.out])
     exact h2.later ((zan _ _).drew)
    ·exact((HB.out.set _ _).set _ _).drewN 1
   case measure=>simp[intOf];omega
  ·have hE:¬(i:Int)<(n:Int)-1-i:=by omega
   have HF:Hid (Own wr g n (fun q=>f (n-1-q))):=hid (HR.out.congr fun q hq=>q0e f (by omega) q hq);go_wp2_with fail
   go_end0
   exact⟨rfl,HF.out,HB.out⟩
theorem reverse_nil(w:World):Calls Tryz.prog 197 #[.slice none 0 0] w fun e w'=>e = .returned (.tuple #[])∧w=w':=by
 go_enter Tryz.func197,Tryz.ntmps197;go_wp2_with fail
 go_loop [2,3] (fun a b=>a = .int .i64 0∧b = .int .i64 (-1)) (fun _ _=>0)
 case atStart=>exact⟨rfl,rfl⟩
 case round=>
  obtain⟨rfl,rfl⟩:=hrel;go_wp2_with fail
  go_end0
  exact⟨rfl,rfl⟩
def bv(l:List UInt8):List Value:=l.map fun c=>Value.int .u8 (c.toNat:Int)
theorem q68(l:List UInt8)(c:UInt8):bv (l++[c])=bv l++[.int .u8 (c.toNat:Int)]:=by unfold bv;simp
def ql7(n most:Nat)(w:World)(e:Ending)(w':World):Prop:=
 e = .returned (.tuple #[.string (if(qaw n).length≤most then⟨(qaw n).toArray⟩ else⟨#[]⟩),.bool (decide ((qaw n).length≤most))])∧Below w.heap.size w w'
theorem qst{n most:Nat}{w w':World}{e:Ending}(h:(qaw n).length≤most)(he:e = .returned (.tuple #[.string ⟨(qaw n).toArray⟩,.bool true]))(hb:Below w.heap.size w w'):ql7 n most w e w':=by
 unfold ql7;rw[if_pos h,zas h];exact⟨he,hb⟩
theorem qwl{n most:Nat}{w w':World}{e:Ending}(h:most<(qaw n).length)(he:e = .returned (.tuple #[.string ⟨#[]⟩,.bool false]))(hb:Below w.heap.size w w'):ql7 n most w e w':=by
 unfold ql7;rw[if_neg (by omega),zar (by omega)];exact⟨he,hb⟩
theorem qx5(v:Value)(most:Nat)(w:World)(h:qap w v 0)(hm:1≤most)(hU:most≤1099511627776):
  Calls Tryz.prog 149 #[v,.int .i64 most] w (ql7 0 most w):=by
 have dV:=hid (qk6 v 0 w h (by rw[show wl 0=0 from by unfold wl;rw[qal];rfl];exact Nat.zero_le _));have fX:=hid (qn7 v [] w (by unfold qap at h;rwa [qal] at h) (Nat.zero_le _));have HF:Hid (∀w',Below w.heap.size w w'→ql7 0 most w (.returned (.tuple #[.string ⟨#[48]⟩,.bool true])) w'):=hid fun w' hb=>qst (by show 1≤most;exact hm) rfl hb;clear h;have hcvn:∀(w:World),(convert 196 9 (.slice none 0 0)).run Tryz.prog w = .ok (.string ⟨#[]⟩) w:=fun w=>run_convert_bytes_nil (P:=Tryz.prog) w _ _ Tryz.underlying196 Tryz.underlying5 0 0 _ Tryz.underlying9;go_enter Tryz.func149,Tryz.ntmps149;go_wp2_with fail;refine dV.out.mono ?_;rintro e w1 ⟨L,rfl,hL,rfl⟩
 have Oz:L=0:=by
  rcases hL with h|h
  ·exact h
  ·have:=Nat.two_pow_pos (L-1);omega
 subst Oz;clear hL;have hI:¬(most:Int)/3*10+10<0:=by omega
 go_wp2_with fail;refine fX.out.mono ?_;rintro e w1 ⟨⟨vc,rfl,ho⟩,hb⟩;obtain⟨_,pc,cc,rfl,_,_,_⟩:=ho;have aQ:=hid hb;clear hb;have gI:¬(most:Int)<1:=by omega
 go_wp2_with fail
 go_loopw [6,7] (fun r q wr=>r = .slice none 0 0∧q = .slice pc 0 cc∧Hid (Below w.heap.size w wr)) (fun _ _ _=>0)
 case atStart=>exact⟨rfl,rfl,aQ⟩
 case round=>
  obtain⟨rfl,rfl,HB⟩:=hrel;clear aQ;go_wp2_with fail;refine(reverse_nil _).mono ?_;rintro e w2 ⟨rfl,rfl⟩;go_wp2_with fail;refine(Tryz.strings_TrimLeft_one _ 48 (by decide) _).mono ?_;rintro e w2 ⟨rfl,mI⟩;rw[mI];clear mI;have tR:Lib.trimLeftB (ByteArray.mk #[]).data.toList 48=[]:=rfl;go_wp2_with fail;go_ret2;exact HF.out _ HB.out
theorem q81:(10:Nat)^19=10000000000000000000:=by decide
theorem qx6{n:Nat}(_hcap:wl n≤Cap):(qfr n).length≤20*wl n:=by
 refine qbm _ _ ?_;have h1:=qb6 B64 n qae;have h2:B64≤10^20:=by rw[qab];decide
 have h3:B64^wl n≤(10^20)^wl n:=Nat.pow_le_pow_left h2 _;rw[←Nat.pow_mul] at h3;exact Nat.lt_of_lt_of_le h1 h3
theorem qx7{w:World}{base g cap:Nat}{l:List UInt8}(h:w.ownsRow base 5 1 (.slice (some ⟨g,0,none⟩) l.length cap) l.length (bv l)):Own w g l.length (fun q => .int .u8 ((l.getD q 0).toNat:Int)):=by
 refine⟨(h.lt g rfl).2,fun q hq=>⟨?_,h.frozenAt q⟩⟩;rw[h.cellAt q (by omega)];unfold bv;simp[hq]
theorem qqc{w:World}{base n:Nat}{v:Value}{xs:List Value}(h:w.ownsRow base 5 1 v n xs)(hn:0<n):∃g cap,v = .slice (some ⟨g,0,none⟩) n cap:=by
 rcases h.2 with⟨_,h'⟩|⟨g',cap',cur,h',_⟩
 ·omega
 ·exact⟨g',cap',h'⟩
theorem q4a(l:List UInt8)(q:Nat)(hq:q<l.length):l.reverse.getD q 0=l.getD (l.length-1-q) 0:=by
 rw[zaw,zaw,List.getElem?_reverse hq]
theorem qe6.row{g:Nat}{w w':World}{base:Nat}{e:TypeId}{size:Nat}{v:Value}{n:Nat}{xs:List Value}(h:qe6 g w w')(hr:w.ownsRow base e size v n xs)(hg:g<base):w'.ownsRow base e size v n xs:=by
 obtain⟨h1,h2⟩:=hr;refine⟨h1, ?_⟩;rcases h2 with h2|⟨k,cap,cur,a,b,c,d⟩
 ·exact .inl h2
 ·exact .inr ⟨k,cap,cur,a,b,by rw[h.2 k (by omega)];exact c,d⟩
theorem q0f{w w':World}{row:Option Nat}{g n:Nat}{f:Nat→Value}(h:Own w g n f)(hg:w.grownBy w' row)(hne:some g≠row):Own w' g n f:=by
 have hb:=hg.block g h.1 hne;refine⟨Nat.lt_of_lt_of_le h.1 hg.size,fun i hi => ?_⟩;rw[World.cell?_of_block (a:=⟨g,i,none⟩) hb,World.frozen?_of_block (a:=⟨g,i,none⟩) hb];exact h.2 i hi
theorem qsu{w:World}{base:Nat}{e:TypeId}{size:Nat}{v:Value}{n:Nat}{xs:List Value}(h:w.ownsRow base e size v n xs){g:Nat}(hg:g<base):some g≠v.ownBlock:=by
 intro e1;have:=(h.lt g e1.symm).1;omega
theorem q0g(v:Value)(n most:Nat)(w:World)(h:qap w v n)(hn:0<n)(aP:wl n≤Cap)(hU:most≤1099511627776):
  Calls Tryz.prog 149 #[v,.int .i64 most] w (ql7 n most w):=by
 have dV:=hid (qk6 v n w h aP);have fX:=hid (qn7 v _ w h aP);have hDT:qaw n=qfr n:=by unfold qaw;rw[if_neg (by omega)]
 have Gx:Hid (∀L w',(L=0∨2^(L-1)≤n)→most/3*10+10<L→Below w.heap.size w w'→ql7 n most w (.returned (.tuple #[.string ⟨#[]⟩,.bool false])) w'):=hid fun L w' hL bI hb=>by
  refine qwl (qqb ?_) rfl hb;rcases hL with e|e
  ·omega
  ·exact quv bI e
 have Ep:Hid (∀w',(qfr n).length≤most→Below w.heap.size w w'→ql7 n most w (.returned (.tuple #[.string ⟨(qfr n).toArray⟩,.bool true])) w'):=hid fun w' h1 hb=>by
  refine qst (by rw[hDT];exact h1) (by rw[hDT]) hb
 have yN:Hid (∀w',¬(qfr n).length≤most→Below w.heap.size w w'→ql7 n most w (.returned (.tuple #[.string ⟨#[]⟩,.bool false])) w'):=hid fun w' h1 hb=>by
  refine qwl (by rw[hDT];omega) rfl hb
 have Rq:=hid (qx6 aP);have cS:Hid (wl n≤1099511627776):=hid aP
 have sJ:Hid (∀j,n/10^(19*j)≠0→19*j<(qfr n).length):=hid fun j hj=>by
  have h1:10^(19*j)≤n:=by
   rcases Nat.lt_or_ge n (10^(19*j)) with e|e
   ·exact absurd (Nat.div_eq_of_lt e) hj
   ·exact e
  have h2:=qgf n;exact(Nat.pow_lt_pow_iff_right (by omega:1<10)).1 (Nat.lt_of_le_of_lt h1 h2)
 have Gy:(qaf B64 n).length≠0:=by
  intro e;have:=qek e;omega
 have hnd63:(qaf B64 n).length≤1099511627776:=aP;clear h hDT;obtain⟨i0,hi,cT,dT,dU⟩:=info_parts (show(Tryz.prog.info? 5).map (fun i=>(i.zero,i.size,i.bytes))=some (some (.int .u8 0),1,1) by kernel_rfl);have HI:=hid hi;have Gz:=hid cT;have mF:=hid dT;have fY:=hid dU;clear hi cT dT dU aP;have HN:=hid hn;clear hn;go_enter Tryz.func149,Tryz.ntmps149;go_wp2_with fail;refine dV.out.mono ?_;rintro e w1 ⟨L,rfl,hL,rfl⟩;have HL:=hid hL;clear hL dV;by_cases Bf:most/3*10+10<L
 ·have hI:(most:Int)/3*10+10<(L:Int):=by omega
  have lV:=hid Bf;clear Bf;go_wp2_with fail;go_ret2;exact Gx.out L _ HL.out lV.out (zan _ _)
 have hI:¬(most:Int)/3*10+10<(L:Int):=by omega
 clear Bf HL Gx;go_wp2_with fail;refine fX.out.mono ?_;rintro e w1 ⟨⟨vc,rfl,ho⟩,hb⟩;obtain⟨dG,pc,cc,rfl,bP,bK,ho⟩:=ho;rcases ho with h0|⟨g,hg,rfl,ho⟩
 ·exact absurd h0 Gy
 have aQ:=hid hb;have HG:=hid hg;have jS:=hid ho;have eU:=hid bK;have gG:Hid ((qaf B64 n).length≤cc):=hid bP;obtain⟨B1,hB1⟩:∃B1,B1=w1.heap.size:=⟨_,rfl⟩;have hgB:g<B1:=by rw[hB1];exact ho.1
 have qL:=hid hgB;have aX:=hid hB1;have Ao:Hid (w.heap.size≤B1):=hid (by rw[hB1];exact hb.size);clear dG bP bK ho hb hg hgB hB1 hI fX;generalize tS:(qaf B64 n).length=n0 at *;have gE:=hid tS;clear tS Gy;go_wp2_with fail
 go_loopw [6,7] (fun r q wr=>∃(j m k:Nat),q = .slice (some ⟨g,0,none⟩) k cc∧Hid (k=(qaf B64 m).length)∧Hid (m=n/10^(19*j))∧Hid (qku r=19*j)∧Hid (k≤n0)∧Hid (Own wr g k (wd (qaf B64 m)))∧Hid (wr.ownsRow B1 5 1 r (19*j) (bv (pd (19*j) n)))∧Hid (Below w.heap.size w wr)∧Hid (B1≤wr.heap.size)) (fun r _ _=>(qfr n).length+20-qku r)
 case atStart=>exact⟨0,n,n0,rfl,hid gE.out.symm,hid (by simp),hid rfl,hid (zap _),jS,hid (World.ownsRow_nil w1 B1 5 1),aQ,hid (by rw[aX.out];exact zap _)⟩
 case round=>
  obtain⟨j,m,k,rfl,HK,HM,bH,HKN,HO,bN,HB,zQ⟩:=hrel;clear jS aQ;by_cases oG:0<k
  ·have pU:m≠0:=by
    rintro rfl;have:=HK.out;rw[qal] at this;simp at this;omega
   have HJ:Hid (19*j<(qfr n).length):=hid (sJ.out j (by rw[←HM.out];exact pU));have hjb:19*j≤21990232555520:=by have:=HJ.out;have:=Rq.out;have:=cS.out;omega
   have dH:Hid (∀W,Own W g k (wd (qaf B64 m))→Calls Tryz.prog 118 #[.slice (some ⟨g,0,none⟩) k cc,.int .u64 10000000000000000000] W fun e w'=>∃k2,k2=(qaf B64 (m/10000000000000000000)).length∧e = .returned (.tuple #[.slice (some ⟨g,0,none⟩) k2 cc,.int .u64 (m % 10000000000000000000:Nat)])∧Own w' g k2 (wd (qaf B64 (m/10000000000000000000)))∧qe6 g W w'):=hid fun W ho=>by
    have hh:=HK.out;subst hh;have h:=qky g cc (qaf B64 m) 10000000000000000000 W (qd6 B64 m qae) (Nat.le_trans (by have:=HKN.out;exact this) (by have:=gG.out;omega)) eU.out ho (by omega) (by rw[qab];omega);rw[qah _ _ qae] at h;exact h
   have Df:Hid (∀i,pd i (m % 10000000000000000000)=pd i (m % 10000000000000000000)):=hid fun _=>rfl
   have HPD:Hid (pd (19*j) n++pd 19 (m % 10000000000000000000)=pd (19*(j+1)) n):=hid (by
    rw[show 19*(j+1)=19*j+19 from by omega,qsp,←HM.out]
    congr 1
    refine q6b 19 _ _ ?_
    rw[q81,Nat.mod_mod])
   have fE:Hid (m/10000000000000000000=n/10^(19*(j+1))):=hid (by
    rw[show 19*(j+1)=19*j+19 from by omega,Nat.pow_add,←Nat.div_div_eq_div_mul,←HM.out,q81])
   have Pm:Hid (∀k2,k2=(qaf B64 (m/10000000000000000000)).length→k2≤n0):=hid fun k2 h2=>by
    rw[h2];exact Nat.le_trans (qad qae (Nat.div_le_self _ _)) (by rw[←HK.out];exact HKN.out)
   have iH:Hid (m % 10000000000000000000<10000000000000000000):=hid (Nat.mod_lt _ (by omega));clear HK HM HKN Df pU;generalize m/10000000000000000000=m2 at *;generalize m % 10000000000000000000=p at *;go_wp2_with fail;refine(dH.out _ HO.out).mono ?_;rintro e w2 ⟨k2,tK,rfl,Rs,Km⟩;have yO:=hid tK;have HKN2:=hid (Pm.out k2 tK);have kQ:=hid Rs;have Ha:=hid (Km.row bN.out qL.out);have aR:Hid (Below w.heap.size w w2):=hid (HB.out.trans (Km.below HG.out));have yP:Hid (B1≤w2.heap.size):=hid (Nat.le_trans zQ.out (Km.below (Nat.zero_le _)).size);clear tK Rs Km bN HB zQ HO dH Pm;go_wp2_with fail
   go_loopw [6,8,27] (fun r pp ii wr=>∃(i x:Nat),i≤19∧ii = .int .i64 i∧pp = .int .u64 x∧Hid (x=p/10^i)∧Hid (qku r=19*j+i)∧Hid (wr.ownsRow B1 5 1 r (19*j+i) (bv (pd (19*j) n++pd i p)))∧Hid (Own wr g k2 (wd (qaf B64 m2)))∧Hid (Below w.heap.size w wr)∧Hid (B1≤wr.heap.size)) (fun _ _ ii _=>19-(intOf ii).toNat)
   case atStart=>exact⟨0,p,Nat.zero_le _,rfl,rfl,hid (by simp),bH,hid (by rw[pd,List.append_nil];exact Ha.out),kQ,aR,yP⟩
   case round=>
    obtain⟨i,x,hi,rfl,rfl,HX,HSLI,HR,HOI,Rt,HSI⟩:=hrel;clear Ha kQ aR yP;by_cases hi19:i<19
    ·have hx64:(x:Int)≤18446744073709551615:=by
      have h1:=HX.out;have h2:=iH.out;have h3:p/10^i≤p:=Nat.div_le_self _ _;omega
     have rX:0≤(x:Int) % 10:=by omega
     have hr9:(x:Int) % 10≤9:=by omega
     have rJ:IntKind.u8.wrap (48+(x:Int) % 10)=((dig x).toNat:Int):=by
      rw[qis,IntKind.wrap_u8];omega
     have kH:Hid (x/10=p/10^(i+1)):=hid (by rw[HX.out,Nat.div_div_eq_div_mul,Nat.pow_succ]);have jA:Hid (pd (19*j) n++pd (i+1) p=(pd (19*j) n++pd i p)++[dig x]):=hid (by rw[quu,HX.out,List.append_assoc]);have Kn:=HR.out;go_wp2_with (at_builtin;refine wpList_append_own _ rfl _ _ 196 rfl B1 5 i0 (.int .u8 0) 1 1 Tryz.underlying196 HI.out Gz.out mF.out fY.out rfl (by decide) _ _ _ rfl (HR.out.alloc _) ⟨wr.heap.size,0,none⟩ 1 1 [.int .u8 ((dig x).toNat:Int)] rfl rfl ?c1 ?c2 ?c3 ?c4 ?c5 ?_)
     case c1=>exact qmw _ _ _
     case c2=>intro u hu;rw[List.mem_singleton.1 hu];rfl
     case c3=>unfold maxLen;omega
     case c4=>omega
     case c5=>rw[zao];have:=HSI.out;omega
     intro v' w9 bG bW _;have HO9:Hid (Own w9 g k2 (wd (qaf B64 m2))):=hid (q0f (HOI.out.later ((zan _ _).alloc HOI.out.1 _)) bW (qsu HR.out qL.out));have oT:Hid (Below w.heap.size w w9):=hid ((Rt.out.alloc Rt.out.size _).grown bW (by rw[zao];have:=Rt.out.size;omega) (by intro q hq;have:=(HR.out.lt q hq).1;have:=Ao.out;omega));have HS9:Hid (B1≤w9.heap.size):=hid (by have:=bW.size;rw[zao] at this;have:=HSI.out;omega);obtain⟨g',cap',rfl⟩:=qqc bG (by omega);have HR9:Hid (w9.ownsRow B1 5 1 (.slice (some ⟨g',0,none⟩) (19*j+(i+1)) cap') (19*j+(i+1)) (bv (pd (19*j) n++pd (i+1) p))):=hid (by rw[jA.out,q68];exact bG);clear bG bW Kn HR HOI Rt HSI;go_wp2_with fail;go_roundw
     case rel=>exact⟨i+1,x/10,by omega,by go_num,by rw[Int.natCast_ediv];rfl,kH,hid rfl,HR9,HO9,oT,HS9⟩
     case measure=>simp[intOf];omega
    ·have hie:i=19:=by omega
     subst hie;have HR19:Hid (wr.ownsRow B1 5 1 u6 (19*(j+1)) (bv (pd (19*(j+1)) n))):=hid (by have:=HR.out;rw[HPD.out] at this;exact this);have Ru:Hid (qku u6=19*(j+1)):=hid HSLI.out;clear HR;go_wp2_with fail;go_roundw
     case rel=>exact⟨j+1,m2,k2,rfl,yO,fE,Ru,HKN2,HOI,HR19,Rt,HSI⟩
     case measure=>have h1:=HJ.out;have h2:=Ru.out;have h3:=bH.out;omega
  ·have hk00:k=0:=by omega
   subst hk00;have pU:m=0:=qek (by have:=HK.out;unfold wl;omega)
   have Er:n<10^(19*j):=by
    have h1:=HM.out;rw[pU] at h1;rcases Nat.lt_or_ge n (10^(19*j)) with e|e
    ·exact e
    ·have:=Nat.div_pos e (Nat.pow_pos (by omega))
     omega
   have Rv:0<19*j:=by
    rcases zav (19*j) with e|e
    ·rw[e] at Er
     have:=HN.out;simp at Er;omega
    ·exact e
   obtain⟨g',cap',rfl⟩:=qqc bN.out Rv;obtain⟨l,hl⟩:∃l,l=pd (19*j) n:=⟨_,rfl⟩;have Oa:l.length=19*j:=by rw[hl,qk5]
   have htr:Lib.trimLeftB l.reverse 48=qfr n:=by rw[hl];exact q0c _ n Er
   have aB:=bN.out;rw[←hl] at aB;have bG:=qx7 (l:=l) (by rw[Oa];exact aB);rw[Oa] at bG;have hg':=(aB.lt g' rfl).1
   have hKc:19*j≤9223372036854775807:=by
    rcases aB.2 with⟨h',_⟩|⟨g2,cap2,cur,h',_,_,h1,h2,_⟩
    ·cases h'
    ·cases h';unfold maxLen at h2;omega
   have Rw:=hid (quw g' (19*j) cap' _ wr hKc bG (fun q _=>⟨_,rfl⟩))
   have nC:Hid (∀W,Calls Tryz.prog 198 #[.string ⟨l.reverse.toArray⟩,.string ⟨#[48]⟩] W fun e w'=>e = .returned (.string ⟨(qfr n).toArray⟩)∧w'=W):=hid fun W=>by
    have h:=Tryz.strings_TrimLeft_one ⟨l.reverse.toArray⟩ 48 (by decide) W;have e1:(ByteArray.mk l.reverse.toArray).data.toList=l.reverse:=by simp
    rw[e1,htr] at h;exact h
   have HCV:Hid (∀W,Own W g' (19*j) (fun q => .int .u8 ((l.getD (19*j-1-q) 0).toNat:Int))→(convert 196 9 (.slice (some ⟨g',0,none⟩) (19*j) cap')).run Tryz.prog W = .ok (.string ⟨l.reverse.toArray⟩) W):=hid fun W ho=>by
    have h:=run_convert_bytes_back (P:=Tryz.prog) W 196 9 5 ⟨g',0,none⟩ cap' l.reverse Tryz.underlying196 Tryz.underlying5 Tryz.underlying9 (fun q hq=>by
     have qJ:q<19*j:=by rw[List.length_reverse,Oa] at hq;exact hq
     have h2:=(ho.2 q qJ).1;rw[Addr.add_lit,Nat.zero_add,h2];have h3:=q4a l q (by omega);rw[Oa] at h3;show some (Value.int IntKind.u8 ((l.getD (19*j-1-q) 0).toNat:Int))=_;rw[←h3,zaw,zau hq]
     rfl)
    rw[List.length_reverse,Oa] at h;exact h
   have HWG:Hid (w.heap.size≤g'):=hid (Nat.le_trans Ao.out hg')
   have hne:(qfr n).length≠0:=by
    rw[qdn HN.out];simp
   obtain⟨tx,Hb⟩:∃tx:BA,tx=⟨(qfr n).toArray⟩:=⟨_,rfl⟩;have rQ:tx.size=(qfr n).length:=by rw[Hb];simp[ByteArray.size]
   have hte:tx.toList.isEmpty=false:=by
    rw[ByteArray.toList_eq,Hb];rw[List.isEmpty_eq_false_iff];intro e;apply hne;have e1:(ByteArray.mk (qfr n).toArray).data.toList=qfr n:=by simp
    rw[e1] at e;rw[e];rfl
   rw[←Hb] at nC Ep;have pS:=hid rQ;have gH:Hid ((qfr n).length≤21990232555520):=hid (by have:=Rq.out;have:=cS.out;omega);clear HK HM bH HKN HO bN pU Er Oa htr aB bG hg' hKc hl hne Hb rQ;generalize 19*j=K at *;go_wp2_with fail;refine Rw.out.mono ?_;rintro e w2 ⟨rfl,Rs,Km⟩;have rJ:=HCV.out w2 Rs;have aR:Hid (Below w.heap.size w w2):=hid (HB.out.trans (Km.below HWG.out));clear Rs Km Rw HCV HB;go_wp2_with fail;refine(nC.out _).mono ?_;rintro e w3 ⟨rfl,hw3⟩;rw[hw3];clear hw3 nC rJ;by_cases xK:(qfr n).length≤most
   ·have hI1:¬(most:Int)<(tx.size:Int):=by have:=pS.out;omega
    have Es:=hid xK;clear xK;go_wp2_with fail;go_ret2;exact Ep.out _ Es.out aR.out
   ·have hI1:(most:Int)<(tx.size:Int):=by have:=pS.out;omega
    have Es:=hid xK;clear xK;go_wp2_with fail;go_ret2;exact yN.out _ Es.out aR.out
theorem qit(v:Value)(n most:Nat)(w:World)(h:qap w v n)(aP:wl n≤Cap)(hm:1≤most)(hU:most≤1099511627776):
  Calls Tryz.prog 149 #[v,.int .i64 most] w (ql7 n most w):=by
 rcases zav n with e|e
 ·subst e;exact qx5 v most w h hm hU
 ·exact q0g v n most w h e aP hU
end Go.Proofs.YtclimablgihlhaaGreatDoor
