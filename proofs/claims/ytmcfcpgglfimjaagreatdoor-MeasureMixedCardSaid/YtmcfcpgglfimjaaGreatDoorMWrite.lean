/- Texts of decimal digits: AreDigits; what a text of digits says. -/
import Derived.Test.YtmcfcpgglfimjaaGreatDoorMBase
import Derived.Laws.RangeString
import Derived.Laws.RangeAny
import Derived.Laws.Strings
import Derived.Outline
import Derived.Lib.TrimByte
import Derived.Test.YtmcfcpgglfimjaaGreatDoorMDiv64
import Derived.Test.YtmcfcpgglfimjaaGreatDoorShelf
import Derived.Test.YtmcfcpgglfimjaaGreatDoorMMul
import Derived.Test.YtmcfcpgglfimjaaGreatDoorShelfB
import Derived.Lib.ParseIntB
import Derived.Lib.ConvBytes
import Derived.Lib.UnsafeStr
import Derived.Lib.Split
import Derived.Laws.MakeOwn
import Derived.Laws.Strings3
import Derived.Test.YtmcfcpgglfimjaaGreatDoorMDivWord
import Derived.RegionTactic
import Derived.ChangeAlike
import Derived.Laws.IdiomStrings
import Derived.Laws.BytesArg
set_option linter.all false
namespace Go.Proofs.YtmcfcpgglfimjaaGreatDoor
open Go.RowKit
set_option maxRecDepth 100000
set_option maxHeartbeats 4000000
def isD(c:UInt8):Bool:=decide (48≤c.toNat∧c.toNat≤57)
def qj8(l:List UInt8):Bool := !l.isEmpty&&l.all isD
theorem qea(l:List UInt8):qj8 l=true↔l≠[]∧∀c ∈ l,isD c=true:=by
 unfold qj8;cases l<;>simp
theorem qdt(s:BA)(k:Nat)(h:k<s.size):s.data.toList[k]'(by simpa using h)=s[k]'h:=rfl
theorem q4z(s:BA)(k:Nat)(h:k<s.size)(hb:isD (s[k]'h)=false):qj8 s.data.toList=false:=by
 unfold qj8;rw[Bool.and_eq_false_iff]
 right
 rw[List.all_eq_false];exact⟨s[k]'h,by rw[←qdt s k h];exact List.getElem_mem _,by simp[hb]⟩
theorem qcv(s:BA)(k:Nat)(h:k<s.size):s.data.toList.take (k+1)=s.data.toList.take k++[s[k]'h]:=by
 rw[List.take_succ_eq_append_getElem (by simpa using h)];rfl
theorem q40(s:BA)(pos:Nat)(h:pos<s.size)(hb:isD (s[pos]'h)=false):(Utf8.decode s pos).1<48∨57<(Utf8.decode s pos).1:=by
 by_cases ha:(s[pos]'h).toNat<128
 ·rw[decode_ascii s pos h ha]
  unfold isD at hb;simp at hb;show(s[pos]'h).toNat<48∨57<(s[pos]'h).toNat;omega
 ·have:=(decode_high s pos h (by omega)).1
  omega
theorem qqg(w:World)(s:BA)(p:Nat):Below w.heap.size w (w.iter s p):=qad _ _
theorem qfz(s:BA)(w:World):
  Calls Tryz.prog 40 #[.string s] w fun e w'=>e = .returned (.bool (qj8 s.data.toList))∧Below w.heap.size w w':=by
 have nL:=hid (fun p=>qqg w s p);have jV:=hid (q4z s);have pF:=hid (q40 s);have jD:=hid (qcv s)
 have sI:Hid ((∀c ∈ s.data.toList.take s.size,isD c=true)→qj8 s.data.toList = !s.data.toList.isEmpty):=hid fun h=>by
  rw[List.take_of_length_le (by simp)] at h;unfold qj8;rw[List.all_eq_true.2 h,Bool.and_true]
 generalize qj8 s.data.toList=res at *;go_enter Tryz.func40,Tryz.ntmps40;go_wp2_with fail
 go_loopw [4] (fun _ wr=>∃pos:Nat,pos≤s.size∧wr=w.iter s pos∧Hid (∀c ∈ s.data.toList.take pos,isD c=true)) (fun _ w'=>s.size-w'.iterPos w.heap.size)
 case atStart=>exact⟨0,Nat.zero_le _,rfl,hid (by simp)⟩
 case round=>
  obtain⟨pos,Kb,rfl,HD⟩:=hrel;by_cases hp:pos<s.size
  ·by_cases hd:isD (s[pos]'hp)=true
   ·have h1:48≤(s[pos]'hp).toNat∧(s[pos]'hp).toNat≤57:=by simpa [isD] using hd
    have Kc:∀ty,(Instr.next (.pointer (some ⟨w.heap.size,0,none⟩)) true ty).run Tryz.prog (w.iter s pos)=_:=fun ty=>run_next_ascii w s pos ty hp (by omega)
    have mZ:Hid (∀c ∈ s.data.toList.take (pos+1),isD c=true):=hid (by
     rw[jD.out pos hp];intro c hc;rcases List.mem_append.1 hc with hc|hc
     ·exact HD.out c hc
     ·rw[List.mem_singleton.1 hc];exact hd)
    clear hd;generalize (s[pos]'hp).toNat=c at *;obtain⟨h48,h57⟩:=h1;have g1:decide ((c:Int)<48)=false:=qae (by omega);have g2:decide ((57:Int)<(c:Int))=false:=qae (by omega);go_wp2_with fail;go_roundw
    case rel=>exact⟨pos+1,by omega,rfl,mZ⟩
    case measure=>simp;omega
   ·have hd':isD (s[pos]'hp)=false:=by simpa using hd
    have hr:=pF.out pos hp hd';have uK:res=false:=jV.out pos hp hd';have Kc:∀ty,(Instr.next (.pointer (some ⟨w.heap.size,0,none⟩)) true ty).run Tryz.prog (w.iter s pos)=_:=fun ty=>run_next_any w s pos ty hp;have aX:=hid uK;clear uK hd hd';generalize (Utf8.decode s pos).2=wid at *;generalize (Utf8.decode s pos).1=c at *;rcases hr with hr|hr
    ·have g1:decide ((c:Int)<48)=true:=qag (by omega)
     go_wp2_with fail;go_ret;exact⟨qa8 aX.out.symm,nL.out _⟩
    ·have g1:decide ((c:Int)<48)=false:=qae (by omega)
     have g2:decide ((57:Int)<(c:Int))=true:=qag (by omega);go_wp2_with fail;go_ret;exact⟨qa8 aX.out.symm,nL.out _⟩
  ·have Ga:pos=s.size:=by omega
   have aX:Hid (res = !s.data.toList.isEmpty):=hid (sI.out (by rw[←Ga];exact HD.out));have Kc:∀ty,(Instr.next (.pointer (some ⟨w.heap.size,0,none⟩)) true ty).run Tryz.prog (w.iter s pos)=_:=fun ty=>run_next_end w s pos ty hp;clear Ga;go_wp2_with fail;go_ret;refine⟨qa8 ?_,nL.out _⟩;rw[aX.out];simp[ByteArray.toList_eq]
def qbb(a:Nat)(l:List UInt8):Nat:=l.foldl (fun a c=>a*10+(c.toNat-48)) a
theorem qhw(a:Nat):qbb a []=a:=by unfold qbb;rw[List.foldl_nil]
theorem qgc(a:Nat)(c:UInt8)(l:List UInt8):qbb a (c::l)=qbb (a*10+(c.toNat-48)) l:=by unfold qbb;rw[List.foldl_cons]
theorem qki(a:Nat)(l r:List UInt8):qbb a (l++r)=qbb (qbb a l) r:=by unfold qbb;rw[List.foldl_append]
theorem qjq(l:List UInt8):∀a,qbb a l=a*10^l.length+qbb 0 l:=by
 induction l with
 | nil=>intro a;simp[qbb]
 | cons c l ih=>
  intro a;rw[qgc,qgc,ih,ih (0*10+(c.toNat-48)),List.length_cons,Nat.pow_succ,Nat.add_mul,Nat.zero_mul,Nat.zero_add,Nat.mul_assoc,Nat.mul_comm 10,Nat.add_assoc]
theorem q0w(l:List UInt8)(a:Nat):a≤qbb a l:=by
 rw[qjq];have:1≤10^l.length:=Nat.one_le_pow _ _ (by omega);have:=Nat.mul_le_mul_left a this;omega
theorem qmb(c:UInt8):isD c=true↔48≤c.toNat∧c.toNat≤57:=by unfold isD;exact decide_eq_true_iff
theorem qst(d p v:Nat)(nA:d≤9)(h1:v<p):d*p+v<p*10:=by
 have h3:d*p≤9*p:=Nat.mul_le_mul_right _ nA;omega
theorem qfq:∀(l:List UInt8),(∀c ∈ l,isD c=true)→qbb 0 l<10^l.length
 | [],_=>by decide
 | c::l,h=>by
  have h1:=qfq l (fun c hc=>h c (List.mem_cons_of_mem _ hc));have h2:=(qmb c).1 (h c (List.mem_cons_self ..));rw[qgc,qjq,List.length_cons,Nat.pow_succ,Nat.zero_mul,Nat.zero_add];exact qst _ _ _ (by omega) h1
end Go.Proofs.YtmcfcpgglfimjaaGreatDoor
namespace Go.Proofs.YtmcfcpgglfimjaaGreatDoor
set_option maxRecDepth 100000
set_option maxHeartbeats 4000000
def dig(d:Nat):UInt8:=UInt8.ofNat (48+d % 10)
theorem qi3(d:Nat):(dig d).toNat=48+d % 10:=by
 unfold dig;rw[UInt8.toNat_ofNat'];omega
theorem q7i(d:Nat):isD (dig d)=true:=by rw[qmb,qi3];omega
def qfc(n:Nat):List UInt8:=if n=0 then[] else qfc (n/10)++[dig n]
decreasing_by omega
theorem qcw:qfc 0=[]:=by rw[qfc];simp
theorem qdh{n:Nat}(h:0<n):qfc n=qfc (n/10)++[dig n]:=by rw[qfc,if_neg (by omega)]
def qav(n:Nat):List UInt8:=if n=0 then[48] else qfc n
def pd:Nat→Nat→List UInt8
 | 0,_=>[]
 | k+1,n=>dig n::pd k (n/10)
theorem qk6:∀k n,(pd k n).length=k
 | 0,_=>rfl
 | k+1,n=>by rw[pd,List.length_cons,qk6]
theorem qux:∀k n,pd (k+1) n=pd k n++[dig (n/10^k)]
 | 0,n=>by simp[pd]
 | k+1,n=>by
  rw[pd,qux k (n/10),pd];rw[Nat.div_div_eq_div_mul,Nat.pow_succ,Nat.mul_comm (10^k)];rfl
theorem qsu:∀k m n,pd (k+m) n=pd k n++pd m (n/10^k)
 | 0,m,n=>by simp[pd]
 | k+1,m,n=>by
  have e:k+1+m=(k+m)+1:=by omega
  rw[e,pd,pd,qsu k m,Nat.div_div_eq_div_mul,Nat.pow_succ,Nat.mul_comm (10^k)];rfl
theorem qrb{n m:Nat}(h:n % 10=m % 10):dig n=dig m:=by unfold dig;rw[h]
theorem q61:∀k n m,n % 10^k=m % 10^k→pd k n=pd k m
 | 0,_,_,_=>rfl
 | k+1,n,m,h=>by
  have h1:n % 10=m % 10:=by
   have h2:∀x,x % 10^(k+1) % 10=x % 10:=fun x=>Nat.mod_mod_of_dvd x ⟨10^k,by rw[Nat.pow_succ,Nat.mul_comm]⟩;rw[←h2 n,←h2 m,h]
  have h3:n/10 % 10^k=m/10 % 10^k:=by
   have h2:∀x,x % 10^(k+1)/10=x/10 % 10^k:=fun x=>by
    rw[Nat.pow_succ,Nat.mul_comm,Nat.mod_mul_right_div_self]
   rw[←h2 n,←h2 m,h]
  rw[pd,pd,qrb h1,q61 k _ _ h3]
theorem qm6(n:Nat):(dig n==48)=true↔n % 10=0:=by
 rw[beq_iff_eq];constructor
 ·intro h
  have:=qi3 n;rw[h] at this;have e:(48:UInt8).toNat=48:=rfl;omega
 ·intro h
  unfold dig;rw[h];rfl
theorem qnn(p:UInt8→Bool)(l r:List UInt8):(l++r).dropWhile p=if l.dropWhile p=[] then r.dropWhile p else l.dropWhile p++r:=by
 induction l with
 | nil=>simp
 | cons x l ih=>
  rw[List.cons_append,List.dropWhile_cons,List.dropWhile_cons];cases p x
  ·simp
  ·simp[ih]
theorem q0x:∀k n,n<10^k→Lib.trimLeftB (pd k n).reverse 48=qfc n
 | 0,n,h=>by
  have:n=0:=by simpa using h
  subst this;rw[qcw];rfl
 | k+1,n,h=>by
  have h1:n/10<10^k:=by
   rw[Nat.div_lt_iff_lt_mul (by omega)];rw[Nat.pow_succ] at h;exact h
  have ih:=q0x k (n/10) h1;unfold Lib.trimLeftB at *;rw[pd,List.reverse_cons,qnn,ih];rcases qas n with e|e
  ·subst e
   rw[qcw,if_pos rfl];rfl
  ·rw[qdh e]
   rcases qas (n/10) with e2|e2
   ·rw[e2,qcw,if_pos rfl,List.dropWhile_cons]
    have:(dig n==48)=false:=by
     rw[Bool.eq_false_iff];intro hh;have:=(qm6 n).1 hh;omega
    rw[this];rfl
   ·rw[if_neg]
    rw[qdh e2];simp
theorem qbz:∀(k n:Nat),n<10^k→(qfc n).length≤k
 | 0,n,h=>by
  have:n=0:=by simpa using h
  subst this;rw[qcw];exact qac _
 | k+1,n,h=>by
  rcases qas n with e|e
  ·subst e;rw[qcw];exact Nat.zero_le _
  ·rw[qdh e,List.length_append]
   have h1:n/10<10^k:=by
    rw[Nat.div_lt_iff_lt_mul (by omega)];rw[Nat.pow_succ] at h;exact h
   have:=qbz k _ h1;simp;omega
theorem qw2(n:Nat):∀c ∈ qfc n,isD c=true:=by
 induction n using Nat.strongRecOn with
 | _ n ih=>
  rcases qas n with e|e
  ·subst e;rw[qcw];simp
  ·rw[qdh e]
   intro c hc;rcases List.mem_append.1 hc with hc|hc
   ·exact ih (n/10) (by omega) c hc
   ·rw[List.mem_singleton.1 hc];exact q7i n
theorem qog(n:Nat):qbb 0 (qfc n)=n:=by
 induction n using Nat.strongRecOn with
 | _ n ih=>
  rcases qas n with e|e
  ·subst e;rw[qcw,qhw]
  ·rw[qdh e,qki,ih (n/10) (by omega),qgc,qhw,qi3]
   omega
theorem qe2(n:Nat):n<10^(qfc n).length:=by
 have:=qfq (qfc n) (qw2 n)
 rwa [qog] at this
theorem qep(n:Nat):∀c ∈ qav n,isD c=true:=by
 unfold qav;split
 ·intro c hc;rw[List.mem_singleton.1 hc];rfl
 ·exact qw2 n
theorem qgt(n:Nat):qav n≠[]:=by
 unfold qav;split
 ·simp
 ·rw[qdh (by omega)];simp
theorem qdd(n:Nat):qbb 0 (qav n)=n:=by
 unfold qav;split
 ·rename_i h;subst h;rfl
 ·exact qog n
theorem qym(n:Nat):qj8 (qav n)=true:=(qea _).2 ⟨qgt n,qep n⟩
theorem qqh{n m:Nat}(h:10^m≤n):m<(qav n).length:=by
 have h1:0<10^m:=Nat.pow_pos (by omega);unfold qav;rw[if_neg (by omega)];have h2:=qe2 n;exact(Nat.pow_lt_pow_iff_right (by omega:1<10)).1 (Nat.lt_of_le_of_lt h h2)
theorem quy{L m n:Nat}(h:m/3*10+10<L)(h1:2^(L-1)≤n):10^m≤n:=by
 have h2:2^(10*(m/3+1))≤2^(L-1):=Nat.pow_le_pow_right (by omega) (by omega);rw[Nat.pow_mul] at h2;have h3:(10^3)^(m/3+1)≤(2^10)^(m/3+1):=Nat.pow_le_pow_left (by decide) _;rw[←Nat.pow_mul] at h3;have h4:10^m≤10^(3*(m/3+1)):=Nat.pow_le_pow_right (by omega) (by omega);exact Nat.le_trans h4 (Nat.le_trans h3 (Nat.le_trans h2 h1))
end Go.Proofs.YtmcfcpgglfimjaaGreatDoor
namespace Go.Proofs.YtmcfcpgglfimjaaGreatDoor
open Go.RowKit
set_option maxRecDepth 100000
set_option maxHeartbeats 4000000
theorem q7j{k x n L:Nat}(h:B64^k*x≤n)(h1:2^(L-1)≤x)(hL:1≤L):2^(k*64+L-1)≤n:=by
 have e:k*64+L-1=64*k+(L-1):=by omega
 rw[e,Nat.pow_add,Nat.pow_mul];have e2:2^64=B64:=by rw[qaj]
 rw[e2];exact Nat.le_trans (Nat.mul_le_mul_left _ h1) h
def q9j(n:Nat)(w:World)(e:Ending)(w':World):Prop:=∃L:Nat,e = .returned (.int .i64 (L:Nat))∧(L=0∨2^(L-1)≤n)∧w=w'
theorem qk7(v:Value)(n:Nat)(w:World)(h:qa2 w v n)(aQ:wl n≤Cap):
  Calls Tryz.prog 179 #[v] w (q9j n w):=by
 rcases qas n with h0|h0
 ·subst h0
  unfold qa2 Wds at h;rw[qau] at h;obtain⟨_,p,c,rfl,h1,h2,_⟩:=h;clear aQ h1 h2;go_enter Tryz.func179,Tryz.ntmps179;go_wp2_with fail;go_ret;exact⟨0,rfl,.inl rfl,rfl⟩
 ·have hl:0<wl n:=by
   rcases qas (wl n) with e|e
   ·have:=qen e;omega
   ·exact e
  obtain⟨l,p,c,rfl,hw,hv,aE⟩:=qkh h;have hp:=qg3 (b:=B64) qam h0
  have Ac:l=qao B64 n:=by
   obtain⟨_,p',c',he,_⟩:=h;obtain⟨cS,_⟩:=hw
   have h1:qao B64 (val B64 l)=l:=by
    have h2:=aE;unfold wl at h2
    exact(by
     refine qkz B64 qam l cS ?_;rintro z d hz rfl;have h3:=qiv B64 z (fun d hd=>cS d (by rw[hz];exact List.mem_append_left _ hd));have h4:val B64 l=val B64 z:=by rw[hz,qd8];simp
     have h5:z.length=(qao B64 n).length-1:=by rw[←h2,hz];simp
     rw[←h5] at hp
     omega)
   rw[←h1,hv]
  obtain⟨k,hk⟩:∃k,l.length=k+1:=⟨l.length-1,by omega⟩;obtain⟨cS,p',c',he,bO,bJ,aA⟩:=hw;cases he
  rcases aA with h1|⟨b,o,rfl,aB⟩
  ·omega
  have aC:=aB k (by omega);unfold wd at aC;have hx:=qaz (b:=B64) (by rw[qaj];omega) cS k
  have hxn:B64^k*l.getD k 0≤n:=by
   have h1:=qa0 B64 l k;rw[qbf B64 l (k+1) (by omega),hv] at h1;omega
  have oZ:0<l.getD k 0:=by
   rcases List.eq_nil_or_concat l with e|⟨z,x,e⟩
   ·rw[e] at hk;simp at hk
   ·rw[List.concat_eq_append] at e
    have hz:z.length=k:=by rw[e] at hk;simpa using hk
    have h1:=qix qam (Ac.symm.trans e);rw[e,←hz];simp;omega
  generalize l.getD k 0=x at *;rw[qaj] at hx;obtain⟨aY,aR,_⟩:=qof x oZ (by rw[show(2:Nat)^64=18446744073709551616 from by decide];exact hx)
  have aW:Hid (∀w,Calls Tryz.prog 186 #[.int .u64 (x:Nat)] w fun e w'=>e = .returned (.int .i64 (Lib.bitLen x:Nat))∧w'=w):=hid fun w=>by
   have h:=Tryz.bits_Len64 (x:Int) w (by omega) (by omega);rw[Int.toNat_natCast] at h;exact h
  have hL64:Lib.bitLen x≤64:=by
   rcases Nat.lt_or_ge 64 (Lib.bitLen x) with h1|h1
   ·have h2:2^64≤2^(Lib.bitLen x-1):=Nat.pow_le_pow_right (by omega) (by omega)
    rw[show(2:Nat)^64=18446744073709551616 from by decide] at h2;omega
   ·exact h1
  generalize Lib.bitLen x=L at *;have aF:Hid (2^(k*64+L-1)≤n):=hid (q7j hxn aR aY);rw[hk]
  have hk63:k<1099511627776:=by
   rw[←aE,hk] at aQ;unfold Cap at aQ;omega
  have e1:((k+1:Nat):Int)-1=(k:Int):=by omega
  clear aR hxn hp cS bO bJ aB aQ aE hl hk h Ac hv hx oZ;go_enter Tryz.func179,Tryz.ntmps179;go_wp2_with fail;refine(aW.out _).mono ?_;rintro e w' ⟨rfl,hw'⟩;rw[hw'];clear hw' aW;go_wp2_with fail;go_ret;exact⟨k*64+L,qa6 (by omega),.inr aF.out,rfl⟩
theorem q0y{w w':World}{base:Nat}{e:TypeId}{size:Nat}{v:Value}{n:Nat}{xs:List Value}(h:w.ownsRow base e size v n xs)(hb:Below w.heap.size w w'):w'.ownsRow base e size v n xs:=
 h.kept (row:=none) ⟨hb.os,hb.tape,hb.output,hb.size,fun k hk _=>hb.block k hk⟩ (by cases v.ownBlock<;>simp)
theorem qno(w:World)(e:TypeId)(s:BA):Below w.heap.size w (Lib.bytesWorld w e s):=by
 refine⟨rfl, ?_,rfl, ?_,fun k hk=>Lib.bytesWorld_at_old w e s k hk⟩
 ·show(w.drew).tape=w.tape
  rfl
 ·rw[Lib.bytesWorld_size];omega
theorem qsv:∀(l:List UInt8) (a:Nat),(∀c ∈ l,isD c=true)→qbb a l≤18446744073709551615→Lib.parseUintM (2^64-1) a l = .ok (qbb a l)
 | [],a,_,_=>by rw[qhw];rfl
 | c::r,a,h,hl=>by
  have hc:=(qmb c).1 (h c (List.mem_cons_self ..));rw[qgc] at hl ⊢;have dS:=q0w r (a*10+(c.toNat-48));unfold Lib.parseUintM;rw[if_pos hc,if_neg (by omega),if_neg (by omega)];exact qsv r _ (fun x hx=>h x (List.mem_cons_of_mem _ hx)) hl
theorem q0z(l:List UInt8)(h:∀c ∈ l,isD c=true)(hne:l≠[])(hl:l.length≤19):Lib.parseUintB 64 l = .ok (qbb 0 l):=by
 unfold Lib.parseUintB;rw[if_neg hne];refine qsv l 0 h ?_;have h1:=qfq l h;have h2:10^l.length≤10^19:=Nat.pow_le_pow_right (by omega) hl;have h3:10^19=10000000000000000000:=by decide
 omega
def uw(l:List Nat):List Value:=l.map fun x=>Value.int .u64 (x:Nat)
theorem q9k(l:List Nat)(k x:Nat):uw (l.set k x)=(uw l).set k (.int .u64 (x:Nat)):=by unfold uw;rw[List.map_set]
theorem q7k(l:List Nat)(x:Nat):uw (l++[x])=uw l++[.int .u64 (x:Nat)]:=by unfold uw;simp
theorem q9l(l:List Nat)(k:Nat)(h:k<l.length):(uw l)[k]? = some (.int .u64 (l.getD k 0:Nat)):=by unfold uw;simp[h]
theorem q7l{B p S L m m0 lo hi x P:Nat}(h:S+p*m=L*P+m0)(hy:lo+B*hi=x*P+m):S+p*lo+p*B*hi=(L+p*x)*P+m0:=by
 have e:=congrArg (p * ·) hy;simp only[Nat.mul_add] at e;rw[Nat.add_mul,Nat.mul_assoc p x,Nat.mul_assoc p B];omega
theorem q7m{l S:List Nat}{m m0 P v:Nat}(hl:l=qao B64 v)(aE:S.length=l.length)(hS:∀d ∈ S,d<B64)(hm:m<B64)(hP:1≤P)
  (h:val B64 S+B64^l.length*m=v*P+m0):qao B64 (v*P+m0)=if 0<m then S++[m] else S:=by
 by_cases h0:0<m
 ·rw[if_pos h0,←h,←aE,←qd8]
  refine qkz B64 qam _ ?_ ?_
  ·intro d hd
   rcases List.mem_append.1 hd with hd|hd
   ·exact hS d hd
   ·rw[List.mem_singleton.1 hd];exact hm
  ·intro z d hz
   have:=List.append_inj_right' hz rfl;have:m=d:=by simpa using this
   omega
 ·rw[if_neg h0]
  have:m=0:=by omega
  subst this;rw[←h,Nat.mul_zero,Nat.add_zero];refine qkz B64 qam _ hS ?_;rintro z d hz rfl
  have lW:0<v:=by
   rcases qas v with e|e
   ·rw[e,qau] at hl
    rw[hl,hz] at aE;simp at aE
   ·exact e
  have h1:=qg3 (b:=B64) qam lW;rw[←hl,←aE,hz] at h1;simp at h1;have h2:=qiv B64 z (fun d hd=>hS d (by rw[hz];exact List.mem_append_left _ hd));have h3:val B64 S=val B64 z:=by rw[hz,qd8];simp
  have h4:v*1≤v*P:=Nat.mul_le_mul_left _ hP;omega
theorem qm7(w:World)(a:Value)(t:TypeId):∀j u,[a][j]? = some u→(w.alloc (.cells #[a] t)).cell? ((⟨w.heap.size,0,none⟩:Addr).add j)=some u:=by
 intro j u hj
 match j,hj with
 | 0,hj=>simp at hj;subst hj;simp[Addr.add]
 | j+1,hj=>simp at hj
theorem q41(t:BA)(w:World)(h:∀c ∈ t.data.toList,isD c=true)(hne:t.data.toList≠[])(hl:t.data.toList.length≤19):
  Calls Tryz.prog 133 #[.string t,.int .i64 10,.int .i64 64] w fun e w'=>e = .returned (.tuple #[.int .u64 (qbb 0 t.data.toList:Nat),.nilIface])∧Below w.heap.size w w':=by
 refine(Tryz.strconv_ParseUint_10_at64_ok t ?_ _ (q0z _ h hne hl) w).mono ?_
 ·simp at hl;omega
 ·rintro e w' ⟨rfl,rfl|rfl⟩
  ·exact⟨rfl,qaa _ _⟩
  ·exact⟨rfl,qno w _ t⟩
def qmc(n:Nat)(f:Nat→Value)(i q:Nat):Value:=if q<i∨n≤q+i then f (n-1-q) else f q
theorem qyn(n:Nat)(f:Nat→Value)(q:Nat)(h:q<n):qmc n f 0 q=f q:=by
 unfold qmc;rw[if_neg (by omega)]
theorem q00{n i:Nat}(f:Nat→Value)(h:n≤2*i+1)(q:Nat)(hq:q<n):qmc n f i q=f (n-1-q):=by
 unfold qmc;by_cases e:q<i∨n≤q+i
 ·rw[if_pos e]
 ·rw[if_neg e];congr 1;omega
theorem qyo{n i:Nat}(f:Nat→Value)(h:2*i+1<n)(q:Nat):qmc n f (i+1) q=if q=n-1-i then qmc n f i i else if q=i then qmc n f i (n-1-i) else qmc n f i q:=by
 unfold qmc;by_cases e1:q=n-1-i
 ·rw[if_pos e1,if_pos (by omega),if_neg (by omega)];congr 1;omega
 ·rw[if_neg e1]
  by_cases e2:q=i
  ·rw[if_pos e2,if_pos (by omega),if_neg (by omega)];congr 1;omega
  ·rw[if_neg e2]
   by_cases e3:q<i∨n≤q+i
   ·rw[if_pos e3,if_pos (by omega)]
   ·rw[if_neg e3,if_neg (by omega)]
theorem quz(g n c:Nat)(f:Nat→Value)(w:World)(hn:n≤9223372036854775807)(ho:Own w g n f)(h1:∀q,q<n→∃x:Int,f q = .int .u8 x):
  Calls Tryz.prog 180 #[.slice (some ⟨g,0,none⟩) n c] w fun e w'=>e = .returned (.tuple #[])∧Own w' g n (fun q=>f (n-1-q))∧qfb g w w':=by
 have HO:=hid ho;have H1:=hid h1;clear ho h1;go_enter Tryz.func180,Tryz.ntmps180;go_wp2_with fail
 go_loopw [2,3] (fun a b wr=>∃i:Nat,2*i≤n+1∧a = .int .i64 i∧b = .int .i64 ((n:Int)-1-i)∧Hid (Own wr g n (qmc n f i))∧Hid (qfb g w wr)) (fun a _ _=>n-(intOf a).toNat)
 case atStart=>exact⟨0,by omega,rfl,by go_num,hid (HO.out.congr fun q hq=>(qyn n f q hq).symm),hid (qfb.refl _ _)⟩
 case round=>
  obtain⟨i,hi,rfl,rfl,HR,HB⟩:=hrel;by_cases bC:2*i+1<n
  ·obtain⟨j,hj⟩:∃j,j=n-1-i:=⟨_,rfl⟩
   have hE:(n:Int)-1-i=(j:Int):=by omega
   have hij:i<j:=by omega
   have kN:j<n:=by omega
   have Dc:i<n:=by omega
   have hne:¬i=j:=by omega
   obtain⟨oG,hfi⟩:=HR.out.2 i Dc;obtain⟨hcj,hfj⟩:=HR.out.2 j kN
   have hv:∀q,q<n→∃x:Int,qmc n f i q = .int .u8 x:=fun q hq=>by
    unfold qmc;split
    ·exact H1.out _ (by omega)
    ·exact H1.out _ hq
   obtain⟨x,hx⟩:=hv i Dc;obtain⟨y,hy⟩:=hv j kN;rw[hx] at oG;rw[hy] at hcj;have HX:=hid hx;have HY:=hid hy;clear hx hy hv;rw[hE];have HJ:=hid hj;clear hj hE;go_wp2_with fail
   go_region
   go_wp2_with fail;go_roundw
   case rel=>
    refine⟨i+1,by omega,by go_num,by have:=HJ.out;go_num,hid ?_,hid ?_⟩
    ·have h:=(HR.out.set i Dc (.int .u8 y)).set j kN (.int .u8 x)
     have h2:=h.congr (f':=qmc n f (i+1)) (fun q hq=>by
      rw[qyo f bC,←HJ.out,HX.out,HY.out])
     exact h2.later ((qaa _ _).drew)
    ·exact((HB.out.set _ _).set _ _).drewN 1
   case measure=>simp[intOf];omega
  ·have hE:¬(i:Int)<(n:Int)-1-i:=by omega
   have HF:Hid (Own wr g n (fun q=>f (n-1-q))):=hid (HR.out.congr fun q hq=>q00 f (by omega) q hq);go_wp2_with fail
   go_end0
   exact⟨rfl,HF.out,HB.out⟩
theorem reverse_nil(w:World):Calls Tryz.prog 180 #[.slice none 0 0] w fun e w'=>e = .returned (.tuple #[])∧w=w':=by
 go_enter Tryz.func180,Tryz.ntmps180;go_wp2_with fail
 go_loop [2,3] (fun a b=>a = .int .i64 0∧b = .int .i64 (-1)) (fun _ _=>0)
 case atStart=>exact⟨rfl,rfl⟩
 case round=>
  obtain⟨rfl,rfl⟩:=hrel;go_wp2_with fail
  go_end0
  exact⟨rfl,rfl⟩
def bv(l:List UInt8):List Value:=l.map fun c=>Value.int .u8 (c.toNat:Int)
theorem q7n(l:List UInt8)(c:UInt8):bv (l++[c])=bv l++[.int .u8 (c.toNat:Int)]:=by unfold bv;simp
def qmd(n most:Nat)(w:World)(e:Ending)(w':World):Prop:=
 e = .returned (.tuple #[.string (if(qav n).length≤most then⟨(qav n).toArray⟩ else⟨#[]⟩),.bool (decide ((qav n).length≤most))])∧Below w.heap.size w w'
theorem qsw{n most:Nat}{w w':World}{e:Ending}(h:(qav n).length≤most)(he:e = .returned (.tuple #[.string ⟨(qav n).toArray⟩,.bool true]))(hb:Below w.heap.size w w'):qmd n most w e w':=by
 unfold qmd;rw[if_pos h,qag h];exact⟨he,hb⟩
theorem qw3{n most:Nat}{w w':World}{e:Ending}(h:most<(qav n).length)(he:e = .returned (.tuple #[.string ⟨#[]⟩,.bool false]))(hb:Below w.heap.size w w'):qmd n most w e w':=by
 unfold qmd;rw[if_neg (by omega),qae (by omega)];exact⟨he,hb⟩
theorem qyp(v:Value)(most:Nat)(w:World)(h:qa2 w v 0)(hm:1≤most)(fP:most≤1099511627776):
  Calls Tryz.prog 136 #[v,.int .i64 most] w (qmd 0 most w):=by
 have dW:=hid (qk7 v 0 w h (by rw[show wl 0=0 from by unfold wl;rw[qau];rfl];exact Nat.zero_le _));have jR:=hid (qod v [] w (by unfold qa2 at h;rwa [qau] at h) (Nat.zero_le _));have HF:Hid (∀w',Below w.heap.size w w'→qmd 0 most w (.returned (.tuple #[.string ⟨#[48]⟩,.bool true])) w'):=hid fun w' hb=>qsw (by show 1≤most;exact hm) rfl hb;clear h;have hcvn:∀(w:World),(convert 182 9 (.slice none 0 0)).run Tryz.prog w = .ok (.string ⟨#[]⟩) w:=fun w=>run_convert_bytes_nil (P:=Tryz.prog) w _ _ Tryz.underlying182 Tryz.underlying5 0 0 _ Tryz.underlying9;go_enter Tryz.func136,Tryz.ntmps136;go_wp2_with fail;refine dW.out.mono ?_;rintro e w1 ⟨L,rfl,hL,rfl⟩
 have Lq:L=0:=by
  rcases hL with h|h
  ·exact h
  ·have:=Nat.two_pow_pos (L-1);omega
 subst Lq;clear hL;have hI:¬(most:Int)/3*10+10<0:=by omega
 go_wp2_with fail;refine jR.out.mono ?_;rintro e w1 ⟨⟨vc,rfl,ho⟩,hb⟩;obtain⟨_,pc,cc,rfl,_,_,_⟩:=ho;have aP:=hid hb;clear hb;have fD:¬(most:Int)<1:=by omega
 go_wp2_with fail
 go_loopw [6,7] (fun r q wr=>r = .slice none 0 0∧q = .slice pc 0 cc∧Hid (Below w.heap.size w wr)) (fun _ _ _=>0)
 case atStart=>exact⟨rfl,rfl,aP⟩
 case round=>
  obtain⟨rfl,rfl,HB⟩:=hrel;clear aP;go_wp2_with fail;refine(reverse_nil _).mono ?_;rintro e w2 ⟨rfl,rfl⟩;go_wp2_with fail;refine(Tryz.strings_TrimLeft_one _ 48 (by decide) _).mono ?_;rintro e w2 ⟨rfl,kZ⟩;rw[kZ];clear kZ;have rQ:Lib.trimLeftB (ByteArray.mk #[]).data.toList 48=[]:=rfl;go_wp2_with fail;go_ret2;exact HF.out _ HB.out
theorem q9m:(10:Nat)^19=10000000000000000000:=by decide
theorem qyq{n:Nat}(_hcap:wl n≤Cap):(qfc n).length≤20*wl n:=by
 refine qbz _ _ ?_;have h1:=qcj B64 n qam;have h2:B64≤10^20:=by rw[qaj];decide
 have h3:B64^wl n≤(10^20)^wl n:=Nat.pow_le_pow_left h2 _;rw[←Nat.pow_mul] at h3;exact Nat.lt_of_lt_of_le h1 h3
theorem qyr{w:World}{base g cap:Nat}{l:List UInt8}(h:w.ownsRow base 5 1 (.slice (some ⟨g,0,none⟩) l.length cap) l.length (bv l)):Own w g l.length (fun q => .int .u8 ((l.getD q 0).toNat:Int)):=by
 refine⟨(h.lt g rfl).2,fun q hq=>⟨?_,h.frozenAt q⟩⟩;rw[h.cellAt q (by omega)];unfold bv;simp[hq]
theorem qqi{w:World}{base n:Nat}{v:Value}{xs:List Value}(h:w.ownsRow base 5 1 v n xs)(hn:0<n):∃g cap,v = .slice (some ⟨g,0,none⟩) n cap:=by
 rcases h.2 with⟨_,h'⟩|⟨g',cap',cur,h',_⟩
 ·omega
 ·exact⟨g',cap',h'⟩
theorem q42(l:List UInt8)(q:Nat)(hq:q<l.length):l.reverse.getD q 0=l.getD (l.length-1-q) 0:=by
 rw[qba,qba,List.getElem?_reverse hq]
theorem qfb.row{g:Nat}{w w':World}{base:Nat}{e:TypeId}{size:Nat}{v:Value}{n:Nat}{xs:List Value}(h:qfb g w w')(hr:w.ownsRow base e size v n xs)(hg:g<base):w'.ownsRow base e size v n xs:=by
 obtain⟨h1,h2⟩:=hr;refine⟨h1, ?_⟩;rcases h2 with h2|⟨k,cap,cur,a,b,c,d⟩
 ·exact .inl h2
 ·exact .inr ⟨k,cap,cur,a,b,by rw[h.2 k (by omega)];exact c,d⟩
theorem q01{w w':World}{row:Option Nat}{g n:Nat}{f:Nat→Value}(h:Own w g n f)(hg:w.grownBy w' row)(hne:some g≠row):Own w' g n f:=by
 have hb:=hg.block g h.1 hne;refine⟨Nat.lt_of_lt_of_le h.1 hg.size,fun i hi => ?_⟩;rw[World.cell?_of_block (a:=⟨g,i,none⟩) hb,World.frozen?_of_block (a:=⟨g,i,none⟩) hb];exact h.2 i hi
theorem qsx{w:World}{base:Nat}{e:TypeId}{size:Nat}{v:Value}{n:Nat}{xs:List Value}(h:w.ownsRow base e size v n xs){g:Nat}(hg:g<base):some g≠v.ownBlock:=by
 intro e1;have:=(h.lt g e1.symm).1;omega
theorem q02(v:Value)(n most:Nat)(w:World)(h:qa2 w v n)(hn:0<n)(aQ:wl n≤Cap)(fP:most≤1099511627776):
  Calls Tryz.prog 136 #[v,.int .i64 most] w (qmd n most w):=by
 have dW:=hid (qk7 v n w h aQ);have jR:=hid (qod v _ w h aQ);have hDT:qav n=qfc n:=by unfold qav;rw[if_neg (by omega)]
 have Dd:Hid (∀L w',(L=0∨2^(L-1)≤n)→most/3*10+10<L→Below w.heap.size w w'→qmd n most w (.returned (.tuple #[.string ⟨#[]⟩,.bool false])) w'):=hid fun L w' hL bC hb=>by
  refine qw3 (qqh ?_) rfl hb;rcases hL with e|e
  ·omega
  ·exact quy bC e
 have uL:Hid (∀w',(qfc n).length≤most→Below w.heap.size w w'→qmd n most w (.returned (.tuple #[.string ⟨(qfc n).toArray⟩,.bool true])) w'):=hid fun w' h1 hb=>by
  refine qsw (by rw[hDT];exact h1) (by rw[hDT]) hb
 have rR:Hid (∀w',¬(qfc n).length≤most→Below w.heap.size w w'→qmd n most w (.returned (.tuple #[.string ⟨#[]⟩,.bool false])) w'):=hid fun w' h1 hb=>by
  refine qw3 (by rw[hDT];omega) rfl hb
 have Ma:=hid (qyq aQ);have cM:Hid (wl n≤1099511627776):=hid aQ
 have qT:Hid (∀j,n/10^(19*j)≠0→19*j<(qfc n).length):=hid fun j hj=>by
  have h1:10^(19*j)≤n:=by
   rcases Nat.lt_or_ge n (10^(19*j)) with e|e
   ·exact absurd (Nat.div_eq_of_lt e) hj
   ·exact e
  have h2:=qe2 n;exact(Nat.pow_lt_pow_iff_right (by omega:1<10)).1 (Nat.lt_of_le_of_lt h1 h2)
 have De:(qao B64 n).length≠0:=by
  intro e;have:=qen e;omega
 have hnd63:(qao B64 n).length≤1099511627776:=aQ;clear h hDT;obtain⟨i0,hi,cP,dV,eF⟩:=info_parts (show(Tryz.prog.info? 5).map (fun i=>(i.zero,i.size,i.bytes))=some (some (.int .u8 0),1,1) by kernel_rfl);have HI:=hid hi;have Df:=hid cP;have Bd:=hid dV;have kG:=hid eF;clear hi cP dV eF aQ;have HN:=hid hn;clear hn;go_enter Tryz.func136,Tryz.ntmps136;go_wp2_with fail;refine dW.out.mono ?_;rintro e w1 ⟨L,rfl,hL,rfl⟩;have HL:=hid hL;clear hL dW;by_cases xY:most/3*10+10<L
 ·have hI:(most:Int)/3*10+10<(L:Int):=by omega
  have kY:=hid xY;clear xY;go_wp2_with fail;go_ret2;exact Dd.out L _ HL.out kY.out (qaa _ _)
 have hI:¬(most:Int)/3*10+10<(L:Int):=by omega
 clear xY HL Dd;go_wp2_with fail;refine jR.out.mono ?_;rintro e w1 ⟨⟨vc,rfl,ho⟩,hb⟩;obtain⟨cS,pc,cc,rfl,bO,bJ,ho⟩:=ho;rcases ho with h0|⟨g,hg,rfl,ho⟩
 ·exact absurd h0 De
 have aP:=hid hb;have HG:=hid hg;have iI:=hid ho;have gS:=hid bJ;have jJ:Hid ((qao B64 n).length≤cc):=hid bO;obtain⟨B1,hB1⟩:∃B1,B1=w1.heap.size:=⟨_,rfl⟩;have hgB:g<B1:=by rw[hB1];exact ho.1
 have pG:=hid hgB;have aV:=hid hB1;have xZ:Hid (w.heap.size≤B1):=hid (by rw[hB1];exact hb.size);clear cS bO bJ ho hb hg hgB hB1 hI jR;generalize qU:(qao B64 n).length=n0 at *;have gJ:=hid qU;clear qU De;go_wp2_with fail
 go_loopw [6,7] (fun r q wr=>∃(j m k:Nat),q = .slice (some ⟨g,0,none⟩) k cc∧Hid (k=(qao B64 m).length)∧Hid (m=n/10^(19*j))∧Hid (qk2 r=19*j)∧Hid (k≤n0)∧Hid (Own wr g k (wd (qao B64 m)))∧Hid (wr.ownsRow B1 5 1 r (19*j) (bv (pd (19*j) n)))∧Hid (Below w.heap.size w wr)∧Hid (B1≤wr.heap.size)) (fun r _ _=>(qfc n).length+20-qk2 r)
 case atStart=>exact⟨0,n,n0,rfl,hid gJ.out.symm,hid (by simp),hid rfl,hid (qac _),iI,hid (World.ownsRow_nil w1 B1 5 1),aP,hid (by rw[aV.out];exact qac _)⟩
 case round=>
  obtain⟨j,m,k,rfl,HK,HM,aU,HKN,HO,bP,HB,Ad⟩:=hrel;clear iI aP;by_cases kF:0<k
  ·have mC:m≠0:=by
    rintro rfl;have:=HK.out;rw[qau] at this;simp at this;omega
   have HJ:Hid (19*j<(qfc n).length):=hid (qT.out j (by rw[←HM.out];exact mC));have hjb:19*j≤21990232555520:=by have:=HJ.out;have:=Ma.out;have:=cM.out;omega
   have cT:Hid (∀W,Own W g k (wd (qao B64 m))→Calls Tryz.prog 150 #[.slice (some ⟨g,0,none⟩) k cc,.int .u64 10000000000000000000] W fun e w'=>∃k2,k2=(qao B64 (m/10000000000000000000)).length∧e = .returned (.tuple #[.slice (some ⟨g,0,none⟩) k2 cc,.int .u64 (m % 10000000000000000000:Nat)])∧Own w' g k2 (wd (qao B64 (m/10000000000000000000)))∧qfb g W w'):=hid fun W ho=>by
    have hh:=HK.out;subst hh;have h:=qk5 g cc (qao B64 m) 10000000000000000000 W (qed B64 m qam) (Nat.le_trans (by have:=HKN.out;exact this) (by have:=jJ.out;omega)) gS.out ho (by omega) (by rw[qaj];omega);rw[qar _ _ qam] at h;exact h
   have HPM:Hid (∀i,pd i (m % 10000000000000000000)=pd i (m % 10000000000000000000)):=hid fun _=>rfl
   have HPD:Hid (pd (19*j) n++pd 19 (m % 10000000000000000000)=pd (19*(j+1)) n):=hid (by
    rw[show 19*(j+1)=19*j+19 from by omega,qsu,←HM.out]
    congr 1
    refine q61 19 _ _ ?_
    rw[q9m,Nat.mod_mod])
   have fF:Hid (m/10000000000000000000=n/10^(19*(j+1))):=hid (by
    rw[show 19*(j+1)=19*j+19 from by omega,Nat.pow_add,←Nat.div_div_eq_div_mul,←HM.out,q9m])
   have Mb:Hid (∀k2,k2=(qao B64 (m/10000000000000000000)).length→k2≤n0):=hid fun k2 h2=>by
    rw[h2];exact Nat.le_trans (qal qam (Nat.div_le_self _ _)) (by rw[←HK.out];exact HKN.out)
   have iA:Hid (m % 10000000000000000000<10000000000000000000):=hid (Nat.mod_lt _ (by omega));clear HK HM HKN HPM mC;generalize m/10000000000000000000=m2 at *;generalize m % 10000000000000000000=p at *;go_wp2_with fail;refine(cT.out _ HO.out).mono ?_;rintro e w2 ⟨k2,nB,rfl,Mc,Gb⟩;have uM:=hid nB;have HKN2:=hid (Mb.out k2 nB);have jH:=hid Mc;have Dg:=hid (Gb.row bP.out pG.out);have aK:Hid (Below w.heap.size w w2):=hid (HB.out.trans (Gb.below HG.out));have uN:Hid (B1≤w2.heap.size):=hid (Nat.le_trans Ad.out (Gb.below (Nat.zero_le _)).size);clear nB Mc Gb bP HB Ad HO cT Mb;go_wp2_with fail
   go_loopw [6,8,27] (fun r pp ii wr=>∃(i x:Nat),i≤19∧ii = .int .i64 i∧pp = .int .u64 x∧Hid (x=p/10^i)∧Hid (qk2 r=19*j+i)∧Hid (wr.ownsRow B1 5 1 r (19*j+i) (bv (pd (19*j) n++pd i p)))∧Hid (Own wr g k2 (wd (qao B64 m2)))∧Hid (Below w.heap.size w wr)∧Hid (B1≤wr.heap.size)) (fun _ _ ii _=>19-(intOf ii).toNat)
   case atStart=>exact⟨0,p,Nat.zero_le _,rfl,rfl,hid (by simp),aU,hid (by rw[pd,List.append_nil];exact Dg.out),jH,aK,uN⟩
   case round=>
    obtain⟨i,x,hi,rfl,rfl,HX,HSLI,HR,HOI,Md,HSI⟩:=hrel;clear Dg jH aK uN;by_cases hi19:i<19
    ·have hx64:(x:Int)≤18446744073709551615:=by
      have h1:=HX.out;have h2:=iA.out;have h3:p/10^i≤p:=Nat.div_le_self _ _;omega
     have qM:0≤(x:Int) % 10:=by omega
     have hr9:(x:Int) % 10≤9:=by omega
     have pY:IntKind.u8.wrap (48+(x:Int) % 10)=((dig x).toNat:Int):=by
      rw[qi3,IntKind.wrap_u8];omega
     have kO:Hid (x/10=p/10^(i+1)):=hid (by rw[HX.out,Nat.div_div_eq_div_mul,Nat.pow_succ]);have Me:Hid (pd (19*j) n++pd (i+1) p=(pd (19*j) n++pd i p)++[dig x]):=hid (by rw[qux,HX.out,List.append_assoc]);have Gc:=HR.out;go_wp2_with (at_builtin;refine wpList_append_own _ rfl _ _ 182 rfl B1 5 i0 (.int .u8 0) 1 1 Tryz.underlying182 HI.out Df.out Bd.out kG.out rfl (by decide) _ _ _ rfl (HR.out.alloc _) ⟨wr.heap.size,0,none⟩ 1 1 [.int .u8 ((dig x).toNat:Int)] rfl rfl ?c1 ?c2 ?c3 ?c4 ?c5 ?_)
     case c1=>exact qm7 _ _ _
     case c2=>intro u hu;rw[List.mem_singleton.1 hu];rfl
     case c3=>unfold maxLen;omega
     case c4=>omega
     case c5=>rw[qab];have:=HSI.out;omega
     intro v' w9 aT bK _;have Gd:Hid (Own w9 g k2 (wd (qao B64 m2))):=hid (q01 (HOI.out.later ((qaa _ _).alloc HOI.out.1 _)) bK (qsx HR.out pG.out));have nM:Hid (Below w.heap.size w w9):=hid ((Md.out.alloc Md.out.size _).grown bK (by rw[qab];have:=Md.out.size;omega) (by intro q hq;have:=(HR.out.lt q hq).1;have:=xZ.out;omega));have HS9:Hid (B1≤w9.heap.size):=hid (by have:=bK.size;rw[qab] at this;have:=HSI.out;omega);obtain⟨g',cap',rfl⟩:=qqi aT (by omega);have HR9:Hid (w9.ownsRow B1 5 1 (.slice (some ⟨g',0,none⟩) (19*j+(i+1)) cap') (19*j+(i+1)) (bv (pd (19*j) n++pd (i+1) p))):=hid (by rw[Me.out,q7n];exact aT);clear aT bK Gc HR HOI Md HSI;go_wp2_with fail;go_roundw
     case rel=>exact⟨i+1,x/10,by omega,by go_num,by rw[Int.natCast_ediv];rfl,kO,hid rfl,HR9,Gd,nM,HS9⟩
     case measure=>simp[intOf];omega
    ·have hie:i=19:=by omega
     subst hie;have HR19:Hid (wr.ownsRow B1 5 1 u6 (19*(j+1)) (bv (pd (19*(j+1)) n))):=hid (by have:=HR.out;rw[HPD.out] at this;exact this);have Mf:Hid (qk2 u6=19*(j+1)):=hid HSLI.out;clear HR;go_wp2_with fail;go_roundw
     case rel=>exact⟨j+1,m2,k2,rfl,uM,fF,Mf,HKN2,HOI,HR19,Md,HSI⟩
     case measure=>have h1:=HJ.out;have h2:=Mf.out;have h3:=aU.out;omega
  ·have hk00:k=0:=by omega
   subst hk00;have mC:m=0:=qen (by have:=HK.out;unfold wl;omega)
   have Be:n<10^(19*j):=by
    have h1:=HM.out;rw[mC] at h1;rcases Nat.lt_or_ge n (10^(19*j)) with e|e
    ·exact e
    ·have:=Nat.div_pos e (Nat.pow_pos (by omega))
     omega
   have Ge:0<19*j:=by
    rcases qas (19*j) with e|e
    ·rw[e] at Be
     have:=HN.out;simp at Be;omega
    ·exact e
   obtain⟨g',cap',rfl⟩:=qqi bP.out Ge;obtain⟨l,hl⟩:∃l,l=pd (19*j) n:=⟨_,rfl⟩;have Kd:l.length=19*j:=by rw[hl,qk6]
   have htr:Lib.trimLeftB l.reverse 48=qfc n:=by rw[hl];exact q0x _ n Be
   have aB:=bP.out;rw[←hl] at aB;have aT:=qyr (l:=l) (by rw[Kd];exact aB);rw[Kd] at aT;have hg':=(aB.lt g' rfl).1
   have hKc:19*j≤9223372036854775807:=by
    rcases aB.2 with⟨h',_⟩|⟨g2,cap2,cur,h',_,_,h1,h2,_⟩
    ·cases h'
    ·cases h';unfold maxLen at h2;omega
   have Mg:=hid (quz g' (19*j) cap' _ wr hKc aT (fun q _=>⟨_,rfl⟩))
   have mD:Hid (∀W,Calls Tryz.prog 181 #[.string ⟨l.reverse.toArray⟩,.string ⟨#[48]⟩] W fun e w'=>e = .returned (.string ⟨(qfc n).toArray⟩)∧w'=W):=hid fun W=>by
    have h:=Tryz.strings_TrimLeft_one ⟨l.reverse.toArray⟩ 48 (by decide) W;have e1:(ByteArray.mk l.reverse.toArray).data.toList=l.reverse:=by simp
    rw[e1,htr] at h;exact h
   have HCV:Hid (∀W,Own W g' (19*j) (fun q => .int .u8 ((l.getD (19*j-1-q) 0).toNat:Int))→(convert 182 9 (.slice (some ⟨g',0,none⟩) (19*j) cap')).run Tryz.prog W = .ok (.string ⟨l.reverse.toArray⟩) W):=hid fun W ho=>by
    have h:=run_convert_bytes_back (P:=Tryz.prog) W 182 9 5 ⟨g',0,none⟩ cap' l.reverse Tryz.underlying182 Tryz.underlying5 Tryz.underlying9 (fun q hq=>by
     have nN:q<19*j:=by rw[List.length_reverse,Kd] at hq;exact hq
     have h2:=(ho.2 q nN).1;rw[Addr.add_lit,Nat.zero_add,h2];have h3:=q42 l q (by omega);rw[Kd] at h3;show some (Value.int IntKind.u8 ((l.getD (19*j-1-q) 0).toNat:Int))=_;rw[←h3,qba,qat hq]
     rfl)
    rw[List.length_reverse,Kd] at h;exact h
   have HWG:Hid (w.heap.size≤g'):=hid (Nat.le_trans xZ.out hg')
   have hne:(qfc n).length≠0:=by
    rw[qdh HN.out];simp
   obtain⟨tx,Dh⟩:∃tx:BA,tx=⟨(qfc n).toArray⟩:=⟨_,rfl⟩;have pZ:tx.size=(qfc n).length:=by rw[Dh];simp[ByteArray.size]
   have hte:tx.toList.isEmpty=false:=by
    rw[ByteArray.toList_eq,Dh];rw[List.isEmpty_eq_false_iff];intro e;apply hne;have e1:(ByteArray.mk (qfc n).toArray).data.toList=qfc n:=by simp
    rw[e1] at e;rw[e];rfl
   rw[←Dh] at mD uL;have oI:=hid pZ;have fQ:Hid ((qfc n).length≤21990232555520):=hid (by have:=Ma.out;have:=cM.out;omega);clear HK HM aU HKN HO bP mC Be Kd htr aB aT hg' hKc hl hne Dh pZ;generalize 19*j=K at *;go_wp2_with fail;refine Mg.out.mono ?_;rintro e w2 ⟨rfl,Mc,Gb⟩;have pY:=HCV.out w2 Mc;have aK:Hid (Below w.heap.size w w2):=hid (HB.out.trans (Gb.below HWG.out));clear Mc Gb Mg HCV HB;go_wp2_with fail;refine(mD.out _).mono ?_;rintro e w3 ⟨rfl,hw3⟩;rw[hw3];clear hw3 mD pY;by_cases tO:(qfc n).length≤most
   ·have hI1:¬(most:Int)<(tx.size:Int):=by have:=oI.out;omega
    have Bf:=hid tO;clear tO;go_wp2_with fail;go_ret2;exact uL.out _ Bf.out aK.out
   ·have hI1:(most:Int)<(tx.size:Int):=by have:=oI.out;omega
    have Bf:=hid tO;clear tO;go_wp2_with fail;go_ret2;exact rR.out _ Bf.out aK.out
theorem qi4(v:Value)(n most:Nat)(w:World)(h:qa2 w v n)(aQ:wl n≤Cap)(hm:1≤most)(fP:most≤1099511627776):
  Calls Tryz.prog 136 #[v,.int .i64 most] w (qmd n most w):=by
 rcases qas n with e|e
 ·subst e;exact qyp v most w h hm fP
 ·exact q02 v n most w h e aQ fP
end Go.Proofs.YtmcfcpgglfimjaaGreatDoor
