/- Texts of decimal digits: AreDigits; what a text of digits says. -/
import Derived.Test.YtlkaldjmgamamaaGreatDoorMBase
import Derived.Laws.RangeString
import Derived.Laws.RangeAny
import Derived.Laws.Strings
import Derived.Outline
import Derived.Lib.TrimByte
import Derived.Test.YtlkaldjmgamamaaGreatDoorMDiv64
import Derived.Test.YtlkaldjmgamamaaGreatDoorShelf
import Derived.Test.YtlkaldjmgamamaaGreatDoorMMul
import Derived.Test.YtlkaldjmgamamaaGreatDoorShelfB
import Derived.Lib.ParseIntB
import Derived.Lib.ConvBytes
import Derived.Lib.UnsafeStr
import Derived.Lib.Split
import Derived.Laws.MakeOwn
import Derived.Laws.Strings3
set_option linter.all false
namespace Go.Proofs.YtlkaldjmgamamaaGreatDoor
open Go.RowKit
set_option maxRecDepth 100000
def isD(c:UInt8):Bool:=decide (48≤c.toNat∧c.toNat≤57)
def qkd(l:List UInt8):Bool := !l.isEmpty&&l.all isD
theorem qd6(l:List UInt8):qkd l=true↔l≠[]∧∀c ∈ l,isD c=true:=by
 unfold qkd;cases l<;>simp
theorem qdr(s:ByteArray)(k:Nat)(h:k<s.size):s.data.toList[k]'(by simpa using h)=s[k]'h:=rfl
theorem q46(s:ByteArray)(k:Nat)(h:k<s.size)(hb:isD (s[k]'h)=false):qkd s.data.toList=false:=by
 unfold qkd;rw[Bool.and_eq_false_iff]
 right
 rw[List.all_eq_false];exact⟨s[k]'h,by rw[←qdr s k h];exact List.getElem_mem _,by simp[hb]⟩
theorem qdk(s:ByteArray)(k:Nat)(h:k<s.size):s.data.toList.take (k+1)=s.data.toList.take k++[s[k]'h]:=by
 rw[List.take_succ_eq_append_getElem (by simpa using h)];rfl
theorem q47(s:ByteArray)(pos:Nat)(h:pos<s.size)(hb:isD (s[pos]'h)=false):(Utf8.decode s pos).1<48∨57<(Utf8.decode s pos).1:=by
 by_cases ha:(s[pos]'h).toNat<128
 ·rw[decode_ascii s pos h ha]
  unfold isD at hb;simp at hb;show(s[pos]'h).toNat<48∨57<(s[pos]'h).toNat;omega
 ·have:=(decode_high s pos h (by omega)).1
  omega
theorem qqq(w:World)(s:ByteArray)(p:Nat):Below w.heap.size w (w.iter s p):=(Below.refl _ _).alloc (Nat.le_refl _) _
theorem qf6(s:ByteArray)(w:World):
  Calls Tryz.prog 55 #[.string s] w fun e w'=>e = .returned (.bool (qkd s.data.toList))∧Below w.heap.size w w':=by
 have HBE:=hid (fun p=>qqq w s p);have HBAD:=hid (q46 s);have HRB:=hid (q47 s);have HSN:=hid (qdk s)
 have HEND:Hid ((∀c ∈ s.data.toList.take s.size,isD c=true)→qkd s.data.toList = !s.data.toList.isEmpty):=hid fun h=>by
  rw[List.take_of_length_le (by simp)] at h;unfold qkd;rw[List.all_eq_true.2 h,Bool.and_true]
 generalize qkd s.data.toList=res at *;go_enter Tryz.func55,Tryz.ntmps55;go_wp2_with fail
 go_loopw [4] (fun _ wr=>∃pos:Nat,pos≤s.size∧wr=w.iter s pos∧Hid (∀c ∈ s.data.toList.take pos,isD c=true)) (fun _ w'=>s.size-w'.iterPos w.heap.size)
 case atStart=>exact⟨0,Nat.zero_le _,rfl,hid (by simp)⟩
 case round=>
  obtain⟨pos,hps,rfl,HD⟩:=hrel;by_cases hp:pos<s.size
  ·by_cases hd:isD (s[pos]'hp)=true
   ·have h1:48≤(s[pos]'hp).toNat∧(s[pos]'hp).toNat≤57:=by simpa [isD] using hd
    have hnx:∀ty,(Instr.next (.pointer (some ⟨w.heap.size,0,none⟩)) true ty).run Tryz.prog (w.iter s pos)=_:=fun ty=>run_next_ascii w s pos ty hp (by omega)
    have HD2:Hid (∀c ∈ s.data.toList.take (pos+1),isD c=true):=hid (by
     rw[HSN.out pos hp];intro c hc;rcases List.mem_append.1 hc with hc|hc
     ·exact HD.out c hc
     ·rw[List.mem_singleton.1 hc];exact hd)
    clear hd;generalize (s[pos]'hp).toNat=c at *;obtain⟨h48,h57⟩:=h1;have g1:decide ((c:Int)<48)=false:=decide_eq_false (by omega);have g2:decide ((57:Int)<(c:Int))=false:=decide_eq_false (by omega);go_wp2_with fail;go_roundw
    case rel=>exact⟨pos+1,by omega,rfl,HD2⟩
    case measure=>simp;omega
   ·have hd':isD (s[pos]'hp)=false:=by simpa using hd
    have hr:=HRB.out pos hp hd';have hres:res=false:=HBAD.out pos hp hd';have hnx:∀ty,(Instr.next (.pointer (some ⟨w.heap.size,0,none⟩)) true ty).run Tryz.prog (w.iter s pos)=_:=fun ty=>run_next_any w s pos ty hp;have HRES:=hid hres;clear hres hd hd';generalize (Utf8.decode s pos).2=wid at *;generalize (Utf8.decode s pos).1=c at *;rcases hr with hr|hr
    ·have g1:decide ((c:Int)<48)=true:=decide_eq_true (by omega)
     go_wp2_with fail;go_ret;exact⟨qbc HRES.out.symm,HBE.out _⟩
    ·have g1:decide ((c:Int)<48)=false:=decide_eq_false (by omega)
     have g2:decide ((57:Int)<(c:Int))=true:=decide_eq_true (by omega);go_wp2_with fail;go_ret;exact⟨qbc HRES.out.symm,HBE.out _⟩
  ·have hpe:pos=s.size:=by omega
   have HRES:Hid (res = !s.data.toList.isEmpty):=hid (HEND.out (by rw[←hpe];exact HD.out));have hnx:∀ty,(Instr.next (.pointer (some ⟨w.heap.size,0,none⟩)) true ty).run Tryz.prog (w.iter s pos)=_:=fun ty=>run_next_end w s pos ty hp;clear hpe;go_wp2_with fail;go_ret;refine⟨qbc ?_,HBE.out _⟩;rw[HRES.out];simp[ByteArray.toList_eq]
def qaw(a:Nat)(l:List UInt8):Nat:=l.foldl (fun a c=>a*10+(c.toNat-48)) a
theorem qic(a:Nat):qaw a []=a:=by unfold qaw;rw[List.foldl_nil]
theorem qgq(a:Nat)(c:UInt8)(l:List UInt8):qaw a (c::l)=qaw (a*10+(c.toNat-48)) l:=by unfold qaw;rw[List.foldl_cons]
theorem qko(a:Nat)(l r:List UInt8):qaw a (l++r)=qaw (qaw a l) r:=by unfold qaw;rw[List.foldl_append]
theorem qjs(l:List UInt8):∀a,qaw a l=a*10^l.length+qaw 0 l:=by
 induction l with
 | nil=>intro a;simp[qaw]
 | cons c l ih=>
  intro a;rw[qgq,qgq,ih,ih (0*10+(c.toNat-48)),List.length_cons,Nat.pow_succ,Nat.add_mul,Nat.zero_mul,Nat.zero_add,Nat.mul_assoc,Nat.mul_comm 10,Nat.add_assoc]
theorem q1g(l:List UInt8)(a:Nat):a≤qaw a l:=by
 rw[qjs];have:1≤10^l.length:=Nat.one_le_pow _ _ (by omega);have:=Nat.mul_le_mul_left a this;omega
theorem qmn(c:UInt8):isD c=true↔48≤c.toNat∧c.toNat≤57:=by unfold isD;exact decide_eq_true_iff
theorem qtc(d p v:Nat)(hd9:d≤9)(h1:v<p):d*p+v<p*10:=by
 have h3:d*p≤9*p:=Nat.mul_le_mul_right _ hd9;omega
theorem qfx:∀(l:List UInt8),(∀c ∈ l,isD c=true)→qaw 0 l<10^l.length
 | [],_=>by decide
 | c::l,h=>by
  have h1:=qfx l (fun c hc=>h c (List.mem_cons_of_mem _ hc));have h2:=(qmn c).1 (h c (List.mem_cons_self ..));rw[qgq,qjs,List.length_cons,Nat.pow_succ,Nat.zero_mul,Nat.zero_add];exact qtc _ _ _ (by omega) h1
end Go.Proofs.YtlkaldjmgamamaaGreatDoor
namespace Go.Proofs.YtlkaldjmgamamaaGreatDoor
set_option maxRecDepth 100000
def dig(d:Nat):UInt8:=UInt8.ofNat (48+d % 10)
theorem qi8(d:Nat):(dig d).toNat=48+d % 10:=by
 unfold dig;rw[UInt8.toNat_ofNat'];omega
theorem q7o(d:Nat):isD (dig d)=true:=by rw[qmn,qi8];omega
def qfh(n:Nat):List UInt8:=if n=0 then[] else qfh (n/10)++[dig n]
decreasing_by omega
theorem qcl:qfh 0=[]:=by rw[qfh];simp
theorem qdd{n:Nat}(h:0<n):qfh n=qfh (n/10)++[dig n]:=by rw[qfh,if_neg (by omega)]
def qam(n:Nat):List UInt8:=if n=0 then[48] else qfh n
def pd:Nat→Nat→List UInt8
 | 0,_=>[]
 | k+1,n=>dig n::pd k (n/10)
theorem qln:∀k n,(pd k n).length=k
 | 0,_=>rfl
 | k+1,n=>by rw[pd,List.length_cons,qln]
theorem qvl:∀k n,pd (k+1) n=pd k n++[dig (n/10^k)]
 | 0,n=>by simp[pd]
 | k+1,n=>by
  rw[pd,qvl k (n/10),pd];rw[Nat.div_div_eq_div_mul,Nat.pow_succ,Nat.mul_comm (10^k)];rfl
theorem qtd:∀k m n,pd (k+m) n=pd k n++pd m (n/10^k)
 | 0,m,n=>by simp[pd]
 | k+1,m,n=>by
  have e:k+1+m=(k+m)+1:=by omega
  rw[e,pd,pd,qtd k m,Nat.div_div_eq_div_mul,Nat.pow_succ,Nat.mul_comm (10^k)];rfl
theorem qrp{n m:Nat}(h:n % 10=m % 10):dig n=dig m:=by unfold dig;rw[h]
theorem q6x:∀k n m,n % 10^k=m % 10^k→pd k n=pd k m
 | 0,_,_,_=>rfl
 | k+1,n,m,h=>by
  have h1:n % 10=m % 10:=by
   have h2:∀x,x % 10^(k+1) % 10=x % 10:=fun x=>Nat.mod_mod_of_dvd x ⟨10^k,by rw[Nat.pow_succ,Nat.mul_comm]⟩;rw[←h2 n,←h2 m,h]
  have h3:n/10 % 10^k=m/10 % 10^k:=by
   have h2:∀x,x % 10^(k+1)/10=x/10 % 10^k:=fun x=>by
    rw[Nat.pow_succ,Nat.mul_comm,Nat.mod_mul_right_div_self]
   rw[←h2 n,←h2 m,h]
  rw[pd,pd,qrp h1,q6x k _ _ h3]
theorem qnd(n:Nat):(dig n==48)=true↔n % 10=0:=by
 rw[beq_iff_eq];constructor
 ·intro h
  have:=qi8 n;rw[h] at this;have e:(48:UInt8).toNat=48:=rfl;omega
 ·intro h
  unfold dig;rw[h];rfl
theorem qnt(p:UInt8→Bool)(l r:List UInt8):(l++r).dropWhile p=if l.dropWhile p=[] then r.dropWhile p else l.dropWhile p++r:=by
 induction l with
 | nil=>simp
 | cons x l ih=>
  rw[List.cons_append,List.dropWhile_cons,List.dropWhile_cons];cases p x
  ·simp
  ·simp[ih]
theorem q1h:∀k n,n<10^k→Lib.trimLeftB (pd k n).reverse 48=qfh n
 | 0,n,h=>by
  have:n=0:=by simpa using h
  subst this;rw[qcl];rfl
 | k+1,n,h=>by
  have h1:n/10<10^k:=by
   rw[Nat.div_lt_iff_lt_mul (by omega)];rw[Nat.pow_succ] at h;exact h
  have ih:=q1h k (n/10) h1;unfold Lib.trimLeftB at *;rw[pd,List.reverse_cons,qnt,ih];rcases Nat.eq_zero_or_pos n with e|e
  ·subst e
   rw[qcl,if_pos rfl];rfl
  ·rw[qdd e]
   rcases Nat.eq_zero_or_pos (n/10) with e2|e2
   ·rw[e2,qcl,if_pos rfl,List.dropWhile_cons]
    have:(dig n==48)=false:=by
     rw[Bool.eq_false_iff];intro hh;have:=(qnd n).1 hh;omega
    rw[this];rfl
   ·rw[if_neg]
    rw[qdd e2];simp
theorem qbl:∀(k n:Nat),n<10^k→(qfh n).length≤k
 | 0,n,h=>by
  have:n=0:=by simpa using h
  subst this;rw[qcl];exact Nat.le_refl _
 | k+1,n,h=>by
  rcases Nat.eq_zero_or_pos n with e|e
  ·subst e;rw[qcl];exact Nat.zero_le _
  ·rw[qdd e,List.length_append]
   have h1:n/10<10^k:=by
    rw[Nat.div_lt_iff_lt_mul (by omega)];rw[Nat.pow_succ] at h;exact h
   have:=qbl k _ h1;simp;omega
theorem qxg(n:Nat):∀c ∈ qfh n,isD c=true:=by
 induction n using Nat.strongRecOn with
 | _ n ih=>
  rcases Nat.eq_zero_or_pos n with e|e
  ·subst e;rw[qcl];simp
  ·rw[qdd e]
   intro c hc;rcases List.mem_append.1 hc with hc|hc
   ·exact ih (n/10) (by omega) c hc
   ·rw[List.mem_singleton.1 hc];exact q7o n
theorem qow(n:Nat):qaw 0 (qfh n)=n:=by
 induction n using Nat.strongRecOn with
 | _ n ih=>
  rcases Nat.eq_zero_or_pos n with e|e
  ·subst e;rw[qcl,qic]
  ·rw[qdd e,qko,ih (n/10) (by omega),qgq,qic,qi8]
   omega
theorem qe9(n:Nat):n<10^(qfh n).length:=by
 have:=qfx (qfh n) (qxg n)
 rwa [qow] at this
theorem qew(n:Nat):∀c ∈ qam n,isD c=true:=by
 unfold qam;split
 ·intro c hc;rw[List.mem_singleton.1 hc];rfl
 ·exact qxg n
theorem qgz(n:Nat):qam n≠[]:=by
 unfold qam;split
 ·simp
 ·rw[qdd (by omega)];simp
theorem qc9(n:Nat):qaw 0 (qam n)=n:=by
 unfold qam;split
 ·rename_i h;subst h;rfl
 ·exact qow n
theorem qy5(n:Nat):qkd (qam n)=true:=(qd6 _).2 ⟨qgz n,qew n⟩
theorem qqr{n m:Nat}(h:10^m≤n):m<(qam n).length:=by
 have h1:0<10^m:=Nat.pow_pos (by omega);unfold qam;rw[if_neg (by omega)];have h2:=qe9 n;exact(Nat.pow_lt_pow_iff_right (by omega:1<10)).1 (Nat.lt_of_le_of_lt h h2)
theorem qvm{L m n:Nat}(h:m/3*10+10<L)(h1:2^(L-1)≤n):10^m≤n:=by
 have h2:2^(10*(m/3+1))≤2^(L-1):=Nat.pow_le_pow_right (by omega) (by omega);rw[Nat.pow_mul] at h2;have h3:(10^3)^(m/3+1)≤(2^10)^(m/3+1):=Nat.pow_le_pow_left (by decide) _;rw[←Nat.pow_mul] at h3;have h4:10^m≤10^(3*(m/3+1)):=Nat.pow_le_pow_right (by omega) (by omega);exact Nat.le_trans h4 (Nat.le_trans h3 (Nat.le_trans h2 h1))
end Go.Proofs.YtlkaldjmgamamaaGreatDoor
namespace Go.Proofs.YtlkaldjmgamamaaGreatDoor
open Go.RowKit
set_option maxRecDepth 100000
theorem q7p{k x n L:Nat}(h:B64^k*x≤n)(h1:2^(L-1)≤x)(hL:1≤L):2^(k*64+L-1)≤n:=by
 have e:k*64+L-1=64*k+(L-1):=by omega
 rw[e,Nat.pow_add,Nat.pow_mul];have e2:2^64=B64:=by rw[qab]
 rw[e2];exact Nat.le_trans (Nat.mul_le_mul_left _ h1) h
def q9j(n:Nat)(w:World)(e:Ending)(w':World):Prop:=∃L:Nat,e = .returned (.int .i64 (L:Nat))∧(L=0∨2^(L-1)≤n)∧w=w'
theorem qlo(v:Value)(n:Nat)(w:World)(h:qar w v n)(hcap:wl n≤Cap):
  Calls Tryz.prog 173 #[v] w (q9j n w):=by
 rcases Nat.eq_zero_or_pos n with h0|h0
 ·subst h0
  unfold qar Wds at h;rw[qal] at h;obtain⟨_,p,c,rfl,h1,h2,_⟩:=h;clear hcap h1 h2;go_enter Tryz.func173,Tryz.ntmps173;go_wp2_with fail;go_ret;exact⟨0,rfl,.inl rfl,rfl⟩
 ·have hl:0<wl n:=by
   rcases Nat.eq_zero_or_pos (wl n) with e|e
   ·have:=qeq e;omega
   ·exact e
  obtain⟨l,p,c,rfl,hw,hv,hlen⟩:=qkj h;have hp:=qg8 (b:=B64) qae h0
  have hld:l=qag B64 n:=by
   obtain⟨_,p',c',he,_⟩:=h;obtain⟨hlb,_⟩:=hw
   have h1:qag B64 (val B64 l)=l:=by
    have h2:=hlen;unfold wl at h2
    exact(by
     refine qk9 B64 qae l hlb ?_;rintro z d hz rfl;have h3:=qiz B64 z (fun d hd=>hlb d (by rw[hz];exact List.mem_append_left _ hd));have h4:val B64 l=val B64 z:=by rw[hz,qd4];simp
     have h5:z.length=(qag B64 n).length-1:=by rw[←h2,hz];simp
     rw[←h5] at hp
     omega)
   rw[←h1,hv]
  obtain⟨k,hk⟩:∃k,l.length=k+1:=⟨l.length-1,by omega⟩;obtain⟨hlb,p',c',he,hc1,hc2,hcells⟩:=hw;cases he
  rcases hcells with h1|⟨b,o,rfl,hrow⟩
  ·omega
  have hcell:=hrow k (by omega);unfold wd at hcell;have hx:=qao (b:=B64) (by rw[qab];omega) hlb k
  have hxn:B64^k*l.getD k 0≤n:=by
   have h1:=qap B64 l k;rw[qa0 B64 l (k+1) (by omega),hv] at h1;omega
  have hx0:0<l.getD k 0:=by
   rcases List.eq_nil_or_concat l with e|⟨z,x,e⟩
   ·rw[e] at hk;simp at hk
   ·rw[List.concat_eq_append] at e
    have hz:z.length=k:=by rw[e] at hk;simpa using hk
    have h1:=qi1 qae (hld.symm.trans e);rw[e,←hz];simp;omega
  generalize l.getD k 0=x at *;rw[qab] at hx;obtain⟨hb1,hb2,_⟩:=qoo x hx0 (by rw[show(2:Nat)^64=18446744073709551616 from by decide];exact hx)
  have HLEN:Hid (∀w,Calls Tryz.prog 179 #[.int .u64 (x:Nat)] w fun e w'=>e = .returned (.int .i64 (Lib.bitLen x:Nat))∧w'=w):=hid fun w=>by
   have h:=Tryz.bits_Len64 (x:Int) w (by omega) (by omega);rw[Int.toNat_natCast] at h;exact h
  have hL64:Lib.bitLen x≤64:=by
   rcases Nat.lt_or_ge 64 (Lib.bitLen x) with h1|h1
   ·have h2:2^64≤2^(Lib.bitLen x-1):=Nat.pow_le_pow_right (by omega) (by omega)
    rw[show(2:Nat)^64=18446744073709551616 from by decide] at h2;omega
   ·exact h1
  generalize Lib.bitLen x=L at *;have HFIN:Hid (2^(k*64+L-1)≤n):=hid (q7p hxn hb2 hb1);rw[hk]
  have hk63:k<1099511627776:=by
   rw[←hlen,hk] at hcap;unfold Cap at hcap;omega
  have e1:((k+1:Nat):Int)-1=(k:Int):=by omega
  clear hb2 hxn hp hlb hc1 hc2 hrow hcap hlen hl hk h hld hv hx hx0;go_enter Tryz.func173,Tryz.ntmps173;go_wp2_with fail;refine(HLEN.out _).mono ?_;rintro e w' ⟨rfl,hw'⟩;rw[hw'];clear hw' HLEN;go_wp2_with fail;go_ret;exact⟨k*64+L,qa1 (by omega),.inr HFIN.out,rfl⟩
theorem q1i{w w':World}{base:Nat}{e:TypeId}{size:Nat}{v:Value}{n:Nat}{xs:List Value}(h:w.ownsRow base e size v n xs)(hb:Below w.heap.size w w'):w'.ownsRow base e size v n xs:=
 h.kept (row:=none) ⟨hb.os,hb.tape,hb.output,hb.size,fun k hk _=>hb.block k hk⟩ (by cases v.ownBlock<;>simp)
theorem qnu(w:World)(e:TypeId)(s:ByteArray):Below w.heap.size w (Lib.bytesWorld w e s):=by
 refine⟨rfl, ?_,rfl, ?_,fun k hk=>Lib.bytesWorld_at_old w e s k hk⟩
 ·show(w.drew).tape=w.tape
  rfl
 ·rw[Lib.bytesWorld_size];omega
theorem qte:∀(l:List UInt8) (a:Nat),(∀c ∈ l,isD c=true)→qaw a l≤18446744073709551615→Lib.parseUintM (2^64-1) a l = .ok (qaw a l)
 | [],a,_,_=>by rw[qic];rfl
 | c::r,a,h,hl=>by
  have hc:=(qmn c).1 (h c (List.mem_cons_self ..));rw[qgq] at hl ⊢;have hle:=q1g r (a*10+(c.toNat-48));unfold Lib.parseUintM;rw[if_pos hc,if_neg (by omega),if_neg (by omega)];exact qte r _ (fun x hx=>h x (List.mem_cons_of_mem _ hx)) hl
theorem q1j(l:List UInt8)(h:∀c ∈ l,isD c=true)(hne:l≠[])(hl:l.length≤19):Lib.parseUintB 64 l = .ok (qaw 0 l):=by
 unfold Lib.parseUintB;rw[if_neg hne];refine qte l 0 h ?_;have h1:=qfx l h;have h2:10^l.length≤10^19:=Nat.pow_le_pow_right (by omega) hl;have h3:10^19=10000000000000000000:=by decide
 omega
def uw(l:List Nat):List Value:=l.map fun x=>Value.int .u64 (x:Nat)
theorem q9k(l:List Nat)(k x:Nat):uw (l.set k x)=(uw l).set k (.int .u64 (x:Nat)):=by unfold uw;rw[List.map_set]
theorem q7q(l:List Nat)(x:Nat):uw (l++[x])=uw l++[.int .u64 (x:Nat)]:=by unfold uw;simp
theorem q9l(l:List Nat)(k:Nat)(h:k<l.length):(uw l)[k]? = some (.int .u64 (l.getD k 0:Nat)):=by unfold uw;simp[h]
theorem q7r{B p S L m m0 lo hi x P:Nat}(h:S+p*m=L*P+m0)(hy:lo+B*hi=x*P+m):S+p*lo+p*B*hi=(L+p*x)*P+m0:=by
 have e:=congrArg (p * ·) hy;simp only[Nat.mul_add] at e;rw[Nat.add_mul,Nat.mul_assoc p x,Nat.mul_assoc p B];omega
theorem q7s{l S:List Nat}{m m0 P v:Nat}(hl:l=qag B64 v)(hlen:S.length=l.length)(hS:∀d ∈ S,d<B64)(hm:m<B64)(hP:1≤P)
  (h:val B64 S+B64^l.length*m=v*P+m0):qag B64 (v*P+m0)=if 0<m then S++[m] else S:=by
 by_cases h0:0<m
 ·rw[if_pos h0,←h,←hlen,←qd4]
  refine qk9 B64 qae _ ?_ ?_
  ·intro d hd
   rcases List.mem_append.1 hd with hd|hd
   ·exact hS d hd
   ·rw[List.mem_singleton.1 hd];exact hm
  ·intro z d hz
   have:=List.append_inj_right' hz rfl;have:m=d:=by simpa using this
   omega
 ·rw[if_neg h0]
  have:m=0:=by omega
  subst this;rw[←h,Nat.mul_zero,Nat.add_zero];refine qk9 B64 qae _ hS ?_;rintro z d hz rfl
  have hv0:0<v:=by
   rcases Nat.eq_zero_or_pos v with e|e
   ·rw[e,qal] at hl
    rw[hl,hz] at hlen;simp at hlen
   ·exact e
  have h1:=qg8 (b:=B64) qae hv0;rw[←hl,←hlen,hz] at h1;simp at h1;have h2:=qiz B64 z (fun d hd=>hS d (by rw[hz];exact List.mem_append_left _ hd));have h3:val B64 S=val B64 z:=by rw[hz,qd4];simp
  have h4:v*1≤v*P:=Nat.mul_le_mul_left _ hP;omega
theorem qne(w:World)(a:Value)(t:TypeId):∀j u,[a][j]? = some u→(w.alloc (.cells #[a] t)).cell? ((⟨w.heap.size,0,none⟩:Addr).add j)=some u:=by
 intro j u hj
 match j,hj with
 | 0,hj=>simp at hj;subst hj;simp[Addr.add]
 | j+1,hj=>simp at hj
theorem q48(t:ByteArray)(w:World)(h:∀c ∈ t.data.toList,isD c=true)(hne:t.data.toList≠[])(hl:t.data.toList.length≤19):
  Calls Tryz.prog 158 #[.string t,.int .i64 10,.int .i64 64] w fun e w'=>e = .returned (.tuple #[.int .u64 (qaw 0 t.data.toList:Nat),.nilIface])∧Below w.heap.size w w':=by
 refine(Tryz.strconv_ParseUint_10_at64_ok t ?_ _ (q1j _ h hne hl) w).mono ?_
 ·simp at hl;omega
 ·rintro e w' ⟨rfl,rfl|rfl⟩
  ·exact⟨rfl,Below.refl _ _⟩
  ·exact⟨rfl,qnu w _ t⟩
end Go.Proofs.YtlkaldjmgamamaaGreatDoor
