/- Texts of decimal digits: AreDigits; what a text of digits says. -/
import Derived.Test.YthjagoogkkgelaaGreatDoorMBase
import Derived.Laws.RangeString
import Derived.Laws.RangeAny
import Derived.Laws.Strings
import Derived.Outline
import Derived.Lib.TrimByte
import Derived.Test.YthjagoogkkgelaaGreatDoorMDiv64
import Derived.Test.YthjagoogkkgelaaGreatDoorShelf
import Derived.Test.YthjagoogkkgelaaGreatDoorMMul
import Derived.Test.YthjagoogkkgelaaGreatDoorShelfB
import Derived.Lib.ParseIntB
import Derived.Lib.ConvBytes
import Derived.Lib.UnsafeStr
import Derived.Lib.Split
import Derived.Laws.MakeOwn
import Derived.Laws.Strings3
import Derived.Test.YthjagoogkkgelaaGreatDoorMDivWord
import Derived.RegionTactic
import Derived.ChangeAlike
import Derived.Laws.IdiomStrings
import Derived.Laws.BytesArg
set_option linter.all false
namespace Go.Proofs.YthjagoogkkgelaaGreatDoor
open Go.RowKit
set_option maxRecDepth 100000
set_option maxHeartbeats 4000000
def isD(c:UInt8):Bool:=decide (48≤c.toNat∧c.toNat≤57)
def qkv(l:List UInt8):Bool := !l.isEmpty&&l.all isD
theorem qez(l:List UInt8):qkv l=true↔l≠[]∧∀c ∈ l,isD c=true:=by
 unfold qkv;cases l<;>simp
theorem qdr(s:ByteArray)(k:Nat)(h:k<s.size):s.data.toList[k]'(by simpa using h)=s[k]'h:=rfl
theorem q5u(s:ByteArray)(k:Nat)(h:k<s.size)(hb:isD (s[k]'h)=false):qkv s.data.toList=false:=by
 unfold qkv;rw[Bool.and_eq_false_iff]
 right
 rw[List.all_eq_false];exact⟨s[k]'h,by rw[←qdr s k h];exact List.getElem_mem _,by simp[hb]⟩
theorem qdk(s:ByteArray)(k:Nat)(h:k<s.size):s.data.toList.take (k+1)=s.data.toList.take k++[s[k]'h]:=by
 rw[List.take_succ_eq_append_getElem (by simpa using h)];rfl
theorem q5v(s:ByteArray)(pos:Nat)(h:pos<s.size)(hb:isD (s[pos]'h)=false):(Utf8.decode s pos).1<48∨57<(Utf8.decode s pos).1:=by
 by_cases ha:(s[pos]'h).toNat<128
 ·rw[decode_ascii s pos h ha]
  unfold isD at hb;simp at hb;show(s[pos]'h).toNat<48∨57<(s[pos]'h).toNat;omega
 ·have:=(decode_high s pos h (by omega)).1
  omega
theorem qq8(w:World)(s:ByteArray)(p:Nat):Below w.heap.size w (w.iter s p):=(Below.refl _ _).alloc (Nat.le_refl _) _
theorem qf8(s:ByteArray)(w:World):
  Calls Tryz.prog 54 #[.string s] w fun e w'=>e = .returned (.bool (qkv s.data.toList))∧Below w.heap.size w w':=by
 have HBE:=hid (fun p=>qq8 w s p);have HBAD:=hid (q5u s);have HRB:=hid (q5v s);have HSN:=hid (qdk s)
 have HEND:Hid ((∀c ∈ s.data.toList.take s.size,isD c=true)→qkv s.data.toList = !s.data.toList.isEmpty):=hid fun h=>by
  rw[List.take_of_length_le (by simp)] at h;unfold qkv;rw[List.all_eq_true.2 h,Bool.and_true]
 generalize qkv s.data.toList=res at *;go_enter Tryz.func54,Tryz.ntmps54;go_wp2_with fail
 go_loopw [4] (fun _ wr=>∃pos:Nat,pos≤s.size∧wr=w.iter s pos∧Hid (∀c ∈ s.data.toList.take pos,isD c=true)) (fun _ w'=>s.size-w'.iterPos w.heap.size)
 case atStart=>exact⟨0,Nat.zero_le _,rfl,hid (by simp)⟩
 case round=>
  obtain⟨pos,hps,rfl,HD⟩:=hrel;by_cases hp:pos<s.size
  ·by_cases hd:isD (s[pos]'hp)=true
   ·have h1:48≤(s[pos]'hp).toNat∧(s[pos]'hp).toNat≤57:=by simpa [isD] using hd
    have hnx:∀ty,(Instr.next (.pointer (some ⟨w.heap.size,0,none⟩)) true ty).run Tryz.prog (w.iter s pos)=_:=fun ty=>run_next_ascii w s pos ty hp (by omega)
    have HD2:Hid (∀c ∈ s.data.toList.take (pos+1),isD c=true):=hid (by
     rw[HSN.out pos hp];intro c hc;rcases List.mem_append.1 hc with hc|hc
     ·exact HD.out c hc
     ·rw[List.mem_singleton.1 hc];exact hd)
    clear hd;generalize (s[pos]'hp).toNat=c at *;obtain⟨h48,h57⟩:=h1;have g1:decide ((c:Int)<48)=false:=decide_eq_false (by omega);have g2:decide ((57:Int)<(c:Int))=false:=decide_eq_false (by omega);go_wp2_with fail;go_roundw
    case rel=>exact⟨pos+1,by omega,rfl,HD2⟩
    case measure=>simp;omega
   ·have hd':isD (s[pos]'hp)=false:=by simpa using hd
    have hr:=HRB.out pos hp hd';have hres:res=false:=HBAD.out pos hp hd';have hnx:∀ty,(Instr.next (.pointer (some ⟨w.heap.size,0,none⟩)) true ty).run Tryz.prog (w.iter s pos)=_:=fun ty=>run_next_any w s pos ty hp;have HRES:=hid hres;clear hres hd hd';generalize (Utf8.decode s pos).2=wid at *;generalize (Utf8.decode s pos).1=c at *;rcases hr with hr|hr
    ·have g1:decide ((c:Int)<48)=true:=decide_eq_true (by omega)
     go_wp2_with fail;go_ret;exact⟨qbc HRES.out.symm,HBE.out _⟩
    ·have g1:decide ((c:Int)<48)=false:=decide_eq_false (by omega)
     have g2:decide ((57:Int)<(c:Int))=true:=decide_eq_true (by omega);go_wp2_with fail;go_ret;exact⟨qbc HRES.out.symm,HBE.out _⟩
  ·have hpe:pos=s.size:=by omega
   have HRES:Hid (res = !s.data.toList.isEmpty):=hid (HEND.out (by rw[←hpe];exact HD.out));have hnx:∀ty,(Instr.next (.pointer (some ⟨w.heap.size,0,none⟩)) true ty).run Tryz.prog (w.iter s pos)=_:=fun ty=>run_next_end w s pos ty hp;clear hpe;go_wp2_with fail;go_ret;refine⟨qbc ?_,HBE.out _⟩;rw[HRES.out];simp[ByteArray.toList_eq]
def qa0(a:Nat)(l:List UInt8):Nat:=l.foldl (fun a c=>a*10+(c.toNat-48)) a
theorem qic(a:Nat):qa0 a []=a:=by unfold qa0;rw[List.foldl_nil]
theorem qgs(a:Nat)(c:UInt8)(l:List UInt8):qa0 a (c::l)=qa0 (a*10+(c.toNat-48)) l:=by unfold qa0;rw[List.foldl_cons]
theorem qkw(a:Nat)(l r:List UInt8):qa0 a (l++r)=qa0 (qa0 a l) r:=by unfold qa0;rw[List.foldl_append]
theorem qjy(l:List UInt8):∀a,qa0 a l=a*10^l.length+qa0 0 l:=by
 induction l with
 | nil=>intro a;simp[qa0]
 | cons c l ih=>
  intro a;rw[qgs,qgs,ih,ih (0*10+(c.toNat-48)),List.length_cons,Nat.pow_succ,Nat.add_mul,Nat.zero_mul,Nat.zero_add,Nat.mul_assoc,Nat.mul_comm 10,Nat.add_assoc]
theorem q1w(l:List UInt8)(a:Nat):a≤qa0 a l:=by
 rw[qjy];have:1≤10^l.length:=Nat.one_le_pow _ _ (by omega);have:=Nat.mul_le_mul_left a this;omega
theorem qmw(c:UInt8):isD c=true↔48≤c.toNat∧c.toNat≤57:=by unfold isD;exact decide_eq_true_iff
theorem qtl(d p v:Nat)(hd9:d≤9)(h1:v<p):d*p+v<p*10:=by
 have h3:d*p≤9*p:=Nat.mul_le_mul_right _ hd9;omega
theorem qfz:∀(l:List UInt8),(∀c ∈ l,isD c=true)→qa0 0 l<10^l.length
 | [],_=>by decide
 | c::l,h=>by
  have h1:=qfz l (fun c hc=>h c (List.mem_cons_of_mem _ hc));have h2:=(qmw c).1 (h c (List.mem_cons_self ..));rw[qgs,qjy,List.length_cons,Nat.pow_succ,Nat.zero_mul,Nat.zero_add];exact qtl _ _ _ (by omega) h1
end Go.Proofs.YthjagoogkkgelaaGreatDoor
namespace Go.Proofs.YthjagoogkkgelaaGreatDoor
set_option maxRecDepth 100000
set_option maxHeartbeats 4000000
def dig(d:Nat):UInt8:=UInt8.ofNat (48+d % 10)
theorem qi9(d:Nat):(dig d).toNat=48+d % 10:=by
 unfold dig;rw[UInt8.toNat_ofNat'];omega
theorem q8t(d:Nat):isD (dig d)=true:=by rw[qmw,qi9];omega
def qf4(n:Nat):List UInt8:=if n=0 then[] else qf4 (n/10)++[dig n]
decreasing_by omega
theorem qcz:qf4 0=[]:=by rw[qf4];simp
theorem qds{n:Nat}(h:0<n):qf4 n=qf4 (n/10)++[dig n]:=by rw[qf4,if_neg (by omega)]
def qaw(n:Nat):List UInt8:=if n=0 then[48] else qf4 n
def pd:Nat→Nat→List UInt8
 | 0,_=>[]
 | k+1,n=>dig n::pd k (n/10)
theorem qls:∀k n,(pd k n).length=k
 | 0,_=>rfl
 | k+1,n=>by rw[pd,List.length_cons,qls]
theorem qvz:∀k n,pd (k+1) n=pd k n++[dig (n/10^k)]
 | 0,n=>by simp[pd]
 | k+1,n=>by
  rw[pd,qvz k (n/10),pd];rw[Nat.div_div_eq_div_mul,Nat.pow_succ,Nat.mul_comm (10^k)];rfl
theorem qtm:∀k m n,pd (k+m) n=pd k n++pd m (n/10^k)
 | 0,m,n=>by simp[pd]
 | k+1,m,n=>by
  have e:k+1+m=(k+m)+1:=by omega
  rw[e,pd,pd,qtm k m,Nat.div_div_eq_div_mul,Nat.pow_succ,Nat.mul_comm (10^k)];rfl
theorem qr4{n m:Nat}(h:n % 10=m % 10):dig n=dig m:=by unfold dig;rw[h]
theorem q70:∀k n m,n % 10^k=m % 10^k→pd k n=pd k m
 | 0,_,_,_=>rfl
 | k+1,n,m,h=>by
  have h1:n % 10=m % 10:=by
   have h2:∀x,x % 10^(k+1) % 10=x % 10:=fun x=>Nat.mod_mod_of_dvd x ⟨10^k,by rw[Nat.pow_succ,Nat.mul_comm]⟩;rw[←h2 n,←h2 m,h]
  have h3:n/10 % 10^k=m/10 % 10^k:=by
   have h2:∀x,x % 10^(k+1)/10=x/10 % 10^k:=fun x=>by
    rw[Nat.pow_succ,Nat.mul_comm,Nat.mod_mul_right_div_self]
   rw[←h2 n,←h2 m,h]
  rw[pd,pd,qr4 h1,q70 k _ _ h3]
theorem qtn(n:Nat):(dig n==48)=true↔n % 10=0:=by
 rw[beq_iff_eq];constructor
 ·intro h
  have:=qi9 n;rw[h] at this;have e:(48:UInt8).toNat=48:=rfl;omega
 ·intro h
  unfold dig;rw[h];rfl
theorem qn6(p:UInt8→Bool)(l r:List UInt8):(l++r).dropWhile p=if l.dropWhile p=[] then r.dropWhile p else l.dropWhile p++r:=by
 induction l with
 | nil=>simp
 | cons x l ih=>
  rw[List.cons_append,List.dropWhile_cons,List.dropWhile_cons];cases p x
  ·simp
  ·simp[ih]
theorem q1x:∀k n,n<10^k→Lib.trimLeftB (pd k n).reverse 48=qf4 n
 | 0,n,h=>by
  have:n=0:=by simpa using h
  subst this;rw[qcz];rfl
 | k+1,n,h=>by
  have h1:n/10<10^k:=by
   rw[Nat.div_lt_iff_lt_mul (by omega)];rw[Nat.pow_succ] at h;exact h
  have ih:=q1x k (n/10) h1;unfold Lib.trimLeftB at *;rw[pd,List.reverse_cons,qn6,ih];rcases Nat.eq_zero_or_pos n with e|e
  ·subst e
   rw[qcz,if_pos rfl];rfl
  ·rw[qds e]
   rcases Nat.eq_zero_or_pos (n/10) with e2|e2
   ·rw[e2,qcz,if_pos rfl,List.dropWhile_cons]
    have:(dig n==48)=false:=by
     rw[Bool.eq_false_iff];intro hh;have:=(qtn n).1 hh;omega
    rw[this];rfl
   ·rw[if_neg]
    rw[qds e2];simp
theorem qbn:∀(k n:Nat),n<10^k→(qf4 n).length≤k
 | 0,n,h=>by
  have:n=0:=by simpa using h
  subst this;rw[qcz];exact Nat.le_refl _
 | k+1,n,h=>by
  rcases Nat.eq_zero_or_pos n with e|e
  ·subst e;rw[qcz];exact Nat.zero_le _
  ·rw[qds e,List.length_append]
   have h1:n/10<10^k:=by
    rw[Nat.div_lt_iff_lt_mul (by omega)];rw[Nat.pow_succ] at h;exact h
   have:=qbn k _ h1;simp;omega
theorem qxx(n:Nat):∀c ∈ qf4 n,isD c=true:=by
 induction n using Nat.strongRecOn with
 | _ n ih=>
  rcases Nat.eq_zero_or_pos n with e|e
  ·subst e;rw[qcz];simp
  ·rw[qds e]
   intro c hc;rcases List.mem_append.1 hc with hc|hc
   ·exact ih (n/10) (by omega) c hc
   ·rw[List.mem_singleton.1 hc];exact q8t n
theorem qto(n:Nat):qa0 0 (qf4 n)=n:=by
 induction n using Nat.strongRecOn with
 | _ n ih=>
  rcases Nat.eq_zero_or_pos n with e|e
  ·subst e;rw[qcz,qic]
  ·rw[qds e,qkw,ih (n/10) (by omega),qgs,qic,qi9]
   omega
theorem qgt(n:Nat):n<10^(qf4 n).length:=by
 have:=qfz (qf4 n) (qxx n)
 rwa [qto] at this
theorem qhs(n:Nat):∀c ∈ qaw n,isD c=true:=by
 unfold qaw;split
 ·intro c hc;rw[List.mem_singleton.1 hc];rfl
 ·exact qxx n
theorem qjz(n:Nat):qaw n≠[]:=by
 unfold qaw;split
 ·simp
 ·rw[qds (by omega)];simp
theorem qgk(n:Nat):qa0 0 (qaw n)=n:=by
 unfold qaw;split
 ·rename_i h;subst h;rfl
 ·exact qto n
theorem qq9{n m:Nat}(h:10^m≤n):m<(qaw n).length:=by
 have h1:0<10^m:=Nat.pow_pos (by omega);unfold qaw;rw[if_neg (by omega)];have h2:=qgt n;exact(Nat.pow_lt_pow_iff_right (by omega:1<10)).1 (Nat.lt_of_le_of_lt h h2)
theorem qv0{L m n:Nat}(h:m/3*10+10<L)(h1:2^(L-1)≤n):10^m≤n:=by
 have h2:2^(10*(m/3+1))≤2^(L-1):=Nat.pow_le_pow_right (by omega) (by omega);rw[Nat.pow_mul] at h2;have h3:(10^3)^(m/3+1)≤(2^10)^(m/3+1):=Nat.pow_le_pow_left (by decide) _;rw[←Nat.pow_mul] at h3;have h4:10^m≤10^(3*(m/3+1)):=Nat.pow_le_pow_right (by omega) (by omega);exact Nat.le_trans h4 (Nat.le_trans h3 (Nat.le_trans h2 h1))
end Go.Proofs.YthjagoogkkgelaaGreatDoor
namespace Go.Proofs.YthjagoogkkgelaaGreatDoor
open Go.RowKit
set_option maxRecDepth 100000
set_option maxHeartbeats 4000000
theorem q8u{k x n L:Nat}(h:B64^k*x≤n)(h1:2^(L-1)≤x)(hL:1≤L):2^(k*64+L-1)≤n:=by
 have e:k*64+L-1=64*k+(L-1):=by omega
 rw[e,Nat.pow_add,Nat.pow_mul];have e2:2^64=B64:=by rw[qab]
 rw[e2];exact Nat.le_trans (Nat.mul_le_mul_left _ h1) h
def zav(n:Nat)(w:World)(e:Ending)(w':World):Prop:=∃L:Nat,e = .returned (.int .i64 (L:Nat))∧(L=0∨2^(L-1)≤n)∧w=w'
theorem qlt(v:Value)(n:Nat)(w:World)(h:qaq w v n)(hcap:wl n≤Cap):
  Calls Tryz.prog 200 #[v] w (zav n w):=by
 rcases Nat.eq_zero_or_pos n with h0|h0
 ·subst h0
  unfold qaq Wds at h;rw[qam] at h;obtain⟨_,p,c,rfl,h1,h2,_⟩:=h;clear hcap h1 h2;go_enter Tryz.func200,Tryz.ntmps200;go_wp2_with fail;go_ret;exact⟨0,rfl,.inl rfl,rfl⟩
 ·have hl:0<wl n:=by
   rcases Nat.eq_zero_or_pos (wl n) with e|e
   ·have:=qeu e;omega
   ·exact e
  obtain⟨l,p,c,rfl,hw,hv,hlen⟩:=qkr h;have hp:=qhe (b:=B64) qae h0
  have hld:l=qaf B64 n:=by
   obtain⟨_,p',c',he,_⟩:=h;obtain⟨hlb,_⟩:=hw
   have h1:qaf B64 (val B64 l)=l:=by
    have h2:=hlen;unfold wl at h2
    exact(by
     refine qld B64 qae l hlb ?_;rintro z d hz rfl;have h3:=qi1 B64 z (fun d hd=>hlb d (by rw[hz];exact List.mem_append_left _ hd));have h4:val B64 l=val B64 z:=by rw[hz,qd9];simp
     have h5:z.length=(qaf B64 n).length-1:=by rw[←h2,hz];simp
     rw[←h5] at hp
     omega)
   rw[←h1,hv]
  obtain⟨k,hk⟩:∃k,l.length=k+1:=⟨l.length-1,by omega⟩;obtain⟨hlb,p',c',he,hc1,hc2,hcells⟩:=hw;cases he
  rcases hcells with h1|⟨b,o,rfl,hrow⟩
  ·omega
  have hcell:=hrow k (by omega);unfold wd at hcell;have hx:=qao (b:=B64) (by rw[qab];omega) hlb k
  have hxn:B64^k*l.getD k 0≤n:=by
   have h1:=qap B64 l k;rw[qa5 B64 l (k+1) (by omega),hv] at h1;omega
  have hx0:0<l.getD k 0:=by
   rcases List.eq_nil_or_concat l with e|⟨z,x,e⟩
   ·rw[e] at hk;simp at hk
   ·rw[List.concat_eq_append] at e
    have hz:z.length=k:=by rw[e] at hk;simpa using hk
    have h1:=qi3 qae (hld.symm.trans e);rw[e,←hz];simp;omega
  generalize l.getD k 0=x at *;rw[qab] at hx;obtain⟨hb1,hb2,_⟩:=qo1 x hx0 (by rw[show(2:Nat)^64=18446744073709551616 from by decide];exact hx)
  have HLEN:Hid (∀w,Calls Tryz.prog 173 #[.int .u64 (x:Nat)] w fun e w'=>e = .returned (.int .i64 (Lib.bitLen x:Nat))∧w'=w):=hid fun w=>by
   have h:=Tryz.bits_Len64 (x:Int) w (by omega) (by omega);rw[Int.toNat_natCast] at h;exact h
  have hL64:Lib.bitLen x≤64:=by
   rcases Nat.lt_or_ge 64 (Lib.bitLen x) with h1|h1
   ·have h2:2^64≤2^(Lib.bitLen x-1):=Nat.pow_le_pow_right (by omega) (by omega)
    rw[show(2:Nat)^64=18446744073709551616 from by decide] at h2;omega
   ·exact h1
  generalize Lib.bitLen x=L at *;have HFIN:Hid (2^(k*64+L-1)≤n):=hid (q8u hxn hb2 hb1);rw[hk]
  have hk63:k<1099511627776:=by
   rw[←hlen,hk] at hcap;unfold Cap at hcap;omega
  have e1:((k+1:Nat):Int)-1=(k:Int):=by omega
  clear hb2 hxn hp hlb hc1 hc2 hrow hcap hlen hl hk h hld hv hx hx0;go_enter Tryz.func200,Tryz.ntmps200;go_wp2_with fail;refine(HLEN.out _).mono ?_;rintro e w' ⟨rfl,hw'⟩;rw[hw'];clear hw' HLEN;go_wp2_with fail;go_ret;exact⟨k*64+L,qa1 (by omega),.inr HFIN.out,rfl⟩
theorem qpa{w w':World}{base:Nat}{e:TypeId}{size:Nat}{v:Value}{n:Nat}{xs:List Value}(h:w.ownsRow base e size v n xs)(hb:Below w.heap.size w w'):w'.ownsRow base e size v n xs:=
 h.kept (row:=none) ⟨hb.os,hb.tape,hb.output,hb.size,fun k hk _=>hb.block k hk⟩ (by cases v.ownBlock<;>simp)
theorem qn7(w:World)(e:TypeId)(s:ByteArray):Below w.heap.size w (Lib.bytesWorld w e s):=by
 refine⟨rfl, ?_,rfl, ?_,fun k hk=>Lib.bytesWorld_at_old w e s k hk⟩
 ·show(w.drew).tape=w.tape
  rfl
 ·rw[Lib.bytesWorld_size];omega
theorem qtp:∀(l:List UInt8) (a:Nat),(∀c ∈ l,isD c=true)→qa0 a l≤18446744073709551615→Lib.parseUintM (2^64-1) a l = .ok (qa0 a l)
 | [],a,_,_=>by rw[qic];rfl
 | c::r,a,h,hl=>by
  have hc:=(qmw c).1 (h c (List.mem_cons_self ..));rw[qgs] at hl ⊢;have hle:=q1w r (a*10+(c.toNat-48));unfold Lib.parseUintM;rw[if_pos hc,if_neg (by omega),if_neg (by omega)];exact qtp r _ (fun x hx=>h x (List.mem_cons_of_mem _ hx)) hl
theorem q1y(l:List UInt8)(h:∀c ∈ l,isD c=true)(hne:l≠[])(hl:l.length≤19):Lib.parseUintB 64 l = .ok (qa0 0 l):=by
 unfold Lib.parseUintB;rw[if_neg hne];refine qtp l 0 h ?_;have h1:=qfz l h;have h2:10^l.length≤10^19:=Nat.pow_le_pow_right (by omega) hl;have h3:10^19=10000000000000000000:=by decide
 omega
def uw(l:List Nat):List Value:=l.map fun x=>Value.int .u64 (x:Nat)
theorem zaw(l:List Nat)(k x:Nat):uw (l.set k x)=(uw l).set k (.int .u64 (x:Nat)):=by unfold uw;rw[List.map_set]
theorem q8v(l:List Nat)(x:Nat):uw (l++[x])=uw l++[.int .u64 (x:Nat)]:=by unfold uw;simp
theorem zax(l:List Nat)(k:Nat)(h:k<l.length):(uw l)[k]? = some (.int .u64 (l.getD k 0:Nat)):=by unfold uw;simp[h]
theorem q8w{B p S L m m0 lo hi x P:Nat}(h:S+p*m=L*P+m0)(hy:lo+B*hi=x*P+m):S+p*lo+p*B*hi=(L+p*x)*P+m0:=by
 have e:=congrArg (p * ·) hy;simp only[Nat.mul_add] at e;rw[Nat.add_mul,Nat.mul_assoc p x,Nat.mul_assoc p B];omega
theorem q8x{l S:List Nat}{m m0 P v:Nat}(hl:l=qaf B64 v)(hlen:S.length=l.length)(hS:∀d ∈ S,d<B64)(hm:m<B64)(hP:1≤P)
  (h:val B64 S+B64^l.length*m=v*P+m0):qaf B64 (v*P+m0)=if 0<m then S++[m] else S:=by
 by_cases h0:0<m
 ·rw[if_pos h0,←h,←hlen,←qd9]
  refine qld B64 qae _ ?_ ?_
  ·intro d hd
   rcases List.mem_append.1 hd with hd|hd
   ·exact hS d hd
   ·rw[List.mem_singleton.1 hd];exact hm
  ·intro z d hz
   have:=List.append_inj_right' hz rfl;have:m=d:=by simpa using this
   omega
 ·rw[if_neg h0]
  have:m=0:=by omega
  subst this;rw[←h,Nat.mul_zero,Nat.add_zero];refine qld B64 qae _ hS ?_;rintro z d hz rfl
  have hv0:0<v:=by
   rcases Nat.eq_zero_or_pos v with e|e
   ·rw[e,qam] at hl
    rw[hl,hz] at hlen;simp at hlen
   ·exact e
  have h1:=qhe (b:=B64) qae hv0;rw[←hl,←hlen,hz] at h1;simp at h1;have h2:=qi1 B64 z (fun d hd=>hS d (by rw[hz];exact List.mem_append_left _ hd));have h3:val B64 S=val B64 z:=by rw[hz,qd9];simp
  have h4:v*1≤v*P:=Nat.mul_le_mul_left _ hP;omega
theorem qnq(w:World)(a:Value)(t:TypeId):∀j u,[a][j]? = some u→(w.alloc (.cells #[a] t)).cell? ((⟨w.heap.size,0,none⟩:Addr).add j)=some u:=by
 intro j u hj
 match j,hj with
 | 0,hj=>simp at hj;subst hj;simp[Addr.add]
 | j+1,hj=>simp at hj
theorem q5w(t:ByteArray)(w:World)(h:∀c ∈ t.data.toList,isD c=true)(hne:t.data.toList≠[])(hl:t.data.toList.length≤19):
  Calls Tryz.prog 153 #[.string t,.int .i64 10,.int .i64 64] w fun e w'=>e = .returned (.tuple #[.int .u64 (qa0 0 t.data.toList:Nat),.nilIface])∧Below w.heap.size w w':=by
 refine(Tryz.strconv_ParseUint_10_at64_ok t ?_ _ (q1y _ h hne hl) w).mono ?_
 ·simp at hl;omega
 ·rintro e w' ⟨rfl,rfl|rfl⟩
  ·exact⟨rfl,Below.refl _ _⟩
  ·exact⟨rfl,qn7 w _ t⟩
def qmx(n:Nat)(f:Nat→Value)(i q:Nat):Value:=if q<i∨n≤q+i then f (n-1-q) else f q
theorem qzi(n:Nat)(f:Nat→Value)(q:Nat)(h:q<n):qmx n f 0 q=f q:=by
 unfold qmx;rw[if_neg (by omega)]
theorem q1z{n i:Nat}(f:Nat→Value)(h:n≤2*i+1)(q:Nat)(hq:q<n):qmx n f i q=f (n-1-q):=by
 unfold qmx;by_cases e:q<i∨n≤q+i
 ·rw[if_pos e]
 ·rw[if_neg e];congr 1;omega
theorem qzj{n i:Nat}(f:Nat→Value)(h:2*i+1<n)(q:Nat):qmx n f (i+1) q=if q=n-1-i then qmx n f i i else if q=i then qmx n f i (n-1-i) else qmx n f i q:=by
 unfold qmx;by_cases e1:q=n-1-i
 ·rw[if_pos e1,if_pos (by omega),if_neg (by omega)];congr 1;omega
 ·rw[if_neg e1]
  by_cases e2:q=i
  ·rw[if_pos e2,if_pos (by omega),if_neg (by omega)];congr 1;omega
  ·rw[if_neg e2]
   by_cases e3:q<i∨n≤q+i
   ·rw[if_pos e3,if_pos (by omega)]
   ·rw[if_neg e3,if_neg (by omega)]
theorem qv1(g n c:Nat)(f:Nat→Value)(w:World)(hn:n≤9223372036854775807)(ho:Own w g n f)(h1:∀q,q<n→∃x:Int,f q = .int .u8 x):
  Calls Tryz.prog 201 #[.slice (some ⟨g,0,none⟩) n c] w fun e w'=>e = .returned (.tuple #[])∧Own w' g n (fun q=>f (n-1-q))∧qfh g w w':=by
 have HO:=hid ho;have H1:=hid h1;clear ho h1;go_enter Tryz.func201,Tryz.ntmps201;go_wp2_with fail
 go_loopw [2,3] (fun a b wr=>∃i:Nat,2*i≤n+1∧a = .int .i64 i∧b = .int .i64 ((n:Int)-1-i)∧Hid (Own wr g n (qmx n f i))∧Hid (qfh g w wr)) (fun a _ _=>n-(intOf a).toNat)
 case atStart=>exact⟨0,by omega,rfl,by go_num,hid (HO.out.congr fun q hq=>(qzi n f q hq).symm),hid (qfh.refl _ _)⟩
 case round=>
  obtain⟨i,hi,rfl,rfl,HR,HB⟩:=hrel;by_cases hlt:2*i+1<n
  ·obtain⟨j,hj⟩:∃j,j=n-1-i:=⟨_,rfl⟩
   have hE:(n:Int)-1-i=(j:Int):=by omega
   have hij:i<j:=by omega
   have hjn:j<n:=by omega
   have hin:i<n:=by omega
   have hne:¬i=j:=by omega
   obtain⟨hci,hfi⟩:=HR.out.2 i hin;obtain⟨hcj,hfj⟩:=HR.out.2 j hjn
   have hv:∀q,q<n→∃x:Int,qmx n f i q = .int .u8 x:=fun q hq=>by
    unfold qmx;split
    ·exact H1.out _ (by omega)
    ·exact H1.out _ hq
   obtain⟨x,hx⟩:=hv i hin;obtain⟨y,hy⟩:=hv j hjn;rw[hx] at hci;rw[hy] at hcj;have HX:=hid hx;have HY:=hid hy;clear hx hy hv;rw[hE];have HJ:=hid hj;clear hj hE;go_wp2_with fail
   go_region
   go_wp2_with fail;go_roundw
   case rel=>
    refine⟨i+1,by omega,by go_num,by have:=HJ.out;go_num,hid ?_,hid ?_⟩
    ·have h:=(HR.out.set i hin (.int .u8 y)).set j hjn (.int .u8 x)
     have h2:=h.congr (f':=qmx n f (i+1)) (fun q hq=>by
      rw[qzj f hlt,←HJ.out,HX.out,HY.out])
     exact h2.later ((Below.refl _ _).drew)
    ·exact((HB.out.set _ _).set _ _).drewN 1
   case measure=>simp[intOf];omega
  ·have hE:¬(i:Int)<(n:Int)-1-i:=by omega
   have HF:Hid (Own wr g n (fun q=>f (n-1-q))):=hid (HR.out.congr fun q hq=>q1z f (by omega) q hq);go_wp2_with fail
   go_end0
   exact⟨rfl,HF.out,HB.out⟩
theorem reverse_nil(w:World):Calls Tryz.prog 201 #[.slice none 0 0] w fun e w'=>e = .returned (.tuple #[])∧w=w':=by
 go_enter Tryz.func201,Tryz.ntmps201;go_wp2_with fail
 go_loop [2,3] (fun a b=>a = .int .i64 0∧b = .int .i64 (-1)) (fun _ _=>0)
 case atStart=>exact⟨rfl,rfl⟩
 case round=>
  obtain⟨rfl,rfl⟩:=hrel;go_wp2_with fail
  go_end0
  exact⟨rfl,rfl⟩
def bv(l:List UInt8):List Value:=l.map fun c=>Value.int .u8 (c.toNat:Int)
theorem q8y(l:List UInt8)(c:UInt8):bv (l++[c])=bv l++[.int .u8 (c.toNat:Int)]:=by unfold bv;simp
def qmy(n most:Nat)(w:World)(e:Ending)(w':World):Prop:=
 e = .returned (.tuple #[.string (if(qaw n).length≤most then⟨(qaw n).toArray⟩ else⟨#[]⟩),.bool (decide ((qaw n).length≤most))])∧Below w.heap.size w w'
theorem qtq{n most:Nat}{w w':World}{e:Ending}(h:(qaw n).length≤most)(he:e = .returned (.tuple #[.string ⟨(qaw n).toArray⟩,.bool true]))(hb:Below w.heap.size w w'):qmy n most w e w':=by
 unfold qmy;rw[if_pos h,decide_eq_true h];exact⟨he,hb⟩
theorem qxy{n most:Nat}{w w':World}{e:Ending}(h:most<(qaw n).length)(he:e = .returned (.tuple #[.string ⟨#[]⟩,.bool false]))(hb:Below w.heap.size w w'):qmy n most w e w':=by
 unfold qmy;rw[if_neg (by omega),decide_eq_false (by omega)];exact⟨he,hb⟩
theorem qzk(v:Value)(most:Nat)(w:World)(h:qaq w v 0)(hm:1≤most)(hm2:most≤1099511627776):
  Calls Tryz.prog 154 #[v,.int .i64 most] w (qmy 0 most w):=by
 have HBL:=hid (qlt v 0 w h (by rw[show wl 0=0 from by unfold wl;rw[qam];rfl];exact Nat.zero_le _));have HCL:=hid (qoz v [] w (by unfold qaq at h;rwa [qam] at h) (Nat.zero_le _));have HF:Hid (∀w',Below w.heap.size w w'→qmy 0 most w (.returned (.tuple #[.string ⟨#[48]⟩,.bool true])) w'):=hid fun w' hb=>qtq (by show 1≤most;exact hm) rfl hb;clear h;have hcvn:∀(w:World),(convert 204 9 (.slice none 0 0)).run Tryz.prog w = .ok (.string ⟨#[]⟩) w:=fun w=>run_convert_bytes_nil (P:=Tryz.prog) w _ _ Tryz.underlying204 Tryz.underlying5 0 0 _ Tryz.underlying9;go_enter Tryz.func154,Tryz.ntmps154;go_wp2_with fail;refine HBL.out.mono ?_;rintro e w1 ⟨L,rfl,hL,rfl⟩
 have hL0:L=0:=by
  rcases hL with h|h
  ·exact h
  ·have:=Nat.two_pow_pos (L-1);omega
 subst hL0;clear hL;have hI:¬(most:Int)/3*10+10<0:=by omega
 go_wp2_with fail;refine HCL.out.mono ?_;rintro e w1 ⟨⟨vc,rfl,ho⟩,hb⟩;obtain⟨_,pc,cc,rfl,_,_,_⟩:=ho;have HB1:=hid hb;clear hb;have hm1:¬(most:Int)<1:=by omega
 go_wp2_with fail
 go_loopw [6,7] (fun r q wr=>r = .slice none 0 0∧q = .slice pc 0 cc∧Hid (Below w.heap.size w wr)) (fun _ _ _=>0)
 case atStart=>exact⟨rfl,rfl,HB1⟩
 case round=>
  obtain⟨rfl,rfl,HB⟩:=hrel;clear HB1;go_wp2_with fail;refine(reverse_nil _).mono ?_;rintro e w2 ⟨rfl,rfl⟩;go_wp2_with fail;refine(Tryz.strings_TrimLeft_one _ 48 (by decide) _).mono ?_;rintro e w2 ⟨rfl,hw2⟩;rw[hw2];clear hw2;have htl:Lib.trimLeftB (ByteArray.mk #[]).data.toList 48=[]:=rfl;go_wp2_with fail;go_ret2;exact HF.out _ HB.out
theorem zay:(10:Nat)^19=10000000000000000000:=by decide
theorem qzl{n:Nat}(_hcap:wl n≤Cap):(qf4 n).length≤20*wl n:=by
 refine qbn _ _ ?_;have h1:=qb8 B64 n qae;have h2:B64≤10^20:=by rw[qab];decide
 have h3:B64^wl n≤(10^20)^wl n:=Nat.pow_le_pow_left h2 _;rw[←Nat.pow_mul] at h3;exact Nat.lt_of_lt_of_le h1 h3
theorem qzm{w:World}{base g cap:Nat}{l:List UInt8}(h:w.ownsRow base 5 1 (.slice (some ⟨g,0,none⟩) l.length cap) l.length (bv l)):Own w g l.length (fun q => .int .u8 ((l.getD q 0).toNat:Int)):=by
 refine⟨(h.lt g rfl).2,fun q hq=>⟨?_,h.frozenAt q⟩⟩;rw[h.cellAt q (by omega)];unfold bv;simp[hq]
theorem qra{w:World}{base n:Nat}{v:Value}{xs:List Value}(h:w.ownsRow base 5 1 v n xs)(hn:0<n):∃g cap,v = .slice (some ⟨g,0,none⟩) n cap:=by
 rcases h.2 with⟨_,h'⟩|⟨g',cap',cur,h',_⟩
 ·omega
 ·exact⟨g',cap',h'⟩
theorem q5x(l:List UInt8)(q:Nat)(hq:q<l.length):l.reverse.getD q 0=l.getD (l.length-1-q) 0:=by
 rw[List.getD_eq_getElem?_getD,List.getD_eq_getElem?_getD,List.getElem?_reverse hq]
theorem qfh.row{g:Nat}{w w':World}{base:Nat}{e:TypeId}{size:Nat}{v:Value}{n:Nat}{xs:List Value}(h:qfh g w w')(hr:w.ownsRow base e size v n xs)(hg:g<base):w'.ownsRow base e size v n xs:=by
 obtain⟨h1,h2⟩:=hr;refine⟨h1, ?_⟩;rcases h2 with h2|⟨k,cap,cur,a,b,c,d⟩
 ·exact .inl h2
 ·exact .inr ⟨k,cap,cur,a,b,by rw[h.2 k (by omega)];exact c,d⟩
theorem q12{w w':World}{row:Option Nat}{g n:Nat}{f:Nat→Value}(h:Own w g n f)(hg:w.grownBy w' row)(hne:some g≠row):Own w' g n f:=by
 have hb:=hg.block g h.1 hne;refine⟨Nat.lt_of_lt_of_le h.1 hg.size,fun i hi => ?_⟩;rw[World.cell?_of_block (a:=⟨g,i,none⟩) hb,World.frozen?_of_block (a:=⟨g,i,none⟩) hb];exact h.2 i hi
theorem qtr{w:World}{base:Nat}{e:TypeId}{size:Nat}{v:Value}{n:Nat}{xs:List Value}(h:w.ownsRow base e size v n xs){g:Nat}(hg:g<base):some g≠v.ownBlock:=by
 intro e1;have:=(h.lt g e1.symm).1;omega
theorem q13(v:Value)(n most:Nat)(w:World)(h:qaq w v n)(hn:0<n)(hcap:wl n≤Cap)(hm2:most≤1099511627776):
  Calls Tryz.prog 154 #[v,.int .i64 most] w (qmy n most w):=by
 have HBL:=hid (qlt v n w h hcap);have HCL:=hid (qoz v _ w h hcap);have hDT:qaw n=qf4 n:=by unfold qaw;rw[if_neg (by omega)]
 have HLONG:Hid (∀L w',(L=0∨2^(L-1)≤n)→most/3*10+10<L→Below w.heap.size w w'→qmy n most w (.returned (.tuple #[.string ⟨#[]⟩,.bool false])) w'):=hid fun L w' hL hlt hb=>by
  refine qxy (qq9 ?_) rfl hb;rcases hL with e|e
  ·omega
  ·exact qv0 hlt e
 have HYES:Hid (∀w',(qf4 n).length≤most→Below w.heap.size w w'→qmy n most w (.returned (.tuple #[.string ⟨(qf4 n).toArray⟩,.bool true])) w'):=hid fun w' h1 hb=>by
  refine qtq (by rw[hDT];exact h1) (by rw[hDT]) hb
 have HNO:Hid (∀w',¬(qf4 n).length≤most→Below w.heap.size w w'→qmy n most w (.returned (.tuple #[.string ⟨#[]⟩,.bool false])) w'):=hid fun w' h1 hb=>by
  refine qxy (by rw[hDT];omega) rfl hb
 have HD20:=hid (qzl hcap);have HCAP:Hid (wl n≤1099511627776):=hid hcap
 have HDP:Hid (∀j,n/10^(19*j)≠0→19*j<(qf4 n).length):=hid fun j hj=>by
  have h1:10^(19*j)≤n:=by
   rcases Nat.lt_or_ge n (10^(19*j)) with e|e
   ·exact absurd (Nat.div_eq_of_lt e) hj
   ·exact e
  have h2:=qgt n;exact(Nat.pow_lt_pow_iff_right (by omega:1<10)).1 (Nat.lt_of_le_of_lt h1 h2)
 have hnd:(qaf B64 n).length≠0:=by
  intro e;have:=qeu e;omega
 have hnd63:(qaf B64 n).length≤1099511627776:=hcap;clear h hDT;obtain⟨i0,hi,hz0,hz1,hz2⟩:=info_parts (show(Tryz.prog.info? 5).map (fun i=>(i.zero,i.size,i.bytes))=some (some (.int .u8 0),1,1) by kernel_rfl);have HI:=hid hi;have HZ0:=hid hz0;have HZ1:=hid hz1;have HZ2:=hid hz2;clear hi hz0 hz1 hz2 hcap;have HN:=hid hn;clear hn;go_enter Tryz.func154,Tryz.ntmps154;go_wp2_with fail;refine HBL.out.mono ?_;rintro e w1 ⟨L,rfl,hL,rfl⟩;have HL:=hid hL;clear hL HBL;by_cases hlong:most/3*10+10<L
 ·have hI:(most:Int)/3*10+10<(L:Int):=by omega
  have HLT:=hid hlong;clear hlong;go_wp2_with fail;go_ret2;exact HLONG.out L _ HL.out HLT.out (Below.refl _ _)
 have hI:¬(most:Int)/3*10+10<(L:Int):=by omega
 clear hlong HL HLONG;go_wp2_with fail;refine HCL.out.mono ?_;rintro e w1 ⟨⟨vc,rfl,ho⟩,hb⟩;obtain⟨hlb,pc,cc,rfl,hc1,hc2,ho⟩:=ho;rcases ho with h0|⟨g,hg,rfl,ho⟩
 ·exact absurd h0 hnd
 have HB1:=hid hb;have HG:=hid hg;have HO1:=hid ho;have HC2:=hid hc2;have HC1:Hid ((qaf B64 n).length≤cc):=hid hc1;obtain⟨B1,hB1⟩:∃B1,B1=w1.heap.size:=⟨_,rfl⟩;have hgB:g<B1:=by rw[hB1];exact ho.1
 have HGB:=hid hgB;have HBB:=hid hB1;have HWB:Hid (w.heap.size≤B1):=hid (by rw[hB1];exact hb.size);clear hlb hc1 hc2 ho hb hg hgB hB1 hI HCL;generalize hn0:(qaf B64 n).length=n0 at *;have HN0:=hid hn0;clear hn0 hnd;go_wp2_with fail
 go_loopw [6,7] (fun r q wr=>∃(j m k:Nat),q = .slice (some ⟨g,0,none⟩) k cc∧Hid (k=(qaf B64 m).length)∧Hid (m=n/10^(19*j))∧Hid (qlf r=19*j)∧Hid (k≤n0)∧Hid (Own wr g k (wd (qaf B64 m)))∧Hid (wr.ownsRow B1 5 1 r (19*j) (bv (pd (19*j) n)))∧Hid (Below w.heap.size w wr)∧Hid (B1≤wr.heap.size)) (fun r _ _=>(qf4 n).length+20-qlf r)
 case atStart=>exact⟨0,n,n0,rfl,hid HN0.out.symm,hid (by simp),hid rfl,hid (Nat.le_refl _),HO1,hid (World.ownsRow_nil w1 B1 5 1),HB1,hid (by rw[HBB.out];exact Nat.le_refl _)⟩
 case round=>
  obtain⟨j,m,k,rfl,HK,HM,HSL,HKN,HO,HROW,HB,HSZ⟩:=hrel;clear HO1 HB1;by_cases hk0:0<k
  ·have hm0:m≠0:=by
    rintro rfl;have:=HK.out;rw[qam] at this;simp at this;omega
   have HJ:Hid (19*j<(qf4 n).length):=hid (HDP.out j (by rw[←HM.out];exact hm0));have hjb:19*j≤21990232555520:=by have:=HJ.out;have:=HD20.out;have:=HCAP.out;omega
   have HDIV:Hid (∀W,Own W g k (wd (qaf B64 m))→Calls Tryz.prog 121 #[.slice (some ⟨g,0,none⟩) k cc,.int .u64 10000000000000000000] W fun e w'=>∃k2,k2=(qaf B64 (m/10000000000000000000)).length∧e = .returned (.tuple #[.slice (some ⟨g,0,none⟩) k2 cc,.int .u64 (m % 10000000000000000000:Nat)])∧Own w' g k2 (wd (qaf B64 (m/10000000000000000000)))∧qfh g W w'):=hid fun W ho=>by
    have hh:=HK.out;subst hh;have h:=qll g cc (qaf B64 m) 10000000000000000000 W (qee B64 m qae) (Nat.le_trans (by have:=HKN.out;exact this) (by have:=HC1.out;omega)) HC2.out ho (by omega) (by rw[qab];omega);rw[qah _ _ qae] at h;exact h
   have HPM:Hid (∀i,pd i (m % 10000000000000000000)=pd i (m % 10000000000000000000)):=hid fun _=>rfl
   have HPD:Hid (pd (19*j) n++pd 19 (m % 10000000000000000000)=pd (19*(j+1)) n):=hid (by
    rw[show 19*(j+1)=19*j+19 from by omega,qtm,←HM.out]
    congr 1
    refine q70 19 _ _ ?_
    rw[zay,Nat.mod_mod])
   have HM2:Hid (m/10000000000000000000=n/10^(19*(j+1))):=hid (by
    rw[show 19*(j+1)=19*j+19 from by omega,Nat.pow_add,←Nat.div_div_eq_div_mul,←HM.out,zay])
   have HK2:Hid (∀k2,k2=(qaf B64 (m/10000000000000000000)).length→k2≤n0):=hid fun k2 h2=>by
    rw[h2];exact Nat.le_trans (qad qae (Nat.div_le_self _ _)) (by rw[←HK.out];exact HKN.out)
   have HPL:Hid (m % 10000000000000000000<10000000000000000000):=hid (Nat.mod_lt _ (by omega));clear HK HM HKN HPM hm0;generalize m/10000000000000000000=m2 at *;generalize m % 10000000000000000000=p at *;go_wp2_with fail;refine(HDIV.out _ HO.out).mono ?_;rintro e w2 ⟨k2,hk2,rfl,ho2,hon⟩;have HKK:=hid hk2;have HKN2:=hid (HK2.out k2 hk2);have HO2:=hid ho2;have HROW2:=hid (hon.row HROW.out HGB.out);have HB2:Hid (Below w.heap.size w w2):=hid (HB.out.trans (hon.below HG.out));have HSZ2:Hid (B1≤w2.heap.size):=hid (Nat.le_trans HSZ.out (hon.below (Nat.zero_le _)).size);clear hk2 ho2 hon HROW HB HSZ HO HDIV HK2;go_wp2_with fail
   go_loopw [6,8,27] (fun r pp ii wr=>∃(i x:Nat),i≤19∧ii = .int .i64 i∧pp = .int .u64 x∧Hid (x=p/10^i)∧Hid (qlf r=19*j+i)∧Hid (wr.ownsRow B1 5 1 r (19*j+i) (bv (pd (19*j) n++pd i p)))∧Hid (Own wr g k2 (wd (qaf B64 m2)))∧Hid (Below w.heap.size w wr)∧Hid (B1≤wr.heap.size)) (fun _ _ ii _=>19-(intOf ii).toNat)
   case atStart=>exact⟨0,p,Nat.zero_le _,rfl,rfl,hid (by simp),HSL,hid (by rw[pd,List.append_nil];exact HROW2.out),HO2,HB2,HSZ2⟩
   case round=>
    obtain⟨i,x,hi,rfl,rfl,HX,HSLI,HR,HOI,HBI,HSI⟩:=hrel;clear HROW2 HO2 HB2 HSZ2;by_cases hi19:i<19
    ·have hx64:(x:Int)≤18446744073709551615:=by
      have h1:=HX.out;have h2:=HPL.out;have h3:p/10^i≤p:=Nat.div_le_self _ _;omega
     have hr0:0≤(x:Int) % 10:=by omega
     have hr9:(x:Int) % 10≤9:=by omega
     have hcv:IntKind.u8.wrap (48+(x:Int) % 10)=((dig x).toNat:Int):=by
      rw[qi9,IntKind.wrap_u8];omega
     have HX2:Hid (x/10=p/10^(i+1)):=hid (by rw[HX.out,Nat.div_div_eq_div_mul,Nat.pow_succ]);have HPS:Hid (pd (19*j) n++pd (i+1) p=(pd (19*j) n++pd i p)++[dig x]):=hid (by rw[qvz,HX.out,List.append_assoc]);have hrow63:=HR.out;go_wp2_with (at_builtin;refine wpList_append_own _ rfl _ _ 204 rfl B1 5 i0 (.int .u8 0) 1 1 Tryz.underlying204 HI.out HZ0.out HZ1.out HZ2.out rfl (by decide) _ _ _ rfl (HR.out.alloc _) ⟨wr.heap.size,0,none⟩ 1 1 [.int .u8 ((dig x).toNat:Int)] rfl rfl ?c1 ?c2 ?c3 ?c4 ?c5 ?_)
     case c1=>exact qnq _ _ _
     case c2=>intro u hu;rw[List.mem_singleton.1 hu];rfl
     case c3=>unfold maxLen;omega
     case c4=>omega
     case c5=>rw[World.size_alloc];have:=HSI.out;omega
     intro v' w9 hown hgrow _;have HO9:Hid (Own w9 g k2 (wd (qaf B64 m2))):=hid (q12 (HOI.out.later ((Below.refl _ _).alloc HOI.out.1 _)) hgrow (qtr HR.out HGB.out));have HB9:Hid (Below w.heap.size w w9):=hid ((HBI.out.alloc HBI.out.size _).grown hgrow (by rw[World.size_alloc];have:=HBI.out.size;omega) (by intro q hq;have:=(HR.out.lt q hq).1;have:=HWB.out;omega));have HS9:Hid (B1≤w9.heap.size):=hid (by have:=hgrow.size;rw[World.size_alloc] at this;have:=HSI.out;omega);obtain⟨g',cap',rfl⟩:=qra hown (by omega);have HR9:Hid (w9.ownsRow B1 5 1 (.slice (some ⟨g',0,none⟩) (19*j+(i+1)) cap') (19*j+(i+1)) (bv (pd (19*j) n++pd (i+1) p))):=hid (by rw[HPS.out,q8y];exact hown);clear hown hgrow hrow63 HR HOI HBI HSI;go_wp2_with fail;go_roundw
     case rel=>exact⟨i+1,x/10,by omega,by go_num,by rw[Int.natCast_ediv];rfl,HX2,hid rfl,HR9,HO9,HB9,HS9⟩
     case measure=>simp[intOf];omega
    ·have hie:i=19:=by omega
     subst hie;have HR19:Hid (wr.ownsRow B1 5 1 u6 (19*(j+1)) (bv (pd (19*(j+1)) n))):=hid (by have:=HR.out;rw[HPD.out] at this;exact this);have HL19:Hid (qlf u6=19*(j+1)):=hid HSLI.out;clear HR;go_wp2_with fail;go_roundw
     case rel=>exact⟨j+1,m2,k2,rfl,HKK,HM2,HL19,HKN2,HOI,HR19,HBI,HSI⟩
     case measure=>have h1:=HJ.out;have h2:=HL19.out;have h3:=HSL.out;omega
  ·have hk00:k=0:=by omega
   subst hk00;have hm0:m=0:=qeu (by have:=HK.out;unfold wl;omega)
   have hnlt:n<10^(19*j):=by
    have h1:=HM.out;rw[hm0] at h1;rcases Nat.lt_or_ge n (10^(19*j)) with e|e
    ·exact e
    ·have:=Nat.div_pos e (Nat.pow_pos (by omega))
     omega
   have hj0:0<19*j:=by
    rcases Nat.eq_zero_or_pos (19*j) with e|e
    ·rw[e] at hnlt
     have:=HN.out;simp at hnlt;omega
    ·exact e
   obtain⟨g',cap',rfl⟩:=qra HROW.out hj0;obtain⟨l,hl⟩:∃l,l=pd (19*j) n:=⟨_,rfl⟩;have hll:l.length=19*j:=by rw[hl,qls]
   have htr:Lib.trimLeftB l.reverse 48=qf4 n:=by rw[hl];exact q1x _ n hnlt
   have hrow:=HROW.out;rw[←hl] at hrow;have hown:=qzm (l:=l) (by rw[hll];exact hrow);rw[hll] at hown;have hg':=(hrow.lt g' rfl).1
   have hKc:19*j≤9223372036854775807:=by
    rcases hrow.2 with⟨h',_⟩|⟨g2,cap2,cur,h',_,_,h1,h2,_⟩
    ·cases h'
    ·cases h';unfold maxLen at h2;omega
   have HREV:=hid (qv1 g' (19*j) cap' _ wr hKc hown (fun q _=>⟨_,rfl⟩))
   have HTRIM:Hid (∀W,Calls Tryz.prog 202 #[.string ⟨l.reverse.toArray⟩,.string ⟨#[48]⟩] W fun e w'=>e = .returned (.string ⟨(qf4 n).toArray⟩)∧w'=W):=hid fun W=>by
    have h:=Tryz.strings_TrimLeft_one ⟨l.reverse.toArray⟩ 48 (by decide) W;have e1:(ByteArray.mk l.reverse.toArray).data.toList=l.reverse:=by simp
    rw[e1,htr] at h;exact h
   have HCV:Hid (∀W,Own W g' (19*j) (fun q => .int .u8 ((l.getD (19*j-1-q) 0).toNat:Int))→(convert 204 9 (.slice (some ⟨g',0,none⟩) (19*j) cap')).run Tryz.prog W = .ok (.string ⟨l.reverse.toArray⟩) W):=hid fun W ho=>by
    have h:=run_convert_bytes_back (P:=Tryz.prog) W 204 9 5 ⟨g',0,none⟩ cap' l.reverse Tryz.underlying204 Tryz.underlying5 Tryz.underlying9 (fun q hq=>by
     have hq2:q<19*j:=by rw[List.length_reverse,hll] at hq;exact hq
     have h2:=(ho.2 q hq2).1;rw[Addr.add_lit,Nat.zero_add,h2];have h3:=q5x l q (by omega);rw[hll] at h3;show some (Value.int IntKind.u8 ((l.getD (19*j-1-q) 0).toNat:Int))=_;rw[←h3,List.getD_eq_getElem?_getD,List.getElem?_eq_getElem hq]
     rfl)
    rw[List.length_reverse,hll] at h;exact h
   have HWG:Hid (w.heap.size≤g'):=hid (Nat.le_trans HWB.out hg')
   have hne:(qf4 n).length≠0:=by
    rw[qds HN.out];simp
   obtain⟨tx,htx⟩:∃tx:ByteArray,tx=⟨(qf4 n).toArray⟩:=⟨_,rfl⟩;have hts:tx.size=(qf4 n).length:=by rw[htx];simp[ByteArray.size]
   have hte:tx.toList.isEmpty=false:=by
    rw[ByteArray.toList_eq,htx];rw[List.isEmpty_eq_false_iff];intro e;apply hne;have e1:(ByteArray.mk (qf4 n).toArray).data.toList=qf4 n:=by simp
    rw[e1] at e;rw[e];rfl
   rw[←htx] at HTRIM HYES;have HTS:=hid hts;have HDB:Hid ((qf4 n).length≤21990232555520):=hid (by have:=HD20.out;have:=HCAP.out;omega);clear HK HM HSL HKN HO HROW hm0 hnlt hll htr hrow hown hg' hKc hl hne htx hts;generalize 19*j=K at *;go_wp2_with fail;refine HREV.out.mono ?_;rintro e w2 ⟨rfl,ho2,hon⟩;have hcv:=HCV.out w2 ho2;have HB2:Hid (Below w.heap.size w w2):=hid (HB.out.trans (hon.below HWG.out));clear ho2 hon HREV HCV HB;go_wp2_with fail;refine(HTRIM.out _).mono ?_;rintro e w3 ⟨rfl,hw3⟩;rw[hw3];clear hw3 HTRIM hcv;by_cases hmost:(qf4 n).length≤most
   ·have hI1:¬(most:Int)<(tx.size:Int):=by have:=HTS.out;omega
    have HMO:=hid hmost;clear hmost;go_wp2_with fail;go_ret2;exact HYES.out _ HMO.out HB2.out
   ·have hI1:(most:Int)<(tx.size:Int):=by have:=HTS.out;omega
    have HMO:=hid hmost;clear hmost;go_wp2_with fail;go_ret2;exact HNO.out _ HMO.out HB2.out
theorem qja(v:Value)(n most:Nat)(w:World)(h:qaq w v n)(hcap:wl n≤Cap)(hm:1≤most)(hm2:most≤1099511627776):
  Calls Tryz.prog 154 #[v,.int .i64 most] w (qmy n most w):=by
 rcases Nat.eq_zero_or_pos n with e|e
 ·subst e;exact qzk v most w h hm hm2
 ·exact q13 v n most w h e hcap hm2
end Go.Proofs.YthjagoogkkgelaaGreatDoor
