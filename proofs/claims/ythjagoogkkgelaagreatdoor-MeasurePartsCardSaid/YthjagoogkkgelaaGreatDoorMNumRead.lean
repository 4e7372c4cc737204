/- IsName: whether a text is a name. -/
import Derived.Test.YthjagoogkkgelaaGreatDoorMWrite
import Derived.Test.YthjagoogkkgelaaGreatDoorMReadWalk
set_option linter.all false
namespace Go.Proofs.YthjagoogkkgelaaGreatDoor
open Go.RowKit
set_option maxRecDepth 100000
set_option maxHeartbeats 1000000
def qn8(c:Int):Bool:=decide ((97≤c∧c≤122)∨(65≤c∧c≤90)∨(48≤c∧c≤57)∨c=45∨c=95∨c=46)
def qhw(l:List UInt8):Bool:=l.all (fun c=>qn8 c.toNat)&&decide (1≤l.length∧l.length≤24)
theorem qj3{c:Int}(h:(97≤c∧c≤122)∨(65≤c∧c≤90)∨(48≤c∧c≤57)∨c=45∨c=95∨c=46):qn8 c=true:=decide_eq_true h
theorem qkx{c:Int}(h:¬((97≤c∧c≤122)∨(65≤c∧c≤90)∨(48≤c∧c≤57)∨c=45∨c=95∨c=46)):qn8 c=false:=decide_eq_false h
theorem qit(c:Int)(w:World):
  Calls Tryz.prog 69 #[.int .i32 c] w fun e w'=>e = .returned (.bool (qn8 c))∧w'=w:=by
 by_cases h1:97≤c∧c≤122
 ·obtain⟨a,b⟩:=h1
  have HE:=hid (qj3 (c:=c) (.inl ⟨a,b⟩));go_enter Tryz.func69,Tryz.ntmps69;go_wp2_with fail
  all_goals(go_ret;exact⟨qbc HE.out.symm,rfl⟩)
 by_cases h2:65≤c∧c≤90
 ·obtain⟨a,b⟩:=h2
  have a1:¬97≤c:=by omega
  have HE:=hid (qj3 (c:=c) (.inr (.inl ⟨a,b⟩)));clear h1;go_enter Tryz.func69,Tryz.ntmps69;go_wp2_with fail
  all_goals(go_ret;exact⟨qbc HE.out.symm,rfl⟩)
 by_cases h3:48≤c∧c≤57
 ·obtain⟨a,b⟩:=h3
  have a1:¬97≤c:=by omega
  have a2:¬65≤c:=by omega
  have HE:=hid (qj3 (c:=c) (.inr (.inr (.inl ⟨a,b⟩))));clear h1 h2;go_enter Tryz.func69,Tryz.ntmps69;go_wp2_with fail
  all_goals(go_ret;exact⟨qbc HE.out.symm,rfl⟩)
 by_cases h4:c=45∨c=95∨c=46
 ·have HE:=hid (qj3 (c:=c) (.inr (.inr (.inr h4))))
  rcases h4 with rfl|rfl|rfl
  all_goals
   clear h1 h2 h3;go_enter Tryz.func69,Tryz.ntmps69;go_wp2_with fail;go_ret;exact⟨qbc HE.out.symm,rfl⟩
 ·have HE:=hid (qkx (c:=c) (by omega))
  have b1:(c==45)=false:=beq_eq_false_iff_ne.2 (by omega);have b2:(c==95)=false:=beq_eq_false_iff_ne.2 (by omega);have b3:(c==46)=false:=beq_eq_false_iff_ne.2 (by omega);have g1:(decide (97≤c)&&decide (c≤122))=false:=by rw[←Bool.decide_and];exact decide_eq_false h1
  by_cases a1:97≤c
  ·have a2:¬c≤122:=by omega
   have a3:65≤c:=by omega
   have a4:¬c≤90:=by omega
   have a5:48≤c:=by omega
   have a6:¬c≤57:=by omega
   clear h1 h2 h3 h4 g1;go_enter Tryz.func69,Tryz.ntmps69;go_wp2_with fail
   all_goals(go_ret;exact⟨qbc HE.out.symm,rfl⟩)
  ·by_cases a3:65≤c
   ·have a4:¬c≤90:=by omega
    have a5:48≤c:=by omega
    have a6:¬c≤57:=by omega
    clear h1 h2 h3 h4 g1;go_enter Tryz.func69,Tryz.ntmps69;go_wp2_with fail
    all_goals(go_ret;exact⟨qbc HE.out.symm,rfl⟩)
   ·by_cases a5:48≤c
    ·have a6:¬c≤57:=by omega
     clear h1 h2 h3 h4 g1;go_enter Tryz.func69,Tryz.ntmps69;go_wp2_with fail
     all_goals(go_ret;exact⟨qbc HE.out.symm,rfl⟩)
    ·clear h1 h2 h3 h4 g1
     go_enter Tryz.func69,Tryz.ntmps69;go_wp2_with fail
     all_goals(go_ret;exact⟨qbc HE.out.symm,rfl⟩)
theorem qzn(s:ByteArray)(k:Nat)(h:k<s.size)(hb:qn8 (s[k]'h).toNat=false):qhw s.data.toList=false:=by
 unfold qhw;rw[Bool.and_eq_false_iff]
 left
 rw[List.all_eq_false];exact⟨s[k]'h,by rw[←qdr s k h];exact List.getElem_mem _,by simp[hb]⟩
theorem q18(s:ByteArray)(pos:Nat)(h:pos<s.size):(qn8 (s[pos]'h).toNat=true∧Utf8.decode s pos=((s[pos]'h).toNat,1))∨(qn8 (s[pos]'h).toNat=false∧qn8 (Utf8.decode s pos).1=false):=by
 by_cases ha:(s[pos]'h).toNat<128
 ·rw[decode_ascii s pos h ha]
  cases hn:qn8 (s[pos]'h).toNat
  ·exact .inr ⟨rfl,by first|exact hn|rfl⟩
  ·exact .inl ⟨rfl,rfl⟩
 ·right
  have h2:=(decode_high s pos h (by omega)).1;exact⟨qkx (by omega),qkx (by omega)⟩
theorem qj4(s:ByteArray)(w:World):
  Calls Tryz.prog 31 #[.string s] w fun e w'=>e = .returned (.bool (qhw s.data.toList))∧Below w.heap.size w w':=by
 have HBE:=hid (fun p=>qq8 w s p);have HBAD:=hid (qzn s);have HRN:=hid (q18 s);have HSN:=hid (qdk s)
 have HEND:Hid ((∀c ∈ s.data.toList.take s.size,qn8 c.toNat=true)→qhw s.data.toList=decide (1≤s.size∧s.size≤24)):=hid fun h=>by
  rw[List.take_of_length_le (by simp)] at h;unfold qhw;rw[List.all_eq_true.2 h,Bool.true_and];simp
 generalize qhw s.data.toList=res at *;go_enter Tryz.func31,Tryz.ntmps31;go_wp2_with fail
 go_loopw [4] (fun _ wr=>∃pos:Nat,pos≤s.size∧wr=w.iter s pos∧Hid (∀c ∈ s.data.toList.take pos,qn8 c.toNat=true)) (fun _ w'=>s.size-w'.iterPos w.heap.size)
 case atStart=>exact⟨0,Nat.zero_le _,rfl,hid (by simp)⟩
 case round=>
  obtain⟨pos,hps,rfl,HD⟩:=hrel;by_cases hp:pos<s.size
  ·rcases HRN.out pos hp with⟨hn,hdec⟩|⟨hn,hdec⟩
   ·have hnx:∀ty,(Instr.next (.pointer (some ⟨w.heap.size,0,none⟩)) true ty).run Tryz.prog (w.iter s pos)=_:=fun ty=>run_next_any w s pos ty hp
    rw[hdec] at hnx
    have HD2:Hid (∀c ∈ s.data.toList.take (pos+1),qn8 c.toNat=true):=hid (by
     rw[HSN.out pos hp];intro c hc;rcases List.mem_append.1 hc with hc|hc
     ·exact HD.out c hc
     ·rw[List.mem_singleton.1 hc];exact hn)
    have HNL:Hid (∀W,Calls Tryz.prog 69 #[.int .i32 ((s[pos]'hp).toNat:Int)] W fun e w'=>e = .returned (.bool true)∧w'=W):=hid fun W=>by rw[←hn];exact qit _ W
    clear hn hdec;go_wp2_with fail;refine(HNL.out _).mono ?_;rintro e w' ⟨rfl,hw'⟩;rw[hw'];clear hw' HNL;go_wp2_with fail;go_roundw
    case rel=>exact⟨pos+1,by omega,rfl,HD2⟩
    case measure=>simp;omega
   ·have HRES:=hid (HBAD.out pos hp hn)
    have hnx:∀ty,(Instr.next (.pointer (some ⟨w.heap.size,0,none⟩)) true ty).run Tryz.prog (w.iter s pos)=_:=fun ty=>run_next_any w s pos ty hp;have HNL:Hid (∀W,Calls Tryz.prog 69 #[.int .i32 ((Utf8.decode s pos).1:Int)] W fun e w'=>e = .returned (.bool false)∧w'=W):=hid fun W=>by rw[←hdec];exact qit _ W
    clear hn hdec;generalize (Utf8.decode s pos).2=wid at *;generalize (Utf8.decode s pos).1=c at *;go_wp2_with fail;refine(HNL.out _).mono ?_;rintro e w' ⟨rfl,hw'⟩;rw[hw'];clear hw' HNL;go_wp2_with fail;go_ret;exact⟨qbc HRES.out.symm,HBE.out _⟩
  ·have hpe:pos=s.size:=by omega
   have HRES:Hid (res=decide (1≤s.size∧s.size≤24)):=hid (HEND.out (by rw[←hpe];exact HD.out));have hnx:∀ty,(Instr.next (.pointer (some ⟨w.heap.size,0,none⟩)) true ty).run Tryz.prog (w.iter s pos)=_:=fun ty=>run_next_end w s pos ty hp;clear hpe;by_cases h1:1≤s.size
   ·by_cases h2:s.size≤24
    ·have HR:Hid (decide ((s.size:Int)≤24)=res):=hid (by rw[HRES.out,decide_eq_true (show 1≤s.size∧s.size≤24 from⟨h1,h2⟩)];exact decide_eq_true (by omega))
     go_wp2_with fail;go_ret;exact⟨qbc HR.out,HBE.out _⟩
    ·have HR:Hid (decide ((s.size:Int)≤24)=res):=hid (by rw[HRES.out,decide_eq_false (show ¬(1≤s.size∧s.size≤24) from by omega)];exact decide_eq_false (by omega))
     go_wp2_with fail;go_ret;exact⟨qbc HR.out,HBE.out _⟩
   ·have HR:Hid (res=false):=hid (by rw[HRES.out];exact decide_eq_false (by omega))
    go_wp2_with fail;go_ret;exact⟨qbc HR.out.symm,HBE.out _⟩
def qbe(l:List UInt8):Bool:=qkv l&&(l==[48]||l.head? != some 48)
theorem qv2(s:ByteArray)(w:World):
  Calls Tryz.prog 98 #[.string s] w fun e w'=>e = .returned (.bool (qbe s.data.toList))∧Below w.heap.size w w':=by
 have HAD:=hid (qf8 s w);by_cases ha:qkv s.data.toList=true
 ·rw[ha] at HAD
  have hne:=((qez _).1 ha).1
  have hsz:0<s.size:=by
   rcases Nat.eq_zero_or_pos s.size with e|e
   ·exfalso;apply hne
    have:s.data.toList.length=0:=by simpa using e
    exact List.eq_nil_of_length_eq_zero this
   ·exact e
  by_cases h0:s.data.toList=[48]
  ·have hs:s=⟨#[48]⟩:=by
    have:s.data=#[48]:=by rw[←Array.toArray_toList (xs:=s.data),h0]
    cases s
    simp at this;rw[this]
   subst hs;have HR:Hid (qbe (ByteArray.mk #[48]).data.toList=true):=hid (by rfl);clear ha hne hsz h0;go_enter Tryz.func98,Tryz.ntmps98;go_wp2_with fail;refine HAD.out.mono ?_;rintro e w1 ⟨rfl,hb⟩;have HB:=hid hb;clear hb;go_wp2_with fail;go_ret;exact⟨qbc HR.out.symm,HB.out⟩
  ·have hhd:s.data.toList.head? = some (s[0]'hsz):=by
    rw[←qdr s 0 hsz];exact List.head?_eq_getElem? .. ▸ List.getElem?_eq_getElem _
   have hpl:qbe s.data.toList=((s[0]'hsz) != 48):=by
    unfold qbe;rw[ha,hhd];have:(s.data.toList==[48])=false:=beq_eq_false_iff_ne.2 h0;rw[this];simp[bne]
   have hs0:¬s.toList=[48]:=by rw[ByteArray.toList_eq];exact h0
   have HR:Hid ((s.toList==[48]||((s[0]'hsz).toNat:Int) != 48)=qbe s.data.toList):=hid (by
    rw[hpl,beq_eq_false_iff_ne.2 hs0,Bool.false_or,Bool.eq_iff_iff];simp only[bne_iff_ne,ne_eq];have e48:(48:UInt8).toNat=48:=rfl;constructor
    ·intro h h2
     apply h;rw[h2];rfl
    ·intro h h2
     apply h;apply UInt8.toNat_inj.1
     omega)
   clear hne hpl hhd h0 ha;go_enter Tryz.func98,Tryz.ntmps98;go_wp2_with fail;refine HAD.out.mono ?_;rintro e w1 ⟨rfl,hb⟩;have HB:=hid hb;clear hb;go_wp2_with fail;go_ret;exact⟨qbc HR.out,HB.out⟩
 ·have ha':qkv s.data.toList=false:=by simpa using ha
  rw[ha'] at HAD;have HR:Hid (qbe s.data.toList=false):=hid (by unfold qbe;rw[ha'];rfl);clear ha ha';go_enter Tryz.func98,Tryz.ntmps98;go_wp2_with fail;refine HAD.out.mono ?_;rintro e w1 ⟨rfl,hb⟩;have HB:=hid hb;clear hb;go_wp2_with fail;go_ret;exact⟨qbc HR.out.symm,HB.out⟩
def qav(l:List UInt8):Rat:=(qf9 l).getD 0
def qlu(l:List UInt8):List UInt8:=if qa4 (qav l) 600 then qat (qav l) else[]
def qaa(l:List UInt8):Nat:=
 if !qbe (Lib.cut (Lib.trimPrefix l [45]) [47]).1||(Lib.hasPrefix l [45]&&(Lib.cut (Lib.trimPrefix l [45]) [47]).1==[48]) then 1
 else if(Lib.cut (Lib.trimPrefix l [45]) [47]).2.2&&(!qbe (Lib.cut (Lib.trimPrefix l [45]) [47]).2.1||(Lib.cut (Lib.trimPrefix l [45]) [47]).2.1==[48]||(Lib.cut (Lib.trimPrefix l [45]) [47]).2.1==[49]) then 1
 else if 600<(Lib.cut (Lib.trimPrefix l [45]) [47]).1.length∨600<(Lib.cut (Lib.trimPrefix l [45]) [47]).2.1.length then 4
 else if qlu l=l then 0 else 1
def qky(l:List UInt8)(w:World)(e:Ending)(w':World):Prop:=
 (if qaa l=0 then ∃v',e = .returned (.tuple #[v',.int .i64 0])∧qaj w' v' (qav l)
  else e = .returned (.tuple #[.agg #[.bool false,.slice none 0 0,.slice none 0 0],.int .i64 (qaa l)]))∧Below w.heap.size w w'
theorem q19{l:List UInt8}{w w':World}{e:Ending}{k:Int}(h:qaa l≠0)(hk:k=qaa l)(he:e = .returned (.tuple #[.agg #[.bool false,.slice none 0 0,.slice none 0 0],.int .i64 k]))(hb:Below w.heap.size w w'):qky l w e w':=by
 unfold qky;rw[if_neg h,←hk];exact⟨he,hb⟩
theorem q50{l:List UInt8}{w w':World}{e:Ending}{v':Value}(h:qaa l=0)(he:e = .returned (.tuple #[v',.int .i64 0]))(hv:qaj w' v' (qav l))(hb:Below w.heap.size w w'):qky l w e w':=by
 unfold qky;rw[if_pos h];exact⟨⟨v',he,hv⟩,hb⟩
theorem qeg{l:List UInt8}(h:qbe l=true):qkv l=true:=by
 unfold qbe at h;rw[Bool.and_eq_true] at h;exact h.1
theorem qid{l:List UInt8}(h:qbe l=true)(h0:l≠[48]):qa0 0 l≠0:=by
 have ha:=qeg h;unfold qbe at h;rw[Bool.and_eq_true,Bool.or_eq_true,beq_iff_eq] at h;have h2:=h.2.resolve_left h0;obtain⟨hne,hd⟩:=(qez l).1 ha
 match l,hne with
 | c::r,_=>
  have hc:=(qmw c).1 (hd c (List.mem_cons_self ..))
  have hc48:c≠48:=by
   intro e;rw[e] at h2;simp at h2
  have hn:c.toNat≠48:=fun e=>hc48 (UInt8.toNat_inj.1 (by rw[e];rfl));rw[qgs];have:=q1w r (0*10+(c.toNat-48));omega
theorem qpc{w:World}(s:ByteArray)(b:Bool)(hb:qbe s.data.toList=b)(W:World)(hW:qe1 w W):
  Calls Tryz.prog 98 #[.string s] W fun e w'=>e = .returned (.bool b)∧qe1 w w':=
 (qv2 s W).mono fun e w' ⟨h1,h2⟩=>⟨by rw[h1,hb],hW.later h2⟩
theorem qpd{a:ByteArray}{l:List UInt8}(h:(a.data.toList==l)=false):¬a.toList=l:=by
 rw[ByteArray.toList_eq];exact beq_eq_false_iff_ne.1 h
theorem qm1{a:ByteArray}{l:List UInt8}(h:(a.data.toList==l)=true):a.toList=l:=by
 rw[ByteArray.toList_eq];exact eq_of_beq h
theorem qbf{W:World}{g:Nat}{na:Bool}{ta ba:Value}(h:Own W g 3 (qcm na ta ba)):
  (W.cell? ⟨g,0,none⟩=some (.bool na))∧(W.cell? ⟨g,1,none⟩=some ta)∧(W.cell? ⟨g,2,none⟩=some ba):=
 ⟨(h.2 0 (by omega)).1,(h.2 1 (by omega)).1,(h.2 2 (by omega)).1⟩
structure qr5(s a b:ByteArray)(neg f:Bool)(w:World):Prop where
 top:(Lib.cut (Lib.trimPrefix s.data.toList [45]) [47]).1=a.data.toList
 bottom:(Lib.cut (Lib.trimPrefix s.data.toList [45]) [47]).2.1=b.data.toList
 found:(Lib.cut (Lib.trimPrefix s.data.toList [45]) [47]).2.2=f
 sign:Lib.hasPrefix s.data.toList [45]=neg
 gw:GW w
 size:s.size≤1073741824
 leadPart:∃d:ByteArray,(∀W,Calls Tryz.prog 95 #[.string s,.string ⟨#[45]⟩] W fun e w'=>e = .returned (.tuple #[.string d,.bool neg])∧w'=W)∧
  (∀W,qe1 w W→Calls Tryz.prog 52 #[.string d,.string ⟨#[47]⟩] W fun e w'=>e = .returned (.tuple #[.string a,.string b,.bool f])∧qe1 w w')
 short:a.size≤1073741824∧b.size≤1073741824
theorem q51{x y:ByteArray}(h:x.data.toList=y.data.toList):x=y:=by
 cases x;cases y
 simp only[ByteArray.mk.injEq];exact Array.toList_inj.1 h
theorem qhx(s:ByteArray):s.data.toList.length=s.size:=by simp
theorem qzo(s:ByteArray)(w:World)(hg:GW w)(hs:s.size≤1073741824):∃a b neg f,qr5 s a b neg f w:=by
 have hdl:(ByteArray.mk (Lib.trimPrefix s.data.toList [45]).toArray).data.toList=Lib.trimPrefix s.data.toList [45]:=by simp
 have h3:s.data.toList.length=s.size:=qhx s;have h2:=qhv s.data.toList [45]
 have hds:(ByteArray.mk (Lib.trimPrefix s.data.toList [45]).toArray).size≤1073741824:=by
  rw[←qhx,hdl];omega
 refine⟨⟨(Lib.cut (Lib.trimPrefix s.data.toList [45]) [47]).1.toArray⟩,⟨(Lib.cut (Lib.trimPrefix s.data.toList [45]) [47]).2.1.toArray⟩,Lib.hasPrefix s.data.toList [45],(Lib.cut (Lib.trimPrefix s.data.toList [45]) [47]).2.2,by simp,by simp,rfl,rfl,hg,hs,⟨_,fun W=>Tryz.strings_CutPrefix s ⟨#[45]⟩ W,fun W hW => ?_⟩, ?_⟩
 ·obtain⟨_,m,hm⟩:=hW.gw hg
  refine(Tryz.strings_Cut _ ⟨#[47]⟩ m W (Nat.lt_of_le_of_lt hds (by omega)) hm).mono ?_;rintro e w' ⟨h1,k,h2⟩;refine⟨h1, ?_⟩;rw[h2];exact hW.later (below_drewN (Below.refl _ _) k)
 ·have h1:=qm0 (Lib.trimPrefix s.data.toList [45]) [47]
  simp only[ByteArray.size,List.size_toArray] at *;omega
theorem q52{s a b:ByteArray}{neg f:Bool}{w:World}(R:qr5 s a b neg f w):qaa s.data.toList =
  if !qbe a.data.toList||(neg&&a.data.toList==[48]) then 1
  else if f&&(!qbe b.data.toList||b.data.toList==[48]||b.data.toList==[49]) then 1
  else if 600<a.data.toList.length∨600<b.data.toList.length then 4
  else if qlu s.data.toList=s.data.toList then 0 else 1:=by
 unfold qaa;rw[R.top,R.bottom,R.found,R.sign]
theorem q53{l sep:List UInt8}(h:(Lib.cut l sep).2.2=false):(Lib.cut l sep).2.1=[]:=by
 unfold Lib.cut at *;split
 ·rename_i h1
  rw[if_pos h1] at h;cases h
 ·rfl
theorem qzp{s a b:ByteArray}{neg f:Bool}{w:World}(R:qr5 s a b neg f w)(ha:qbe a.data.toList=true)(hb:f=true→qbe b.data.toList=true∧b.data.toList≠[48]):qf9 s.data.toList=some (qav s.data.toList):=by
 have hp:qcq s.data.toList=(neg,a.data.toList,if f then b.data.toList else[49]):=by
  unfold qcq;rw[R.top,R.bottom,R.found,R.sign]
 have h1:qkv (if f then b.data.toList else[49])=true∧qa0 0 (if f then b.data.toList else[49])≠0:=by
  cases f
  ·exact⟨rfl,by show qa0 0 [49]≠0;decide⟩
  ·obtain⟨h2,h3⟩:=hb rfl
   exact⟨qeg h2,qid h2 h3⟩
 have h2:(qkv (qcq s.data.toList).2.1&&qkv (qcq s.data.toList).2.2&&decide (qa0 0 (qcq s.data.toList).2.2≠0))=true:=by
  rw[hp];show(qkv a.data.toList&&qkv (if f then b.data.toList else[49])&&decide (qa0 0 (if f then b.data.toList else[49])≠0))=true;rw[qeg ha,h1.1,decide_eq_true h1.2];rfl
 unfold qav qf9;rw[if_pos h2];rfl
theorem q54{w:World}(s:ByteArray)(hg:GW w)(hs:s.size≤1073741824)(h:qf9 s.data.toList=some (qav s.data.toList))(W:World)(hW:qe1 w W):
  Calls Tryz.prog 55 #[.string s] W fun e w'=>(∃v',e = .returned (.tuple #[v',.bool true])∧qaj w' v' (qav s.data.toList))∧qe1 w w':=
 (qx1 s W (hW.gw hg) hs).mono fun e w' hr=>by
  rw[h] at hr;exact⟨hr.1,hW.later hr.2⟩
theorem qx2(z:Int)(d:Nat):(z:Rat)/((d:Int):Rat)=mkRat z d:=by
 rw[Rat.mkRat_eq_div];rfl
theorem q80(z:Int)(d:Nat)(hd:d≠0):((z:Rat)/((d:Int):Rat)).num.natAbs≤z.natAbs∧((z:Rat)/((d:Int):Rat)).den≤d:=by
 rw[qx2,Rat.num_mkRat,Rat.den_mkRat,if_neg hd,if_neg hd];exact⟨Int.natAbs_ediv_le_natAbs _ _,Nat.div_le_self _ _⟩
theorem q81{s a b:ByteArray}{neg f:Bool}{w:World}(R:qr5 s a b neg f w):rs (qav s.data.toList)≤Cap:=by
 have hp:qcq s.data.toList=(neg,a.data.toList,if f then b.data.toList else[49]):=by
  unfold qcq;rw[R.top,R.bottom,R.found,R.sign]
 have hl:(if f then b.data.toList else[49]).length≤1073741824:=by
  have:=R.short.2;have:=qhx b;cases f
  ·show 1≤_;omega
  ·show b.data.toList.length≤_;omega
 generalize (if f then b.data.toList else[49])=bb at *;unfold qav qf9;rw[hp];simp only;split
 ·rename_i h
  rw[Bool.and_eq_true,Bool.and_eq_true,decide_eq_true_iff] at h;show rs ((((if neg then -(qa0 0 a.data.toList:Int) else(qa0 0 a.data.toList:Int)):Int):Rat)/((qa0 0 bb:Int):Rat))≤Cap;have hq:=q80 (if neg then -(qa0 0 a.data.toList:Int) else(qa0 0 a.data.toList:Int)) _ h.2;have h1:=qmz _ ((qez _).1 h.1.1).2;have h2:=qmz _ ((qez _).1 h.1.2).2;have e1:(if neg then -(qa0 0 a.data.toList:Int) else(qa0 0 a.data.toList:Int)).natAbs=qa0 0 a.data.toList:=by cases neg<;>simp
  rw[e1] at hq;have h3:=qdj hq.1;have h4:=qdj hq.2;have h5:=R.short.1;have h6:=qhx a;unfold rs;have hc:(1073741824+1073741824:Nat)≤Cap:=by unfold Cap;omega
  omega
 ·show rs 0≤Cap
  have:rs 0=1:=by rw[show(0:Rat)=((0:Int):Rat) from rfl,qj2,show wl (0:Int).natAbs=0 from qcp]
  rw[this];exact qkq
theorem qx3{q:Rat}{W:World}{v:Value}(hv:qaj W v q)(hc:rs q≤Cap):
  Calls Tryz.prog 97 #[v,.int .i64 600] W fun e w'=>(e = .returned (.tuple #[.string (if qa4 q 600 then⟨(qat q).toArray⟩ else⟨#[]⟩),.bool (qa4 q 600)]))∧Below W.heap.size W w':=
 q5y v q 600 W hv hc (by omega) (by omega)
end Go.Proofs.YthjagoogkkgelaaGreatDoor
