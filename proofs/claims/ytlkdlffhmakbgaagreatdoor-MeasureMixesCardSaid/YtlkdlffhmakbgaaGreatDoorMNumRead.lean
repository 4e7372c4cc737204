/- IsName: whether a text is a name. -/
import Derived.Test.YtlkdlffhmakbgaaGreatDoorMWrite
import Derived.Test.YtlkdlffhmakbgaaGreatDoorMReadWalk
set_option linter.all false
namespace Go.Proofs.YtlkdlffhmakbgaaGreatDoor
open Go.RowKit
set_option maxRecDepth 100000
set_option maxHeartbeats 1000000
def qio(c:Int):Bool:=decide ((97≤c∧c≤122)∨(65≤c∧c≤90)∨(48≤c∧c≤57)∨c=45∨c=95∨c=46)
def qdl(l:List UInt8):Bool:=l.all (fun c=>qio c.toNat)&&decide (1≤l.length∧l.length≤24)
theorem qhd{c:Int}(h:(97≤c∧c≤122)∨(65≤c∧c≤90)∨(48≤c∧c≤57)∨c=45∨c=95∨c=46):qio c=true:=qag h
theorem qhz{c:Int}(h:¬((97≤c∧c≤122)∨(65≤c∧c≤90)∨(48≤c∧c≤57)∨c=45∨c=95∨c=46)):qio c=false:=qaf h
theorem qil(c:Int)(w:World):
  Calls Tryz.prog 63 #[.int .i32 c] w fun e w'=>e = .returned (.bool (qio c))∧w'=w:=by
 by_cases h1:97≤c∧c≤122
 ·obtain⟨a,b⟩:=h1
  have HE:=hid (qhd (c:=c) (.inl ⟨a,b⟩));go_enter Tryz.func63,Tryz.ntmps63;go_wp2_with fail
  all_goals(go_ret;exact⟨qa9 HE.out.symm,rfl⟩)
 by_cases h2:65≤c∧c≤90
 ·obtain⟨a,b⟩:=h2
  have a1:¬97≤c:=by omega
  have HE:=hid (qhd (c:=c) (.inr (.inl ⟨a,b⟩)));clear h1;go_enter Tryz.func63,Tryz.ntmps63;go_wp2_with fail
  all_goals(go_ret;exact⟨qa9 HE.out.symm,rfl⟩)
 by_cases h3:48≤c∧c≤57
 ·obtain⟨a,b⟩:=h3
  have a1:¬97≤c:=by omega
  have a2:¬65≤c:=by omega
  have HE:=hid (qhd (c:=c) (.inr (.inr (.inl ⟨a,b⟩))));clear h1 h2;go_enter Tryz.func63,Tryz.ntmps63;go_wp2_with fail
  all_goals(go_ret;exact⟨qa9 HE.out.symm,rfl⟩)
 by_cases h4:c=45∨c=95∨c=46
 ·have HE:=hid (qhd (c:=c) (.inr (.inr (.inr h4))))
  rcases h4 with rfl|rfl|rfl
  all_goals
   clear h1 h2 h3;go_enter Tryz.func63,Tryz.ntmps63;go_wp2_with fail;go_ret;exact⟨qa9 HE.out.symm,rfl⟩
 ·have HE:=hid (qhz (c:=c) (by omega))
  have b1:(c==45)=false:=qam (by omega);have b2:(c==95)=false:=qam (by omega);have b3:(c==46)=false:=qam (by omega);have g1:(decide (97≤c)&&decide (c≤122))=false:=by rw[←Bool.decide_and];exact qaf h1
  by_cases a1:97≤c
  ·have a2:¬c≤122:=by omega
   have a3:65≤c:=by omega
   have a4:¬c≤90:=by omega
   have a5:48≤c:=by omega
   have a6:¬c≤57:=by omega
   clear h1 h2 h3 h4 g1;go_enter Tryz.func63,Tryz.ntmps63;go_wp2_with fail
   all_goals(go_ret;exact⟨qa9 HE.out.symm,rfl⟩)
  ·by_cases a3:65≤c
   ·have a4:¬c≤90:=by omega
    have a5:48≤c:=by omega
    have a6:¬c≤57:=by omega
    clear h1 h2 h3 h4 g1;go_enter Tryz.func63,Tryz.ntmps63;go_wp2_with fail
    all_goals(go_ret;exact⟨qa9 HE.out.symm,rfl⟩)
   ·by_cases a5:48≤c
    ·have a6:¬c≤57:=by omega
     clear h1 h2 h3 h4 g1;go_enter Tryz.func63,Tryz.ntmps63;go_wp2_with fail
     all_goals(go_ret;exact⟨qa9 HE.out.symm,rfl⟩)
    ·clear h1 h2 h3 h4 g1
     go_enter Tryz.func63,Tryz.ntmps63;go_wp2_with fail
     all_goals(go_ret;exact⟨qa9 HE.out.symm,rfl⟩)
theorem qqp(s:BA)(k:Nat)(h:k<s.size)(hb:qio (s[k]'h).toNat=false):qdl s.data.toList=false:=by
 unfold qdl;rw[Bool.and_eq_false_iff]
 left
 rw[List.all_eq_false];exact⟨s[k]'h,by rw[←qdv s k h];exact List.getElem_mem _,by simp[hb]⟩
theorem q1f(s:BA)(pos:Nat)(h:pos<s.size):(qio (s[pos]'h).toNat=true∧Utf8.decode s pos=((s[pos]'h).toNat,1))∨(qio (s[pos]'h).toNat=false∧qio (Utf8.decode s pos).1=false):=by
 by_cases ha:(s[pos]'h).toNat<128
 ·rw[decode_ascii s pos h ha]
  cases hn:qio (s[pos]'h).toNat
  ·exact .inr ⟨rfl,by first|exact hn|rfl⟩
  ·exact .inl ⟨rfl,rfl⟩
 ·right
  have h2:=(decode_high s pos h (by omega)).1;exact⟨qhz (by omega),qhz (by omega)⟩
theorem qjs(s:BA)(w:World):
  Calls Tryz.prog 23 #[.string s] w fun e w'=>e = .returned (.bool (qdl s.data.toList))∧Below w.heap.size w w':=by
 have nD:=hid (fun p=>qqm w s p);have kP:=hid (qqp s);have Iw:=hid (q1f s);have iW:=hid (qcx s)
 have oW:Hid ((∀c ∈ s.data.toList.take s.size,qio c.toNat=true)→qdl s.data.toList=decide (1≤s.size∧s.size≤24)):=hid fun h=>by
  rw[List.take_of_length_le (by simp)] at h;unfold qdl;rw[List.all_eq_true.2 h,Bool.true_and];simp
 generalize qdl s.data.toList=res at *;go_enter Tryz.func23,Tryz.ntmps23;go_wp2_with fail
 go_loopw [4] (fun _ wr=>∃pos:Nat,pos≤s.size∧wr=w.iter s pos∧Hid (∀c ∈ s.data.toList.take pos,qio c.toNat=true)) (fun _ w'=>s.size-w'.iterPos w.heap.size)
 case atStart=>exact⟨0,Nat.zero_le _,rfl,hid (by simp)⟩
 case round=>
  obtain⟨pos,Ls,rfl,HD⟩:=hrel;by_cases hp:pos<s.size
  ·rcases Iw.out pos hp with⟨hn,tI⟩|⟨hn,tI⟩
   ·have Lt:∀ty,(Instr.next (.pointer (some ⟨w.heap.size,0,none⟩)) true ty).run Tryz.prog (w.iter s pos)=_:=fun ty=>run_next_any w s pos ty hp
    rw[tI] at Lt
    have nM:Hid (∀c ∈ s.data.toList.take (pos+1),qio c.toNat=true):=hid (by
     rw[iW.out pos hp];intro c hc;rcases List.mem_append.1 hc with hc|hc
     ·exact HD.out c hc
     ·rw[List.mem_singleton.1 hc];exact hn)
    have xK:Hid (∀W,Calls Tryz.prog 63 #[.int .i32 ((s[pos]'hp).toNat:Int)] W fun e w'=>e = .returned (.bool true)∧w'=W):=hid fun W=>by rw[←hn];exact qil _ W
    clear hn tI;go_wp2_with fail;refine(xK.out _).mono ?_;rintro e w' ⟨rfl,hw'⟩;rw[hw'];clear hw' xK;go_wp2_with fail;go_roundw
    case rel=>exact⟨pos+1,by omega,rfl,nM⟩
    case measure=>simp;omega
   ·have aV:=hid (kP.out pos hp hn)
    have Lt:∀ty,(Instr.next (.pointer (some ⟨w.heap.size,0,none⟩)) true ty).run Tryz.prog (w.iter s pos)=_:=fun ty=>run_next_any w s pos ty hp;have xK:Hid (∀W,Calls Tryz.prog 63 #[.int .i32 ((Utf8.decode s pos).1:Int)] W fun e w'=>e = .returned (.bool false)∧w'=W):=hid fun W=>by rw[←tI];exact qil _ W
    clear hn tI;generalize (Utf8.decode s pos).2=wid at *;generalize (Utf8.decode s pos).1=c at *;go_wp2_with fail;refine(xK.out _).mono ?_;rintro e w' ⟨rfl,hw'⟩;rw[hw'];clear hw' xK;go_wp2_with fail;go_ret;exact⟨qa9 aV.out.symm,nD.out _⟩
  ·have Dd:pos=s.size:=by omega
   have aV:Hid (res=decide (1≤s.size∧s.size≤24)):=hid (oW.out (by rw[←Dd];exact HD.out));have Lt:∀ty,(Instr.next (.pointer (some ⟨w.heap.size,0,none⟩)) true ty).run Tryz.prog (w.iter s pos)=_:=fun ty=>run_next_end w s pos ty hp;clear Dd;by_cases h1:1≤s.size
   ·by_cases h2:s.size≤24
    ·have HR:Hid (decide ((s.size:Int)≤24)=res):=hid (by rw[aV.out,qag (show 1≤s.size∧s.size≤24 from⟨h1,h2⟩)];exact qag (by omega))
     go_wp2_with fail;go_ret;exact⟨qa9 HR.out,nD.out _⟩
    ·have HR:Hid (decide ((s.size:Int)≤24)=res):=hid (by rw[aV.out,qaf (show ¬(1≤s.size∧s.size≤24) from by omega)];exact qaf (by omega))
     go_wp2_with fail;go_ret;exact⟨qa9 HR.out,nD.out _⟩
   ·have HR:Hid (res=false):=hid (by rw[aV.out];exact qaf (by omega))
    go_wp2_with fail;go_ret;exact⟨qa9 HR.out.symm,nD.out _⟩
def qbs(l:List UInt8):Bool:=qj7 l&&(l==[48]||l.head? != some 48)
theorem qu7(s:BA)(w:World):
  Calls Tryz.prog 96 #[.string s] w fun e w'=>e = .returned (.bool (qbs s.data.toList))∧Below w.heap.size w w':=by
 have tJ:=hid (qf0 s w);by_cases ha:qj7 s.data.toList=true
 ·rw[ha] at tJ
  have hne:=((qef _).1 ha).1
  have dK:0<s.size:=by
   rcases qas s.size with e|e
   ·exfalso;apply hne
    have:s.data.toList.length=0:=by simpa using e
    exact List.eq_nil_of_length_eq_zero this
   ·exact e
  by_cases h0:s.data.toList=[48]
  ·have hs:s=⟨#[48]⟩:=by
    have:s.data=#[48]:=by rw[←Array.toArray_toList (xs:=s.data),h0]
    cases s
    simp at this;rw[this]
   subst hs;have HR:Hid (qbs (ByteArray.mk #[48]).data.toList=true):=hid (by rfl);clear ha hne dK h0;go_enter Tryz.func96,Tryz.ntmps96;go_wp2_with fail;refine tJ.out.mono ?_;rintro e w1 ⟨rfl,hb⟩;have HB:=hid hb;clear hb;go_wp2_with fail;go_ret;exact⟨qa9 HR.out.symm,HB.out⟩
  ·have hhd:s.data.toList.head? = some (s[0]'dK):=by
    rw[←qdv s 0 dK];exact List.head?_eq_getElem? .. ▸ qap _
   have nV:qbs s.data.toList=((s[0]'dK) != 48):=by
    unfold qbs;rw[ha,hhd];have:(s.data.toList==[48])=false:=qam h0;rw[this];simp[bne]
   have iA:¬s.toList=[48]:=by rw[ByteArray.toList_eq];exact h0
   have HR:Hid ((s.toList==[48]||((s[0]'dK).toNat:Int) != 48)=qbs s.data.toList):=hid (by
    rw[nV,qam iA,Bool.false_or,Bool.eq_iff_iff];simp only[bne_iff_ne,ne_eq];have e48:(48:UInt8).toNat=48:=rfl;constructor
    ·intro h h2
     apply h;rw[h2];rfl
    ·intro h h2
     apply h;apply UInt8.toNat_inj.1
     omega)
   clear hne nV hhd h0 ha;go_enter Tryz.func96,Tryz.ntmps96;go_wp2_with fail;refine tJ.out.mono ?_;rintro e w1 ⟨rfl,hb⟩;have HB:=hid hb;clear hb;go_wp2_with fail;go_ret;exact⟨qa9 HR.out,HB.out⟩
 ·have ha':qj7 s.data.toList=false:=by simpa using ha
  rw[ha'] at tJ;have HR:Hid (qbs s.data.toList=false):=hid (by unfold qbs;rw[ha'];rfl);clear ha ha';go_enter Tryz.func96,Tryz.ntmps96;go_wp2_with fail;refine tJ.out.mono ?_;rintro e w1 ⟨rfl,hb⟩;have HB:=hid hb;clear hb;go_wp2_with fail;go_ret;exact⟨qa9 HR.out.symm,HB.out⟩
def qbc(l:List UInt8):Rat:=(qf1 l).getD 0
def qlg(l:List UInt8):List UInt8:=if qby (qbc l) 600 then qa2 (qbc l) else[]
def qah(l:List UInt8):Nat:=
 if !qbs (Lib.cut (Lib.trimPrefix l [45]) [47]).1||(Lib.hasPrefix l [45]&&(Lib.cut (Lib.trimPrefix l [45]) [47]).1==[48]) then 1
 else if(Lib.cut (Lib.trimPrefix l [45]) [47]).2.2&&(!qbs (Lib.cut (Lib.trimPrefix l [45]) [47]).2.1||(Lib.cut (Lib.trimPrefix l [45]) [47]).2.1==[48]||(Lib.cut (Lib.trimPrefix l [45]) [47]).2.1==[49]) then 1
 else if 600<(Lib.cut (Lib.trimPrefix l [45]) [47]).1.length∨600<(Lib.cut (Lib.trimPrefix l [45]) [47]).2.1.length then 4
 else if qlg l=l then 0 else 1
def qkm(l:List UInt8)(w:World)(e:Ending)(w':World):Prop:=
 (if qah l=0 then ∃v',e = .returned (.tuple #[v',.int .i64 0])∧qau w' v' (qbc l)
  else e = .returned (.tuple #[.agg #[.bool false,.slice none 0 0,.slice none 0 0],.int .i64 (qah l)]))∧Below w.heap.size w w'
theorem q1g{l:List UInt8}{w w':World}{e:Ending}{k:Int}(h:qah l≠0)(hk:k=qah l)(he:e = .returned (.tuple #[.agg #[.bool false,.slice none 0 0,.slice none 0 0],.int .i64 k]))(hb:Below w.heap.size w w'):qkm l w e w':=by
 unfold qkm;rw[if_neg h,←hk];exact⟨he,hb⟩
theorem q44{l:List UInt8}{w w':World}{e:Ending}{v':Value}(h:qah l=0)(he:e = .returned (.tuple #[v',.int .i64 0]))(hv:qau w' v' (qbc l))(hb:Below w.heap.size w w'):qkm l w e w':=by
 unfold qkm;rw[if_pos h];exact⟨⟨v',he,hv⟩,hb⟩
theorem qej{l:List UInt8}(h:qbs l=true):qj7 l=true:=by
 unfold qbs at h;rw[Bool.and_eq_true] at h;exact h.1
theorem qh0{l:List UInt8}(h:qbs l=true)(h0:l≠[48]):qbd 0 l≠0:=by
 have ha:=qej h;unfold qbs at h;rw[Bool.and_eq_true,Bool.or_eq_true,beq_iff_eq] at h;have h2:=h.2.resolve_left h0;obtain⟨hne,hd⟩:=(qef l).1 ha
 match l,hne with
 | c::r,_=>
  have hc:=(qmk c).1 (hd c (List.mem_cons_self ..))
  have hc48:c≠48:=by
   intro e;rw[e] at h2;simp at h2
  have hn:c.toNat≠48:=fun e=>hc48 (UInt8.toNat_inj.1 (by rw[e];rfl));rw[qge];have:=q05 r (0*10+(c.toNat-48));omega
theorem qow{w:World}(s:BA)(b:Bool)(hb:qbs s.data.toList=b)(W:World)(hW:qe1 w W):
  Calls Tryz.prog 96 #[.string s] W fun e w'=>e = .returned (.bool b)∧qe1 w w':=
 (qu7 s W).mono fun e w' ⟨h1,h2⟩=>⟨by rw[h1,hb],hW.later h2⟩
theorem qox{a:BA}{l:List UInt8}(h:(a.data.toList==l)=false):¬a.toList=l:=by
 rw[ByteArray.toList_eq];exact beq_eq_false_iff_ne.1 h
theorem qmp{a:BA}{l:List UInt8}(h:(a.data.toList==l)=true):a.toList=l:=by
 rw[ByteArray.toList_eq];exact eq_of_beq h
theorem qbt{W:World}{g:Nat}{na:Bool}{ta ba:Value}(h:Own W g 3 (qcs na ta ba)):
  (W.cell? ⟨g,0,none⟩=some (.bool na))∧(W.cell? ⟨g,1,none⟩=some ta)∧(W.cell? ⟨g,2,none⟩=some ba):=
 ⟨(h.2 0 (by omega)).1,(h.2 1 (by omega)).1,(h.2 2 (by omega)).1⟩
structure qrl(s a b:BA)(neg f:Bool)(w:World):Prop where
 top:(Lib.cut (Lib.trimPrefix s.data.toList [45]) [47]).1=a.data.toList
 bottom:(Lib.cut (Lib.trimPrefix s.data.toList [45]) [47]).2.1=b.data.toList
 found:(Lib.cut (Lib.trimPrefix s.data.toList [45]) [47]).2.2=f
 sign:Lib.hasPrefix s.data.toList [45]=neg
 gw:GW w
 size:s.size≤1073741824
 leadPart:∃d:BA,(∀W,Calls Tryz.prog 92 #[.string s,.string ⟨#[45]⟩] W fun e w'=>e = .returned (.tuple #[.string d,.bool neg])∧w'=W)∧
  (∀W,qe1 w W→Calls Tryz.prog 40 #[.string d,.string ⟨#[47]⟩] W fun e w'=>e = .returned (.tuple #[.string a,.string b,.bool f])∧qe1 w w')
 short:a.size≤1073741824∧b.size≤1073741824
theorem q45{x y:BA}(h:x.data.toList=y.data.toList):x=y:=by
 cases x;cases y
 simp only[ByteArray.mk.injEq];exact Array.toList_inj.1 h
theorem qhe(s:BA):s.data.toList.length=s.size:=by simp
theorem qy5(s:BA)(w:World)(hg:GW w)(hs:s.size≤1073741824):∃a b neg f,qrl s a b neg f w:=by
 have uG:(ByteArray.mk (Lib.trimPrefix s.data.toList [45]).toArray).data.toList=Lib.trimPrefix s.data.toList [45]:=by simp
 have h3:s.data.toList.length=s.size:=qhe s;have h2:=qhc s.data.toList [45]
 have Iu:(ByteArray.mk (Lib.trimPrefix s.data.toList [45]).toArray).size≤1073741824:=by
  rw[←qhe,uG];omega
 refine⟨⟨(Lib.cut (Lib.trimPrefix s.data.toList [45]) [47]).1.toArray⟩,⟨(Lib.cut (Lib.trimPrefix s.data.toList [45]) [47]).2.1.toArray⟩,Lib.hasPrefix s.data.toList [45],(Lib.cut (Lib.trimPrefix s.data.toList [45]) [47]).2.2,by simp,by simp,rfl,rfl,hg,hs,⟨_,fun W=>Tryz.strings_CutPrefix s ⟨#[45]⟩ W,fun W hW => ?_⟩, ?_⟩
 ·obtain⟨_,m,hm⟩:=hW.gw hg
  refine(Tryz.strings_Cut _ ⟨#[47]⟩ m W (Nat.lt_of_le_of_lt Iu (by omega)) hm).mono ?_;rintro e w' ⟨h1,k,h2⟩;refine⟨h1, ?_⟩;rw[h2];exact hW.later (below_drewN (qaa _ _) k)
 ·have h1:=qmo (Lib.trimPrefix s.data.toList [45]) [47]
  simp only[ByteArray.size,List.size_toArray] at *;omega
theorem q46{s a b:BA}{neg f:Bool}{w:World}(R:qrl s a b neg f w):qah s.data.toList =
  if !qbs a.data.toList||(neg&&a.data.toList==[48]) then 1
  else if f&&(!qbs b.data.toList||b.data.toList==[48]||b.data.toList==[49]) then 1
  else if 600<a.data.toList.length∨600<b.data.toList.length then 4
  else if qlg s.data.toList=s.data.toList then 0 else 1:=by
 unfold qah;rw[R.top,R.bottom,R.found,R.sign]
theorem q47{l sep:List UInt8}(h:(Lib.cut l sep).2.2=false):(Lib.cut l sep).2.1=[]:=by
 unfold Lib.cut at *;split
 ·rename_i h1
  rw[if_pos h1] at h;cases h
 ·rfl
theorem qy6{s a b:BA}{neg f:Bool}{w:World}(R:qrl s a b neg f w)(ha:qbs a.data.toList=true)(hb:f=true→qbs b.data.toList=true∧b.data.toList≠[48]):qf1 s.data.toList=some (qbc s.data.toList):=by
 have hp:qcz s.data.toList=(neg,a.data.toList,if f then b.data.toList else[49]):=by
  unfold qcz;rw[R.top,R.bottom,R.found,R.sign]
 have h1:qj7 (if f then b.data.toList else[49])=true∧qbd 0 (if f then b.data.toList else[49])≠0:=by
  cases f
  ·exact⟨rfl,by show qbd 0 [49]≠0;decide⟩
  ·obtain⟨h2,h3⟩:=hb rfl
   exact⟨qej h2,qh0 h2 h3⟩
 have h2:(qj7 (qcz s.data.toList).2.1&&qj7 (qcz s.data.toList).2.2&&decide (qbd 0 (qcz s.data.toList).2.2≠0))=true:=by
  rw[hp];show(qj7 a.data.toList&&qj7 (if f then b.data.toList else[49])&&decide (qbd 0 (if f then b.data.toList else[49])≠0))=true;rw[qej ha,h1.1,qag h1.2];rfl
 unfold qbc qf1;rw[if_pos h2];rfl
theorem q48{w:World}(s:BA)(hg:GW w)(hs:s.size≤1073741824)(h:qf1 s.data.toList=some (qbc s.data.toList))(W:World)(hW:qe1 w W):
  Calls Tryz.prog 43 #[.string s] W fun e w'=>(∃v',e = .returned (.tuple #[v',.bool true])∧qau w' v' (qbc s.data.toList))∧qe1 w w':=
 (qw7 s W (hW.gw hg) hs).mono fun e w' hr=>by
  rw[h] at hr;exact⟨hr.1,hW.later hr.2⟩
theorem qw8(z:Int)(d:Nat):(z:Rat)/((d:Int):Rat)=mkRat z d:=by
 rw[Rat.mkRat_eq_div];rfl
theorem q7j(z:Int)(d:Nat)(hd:d≠0):((z:Rat)/((d:Int):Rat)).num.natAbs≤z.natAbs∧((z:Rat)/((d:Int):Rat)).den≤d:=by
 rw[qw8,Rat.num_mkRat,Rat.den_mkRat,if_neg hd,if_neg hd];exact⟨Int.natAbs_ediv_le_natAbs _ _,Nat.div_le_self _ _⟩
theorem q7k{s a b:BA}{neg f:Bool}{w:World}(R:qrl s a b neg f w):rs (qbc s.data.toList)≤Cap:=by
 have hp:qcz s.data.toList=(neg,a.data.toList,if f then b.data.toList else[49]):=by
  unfold qcz;rw[R.top,R.bottom,R.found,R.sign]
 have hl:(if f then b.data.toList else[49]).length≤1073741824:=by
  have:=R.short.2;have:=qhe b;cases f
  ·show 1≤_;omega
  ·show b.data.toList.length≤_;omega
 generalize (if f then b.data.toList else[49])=bb at *;unfold qbc qf1;rw[hp];simp only;split
 ·rename_i h
  rw[Bool.and_eq_true,Bool.and_eq_true,decide_eq_true_iff] at h;show rs ((((if neg then -(qbd 0 a.data.toList:Int) else(qbd 0 a.data.toList:Int)):Int):Rat)/((qbd 0 bb:Int):Rat))≤Cap;have hq:=q7j (if neg then -(qbd 0 a.data.toList:Int) else(qbd 0 a.data.toList:Int)) _ h.2;have h1:=qmn _ ((qef _).1 h.1.1).2;have h2:=qmn _ ((qef _).1 h.1.2).2;have e1:(if neg then -(qbd 0 a.data.toList:Int) else(qbd 0 a.data.toList:Int)).natAbs=qbd 0 a.data.toList:=by cases neg<;>simp
  rw[e1] at hq;have h3:=qdp hq.1;have h4:=qdp hq.2;have h5:=R.short.1;have h6:=qhe a;unfold rs;have hc:(1073741824+1073741824:Nat)≤Cap:=by unfold Cap;omega
  omega
 ·show rs 0≤Cap
  have:rs 0=1:=by rw[show(0:Rat)=((0:Int):Rat) from rfl,qjr,show wl (0:Int).natAbs=0 from qcw]
  rw[this];exact qkh
theorem qw9{q:Rat}{W:World}{v:Value}(hv:qau W v q)(hc:rs q≤Cap):
  Calls Tryz.prog 95 #[v,.int .i64 600] W fun e w'=>(e = .returned (.tuple #[.string (if qby q 600 then⟨(qa2 q).toArray⟩ else⟨#[]⟩),.bool (qby q 600)]))∧Below W.heap.size W w':=
 q42 v q 600 W hv hc (by omega) (by omega)
end Go.Proofs.YtlkdlffhmakbgaaGreatDoor
