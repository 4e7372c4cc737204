/- IsName: whether a text is a name. -/
import Derived.Test.YtmcfcpgglfimjaaGreatDoorMWrite
import Derived.Test.YtmcfcpgglfimjaaGreatDoorMReadWalk
set_option linter.all false
namespace Go.Proofs.YtmcfcpgglfimjaaGreatDoor
open Go.RowKit
set_option maxRecDepth 100000
set_option maxHeartbeats 1000000
def qiq(c:Int):Bool:=decide ((97≤c∧c≤122)∨(65≤c∧c≤90)∨(48≤c∧c≤57)∨c=45∨c=95∨c=46)
def qbx(l:List UInt8):Bool:=l.all (fun c=>qiq c.toNat)&&decide (1≤l.length∧l.length≤24)
theorem qhh{c:Int}(h:(97≤c∧c≤122)∨(65≤c∧c≤90)∨(48≤c∧c≤57)∨c=45∨c=95∨c=46):qiq c=true:=qag h
theorem qh0{c:Int}(h:¬((97≤c∧c≤122)∨(65≤c∧c≤90)∨(48≤c∧c≤57)∨c=45∨c=95∨c=46)):qiq c=false:=qae h
theorem qim(c:Int)(w:World):
  Calls Tryz.prog 61 #[.int .i32 c] w fun e w'=>e = .returned (.bool (qiq c))∧w'=w:=by
 by_cases h1:97≤c∧c≤122
 ·obtain⟨a,b⟩:=h1
  have HE:=hid (qhh (c:=c) (.inl ⟨a,b⟩));go_enter Tryz.func61,Tryz.ntmps61;go_wp2_with fail
  all_goals(go_ret;exact⟨qa8 HE.out.symm,rfl⟩)
 by_cases h2:65≤c∧c≤90
 ·obtain⟨a,b⟩:=h2
  have a1:¬97≤c:=by omega
  have HE:=hid (qhh (c:=c) (.inr (.inl ⟨a,b⟩)));clear h1;go_enter Tryz.func61,Tryz.ntmps61;go_wp2_with fail
  all_goals(go_ret;exact⟨qa8 HE.out.symm,rfl⟩)
 by_cases h3:48≤c∧c≤57
 ·obtain⟨a,b⟩:=h3
  have a1:¬97≤c:=by omega
  have a2:¬65≤c:=by omega
  have HE:=hid (qhh (c:=c) (.inr (.inr (.inl ⟨a,b⟩))));clear h1 h2;go_enter Tryz.func61,Tryz.ntmps61;go_wp2_with fail
  all_goals(go_ret;exact⟨qa8 HE.out.symm,rfl⟩)
 by_cases h4:c=45∨c=95∨c=46
 ·have HE:=hid (qhh (c:=c) (.inr (.inr (.inr h4))))
  rcases h4 with rfl|rfl|rfl
  all_goals
   clear h1 h2 h3;go_enter Tryz.func61,Tryz.ntmps61;go_wp2_with fail;go_ret;exact⟨qa8 HE.out.symm,rfl⟩
 ·have HE:=hid (qh0 (c:=c) (by omega))
  have b1:(c==45)=false:=qan (by omega);have b2:(c==95)=false:=qan (by omega);have b3:(c==46)=false:=qan (by omega);have g1:(decide (97≤c)&&decide (c≤122))=false:=by rw[←Bool.decide_and];exact qae h1
  by_cases a1:97≤c
  ·have a2:¬c≤122:=by omega
   have a3:65≤c:=by omega
   have a4:¬c≤90:=by omega
   have a5:48≤c:=by omega
   have a6:¬c≤57:=by omega
   clear h1 h2 h3 h4 g1;go_enter Tryz.func61,Tryz.ntmps61;go_wp2_with fail
   all_goals(go_ret;exact⟨qa8 HE.out.symm,rfl⟩)
  ·by_cases a3:65≤c
   ·have a4:¬c≤90:=by omega
    have a5:48≤c:=by omega
    have a6:¬c≤57:=by omega
    clear h1 h2 h3 h4 g1;go_enter Tryz.func61,Tryz.ntmps61;go_wp2_with fail
    all_goals(go_ret;exact⟨qa8 HE.out.symm,rfl⟩)
   ·by_cases a5:48≤c
    ·have a6:¬c≤57:=by omega
     clear h1 h2 h3 h4 g1;go_enter Tryz.func61,Tryz.ntmps61;go_wp2_with fail
     all_goals(go_ret;exact⟨qa8 HE.out.symm,rfl⟩)
    ·clear h1 h2 h3 h4 g1
     go_enter Tryz.func61,Tryz.ntmps61;go_wp2_with fail
     all_goals(go_ret;exact⟨qa8 HE.out.symm,rfl⟩)
theorem qqo(s:BA)(k:Nat)(h:k<s.size)(hb:qiq (s[k]'h).toNat=false):qbx s.data.toList=false:=by
 unfold qbx;rw[Bool.and_eq_false_iff]
 left
 rw[List.all_eq_false];exact⟨s[k]'h,by rw[←qdt s k h];exact List.getElem_mem _,by simp[hb]⟩
theorem q1i(s:BA)(pos:Nat)(h:pos<s.size):(qiq (s[pos]'h).toNat=true∧Utf8.decode s pos=((s[pos]'h).toNat,1))∨(qiq (s[pos]'h).toNat=false∧qiq (Utf8.decode s pos).1=false):=by
 by_cases ha:(s[pos]'h).toNat<128
 ·rw[decode_ascii s pos h ha]
  cases hn:qiq (s[pos]'h).toNat
  ·exact .inr ⟨rfl,by first|exact hn|rfl⟩
  ·exact .inl ⟨rfl,rfl⟩
 ·right
  have h2:=(decode_high s pos h (by omega)).1;exact⟨qh0 (by omega),qh0 (by omega)⟩
theorem qjw(s:BA)(w:World):
  Calls Tryz.prog 22 #[.string s] w fun e w'=>e = .returned (.bool (qbx s.data.toList))∧Below w.heap.size w w':=by
 have nL:=hid (fun p=>qqg w s p);have jV:=hid (qqo s);have Hn:=hid (q1i s);have jD:=hid (qcv s)
 have sI:Hid ((∀c ∈ s.data.toList.take s.size,qiq c.toNat=true)→qbx s.data.toList=decide (1≤s.size∧s.size≤24)):=hid fun h=>by
  rw[List.take_of_length_le (by simp)] at h;unfold qbx;rw[List.all_eq_true.2 h,Bool.true_and];simp
 generalize qbx s.data.toList=res at *;go_enter Tryz.func22,Tryz.ntmps22;go_wp2_with fail
 go_loopw [4] (fun _ wr=>∃pos:Nat,pos≤s.size∧wr=w.iter s pos∧Hid (∀c ∈ s.data.toList.take pos,qiq c.toNat=true)) (fun _ w'=>s.size-w'.iterPos w.heap.size)
 case atStart=>exact⟨0,Nat.zero_le _,rfl,hid (by simp)⟩
 case round=>
  obtain⟨pos,Kb,rfl,HD⟩:=hrel;by_cases hp:pos<s.size
  ·rcases Hn.out pos hp with⟨hn,sU⟩|⟨hn,sU⟩
   ·have Kc:∀ty,(Instr.next (.pointer (some ⟨w.heap.size,0,none⟩)) true ty).run Tryz.prog (w.iter s pos)=_:=fun ty=>run_next_any w s pos ty hp
    rw[sU] at Kc
    have mZ:Hid (∀c ∈ s.data.toList.take (pos+1),qiq c.toNat=true):=hid (by
     rw[jD.out pos hp];intro c hc;rcases List.mem_append.1 hc with hc|hc
     ·exact HD.out c hc
     ·rw[List.mem_singleton.1 hc];exact hn)
    have uW:Hid (∀W,Calls Tryz.prog 61 #[.int .i32 ((s[pos]'hp).toNat:Int)] W fun e w'=>e = .returned (.bool true)∧w'=W):=hid fun W=>by rw[←hn];exact qim _ W
    clear hn sU;go_wp2_with fail;refine(uW.out _).mono ?_;rintro e w' ⟨rfl,hw'⟩;rw[hw'];clear hw' uW;go_wp2_with fail;go_roundw
    case rel=>exact⟨pos+1,by omega,rfl,mZ⟩
    case measure=>simp;omega
   ·have aX:=hid (jV.out pos hp hn)
    have Kc:∀ty,(Instr.next (.pointer (some ⟨w.heap.size,0,none⟩)) true ty).run Tryz.prog (w.iter s pos)=_:=fun ty=>run_next_any w s pos ty hp;have uW:Hid (∀W,Calls Tryz.prog 61 #[.int .i32 ((Utf8.decode s pos).1:Int)] W fun e w'=>e = .returned (.bool false)∧w'=W):=hid fun W=>by rw[←sU];exact qim _ W
    clear hn sU;generalize (Utf8.decode s pos).2=wid at *;generalize (Utf8.decode s pos).1=c at *;go_wp2_with fail;refine(uW.out _).mono ?_;rintro e w' ⟨rfl,hw'⟩;rw[hw'];clear hw' uW;go_wp2_with fail;go_ret;exact⟨qa8 aX.out.symm,nL.out _⟩
  ·have Ga:pos=s.size:=by omega
   have aX:Hid (res=decide (1≤s.size∧s.size≤24)):=hid (sI.out (by rw[←Ga];exact HD.out));have Kc:∀ty,(Instr.next (.pointer (some ⟨w.heap.size,0,none⟩)) true ty).run Tryz.prog (w.iter s pos)=_:=fun ty=>run_next_end w s pos ty hp;clear Ga;by_cases h1:1≤s.size
   ·by_cases h2:s.size≤24
    ·have HR:Hid (decide ((s.size:Int)≤24)=res):=hid (by rw[aX.out,qag (show 1≤s.size∧s.size≤24 from⟨h1,h2⟩)];exact qag (by omega))
     go_wp2_with fail;go_ret;exact⟨qa8 HR.out,nL.out _⟩
    ·have HR:Hid (decide ((s.size:Int)≤24)=res):=hid (by rw[aX.out,qae (show ¬(1≤s.size∧s.size≤24) from by omega)];exact qae (by omega))
     go_wp2_with fail;go_ret;exact⟨qa8 HR.out,nL.out _⟩
   ·have HR:Hid (res=false):=hid (by rw[aX.out];exact qae (by omega))
    go_wp2_with fail;go_ret;exact⟨qa8 HR.out.symm,nL.out _⟩
def qbo(l:List UInt8):Bool:=qj8 l&&(l==[48]||l.head? != some 48)
theorem qu7(s:BA)(w:World):
  Calls Tryz.prog 87 #[.string s] w fun e w'=>e = .returned (.bool (qbo s.data.toList))∧Below w.heap.size w w':=by
 have sV:=hid (qfz s w);by_cases ha:qj8 s.data.toList=true
 ·rw[ha] at sV
  have hne:=((qea _).1 ha).1
  have dG:0<s.size:=by
   rcases qas s.size with e|e
   ·exfalso;apply hne
    have:s.data.toList.length=0:=by simpa using e
    exact List.eq_nil_of_length_eq_zero this
   ·exact e
  by_cases h0:s.data.toList=[48]
  ·have hs:s=⟨#[48]⟩:=by
    have:s.data=#[48]:=by rw[←Array.toArray_toList (xs:=s.data),h0]
    cases s
    simp at this;rw[this]
   subst hs;have HR:Hid (qbo (ByteArray.mk #[48]).data.toList=true):=hid (by rfl);clear ha hne dG h0;go_enter Tryz.func87,Tryz.ntmps87;go_wp2_with fail;refine sV.out.mono ?_;rintro e w1 ⟨rfl,hb⟩;have HB:=hid hb;clear hb;go_wp2_with fail;go_ret;exact⟨qa8 HR.out.symm,HB.out⟩
  ·have hhd:s.data.toList.head? = some (s[0]'dG):=by
    rw[←qdt s 0 dG];exact List.head?_eq_getElem? .. ▸ qat _
   have nG:qbo s.data.toList=((s[0]'dG) != 48):=by
    unfold qbo;rw[ha,hhd];have:(s.data.toList==[48])=false:=qan h0;rw[this];simp[bne]
   have hG:¬s.toList=[48]:=by rw[ByteArray.toList_eq];exact h0
   have HR:Hid ((s.toList==[48]||((s[0]'dG).toNat:Int) != 48)=qbo s.data.toList):=hid (by
    rw[nG,qan hG,Bool.false_or,Bool.eq_iff_iff];simp only[bne_iff_ne,ne_eq];have e48:(48:UInt8).toNat=48:=rfl;constructor
    ·intro h h2
     apply h;rw[h2];rfl
    ·intro h h2
     apply h;apply UInt8.toNat_inj.1
     omega)
   clear hne nG hhd h0 ha;go_enter Tryz.func87,Tryz.ntmps87;go_wp2_with fail;refine sV.out.mono ?_;rintro e w1 ⟨rfl,hb⟩;have HB:=hid hb;clear hb;go_wp2_with fail;go_ret;exact⟨qa8 HR.out,HB.out⟩
 ·have ha':qj8 s.data.toList=false:=by simpa using ha
  rw[ha'] at sV;have HR:Hid (qbo s.data.toList=false):=hid (by unfold qbo;rw[ha'];rfl);clear ha ha';go_enter Tryz.func87,Tryz.ntmps87;go_wp2_with fail;refine sV.out.mono ?_;rintro e w1 ⟨rfl,hb⟩;have HB:=hid hb;clear hb;go_wp2_with fail;go_ret;exact⟨qa8 HR.out.symm,HB.out⟩
def qa9(l:List UInt8):Rat:=(qf1 l).getD 0
def qj6(l:List UInt8):List UInt8:=if qbr (qa9 l) 600 then qa7 (qa9 l) else[]
def qah(l:List UInt8):Nat:=
 if !qbo (Lib.cut (Lib.trimPrefix l [45]) [47]).1||(Lib.hasPrefix l [45]&&(Lib.cut (Lib.trimPrefix l [45]) [47]).1==[48]) then 1
 else if(Lib.cut (Lib.trimPrefix l [45]) [47]).2.2&&(!qbo (Lib.cut (Lib.trimPrefix l [45]) [47]).2.1||(Lib.cut (Lib.trimPrefix l [45]) [47]).2.1==[48]||(Lib.cut (Lib.trimPrefix l [45]) [47]).2.1==[49]) then 1
 else if 600<(Lib.cut (Lib.trimPrefix l [45]) [47]).1.length∨600<(Lib.cut (Lib.trimPrefix l [45]) [47]).2.1.length then 4
 else if qj6 l=l then 0 else 1
def qkl(l:List UInt8)(w:World)(e:Ending)(w':World):Prop:=
 (if qah l=0 then ∃v',e = .returned (.tuple #[v',.int .i64 0])∧qaw w' v' (qa9 l)
  else e = .returned (.tuple #[.agg #[.bool false,.slice none 0 0,.slice none 0 0],.int .i64 (qah l)]))∧Below w.heap.size w w'
theorem q1j{l:List UInt8}{w w':World}{e:Ending}{k:Int}(h:qah l≠0)(hk:k=qah l)(he:e = .returned (.tuple #[.agg #[.bool false,.slice none 0 0,.slice none 0 0],.int .i64 k]))(hb:Below w.heap.size w w'):qkl l w e w':=by
 unfold qkl;rw[if_neg h,←hk];exact⟨he,hb⟩
theorem q5d{l:List UInt8}{w w':World}{e:Ending}{v':Value}(h:qah l=0)(he:e = .returned (.tuple #[v',.int .i64 0]))(hv:qaw w' v' (qa9 l))(hb:Below w.heap.size w w'):qkl l w e w':=by
 unfold qkl;rw[if_pos h];exact⟨⟨v',he,hv⟩,hb⟩
theorem qef{l:List UInt8}(h:qbo l=true):qj8 l=true:=by
 unfold qbo at h;rw[Bool.and_eq_true] at h;exact h.1
theorem qh1{l:List UInt8}(h:qbo l=true)(h0:l≠[48]):qbb 0 l≠0:=by
 have ha:=qef h;unfold qbo at h;rw[Bool.and_eq_true,Bool.or_eq_true,beq_iff_eq] at h;have h2:=h.2.resolve_left h0;obtain⟨hne,hd⟩:=(qea l).1 ha
 match l,hne with
 | c::r,_=>
  have hc:=(qmb c).1 (hd c (List.mem_cons_self ..))
  have hc48:c≠48:=by
   intro e;rw[e] at h2;simp at h2
  have hn:c.toNat≠48:=fun e=>hc48 (UInt8.toNat_inj.1 (by rw[e];rfl));rw[qgc];have:=q0w r (0*10+(c.toNat-48));omega
theorem qop{w:World}(s:BA)(b:Bool)(hb:qbo s.data.toList=b)(W:World)(hW:qeu w W):
  Calls Tryz.prog 87 #[.string s] W fun e w'=>e = .returned (.bool b)∧qeu w w':=
 (qu7 s W).mono fun e w' ⟨h1,h2⟩=>⟨by rw[h1,hb],hW.later h2⟩
theorem qoq{a:BA}{l:List UInt8}(h:(a.data.toList==l)=false):¬a.toList=l:=by
 rw[ByteArray.toList_eq];exact beq_eq_false_iff_ne.1 h
theorem qmi{a:BA}{l:List UInt8}(h:(a.data.toList==l)=true):a.toList=l:=by
 rw[ByteArray.toList_eq];exact eq_of_beq h
theorem qbs{W:World}{g:Nat}{na:Bool}{ta ba:Value}(h:Own W g 3 (qcr na ta ba)):
  (W.cell? ⟨g,0,none⟩=some (.bool na))∧(W.cell? ⟨g,1,none⟩=some ta)∧(W.cell? ⟨g,2,none⟩=some ba):=
 ⟨(h.2 0 (by omega)).1,(h.2 1 (by omega)).1,(h.2 2 (by omega)).1⟩
structure qrg(s a b:BA)(neg f:Bool)(w:World):Prop where
 top:(Lib.cut (Lib.trimPrefix s.data.toList [45]) [47]).1=a.data.toList
 bottom:(Lib.cut (Lib.trimPrefix s.data.toList [45]) [47]).2.1=b.data.toList
 found:(Lib.cut (Lib.trimPrefix s.data.toList [45]) [47]).2.2=f
 sign:Lib.hasPrefix s.data.toList [45]=neg
 gw:GW w
 size:s.size≤1073741824
 leadPart:∃d:BA,(∀W,Calls Tryz.prog 83 #[.string s,.string ⟨#[45]⟩] W fun e w'=>e = .returned (.tuple #[.string d,.bool neg])∧w'=W)∧
  (∀W,qeu w W→Calls Tryz.prog 38 #[.string d,.string ⟨#[47]⟩] W fun e w'=>e = .returned (.tuple #[.string a,.string b,.bool f])∧qeu w w')
 short:a.size≤1073741824∧b.size≤1073741824
theorem q5e{x y:BA}(h:x.data.toList=y.data.toList):x=y:=by
 cases x;cases y
 simp only[ByteArray.mk.injEq];exact Array.toList_inj.1 h
theorem qhi(s:BA):s.data.toList.length=s.size:=by simp
theorem qy4(s:BA)(w:World)(hg:GW w)(hs:s.size≤1073741824):∃a b neg f,qrg s a b neg f w:=by
 have tP:(ByteArray.mk (Lib.trimPrefix s.data.toList [45]).toArray).data.toList=Lib.trimPrefix s.data.toList [45]:=by simp
 have h3:s.data.toList.length=s.size:=qhi s;have h2:=qhg s.data.toList [45]
 have hds:(ByteArray.mk (Lib.trimPrefix s.data.toList [45]).toArray).size≤1073741824:=by
  rw[←qhi,tP];omega
 refine⟨⟨(Lib.cut (Lib.trimPrefix s.data.toList [45]) [47]).1.toArray⟩,⟨(Lib.cut (Lib.trimPrefix s.data.toList [45]) [47]).2.1.toArray⟩,Lib.hasPrefix s.data.toList [45],(Lib.cut (Lib.trimPrefix s.data.toList [45]) [47]).2.2,by simp,by simp,rfl,rfl,hg,hs,⟨_,fun W=>Tryz.strings_CutPrefix s ⟨#[45]⟩ W,fun W hW => ?_⟩, ?_⟩
 ·obtain⟨_,m,hm⟩:=hW.gw hg
  refine(Tryz.strings_Cut _ ⟨#[47]⟩ m W (Nat.lt_of_le_of_lt hds (by omega)) hm).mono ?_;rintro e w' ⟨h1,k,h2⟩;refine⟨h1, ?_⟩;rw[h2];exact hW.later (below_drewN (qaa _ _) k)
 ·have h1:=qmh (Lib.trimPrefix s.data.toList [45]) [47]
  simp only[ByteArray.size,List.size_toArray] at *;omega
theorem q5f{s a b:BA}{neg f:Bool}{w:World}(R:qrg s a b neg f w):qah s.data.toList =
  if !qbo a.data.toList||(neg&&a.data.toList==[48]) then 1
  else if f&&(!qbo b.data.toList||b.data.toList==[48]||b.data.toList==[49]) then 1
  else if 600<a.data.toList.length∨600<b.data.toList.length then 4
  else if qj6 s.data.toList=s.data.toList then 0 else 1:=by
 unfold qah;rw[R.top,R.bottom,R.found,R.sign]
theorem q5g{l sep:List UInt8}(h:(Lib.cut l sep).2.2=false):(Lib.cut l sep).2.1=[]:=by
 unfold Lib.cut at *;split
 ·rename_i h1
  rw[if_pos h1] at h;cases h
 ·rfl
theorem qy5{s a b:BA}{neg f:Bool}{w:World}(R:qrg s a b neg f w)(ha:qbo a.data.toList=true)(hb:f=true→qbo b.data.toList=true∧b.data.toList≠[48]):qf1 s.data.toList=some (qa9 s.data.toList):=by
 have hp:qcy s.data.toList=(neg,a.data.toList,if f then b.data.toList else[49]):=by
  unfold qcy;rw[R.top,R.bottom,R.found,R.sign]
 have h1:qj8 (if f then b.data.toList else[49])=true∧qbb 0 (if f then b.data.toList else[49])≠0:=by
  cases f
  ·exact⟨rfl,by show qbb 0 [49]≠0;decide⟩
  ·obtain⟨h2,h3⟩:=hb rfl
   exact⟨qef h2,qh1 h2 h3⟩
 have h2:(qj8 (qcy s.data.toList).2.1&&qj8 (qcy s.data.toList).2.2&&decide (qbb 0 (qcy s.data.toList).2.2≠0))=true:=by
  rw[hp];show(qj8 a.data.toList&&qj8 (if f then b.data.toList else[49])&&decide (qbb 0 (if f then b.data.toList else[49])≠0))=true;rw[qef ha,h1.1,qag h1.2];rfl
 unfold qa9 qf1;rw[if_pos h2];rfl
theorem q5h{w:World}(s:BA)(hg:GW w)(hs:s.size≤1073741824)(h:qf1 s.data.toList=some (qa9 s.data.toList))(W:World)(hW:qeu w W):
  Calls Tryz.prog 41 #[.string s] W fun e w'=>(∃v',e = .returned (.tuple #[v',.bool true])∧qaw w' v' (qa9 s.data.toList))∧qeu w w':=
 (qxa s W (hW.gw hg) hs).mono fun e w' hr=>by
  rw[h] at hr;exact⟨hr.1,hW.later hr.2⟩
theorem qxb(z:Int)(d:Nat):(z:Rat)/((d:Int):Rat)=mkRat z d:=by
 rw[Rat.mkRat_eq_div];rfl
theorem q7s(z:Int)(d:Nat)(hd:d≠0):((z:Rat)/((d:Int):Rat)).num.natAbs≤z.natAbs∧((z:Rat)/((d:Int):Rat)).den≤d:=by
 rw[qxb,Rat.num_mkRat,Rat.den_mkRat,if_neg hd,if_neg hd];exact⟨Int.natAbs_ediv_le_natAbs _ _,Nat.div_le_self _ _⟩
theorem q7t{s a b:BA}{neg f:Bool}{w:World}(R:qrg s a b neg f w):rs (qa9 s.data.toList)≤Cap:=by
 have hp:qcy s.data.toList=(neg,a.data.toList,if f then b.data.toList else[49]):=by
  unfold qcy;rw[R.top,R.bottom,R.found,R.sign]
 have hl:(if f then b.data.toList else[49]).length≤1073741824:=by
  have:=R.short.2;have:=qhi b;cases f
  ·show 1≤_;omega
  ·show b.data.toList.length≤_;omega
 generalize (if f then b.data.toList else[49])=bb at *;unfold qa9 qf1;rw[hp];simp only;split
 ·rename_i h
  rw[Bool.and_eq_true,Bool.and_eq_true,decide_eq_true_iff] at h;show rs ((((if neg then -(qbb 0 a.data.toList:Int) else(qbb 0 a.data.toList:Int)):Int):Rat)/((qbb 0 bb:Int):Rat))≤Cap;have hq:=q7s (if neg then -(qbb 0 a.data.toList:Int) else(qbb 0 a.data.toList:Int)) _ h.2;have h1:=qmg _ ((qea _).1 h.1.1).2;have h2:=qmg _ ((qea _).1 h.1.2).2;have e1:(if neg then -(qbb 0 a.data.toList:Int) else(qbb 0 a.data.toList:Int)).natAbs=qbb 0 a.data.toList:=by cases neg<;>simp
  rw[e1] at hq;have h3:=qdo hq.1;have h4:=qdo hq.2;have h5:=R.short.1;have h6:=qhi a;unfold rs;have hc:(1073741824+1073741824:Nat)≤Cap:=by unfold Cap;omega
  omega
 ·show rs 0≤Cap
  have:rs 0=1:=by rw[show(0:Rat)=((0:Int):Rat) from rfl,qjv,show wl (0:Int).natAbs=0 from qcx]
  rw[this];exact qkg
theorem qxc{q:Rat}{W:World}{v:Value}(hv:qaw W v q)(hc:rs q≤Cap):
  Calls Tryz.prog 86 #[v,.int .i64 600] W fun e w'=>(e = .returned (.tuple #[.string (if qbr q 600 then⟨(qa7 q).toArray⟩ else⟨#[]⟩),.bool (qbr q 600)]))∧Below W.heap.size W w':=
 q5b v q 600 W hv hc (by omega) (by omega)
end Go.Proofs.YtmcfcpgglfimjaaGreatDoor
