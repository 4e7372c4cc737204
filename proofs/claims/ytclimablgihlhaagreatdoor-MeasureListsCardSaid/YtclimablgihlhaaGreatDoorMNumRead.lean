/- IsName: whether a text is a name. -/
import Derived.Test.YtclimablgihlhaaGreatDoorMWrite
import Derived.Test.YtclimablgihlhaaGreatDoorMReadWalk
set_option linter.all false
namespace Go.Proofs.YtclimablgihlhaaGreatDoor
open Go.RowKit
set_option maxRecDepth 100000
set_option maxHeartbeats 1000000
def qne(c:Int):Bool:=decide ((97≤c∧c≤122)∨(65≤c∧c≤90)∨(48≤c∧c≤57)∨c=45∨c=95∨c=46)
def qhf(l:List UInt8):Bool:=l.all (fun c=>qne c.toNat)&&decide (1≤l.length∧l.length≤24)
theorem qji{c:Int}(h:(97≤c∧c≤122)∨(65≤c∧c≤90)∨(48≤c∧c≤57)∨c=45∨c=95∨c=46):qne c=true:=zas h
theorem qkb{c:Int}(h:¬((97≤c∧c≤122)∨(65≤c∧c≤90)∨(48≤c∧c≤57)∨c=45∨c=95∨c=46)):qne c=false:=zar h
theorem qia(c:Int)(w:World):
  Calls Tryz.prog 66 #[.int .i32 c] w fun e w'=>e = .returned (.bool (qne c))∧w'=w:=by
 by_cases h1:97≤c∧c≤122
 ·obtain⟨a,b⟩:=h1
  have HE:=hid (qji (c:=c) (.inl ⟨a,b⟩));go_enter Tryz.func66,Tryz.ntmps66;go_wp2_with fail
  all_goals(go_ret;exact⟨qbb HE.out.symm,rfl⟩)
 by_cases h2:65≤c∧c≤90
 ·obtain⟨a,b⟩:=h2
  have a1:¬97≤c:=by omega
  have HE:=hid (qji (c:=c) (.inr (.inl ⟨a,b⟩)));clear h1;go_enter Tryz.func66,Tryz.ntmps66;go_wp2_with fail
  all_goals(go_ret;exact⟨qbb HE.out.symm,rfl⟩)
 by_cases h3:48≤c∧c≤57
 ·obtain⟨a,b⟩:=h3
  have a1:¬97≤c:=by omega
  have a2:¬65≤c:=by omega
  have HE:=hid (qji (c:=c) (.inr (.inr (.inl ⟨a,b⟩))));clear h1 h2;go_enter Tryz.func66,Tryz.ntmps66;go_wp2_with fail
  all_goals(go_ret;exact⟨qbb HE.out.symm,rfl⟩)
 by_cases h4:c=45∨c=95∨c=46
 ·have HE:=hid (qji (c:=c) (.inr (.inr (.inr h4))))
  rcases h4 with rfl|rfl|rfl
  all_goals
   clear h1 h2 h3;go_enter Tryz.func66,Tryz.ntmps66;go_wp2_with fail;go_ret;exact⟨qbb HE.out.symm,rfl⟩
 ·have HE:=hid (qkb (c:=c) (by omega))
  have b1:(c==45)=false:=zat (by omega);have b2:(c==95)=false:=zat (by omega);have b3:(c==46)=false:=zat (by omega);have g1:(decide (97≤c)&&decide (c≤122))=false:=by rw[←Bool.decide_and];exact zar h1
  by_cases a1:97≤c
  ·have a2:¬c≤122:=by omega
   have a3:65≤c:=by omega
   have a4:¬c≤90:=by omega
   have a5:48≤c:=by omega
   have a6:¬c≤57:=by omega
   clear h1 h2 h3 h4 g1;go_enter Tryz.func66,Tryz.ntmps66;go_wp2_with fail
   all_goals(go_ret;exact⟨qbb HE.out.symm,rfl⟩)
  ·by_cases a3:65≤c
   ·have a4:¬c≤90:=by omega
    have a5:48≤c:=by omega
    have a6:¬c≤57:=by omega
    clear h1 h2 h3 h4 g1;go_enter Tryz.func66,Tryz.ntmps66;go_wp2_with fail
    all_goals(go_ret;exact⟨qbb HE.out.symm,rfl⟩)
   ·by_cases a5:48≤c
    ·have a6:¬c≤57:=by omega
     clear h1 h2 h3 h4 g1;go_enter Tryz.func66,Tryz.ntmps66;go_wp2_with fail
     all_goals(go_ret;exact⟨qbb HE.out.symm,rfl⟩)
    ·clear h1 h2 h3 h4 g1
     go_enter Tryz.func66,Tryz.ntmps66;go_wp2_with fail
     all_goals(go_ret;exact⟨qbb HE.out.symm,rfl⟩)
theorem qx8(s:BA)(k:Nat)(h:k<s.size)(hb:qne (s[k]'h).toNat=false):qhf s.data.toList=false:=by
 unfold qhf;rw[Bool.and_eq_false_iff]
 left
 rw[List.all_eq_false];exact⟨s[k]'h,by rw[←qdm s k h];exact List.getElem_mem _,by simp[hb]⟩
theorem q0l(s:BA)(pos:Nat)(h:pos<s.size):(qne (s[pos]'h).toNat=true∧Utf8.decode s pos=((s[pos]'h).toNat,1))∨(qne (s[pos]'h).toNat=false∧qne (Utf8.decode s pos).1=false):=by
 by_cases ha:(s[pos]'h).toNat<128
 ·rw[decode_ascii s pos h ha]
  cases hn:qne (s[pos]'h).toNat
  ·exact .inr ⟨rfl,by first|exact hn|rfl⟩
  ·exact .inl ⟨rfl,rfl⟩
 ·right
  have h2:=(decode_high s pos h (by omega)).1;exact⟨qkb (by omega),qkb (by omega)⟩
theorem qjj(s:BA)(w:World):
  Calls Tryz.prog 28 #[.string s] w fun e w'=>e = .returned (.bool (qhf s.data.toList))∧Below w.heap.size w w':=by
 have pG:=hid (fun p=>qqa w s p);have nM:=hid (qx8 s);have Ew:=hid (q0l s);have lA:=hid (qdf s)
 have Be:Hid ((∀c ∈ s.data.toList.take s.size,qne c.toNat=true)→qhf s.data.toList=decide (1≤s.size∧s.size≤24)):=hid fun h=>by
  rw[List.take_of_length_le (by simp)] at h;unfold qhf;rw[List.all_eq_true.2 h,Bool.true_and];simp
 generalize qhf s.data.toList=res at *;go_enter Tryz.func28,Tryz.ntmps28;go_wp2_with fail
 go_loopw [4] (fun _ wr=>∃pos:Nat,pos≤s.size∧wr=w.iter s pos∧Hid (∀c ∈ s.data.toList.take pos,qne c.toNat=true)) (fun _ w'=>s.size-w'.iterPos w.heap.size)
 case atStart=>exact⟨0,Nat.zero_le _,rfl,hid (by simp)⟩
 case round=>
  obtain⟨pos,Ny,rfl,HD⟩:=hrel;by_cases hp:pos<s.size
  ·rcases Ew.out pos hp with⟨hn,uP⟩|⟨hn,uP⟩
   ·have Nz:∀ty,(Instr.next (.pointer (some ⟨w.heap.size,0,none⟩)) true ty).run Tryz.prog (w.iter s pos)=_:=fun ty=>run_next_any w s pos ty hp
    rw[uP] at Nz
    have pP:Hid (∀c ∈ s.data.toList.take (pos+1),qne c.toNat=true):=hid (by
     rw[lA.out pos hp];intro c hc;rcases List.mem_append.1 hc with hc|hc
     ·exact HD.out c hc
     ·rw[List.mem_singleton.1 hc];exact hn)
    have yQ:Hid (∀W,Calls Tryz.prog 66 #[.int .i32 ((s[pos]'hp).toNat:Int)] W fun e w'=>e = .returned (.bool true)∧w'=W):=hid fun W=>by rw[←hn];exact qia _ W
    clear hn uP;go_wp2_with fail;refine(yQ.out _).mono ?_;rintro e w' ⟨rfl,hw'⟩;rw[hw'];clear hw' yQ;go_wp2_with fail;go_roundw
    case rel=>exact⟨pos+1,by omega,rfl,pP⟩
    case measure=>simp;omega
   ·have aS:=hid (nM.out pos hp hn)
    have Nz:∀ty,(Instr.next (.pointer (some ⟨w.heap.size,0,none⟩)) true ty).run Tryz.prog (w.iter s pos)=_:=fun ty=>run_next_any w s pos ty hp;have yQ:Hid (∀W,Calls Tryz.prog 66 #[.int .i32 ((Utf8.decode s pos).1:Int)] W fun e w'=>e = .returned (.bool false)∧w'=W):=hid fun W=>by rw[←uP];exact qia _ W
    clear hn uP;generalize (Utf8.decode s pos).2=wid at *;generalize (Utf8.decode s pos).1=c at *;go_wp2_with fail;refine(yQ.out _).mono ?_;rintro e w' ⟨rfl,hw'⟩;rw[hw'];clear hw' yQ;go_wp2_with fail;go_ret;exact⟨qbb aS.out.symm,pG.out _⟩
  ·have Kk:pos=s.size:=by omega
   have aS:Hid (res=decide (1≤s.size∧s.size≤24)):=hid (Be.out (by rw[←Kk];exact HD.out));have Nz:∀ty,(Instr.next (.pointer (some ⟨w.heap.size,0,none⟩)) true ty).run Tryz.prog (w.iter s pos)=_:=fun ty=>run_next_end w s pos ty hp;clear Kk;by_cases h1:1≤s.size
   ·by_cases h2:s.size≤24
    ·have HR:Hid (decide ((s.size:Int)≤24)=res):=hid (by rw[aS.out,zas (show 1≤s.size∧s.size≤24 from⟨h1,h2⟩)];exact zas (by omega))
     go_wp2_with fail;go_ret;exact⟨qbb HR.out,pG.out _⟩
    ·have HR:Hid (decide ((s.size:Int)≤24)=res):=hid (by rw[aS.out,zar (show ¬(1≤s.size∧s.size≤24) from by omega)];exact zar (by omega))
     go_wp2_with fail;go_ret;exact⟨qbb HR.out,pG.out _⟩
   ·have HR:Hid (res=false):=hid (by rw[aS.out];exact zar (by omega))
    go_wp2_with fail;go_ret;exact⟨qbb HR.out.symm,pG.out _⟩
def qbd(l:List UInt8):Bool:=qj9 l&&(l==[48]||l.head? != some 48)
theorem qux(s:BA)(w:World):
  Calls Tryz.prog 93 #[.string s] w fun e w'=>e = .returned (.bool (qbd s.data.toList))∧Below w.heap.size w w':=by
 have Bj:=hid (qfv s w);by_cases ha:qj9 s.data.toList=true
 ·rw[ha] at Bj
  have hne:=((qep _).1 ha).1
  have dM:0<s.size:=by
   rcases zav s.size with e|e
   ·exfalso;apply hne
    have:s.data.toList.length=0:=by simpa using e
    exact List.eq_nil_of_length_eq_zero this
   ·exact e
  by_cases h0:s.data.toList=[48]
  ·have hs:s=⟨#[48]⟩:=by
    have:s.data=#[48]:=by rw[←Array.toArray_toList (xs:=s.data),h0]
    cases s
    simp at this;rw[this]
   subst hs;have HR:Hid (qbd (ByteArray.mk #[48]).data.toList=true):=hid (by rfl);clear ha hne dM h0;go_enter Tryz.func93,Tryz.ntmps93;go_wp2_with fail;refine Bj.out.mono ?_;rintro e w1 ⟨rfl,hb⟩;have HB:=hid hb;clear hb;go_wp2_with fail;go_ret;exact⟨qbb HR.out.symm,HB.out⟩
  ·have hhd:s.data.toList.head? = some (s[0]'dM):=by
    rw[←qdm s 0 dM];exact List.head?_eq_getElem? .. ▸ zau _
   have oJ:qbd s.data.toList=((s[0]'dM) != 48):=by
    unfold qbd;rw[ha,hhd];have:(s.data.toList==[48])=false:=zat h0;rw[this];simp[bne]
   have gF:¬s.toList=[48]:=by rw[ByteArray.toList_eq];exact h0
   have HR:Hid ((s.toList==[48]||((s[0]'dM).toNat:Int) != 48)=qbd s.data.toList):=hid (by
    rw[oJ,zat gF,Bool.false_or,Bool.eq_iff_iff];simp only[bne_iff_ne,ne_eq];have e48:(48:UInt8).toNat=48:=rfl;constructor
    ·intro h h2
     apply h;rw[h2];rfl
    ·intro h h2
     apply h;apply UInt8.toNat_inj.1
     omega)
   clear hne oJ hhd h0 ha;go_enter Tryz.func93,Tryz.ntmps93;go_wp2_with fail;refine Bj.out.mono ?_;rintro e w1 ⟨rfl,hb⟩;have HB:=hid hb;clear hb;go_wp2_with fail;go_ret;exact⟨qbb HR.out,HB.out⟩
 ·have ha':qj9 s.data.toList=false:=by simpa using ha
  rw[ha'] at Bj;have HR:Hid (qbd s.data.toList=false):=hid (by unfold qbd;rw[ha'];rfl);clear ha ha';go_enter Tryz.func93,Tryz.ntmps93;go_wp2_with fail;refine Bj.out.mono ?_;rintro e w1 ⟨rfl,hb⟩;have HB:=hid hb;clear hb;go_wp2_with fail;go_ret;exact⟨qbb HR.out.symm,HB.out⟩
def qav(l:List UInt8):Rat:=(qfw l).getD 0
def qk7(l:List UInt8):List UInt8:=if qa3 (qav l) 600 then qat (qav l) else[]
def qaa(l:List UInt8):Nat:=
 if !qbd (Lib.cut (Lib.trimPrefix l [45]) [47]).1||(Lib.hasPrefix l [45]&&(Lib.cut (Lib.trimPrefix l [45]) [47]).1==[48]) then 1
 else if(Lib.cut (Lib.trimPrefix l [45]) [47]).2.2&&(!qbd (Lib.cut (Lib.trimPrefix l [45]) [47]).2.1||(Lib.cut (Lib.trimPrefix l [45]) [47]).2.1==[48]||(Lib.cut (Lib.trimPrefix l [45]) [47]).2.1==[49]) then 1
 else if 600<(Lib.cut (Lib.trimPrefix l [45]) [47]).1.length∨600<(Lib.cut (Lib.trimPrefix l [45]) [47]).2.1.length then 4
 else if qk7 l=l then 0 else 1
def qkc(l:List UInt8)(w:World)(e:Ending)(w':World):Prop:=
 (if qaa l=0 then ∃v',e = .returned (.tuple #[v',.int .i64 0])∧qaj w' v' (qav l)
  else e = .returned (.tuple #[.agg #[.bool false,.slice none 0 0,.slice none 0 0],.int .i64 (qaa l)]))∧Below w.heap.size w w'
theorem q0m{l:List UInt8}{w w':World}{e:Ending}{k:Int}(h:qaa l≠0)(hk:k=qaa l)(he:e = .returned (.tuple #[.agg #[.bool false,.slice none 0 0,.slice none 0 0],.int .i64 k]))(hb:Below w.heap.size w w'):qkc l w e w':=by
 unfold qkc;rw[if_neg h,←hk];exact⟨he,hb⟩
theorem q4d{l:List UInt8}{w w':World}{e:Ending}{v':Value}(h:qaa l=0)(he:e = .returned (.tuple #[v',.int .i64 0]))(hv:qaj w' v' (qav l))(hb:Below w.heap.size w w'):qkc l w e w':=by
 unfold qkc;rw[if_pos h];exact⟨⟨v',he,hv⟩,hb⟩
theorem qd8{l:List UInt8}(h:qbd l=true):qj9 l=true:=by
 unfold qbd at h;rw[Bool.and_eq_true] at h;exact h.1
theorem qhw{l:List UInt8}(h:qbd l=true)(h0:l≠[48]):qaz 0 l≠0:=by
 have ha:=qd8 h;unfold qbd at h;rw[Bool.and_eq_true,Bool.or_eq_true,beq_iff_eq] at h;have h2:=h.2.resolve_left h0;obtain⟨hne,hd⟩:=(qep l).1 ha
 match l,hne with
 | c::r,_=>
  have hc:=(ql5 c).1 (hd c (List.mem_cons_self ..))
  have hc48:c≠48:=by
   intro e;rw[e] at h2;simp at h2
  have hn:c.toNat≠48:=fun e=>hc48 (UInt8.toNat_inj.1 (by rw[e];rfl));rw[qge];have:=q0b r (0*10+(c.toNat-48));omega
theorem qok{w:World}(s:BA)(b:Bool)(hb:qbd s.data.toList=b)(W:World)(hW:qer w W):
  Calls Tryz.prog 93 #[.string s] W fun e w'=>e = .returned (.bool b)∧qer w w':=
 (qux s W).mono fun e w' ⟨h1,h2⟩=>⟨by rw[h1,hb],hW.later h2⟩
theorem qol{a:BA}{l:List UInt8}(h:(a.data.toList==l)=false):¬a.toList=l:=by
 rw[ByteArray.toList_eq];exact beq_eq_false_iff_ne.1 h
theorem qma{a:BA}{l:List UInt8}(h:(a.data.toList==l)=true):a.toList=l:=by
 rw[ByteArray.toList_eq];exact eq_of_beq h
theorem qbe{W:World}{g:Nat}{na:Bool}{ta ba:Value}(h:Own W g 3 (qci na ta ba)):
  (W.cell? ⟨g,0,none⟩=some (.bool na))∧(W.cell? ⟨g,1,none⟩=some ta)∧(W.cell? ⟨g,2,none⟩=some ba):=
 ⟨(h.2 0 (by omega)).1,(h.2 1 (by omega)).1,(h.2 2 (by omega)).1⟩
structure qq7(s a b:BA)(neg f:Bool)(w:World):Prop where
 top:(Lib.cut (Lib.trimPrefix s.data.toList [45]) [47]).1=a.data.toList
 bottom:(Lib.cut (Lib.trimPrefix s.data.toList [45]) [47]).2.1=b.data.toList
 found:(Lib.cut (Lib.trimPrefix s.data.toList [45]) [47]).2.2=f
 sign:Lib.hasPrefix s.data.toList [45]=neg
 gw:GW w
 size:s.size≤1073741824
 leadPart:∃d:BA,(∀W,Calls Tryz.prog 90 #[.string s,.string ⟨#[45]⟩] W fun e w'=>e = .returned (.tuple #[.string d,.bool neg])∧w'=W)∧
  (∀W,qer w W→Calls Tryz.prog 46 #[.string d,.string ⟨#[47]⟩] W fun e w'=>e = .returned (.tuple #[.string a,.string b,.bool f])∧qer w w')
 short:a.size≤1073741824∧b.size≤1073741824
theorem q4e{x y:BA}(h:x.data.toList=y.data.toList):x=y:=by
 cases x;cases y
 simp only[ByteArray.mk.injEq];exact Array.toList_inj.1 h
theorem qhg(s:BA):s.data.toList.length=s.size:=by simp
theorem qx9(s:BA)(w:World)(hg:GW w)(hs:s.size≤1073741824):∃a b neg f,qq7 s a b neg f w:=by
 have xD:(ByteArray.mk (Lib.trimPrefix s.data.toList [45]).toArray).data.toList=Lib.trimPrefix s.data.toList [45]:=by simp
 have h3:s.data.toList.length=s.size:=qhg s;have h2:=qhe s.data.toList [45]
 have hds:(ByteArray.mk (Lib.trimPrefix s.data.toList [45]).toArray).size≤1073741824:=by
  rw[←qhg,xD];omega
 refine⟨⟨(Lib.cut (Lib.trimPrefix s.data.toList [45]) [47]).1.toArray⟩,⟨(Lib.cut (Lib.trimPrefix s.data.toList [45]) [47]).2.1.toArray⟩,Lib.hasPrefix s.data.toList [45],(Lib.cut (Lib.trimPrefix s.data.toList [45]) [47]).2.2,by simp,by simp,rfl,rfl,hg,hs,⟨_,fun W=>Tryz.strings_CutPrefix s ⟨#[45]⟩ W,fun W hW => ?_⟩, ?_⟩
 ·obtain⟨_,m,hm⟩:=hW.gw hg
  refine(Tryz.strings_Cut _ ⟨#[47]⟩ m W (Nat.lt_of_le_of_lt hds (by omega)) hm).mono ?_;rintro e w' ⟨h1,k,h2⟩;refine⟨h1, ?_⟩;rw[h2];exact hW.later (below_drewN (zan _ _) k)
 ·have h1:=ql9 (Lib.trimPrefix s.data.toList [45]) [47]
  simp only[ByteArray.size,List.size_toArray] at *;omega
theorem q4f{s a b:BA}{neg f:Bool}{w:World}(R:qq7 s a b neg f w):qaa s.data.toList =
  if !qbd a.data.toList||(neg&&a.data.toList==[48]) then 1
  else if f&&(!qbd b.data.toList||b.data.toList==[48]||b.data.toList==[49]) then 1
  else if 600<a.data.toList.length∨600<b.data.toList.length then 4
  else if qk7 s.data.toList=s.data.toList then 0 else 1:=by
 unfold qaa;rw[R.top,R.bottom,R.found,R.sign]
theorem q4g{l sep:List UInt8}(h:(Lib.cut l sep).2.2=false):(Lib.cut l sep).2.1=[]:=by
 unfold Lib.cut at *;split
 ·rename_i h1
  rw[if_pos h1] at h;cases h
 ·rfl
theorem qya{s a b:BA}{neg f:Bool}{w:World}(R:qq7 s a b neg f w)(ha:qbd a.data.toList=true)(hb:f=true→qbd b.data.toList=true∧b.data.toList≠[48]):qfw s.data.toList=some (qav s.data.toList):=by
 have hp:qcl s.data.toList=(neg,a.data.toList,if f then b.data.toList else[49]):=by
  unfold qcl;rw[R.top,R.bottom,R.found,R.sign]
 have h1:qj9 (if f then b.data.toList else[49])=true∧qaz 0 (if f then b.data.toList else[49])≠0:=by
  cases f
  ·exact⟨rfl,by show qaz 0 [49]≠0;decide⟩
  ·obtain⟨h2,h3⟩:=hb rfl
   exact⟨qd8 h2,qhw h2 h3⟩
 have h2:(qj9 (qcl s.data.toList).2.1&&qj9 (qcl s.data.toList).2.2&&decide (qaz 0 (qcl s.data.toList).2.2≠0))=true:=by
  rw[hp];show(qj9 a.data.toList&&qj9 (if f then b.data.toList else[49])&&decide (qaz 0 (if f then b.data.toList else[49])≠0))=true;rw[qd8 ha,h1.1,zas h1.2];rfl
 unfold qav qfw;rw[if_pos h2];rfl
theorem q4h{w:World}(s:BA)(hg:GW w)(hs:s.size≤1073741824)(h:qfw s.data.toList=some (qav s.data.toList))(W:World)(hW:qer w W):
  Calls Tryz.prog 49 #[.string s] W fun e w'=>(∃v',e = .returned (.tuple #[v',.bool true])∧qaj w' v' (qav s.data.toList))∧qer w w':=
 (qwo s W (hW.gw hg) hs).mono fun e w' hr=>by
  rw[h] at hr;exact⟨hr.1,hW.later hr.2⟩
theorem qwp(z:Int)(d:Nat):(z:Rat)/((d:Int):Rat)=mkRat z d:=by
 rw[Rat.mkRat_eq_div];rfl
theorem q7a(z:Int)(d:Nat)(hd:d≠0):((z:Rat)/((d:Int):Rat)).num.natAbs≤z.natAbs∧((z:Rat)/((d:Int):Rat)).den≤d:=by
 rw[qwp,Rat.num_mkRat,Rat.den_mkRat,if_neg hd,if_neg hd];exact⟨Int.natAbs_ediv_le_natAbs _ _,Nat.div_le_self _ _⟩
theorem q7b{s a b:BA}{neg f:Bool}{w:World}(R:qq7 s a b neg f w):rs (qav s.data.toList)≤Cap:=by
 have hp:qcl s.data.toList=(neg,a.data.toList,if f then b.data.toList else[49]):=by
  unfold qcl;rw[R.top,R.bottom,R.found,R.sign]
 have hl:(if f then b.data.toList else[49]).length≤1073741824:=by
  have:=R.short.2;have:=qhg b;cases f
  ·show 1≤_;omega
  ·show b.data.toList.length≤_;omega
 generalize (if f then b.data.toList else[49])=bb at *;unfold qav qfw;rw[hp];simp only;split
 ·rename_i h
  rw[Bool.and_eq_true,Bool.and_eq_true,decide_eq_true_iff] at h;show rs ((((if neg then -(qaz 0 a.data.toList:Int) else(qaz 0 a.data.toList:Int)):Int):Rat)/((qaz 0 bb:Int):Rat))≤Cap;have hq:=q7a (if neg then -(qaz 0 a.data.toList:Int) else(qaz 0 a.data.toList:Int)) _ h.2;have h1:=ql8 _ ((qep _).1 h.1.1).2;have h2:=ql8 _ ((qep _).1 h.1.2).2;have e1:(if neg then -(qaz 0 a.data.toList:Int) else(qaz 0 a.data.toList:Int)).natAbs=qaz 0 a.data.toList:=by cases neg<;>simp
  rw[e1] at hq;have h3:=qde hq.1;have h4:=qde hq.2;have h5:=R.short.1;have h6:=qhg a;unfold rs;have hc:(1073741824+1073741824:Nat)≤Cap:=by unfold Cap;omega
  omega
 ·show rs 0≤Cap
  have:rs 0=1:=by rw[show(0:Rat)=((0:Int):Rat) from rfl,qjh,show wl (0:Int).natAbs=0 from qck]
  rw[this];exact qj4
theorem qwq{q:Rat}{W:World}{v:Value}(hv:qaj W v q)(hc:rs q≤Cap):
  Calls Tryz.prog 92 #[v,.int .i64 600] W fun e w'=>(e = .returned (.tuple #[.string (if qa3 q 600 then⟨(qat q).toArray⟩ else⟨#[]⟩),.bool (qa3 q 600)]))∧Below W.heap.size W w':=
 q4b v q 600 W hv hc (by omega) (by omega)
end Go.Proofs.YtclimablgihlhaaGreatDoor
