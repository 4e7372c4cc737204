/- The reference's IsName. -/
import Derived.Test.YtmcfcpgglfimjaaGreatDoorMNumRead
import Derived.Test.YtmcfcpgglfimjaaGreatDoorMRefC
import Derived.Test.YtmcfcpgglfimjaaGreatDoorMEachLayer
import Derived.Test.YtmcfcpgglfimjaaGreatDoorMKeeps
import Derived.Test.YtmcfcpgglfimjaaGreatDoorMMatter
set_option linter.all false
namespace Go.Proofs.YtmcfcpgglfimjaaGreatDoor
open Go.RowKit
set_option maxRecDepth 100000
set_option maxHeartbeats 4000000
theorem q0b(s:BA)(h:¬(1≤s.size∧s.size≤24)):qbx s.data.toList=false:=by
 unfold qbx;rw[show decide (1≤s.data.toList.length∧s.data.toList.length≤24)=false from qae (by simpa using h),Bool.and_false]
theorem q3z(c:Nat):(qiq c=true∧((97≤c∧c≤122)∨(c<97∧65≤c∧c≤90)∨(c<65∧48≤c∧c≤57)∨c=45∨c=46∨c=95))∨(qiq c=false∧(122<c∨(95<c∧c<97)∨(90<c∧c<95)∨(57<c∧c<65)∨(46<c∧c<48)∨c<45)):=by
 by_cases h:(97≤c∧c≤122)∨(65≤c∧c≤90)∨(48≤c∧c≤57)∨c=45∨c=95∨c=46
 ·exact .inl ⟨qhh (by omega),by omega⟩
 ·exact .inr ⟨qh0 (by omega),by omega⟩
theorem qxy(s:BA)(w:World)(hs:s.size≤5000):
  Calls Tryz.prog 32 #[.string s] w fun e w'=>e = .returned (.bool (qbx s.data.toList))∧w'=w:=by
 by_cases h0:¬(1≤s.size∧s.size≤24)
 ·have HE:=hid (q0b s h0)
  rcases(show s.size<1∨(¬s.size<1∧24<s.size) by omega) with h|⟨h,h2⟩
  all_goals
   clear h0;go_enter Tryz.func32,Tryz.ntmps32;go_wp2_with fail;go_ret;exact⟨qa8 HE.out.symm,rfl⟩
 have h1:¬s.size<1∧¬24<s.size:=by omega
 obtain⟨h1,h2⟩:=h1;have jD:=hid (qcv s);have jV:=hid (qqo s)
 have sI:Hid ((∀c ∈ s.data.toList.take s.size,qiq c.toNat=true)→qbx s.data.toList=true):=hid fun h=>by
  rw[List.take_of_length_le (by simp)] at h;unfold qbx;rw[List.all_eq_true.2 h,Bool.true_and];exact qag (by simp;omega)
 clear h0;generalize qbx s.data.toList=res at *;go_enter Tryz.func32,Tryz.ntmps32;go_wp2_with fail
 go_loopw [3] (fun i wr=>∃k:Nat,k≤s.size∧i = .int .i64 k∧Hid (∀c ∈ s.data.toList.take k,qiq c.toNat=true)∧wr=w) (fun i _=>s.size-(intOf i).toNat)
 case atStart=>exact⟨0,Nat.zero_le _,rfl,hid (by simp),rfl⟩
 case round=>
  obtain⟨k,hk,rfl,HD,rfl⟩:=hrel;by_cases oT:k<s.size
  ·have oG:∀h:k<s.size,((s[k]'h).toNat:Int)=((s[k]'oT).toNat:Int):=fun h=>rfl
   have mZ:Hid (qiq (s[k]'oT).toNat=true→∀c ∈ s.data.toList.take (k+1),qiq c.toNat=true):=hid (fun hd=>by
    rw[jD.out k oT];intro c hc;rcases List.mem_append.1 hc with hc|hc
    ·exact HD.out c hc
    ·rw[List.mem_singleton.1 hc];exact hd)
   have aX:=hid (jV.out k oT);generalize (s[k]'oT).toNat=c at *;rcases q3z c with⟨hd,h⟩|⟨hd,h⟩
   ·have HD3:=hid (mZ.out hd)
    clear mZ hd aX;rcases h with h|h|h|h|h|h
    all_goals
     first|have g97:decide ((97:Int)≤(c:Int))=true:=qag (by omega)|have g97:decide ((97:Int)≤(c:Int))=false:=qae (by omega)
     first|have g122:decide ((c:Int)≤122)=true:=qag (by omega)|have g122:decide ((c:Int)≤122)=false:=qae (by omega)
     first|have g65:decide ((65:Int)≤(c:Int))=true:=qag (by omega)|have g65:decide ((65:Int)≤(c:Int))=false:=qae (by omega)
     first|have g90:decide ((c:Int)≤90)=true:=qag (by omega)|have g90:decide ((c:Int)≤90)=false:=qae (by omega)
     first|have g48:decide ((48:Int)≤(c:Int))=true:=qag (by omega)|have g48:decide ((48:Int)≤(c:Int))=false:=qae (by omega)
     first|have g57:decide ((c:Int)≤57)=true:=qag (by omega)|have g57:decide ((c:Int)≤57)=false:=qae (by omega)
     first|have g45:((c:Int)==45)=true:=beq_iff_eq.2 (by omega)|have g45:((c:Int)==45)=false:=qan (by omega)
     first|have g95:((c:Int)==95)=true:=beq_iff_eq.2 (by omega)|have g95:((c:Int)==95)=false:=qan (by omega)
     first|have g46:((c:Int)==46)=true:=beq_iff_eq.2 (by omega)|have g46:((c:Int)==46)=false:=qan (by omega)
     clear h;go_wp2_with fail;go_roundw
     case rel=>exact⟨k+1,by omega,by go_num,HD3,trivial⟩
     case measure=>simp[intOf];omega
   ·have cN:=hid (aX.out hd)
    clear mZ hd aX;rcases h with h|h|h|h|h|h
    all_goals
     first|have g97:decide ((97:Int)≤(c:Int))=true:=qag (by omega)|have g97:decide ((97:Int)≤(c:Int))=false:=qae (by omega)
     first|have g122:decide ((c:Int)≤122)=true:=qag (by omega)|have g122:decide ((c:Int)≤122)=false:=qae (by omega)
     first|have g65:decide ((65:Int)≤(c:Int))=true:=qag (by omega)|have g65:decide ((65:Int)≤(c:Int))=false:=qae (by omega)
     first|have g90:decide ((c:Int)≤90)=true:=qag (by omega)|have g90:decide ((c:Int)≤90)=false:=qae (by omega)
     first|have g48:decide ((48:Int)≤(c:Int))=true:=qag (by omega)|have g48:decide ((48:Int)≤(c:Int))=false:=qae (by omega)
     first|have g57:decide ((c:Int)≤57)=true:=qag (by omega)|have g57:decide ((c:Int)≤57)=false:=qae (by omega)
     first|have g45:((c:Int)==45)=true:=beq_iff_eq.2 (by omega)|have g45:((c:Int)==45)=false:=qan (by omega)
     first|have g95:((c:Int)==95)=true:=beq_iff_eq.2 (by omega)|have g95:((c:Int)==95)=false:=qan (by omega)
     first|have g46:((c:Int)==46)=true:=beq_iff_eq.2 (by omega)|have g46:((c:Int)==46)=false:=qan (by omega)
     clear h;go_wp2_with fail;go_ret;exact⟨qa8 cN.out.symm,rfl⟩
  ·have tZ:k=s.size:=by omega
   have HE:=hid (sI.out (by rw[←tZ];exact HD.out));clear tZ;go_wp2_with fail;go_ret;exact⟨qa8 HE.out.symm,rfl⟩
theorem qpl:∀ {es:List Nat} {k e:Nat},qai (es.take k)=0→es[k]? = some e→(e=0→qai (es.take (k+1))=0)∧(e≠0→qai es=e)
 | [],k,e,_,hk=>by simp at hk
 | x::es,0,e,_,hk=>by
  simp at hk;subst hk;constructor
  ·intro e0
   show qai [x]=0;unfold qai;rw[if_pos e0];rfl
  ·intro e0
   unfold qai;rw[if_neg e0]
 | x::es,k+1,e,h,hk=>by
  have h2:qai (x::es.take k)=0:=h;unfold qai at h2;by_cases hx:x=0
  ·rw[if_pos hx] at h2
   have ih:=qpl h2 (by simpa using hk);constructor
   ·intro e0
    show qai (x::es.take (k+1))=0;unfold qai;rw[if_pos hx];exact ih.1 e0
   ·intro e0
    unfold qai;rw[if_pos hx];exact ih.2 e0
  ·rw[if_neg hx] at h2
   exact absurd h2 hx
theorem qii:∀(l:List (BA × BA)) (b:BA) (k:Nat) (s:BA × BA),l[k]? = some s→(qay b l)[k]? = some (qak (qjj b (l.take k)) s)
 | [],_,_,_,h=>by simp at h
 | t::l,b,0,s,h=>by
  simp only[List.getElem?_cons_zero,Option.some.injEq] at h;subst h;rfl
 | t::l,b,k+1,s,h=>by
  have ih:=qii l t.1 k s (by simpa using h);show(qay t.1 l)[k]? = _;rw[ih];rfl
theorem qlt:∀(l:List (BA × BA)) (b:BA),(qay b l).length=l.length
 | [],_=>rfl
 | t::l,_=>congrArg (· + 1) (qlt l t.1)
theorem q0c{l:List (BA × BA)}{k:Nat}{s:BA × BA}(b:BA)(h:l[k]? = some s):qjj b (l.take (k+1))=s.1:=by rw[qbp h,qqx]
theorem qpm{s:BA}(h:qbx s.data.toList=true):qmw s ⟨#[]⟩=false:=by
 unfold qmw;rw[Lib.toList_data,Lib.toList_data];show(Op.bytesLess s.data.toList []||s.data.toList==[])=false;cases hd:s.data.toList with
 | nil=>rw[hd] at h;revert h;decide
 | cons a t=>rfl
theorem qud{l:List (BA × BA)}{k:Nat}{s:BA × BA}(h:l[k]? = some s):qgn (l.take (k+1))=qgn (l.take k)+qbk s:=by rw[qbp h,qlr];rfl
theorem qwg{s:BA × BA}(h:qah s.2.data.toList=0)(hs:s.2.size≤20):s.2=rt (qbk s)∧sm (qbk s) 20:=by
 have h1:=(qih h).1;exact⟨h1,q0a (n:=20) (by show(rt (qa9 s.2.data.toList)).size≤20;rw[←h1];exact hs) (by decide)⟩
def SmP(l:List (BA × BA))(j:Nat):Prop:=∀s ∈ l,qah s.2.data.toList=0→sm (qbk s) j
theorem q7f{l:List (BA × BA)}(hs:∀s ∈ l,s.2.size≤20):SmP l 20:=fun s h h0=>(qwg h0 (hs s h)).2
theorem q30{l:List (BA × BA)}{j:Nat}(hs:SmP l j):∀k,qai ((qay ⟨#[]⟩ l).take k)=0→k≤l.length→sm (qgn (l.take k)) ((j+1)*k+1)
 | 0,_,_=>⟨by show 0<10^1;decide,by show 1<10^1;decide⟩
 | k+1,h,hk=>by
  have cI:=qat (show k<l.length by omega);have hg:=qii l ⟨#[]⟩ k _ cI;rw[qbp hg] at h;obtain⟨h1,h2⟩:=qgz h;have h3:=q30 hs k h1 (by omega)
  have h4:qak (qjj ⟨#[]⟩ (l.take k)) l[k]=0:=by
   have h5:(if qak (qjj ⟨#[]⟩ (l.take k)) l[k]=0 then qai [] else qak (qjj ⟨#[]⟩ (l.take k)) l[k])=0:=h2;by_cases hz:qak (qjj ⟨#[]⟩ (l.take k)) l[k]=0
   ·exact hz
   ·rw[if_neg hz] at h5;exact absurd h5 hz
  rw[qud cI];refine qfr (q69 h3 (hs _ (List.getElem_mem _) (qg7 h4))) ?_;rw[Nat.mul_add,Nat.mul_one];omega
theorem q85{q:Rat}:(rt q).toList=[49]↔q=1:=by
 rw[Lib.toList_data,qc9];constructor
 ·intro h
  have h2:rt q=rt 1:=qb5 (by rw[qc9,h];kernel_rfl);exact zai h2
 ·rintro rfl
  kernel_rfl
theorem q0d(v:Value)(l:List (BA × BA))(j:Nat)(w:World)(hv:qdc w v l)(hs:∀s ∈ l,s.1.size≤5000∧s.2.size≤5000)(mY:SmP l j)(hj:64<l.length∨(j+1)*l.length+1≤2000):
  Calls Tryz.prog 33 #[v] w fun e w'=>e = .returned (.int .i64 (qbd l:Nat))∧Below w.heap.size w w':=by
 obtain⟨p,c,rfl,bO,bJ,aA⟩:=hv;unfold maxLen at bJ;have dU:=hid (qaa w.heap.size w);by_cases h0:l.length=0
 ·have HR:Hid (qbd l=2):=hid (by unfold qbd;rw[if_pos h0])
  have hb:((l.length:Int)==0)=true:=by rw[h0];rfl
  clear aA hs mY hj;go_enter Tryz.func33,Tryz.ntmps33;go_wp2_with fail;go_ret;exact⟨by rw[HR.out];rfl,dU.out⟩
 have eE:((l.length:Int)==0)=false:=qan (by omega);by_cases h1:64<l.length
 ·have HR:Hid (qbd l=5):=hid (by unfold qbd;rw[if_neg h0,if_pos h1])
  clear aA hs mY hj;go_enter Tryz.func33,Tryz.ntmps33;go_wp2_with fail;go_ret;exact⟨by rw[HR.out];rfl,dU.out⟩
 have HR:Hid (qbd l=if qai (qay ⟨#[]⟩ l)≠0 then qai (qay ⟨#[]⟩ l) else if qgn l=1 then 0 else 12):=hid (by unfold qbd;rw[if_neg h0,if_neg h1]);obtain⟨b,o,rfl,aB⟩:=aA.resolve_left h0;have bP:=hid aB;have HS:=hid hs;have Ku:(j+1)*l.length+1≤2000:=by omega
 have Al:Hid (∀k,qai ((qay ⟨#[]⟩ l).take k)=0→k≤l.length→sm (qgn (l.take k)) 2000):=hid fun k h hk=>qfr (q30 mY k h hk) (by have:=Nat.mul_le_mul_left (j+1) hk;omega);have fO:=hid mY;have HJ:Hid (∀k,k<l.length→j≤2000):=hid fun k hk=>by have:=Nat.mul_le_mul_left (j+1) (show 1≤l.length by omega);omega
 clear aA hs aB h0 mY hj Ku;go_enter Tryz.func33,Tryz.ntmps33;go_wp2_with fail
 go_loopw [3,4] (fun t i wr=>∃k:Nat,k≤l.length∧i = .int .i64 k∧t = .string (rt (qgn (l.take k)))∧Hid (qai ((qay ⟨#[]⟩ l).take k)=0)∧Hid (Below w.heap.size w wr)) (fun _ i _=>l.length-(intOf i).toNat)
 case atStart=>exact⟨0,Nat.zero_le _,rfl,by rw[zak];rfl,hid rfl,dU⟩
 case round=>
  obtain⟨k,hk,rfl,rfl,HF,HB⟩:=hrel;clear dU;by_cases bC:k<l.length
  ·obtain⟨s,cI⟩:∃s,l[k]? = some s:=⟨_,qat bC⟩
   have bT:Hid (∀W,Below w.heap.size w W→W.cell? ⟨b,o+k*2,none⟩=some (.string s.1)∧W.cell? ⟨b,o+k*2+1,none⟩=some (.string s.2)):=hid fun W hW=>by
    obtain⟨e0,e1⟩:=bP.out k s cI;rw[hW.cell (qaf w _ e0),hW.cell (qaf w _ e1)];exact⟨e0,e1⟩
   obtain⟨f0,f1⟩:=qpl HF.out (qii l ⟨#[]⟩ k s cI);have fM:=HS.out s (qbj cI);obtain⟨bef,Cr⟩:∃t,qjj ⟨#[]⟩ (l.take k)=t:=⟨_,rfl⟩
   have Fn:Hid (∀W,Below w.heap.size w W→0<k→W.cell? ⟨b,o+(k-1)*2,none⟩=some (.string bef)):=hid fun W hW kF=>by
    obtain⟨t,ht⟩:∃t,l[k-1]? = some t:=⟨_,qat (by omega)⟩;have h1:=q0c ⟨#[]⟩ ht;rw[show k-1+1=k by omega,Cr] at h1;obtain⟨e0,-⟩:=bP.out (k-1) t ht;rw[hW.cell (qaf w _ e0),h1];exact e0
   have HK0:Hid (k=0→bef=⟨#[]⟩):=hid fun e=>by rw[←Cr,e];rfl
   rw[Cr] at f0 f1;have dN:=hid fun W=>qxy s.1 W fM.1;have eY:=hid fun W=>q7c s.2 W (by omega);have Li:Hid (qak bef s=if qbx s.1.data.toList=false then 8 else if qmw s.1 bef=true then 11 else if qah s.2.data.toList≠0 then qah s.2.data.toList else if(qbk s).num≤0 then 12 else 0):=hid rfl;have oV:=hid f0;have gI:Hid (qak bef s≠0→∀w',Below w.heap.size w w'→∀z:Int,z=(qak bef s:Nat)→Ending.returned (.int .i64 z) = .returned (.int .i64 (qbd l:Nat))∧Below w.heap.size w w'):=hid fun h w' hb z hz=>⟨qa6 (by rw[HR.out,if_pos (by rw[f1 h];exact h),f1 h,hz]),hb⟩;have vO:Hid (qah s.2.data.toList=0→s.2=rt (qbk s)∧sm (qbk s) 2000):=hid fun h=>⟨(qih h).1,qfr (fO.out s (qbj cI) h) (HJ.out k bC)⟩;have uH:Hid (qgn (l.take (k+1))=qgn (l.take k)+qbk s):=hid (qud cI);have vS:Hid (sm (qgn (l.take k)) 2000):=hid (Al.out k HF.out hk);have Jv:(0:Int)≤(k:Int):=by omega
   have zK:(k:Int)<(l.length:Int):=by omega
   have iR:=hid fun h=>qpm (s:=s.1) h;clear f0 f1 fM cI Cr HF;generalize qgn (l.take k)=sq at *;generalize qbk s=pq at *;generalize s.2=s2 at *;generalize s.1=s1 at *;obtain⟨c0,c1⟩:=bT.out _ HB.out;cases hn:qbx s1.data.toList with
   | false=>
    have hE:qak bef s=8:=by rw[Li.out,if_pos hn]
    have HG:=hid (gI.out (by rw[hE];decide));rw[hE] at HG;rw[hn] at dN;clear oV gI Li vO uH hE hn;go_wp2_with fail;refine(dN.out _).mono ?_;rintro e w1 ⟨rfl,rfl⟩;go_wp2_with fail;go_ret;exact HG.out _ HB.out _ rfl
   | true=>
    rw[hn] at dN;go_wp2_with fail;refine(dN.out _).mono ?_;rintro e w1 ⟨rfl,rfl⟩;cases dS:qmw s1 bef with
    | true=>
     have hE:qak bef s=11:=by rw[Li.out,hn,if_neg (by simp),if_pos dS]
     have kF:0<k:=Nat.pos_of_ne_zero fun e=>by rw[HK0.out e,iR.out hn] at dS;cases dS
     have HG:=hid (gI.out (by rw[hE];decide));rw[hE] at HG;have c2:=Fn.out _ HB.out kF;have rL:decide ((0:Int)<(k:Int))=true:=qag (by omega);have Ml:(((k:Int)-1)).toNat=k-1:=by omega
     have hwr:IntKind.i64.wrap ((k:Int)-1)=(k:Int)-1:=IntWalk.i64_in _ (by omega);have lA:(0:Int)≤(k:Int)-1:=by omega
     have nB:(k:Int)-1<(l.length:Int):=by omega
     have kA:(Op.bytesLess s1.toList bef.toList||s1.toList==bef.toList)=true:=dS;clear oV gI Li vO uH hE dN dS;go_wp2_with fail
     go_quiet (fail)
     go_wp2_with fail;go_ret;exact HG.out _ (below_drewN HB.out _) _ rfl
    | false=>
     have kA:(Op.bytesLess s1.toList bef.toList||s1.toList==bef.toList)=false:=dS;have Bk:qak bef s=if qah s2.data.toList≠0 then qah s2.data.toList else if pq.num≤0 then 12 else 0:=by rw[Li.out,hn,if_neg (by simp),if_neg (by rw[dS];simp)]
     have xI:=hid Bk;clear Li Bk dS dN iR;rcases(show k=0∨0<k by omega) with hkz|kF
     ·have rL:decide ((0:Int)<(k:Int))=false:=qae (by omega)
      have hgn:decide (0<k)=false:=qae (by omega);have hgm:¬0<k:=by omega
      clear hkz;go_wp2_with fail
      go_quiet (fail)
      have uD:=hid (below_drewN HB.out nq);obtain⟨d0,d1⟩:=bT.out _ uD.out;clear c0 c1;go_wp2_with fail;refine(eY.out _).mono ?_;rintro e w2 ⟨rfl,aR⟩;have aK:=hid (uD.out.trans (aR.mono uD.out.size));obtain⟨e0,e1⟩:=bT.out _ aK.out;clear aR d0 d1 eY;by_cases hz:qah s2.data.toList=0
      ·obtain⟨fN,mY⟩:=vO.out hz
       have oC:qak bef s=if pq.num≤0 then 12 else 0:=by rw[xI.out,hz,if_neg (by simp)]
       rw[hz];obtain⟨sg,iK⟩:∃z,sgn pq=z:=⟨_,rfl⟩;have eK:=hid fun W=>qrt pq sg iK W;have eQ:=@qxq pq;rw[iK] at eQ;have aU:=hid eQ;rw[←fN] at eK;have HA:=hid fun W=>q26 sq pq 2000 W vS.out mY (by decide);rw[←uH.out,←fN] at HA;unfold qus at HA;clear hz fN mY vO uH vS eQ iK xI;by_cases kC:sg≤0
       ·have vW:qak bef s=12:=by rw[oC,if_pos (aU.out.1 kC)]
        have HG:=hid (gI.out (by rw[vW];decide));rw[vW] at HG;clear oV gI oC vW aU HA;go_wp2_with fail;refine(eK.out _).mono ?_;rintro e w3 ⟨rfl,rfl⟩;go_wp2_with fail;go_ret;exact HG.out _ aK.out _ rfl
       ·have vW:qak bef s=0:=by rw[oC,if_neg fun h=>kC (aU.out.2 h)]
        have HG:=hid (oV.out vW);clear oV gI oC vW aU;go_wp2_with fail;refine(eK.out _).mono ?_;rintro e w3 ⟨rfl,rfl⟩;go_wp2_with fail;refine(HA.out _).mono ?_;rintro e w4 ⟨rfl,kV⟩;have eG:=hid (aK.out.trans (kV.mono aK.out.size));clear kV HA eK;go_wp2_with fail;go_roundw
        case rel=>exact⟨k+1,by omega,by go_num,rfl,HG,eG⟩
        case measure=>simp[intOf];omega
      ·have oC:qak bef s=qah s2.data.toList:=by rw[xI.out,if_pos hz]
       have HG:=hid (gI.out (by rw[oC];exact hz));rw[oC] at HG;have hne:((qah s2.data.toList:Int) != 0)=true:=by simpa using hz
       have Iv:((qah s2.data.toList:Int)==0)=false:=qan (by omega);clear oV gI oC vO uH vS xI hz;generalize qah s2.data.toList=cr at *;go_wp2_with fail;go_ret;exact HG.out _ aK.out _ rfl
     ·have c2:=Fn.out _ HB.out kF
      have rL:decide ((0:Int)<(k:Int))=true:=qag (by omega);have Ml:(((k:Int)-1)).toNat=k-1:=by omega
      have hwr:IntKind.i64.wrap ((k:Int)-1)=(k:Int)-1:=IntWalk.i64_in _ (by omega);have lA:(0:Int)≤(k:Int)-1:=by omega
      have nB:(k:Int)-1<(l.length:Int):=by omega
      go_wp2_with fail
      go_quiet (fail)
      have uD:=hid (below_drewN HB.out nq);obtain⟨d0,d1⟩:=bT.out _ uD.out;clear c0 c1;go_wp2_with fail;refine(eY.out _).mono ?_;rintro e w2 ⟨rfl,aR⟩;have aK:=hid (uD.out.trans (aR.mono uD.out.size));obtain⟨e0,e1⟩:=bT.out _ aK.out;clear aR d0 d1 eY;by_cases hz:qah s2.data.toList=0
      ·obtain⟨fN,mY⟩:=vO.out hz
       have oC:qak bef s=if pq.num≤0 then 12 else 0:=by rw[xI.out,hz,if_neg (by simp)]
       rw[hz];obtain⟨sg,iK⟩:∃z,sgn pq=z:=⟨_,rfl⟩;have eK:=hid fun W=>qrt pq sg iK W;have eQ:=@qxq pq;rw[iK] at eQ;have aU:=hid eQ;rw[←fN] at eK;have HA:=hid fun W=>q26 sq pq 2000 W vS.out mY (by decide);rw[←uH.out,←fN] at HA;unfold qus at HA;clear hz fN mY vO uH vS eQ iK xI;by_cases kC:sg≤0
       ·have vW:qak bef s=12:=by rw[oC,if_pos (aU.out.1 kC)]
        have HG:=hid (gI.out (by rw[vW];decide));rw[vW] at HG;clear oV gI oC vW aU HA;go_wp2_with fail;refine(eK.out _).mono ?_;rintro e w3 ⟨rfl,rfl⟩;go_wp2_with fail;go_ret;exact HG.out _ aK.out _ rfl
       ·have vW:qak bef s=0:=by rw[oC,if_neg fun h=>kC (aU.out.2 h)]
        have HG:=hid (oV.out vW);clear oV gI oC vW aU;go_wp2_with fail;refine(eK.out _).mono ?_;rintro e w3 ⟨rfl,rfl⟩;go_wp2_with fail;refine(HA.out _).mono ?_;rintro e w4 ⟨rfl,kV⟩;have eG:=hid (aK.out.trans (kV.mono aK.out.size));clear kV HA eK;go_wp2_with fail;go_roundw
        case rel=>exact⟨k+1,by omega,by go_num,rfl,HG,eG⟩
        case measure=>simp[intOf];omega
      ·have oC:qak bef s=qah s2.data.toList:=by rw[xI.out,if_pos hz]
       have HG:=hid (gI.out (by rw[oC];exact hz));rw[oC] at HG;have hne:((qah s2.data.toList:Int) != 0)=true:=by simpa using hz
       have Iv:((qah s2.data.toList:Int)==0)=false:=qan (by omega);clear oV gI oC vO uH vS xI hz;generalize qah s2.data.toList=cr at *;go_wp2_with fail;go_ret;exact HG.out _ aK.out _ rfl
  ·have Ae:¬(k:Int)<(l.length:Int):=by omega
   have nB:k=l.length:=by omega
   have jT:Hid (qai (qay ⟨#[]⟩ l)=0):=hid (by rw[←HF.out,nB,List.take_of_length_le (by rw[qlt];omega)]);have iO:Hid (qgn (l.take k)=qgn l):=hid (by rw[nB,List.take_length]);have hq:=@q85 (qgn (l.take k));rw[iO.out] at hq ⊢;have HQ:=hid hq;clear hq HF nB;by_cases dL:qgn l=1
   ·have ht:((rt (qgn l)).toList==[49])=true:=beq_iff_eq.2 (HQ.out.2 dL)
    have jM:((rt (qgn l)).toList != [49])=false:=by simp[HQ.out.2 dL]
    have HZ:Hid (qbd l=0):=hid (by rw[HR.out,if_neg (by rw[jT.out];simp),if_pos dL]);clear HQ HR iO dL;generalize rt (qgn l)=tt at *;go_wp2_with fail;go_ret;exact⟨qa6 (by rw[HZ.out];rfl),HB.out⟩
   ·have ht:((rt (qgn l)).toList==[49])=false:=qan fun e=>dL (HQ.out.1 e)
    have jM:((rt (qgn l)).toList != [49])=true:=by simpa using fun e=>dL (HQ.out.1 e)
    have HZ:Hid (qbd l=12):=hid (by rw[HR.out,if_neg (by rw[jT.out];simp),if_neg dL]);clear HQ HR iO dL;generalize rt (qgn l)=tt at *;go_wp2_with fail;go_ret;exact⟨qa6 (by rw[HZ.out];rfl),HB.out⟩
theorem que(x:Lay)(p:Option Addr)(c:Nat)(w:World)(hv:qdc w (.slice p x.shares.length c) x.shares)(Cj:x.grain.size≤5000)(hs:∀s ∈ x.shares,s.1.size≤5000∧s.2.size≤5000)(j:Nat)(mY:SmP x.shares j)(hj:64<x.shares.length∨(j+1)*x.shares.length+1≤2000):
  Calls Tryz.prog 9 #[.agg #[.string x.grain,.int .i64 x.mass,.slice p x.shares.length c]] w fun e w'=>e = .returned (.int .i64 (qbc x:Nat))∧Below w.heap.size w w':=by
 have aD:Below w.heap.size w (w.alloc (.cells #[.string x.grain,.int .i64 x.mass,.slice p x.shares.length c] 28)):=qad _ _;have HO:=qdr w 28 (.string x.grain) (.int .i64 x.mass) (.slice p x.shares.length c);obtain⟨a0,-⟩:=HO.2 0 (by omega);obtain⟨a1,-⟩:=HO.2 1 (by omega);obtain⟨a2,-⟩:=HO.2 2 (by omega);simp only[qfv,if_pos,if_neg,Nat.one_ne_zero] at a0 a1 a2;have dN:=hid (qxy x.grain (w.alloc (.cells #[.string x.grain,.int .i64 x.mass,.slice p x.shares.length c] 28)) Cj);have pS:=hid (q0d _ x.shares j (w.alloc (.cells #[.string x.grain,.int .i64 x.mass,.slice p x.shares.length c] 28)) (hv.later aD) hs mY hj);have dK:=hid aD;have HE:Hid (qbc x=if qbx x.grain.data.toList=false then 8 else if x.mass<1∨999999999<x.mass then 3 else qbd x.shares):=hid rfl;clear HO hv Cj hs aD mY hj;generalize qbc x=le at *;generalize x.mass=m at *;generalize qbd x.shares=se at *;generalize x.shares.length=n at *;generalize x.grain=g at *;cases hn:qbx g.data.toList with
 | false=>
  have gB:Hid (le=8):=hid (by rw[HE.out,if_pos hn]);rw[hn] at dN;clear HE hn pS;go_enter Tryz.func9,Tryz.ntmps9;go_wp2_with fail;refine dN.out.mono ?_;rintro e w1 ⟨rfl,rfl⟩;go_wp2_with fail;go_ret;exact⟨qa6 (by rw[gB.out];rfl),dK.out⟩
 | true=>
  rw[hn] at dN HE;by_cases hm:m<1∨999999999<m
  ·have gB:Hid (le=3):=hid (by rw[HE.out,if_neg (by simp),if_pos hm])
   clear HE hn pS;rcases(show m<1∨(¬m<1∧999999999<m) by omega) with h|⟨h,h2⟩
   all_goals
    clear hm;go_enter Tryz.func9,Tryz.ntmps9;go_wp2_with fail;refine dN.out.mono ?_;rintro e w1 ⟨rfl,rfl⟩;go_wp2_with fail;go_ret;exact⟨qa6 (by rw[gB.out];rfl),dK.out⟩
  ·have gB:Hid (le=se):=hid (by rw[HE.out,if_neg (by simp),if_neg hm])
   have h1:¬m<1:=by omega
   have h2:¬999999999<m:=by omega
   clear HE hn hm;go_enter Tryz.func9,Tryz.ntmps9;go_wp2_with fail;refine dN.out.mono ?_;rintro e w1 ⟨rfl,rfl⟩;go_wp2_with fail;refine pS.out.mono ?_;rintro e w1 ⟨rfl,hb⟩;have HB:=hid (dK.out.trans (hb.mono dK.out.size));clear hb pS;go_wp2_with fail;go_ret;exact⟨qa6 (by rw[gB.out]),HB.out⟩
def qwh(s:BA × BA):Bool:=decide (s.1.size≤40)&&decide (s.2.size≤20)
def qpn(l:List (BA × BA)):Bool:=decide (l.length≤70)&&l.all qwh
def qlu(x:Lay):Bool:=decide (x.grain.size≤40)&&qpn x.shares
def qlv(l:List Lay):Bool:=(decide (l.length≤6)||decide (64<l.length))&&decide (l.length≤66)&&l.all qlu
theorem qxz{α:Type}{l:List α}{k:Nat}{s:α}{f:α→Bool}(hk:l[k]? = some s)(h:(l.take k).all f=true)(hs:f s=true):(l.take (k+1)).all f=true:=by
 rw[qbp hk,List.all_append,h];simp[hs]
theorem q31{α:Type}{l:List α}{k:Nat}{s:α}{f:α→Bool}(hk:l[k]? = some s)(h:f s=false):l.all f=false:=by
 rw[List.all_eq_false];exact⟨s,qbj hk,by simp[h]⟩
theorem za6(v:Value)(l:List (BA × BA))(w:World)(hv:qdc w v l):
  Calls Tryz.prog 23 #[v] w fun e w'=>e = .returned (.bool (qpn l))∧Below w.heap.size w w':=by
 obtain⟨p,c,rfl,bO,bJ,aA⟩:=hv;unfold maxLen at bJ;have dU:=hid (qaa w.heap.size w);by_cases h1:70<l.length
 ·have HR:Hid (qpn l=false):=hid (by unfold qpn;rw[qae (by omega)];rfl)
  clear aA;go_enter Tryz.func23,Tryz.ntmps23;go_wp2_with fail;go_ret;exact⟨qa8 HR.out.symm,dU.out⟩
 ·have HC:=hid aA
  have HR:Hid (qpn l=l.all qwh):=hid (by unfold qpn;rw[qag (by omega)];rfl);clear aA;go_enter Tryz.func23,Tryz.ntmps23;go_wp2_with fail
  go_loopw [3] (fun i wr=>∃k:Nat,k≤l.length∧i = .int .i64 k∧Hid ((l.take k).all qwh=true)∧Hid (Below w.heap.size w wr)) (fun i _=>l.length-(intOf i).toNat)
  case atStart=>exact⟨0,Nat.zero_le _,rfl,hid rfl,dU⟩
  case round=>
   obtain⟨k,hk,rfl,HA,HB⟩:=hrel;clear dU;by_cases bC:k<l.length
   ·rcases HC.out with h0|⟨b,o,rfl,aB⟩
    ·omega
    obtain⟨s,cI⟩:∃s,l[k]? = some s:=⟨_,qat bC⟩;obtain⟨e0,e1⟩:=aB k s cI;rw[←HB.out.cell (qaf w _ e0)] at e0;rw[←HB.out.cell (qaf w _ e1)] at e1
    have rR:Hid (¬(s.1.size≤40∧s.2.size≤20)→qpn l=false):=hid fun hh=>by
     rw[HR.out];refine q31 cI ?_;unfold qwh;rw[←Bool.decide_and,qae hh]
    have uL:Hid (s.1.size≤40→s.2.size≤20→(l.take (k+1)).all qwh=true):=hid fun a1 a2=>qxz cI HA.out (by simp[qwh,a1,a2]);have Jv:(0:Int)≤(k:Int):=by omega
    have zK:(k:Int)<(l.length:Int):=by omega
    clear aB cI;generalize s.1=s1 at *;generalize s.2=s2 at *;by_cases a1:s1.size≤40
    ·by_cases a2:s2.size≤20
     ·have lD:=hid (uL.out a1 a2)
      go_wp2_with fail;go_roundw
      case rel=>exact⟨k+1,by omega,by go_num,lD,HB⟩
      case measure=>simp[intOf];omega
     ·have fX:=hid (rR.out fun h=>a2 h.2)
      go_wp2_with fail;go_ret;exact⟨qa8 fX.out.symm,HB.out⟩
    ·have fX:=hid (rR.out fun h=>a1 h.1)
     go_wp2_with fail;go_ret;exact⟨qa8 fX.out.symm,HB.out⟩
   ·have Ae:¬(k:Int)<(l.length:Int):=by omega
    have cN:Hid (qpn l=true):=hid (by rw[HR.out,←HA.out,List.take_of_length_le (by omega)]);go_wp2_with fail;go_ret;exact⟨qa8 cN.out.symm,HB.out⟩
theorem zal(v:Value)(l:List Lay)(w:World)(hv:qr6 w v l):
  Calls Tryz.prog 5 #[v] w fun e w'=>e = .returned (.bool (qlv l))∧Below w.heap.size w w':=by
 obtain⟨p,c,rfl,bO,bJ,aA⟩:=hv;unfold maxLen at bJ;have dU:=hid (qaa w.heap.size w);by_cases h1:(6<l.length∧l.length≤64)∨66<l.length
 ·have HR:Hid (qlv l=false):=hid (by
   unfold qlv;rcases h1 with⟨a,b⟩|a
   ·rw[qae (show ¬l.length≤6 by omega),qae (show ¬64<l.length by omega)];rfl
   ·rw[qae (show ¬l.length≤66 by omega),Bool.and_false];rfl)
  clear aA;rcases h1 with⟨h1,h2⟩|h1
  all_goals
   go_enter Tryz.func5,Tryz.ntmps5;go_wp2_with fail;go_ret;exact⟨qa8 HR.out.symm,dU.out⟩
 ·have HC:=hid aA
  have aE:l.length≤6∨(64<l.length∧l.length≤66):=by omega
  have HR:Hid (qlv l=l.all qlu):=hid (by
   unfold qlv;rw[qag (show l.length≤66 by omega),Bool.and_true];have:(decide (l.length≤6)||decide (64<l.length))=true:=by rcases aE with h|⟨h,_⟩<;>simp[h]
   rw[this,Bool.true_and])
  clear aA h1;rcases aE with aE|⟨aE,hlen2⟩
  all_goals
   go_enter Tryz.func5,Tryz.ntmps5;go_wp2_with fail
   go_loopw [3] (fun i wr=>∃k:Nat,k≤l.length∧i = .int .i64 k∧Hid ((l.take k).all qlu=true)∧Hid (Below w.heap.size w wr)) (fun i _=>l.length-(intOf i).toNat)
   case atStart=>exact⟨0,Nat.zero_le _,rfl,hid rfl,dU⟩
   case round=>
    obtain⟨k,hk,rfl,HA,HB⟩:=hrel;clear dU;by_cases bC:k<l.length
    ·rcases HC.out with h0|⟨b,o,rfl,aB⟩
     ·omega
     obtain⟨x,cI⟩:∃x,l[k]? = some x:=⟨_,qat bC⟩;obtain⟨e0,-,q,cq,e2,Jw⟩:=aB k x cI;rw[←HB.out.cell (qaf w _ e0)] at e0;rw[←HB.out.cell (qaf w _ e2)] at e2
     have rR:Hid (qlu x=false→qlv l=false):=hid fun hh=>by
      rw[HR.out];exact q31 cI hh
     have uL:Hid (qlu x=true→(l.take (k+1)).all qlu=true):=hid fun a1=>qxz cI HA.out a1;have HL:=hid (za6 _ x.shares _ (Jw.later HB.out));have lB:Hid (qlu x=(decide (x.grain.size≤40)&&qpn x.shares)):=hid rfl;have Jv:(0:Int)≤(k:Int):=by omega
     have zK:(k:Int)<(l.length:Int):=by omega
     clear aB cI Jw;generalize qlu x=lx at *;generalize x.grain=g at *;generalize x.shares.length=n at *;generalize qpn x.shares=lb at *;by_cases a1:g.size≤40
     ·rw[qag a1,Bool.true_and] at lB
      cases lb
      ·have fX:=hid (rR.out lB.out)
       go_wp2_with fail;refine HL.out.mono ?_;rintro e w1 ⟨rfl,aY⟩;have aP:=hid (HB.out.trans (aY.mono HB.out.size));clear aY e0 e2 HL;go_wp2_with fail;go_ret;exact⟨qa8 fX.out.symm,aP.out⟩
      ·have lD:=hid (uL.out lB.out)
       go_wp2_with fail;refine HL.out.mono ?_;rintro e w1 ⟨rfl,aY⟩;have aP:=hid (HB.out.trans (aY.mono HB.out.size));clear aY e0 e2 HL;go_wp2_with fail;go_roundw
       case rel=>exact⟨k+1,by omega,by go_num,lD,aP⟩
       case measure=>simp[intOf];omega
     ·rw[qae a1,Bool.false_and] at lB
      have fX:=hid (rR.out lB.out);go_wp2_with fail;go_ret;exact⟨qa8 fX.out.symm,HB.out⟩
    ·have Ae:¬(k:Int)<(l.length:Int):=by omega
     have cN:Hid (qlv l=true):=hid (by rw[HR.out,←HA.out,List.take_of_length_le (by omega)]);go_wp2_with fail;go_ret;exact⟨qa8 cN.out.symm,HB.out⟩
end Go.Proofs.YtmcfcpgglfimjaaGreatDoor
