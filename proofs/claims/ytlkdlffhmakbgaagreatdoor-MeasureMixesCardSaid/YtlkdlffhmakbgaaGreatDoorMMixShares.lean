/- The reference's IsName. -/
import Derived.Test.YtlkdlffhmakbgaaGreatDoorMNumRead
import Derived.Test.YtlkdlffhmakbgaaGreatDoorMRefC
import Derived.Test.YtlkdlffhmakbgaaGreatDoorMEachLayer
import Derived.Test.YtlkdlffhmakbgaaGreatDoorMKeeps
import Derived.Test.YtlkdlffhmakbgaaGreatDoorMMatter
set_option linter.all false
namespace Go.Proofs.YtlkdlffhmakbgaaGreatDoor
open Go.RowKit
set_option maxRecDepth 100000
set_option maxHeartbeats 4000000
theorem q0a(s:BA)(h:¬(1≤s.size∧s.size≤24)):qdl s.data.toList=false:=by
 unfold qdl;rw[show decide (1≤s.data.toList.length∧s.data.toList.length≤24)=false from qaf (by simpa using h),Bool.and_false]
theorem q3z(c:Nat):(qio c=true∧((97≤c∧c≤122)∨(c<97∧65≤c∧c≤90)∨(c<65∧48≤c∧c≤57)∨c=45∨c=46∨c=95))∨(qio c=false∧(122<c∨(95<c∧c<97)∨(90<c∧c<95)∨(57<c∧c<65)∨(46<c∧c<48)∨c<45)):=by
 by_cases h:(97≤c∧c≤122)∨(65≤c∧c≤90)∨(48≤c∧c≤57)∨c=45∨c=95∨c=46
 ·exact .inl ⟨qhd (by omega),by omega⟩
 ·exact .inr ⟨qhz (by omega),by omega⟩
theorem qxx(s:BA)(w:World)(hs:s.size≤5000):
  Calls Tryz.prog 26 #[.string s] w fun e w'=>e = .returned (.bool (qdl s.data.toList))∧w'=w:=by
 by_cases h0:¬(1≤s.size∧s.size≤24)
 ·have HE:=hid (q0a s h0)
  rcases(show s.size<1∨(¬s.size<1∧24<s.size) by omega) with h|⟨h,h2⟩
  all_goals
   clear h0;go_enter Tryz.func26,Tryz.ntmps26;go_wp2_with fail;go_ret;exact⟨qa9 HE.out.symm,rfl⟩
 have h1:¬s.size<1∧¬24<s.size:=by omega
 obtain⟨h1,h2⟩:=h1;have iW:=hid (qcx s);have kP:=hid (qqp s)
 have oW:Hid ((∀c ∈ s.data.toList.take s.size,qio c.toNat=true)→qdl s.data.toList=true):=hid fun h=>by
  rw[List.take_of_length_le (by simp)] at h;unfold qdl;rw[List.all_eq_true.2 h,Bool.true_and];exact qag (by simp;omega)
 clear h0;generalize qdl s.data.toList=res at *;go_enter Tryz.func26,Tryz.ntmps26;go_wp2_with fail
 go_loopw [3] (fun i wr=>∃k:Nat,k≤s.size∧i = .int .i64 k∧Hid (∀c ∈ s.data.toList.take k,qio c.toNat=true)∧wr=w) (fun i _=>s.size-(intOf i).toNat)
 case atStart=>exact⟨0,Nat.zero_le _,rfl,hid (by simp),rfl⟩
 case round=>
  obtain⟨k,hk,rfl,HD,rfl⟩:=hrel;by_cases pV:k<s.size
  ·have pH:∀h:k<s.size,((s[k]'h).toNat:Int)=((s[k]'pV).toNat:Int):=fun h=>rfl
   have nM:Hid (qio (s[k]'pV).toNat=true→∀c ∈ s.data.toList.take (k+1),qio c.toNat=true):=hid (fun hd=>by
    rw[iW.out k pV];intro c hc;rcases List.mem_append.1 hc with hc|hc
    ·exact HD.out c hc
    ·rw[List.mem_singleton.1 hc];exact hd)
   have aV:=hid (kP.out k pV);generalize (s[k]'pV).toNat=c at *;rcases q3z c with⟨hd,h⟩|⟨hd,h⟩
   ·have HD3:=hid (nM.out hd)
    clear nM hd aV;rcases h with h|h|h|h|h|h
    all_goals
     first|have g97:decide ((97:Int)≤(c:Int))=true:=qag (by omega)|have g97:decide ((97:Int)≤(c:Int))=false:=qaf (by omega)
     first|have g122:decide ((c:Int)≤122)=true:=qag (by omega)|have g122:decide ((c:Int)≤122)=false:=qaf (by omega)
     first|have g65:decide ((65:Int)≤(c:Int))=true:=qag (by omega)|have g65:decide ((65:Int)≤(c:Int))=false:=qaf (by omega)
     first|have g90:decide ((c:Int)≤90)=true:=qag (by omega)|have g90:decide ((c:Int)≤90)=false:=qaf (by omega)
     first|have g48:decide ((48:Int)≤(c:Int))=true:=qag (by omega)|have g48:decide ((48:Int)≤(c:Int))=false:=qaf (by omega)
     first|have g57:decide ((c:Int)≤57)=true:=qag (by omega)|have g57:decide ((c:Int)≤57)=false:=qaf (by omega)
     first|have g45:((c:Int)==45)=true:=beq_iff_eq.2 (by omega)|have g45:((c:Int)==45)=false:=qam (by omega)
     first|have g95:((c:Int)==95)=true:=beq_iff_eq.2 (by omega)|have g95:((c:Int)==95)=false:=qam (by omega)
     first|have g46:((c:Int)==46)=true:=beq_iff_eq.2 (by omega)|have g46:((c:Int)==46)=false:=qam (by omega)
     clear h;go_wp2_with fail;go_roundw
     case rel=>exact⟨k+1,by omega,by go_num,HD3,trivial⟩
     case measure=>simp[intOf];omega
   ·have cK:=hid (aV.out hd)
    clear nM hd aV;rcases h with h|h|h|h|h|h
    all_goals
     first|have g97:decide ((97:Int)≤(c:Int))=true:=qag (by omega)|have g97:decide ((97:Int)≤(c:Int))=false:=qaf (by omega)
     first|have g122:decide ((c:Int)≤122)=true:=qag (by omega)|have g122:decide ((c:Int)≤122)=false:=qaf (by omega)
     first|have g65:decide ((65:Int)≤(c:Int))=true:=qag (by omega)|have g65:decide ((65:Int)≤(c:Int))=false:=qaf (by omega)
     first|have g90:decide ((c:Int)≤90)=true:=qag (by omega)|have g90:decide ((c:Int)≤90)=false:=qaf (by omega)
     first|have g48:decide ((48:Int)≤(c:Int))=true:=qag (by omega)|have g48:decide ((48:Int)≤(c:Int))=false:=qaf (by omega)
     first|have g57:decide ((c:Int)≤57)=true:=qag (by omega)|have g57:decide ((c:Int)≤57)=false:=qaf (by omega)
     first|have g45:((c:Int)==45)=true:=beq_iff_eq.2 (by omega)|have g45:((c:Int)==45)=false:=qam (by omega)
     first|have g95:((c:Int)==95)=true:=beq_iff_eq.2 (by omega)|have g95:((c:Int)==95)=false:=qam (by omega)
     first|have g46:((c:Int)==46)=true:=beq_iff_eq.2 (by omega)|have g46:((c:Int)==46)=false:=qam (by omega)
     clear h;go_wp2_with fail;go_ret;exact⟨qa9 cK.out.symm,rfl⟩
  ·have uS:k=s.size:=by omega
   have HE:=hid (oW.out (by rw[←uS];exact HD.out));clear uS;go_wp2_with fail;go_ret;exact⟨qa9 HE.out.symm,rfl⟩
theorem qug{l:List (BA × BA)}{w w':World}{e:Ending}(h:qcv l w e w'):∃p n c,e = .returned (.tuple #[.slice p n c,.int .i64 (qbe l:Nat)])∧Below w.heap.size w w':=by
 unfold qcv at h;obtain⟨h1,h2⟩:=h;split at h1
 ·rename_i h0
  obtain⟨g,_,he,_⟩:=h1;exact⟨_,_,_,by rw[he,h0];rfl,h2⟩
 ·exact⟨_,_,_,h1,h2⟩
theorem q30{x:Lay}{w w':World}{e:Ending}(h:qo9 x w e w'):∃p n c,e = .returned (.tuple #[.slice p n c,.int .i64 (qbj x:Nat)])∧Below w.heap.size w w':=by
 unfold qo9 at h;obtain⟨h1,h2⟩:=h;split at h1
 ·rename_i h0
  obtain⟨g,_,he,_⟩:=h1;exact⟨_,_,_,by rw[he,h0];rfl,h2⟩
 ·exact⟨_,_,_,h1,h2⟩
theorem q6h(v:Value)(l:List (BA × BA))(w:World)(hg:GW w)(hv:qc9 w v l)(hs:∀s ∈ l,s.2.size≤1073741824):
  Calls Tryz.prog 6 #[v] w fun e w'=>e = .returned (.int .i64 (qbe l:Nat))∧Below w.heap.size w w':=by
 have HC:=hid ((qkb v l w hg hv hs).mono fun e w' h=>qug h);obtain⟨p,c,rfl,-,-,-⟩:=hv;generalize qbe l=ck at *;clear hg hs;go_enter Tryz.func6,Tryz.ntmps6;go_wp2_with fail;refine HC.out.mono ?_;rintro e w1 ⟨q,n,cq,rfl,hb⟩;have HB:=hid hb;clear hb HC;go_wp2_with fail;go_ret;exact⟨rfl,HB.out⟩
theorem q8v(x:Lay)(p:Option Addr)(c:Nat)(w:World)(hg:GW w)(hv:qc9 w (.slice p x.shares.length c) x.shares)(hs:∀s ∈ x.shares,s.2.size≤1073741824):
  Calls Tryz.prog 8 #[.agg #[.string x.grain,.int .i64 x.mass,.slice p x.shares.length c]] w fun e w'=>e = .returned (.int .i64 (qbj x:Nat))∧Below w.heap.size w w':=by
 have aD:Below w.heap.size w (w.alloc (.cells #[.string x.grain,.int .i64 x.mass,.slice p x.shares.length c] 29)):=qad _ _;have HC:=hid ((qlp x _ _ (hg.later aD) (hv.later aD) hs).mono fun e w' h=>q30 h);have cX:=hid aD;generalize qbj x=ck at *;clear hg hv hs aD;go_enter Tryz.func8,Tryz.ntmps8;go_wp2_with fail;refine HC.out.mono ?_;rintro e w1 ⟨q,n,cq,rfl,hb⟩;have HB:=hid (cX.out.trans (hb.mono cX.out.size));clear hb HC;go_wp2_with fail;go_ret;exact⟨rfl,HB.out⟩
theorem qpr:∀ {es:List Nat} {k e:Nat},qaj (es.take k)=0→es[k]? = some e→(e=0→qaj (es.take (k+1))=0)∧(e≠0→qaj es=e)
 | [],k,e,_,hk=>by simp at hk
 | x::es,0,e,_,hk=>by
  simp at hk;subst hk;constructor
  ·intro e0
   show qaj [x]=0;unfold qaj;rw[if_pos e0];rfl
  ·intro e0
   unfold qaj;rw[if_neg e0]
 | x::es,k+1,e,h,hk=>by
  have h2:qaj (x::es.take k)=0:=h;unfold qaj at h2;by_cases hx:x=0
  ·rw[if_pos hx] at h2
   have ih:=qpr h2 (by simpa using hk);constructor
   ·intro e0
    show qaj (x::es.take (k+1))=0;unfold qaj;rw[if_pos hx];exact ih.1 e0
   ·intro e0
    unfold qaj;rw[if_pos hx];exact ih.2 e0
  ·rw[if_neg hx] at h2
   exact absurd h2 hx
theorem qii:∀(l:List (BA × BA)) (b:BA) (k:Nat) (s:BA × BA),l[k]? = some s→(qa4 b l)[k]? = some (qao (qjc b (l.take k)) s)
 | [],_,_,_,h=>by simp at h
 | t::l,b,0,s,h=>by
  simp only[List.getElem?_cons_zero,Option.some.injEq] at h;subst h;rfl
 | t::l,b,k+1,s,h=>by
  have ih:=qii l t.1 k s (by simpa using h);show(qa4 t.1 l)[k]? = _;rw[ih];rfl
theorem ql1:∀(l:List (BA × BA)) (b:BA),(qa4 b l).length=l.length
 | [],_=>rfl
 | t::l,_=>congrArg (· + 1) (ql1 l t.1)
theorem q0b{l:List (BA × BA)}{k:Nat}{s:BA × BA}(b:BA)(h:l[k]? = some s):qjc b (l.take (k+1))=s.1:=by rw[qbl h,qqq]
theorem qwi{s:BA}(h:qdl s.data.toList=true):qrt s ⟨#[]⟩=false:=by
 unfold qrt;rw[Lib.toList_data,Lib.toList_data];show(Op.bytesLess s.data.toList []||s.data.toList==[])=false;cases hd:s.data.toList with
 | nil=>rw[hd] at h;revert h;decide
 | cons a t=>rfl
theorem quh{l:List (BA × BA)}{k:Nat}{s:BA × BA}(h:l[k]? = some s):qg0 (l.take (k+1))=qg0 (l.take k)+qcu s:=by rw[qbl h,qo7];rfl
theorem qwj{s:BA × BA}(h:qah s.2.data.toList=0)(hs:s.2.size≤20):s.2=rt (qcu s)∧sm (qcu s) 20:=by
 have h1:=(qwh h).1;exact⟨h1,qz9 (n:=20) (by show(rt (qbc s.2.data.toList)).size≤20;rw[←h1];exact hs) (by decide)⟩
theorem q31{l:List (BA × BA)}(hs:∀s ∈ l,s.2.size≤20):∀k,qaj ((qa4 ⟨#[]⟩ l).take k)=0→k≤l.length→sm (qg0 (l.take k)) (21*k+1)
 | 0,_,_=>⟨by show 0<10^1;decide,by show 1<10^1;decide⟩
 | k+1,h,hk=>by
  have bV:=qap (show k<l.length by omega);have hg:=qii l ⟨#[]⟩ k _ bV;rw[qbl hg] at h;obtain⟨h1,h2⟩:=qgs h;have h3:=q31 hs k h1 (by omega)
  have h4:qao (qjc ⟨#[]⟩ (l.take k)) l[k]=0:=by
   have h5:(if qao (qjc ⟨#[]⟩ (l.take k)) l[k]=0 then qaj [] else qao (qjc ⟨#[]⟩ (l.take k)) l[k])=0:=h2;by_cases hz:qao (qjc ⟨#[]⟩ (l.take k)) l[k]=0
   ·exact hz
   ·rw[if_neg hz] at h5;exact absurd h5 hz
  rw[quh bV];exact qek (q60 h3 (qwj (qg1 h4) (hs _ (List.getElem_mem _))).2) (by omega)
theorem q8w{q:Rat}:(rt q).toList=[49]↔q=1:=by
 rw[Lib.toList_data,qdi];constructor
 ·intro h
  have h2:rt q=rt 1:=qca (by rw[qdi,h];kernel_rfl);exact zad h2
 ·rintro rfl
  kernel_rfl
theorem qq3(v:Value)(l:List (BA × BA))(w:World)(hv:qc9 w v l)(hs:∀s ∈ l,s.1.size≤5000∧s.2.size≤20):
  Calls Tryz.prog 7 #[v] w fun e w'=>e = .returned (.int .i64 (qbe l:Nat))∧Below w.heap.size w w':=by
 obtain⟨p,c,rfl,bO,bG,aA⟩:=hv;unfold maxLen at bG;have dM:=hid (qaa w.heap.size w);by_cases h0:l.length=0
 ·have HR:Hid (qbe l=2):=hid (by unfold qbe;rw[if_pos h0])
  have hb:((l.length:Int)==0)=true:=by rw[h0];rfl
  clear aA hs;go_enter Tryz.func7,Tryz.ntmps7;go_wp2_with fail;go_ret;exact⟨by rw[HR.out];rfl,dM.out⟩
 have dS:((l.length:Int)==0)=false:=qam (by omega);by_cases h1:64<l.length
 ·have HR:Hid (qbe l=5):=hid (by unfold qbe;rw[if_neg h0,if_pos h1])
  clear aA hs;go_enter Tryz.func7,Tryz.ntmps7;go_wp2_with fail;go_ret;exact⟨by rw[HR.out];rfl,dM.out⟩
 have HR:Hid (qbe l=if qaj (qa4 ⟨#[]⟩ l)≠0 then qaj (qa4 ⟨#[]⟩ l) else if qg0 l=1 then 0 else 12):=hid (by unfold qbe;rw[if_neg h0,if_neg h1]);obtain⟨b,o,rfl,aB⟩:=aA.resolve_left h0;have bL:=hid aB;have HS:=hid hs;have Bz:=hid (q31 fun s h=>(hs s h).2);clear aA hs aB h0;go_enter Tryz.func7,Tryz.ntmps7;go_wp2_with fail
 go_loopw [3,4] (fun t i wr=>∃k:Nat,k≤l.length∧i = .int .i64 k∧t = .string (rt (qg0 (l.take k)))∧Hid (qaj ((qa4 ⟨#[]⟩ l).take k)=0)∧Hid (Below w.heap.size w wr)) (fun _ i _=>l.length-(intOf i).toNat)
 case atStart=>exact⟨0,Nat.zero_le _,rfl,by rw[zae];rfl,hid rfl,dM⟩
 case round=>
  obtain⟨k,hk,rfl,rfl,HF,HB⟩:=hrel;clear dM;by_cases aY:k<l.length
  ·obtain⟨s,bV⟩:∃s,l[k]? = some s:=⟨_,qap aY⟩
   have bA:Hid (∀W,Below w.heap.size w W→W.cell? ⟨b,o+k*2,none⟩=some (.string s.1)∧W.cell? ⟨b,o+k*2+1,none⟩=some (.string s.2)):=hid fun W hW=>by
    obtain⟨e0,e1⟩:=bL.out k s bV;rw[hW.cell (qae w _ e0),hW.cell (qae w _ e1)];exact⟨e0,e1⟩
   obtain⟨f0,f1⟩:=qpr HF.out (qii l ⟨#[]⟩ k s bV);have eT:=HS.out s (qbh bV);obtain⟨bef,Eb⟩:∃t,qjc ⟨#[]⟩ (l.take k)=t:=⟨_,rfl⟩
   have Gs:Hid (∀W,Below w.heap.size w W→0<k→W.cell? ⟨b,o+(k-1)*2,none⟩=some (.string bef)):=hid fun W hW kV=>by
    obtain⟨t,ht⟩:∃t,l[k-1]? = some t:=⟨_,qap (by omega)⟩;have h1:=q0b ⟨#[]⟩ ht;rw[show k-1+1=k by omega,Eb] at h1;obtain⟨e0,-⟩:=bL.out (k-1) t ht;rw[hW.cell (qae w _ e0),h1];exact e0
   have HK0:Hid (k=0→bef=⟨#[]⟩):=hid fun e=>by rw[←Eb,e];rfl
   rw[Eb] at f0 f1;have dR:=hid fun W=>qxx s.1 W eT.1;have eX:=hid fun W=>q96 s.2 W (by omega);have Mk:Hid (qao bef s=if qdl s.1.data.toList=false then 8 else if qrt s.1 bef=true then 11 else if qah s.2.data.toList≠0 then qah s.2.data.toList else if(qcu s).num≤0 then 12 else 0):=hid rfl;have pW:=hid f0;have gV:Hid (qao bef s≠0→∀w',Below w.heap.size w w'→∀z:Int,z=(qao bef s:Nat)→Ending.returned (.int .i64 z) = .returned (.int .i64 (qbe l:Nat))∧Below w.heap.size w w'):=hid fun h w' hb z hz=>⟨qa1 (by rw[HR.out,if_pos (by rw[f1 h];exact h),f1 h,hz]),hb⟩;have xT:Hid (qah s.2.data.toList=0→s.2=rt (qcu s)∧sm (qcu s) 20):=hid fun h=>qwj h eT.2;have vI:Hid (qg0 (l.take (k+1))=qg0 (l.take k)+qcu s):=hid (quh bV);have xU:Hid (sm (qg0 (l.take k)) 2000):=hid (qek (Bz.out k HF.out hk) (by omega));have Cc:(0:Int)≤(k:Int):=by omega
   have tO:(k:Int)<(l.length:Int):=by omega
   have iF:=hid fun h=>qwi (s:=s.1) h;clear f0 f1 eT bV Eb HF;generalize qg0 (l.take k)=sq at *;generalize qcu s=pq at *;generalize s.2=s2 at *;generalize s.1=s1 at *;obtain⟨c0,c1⟩:=bA.out _ HB.out;cases hn:qdl s1.data.toList with
   | false=>
    have hE:qao bef s=8:=by rw[Mk.out,if_pos hn]
    have HG:=hid (gV.out (by rw[hE];decide));rw[hE] at HG;rw[hn] at dR;clear pW gV Mk xT vI hE hn;go_wp2_with fail;refine(dR.out _).mono ?_;rintro e w1 ⟨rfl,rfl⟩;go_wp2_with fail;go_ret;exact HG.out _ HB.out _ rfl
   | true=>
    rw[hn] at dR;go_wp2_with fail;refine(dR.out _).mono ?_;rintro e w1 ⟨rfl,rfl⟩;cases dY:qrt s1 bef with
    | true=>
     have hE:qao bef s=11:=by rw[Mk.out,hn,if_neg (by simp),if_pos dY]
     have kV:0<k:=Nat.pos_of_ne_zero fun e=>by rw[HK0.out e,iF.out hn] at dY;cases dY
     have HG:=hid (gV.out (by rw[hE];decide));rw[hE] at HG;have c2:=Gs.out _ HB.out kV;have rE:decide ((0:Int)<(k:Int))=true:=qag (by omega);have Ng:(((k:Int)-1)).toNat=k-1:=by omega
     have hwr:IntKind.i64.wrap ((k:Int)-1)=(k:Int)-1:=IntWalk.i64_in _ (by omega);have jN:(0:Int)≤(k:Int)-1:=by omega
     have oH:(k:Int)-1<(l.length:Int):=by omega
     have kJ:(Op.bytesLess s1.toList bef.toList||s1.toList==bef.toList)=true:=dY;clear pW gV Mk xT vI hE dR dY;go_wp2_with fail
     go_quiet (fail)
     go_wp2_with fail;go_ret;exact HG.out _ (below_drewN HB.out _) _ rfl
    | false=>
     have kJ:(Op.bytesLess s1.toList bef.toList||s1.toList==bef.toList)=false:=dY;have Cs:qao bef s=if qah s2.data.toList≠0 then qah s2.data.toList else if pq.num≤0 then 12 else 0:=by rw[Mk.out,hn,if_neg (by simp),if_neg (by rw[dY];simp)]
     have yI:=hid Cs;clear Mk Cs dY dR iF;rcases(show k=0∨0<k by omega) with hkz|kV
     ·have rE:decide ((0:Int)<(k:Int))=false:=qaf (by omega)
      have hgn:decide (0<k)=false:=qaf (by omega);have hgm:¬0<k:=by omega
      clear hkz;go_wp2_with fail
      go_quiet (fail)
      have uV:=hid (below_drewN HB.out nq);obtain⟨d0,d1⟩:=bA.out _ uV.out;clear c0 c1;go_wp2_with fail;refine(eX.out _).mono ?_;rintro e w2 ⟨rfl,aR⟩;have aK:=hid (uV.out.trans (aR.mono uV.out.size));obtain⟨e0,e1⟩:=bA.out _ aK.out;clear aR d0 d1 eX;by_cases hz:qah s2.data.toList=0
      ·obtain⟨fS,sJ⟩:=xT.out hz
       have pG:qao bef s=if pq.num≤0 then 12 else 0:=by rw[yI.out,hz,if_neg (by simp)]
       rw[hz];obtain⟨sg,iJ⟩:∃z,sgn pq=z:=⟨_,rfl⟩;have dV:=hid fun W=>qr9 pq sg iJ W;have eS:=@qxi pq;rw[iJ] at eS;have aT:=hid eS;rw[←fS] at dV;have HA:=hid fun W=>q27 sq pq 2000 W xU.out (qek sJ (by decide)) (by decide);rw[←vI.out,←fS] at HA;unfold qq0 at HA;clear hz fS sJ xT vI xU eS iJ yI;by_cases kS:sg≤0
       ·have xV:qao bef s=12:=by rw[pG,if_pos (aT.out.1 kS)]
        have HG:=hid (gV.out (by rw[xV];decide));rw[xV] at HG;clear pW gV pG xV aT HA;go_wp2_with fail;refine(dV.out _).mono ?_;rintro e w3 ⟨rfl,rfl⟩;go_wp2_with fail;go_ret;exact HG.out _ aK.out _ rfl
       ·have xV:qao bef s=0:=by rw[pG,if_neg fun h=>kS (aT.out.2 h)]
        have HG:=hid (pW.out xV);clear pW gV pG xV aT;go_wp2_with fail;refine(dV.out _).mono ?_;rintro e w3 ⟨rfl,rfl⟩;go_wp2_with fail;refine(HA.out _).mono ?_;rintro e w4 ⟨rfl,lL⟩;have eL:=hid (aK.out.trans (lL.mono aK.out.size));clear lL HA dV;go_wp2_with fail;go_roundw
        case rel=>exact⟨k+1,by omega,by go_num,rfl,HG,eL⟩
        case measure=>simp[intOf];omega
      ·have pG:qao bef s=qah s2.data.toList:=by rw[yI.out,if_pos hz]
       have HG:=hid (gV.out (by rw[pG];exact hz));rw[pG] at HG;have hne:((qah s2.data.toList:Int) != 0)=true:=by simpa using hz
       have Iz:((qah s2.data.toList:Int)==0)=false:=qam (by omega);clear pW gV pG xT vI xU yI hz;generalize qah s2.data.toList=cr at *;go_wp2_with fail;go_ret;exact HG.out _ aK.out _ rfl
     ·have c2:=Gs.out _ HB.out kV
      have rE:decide ((0:Int)<(k:Int))=true:=qag (by omega);have Ng:(((k:Int)-1)).toNat=k-1:=by omega
      have hwr:IntKind.i64.wrap ((k:Int)-1)=(k:Int)-1:=IntWalk.i64_in _ (by omega);have jN:(0:Int)≤(k:Int)-1:=by omega
      have oH:(k:Int)-1<(l.length:Int):=by omega
      go_wp2_with fail
      go_quiet (fail)
      have uV:=hid (below_drewN HB.out nq);obtain⟨d0,d1⟩:=bA.out _ uV.out;clear c0 c1;go_wp2_with fail;refine(eX.out _).mono ?_;rintro e w2 ⟨rfl,aR⟩;have aK:=hid (uV.out.trans (aR.mono uV.out.size));obtain⟨e0,e1⟩:=bA.out _ aK.out;clear aR d0 d1 eX;by_cases hz:qah s2.data.toList=0
      ·obtain⟨fS,sJ⟩:=xT.out hz
       have pG:qao bef s=if pq.num≤0 then 12 else 0:=by rw[yI.out,hz,if_neg (by simp)]
       rw[hz];obtain⟨sg,iJ⟩:∃z,sgn pq=z:=⟨_,rfl⟩;have dV:=hid fun W=>qr9 pq sg iJ W;have eS:=@qxi pq;rw[iJ] at eS;have aT:=hid eS;rw[←fS] at dV;have HA:=hid fun W=>q27 sq pq 2000 W xU.out (qek sJ (by decide)) (by decide);rw[←vI.out,←fS] at HA;unfold qq0 at HA;clear hz fS sJ xT vI xU eS iJ yI;by_cases kS:sg≤0
       ·have xV:qao bef s=12:=by rw[pG,if_pos (aT.out.1 kS)]
        have HG:=hid (gV.out (by rw[xV];decide));rw[xV] at HG;clear pW gV pG xV aT HA;go_wp2_with fail;refine(dV.out _).mono ?_;rintro e w3 ⟨rfl,rfl⟩;go_wp2_with fail;go_ret;exact HG.out _ aK.out _ rfl
       ·have xV:qao bef s=0:=by rw[pG,if_neg fun h=>kS (aT.out.2 h)]
        have HG:=hid (pW.out xV);clear pW gV pG xV aT;go_wp2_with fail;refine(dV.out _).mono ?_;rintro e w3 ⟨rfl,rfl⟩;go_wp2_with fail;refine(HA.out _).mono ?_;rintro e w4 ⟨rfl,lL⟩;have eL:=hid (aK.out.trans (lL.mono aK.out.size));clear lL HA dV;go_wp2_with fail;go_roundw
        case rel=>exact⟨k+1,by omega,by go_num,rfl,HG,eL⟩
        case measure=>simp[intOf];omega
      ·have pG:qao bef s=qah s2.data.toList:=by rw[yI.out,if_pos hz]
       have HG:=hid (gV.out (by rw[pG];exact hz));rw[pG] at HG;have hne:((qah s2.data.toList:Int) != 0)=true:=by simpa using hz
       have Iz:((qah s2.data.toList:Int)==0)=false:=qam (by omega);clear pW gV pG xT vI xU yI hz;generalize qah s2.data.toList=cr at *;go_wp2_with fail;go_ret;exact HG.out _ aK.out _ rfl
  ·have Bj:¬(k:Int)<(l.length:Int):=by omega
   have oH:k=l.length:=by omega
   have kH:Hid (qaj (qa4 ⟨#[]⟩ l)=0):=hid (by rw[←HF.out,oH,List.take_of_length_le (by rw[ql1];omega)]);have jD:Hid (qg0 (l.take k)=qg0 l):=hid (by rw[oH,List.take_length]);have hq:=@q8w (qg0 (l.take k));rw[jD.out] at hq ⊢;have HQ:=hid hq;clear hq HF oH;by_cases dO:qg0 l=1
   ·have ht:((rt (qg0 l)).toList==[49])=true:=beq_iff_eq.2 (HQ.out.2 dO)
    have gT:((rt (qg0 l)).toList != [49])=false:=by simp[HQ.out.2 dO]
    have HZ:Hid (qbe l=0):=hid (by rw[HR.out,if_neg (by rw[kH.out];simp),if_pos dO]);clear HQ HR jD dO;generalize rt (qg0 l)=tt at *;go_wp2_with fail;go_ret;exact⟨qa1 (by rw[HZ.out];rfl),HB.out⟩
   ·have ht:((rt (qg0 l)).toList==[49])=false:=qam fun e=>dO (HQ.out.1 e)
    have gT:((rt (qg0 l)).toList != [49])=true:=by simpa using fun e=>dO (HQ.out.1 e)
    have HZ:Hid (qbe l=12):=hid (by rw[HR.out,if_neg (by rw[kH.out];simp),if_neg dO]);clear HQ HR jD dO;generalize rt (qg0 l)=tt at *;go_wp2_with fail;go_ret;exact⟨qa1 (by rw[HZ.out];rfl),HB.out⟩
theorem qui(x:Lay)(p:Option Addr)(c:Nat)(w:World)(hv:qc9 w (.slice p x.shares.length c) x.shares)(Do:x.grain.size≤5000)(hs:∀s ∈ x.shares,s.1.size≤5000∧s.2.size≤20):
  Calls Tryz.prog 9 #[.agg #[.string x.grain,.int .i64 x.mass,.slice p x.shares.length c]] w fun e w'=>e = .returned (.int .i64 (qbj x:Nat))∧Below w.heap.size w w':=by
 have aD:Below w.heap.size w (w.alloc (.cells #[.string x.grain,.int .i64 x.mass,.slice p x.shares.length c] 29)):=qad _ _;have HO:=qb4 w 29 (.string x.grain) (.int .i64 x.mass) (.slice p x.shares.length c);obtain⟨a0,-⟩:=HO.2 0 (by omega);obtain⟨a1,-⟩:=HO.2 1 (by omega);obtain⟨a2,-⟩:=HO.2 2 (by omega);simp only[qep,if_pos,if_neg,Nat.one_ne_zero] at a0 a1 a2;have dR:=hid (qxx x.grain (w.alloc (.cells #[.string x.grain,.int .i64 x.mass,.slice p x.shares.length c] 29)) Do);have nR:=hid (qq3 _ x.shares (w.alloc (.cells #[.string x.grain,.int .i64 x.mass,.slice p x.shares.length c] 29)) (hv.later aD) hs);have cX:=hid aD;have HE:Hid (qbj x=if qdl x.grain.data.toList=false then 8 else if x.mass<1∨999999999<x.mass then 3 else qbe x.shares):=hid rfl;clear HO hv Do hs aD;generalize qbj x=le at *;generalize x.mass=m at *;generalize qbe x.shares=se at *;generalize x.shares.length=n at *;generalize x.grain=g at *;cases hn:qdl g.data.toList with
 | false=>
  have gN:Hid (le=8):=hid (by rw[HE.out,if_pos hn]);rw[hn] at dR;clear HE hn nR;go_enter Tryz.func9,Tryz.ntmps9;go_wp2_with fail;refine dR.out.mono ?_;rintro e w1 ⟨rfl,rfl⟩;go_wp2_with fail;go_ret;exact⟨qa1 (by rw[gN.out];rfl),cX.out⟩
 | true=>
  rw[hn] at dR HE;by_cases hm:m<1∨999999999<m
  ·have gN:Hid (le=3):=hid (by rw[HE.out,if_neg (by simp),if_pos hm])
   clear HE hn nR;rcases(show m<1∨(¬m<1∧999999999<m) by omega) with h|⟨h,h2⟩
   all_goals
    clear hm;go_enter Tryz.func9,Tryz.ntmps9;go_wp2_with fail;refine dR.out.mono ?_;rintro e w1 ⟨rfl,rfl⟩;go_wp2_with fail;go_ret;exact⟨qa1 (by rw[gN.out];rfl),cX.out⟩
  ·have gN:Hid (le=se):=hid (by rw[HE.out,if_neg (by simp),if_neg hm])
   have h1:¬m<1:=by omega
   have h2:¬999999999<m:=by omega
   clear HE hn hm;go_enter Tryz.func9,Tryz.ntmps9;go_wp2_with fail;refine dR.out.mono ?_;rintro e w1 ⟨rfl,rfl⟩;go_wp2_with fail;refine nR.out.mono ?_;rintro e w1 ⟨rfl,hb⟩;have HB:=hid (cX.out.trans (hb.mono cX.out.size));clear hb nR;go_wp2_with fail;go_ret;exact⟨qa1 (by rw[gN.out]),HB.out⟩
def qwk(s:BA × BA):Bool:=decide (s.1.size≤40)&&decide (s.2.size≤20)
def qps(l:List (BA × BA)):Bool:=decide (l.length≤70)&&l.all qwk
def ql2(x:Lay):Bool:=decide (x.grain.size≤40)&&qps x.shares
def qke(l:List Lay):Bool:=(decide (l.length≤6)||decide (64<l.length))&&decide (l.length≤66)&&l.all ql2
theorem qxy{α:Type}{l:List α}{k:Nat}{s:α}{f:α→Bool}(hk:l[k]? = some s)(h:(l.take k).all f=true)(hs:f s=true):(l.take (k+1)).all f=true:=by
 rw[qbl hk,List.all_append,h];simp[hs]
theorem q32{α:Type}{l:List α}{k:Nat}{s:α}{f:α→Bool}(hk:l[k]? = some s)(h:f s=false):l.all f=false:=by
 rw[List.all_eq_false];exact⟨s,qbh hk,by simp[h]⟩
theorem zaz(v:Value)(l:List (BA × BA))(w:World)(hv:qc9 w v l):
  Calls Tryz.prog 24 #[v] w fun e w'=>e = .returned (.bool (qps l))∧Below w.heap.size w w':=by
 obtain⟨p,c,rfl,bO,bG,aA⟩:=hv;unfold maxLen at bG;have dM:=hid (qaa w.heap.size w);by_cases h1:70<l.length
 ·have HR:Hid (qps l=false):=hid (by unfold qps;rw[qaf (by omega)];rfl)
  clear aA;go_enter Tryz.func24,Tryz.ntmps24;go_wp2_with fail;go_ret;exact⟨qa9 HR.out.symm,dM.out⟩
 ·have HC:=hid aA
  have HR:Hid (qps l=l.all qwk):=hid (by unfold qps;rw[qag (by omega)];rfl);clear aA;go_enter Tryz.func24,Tryz.ntmps24;go_wp2_with fail
  go_loopw [3] (fun i wr=>∃k:Nat,k≤l.length∧i = .int .i64 k∧Hid ((l.take k).all qwk=true)∧Hid (Below w.heap.size w wr)) (fun i _=>l.length-(intOf i).toNat)
  case atStart=>exact⟨0,Nat.zero_le _,rfl,hid rfl,dM⟩
  case round=>
   obtain⟨k,hk,rfl,HA,HB⟩:=hrel;clear dM;by_cases aY:k<l.length
   ·rcases HC.out with h0|⟨b,o,rfl,aB⟩
    ·omega
    obtain⟨s,bV⟩:∃s,l[k]? = some s:=⟨_,qap aY⟩;obtain⟨e0,e1⟩:=aB k s bV;rw[←HB.out.cell (qae w _ e0)] at e0;rw[←HB.out.cell (qae w _ e1)] at e1
    have sR:Hid (¬(s.1.size≤40∧s.2.size≤20)→qps l=false):=hid fun hh=>by
     rw[HR.out];refine q32 bV ?_;unfold qwk;rw[←Bool.decide_and,qaf hh]
    have xH:Hid (s.1.size≤40→s.2.size≤20→(l.take (k+1)).all qwk=true):=hid fun a1 a2=>qxy bV HA.out (by simp[qwk,a1,a2]);have Cc:(0:Int)≤(k:Int):=by omega
    have tO:(k:Int)<(l.length:Int):=by omega
    clear aB bV;generalize s.1=s1 at *;generalize s.2=s2 at *;by_cases a1:s1.size≤40
    ·by_cases a2:s2.size≤20
     ·have mC:=hid (xH.out a1 a2)
      go_wp2_with fail;go_roundw
      case rel=>exact⟨k+1,by omega,by go_num,mC,HB⟩
      case measure=>simp[intOf];omega
     ·have gI:=hid (sR.out fun h=>a2 h.2)
      go_wp2_with fail;go_ret;exact⟨qa9 gI.out.symm,HB.out⟩
    ·have gI:=hid (sR.out fun h=>a1 h.1)
     go_wp2_with fail;go_ret;exact⟨qa9 gI.out.symm,HB.out⟩
   ·have Bj:¬(k:Int)<(l.length:Int):=by omega
    have cK:Hid (qps l=true):=hid (by rw[HR.out,←HA.out,List.take_of_length_le (by omega)]);go_wp2_with fail;go_ret;exact⟨qa9 cK.out.symm,HB.out⟩
theorem zaf(v:Value)(l:List Lay)(w:World)(hv:qpa w v l):
  Calls Tryz.prog 5 #[v] w fun e w'=>e = .returned (.bool (qke l))∧Below w.heap.size w w':=by
 obtain⟨p,c,rfl,bO,bG,aA⟩:=hv;unfold maxLen at bG;have dM:=hid (qaa w.heap.size w);by_cases h1:(6<l.length∧l.length≤64)∨66<l.length
 ·have HR:Hid (qke l=false):=hid (by
   unfold qke;rcases h1 with⟨a,b⟩|a
   ·rw[qaf (show ¬l.length≤6 by omega),qaf (show ¬64<l.length by omega)];rfl
   ·rw[qaf (show ¬l.length≤66 by omega),Bool.and_false];rfl)
  clear aA;rcases h1 with⟨h1,h2⟩|h1
  all_goals
   go_enter Tryz.func5,Tryz.ntmps5;go_wp2_with fail;go_ret;exact⟨qa9 HR.out.symm,dM.out⟩
 ·have HC:=hid aA
  have aE:l.length≤6∨(64<l.length∧l.length≤66):=by omega
  have HR:Hid (qke l=l.all ql2):=hid (by
   unfold qke;rw[qag (show l.length≤66 by omega),Bool.and_true];have:(decide (l.length≤6)||decide (64<l.length))=true:=by rcases aE with h|⟨h,_⟩<;>simp[h]
   rw[this,Bool.true_and])
  clear aA h1;rcases aE with aE|⟨aE,hlen2⟩
  all_goals
   go_enter Tryz.func5,Tryz.ntmps5;go_wp2_with fail
   go_loopw [3] (fun i wr=>∃k:Nat,k≤l.length∧i = .int .i64 k∧Hid ((l.take k).all ql2=true)∧Hid (Below w.heap.size w wr)) (fun i _=>l.length-(intOf i).toNat)
   case atStart=>exact⟨0,Nat.zero_le _,rfl,hid rfl,dM⟩
   case round=>
    obtain⟨k,hk,rfl,HA,HB⟩:=hrel;clear dM;by_cases aY:k<l.length
    ·rcases HC.out with h0|⟨b,o,rfl,aB⟩
     ·omega
     obtain⟨x,bV⟩:∃x,l[k]? = some x:=⟨_,qap aY⟩;obtain⟨e0,-,q,cq,e2,yM⟩:=aB k x bV;rw[←HB.out.cell (qae w _ e0)] at e0;rw[←HB.out.cell (qae w _ e2)] at e2
     have sR:Hid (ql2 x=false→qke l=false):=hid fun hh=>by
      rw[HR.out];exact q32 bV hh
     have xH:Hid (ql2 x=true→(l.take (k+1)).all ql2=true):=hid fun a1=>qxy bV HA.out a1;have HL:=hid (zaz _ x.shares _ (yM.later HB.out));have jO:Hid (ql2 x=(decide (x.grain.size≤40)&&qps x.shares)):=hid rfl;have Cc:(0:Int)≤(k:Int):=by omega
     have tO:(k:Int)<(l.length:Int):=by omega
     clear aB bV yM;generalize ql2 x=lx at *;generalize x.grain=g at *;generalize x.shares.length=n at *;generalize qps x.shares=lb at *;by_cases a1:g.size≤40
     ·rw[qag a1,Bool.true_and] at jO
      cases lb
      ·have gI:=hid (sR.out jO.out)
       go_wp2_with fail;refine HL.out.mono ?_;rintro e w1 ⟨rfl,aZ⟩;have aP:=hid (HB.out.trans (aZ.mono HB.out.size));clear aZ e0 e2 HL;go_wp2_with fail;go_ret;exact⟨qa9 gI.out.symm,aP.out⟩
      ·have mC:=hid (xH.out jO.out)
       go_wp2_with fail;refine HL.out.mono ?_;rintro e w1 ⟨rfl,aZ⟩;have aP:=hid (HB.out.trans (aZ.mono HB.out.size));clear aZ e0 e2 HL;go_wp2_with fail;go_roundw
       case rel=>exact⟨k+1,by omega,by go_num,mC,aP⟩
       case measure=>simp[intOf];omega
     ·rw[qaf a1,Bool.false_and] at jO
      have gI:=hid (sR.out jO.out);go_wp2_with fail;go_ret;exact⟨qa9 gI.out.symm,HB.out⟩
    ·have Bj:¬(k:Int)<(l.length:Int):=by omega
     have cK:Hid (qke l=true):=hid (by rw[HR.out,←HA.out,List.take_of_length_le (by omega)]);go_wp2_with fail;go_ret;exact⟨qa9 cK.out.symm,HB.out⟩
end Go.Proofs.YtlkdlffhmakbgaaGreatDoor
