/- The reference's CheckMix and Mix. -/
import Derived.Test.YtmcfcpgglfimjaaGreatDoorMMix
import Derived.Test.YtmcfcpgglfimjaaGreatDoorMMixShares
import Derived.Test.YtmcfcpgglfimjaaGreatDoorMMixLots
import Derived.Test.YtmcfcpgglfimjaaGreatDoorMClash
import Derived.BigQuiet
import Derived.Deep.RegionHeld3
set_option linter.all false
namespace Go.Proofs.YtmcfcpgglfimjaaGreatDoor
open Go.RowKit
def qct:List Lay→BA
 | []=>⟨#[]⟩
 | x::_=>x.grain
def qfw(l:List Lay):Nat:=
 if l.length=0 then 2 else if 64<l.length then 5 else if qai (l.map qbc)≠0 then qai (l.map qbc) else if(l.all fun x=>decide (x.grain=qct l))=false then 16 else if 999999999<qaq l then 4 else if 64<(qcu l).length then 5 else 0
theorem q0f{l:List Lay}{k:Nat}{x:Lay}{g:BA}(hk:l[k]? = some x)(h:∀y ∈ l.take k,y.grain=g)(hx:x.grain=g):∀y ∈ l.take (k+1),y.grain=g:=fun y hy=>by
 rw[qbp hk] at hy;rcases List.mem_append.1 hy with hy|hy
 ·exact h y hy
 ·rw[List.mem_singleton.1 hy];exact hx
end Go.Proofs.YtmcfcpgglfimjaaGreatDoor
namespace Go.Proofs.YtmcfcpgglfimjaaGreatDoor
open Go.RowKit
set_option maxRecDepth 100000
set_option maxHeartbeats 8000000
def za9(x:Lay):Prop:=x.grain.size≤40∧∀s ∈ x.shares,s.1.size≤40∧s.2.size≤20
theorem qx5{l:List Lay}(cV:∀x ∈ l,qbc x=0)(hl:l.length≤6)(hs:∀x ∈ l,za9 x):
  (∀x ∈ l,x.shares.length≤64∧0≤x.mass∧x.mass≤999999999∧∀s ∈ x.shares,s.2=rt (qbk s)∧sm (qbk s) 400)∧
  (∀k x j,l[k]? = some x→SmL (qez x.mass (qci (l.take k)) (x.shares.take j)) 500)∧(∀k x j,l[k]? = some x→(qez x.mass (qci (l.take k)) (x.shares.take j)).length≤1000000):=by
 have hp:∀x ∈ l,∀s ∈ x.shares,s.2=rt (qbk s)∧sm (qbk s) 20:=fun x hx s fM=>qwg ((qbq (cV x hx)).2.2.2.2 s fM) ((hs x hx).2 s fM).2;refine⟨fun x hx => ?_,fun k x j hk => ?_,fun k x j hk => ?_⟩
 ·obtain⟨h1,h2,h3,h4,h5⟩:=qbq (cV x hx)
  exact⟨h4,by omega,h2,fun s hs'=>⟨(hp x hx s hs').1,qfr (hp x hx s hs').2 (by decide)⟩⟩
 ·have hx:=qbj hk
  obtain⟨h1,h2,h3,h4,h5⟩:=qbq (cV x hx);have cQ:=(List.getElem?_eq_some_iff.1 hk).1;have hK:=qsf (l.take k) (fun y hy=>cV y (List.mem_of_mem_take hy)) fun y hy s fM=>(hp y (List.mem_of_mem_take hy) s fM).2;have hup:=(qjm _ _ (qey (cV x hx))).2;have h6:=(qse h1 h2 (qdz (l.take k)).1 hK (x.shares.take j) (hup.sublist (List.take_sublist _ _)) fun s fM=>(hp x hx s (List.mem_of_mem_take fM)).2).2;exact fun p oX=>qfr (h6 p oX).1 (by have:=List.length_take_le k l;omega)
 ·have hx:=qbj hk
  have h1:=qlx x.mass (x.shares.take j) (qci (l.take k));have h2:=qpq (l.take k) fun y hy=>(qbq (cV y (List.mem_of_mem_take hy))).2.2.2.1;have h3:=(qbq (cV x hx)).2.2.2.1;have h4:=List.length_take_le k l;have h5:=List.length_take_le j x.shares;have h6:64*(l.take k).length≤64*6:=Nat.mul_le_mul_left _ (by have:=List.length_take_le' k l;omega);have h7:=List.length_take_le' j x.shares;omega
theorem qlz{l:List Lay}:((l.all fun x=>decide (x.grain=qct l))=true↔∀x ∈ l,x.grain=qct l):=by
 rw[List.all_eq_true];exact⟨fun h x hx=>of_decide_eq_true (h x hx),fun h x hx=>qag (h x hx)⟩
theorem qkw{l:List Lay}{y:Lay}(h:l[0]? = some y):y.grain=qct l:=by
 match l,h with
 | x::_,h=>
  simp only[List.getElem?_cons_zero,Option.some.injEq] at h;subst h;rfl
theorem qui(v:Value)(l:List Lay)(w:World)(hv:qr6 w v l)(hl:l.length≤6∨64<l.length)(hs:∀x ∈ l,za9 x):
  Calls Tryz.prog 6 #[v] w fun e w'=>e = .returned (.int .i64 (qfw l:Nat))∧Below w.heap.size w w':=by
 have lW:=hv;obtain⟨p,c,rfl,bO,bJ,aA⟩:=hv;unfold maxLen at bJ;have dU:=hid (qaa w.heap.size w);by_cases h0:l.length=0
 ·have HR:Hid (qfw l=2):=hid (by unfold qfw;rw[if_pos h0])
  have hb:((l.length:Int)==0)=true:=by rw[h0];rfl
  clear aA hs lW hl;go_enter Tryz.func6,Tryz.ntmps6;go_wp2_with fail;go_ret;exact⟨qa6 (by rw[HR.out];rfl),dU.out⟩
 have eE:((l.length:Int)==0)=false:=qan (by omega);by_cases h1:64<l.length
 ·have HR:Hid (qfw l=5):=hid (by unfold qfw;rw[if_neg h0,if_pos h1])
  clear aA hs lW hl;go_enter Tryz.func6,Tryz.ntmps6;go_wp2_with fail;go_ret;exact⟨qa6 (by rw[HR.out];rfl),dU.out⟩
 have HR:Hid (qfw l=if qai (l.map qbc)≠0 then qai (l.map qbc) else if(l.all fun x=>decide (x.grain=qct l))=false then 16 else if 999999999<qaq l then 4 else if 64<(qcu l).length then 5 else 0):=hid (by unfold qfw;rw[if_neg h0,if_neg h1]);have HV:=hid lW;obtain⟨b,o,rfl,aB⟩:=aA.resolve_left h0;have bP:=hid aB;have HS:=hid hs;have hl6:l.length≤6:=by omega
 have HL6:=hid hl6;have Ca:=hid fun h=>qx5 (l:=l) h hl6 hs;clear aA hs aB lW hl h1;go_enter Tryz.func6,Tryz.ntmps6;go_wp2_with fail
 go_loopw [3,4] (fun t i wr=>∃k:Nat,k≤l.length∧i = .int .i64 k∧(∃z:Int,t = .int .i64 z∧0≤z∧z≤999999999*(k:Int)∧Hid (z=qaq (l.take k)))∧Hid (qai ((l.map qbc).take k)=0)∧Hid (Below w.heap.size w wr)) (fun _ i _=>l.length-(intOf i).toNat)
 case atStart=>exact⟨0,Nat.zero_le _,rfl,⟨0,rfl,Int.le_refl _,by omega,hid rfl⟩,hid rfl,dU⟩
 case round=>
  obtain⟨k,hk,rfl,⟨z,rfl,cP,dV,HZ⟩,HF,HB⟩:=hrel;clear dU;by_cases bC:k<l.length
  ·obtain⟨x,cI⟩:∃x,l[k]? = some x:=⟨_,qat bC⟩
   obtain⟨e0,e1,q,cq,e2,Jw⟩:=bP.out k x cI
   have Ht:Hid (∀W,Below w.heap.size w W→W.cell? ⟨b,o+k*3,none⟩=some (.string x.grain)∧W.cell? ⟨b,o+k*3+1,none⟩=some (.int .i64 x.mass)∧W.cell? ⟨b,o+k*3+2,none⟩=some (.slice q x.shares.length cq)):=hid fun W hW=>by
    rw[hW.cell (qaf w _ e0),hW.cell (qaf w _ e1),hW.cell (qaf w _ e2)];exact⟨e0,e1,e2⟩
   obtain⟨f0,f1⟩:=qpl HF.out (show(l.map qbc)[k]? = some (qbc x) by rw[List.getElem?_map,cI];rfl);have xM:=HS.out x (qbj cI);have HC:=hid (que x q cq wr (Jw.later HB.out) (by have:=xM.1;omega) (fun s fM=>by have:=xM.2 s fM;omega) 20 (q7f fun s fM=>(xM.2 s fM).2) (by omega));have HZN:Hid (z+x.mass=qaq (l.take (k+1))):=hid (by rw[qbp cI,qds,←HZ.out]);have sN:Hid (qbc x=0→0<x.mass∧x.mass≤999999999):=hid fun h=>⟨(qbq h).1,(qbq h).2.1⟩;have Jv:(0:Int)≤(k:Int):=by omega
   have zK:(k:Int)<(l.length:Int):=by omega
   have oV:=hid f0;have gI:=hid f1;clear cI xM Jw e0 e1 e2 f0 f1;obtain⟨c0,c1,c2⟩:=Ht.out _ HB.out;generalize qbc x=lx at *;generalize x.mass=mx at *;generalize x.grain=gx at *;generalize x.shares.length=nx at *;by_cases hz:lx=0
   ·obtain⟨mC,fD⟩:=sN.out hz
    have jT:=hid (oV.out hz);rw[hz] at HC;clear oV gI sN hz HZ;go_wp2_with fail;refine HC.out.mono ?_;rintro e w1 ⟨rfl,hb⟩;have aP:=hid (HB.out.trans (hb.mono HB.out.size));clear hb HC c0 c1 c2;obtain⟨c0,c1,c2⟩:=Ht.out _ aP.out;have bX:IntKind.i64.wrap (z+mx)=z+mx:=IntWalk.i64_in _ (by have:=HL6.out;omega);go_wp2_with fail;go_roundw
    case rel=>exact⟨k+1,by omega,by go_num,⟨z+mx,rfl,by omega,by omega,HZN⟩,jT,aP⟩
    case measure=>simp[intOf];omega
   ·have HG:=hid (gI.out hz)
    have hne:((lx:Int) != 0)=true:=by simpa using hz
    have Iv:((lx:Int)==0)=false:=qan (by omega);have kG:=hid hz;clear oV gI sN hz HZ;go_wp2_with fail;refine HC.out.mono ?_;rintro e w1 ⟨rfl,hb⟩;have aP:=hid (HB.out.trans (hb.mono HB.out.size));clear hb HC c0 c1 c2;go_wp2_with fail;go_ret;exact⟨qa6 (by rw[HR.out,if_pos (by rw[HG.out];exact kG.out),HG.out]),aP.out⟩
  ·have kT:k=l.length:=by omega
   have jT:Hid (qai (l.map qbc)=0):=hid (by rw[←HF.out,kT,List.take_of_length_le (by rw[List.length_map];omega)]);have Lf:Hid (∀x ∈ l,qbc x=0):=hid fun x hx=>qmz jT.out _ (List.mem_map_of_mem hx);have kG:Hid (z=qaq l):=hid (by rw[HZ.out,kT,List.take_length]);have vO:=hid (Ca.out Lf.out);have tY:=hid fun W hW=>qq2 _ l W (HV.out.later hW) (by have:=HL6.out;omega) vO.out.1 vO.out.2.1 vO.out.2.2;have cN:Hid (qfw l=if(l.all fun x=>decide (x.grain=qct l))=false then 16 else if 999999999<qaq l then 4 else if 64<(qcu l).length then 5 else 0):=hid (by rw[HR.out,if_neg (by rw[jT.out];simp)]);clear HF HZ HR Ca vO kT jT;go_wp2_with fail
   go_loopw [6] (fun i wi=>∃j:Nat,1≤j∧j≤l.length∧i = .int .i64 j∧Hid (∀y ∈ l.take j,y.grain=qct l)∧Hid (Below w.heap.size w wi)) (fun i _=>l.length-(intOf i).toNat)
   case atStart=>exact⟨1,qac _,by omega,rfl,hid (by
     obtain⟨y,hy⟩:∃y,l[0]? = some y:=⟨_,qat (by omega)⟩;intro u hu;rw[show(1:Nat)=0+1 from rfl,qbp hy] at hu;simp only[List.take_zero,List.nil_append,List.mem_singleton] at hu;rw[hu]
     exact qkw hy),HB⟩
   case round=>
    obtain⟨j,xN,hj,rfl,zL,aK⟩:=hrel;clear HB;by_cases xF:j<l.length
    ·obtain⟨x,cI⟩:∃x,l[j]? = some x:=⟨_,qat xF⟩
     obtain⟨y,hy⟩:∃y,l[0]? = some y:=⟨_,qat (by omega)⟩;obtain⟨e0,-⟩:=bP.out j x cI;obtain⟨f0,-⟩:=bP.out 0 y hy;rw[qkw hy,Nat.zero_mul,Nat.add_zero] at f0;have c0:wr.cell? ⟨b,o+j*3,none⟩=some (.string x.grain):=by rw[aK.out.cell (qaf w _ e0)];exact e0
     have d0:wr.cell? ⟨b,o,none⟩=some (.string (qct l)):=by rw[aK.out.cell (qaf w _ f0)];exact f0
     have Jv:(0:Int)≤(j:Int):=by omega
     have zK:(j:Int)<(l.length:Int):=by omega
     have kK:(0:Int)<(l.length:Int):=by omega
     by_cases hg:x.grain=qct l
     ·have rD:=hid (q0f cI zL.out hg)
      rw[hg] at c0;clear cI hy e0 f0 hg zL;go_wp2_with fail
      go_quiet (fail)
      go_wp2_with fail;go_roundw
      case rel=>exact⟨j+1,by omega,by omega,by go_num,rD,hid (below_drewN aK.out _)⟩
      case measure=>simp[intOf];omega
     ·have fJ:Hid (qfw l=16):=hid (by rw[cN.out,if_pos (by rw[Bool.eq_false_iff];exact fun h=>hg (qlz.1 h x (qbj cI)))])
      have jO:(x.grain.toList==(qct l).toList)=false:=qan fun e=>hg (qb5 (by rw[←Lib.toList_data,←Lib.toList_data,e]));have sD:(x.grain.toList != (qct l).toList)=true:=by rw[bne,jO];rfl
      clear cI hy e0 f0 hg zL cN;generalize x.grain=gx at *;generalize qct l=g0 at *;go_wp2_with fail
      go_quiet (fail)
      go_wp2_with fail;go_ret;exact⟨qa6 (by rw[fJ.out];rfl),below_drewN aK.out _⟩
    ·have kN:j=l.length:=by omega
     have rW:=zL.out;rw[kN,List.take_length] at rW;have fJ:Hid (qfw l=if 999999999<qaq l then 4 else if 64<(qcu l).length then 5 else 0):=hid (by rw[cN.out,if_neg (by rw[qlz.2 rW];simp)]);clear rW zL cN kN;by_cases lH:999999999<z
     ·have nY:Hid (qfw l=4):=hid (by rw[fJ.out,if_pos (by rw[←kG.out];exact lH)])
      clear fJ;go_wp2_with fail;go_ret;exact⟨qa6 (by rw[nY.out];rfl),aK.out⟩
     ·have nY:Hid (qfw l=if 64<(qci l).length then 5 else 0):=hid (by rw[fJ.out,if_neg (by rw[←kG.out];exact lH),(qdz l).2.length_eq])
      clear fJ;go_wp2_with fail;refine(tY.out _ aK.out).mono ?_;rintro e w3 ⟨⟨v',rfl,hl⟩,hb⟩;have bR:=hid (aK.out.trans (hb.mono aK.out.size))
      obtain⟨p',c',rfl⟩:∃p' c',v' = .slice p' (qci l).length c':=by
       rcases hl with⟨h1,h2⟩|⟨g,c',h1,_⟩
       ·exact⟨none,0,by rw[h2,h1];rfl⟩
       ·exact⟨_,c',h1⟩
      clear hb hl tY;generalize (qci l).length=n at *;by_cases hn:64<n
      ·have pP:Hid (qfw l=5):=hid (by rw[nY.out,if_pos hn])
       go_wp2_with fail;go_ret;exact⟨qa6 (by rw[pP.out];rfl),bR.out⟩
      ·have pP:Hid (qfw l=0):=hid (by rw[nY.out,if_neg hn])
       go_wp2_with fail;go_ret;exact⟨qa6 (by rw[pP.out];rfl),bR.out⟩
def qgq(l:List Lay):QL:=(qci l).map fun p=>(p.1,p.2/((qaq l:Int):Rat))
def zba(w:World)(g0:BA)(z:Int)(v:Value)(W:World):Prop:=
 Below w.heap.size w W∧Own W w.heap.size 3 (qfv (.string ⟨#[]⟩) (.int .i64 0) (.slice none 0 0))∧Own W (w.heap.size+1) 3 (qfv (.string g0) (.int .i64 z) v)
theorem zba.later{w W W':World}{g0:BA}{z:Int}{v:Value}(h:zba w g0 z v W)(hb:Below W.heap.size W W'):zba w g0 z v W':=
 ⟨h.1.trans (hb.mono h.1.size),h.2.1.later (hb.mono h.2.1.1),h.2.2.later (hb.mono h.2.2.1)⟩
end Go.Proofs.YtmcfcpgglfimjaaGreatDoor
