/- Matter where there is no error; the reference's FromInt and CheckMoisture. -/
import Derived.Test.YtclimablgihlhaaGreatDoorMKeeps
import Derived.Test.YtclimablgihlhaaGreatDoorMMix
import Derived.Deep.RegionHeld3
import Derived.Test.YtclimablgihlhaaGreatDoorMMean
import Derived.IntWalk
set_option linter.all false
namespace Go.Proofs.YtclimablgihlhaaGreatDoor
open Go.RowKit
set_option maxRecDepth 100000
set_option maxHeartbeats 4000000
theorem q5v(n:Nat)(w:World)(hn:n<9223372036854775808):
  Calls Tryz.prog 85 #[.int .i64 (n:Int)] w (qlk ((n:Int):Rat) w):=by
 have HW:=hid (q6f n w hn)
 have HT:Hid (∀W v,qcp W v (n:Int)→Calls Tryz.prog 136 #[v] W fun e w'=>e = .returned (.string (rt ((n:Int):Rat)))∧Below W.heap.size W w'):=hid fun W v hv=>
  (q1e v _ W hv (by rw[Int.natAbs_natCast];have:=qdq (k:=19) (n:=n) (by omega) (by decide);omega)).mono fun _ _ ⟨⟨t,he,h1⟩,h2⟩=>by
   refine⟨?_,h2⟩;rw[he,q6o]
   congr 2
   exact qb7 (by rw[h1])
 clear hn;unfold qlk;generalize rt ((n:Int):Rat)=tr at *;go_enter Tryz.func85,Tryz.ntmps85;go_wp2_with fail;refine HW.out.mono ?_;rintro e w1 ⟨⟨v,rfl,hv⟩,hb⟩;have HV:=hid hv;have HB:=hid hb;clear hv hb HW;go_wp2_with fail;refine(HT.out _ _ HV.out).mono ?_;rintro e w2 ⟨rfl,hb⟩;have aR:=hid (HB.out.trans (hb.mono HB.out.size));clear hb HT HV;go_wp2_with fail;go_ret;exact⟨rfl,aR.out⟩
end Go.Proofs.YtclimablgihlhaaGreatDoor
namespace Go.Proofs.YtclimablgihlhaaGreatDoor
set_option maxRecDepth 100000
set_option maxHeartbeats 4000000
open Go.RowKit
end Go.Proofs.YtclimablgihlhaaGreatDoor
namespace Go.Proofs.YtclimablgihlhaaGreatDoor
open Go.RowKit
set_option maxRecDepth 100000
set_option maxHeartbeats 4000000
theorem q9w:(⟨#[48]⟩:BA)=rt 0:=by kernel_rfl
def qry(rs:List Rat)(ws:List Int)(k:Nat):Rat:=(qo9 (rs.map fun r=>(r,r)) ws k).1
theorem qt6(rs:List Rat)(ws:List Int)(k:Nat):qry rs ws (k+1)=qry rs ws k+rs.getD k 0*((ws.getD k 0:Int):Rat):=by
 unfold qry;show(qo9 (rs.map fun r=>(r,r)) ws k).1+((rs.map fun r=>(r,r)).getD k (0,0)).1*((ws.getD k 0:Int):Rat)=_
 congr 2
 rw[zaw,zaw,List.getElem?_map];cases rs[k]? <;> rfl
theorem q5w{z:Int}(h:wIn z=true):sm (z:Rat) 9:=by
 have:=qiq.1 h;exact⟨by show z.natAbs<10^9;omega,by show 1<10^9;decide⟩
theorem qt7(k:Nat)(hk:1≤k):sm 0 k:=qg2 (q5u 0 (by decide) (by decide)) hk
theorem qrz{rs:List Rat}{ws:List Int}{j:Nat}(hr:∀r ∈ rs,sm r j)(hw:∀x ∈ ws,wIn x=true)(hj:1≤j):∀k,sm (qry rs ws k) ((j+10)*k+1)
 | 0=>qt7 _ (by omega)
 | k+1=>by
  rw[qt6];have h1:=qrz hr hw hj k
  have h2:sm (rs.getD k 0) j:=by
   rw[zaw];cases e:rs[k]? with
   | none=>exact qt7 _ hj
   | some r=>exact hr r (zax e)
  have h3:sm ((ws.getD k 0:Int):Rat) 9:=by
   rw[zaw];cases e:ws[k]? with
   | none=>exact q5w (z:=0) (by decide)
   | some r=>exact q5w (hw r (zax e))
  exact qg2 (q9d h1 (q1l h2 h3)) (by rw[Nat.mul_add];omega)
theorem q9x{ws:List Int}(hw:∀x ∈ ws,wIn x=true):∀k,0≤(ws.take k).sum∧(ws.take k).sum≤999999999*(k:Int):=fun k=>by
 have h:=qfd (ws.take k) fun x hx=>hw x (List.mem_of_mem_take hx);have:(ws.take k).length≤k:=List.length_take_le _ _;exact⟨h.1,by omega⟩
theorem qw9(z:Int)(W:World)(h0:0≤z)(h1:z<9223372036854775808):Calls Tryz.prog 85 #[.int .i64 z] W (qlk (z:Rat) W):=by
 have h:=q5v z.toNat W (by omega)
 rwa [Int.toNat_of_nonneg h0] at h
theorem q5x(vl vw:Value)(rs:List Rat)(ws:List Int)(j:Nat)(w:World)(hl:qg3 w vl (rs.map rt))(hw:qn4 w vw ws)(aF:ws.length=rs.length)(hn:rs.length≤10)(hj:1≤j)(Ky:j≤100)(hr:∀r ∈ rs,sm r j)(Mv:∀x ∈ ws,wIn x=true)(h0:ws.sum≠0):
  Calls Tryz.prog 44 #[vl,vw] w (qlk (qry rs ws rs.length/((ws.sum:Int):Rat)) w):=by
 obtain⟨p,o1,c,rfl,bP,bK,aB⟩:=hl;obtain⟨p',c',rfl,hc1',hc2',aA⟩:=hw;rw[List.length_map] at *;unfold maxLen at bK hc2';have bN:=hid aB;have HC:=hid aA;have xN:=hid (qrz hr Mv hj);have HR:=hid hr;have HW:=hid Mv;have HS:=hid (q9x Mv);have aU:=hid aF;have lA:=hid h0;have HJ:=hid Ky;have HJ1:=hid hj;unfold qlk;obtain⟨T,hT⟩:∃T,T=rt (qry rs ws rs.length/((ws.sum:Int):Rat)):=⟨_,rfl⟩;rw[←hT];have HT:=hid hT;clear hT aB aA hr Mv h0 hj Ky;rw[aF] at hc1' ⊢;clear aF;generalize hN:rs.length=n at *;have HN:=hid hN;clear hN;go_enter Tryz.func44,Tryz.ntmps44;go_wp2_with fail
 go_loopw [5,6,7] (fun s t i wr=>∃k:Nat,k≤n∧i = .int .i64 k∧s = .string (rt (qry rs ws k))∧(∃z:Int,t = .int .i64 z∧0≤z∧z≤999999999*k∧Hid (z=(ws.take k).sum))∧Hid (Below w.heap.size w wr)) (fun _ _ i _=>n-(intOf i).toNat)
 case atStart=>exact⟨0,Nat.zero_le _,rfl,by rw[q9w];rfl,⟨0,rfl,Int.le_refl _,by omega,hid rfl⟩,hid (zan _ _)⟩
 case round=>
  obtain⟨k,hk,rfl,rfl,⟨z,rfl,cT,dT,HZ⟩,HB⟩:=hrel;by_cases bI:k<n
  ·rcases HC.out with he|⟨bb,oo,rfl,rR⟩
   ·exact absurd he (by have:=aU.out;omega)
   have Dw:k<rs.length:=by rw[HN.out];exact bI
   have hkw:k<ws.length:=by rw[aU.out];exact bI
   have Fo:=HW.out (ws.getD k 0) (by rw[zaw,zau hkw,Option.getD_some];exact List.getElem_mem _);have Mw:=HR.out (rs.getD k 0) (by rw[zaw,zau Dw,Option.getD_some];exact List.getElem_mem _)
   have aV:Hid (∀W,Below w.heap.size w W→W.cell? ⟨p,o1+k,none⟩=some (.string (rt (rs.getD k 0)))∧W.cell? ⟨bb,oo+k,none⟩=some (.int .i64 (ws.getD k 0))):=hid fun W hW=>by
    have e0:=bN.out k (rt (rs.getD k 0)) (by rw[List.getElem?_map,zaw,zau Dw];rfl);have e1:w.cell? ⟨bb,oo+k,none⟩=some (.int .i64 (ws.getD k 0)):=rR k hkw;rw[hW.cell (zaq w _ e0),hW.cell (zaq w _ e1)];exact⟨e0,e1⟩
   obtain⟨oH,pL⟩:=qiq.1 Fo;have hmu:(j+10)*k≤110*10:=Nat.mul_le_mul (by have:=HJ.out;omega) (by omega);have HF:=hid fun W=>qw9 (ws.getD k 0) W oH (by omega);have HM:=hid fun W=>q6m (rs.getD k 0) ((ws.getD k 0:Int):Rat) 110 W (qg2 Mw (by have:=HJ.out;omega)) (qg2 (q5w Fo) (by omega)) (by omega);have QA:=fun W=>q6l (qry rs ws k) (rs.getD k 0*((ws.getD k 0:Int):Rat)) 1200 W (qg2 (xN.out k) (by omega)) (qg2 (q1l Mw (q5w Fo)) (by have:=HJ.out;omega)) (by omega);rw[←qt6] at QA;have HA:=hid QA;have HZN:Hid (z+ws.getD k 0=(ws.take (k+1)).sum):=hid (by rw[qej ws k hkw,←HZ.out]);obtain⟨tb,Bp⟩:∃t,t=rt (qry rs ws (k+1)):=⟨_,rfl⟩;have pT:=hid Bp;unfold qlk at HF HM HA;rw[←Bp] at HA;have eO:=hid HB.out.drew;have Oq:(0:Int)≤(k:Int):=by omega
   have Dp:(k:Int)<(n:Int):=by omega
   clear Bp QA rR Fo Mw hmu HZ Dw hkw;generalize rt (qry rs ws k)=ta at *;generalize rt (rs.getD k 0*((ws.getD k 0:Int):Rat))=tm at *;generalize rt ((ws.getD k 0:Int):Rat)=tx at *;generalize rt (rs.getD k 0)=tr at *;generalize ws.getD k 0=x at *;have eZ:=aV.out _ eO.out;go_wp2_with fail
   go_region_held3 (fun W=>W.cell? ⟨p,o1+k,none⟩=some (.string tr)∧W.cell? ⟨bb,oo+k,none⟩=some (.int .i64 x)) (exact aV.out _ eO.out)
    (first
     | (go_at_call 85;((with_reducible refine(HF.out _).mono ?_);rintro e wA ⟨rfl,hb⟩;have eO:=hid (eO.out.trans (hb.mono eO.out.size));clear hb))
     | (go_at_call 84;((with_reducible refine(HM.out _).mono ?_);rintro e wB ⟨rfl,hb⟩;have eO:=hid (eO.out.trans (hb.mono eO.out.size));clear hb))
     | (go_at_call 83;((with_reducible refine(HA.out _).mono ?_);rintro e wC ⟨rfl,hb⟩;have eO:=hid (eO.out.trans (hb.mono eO.out.size));clear hb)))
   all_goals
    obtain⟨-,eX⟩:=aV.out _ eO.out;have cN:IntKind.i64.wrap (z+x)=z+x:=IntWalk.i64_in _ (by omega);go_wp2_with fail;go_roundw
    case rel=>exact⟨k+1,by omega,by go_num,by rw[pT.out],⟨z+x,rfl,by omega,by omega,HZN⟩,eO⟩
    case measure=>simp[intOf];omega
  ·have jG:k=n:=by omega
   subst jG;have hzs:z=ws.sum:=by rw[HZ.out,List.take_of_length_le (by have:=aU.out;omega)]
   have hmu:(j+10)*k≤110*10:=Nat.mul_le_mul (by have:=HJ.out;omega) (by omega);have HF:=hid fun W=>qw9 z W cT (by omega);have QD:=fun W=>q9l (qry rs ws k) (z:Rat) 1200 W (qg2 (xN.out k) (by omega)) (qg2 (k:=1200) (j:=11) ⟨by show z.natAbs<10^11;omega,by show 1<10^11;decide⟩ (by omega)) (by omega) (by show z≠0;rw[hzs];exact lA.out);have Nk:=HT.out;rw[←hzs] at Nk;unfold qlk at HF QD;rw[←Nk] at QD;have HD:=hid QD;clear QD Nk hmu hzs;generalize rt (qry rs ws k)=ta at *;generalize rt (z:Rat)=tz at *;go_wp2_with fail;refine(HF.out _).mono ?_;rintro e wA ⟨rfl,hb⟩;have bQ:=hid (HB.out.trans (hb.mono HB.out.size));clear hb HF;go_wp2_with fail;refine(HD.out _).mono ?_;rintro e wB ⟨rfl,hb⟩;have aX:=hid (bQ.out.trans (hb.mono bQ.out.size));clear hb HD;go_wp2_with fail;go_ret;exact⟨rfl,aX.out⟩
end Go.Proofs.YtclimablgihlhaaGreatDoor
