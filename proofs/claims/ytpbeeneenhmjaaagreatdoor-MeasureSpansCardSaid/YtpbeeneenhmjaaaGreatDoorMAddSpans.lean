/- The reference's operations with spans. -/
import Derived.Test.YtpbeeneenhmjaaaGreatDoorMSpansAid
import Derived.Test.YtpbeeneenhmjaaaGreatDoorMClash
import Derived.Deep.RegionHeld3
import Derived.Test.YtpbeeneenhmjaaaGreatDoorMNv
import Derived.Test.YtpbeeneenhmjaaaGreatDoorMMean
set_option linter.all false
namespace Go.Proofs.YtpbeeneenhmjaaaGreatDoor
open Go.RowKit
set_option maxRecDepth 100000
set_option maxHeartbeats 8000000
theorem qy8(p q:Rat)(k:Nat)(sp:sm p k)(sq:sm q k)(hk:k≤2000)(W:World):Calls Tryz.prog 37 #[.string (rt p),.string (rt q)] W fun e w'=>e = .returned (.int .i64 (qcr p q))∧Below W.heap.size W w':=by
 rw[←q40];exact q7u p q k W sp sq hk
theorem q49(p q:Rat)(k:Nat)(w:World)(sp:sm p k)(sq:sm q k)(hk:k≤2000):
  Calls Tryz.prog 43 #[.string (rt p),.string (rt q)] w (qp7 (qwf p q) w):=by
 have HC:=hid (fun W=>qy8 p q k sp sq hk W);have hle:=@qwe p q;unfold qwf qp7;clear sp sq hk;by_cases h:p≤q
 ·rw[if_pos h]
  have hz:qcr p q≤0:=hle.2 h;clear hle h;generalize qcr p q=z at *;generalize rt p=tp at *;generalize rt q=tq at *;go_enter Tryz.func43,Tryz.ntmps43;go_wp2_with fail;refine(HC.out _).mono ?_;rintro e w1 ⟨rfl,hb⟩;have HB:=hid hb;clear hb HC;go_wp2_with fail;go_ret;exact⟨rfl,HB.out⟩
 ·rw[if_neg h]
  have hz:¬qcr p q≤0:=fun e=>h (hle.1 e);clear hle h;generalize qcr p q=z at *;generalize rt p=tp at *;generalize rt q=tq at *;go_enter Tryz.func43,Tryz.ntmps43;go_wp2_with fail;refine(HC.out _).mono ?_;rintro e w1 ⟨rfl,hb⟩;have HB:=hid hb;clear hb HC;go_wp2_with fail;go_ret;exact⟨rfl,HB.out⟩
theorem q5a(p q:Rat)(k:Nat)(w:World)(sp:sm p k)(sq:sm q k)(hk:k≤2000):
  Calls Tryz.prog 44 #[.string (rt p),.string (rt q)] w (qp7 (qwg p q) w):=by
 have HC:=hid (fun W=>qy8 p q k sp sq hk W);have hle:=@q2b p q;unfold qwg qp7;clear sp sq hk;by_cases h:q≤p
 ·rw[if_pos h]
  have hz:0≤qcr p q:=hle.2 h;clear hle h;generalize qcr p q=z at *;generalize rt p=tp at *;generalize rt q=tq at *;go_enter Tryz.func44,Tryz.ntmps44;go_wp2_with fail;refine(HC.out _).mono ?_;rintro e w1 ⟨rfl,hb⟩;have HB:=hid hb;clear hb HC;go_wp2_with fail;go_ret;exact⟨rfl,HB.out⟩
 ·rw[if_neg h]
  have hz:¬0≤qcr p q:=fun e=>h (hle.1 e);clear hle h;generalize qcr p q=z at *;generalize rt p=tp at *;generalize rt q=tq at *;go_enter Tryz.func44,Tryz.ntmps44;go_wp2_with fail;refine(HC.out _).mono ?_;rintro e w1 ⟨rfl,hb⟩;have HB:=hid hb;clear hb HC;go_wp2_with fail;go_ret;exact⟨rfl,HB.out⟩
theorem q70{p q:Rat}{k:Nat}(hp:sm p k)(hq:sm q k):sm (qwf p q) k:=by unfold qwf;split<;>assumption
theorem q71{p q:Rat}{k:Nat}(hp:sm p k)(hq:sm q k):sm (qwg p q) k:=by unfold qwg;split<;>assumption
theorem qdi{w W:World}{a b:ByteArray × ByteArray}(h:qqe w a b W):W.cell? ⟨w.heap.size,0,none⟩=some (.string a.1)∧W.cell? ⟨w.heap.size,1,none⟩=some (.string a.2)∧W.cell? ⟨w.heap.size+1,0,none⟩=some (.string b.1)∧W.cell? ⟨w.heap.size+1,1,none⟩=some (.string b.2):=
 ⟨(h.2.1.2 0 (by omega)).1,(h.2.1.2 1 (by omega)).1,(h.2.2.1.2 0 (by omega)).1,(h.2.2.1.2 1 (by omega)).1⟩
theorem q5b{w:World}(hg:GW w)(a b:ByteArray × ByteArray):Inv (qqe w a b):=⟨fun _ _ h hb=>h.later hb,fun _ h=>hg.later h.1⟩
theorem qvw{W:World}{g:Nat}{c0 c1 c2 c3:Option Value}(h:W.cell? ⟨g,0,none⟩=c0∧W.cell? ⟨g,1,none⟩=c1∧W.cell? ⟨g+1,0,none⟩=c2∧W.cell? ⟨g+1,1,none⟩=c3){g':Nat}(h1:g'≠g)(h2:g'≠g+1)(x y:Value):
  ((W.setCell ⟨g',0,none⟩ x).setCell ⟨g',1,none⟩ y).cell? ⟨g,0,none⟩=c0∧((W.setCell ⟨g',0,none⟩ x).setCell ⟨g',1,none⟩ y).cell? ⟨g,1,none⟩=c1∧((W.setCell ⟨g',0,none⟩ x).setCell ⟨g',1,none⟩ y).cell? ⟨g+1,0,none⟩=c2∧((W.setCell ⟨g',0,none⟩ x).setCell ⟨g',1,none⟩ y).cell? ⟨g+1,1,none⟩=c3:=
 qeg (qeg h h1 h2 x) h1 h2 y
theorem qxt(a b c d:Rat)(k:Nat)(w:World)(hg:GW w)(sa:sm a k)(sb:sm b k)(sc:sm c k)(sd:sm d k)(hk:k≤2000):
  Calls Tryz.prog 13 #[.agg #[.string (rt a),.string (rt b)],.agg #[.string (rt c),.string (rt d)]] w fun e w'=>e = .returned (.agg #[.string (rt (a+c)),.string (rt (b+d))])∧Below w.heap.size w w':=by
 have J:=q5b hg (rt a,rt b) (rt c,rt d);have K1:=qbh (qay J fun W=>qr9 a c k W sa sc hk);have K2:=qbh (qay J fun W=>qr9 b d k W sb sd hk);have HB:=hid (qel w (rt a,rt b) (rt c,rt d) 24 24 24);clear J hg sa sb sc sd hk;generalize rt (a+c)=t1 at *;generalize rt (b+d)=t2 at *;generalize rt a=ta at *;generalize rt b=tb at *;generalize rt c=tc at *;generalize rt d=td at *;have hc0:=qdi HB.out;go_enter Tryz.func13,Tryz.ntmps13;go_wp2_with fail;generalize ((w.alloc (.cells #[.string ta,.string tb] 24)).alloc (.cells #[.string tc,.string td] 24)).alloc (.cells #[.string ⟨#[]⟩,.string ⟨#[]⟩] 24)=w0 at *;have HBD:Hid (qqe w (ta,tb) (tc,td) w0.drew):=hid (HB.out.later (Below.refl _ _).drew);have hcd:=qdi HBD.out;clear hc0
 go_region_held3 (fun W=>W.cell? ⟨w.heap.size,0,none⟩=some (.string ta)∧W.cell? ⟨w.heap.size,1,none⟩=some (.string tb)∧W.cell? ⟨w.heap.size+1,0,none⟩=some (.string tc)∧W.cell? ⟨w.heap.size+1,1,none⟩=some (.string td)) (first|with_reducible exact qvw hcf (by omega) (by omega) _ _|with_reducible exact hcf|with_reducible exact hce|with_reducible exact hcd)
  (first
   | (go_at_call 40;first
     | ((with_reducible refine(K1.out _ HBD.out).mono ?_);rintro e wE ⟨rfl,hb⟩;have HBE:=hid hb;have hce:=qdi hb;clear hb)
     | ((with_reducible refine(K2.out _ HBE.out).mono ?_);rintro e wF ⟨rfl,hb⟩;have HBF:=hid hb;have hcf:=qdi hb;obtain⟨⟨r0,g0⟩,⟨r1,g1⟩⟩:=qb5 hb.2.2.2;clear hb)))
 all_goals
  have HBL:=hid (qbq HBF.out.1 (show w.heap.size≤w.heap.size+1+1 by omega) (.string t1) (.string t2));go_wp2_with fail;refine bodyPost_ret (v := .agg #[.string t1,.string t2]) ?_ rfl ?_
  ·simp[results,Tryz.results13,go_sem,r0,r1]
  ·exact⟨rfl,HBL.out⟩
theorem qxu(a b c d:Rat)(k:Nat)(w:World)(hg:GW w)(sa:sm a k)(sb:sm b k)(sc:sm c k)(sd:sm d k)(hk:k≤2000):
  Calls Tryz.prog 14 #[.agg #[.string (rt a),.string (rt b)],.agg #[.string (rt c),.string (rt d)]] w fun e w'=>e = .returned (.agg #[.string (rt (a-d)),.string (rt (b-c))])∧Below w.heap.size w w':=by
 have J:=q5b hg (rt a,rt b) (rt c,rt d);have K1:=qbh (qay J fun W=>qp9 a d k W sa sd hk);have K2:=qbh (qay J fun W=>qp9 b c k W sb sc hk);have HB:=hid (qel w (rt a,rt b) (rt c,rt d) 24 24 24);clear J hg sa sb sc sd hk;generalize rt (a-d)=t1 at *;generalize rt (b-c)=t2 at *;generalize rt a=ta at *;generalize rt b=tb at *;generalize rt c=tc at *;generalize rt d=td at *;have hc0:=qdi HB.out;go_enter Tryz.func14,Tryz.ntmps14;go_wp2_with fail;generalize ((w.alloc (.cells #[.string ta,.string tb] 24)).alloc (.cells #[.string tc,.string td] 24)).alloc (.cells #[.string ⟨#[]⟩,.string ⟨#[]⟩] 24)=w0 at *;have HBD:Hid (qqe w (ta,tb) (tc,td) w0.drew):=hid (HB.out.later (Below.refl _ _).drew);have hcd:=qdi HBD.out;clear hc0
 go_region_held3 (fun W=>W.cell? ⟨w.heap.size,0,none⟩=some (.string ta)∧W.cell? ⟨w.heap.size,1,none⟩=some (.string tb)∧W.cell? ⟨w.heap.size+1,0,none⟩=some (.string tc)∧W.cell? ⟨w.heap.size+1,1,none⟩=some (.string td)) (first|with_reducible exact qvw hcf (by omega) (by omega) _ _|with_reducible exact hcf|with_reducible exact hce|with_reducible exact hcd)
  (first
   | (go_at_call 41;first
     | ((with_reducible refine(K1.out _ HBD.out).mono ?_);rintro e wE ⟨rfl,hb⟩;have HBE:=hid hb;have hce:=qdi hb;clear hb)
     | ((with_reducible refine(K2.out _ HBE.out).mono ?_);rintro e wF ⟨rfl,hb⟩;have HBF:=hid hb;have hcf:=qdi hb;obtain⟨⟨r0,g0⟩,⟨r1,g1⟩⟩:=qb5 hb.2.2.2;clear hb)))
 all_goals
  have HBL:=hid (qbq HBF.out.1 (show w.heap.size≤w.heap.size+1+1 by omega) (.string t1) (.string t2));go_wp2_with fail;refine bodyPost_ret (v := .agg #[.string t1,.string t2]) ?_ rfl ?_
  ·simp[results,Tryz.results14,go_sem,r0,r1]
  ·exact⟨rfl,HBL.out⟩
theorem q5c(p q r s:Rat):qwf (qwf p q) (qwf r s)=qj0 [p,q,r,s]:=by
 unfold qj0 qwf;simp only[List.foldl]
 repeat' split
 all_goals first|rfl|grind
theorem q5d(p q r s:Rat):qwg (qwg p q) (qwg r s)=qi6 [p,q,r,s]:=by
 unfold qi6 qwg;simp only[List.foldl]
 repeat' split
 all_goals first|rfl|grind
theorem qxv(a b c d:Rat)(k:Nat)(w:World)(hg:GW w)(sa:sm a k)(sb:sm b k)(sc:sm c k)(sd:sm d k)(hk:k≤1000):
  Calls Tryz.prog 15 #[.agg #[.string (rt a),.string (rt b)],.agg #[.string (rt c),.string (rt d)]] w fun e w'=>e = .returned (.agg #[.string (rt (qj0 [a*c,a*d,b*c,b*d])),.string (rt (qi6 [a*c,a*d,b*c,b*d]))])∧Below w.heap.size w w':=by
 have J:=q5b hg (rt a,rt b) (rt c,rt d);have K1:=qbh (qay J fun W=>qh4 a c k W sa sc (by omega));have K2:=qbh (qay J fun W=>qh4 a d k W sa sd (by omega));have K3:=qbh (qay J fun W=>qh4 b c k W sb sc (by omega));have K4:=qbh (qay J fun W=>qh4 b d k W sb sd (by omega));have m1:=qjv sa sc;have m2:=qjv sa sd;have m3:=qjv sb sc;have m4:=qjv sb sd;rw[←q5c,←q5d];generalize a*c=p1 at *;generalize a*d=p2 at *;generalize b*c=p3 at *;generalize b*d=p4 at *;have N1:=qbh (qay J fun W=>q49 p1 p2 (k+k) W m1 m2 (by omega));have N2:=qbh (qay J fun W=>q49 p3 p4 (k+k) W m3 m4 (by omega));have N3:=qbh (qay J fun W=>q49 (qwf p1 p2) (qwf p3 p4) (k+k) W (q70 m1 m2) (q70 m3 m4) (by omega));have X1:=qbh (qay J fun W=>q5a p1 p2 (k+k) W m1 m2 (by omega));have X2:=qbh (qay J fun W=>q5a p3 p4 (k+k) W m3 m4 (by omega));have X3:=qbh (qay J fun W=>q5a (qwg p1 p2) (qwg p3 p4) (k+k) W (q71 m1 m2) (q71 m3 m4) (by omega));have HB:=hid (qel w (rt a,rt b) (rt c,rt d) 24 24 24);clear J hg sa sb sc sd hk m1 m2 m3 m4;generalize rt (qwf (qwf p1 p2) (qwf p3 p4))=t1 at *;generalize rt (qwg (qwg p1 p2) (qwg p3 p4))=t2 at *;generalize rt (qwf p1 p2)=u1 at *;generalize rt (qwf p3 p4)=u2 at *;generalize rt (qwg p1 p2)=v1 at *;generalize rt (qwg p3 p4)=v2 at *;generalize rt p1=r1 at *;generalize rt p2=r2 at *;generalize rt p3=r3 at *;generalize rt p4=r4 at *;generalize rt a=ta at *;generalize rt b=tb at *;generalize rt c=tc at *;generalize rt d=td at *;have hc0:=qdi HB.out;go_enter Tryz.func15,Tryz.ntmps15;go_wp2_with fail;generalize ((w.alloc (.cells #[.string ta,.string tb] 24)).alloc (.cells #[.string tc,.string td] 24)).alloc (.cells #[.string ⟨#[]⟩,.string ⟨#[]⟩] 24)=w0 at *;have HBD:Hid (qqe w (ta,tb) (tc,td) w0.drew):=hid (HB.out.later (Below.refl _ _).drew);have hcd:=qdi HBD.out;clear hc0
 go_region_held3 (fun W=>W.cell? ⟨w.heap.size,0,none⟩=some (.string ta)∧W.cell? ⟨w.heap.size,1,none⟩=some (.string tb)∧W.cell? ⟨w.heap.size+1,0,none⟩=some (.string tc)∧W.cell? ⟨w.heap.size+1,1,none⟩=some (.string td)) (first|with_reducible exact hc4|with_reducible exact hc3|with_reducible exact hc2|with_reducible exact hc1|with_reducible exact hcd)
  (first
   | (go_at_call 42;first
     | ((with_reducible refine(K1.out _ HBD.out).mono ?_);rintro e wA ⟨rfl,hb⟩;have H1:=hid hb;have hc1:=qdi hb;clear hb)
     | ((with_reducible refine(K2.out _ H1.out).mono ?_);rintro e wB ⟨rfl,hb⟩;have H2:=hid hb;have hc2:=qdi hb;clear hb)
     | ((with_reducible refine(K3.out _ H2.out).mono ?_);rintro e wC ⟨rfl,hb⟩;have H3:=hid hb;have hc3:=qdi hb;clear hb)
     | ((with_reducible refine(K4.out _ H3.out).mono ?_);rintro e wF ⟨rfl,hb⟩;have HB4:=hid hb;have hc4:=qdi hb;clear hb)))
 clear hcd HBD K1 K2 K3 K4 HB;have HB:=HB4;go_wp2_with fail;refine(N1.out _ HB.out).mono ?_;rintro e wN ⟨rfl,hb⟩;clear HB N1;have HB:=hid hb;clear hb;go_wp2_with fail;refine(N2.out _ HB.out).mono ?_;rintro e wN ⟨rfl,hb⟩;clear HB N2;have HB:=hid hb;clear hb;go_wp2_with fail;refine(N3.out _ HB.out).mono ?_;rintro e wN ⟨rfl,hb⟩;clear HB N3;have HB:=hid hb;clear hb;go_wp2_with fail;refine(X1.out _ HB.out).mono ?_;rintro e wN ⟨rfl,hb⟩;clear HB X1;have HB:=hid hb;clear hb;go_wp2_with fail;refine(X2.out _ HB.out).mono ?_;rintro e wN ⟨rfl,hb⟩;clear HB X2;have HB:=hid hb;clear hb;go_wp2_with fail;refine(X3.out _ HB.out).mono ?_;rintro e wN ⟨rfl,hb⟩;have HBL:=hid (qbq hb.1 (show w.heap.size≤w.heap.size+1+1 by omega) (.string t1) (.string t2));obtain⟨⟨q0,g0⟩,⟨q1,g1⟩⟩:=qb5 hb.2.2.2;clear hb HB X3;go_wp2_with fail;refine bodyPost_ret (v := .agg #[.string t1,.string t2]) ?_ rfl ?_
 ·simp[results,Tryz.results15,go_sem,q0,q1]
 ·exact⟨rfl,HBL.out⟩
theorem qxw(va vb:Value)(a b c d:Rat)(w:World)(ha:qdd w va a b)(hb:qdd w vb c d)(hcap:rs a+rs b+rs c+rs d+2≤Cap):
  Calls Tryz.prog 35 #[va,vb] w fun e w'=>(∃v',e = .returned v'∧qdd w' v' (a-d) (b-c))∧Below w.heap.size w w':=by
 obtain⟨x,y,rfl,hx,hy⟩:=ha.nv;obtain⟨x',y',rfl,hx',hy'⟩:=hb.nv;have HW0:=hid (qtb w x y x' y' 75 75 75)
 have HP1:Hid (∀W,qqz w x y x' y' W→Calls Tryz.prog 85 #[.agg #[.bool x.b,.slice x.p x.k x.c,.slice x.q x.j x.d],.agg #[.bool y'.b,.slice y'.p y'.k y'.c,.slice y'.q y'.j y'.d]] W fun e w'=>(∃z:NV,e = .returned (.agg #[.bool z.b,.slice z.p z.k z.c,.slice z.q z.j z.d])∧qan w' (.agg #[.bool z.b,.slice z.p z.k z.c,.slice z.q z.j z.d]) (a-d))∧qqz w x y x' y' w'∧Below W.heap.size W w'):=
  hid fun W hW=>qjy (_R:=fun _=>True) hW (ql5 _ _ _ _ W (hx.later hW.1) (hy'.later hW.1) (by unfold Cap at *;omega))
 have HP2:Hid (∀W,qqz w x y x' y' W→Calls Tryz.prog 85 #[.agg #[.bool y.b,.slice y.p y.k y.c,.slice y.q y.j y.d],.agg #[.bool x'.b,.slice x'.p x'.k x'.c,.slice x'.q x'.j x'.d]] W fun e w'=>(∃z:NV,e = .returned (.agg #[.bool z.b,.slice z.p z.k z.c,.slice z.q z.j z.d])∧qan w' (.agg #[.bool z.b,.slice z.p z.k z.c,.slice z.q z.j z.d]) (b-c))∧qqz w x y x' y' w'∧Below W.heap.size W w'):=
  hid fun W hW=>qjy (_R:=fun _=>True) hW (ql5 _ _ _ _ W (hy.later hW.1) (hx'.later hW.1) (by unfold Cap at *;omega))
 clear hx hy hx' hy' ha hb hcap;generalize a-d=q1 at *;generalize b-c=q2 at *;go_enter Tryz.func35,Tryz.ntmps35;go_wp2_with fail;generalize ((w.alloc (.cells #[.bool x.b,.slice x.p x.k x.c,.slice x.q x.j x.d,.bool y.b,.slice y.p y.k y.c,.slice y.q y.j y.d] 75)).alloc (.cells #[.bool x'.b,.slice x'.p x'.k x'.c,.slice x'.q x'.j x'.d,.bool y'.b,.slice y'.p y'.k y'.c,.slice y'.q y'.j y'.d] 75)).alloc (.cells #[.bool false,.slice none 0 0,.slice none 0 0,.bool false,.slice none 0 0,.slice none 0 0] 75)=w0 at *;have HT0:=hid (HW0.out.later ((Below.refl _ _).drew));have c0:=HT0.out.2.1.cells;have d0:=HT0.out.2.2.1.cells
 go_region_held3 (fun W=>W.cell? ⟨w.heap.size,0,none⟩=some (.bool x.b)∧W.cell? ⟨w.heap.size,1,none⟩=some (.slice x.p x.k x.c)∧W.cell? ⟨w.heap.size,2,none⟩=some (.slice x.q x.j x.d)∧W.cell? ⟨w.heap.size,3,none⟩=some (.bool y.b)∧W.cell? ⟨w.heap.size,4,none⟩=some (.slice y.p y.k y.c)∧W.cell? ⟨w.heap.size,5,none⟩=some (.slice y.q y.j y.d)∧W.cell? ⟨w.heap.size+1,0,none⟩=some (.bool x'.b)∧W.cell? ⟨w.heap.size+1,1,none⟩=some (.slice x'.p x'.k x'.c)∧W.cell? ⟨w.heap.size+1,2,none⟩=some (.slice x'.q x'.j x'.d)∧W.cell? ⟨w.heap.size+1,3,none⟩=some (.bool y'.b)∧W.cell? ⟨w.heap.size+1,4,none⟩=some (.slice y'.p y'.k y'.c)∧W.cell? ⟨w.heap.size+1,5,none⟩=some (.slice y'.q y'.j y'.d)) (first|with_reducible exact⟨c0.1,c0.2.1,c0.2.2.1,c0.2.2.2.1,c0.2.2.2.2.1,c0.2.2.2.2.2,d0⟩|with_reducible exact⟨c1.1,c1.2.1,c1.2.2.1,c1.2.2.2.1,c1.2.2.2.2.1,c1.2.2.2.2.2,d1⟩|with_reducible exact⟨c2.1,c2.2.1,c2.2.2.1,c2.2.2.2.1,c2.2.2.2.2.1,c2.2.2.2.2.2,d2⟩|with_reducible exact⟨c3.1,c3.2.1,c3.2.2.1,c3.2.2.2.1,c3.2.2.2.2.1,c3.2.2.2.2.2,d3⟩)
  (first
   | (go_at_call 85;first
     | ((with_reducible refine(HP1.out _ HT0.out).mono ?_);rintro e wL ⟨⟨z1,rfl,hn⟩,ht,hb⟩;have HVL:=hid hn;have HTL:=hid ht;have c1:=ht.2.1.cells;have d1:=ht.2.2.1.cells;clear hn ht hb)
     | ((with_reducible refine(HP2.out _ HTL.out).mono ?_);rintro e wM ⟨⟨z2,rfl,hn⟩,ht,hb⟩;have HVM:=hid hn;have HTM:=hid ht;have HVL2:=hid (HVL.out.later hb);have c2:=ht.2.1.cells;have d2:=ht.2.2.1.cells;obtain⟨⟨r0,g0⟩,⟨r1,g1⟩,⟨r2,g2⟩,⟨r3,g3⟩,⟨r4,g4⟩,⟨r5,g5⟩⟩:=qdc ht.2.2.2;have c3:=qis c2 (show w.heap.size+1+1≠w.heap.size by omega) (.bool z1.b) (.slice z1.p z1.k z1.c) (.slice z1.q z1.j z1.d) (.bool z2.b) (.slice z2.p z2.k z2.c) (.slice z2.q z2.j z2.d);have d3:=qis d2 (show w.heap.size+1+1≠w.heap.size+1 by omega) (.bool z1.b) (.slice z1.p z1.k z1.c) (.slice z1.q z1.j z1.d) (.bool z2.b) (.slice z2.p z2.k z2.c) (.slice z2.q z2.j z2.d);clear hn ht hb)))
 have hst:=qgq HTM.out.2.2.2 (.bool z1.b) (.slice z1.p z1.k z1.c) (.slice z1.q z1.j z1.d) (.bool z2.b) (.slice z2.p z2.k z2.c) (.slice z2.q z2.j z2.d);have HN:=hid (qhc (hst.1 _ _ HVL2.out) (hst.1 _ _ HVM.out));have HB:=hid (hst.2 w.heap.size w (by omega) HTM.out.1);clear hst c0 d0 c1 d1 c2 d2 c3 d3;go_wp2_with fail;refine bodyPost_ret (v := .agg #[.bool z1.b,.slice z1.p z1.k z1.c,.slice z1.q z1.j z1.d,.bool z2.b,.slice z2.p z2.k z2.c,.slice z2.q z2.j z2.d]) ?_ rfl ?_
 ·simp[results,Tryz.results35,go_sem,r0,r1,r2,r3,r4,r5]
 ·exact⟨⟨_,rfl,HN.out⟩,HB.out⟩
theorem qrh(a b:ByteArray × ByteArray)(w:World)(hg:GW w)(ha:a.1.size≤1073741824∧a.2.size≤1073741824)(hb:b.1.size≤1073741824∧b.2.size≤1073741824):
  Calls Tryz.prog 33 #[.agg #[.string a.1,.string a.2],.agg #[.string b.1,.string b.2],.func (.func 34) #[] #[]] w (qdt ((spQ a).1+(spQ b).1) ((spQ a).2+(spQ b).2) a b w):=by
 have HW0:=hid (qel w a b 24 24 24);have hsz:=qxc w (.cells #[.string a.1,.string a.2] 24) (.cells #[.string b.1,.string b.2] 24) (.cells #[.string ⟨#[]⟩,.string ⟨#[]⟩] 24);have HRE:=hid (qxe HW0.out hsz hg ha hb);obtain⟨s0,s1⟩:=qag HW0.out.2.1;obtain⟨s2,s3⟩:=qag HW0.out.2.2.1;by_cases h0:qad [qa5 a,qa5 b]=0
 ·have HFIN:Hid (∀e w',qcp ((spQ a).1+(spQ b).1) ((spQ a).2+(spQ b).2) w e w'→qdt ((spQ a).1+(spQ b).1) ((spQ a).2+(spQ b).2) a b w e w'):=hid fun e w' h=>by
   unfold qdt;rw[if_neg (by omega)];exact h
  simp only[if_pos h0] at HRE;obtain⟨e1,e2⟩:=qd2 h0;obtain⟨ba1,ba2,_⟩:=qhd e1;obtain⟨bb1,bb2,_⟩:=qhd e2
  have HOP:Hid (∀W va vb,qdd W va (spQ a).1 (spQ a).2→qdd W vb (spQ b).1 (spQ b).2→Calls Tryz.prog 34 #[va,vb] W fun e w'=>(∃v',e = .returned v'∧qdd w' v' ((spQ a).1+(spQ b).1) ((spQ a).2+(spQ b).2))∧Below W.heap.size W w'):=
   hid fun W va vb hva hvb=>qsc va vb _ _ _ _ W hva hvb (by have:=ba1.rs;have:=ba2.rs;have:=bb1.rs;have:=bb2.rs;unfold Cap;omega)
  have HWT:Hid (∀W v,qdd W v ((spQ a).1+(spQ b).1) ((spQ a).2+(spQ b).2)→Calls Tryz.prog 49 #[v] W (qcp ((spQ a).1+(spQ b).1) ((spQ a).2+(spQ b).2) W)):=hid fun W v hv=>qfd v _ _ W hv (by have:=(qky ba1 bb1).rs;unfold Cap;omega) (by have:=(qky ba2 bb2).rs;unfold Cap;omega);clear hg ha hb h0 hsz HW0 ba1 ba2 bb1 bb2 e1 e2;generalize ((spQ a).1+(spQ b).1)=rlo at *;generalize ((spQ a).2+(spQ b).2)=rhi at *;go_enter Tryz.func33,Tryz.ntmps33;go_wp2_with fail;clear s0 s1 s2 s3;refine HRE.out.mono ?_;rintro e w1 ⟨⟨g,hgs,rfl,hr⟩,hw⟩;obtain⟨x,y,x',y',hc,hva,hvb⟩:=qqf hr;have hd:Below w1.heap.size w1 w1.drew:=(Below.refl _ _).drew;have HC:=hid hc;have hcc:=hc w1 (Below.refl _ _);have HO1:=hid (HOP.out w1.drew _ _ (hva.later hd) (hvb.later hd));have HS1:=hid hw;have HBD:=hid hd;obtain⟨q0,q1,q2,q3,q4,q5,q6,q7,q8,q9,q10,q11⟩:=id hcc;clear hr hw hva hvb hc hd HRE HOP;go_wp2_with fail
  go_region_held3 (fun W=>W.cell? ⟨g,0,none⟩=some (.bool x.b)∧W.cell? ⟨g,1,none⟩=some (.slice x.p x.k x.c)∧W.cell? ⟨g,2,none⟩=some (.slice x.q x.j x.d)∧W.cell? ⟨g,3,none⟩=some (.bool y.b)∧W.cell? ⟨g,4,none⟩=some (.slice y.p y.k y.c)∧W.cell? ⟨g,5,none⟩=some (.slice y.q y.j y.d)∧W.cell? ⟨g,6,none⟩=some (.bool x'.b)∧W.cell? ⟨g,7,none⟩=some (.slice x'.p x'.k x'.c)∧W.cell? ⟨g,8,none⟩=some (.slice x'.q x'.j x'.d)∧W.cell? ⟨g,9,none⟩=some (.bool y'.b)∧W.cell? ⟨g,10,none⟩=some (.slice y'.p y'.k y'.c)∧W.cell? ⟨g,11,none⟩=some (.slice y'.q y'.j y'.d)) (first|with_reducible exact qlm hcc3 (by omega) _ _|with_reducible exact HC.out _ HBB3.out|with_reducible exact HC.out _ HBB2.out|exact hcc)
   (first|(go_at_call 34;refine HO1.out.mono ?_;rintro e w2 ⟨⟨v2,rfl,hv2⟩,hb2⟩;obtain⟨z1,z2,rfl,_,_⟩:=hv2.nv;have HV2:=hid hv2;have HBB2:Hid (Below w1.heap.size w1 w2):=hid (HBD.out.trans (hb2.mono HBD.out.size));clear hv2 hb2)|(go_at_call 49;refine(HWT.out _ _ HV2.out).mono ?_;rintro e w3 h;obtain⟨t1,t2,ec,rfl,h2⟩:=qev h;have HBB3:Hid (Below w1.heap.size w1 w3):=hid (HBB2.out.trans (h2.2.mono HBB2.out.size));have HF3:=hid h2;have HS3:=hid (HS1.out.later HBB3.out);have hcc3:=HC.out _ HBB3.out;obtain⟨⟨r0,g0⟩,⟨r1,g1⟩⟩:=qb5 HS3.out.2.2.2;clear h h2))
  all_goals
   have HB:=hid (qbq HS3.out.1 (show w.heap.size≤w.heap.size+1+1 by omega) (.string t1) (.string t2));go_wp2_with fail;refine bodyPost_ret (v := .tuple #[.agg #[.string t1,.string t2],.int .i64 ec]) ?_ rfl ?_
   ·simp[results,Tryz.results33,go_sem,r0,r1]
   ·exact HFIN.out _ _ ⟨HF3.out.1,HB.out⟩
 ·have HFIN:Hid (∀w',Below w.heap.size w w'→qdt ((spQ a).1+(spQ b).1) ((spQ a).2+(spQ b).2) a b w (.returned (.tuple #[.agg #[.string ⟨#[]⟩,.string ⟨#[]⟩],.int .i64 (qad [qa5 a,qa5 b]:Nat)])) w'):=hid fun w' h=>by
   unfold qdt;rw[if_pos h0];exact⟨rfl,h⟩
  simp only[if_neg h0] at HRE;have hb0:((qad [qa5 a,qa5 b]:Int)==0)=false:=beq_eq_false_iff_ne.2 (by omega);clear hg ha hb h0 hsz HW0;generalize qad [qa5 a,qa5 b]=ck at *;go_enter Tryz.func33,Tryz.ntmps33;go_wp2_with fail;clear s0 s1 s2 s3;refine HRE.out.mono ?_;rintro e w1 ⟨rfl,hw⟩;obtain⟨⟨r0,g0⟩,⟨r1,g1⟩⟩:=qb5 hw.2.2.2;have HB:=hid (qbq hw.1 (show w.heap.size≤w.heap.size+1+1 by omega) (.string ⟨#[]⟩) (.string ⟨#[]⟩));clear hw HRE;go_wp2_with fail;refine bodyPost_ret (v := .tuple #[.agg #[.string ⟨#[]⟩,.string ⟨#[]⟩],.int .i64 ck]) ?_ rfl ?_
  ·simp[results,Tryz.results33,go_sem,r0,r1]
  ·exact HFIN.out _ HB.out
theorem qog(a b:ByteArray × ByteArray)(w:World)(hg:GW w)(ha:a.1.size≤1073741824∧a.2.size≤1073741824)(hb:b.1.size≤1073741824∧b.2.size≤1073741824):
  Calls Tryz.prog 6 #[.agg #[.string a.1,.string a.2],.agg #[.string b.1,.string b.2]] w (qdt ((spQ a).1+(spQ b).1) ((spQ a).2+(spQ b).2) a b w):=by
 have HW0:=hid (qel w a b 24 24 24);have HCALL:=hid (qrh a b _ (hg.later HW0.out.1) ha hb);obtain⟨s0,s1⟩:=qag HW0.out.2.1;obtain⟨s2,s3⟩:=qag HW0.out.2.2.1;clear hg ha hb;have HFIN:Hid (∀W w1 w' t1 t2 ec,qdt ((spQ a).1+(spQ b).1) ((spQ a).2+(spQ b).2) a b W (.returned (.tuple #[.agg #[.string t1,.string t2],.int .i64 ec])) w1→Below w.heap.size w w'→qdt ((spQ a).1+(spQ b).1) ((spQ a).2+(spQ b).2) a b w (.returned (.tuple #[.agg #[.string t1,.string t2],.int .i64 ec])) w'):=hid fun W w1 w' t1 t2 ec h hb=>qno h hb;generalize ((spQ a).1+(spQ b).1)=rlo at *;generalize ((spQ a).2+(spQ b).2)=rhi at *;go_enter Tryz.func6,Tryz.ntmps6;go_wp2_with fail;refine HCALL.out.mono ?_;rintro e w1 h;obtain⟨t1,t2,ec,rfl,h2,hb⟩:=qnn h;have HF:=hid h2;have HS1:=hid (HW0.out.later hb);obtain⟨⟨r0,g0⟩,⟨r1,g1⟩⟩:=qb5 HS1.out.2.2.2;have HB:=hid (qbq HS1.out.1 (show w.heap.size≤w.heap.size+1+1 by omega) (.string t1) (.string t2));clear h h2 hb HCALL s0 s1 s2 s3;go_wp2_with fail;refine bodyPost_ret (v := .tuple #[.agg #[.string t1,.string t2],.int .i64 ec]) ?_ rfl ?_
 ·simp[results,Tryz.results6,go_sem,r0,r1]
 ·exact HFIN.out _ _ _ _ _ _ HF.out HB.out
theorem qqu(a b:ByteArray × ByteArray)(w:World)(hg:GW w)(ha:a.1.size≤1073741824∧a.2.size≤1073741824)(hb:b.1.size≤1073741824∧b.2.size≤1073741824):
  Calls Tryz.prog 33 #[.agg #[.string a.1,.string a.2],.agg #[.string b.1,.string b.2],.func (.func 35) #[] #[]] w (qdt ((spQ a).1-(spQ b).2) ((spQ a).2-(spQ b).1) a b w):=by
 have HW0:=hid (qel w a b 24 24 24);have hsz:=qxc w (.cells #[.string a.1,.string a.2] 24) (.cells #[.string b.1,.string b.2] 24) (.cells #[.string ⟨#[]⟩,.string ⟨#[]⟩] 24);have HRE:=hid (qxe HW0.out hsz hg ha hb);obtain⟨s0,s1⟩:=qag HW0.out.2.1;obtain⟨s2,s3⟩:=qag HW0.out.2.2.1;by_cases h0:qad [qa5 a,qa5 b]=0
 ·have HFIN:Hid (∀e w',qcp ((spQ a).1-(spQ b).2) ((spQ a).2-(spQ b).1) w e w'→qdt ((spQ a).1-(spQ b).2) ((spQ a).2-(spQ b).1) a b w e w'):=hid fun e w' h=>by
   unfold qdt;rw[if_neg (by omega)];exact h
  simp only[if_pos h0] at HRE;obtain⟨e1,e2⟩:=qd2 h0;obtain⟨ba1,ba2,_⟩:=qhd e1;obtain⟨bb1,bb2,_⟩:=qhd e2
  have HOP:Hid (∀W va vb,qdd W va (spQ a).1 (spQ a).2→qdd W vb (spQ b).1 (spQ b).2→Calls Tryz.prog 35 #[va,vb] W fun e w'=>(∃v',e = .returned v'∧qdd w' v' ((spQ a).1-(spQ b).2) ((spQ a).2-(spQ b).1))∧Below W.heap.size W w'):=
   hid fun W va vb hva hvb=>qxw va vb _ _ _ _ W hva hvb (by have:=ba1.rs;have:=ba2.rs;have:=bb1.rs;have:=bb2.rs;unfold Cap;omega)
  have HWT:Hid (∀W v,qdd W v ((spQ a).1-(spQ b).2) ((spQ a).2-(spQ b).1)→Calls Tryz.prog 49 #[v] W (qcp ((spQ a).1-(spQ b).2) ((spQ a).2-(spQ b).1) W)):=hid fun W v hv=>qfd v _ _ W hv (by have:=(qul ba1 bb2).rs;unfold Cap;omega) (by have:=(qul ba2 bb1).rs;unfold Cap;omega);clear hg ha hb h0 hsz HW0 ba1 ba2 bb1 bb2 e1 e2;generalize ((spQ a).1-(spQ b).2)=rlo at *;generalize ((spQ a).2-(spQ b).1)=rhi at *;go_enter Tryz.func33,Tryz.ntmps33;go_wp2_with fail;clear s0 s1 s2 s3;refine HRE.out.mono ?_;rintro e w1 ⟨⟨g,hgs,rfl,hr⟩,hw⟩;obtain⟨x,y,x',y',hc,hva,hvb⟩:=qqf hr;have hd:Below w1.heap.size w1 w1.drew:=(Below.refl _ _).drew;have HC:=hid hc;have hcc:=hc w1 (Below.refl _ _);have HO1:=hid (HOP.out w1.drew _ _ (hva.later hd) (hvb.later hd));have HS1:=hid hw;have HBD:=hid hd;obtain⟨q0,q1,q2,q3,q4,q5,q6,q7,q8,q9,q10,q11⟩:=id hcc;clear hr hw hva hvb hc hd HRE HOP;go_wp2_with fail
  go_region_held3 (fun W=>W.cell? ⟨g,0,none⟩=some (.bool x.b)∧W.cell? ⟨g,1,none⟩=some (.slice x.p x.k x.c)∧W.cell? ⟨g,2,none⟩=some (.slice x.q x.j x.d)∧W.cell? ⟨g,3,none⟩=some (.bool y.b)∧W.cell? ⟨g,4,none⟩=some (.slice y.p y.k y.c)∧W.cell? ⟨g,5,none⟩=some (.slice y.q y.j y.d)∧W.cell? ⟨g,6,none⟩=some (.bool x'.b)∧W.cell? ⟨g,7,none⟩=some (.slice x'.p x'.k x'.c)∧W.cell? ⟨g,8,none⟩=some (.slice x'.q x'.j x'.d)∧W.cell? ⟨g,9,none⟩=some (.bool y'.b)∧W.cell? ⟨g,10,none⟩=some (.slice y'.p y'.k y'.c)∧W.cell? ⟨g,11,none⟩=some (.slice y'.q y'.j y'.d)) (first|with_reducible exact qlm hcc3 (by omega) _ _|with_reducible exact HC.out _ HBB3.out|with_reducible exact HC.out _ HBB2.out|exact hcc)
   (first|(go_at_call 35;refine HO1.out.mono ?_;rintro e w2 ⟨⟨v2,rfl,hv2⟩,hb2⟩;obtain⟨z1,z2,rfl,_,_⟩:=hv2.nv;have HV2:=hid hv2;have HBB2:Hid (Below w1.heap.size w1 w2):=hid (HBD.out.trans (hb2.mono HBD.out.size));clear hv2 hb2)|(go_at_call 49;refine(HWT.out _ _ HV2.out).mono ?_;rintro e w3 h;obtain⟨t1,t2,ec,rfl,h2⟩:=qev h;have HBB3:Hid (Below w1.heap.size w1 w3):=hid (HBB2.out.trans (h2.2.mono HBB2.out.size));have HF3:=hid h2;have HS3:=hid (HS1.out.later HBB3.out);have hcc3:=HC.out _ HBB3.out;obtain⟨⟨r0,g0⟩,⟨r1,g1⟩⟩:=qb5 HS3.out.2.2.2;clear h h2))
  all_goals
   have HB:=hid (qbq HS3.out.1 (show w.heap.size≤w.heap.size+1+1 by omega) (.string t1) (.string t2));go_wp2_with fail;refine bodyPost_ret (v := .tuple #[.agg #[.string t1,.string t2],.int .i64 ec]) ?_ rfl ?_
   ·simp[results,Tryz.results33,go_sem,r0,r1]
   ·exact HFIN.out _ _ ⟨HF3.out.1,HB.out⟩
 ·have HFIN:Hid (∀w',Below w.heap.size w w'→qdt ((spQ a).1-(spQ b).2) ((spQ a).2-(spQ b).1) a b w (.returned (.tuple #[.agg #[.string ⟨#[]⟩,.string ⟨#[]⟩],.int .i64 (qad [qa5 a,qa5 b]:Nat)])) w'):=hid fun w' h=>by
   unfold qdt;rw[if_pos h0];exact⟨rfl,h⟩
  simp only[if_neg h0] at HRE;have hb0:((qad [qa5 a,qa5 b]:Int)==0)=false:=beq_eq_false_iff_ne.2 (by omega);clear hg ha hb h0 hsz HW0;generalize qad [qa5 a,qa5 b]=ck at *;go_enter Tryz.func33,Tryz.ntmps33;go_wp2_with fail;clear s0 s1 s2 s3;refine HRE.out.mono ?_;rintro e w1 ⟨rfl,hw⟩;obtain⟨⟨r0,g0⟩,⟨r1,g1⟩⟩:=qb5 hw.2.2.2;have HB:=hid (qbq hw.1 (show w.heap.size≤w.heap.size+1+1 by omega) (.string ⟨#[]⟩) (.string ⟨#[]⟩));clear hw HRE;go_wp2_with fail;refine bodyPost_ret (v := .tuple #[.agg #[.string ⟨#[]⟩,.string ⟨#[]⟩],.int .i64 ck]) ?_ rfl ?_
  ·simp[results,Tryz.results33,go_sem,r0,r1]
  ·exact HFIN.out _ HB.out
theorem qoh(a b:ByteArray × ByteArray)(w:World)(hg:GW w)(ha:a.1.size≤1073741824∧a.2.size≤1073741824)(hb:b.1.size≤1073741824∧b.2.size≤1073741824):
  Calls Tryz.prog 7 #[.agg #[.string a.1,.string a.2],.agg #[.string b.1,.string b.2]] w (qdt ((spQ a).1-(spQ b).2) ((spQ a).2-(spQ b).1) a b w):=by
 have HW0:=hid (qel w a b 24 24 24);have HCALL:=hid (qqu a b _ (hg.later HW0.out.1) ha hb);obtain⟨s0,s1⟩:=qag HW0.out.2.1;obtain⟨s2,s3⟩:=qag HW0.out.2.2.1;clear hg ha hb;have HFIN:Hid (∀W w1 w' t1 t2 ec,qdt ((spQ a).1-(spQ b).2) ((spQ a).2-(spQ b).1) a b W (.returned (.tuple #[.agg #[.string t1,.string t2],.int .i64 ec])) w1→Below w.heap.size w w'→qdt ((spQ a).1-(spQ b).2) ((spQ a).2-(spQ b).1) a b w (.returned (.tuple #[.agg #[.string t1,.string t2],.int .i64 ec])) w'):=hid fun W w1 w' t1 t2 ec h hb=>qno h hb;generalize ((spQ a).1-(spQ b).2)=rlo at *;generalize ((spQ a).2-(spQ b).1)=rhi at *;go_enter Tryz.func7,Tryz.ntmps7;go_wp2_with fail;refine HCALL.out.mono ?_;rintro e w1 h;obtain⟨t1,t2,ec,rfl,h2,hb⟩:=qnn h;have HF:=hid h2;have HS1:=hid (HW0.out.later hb);obtain⟨⟨r0,g0⟩,⟨r1,g1⟩⟩:=qb5 HS1.out.2.2.2;have HB:=hid (qbq HS1.out.1 (show w.heap.size≤w.heap.size+1+1 by omega) (.string t1) (.string t2));clear h h2 hb HCALL s0 s1 s2 s3;go_wp2_with fail;refine bodyPost_ret (v := .tuple #[.agg #[.string t1,.string t2],.int .i64 ec]) ?_ rfl ?_
 ·simp[results,Tryz.results7,go_sem,r0,r1]
 ·exact HFIN.out _ _ _ _ _ _ HF.out HB.out
end Go.Proofs.YtpbeeneenhmjaaaGreatDoor
