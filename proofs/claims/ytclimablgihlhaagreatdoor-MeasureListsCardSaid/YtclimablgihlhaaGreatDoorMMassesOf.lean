/- The map of the masses of lots. -/
import Derived.Test.YtclimablgihlhaaGreatDoorMShare
import Derived.Test.YtclimablgihlhaaGreatDoorMEachLayer
import Derived.Test.YtclimablgihlhaaGreatDoorMMean
import Derived.Carry
import Derived.Test.YtclimablgihlhaaGreatDoorIter
set_option linter.all false
namespace Go.Proofs.YtclimablgihlhaaGreatDoor
open Go.RowKit
set_option maxRecDepth 100000
set_option maxHeartbeats 8000000
abbrev Ent:=List (BA × NV × Rat)
def qie(W:World)(r:Nat)(E:Ent):Prop:=qo5 W r (E.map fun e=>(e.1,.agg #[.bool e.2.1.b,.slice e.2.1.p e.2.1.k e.2.1.c,.slice e.2.1.q e.2.1.j e.2.1.d]))∧∀e ∈ E,qaj W (.agg #[.bool e.2.1.b,.slice e.2.1.p e.2.1.k e.2.1.c,.slice e.2.1.q e.2.1.j e.2.1.d]) e.2.2
def qjw(E:Ent):List (BA × Rat):=E.map fun e=>(e.1,e.2.2)
def q6r:NV:=⟨false,none,0,0,none,0,0⟩
def qif(E:Ent)(k:BA):NV:=((E.find? fun e=>k==e.1).map (·.2.1)).getD q6r
def qkn(E:Ent)(k:BA):Rat:=((E.find? fun e=>k==e.1).map (·.2.2)).getD 0
def q3s(E:Ent)(k:BA)(z:NV)(d:Rat):Ent:=
 if E.any (fun e=>k==e.1) then E.map (fun e=>if k==e.1 then(e.1,z,qkn E k+d) else e) else E++[(k,z,qkn E k+d)]
def q2i(D:List (BA × Rat))(k:BA)(d:Rat):List (BA × Rat):=
 if D.any (fun p=>k==p.1) then D.map (fun p=>if k==p.1 then(p.1,p.2+d) else p) else D++[(k,0+d)]
theorem qie.later{W W':World}{r:Nat}{E:Ent}(h:qie W r E)(hb:Below W.heap.size W W'):qie W' r E:=⟨h.1.later hb,fun e he=>(h.2 e he).later hb⟩
theorem qo5.nodup{W:World}{r:Nat}{D:List (BA × Value)}(h:qo5 W r D):(D.map (·.1)).Nodup:=by
 obtain⟨es,clock,_,h2,h3⟩:=h
 have e:es.toList.map (·.key)=(D.map (·.1)).map Value.string:=by
  have:=congrArg (List.map Prod.fst) h2;rw[List.map_map,List.map_map] at this;rw[List.map_map];exact this
 have Gy:=h3.2.2;rw[e] at Gy;exact(List.pairwise_map.1 Gy).imp (fun hne he=>hne (congrArg Value.string he))
theorem qy3{E:Ent}(h:(E.map (·.1)).Nodup){e f:BA × NV × Rat}(he:e ∈ E)(hf:f ∈ E)(hk:e.1=f.1):e=f:=by
 induction E with
 | nil=>cases he
 | cons a E ih=>
  rw[List.map_cons,List.nodup_cons] at h;rcases List.mem_cons.1 he with rfl|he'
  ·rcases List.mem_cons.1 hf with rfl|hf'
   ·rfl
   ·exact absurd (hk▸List.mem_map_of_mem (f:=(·.1)) hf') h.1
  ·rcases List.mem_cons.1 hf with rfl|hf'
   ·exact absurd (hk▸List.mem_map_of_mem (f:=(·.1)) he') h.1
   ·exact ih h.2 he' hf'
theorem qnt{E:Ent}{k:BA}:(E.find? fun e=>k==e.1)=none∧E.any (fun e=>k==e.1)=false∨∃e,(E.find? fun e=>k==e.1)=some e∧e ∈ E∧e.1=k∧E.any (fun e=>k==e.1)=true:=by
 cases h:E.find? fun e=>k==e.1 with
 | none=>
  left
  refine⟨rfl, ?_⟩;rw[List.any_eq_false];intro e he;have:=List.find?_eq_none.1 h e he;exact this
 | some e=>
  right
  refine⟨e,rfl,List.mem_of_find?_eq_some h, ?_, ?_⟩
  ·exact((qeg _ _).1 (List.find?_some (p:=fun e:BA × NV × Rat=>k==e.1) h)).symm
  ·rw[List.any_eq_true]
   exact⟨e,List.mem_of_find?_eq_some h,List.find?_some (p:=fun e:BA × NV × Rat=>k==e.1) h⟩
theorem qie.nodup{W:World}{r:Nat}{E:Ent}(h:qie W r E):(E.map (·.1)).Nodup:=by
 have:=h.1.nodup;rw[List.map_map] at this;exact this
theorem qjs{E:Ent}{k:BA}{e:BA × NV × Rat}(h:(E.find? fun e=>k==e.1)=some e):qkn E k=e.2.2∧qif E k=e.2.1:=by
 unfold qkn qif;rw[h];exact⟨rfl,rfl⟩
theorem qjt{E:Ent}{k:BA}(h:(E.find? fun e=>k==e.1)=none):qkn E k=0∧qif E k=q6r:=by
 unfold qkn qif;rw[h];exact⟨rfl,rfl⟩
theorem qtx(E:Ent)(k:BA):qk9 (E.map fun e=>(e.1,Value.agg #[.bool e.2.1.b,.slice e.2.1.p e.2.1.k e.2.1.c,.slice e.2.1.q e.2.1.j e.2.1.d])) k=(E.find? fun e=>k==e.1).map fun e=>Value.agg #[.bool e.2.1.b,.slice e.2.1.p e.2.1.k e.2.1.c,.slice e.2.1.q e.2.1.j e.2.1.d]:=by
 unfold qk9;rw[List.find?_map,Option.map_map];rfl
theorem qhn{W:World}{r:Nat}{E:Ent}(h:qie W r E)(k:BA):
  (Instr.lookup 116 (.map (some r)) (.string k) false).run Tryz.prog W = .ok (.agg #[.bool (qif E k).b,.slice (qif E k).p (qif E k).k (qif E k).c,.slice (qif E k).q (qif E k).j (qif E k).d]) W∧qaj W (.agg #[.bool (qif E k).b,.slice (qif E k).p (qif E k).k (qif E k).c,.slice (qif E k).q (qif E k).j (qif E k).d]) (qkn E k):=by
 rcases qnt (E:=E) (k:=k) with⟨h1,_⟩|⟨e,h1,h2,h3,_⟩
 ·obtain⟨q1,q2⟩:=qjt h1
  rw[q1,q2];refine⟨(qd5 W 116 9 74 Tryz.underlying116 Tryz.underlying9 r _ h.1.smap k (.agg #[.bool false,.slice none 0 0,.slice none 0 0]) (by kernel_rfl) (by rw[qtx,h1];rfl)).2, ?_⟩;exact qmm W
 ·obtain⟨q1,q2⟩:=qjs h1
  rw[q1,q2];exact⟨(qcj W 116 9 74 Tryz.underlying116 Tryz.underlying9 r _ h.1.smap k _ (by rw[qtx,h1];rfl)).2,h.2 e h2⟩
theorem q5c(E:Ent)(k:BA)(z:NV)(d:Rat):q9r (E.map fun e=>(e.1,Value.agg #[.bool e.2.1.b,.slice e.2.1.p e.2.1.k e.2.1.c,.slice e.2.1.q e.2.1.j e.2.1.d])) k (.agg #[.bool z.b,.slice z.p z.k z.c,.slice z.q z.j z.d])=(q3s E k z d).map fun e=>(e.1,Value.agg #[.bool e.2.1.b,.slice e.2.1.p e.2.1.k e.2.1.c,.slice e.2.1.q e.2.1.j e.2.1.d]):=by
 have Mm:(E.map fun e=>(e.1,Value.agg #[.bool e.2.1.b,.slice e.2.1.p e.2.1.k e.2.1.c,.slice e.2.1.q e.2.1.j e.2.1.d])).any (fun p=>k==p.1)=E.any (fun e=>k==e.1):=by rw[List.any_map];rfl
 unfold q9r q3s;rw[Mm];by_cases h:E.any (fun e=>k==e.1)=true
 ·rw[if_pos h,if_pos h,List.map_map,List.map_map]
  refine List.map_congr_left fun e _ => ?_;show(if(k==e.1)=true then _ else _)=_;by_cases hk:(k==e.1)=true
  ·simp[hk]
  ·simp[hk]
 ·rw[if_neg h,if_neg h,List.map_append]
  rfl
theorem q2j{W:World}{r:Nat}{E:Ent}(h:qie W r E)(k:BA)(z:NV)(d:Rat):qjw (q3s E k z d)=q2i (qjw E) k d:=by
 have Mm:(qjw E).any (fun p=>k==p.1)=E.any (fun e=>k==e.1):=by unfold qjw;rw[List.any_map];rfl
 unfold q2i;rw[Mm];unfold qjw q3s;rcases qnt (E:=E) (k:=k) with⟨h1,h2⟩|⟨e,h1,h2,h3,h4⟩
 ·rw[if_neg (by rw[h2];decide),if_neg (by rw[h2];decide),List.map_append,(qjt h1).1]
  rfl
 ·rw[if_pos h4,if_pos h4,List.map_map,List.map_map]
  refine List.map_congr_left fun f hf => ?_;show _=(if(k==f.1)=true then _ else _);by_cases hk:(k==f.1)=true
  ·have hfe:=qy3 h.nodup hf h2 (by rw[h3];exact((qeg _ _).1 hk).symm)
   subst hfe;simp[hk,(qjs h1).1]
  ·simp[hk]
theorem qm8{W:World}{r b o:Nat}{D:List (BA × Value)}{v:Value}(h:qo5 W r D)(hc:W.cell? ⟨b,o,none⟩=some v):b≠r:=by
 rintro rfl;obtain⟨es,clock,h1,_⟩:=h;simp[World.cell?,h1] at hc
theorem qo5.cell{W W':World}{r b o:Nat}{D:List (BA × Value)}{v:Value}(h:qo5 W r D)(nS:Chg r r W W')(hc:W.cell? ⟨b,o,none⟩=some v):W'.cell? ⟨b,o,none⟩=some v:=
 nS.cell hc (qm8 h hc) (qm8 h hc)
theorem qo5.nat{W W':World}{r:Nat}{D:List (BA × Value)}{v:Value}{n:Nat}(h:qo5 W r D)(nS:Chg r r W W')(hn:qap W v n):qap W' v n:=by
 obtain⟨h1,q,c,h2,h3,h4,h5⟩:=hn;refine⟨h1,q,c,h2,h3,h4, ?_⟩;rcases h5 with h5|⟨b,o,h6,h7⟩
 ·exact .inl h5
 ·exact .inr ⟨b,o,h6,fun i hi=>h.cell nS (h7 i hi)⟩
theorem qo5.num{W W':World}{r:Nat}{D:List (BA × Value)}{v:Value}{q:Rat}(h:qo5 W r D)(nS:Chg r r W W')(hn:qaj W v q):qaj W' v q:=by
 obtain⟨t,b,e,h1,h2⟩:=hn;exact⟨t,b,e,h.nat nS h1,h.nat nS h2⟩
theorem q5d{W:World}{r:Nat}{E:Ent}(h:qie W r E)(k:BA)(z:NV)(d:Rat)(hz:qaj W (.agg #[.bool z.b,.slice z.p z.k z.c,.slice z.q z.j z.d]) (qkn E k+d)):
  ∃w',(Instr.mapUpdate 116 (.map (some r)) (.string k) (.agg #[.bool z.b,.slice z.p z.k z.c,.slice z.q z.j z.d])).run Tryz.prog W = .ok () w'∧qie w' r (q3s E k z d)∧Chg r r W w'∧w'.heap.size=W.heap.size:=by
 obtain⟨w',h1,h2,h3,h4,h5⟩:=q48 (P:=Tryz.prog) W 116 9 74 Tryz.underlying116 Tryz.underlying9 r _ h.1 k (.agg #[.bool z.b,.slice z.p z.k z.c,.slice z.q z.j z.d]);have nS:Chg r r W w':=⟨by rw[Nat.min_self];exact h3,fun j _ hj _=>h5 j hj⟩;refine⟨w',h1,⟨by rw[←q5c E k z d];exact h2,fun e he => ?_⟩,nS,h4⟩;unfold q3s at he;split at he
 ·rw[List.mem_map] at he
  obtain⟨f,hf,rfl⟩:=he;split
  ·exact h.1.num nS hz
  ·exact h.1.num nS (h.2 f hf)
 ·rw[List.mem_append,List.mem_singleton] at he
  rcases he with he|rfl
  ·exact h.1.num nS (h.2 e he)
  ·exact h.1.num nS hz
theorem q75{E:Ent}{k:BA}{z:NV}{d:Rat}{m n:Nat}(h:∀e ∈ E,bd e.2.2 m)(hm:1≤m)(hd:bd d n):∀e ∈ q3s E k z d,bd e.2.2 (m+n+1):=by
 have hl:bd (qkn E k) m:=by
  rcases qnt (E:=E) (k:=k) with⟨h1,_⟩|⟨e,h1,h2,_⟩
  ·rw[(qjt h1).1];exact qiu _ hm
  ·rw[(qjs h1).1];exact h e h2
 intro e he;unfold q3s at he;split at he
 ·rw[List.mem_map] at he
  obtain⟨f,hf,rfl⟩:=he;split
  ·exact qmx hl hd
  ·exact(h f hf).mono (by omega)
 ·rw[List.mem_append,List.mem_singleton] at he
  rcases he with he|rfl
  ·exact(h e he).mono (by omega)
  ·exact qmx hl hd
def qfp(m:Int)(D:List (BA × Rat))(ss:List (BA × BA)):List (BA × Rat):=ss.foldl (fun D s=>q2i D s.1 (qjv s*((m:Int):Rat))) D
def qfl(ls:List Lay):List (BA × Rat):=ls.foldl (fun D x=>qfp x.mass D x.shares) []
theorem qty(m:Int)(D:List (BA × Rat))(ss:List (BA × BA))(s:BA × BA):qfp m D (ss++[s])=q2i (qfp m D ss) s.1 (qjv s*((m:Int):Rat)):=by unfold qfp;rw[List.foldl_append];rfl
theorem qmo(ls:List Lay)(x:Lay):qfl (ls++[x])=qfp x.mass (qfl ls) x.shares:=by unfold qfl;rw[List.foldl_append];rfl
theorem qgw{x:Lay}(h:qdi x=0):0<x.mass∧x.mass≤999999999∧1≤x.shares.length∧x.shares.length≤64∧∀s ∈ x.shares,qaa s.2.data.toList=0:=by
 unfold qdi at h;split at h
 ·cases h
 ·split at h
  ·cases h
  ·unfold qcx at h
   split at h
   ·cases h
   ·split at h
    ·cases h
    ·split at h
     ·rename_i h1;exact absurd h h1
     ·refine⟨by omega,by omega,by omega,by omega,fun s hs => ?_⟩
      have hz:qac (qba ⟨#[]⟩ x.shares)=0:=by omega
      clear h
      have key:∀(l:List (BA × BA)) b,qac (qba b l)=0→∀s ∈ l,qaa s.2.data.toList=0:=by
       intro l
       induction l with
       | nil=>intro b _ s hs;cases hs
       | cons a l ih=>
        intro b hf s hs;have h1:(if qay b a=0 then qac (qba a.1 l) else qay b a)=0:=hf;by_cases ha:qay b a=0
        ·rw[if_pos ha] at h1
         rcases List.mem_cons.1 hs with rfl|hs
         ·exact qjy ha
         ·exact ih _ h1 s hs
        ·rw[if_neg ha] at h1;exact absurd h1 ha
      exact key _ _ hz s hs
def qpa(s:BA × BA)(ms:Int)(nn gs gl gp g k j:Nat)(y:NV)(W:World):Prop:=W.cell? ⟨gs,0,none⟩=some (.string s.1)∧W.cell? ⟨gl,1,none⟩=some (.int .i64 ms)∧W.cell? ⟨gp,k,none⟩=some (.slice (some ⟨g,0,none⟩) nn nn)∧W.cell? ⟨g,j*3,none⟩=some (.bool y.b)∧W.cell? ⟨g,j*3+1,none⟩=some (.slice y.p y.k y.c)∧W.cell? ⟨g,j*3+2,none⟩=some (.slice y.q y.j y.d)
theorem qpa.later{s:BA × BA}{ms:Int}{nn gs gl gp g k j:Nat}{y:NV}{W W':World}(h:qpa s ms nn gs gl gp g k j y W)(hb:Below W.heap.size W W'):qpa s ms nn gs gl gp g k j y W':=by
 obtain⟨h0,h1,h2,h3,h4,h5⟩:=h;refine⟨?_, ?_, ?_, ?_, ?_, ?_⟩
 ·rw[hb.cell (zaq W _ h0)];exact h0
 ·rw[hb.cell (zaq W _ h1)];exact h1
 ·rw[hb.cell (zaq W _ h2)];exact h2
 ·rw[hb.cell (zaq W _ h3)];exact h3
 ·rw[hb.cell (zaq W _ h4)];exact h4
 ·rw[hb.cell (zaq W _ h5)];exact h5
theorem qpa.keep{s:BA × BA}{ms:Int}{nn gs gl gp g k j r:Nat}{y:NV}{W W':World}{D:List (BA × Value)}(h:qpa s ms nn gs gl gp g k j y W)(hm:qo5 W r D)(hc:Chg r r W W'):qpa s ms nn gs gl gp g k j y W':=by
 obtain⟨h0,h1,h2,h3,h4,h5⟩:=h;exact⟨hm.cell hc h0,hm.cell hc h1,hm.cell hc h2,hm.cell hc h3,hm.cell hc h4,hm.cell hc h5⟩
theorem qw8{E:Ent}{k:BA}{m:Nat}(h:∀e ∈ E,bd e.2.2 m)(hm:1≤m):bd (qkn E k) m:=by
 rcases qnt (E:=E) (k:=k) with⟨h1,_⟩|⟨e,h1,h2,_⟩
 ·rw[(qjt h1).1];exact qiu _ hm
 ·rw[(qjs h1).1];exact h e h2
theorem qtz(l:List Lay)(b o c gp:Nat)(w:World)(aB:qfb w b o l)(hl:l.length≤64)(eP:∀x ∈ l,qdi x=0)(hr:qcz q3r w gp l.length (l.map qql)):
  Calls Tryz.prog 62 #[.slice (some ⟨b,o,none⟩) l.length c,.slice (some ⟨gp,0,none⟩) l.length l.length] w fun e w'=>(∃E,e = .returned (.map (some w.heap.size))∧qie w' w.heap.size E∧qjw E=qfl l∧∀e ∈ E,bd e.2.2 (602*64*64+1))∧Below w.heap.size w w':=by
 have Ex:=@run_makeMap Tryz.prog;have bN:=hid aB;have HOK:=hid eP;have HR:=hid hr;have zJ:=hid (q2a w);have eY:Hid (Below w.heap.size w (w.alloc (.map #[] 0))):=hid (zam _ _);clear aB eP hr;go_enter Tryz.func62,Tryz.ntmps62;go_wp2_with fail;clear Ex;generalize w.alloc (.map #[] 0)=w0 at *
 go_loopw [13] (fun i wr=>∃k:Nat,k≤l.length∧i = .int .i64 k∧∃E:Ent,Hid (qie wr w.heap.size E)∧Hid (qjw E=qfl (l.take k))∧Hid (∀e ∈ E,bd e.2.2 (602*64*k+1))∧Hid (Below w.heap.size w wr)) (fun i _=>l.length-(intOf i).toNat)
 case atStart=>exact⟨0,Nat.zero_le _,rfl,[],hid ⟨zJ.out,by intro e he;cases he⟩,hid rfl,hid (by intro e he;cases he),eY⟩
 case round=>
  obtain⟨k,hk,rfl,E0,HN,HD,eE,HB⟩:=hrel;clear zJ eY;by_cases cV:k<l.length
  ·obtain⟨x,eL⟩:∃x,l[k]? = some x:=⟨l[k],zau cV⟩
   obtain⟨e0,e1,p,cc,e2,hv⟩:=bN.out k x eL;obtain⟨pU,gI,gF,eW,Oc⟩:=qgw (HOK.out x (zax eL));have fC:wr.cell? ⟨b,o+k*3,none⟩=some (.string x.grain):=by rw[HB.out.cell (zaq w _ e0)];exact e0
   have bP:wr.cell? ⟨b,o+k*3+1,none⟩=some (.int .i64 x.mass):=by rw[HB.out.cell (zaq w _ e1)];exact e1
   have bK:wr.cell? ⟨b,o+k*3+2,none⟩=some (.slice p x.shares.length cc):=by rw[HB.out.cell (zaq w _ e2)];exact e2
   have aD:Below wr.heap.size wr (wr.alloc (.cells #[.string x.grain,.int .i64 x.mass,.slice p x.shares.length cc] 57)):=zam _ _;have ho:=qev wr 57 (.string x.grain) (.int .i64 x.mass) (.slice p x.shares.length cc);obtain⟨a1,_⟩:=ho.2 1 (by omega);obtain⟨a2,_⟩:=ho.2 2 (by omega);simp only[qhm,if_pos,Nat.one_ne_zero] at a1 a2;obtain⟨p',cc',Kk,_,_,aA⟩:=hv;obtain⟨bs,os,rfl,Io⟩:=aA.resolve_left (by omega);cases Kk
   obtain⟨cs,⟨g,rfl,Ip⟩,gA⟩:=HR.out.get k (qql x) (by rw[List.getElem?_map,eL];rfl);have St:=gA 0 _ rfl;simp only[q3r,Nat.mul_one,Nat.add_zero] at St;have jQ:(qql x).length=x.shares.length:=by unfold qql;rw[List.length_map]
   have fU:=hid Io;have Us:=hid Ip;have HP0:=hid St;have uB:=hid Oc;have iG:Hid (qfl (l.take (k+1))=qfp x.mass (qfl (l.take k)) x.shares):=hid (by rw[qcm eL,qmo]);have cX:=hid (HN.out.later aD);have aQ:=hid (HB.out.trans (aD.mono HB.out.size));have HGL:Hid (w.heap.size<wr.heap.size):=hid HN.out.1.lt;have eF:=hid a1;have HLQ:Hid (qql x=x.shares.map qjv):=hid rfl;clear e0 e1 e2 eL aD ho aA gA St Ip Io HN HB Oc a1;generalize qql x=qs at *;generalize iU:x.shares=ss at *;generalize xG:x.mass=ms at *;generalize hnn:qs.length=nn at *;have bm:=qlp ms (by omega) gI;go_wp2_with fail;clear a2 fC bP bK;generalize wr.alloc (.cells #[.string x.grain,.int .i64 ms,.slice (some ⟨bs,os,none⟩) ss.length cc] 57)=w1 at *;generalize hgl:wr.heap.size=gl at *
   go_loopw [21] (fun i wi=>∃j:Nat,j≤ss.length∧i = .int .i64 j∧∃E:Ent,Hid (qie wi w.heap.size E)∧Hid (qjw E=qfp ms (qfl (l.take k)) (ss.take j))∧Hid (∀e ∈ E,bd e.2.2 (602*64*k+1+602*j))∧Hid (Below w.heap.size w wi)∧Hid (wi.cell? ⟨gl,1,none⟩=some (.int .i64 ms))) (fun i _=>ss.length-(intOf i).toNat)
   case atStart=>exact⟨0,Nat.zero_le _,rfl,E0,cX,HD,eE,aQ,eF⟩
   case round=>
    obtain⟨j,hj,rfl,E,xL,Tr,pG,bR,fX⟩:=hrel;clear cX aQ eF HD eE;by_cases Rz:j<ss.length
    ·obtain⟨s,hs⟩:∃s,ss[j]? = some s:=⟨ss[j],zau Rz⟩
     obtain⟨f0,f1⟩:=fU.out j s hs;have c0:wr.cell? ⟨bs,os+j*2,none⟩=some (.string s.1):=by rw[bR.out.cell (zaq w _ f0)];exact f0
     have c1:wr.cell? ⟨bs,os+j*2+1,none⟩=some (.string s.2):=by rw[bR.out.cell (zaq w _ f1)];exact f1
     have aD:Below wr.heap.size wr (wr.alloc (.cells #[.string s.1,.string s.2] 62)):=zam _ _;have nF:=bR.out.trans (aD.mono bR.out.size);obtain⟨x0,x1⟩:=qag (qbg wr 62 (.string s.1) (.string s.2));obtain⟨y,⟨n0,n1,n2⟩,hy⟩:=(Us.out.later nF).nv j (qjv s) (by rw[HLQ.out,List.getElem?_map,hs];rfl);rw[Nat.zero_add] at n0 n1 n2
     have zV:(wr.alloc (.cells #[.string s.1,.string s.2] 62)).cell? ⟨gp,k,none⟩=some (.slice (some ⟨g,0,none⟩) nn nn):=by
      rw[nF.cell (p:=⟨gp,k,none⟩) (zaq w _ HP0.out)];exact HP0.out
     have hlc:(wr.alloc (.cells #[.string s.1,.string s.2] 62)).cell? ⟨gl,1,none⟩=some (.int .i64 ms):=by
      rw[aD.cell (p:=⟨gl,1,none⟩) (zaq wr _ fX.out)];exact fX.out
     have bq:=qib (uB.out s (zax hs));have bq':bd (qjv s) 600:=bq;have yS:=hid (qcn (qeq ms (wr.alloc (.cells #[.string s.1,.string s.2] 62)).drew (by omega) (by omega)));have Ut:=hid (xL.out.later (aD.trans ((zan _ _).drew)));have lL:Hid (qpa s ms nn wr.heap.size gl gp g k j y (wr.alloc (.cells #[.string s.1,.string s.2] 62)).drew):=hid ⟨x0,hlc,zV,n0,n1,n2⟩;have HY:=hid (hy.later ((zan _ _).drew));have sO:=hid (nF.trans (((zan _ _).drew).mono nF.size));have HTJ:Hid (qfp ms (qfl (l.take k)) (ss.take (j+1))=q2i (qfp ms (qfl (l.take k)) (ss.take j)) s.1 (qjv s*((ms:Int):Rat))):=hid (by rw[qcm hs,qty]);have pM:j<nn:=by rw[jQ];exact Rz
     clear f0 f1 aD nF x1 zV hlc bq hs hy xL bR fX;generalize qjv s=q at *;generalize Dq:wr.heap.size=gs at *;go_wp2_with fail
     try rw[Dq]
     clear c0 c1;generalize (wr.alloc (.cells #[.string s.1,.string s.2] 62))=w2 at *;have e0:w2.drew.cell? ⟨gs,0,none⟩=some (.string s.1)∧w2.drew.cell? ⟨gl,1,none⟩=some (.int .i64 ms)∧w2.drew.cell? ⟨gp,k,none⟩=some (.slice (some ⟨g,0,none⟩) nn nn)∧w2.drew.cell? ⟨g,j*3,none⟩=some (.bool y.b)∧w2.drew.cell? ⟨g,j*3+1,none⟩=some (.slice y.p y.k y.c)∧w2.drew.cell? ⟨g,j*3+2,none⟩=some (.slice y.q y.j y.d):=lL.out;obtain⟨L0,Gz⟩:=qhn Ut.out s.1;have bl:=(qw8 (k:=s.1) pG.out (by omega)).rs;have bqm:=(qex bq' bm).rs;have bq1:=bq'.rs;have bm1:=bm.rs;have cS:Hid (rs (qkn E s.1)+rs (q*((ms:Int):Rat))+2≤Cap∧rs q+rs ((ms:Int):Rat)≤Cap):=hid (by unfold Cap;omega);clear bl bqm bq1 bm1 n0 n1 n2
     go_region_held3 (fun W=>W.cell? ⟨gs,0,none⟩=some (.string s.1)∧W.cell? ⟨gl,1,none⟩=some (.int .i64 ms)∧W.cell? ⟨gp,k,none⟩=some (.slice (some ⟨g,0,none⟩) nn nn)∧W.cell? ⟨g,j*3,none⟩=some (.bool y.b)∧W.cell? ⟨g,j*3+1,none⟩=some (.slice y.p y.k y.c)∧W.cell? ⟨g,j*3+2,none⟩=some (.slice y.q y.j y.d)) (first|with_reducible exact eA|with_reducible exact eB|with_reducible exact eC|with_reducible exact eD|exact e0)
      (first
       | (go_at_call 35;((with_reducible refine yS.out.mono ?_);rintro e wA ⟨⟨t1,rfl,hn⟩,hb⟩;have eQ:=hid hn;have HYA:=hid (HY.out.later hb);have bQ:=hid (sO.out.trans (hb.mono sO.out.size));have gC:=hid (Ut.out.later hb);have sA:=hid (lL.out.later hb);have eA:wA.cell? ⟨gs,0,none⟩=some (.string s.1)∧wA.cell? ⟨gl,1,none⟩=some (.int .i64 ms)∧wA.cell? ⟨gp,k,none⟩=some (.slice (some ⟨g,0,none⟩) nn nn)∧wA.cell? ⟨g,j*3,none⟩=some (.bool y.b)∧wA.cell? ⟨g,j*3+1,none⟩=some (.slice y.p y.k y.c)∧wA.cell? ⟨g,j*3+2,none⟩=some (.slice y.q y.j y.d):=sA.out;obtain⟨LA,HZA⟩:=qhn gC.out s.1;clear hn hb))
       | (go_at_call 37;((with_reducible refine(qcn (qdx _ _ _ _ wA HYA.out eQ.out cS.out.2)).mono ?_);rintro e wB ⟨⟨t2,rfl,hn⟩,hb⟩;have cO:=hid hn;have aX:=hid (bQ.out.trans (hb.mono bQ.out.size));have kU:=hid (gC.out.later hb);have tW:=hid (sA.out.later hb);have eB:wB.cell? ⟨gs,0,none⟩=some (.string s.1)∧wB.cell? ⟨gl,1,none⟩=some (.int .i64 ms)∧wB.cell? ⟨gp,k,none⟩=some (.slice (some ⟨g,0,none⟩) nn nn)∧wB.cell? ⟨g,j*3,none⟩=some (.bool y.b)∧wB.cell? ⟨g,j*3+1,none⟩=some (.slice y.p y.k y.c)∧wB.cell? ⟨g,j*3+2,none⟩=some (.slice y.q y.j y.d):=tW.out;obtain⟨LB,HZB⟩:=qhn kU.out s.1;clear hn hb))
       | (go_at_call 76;((with_reducible refine(qcn (qht _ _ _ _ wB HZB cO.out cS.out.1)).mono ?_);rintro e wC ⟨⟨t3,rfl,hn⟩,hb⟩;have dY:=hid (aX.out.trans (hb.mono aX.out.size));have Gt:=hid (kU.out.later hb);have Ab:=hid (tW.out.later hb);have eC:wC.cell? ⟨gs,0,none⟩=some (.string s.1)∧wC.cell? ⟨gl,1,none⟩=some (.int .i64 ms)∧wC.cell? ⟨gp,k,none⟩=some (.slice (some ⟨g,0,none⟩) nn nn)∧wC.cell? ⟨g,j*3,none⟩=some (.bool y.b)∧wC.cell? ⟨g,j*3+1,none⟩=some (.slice y.p y.k y.c)∧wC.cell? ⟨g,j*3+2,none⟩=some (.slice y.q y.j y.d):=Ab.out;obtain⟨LC,HZC⟩:=qhn Gt.out s.1;obtain⟨wD,hrunD,hND,hchD,hszD⟩:=q5d Gt.out s.1 t3 _ hn;have HND:=hid hND;have eE:=hid (hchD.1);have eD:wD.cell? ⟨gs,0,none⟩=some (.string s.1)∧wD.cell? ⟨gl,1,none⟩=some (.int .i64 ms)∧wD.cell? ⟨gp,k,none⟩=some (.slice (some ⟨g,0,none⟩) nn nn)∧wD.cell? ⟨g,j*3,none⟩=some (.bool y.b)∧wD.cell? ⟨g,j*3+1,none⟩=some (.slice y.p y.k y.c)∧wD.cell? ⟨g,j*3+2,none⟩=some (.slice y.q y.j y.d):=Ab.out.keep Gt.out.1 hchD;clear hn hb hchD hszD hND)))
     all_goals
      have fT:=hid (dY.out.trans (eE.out.mono (by rw[Nat.min_self];exact zap _)));have HDF:Hid (qjw (q3s E s.1 t3 (q*((ms:Int):Rat)))=qfp ms (qfl (l.take k)) (ss.take (j+1))):=hid (by rw[q2j Gt.out,Tr.out,HTJ.out]);have HBEF:Hid (∀e ∈ q3s E s.1 t3 (q*((ms:Int):Rat)),bd e.2.2 (602*64*k+1+602*(j+1))):=hid (fun e he=>(q75 pG.out (by omega) (qex bq' bm) e he).mono (by omega));have HCF:Hid (wD.cell? ⟨gl,1,none⟩=some (.int .i64 ms)):=hid eD.2.1;go_wp2_with fail;go_roundw
      case rel=>exact⟨j+1,by omega,by go_num,_,HND,HDF,HBEF,fT,HCF⟩
      case measure=>simp[intOf];omega
    ·obtain rfl:j=ss.length:=by omega
     have hD:=Tr.out;rw[List.take_length,←iG.out] at hD;have pP:=hid hD;have Mn:Hid (∀e ∈ E,bd e.2.2 (602*64*(k+1)+1)):=hid (fun e he=>(pG.out e he).mono (by omega));clear hD Tr pG;go_wp2_with fail;go_roundw
     case rel=>exact⟨k+1,by omega,by go_num,E,xL,pP,Mn,bR⟩
     case measure=>simp[intOf];omega
  ·obtain rfl:k=l.length:=by omega
   have hD:=HD.out;rw[List.take_length] at hD;have pP:=hid hD;have Mn:Hid (∀e ∈ E0,bd e.2.2 (602*64*64+1)):=hid (fun e he=>(eE.out e he).mono (by omega));clear hD HD eE;go_wp2_with fail;go_ret;exact⟨⟨E0,rfl,HN.out,pP.out,Mn.out⟩,HB.out⟩
def MC(gb gm r:Nat)(ms:Int)(W:World):Prop:=W.cell? ⟨gb,0,none⟩=some (.map (some r))∧W.cell? ⟨gm,0,none⟩=some (.int .i64 ms)
theorem MC.later{gb gm r:Nat}{ms:Int}{W W':World}(h:MC gb gm r ms W)(hb:Below W.heap.size W W'):MC gb gm r ms W':=by
 obtain⟨h0,h1⟩:=h;refine⟨?_, ?_⟩
 ·rw[hb.cell (zaq W _ h0)];exact h0
 ·rw[hb.cell (zaq W _ h1)];exact h1
def qnu(E:Ent)(ms:Int)(k:BA):Rat:=qkn E k/((ms:Int):Rat)
theorem qy4(gb gm r:Nat)(E:Ent)(ms:Int)(k:BA)(w:World)(hc:MC gb gm r ms w)(hN:qie w r E)(h1:1≤ms)(h2:ms≤999999999)(tH:∀e ∈ E,bd e.2.2 (602*64*64+1)):
  Calls Tryz.prog 107 #[.string k,.pointer (some ⟨gb,0,none⟩),.pointer (some ⟨gm,0,none⟩)] w fun e w'=>e = .returned (.tuple #[.agg #[.string k,.string (qcw (qnu E ms k))],.int .i64 (qfa (qnu E ms k):Nat)])∧Below w.heap.size w w':=by
 have aD:Below w.heap.size w (w.alloc (.cells #[.string ⟨#[]⟩,.string ⟨#[]⟩] 62)):=zam _ _;have eI:=hid (aD.trans ((zan w.heap.size _).drew));have HO:=hid ((qbg w 62 (.string ⟨#[]⟩) (.string ⟨#[]⟩)).later ((zan _ _).drew));have lL:=hid ((hc.later aD).later ((zan _ _).drew));have gE:=hid ((hN.later aD).later ((zan _ _).drew));have bm:=qlp ms (by omega) h2;have bl:=qw8 (k:=k) tH (by omega)
 have cS:Hid (rs (qkn E k)+rs ((ms:Int):Rat)≤Cap∧rs (qnu E ms k)≤Cap):=hid (by
  have a1:=bl.rs;have a2:=bm.rs;have a3:=(qmy bl bm).rs
  unfold qnu Cap;omega)
 have Kp:Hid (((ms:Int):Rat).num≠0):=hid (by show ms≠0;omega);have yS:=hid (qcn (qeq ms (w.alloc (.cells #[.string ⟨#[]⟩,.string ⟨#[]⟩] 62)).drew (by omega) (by omega)));obtain⟨L0,Gz⟩:=qhn gE.out k;have e0:(w.alloc (.cells #[.string ⟨#[]⟩,.string ⟨#[]⟩] 62)).drew.cell? ⟨gb,0,none⟩=some (.map (some r))∧(w.alloc (.cells #[.string ⟨#[]⟩,.string ⟨#[]⟩] 62)).drew.cell? ⟨gm,0,none⟩=some (.int .i64 ms):=lL.out;clear aD hc hN bm bl tH;go_enter Tryz.func107,Tryz.ntmps107;go_wp2_with fail;generalize w.alloc (.cells #[.string ⟨#[]⟩,.string ⟨#[]⟩] 62)=w1 at *
 go_region_held3 (fun W=>W.cell? ⟨gb,0,none⟩=some (.map (some r))∧W.cell? ⟨gm,0,none⟩=some (.int .i64 ms)) (first|with_reducible exact eA|with_reducible exact eB|with_reducible exact eC|exact e0)
  (first
   | (go_at_call 35;((with_reducible refine yS.out.mono ?_);rintro e wA ⟨⟨t1,rfl,hn⟩,hb⟩;have eQ:=hid hn;have bQ:=hid (eI.out.trans (hb.mono eI.out.size));have gC:=hid (gE.out.later hb);have Gl:=hid (HO.out.later (hb.mono HO.out.1));have sA:=hid (lL.out.later hb);have eA:wA.cell? ⟨gb,0,none⟩=some (.map (some r))∧wA.cell? ⟨gm,0,none⟩=some (.int .i64 ms):=sA.out;obtain⟨LA,HZA⟩:=qhn gC.out k;clear hn hb))
   | (go_at_call 38;((with_reducible refine(qcn (qff _ _ _ _ wA HZA eQ.out Kp.out cS.out.1)).mono ?_);rintro e wB ⟨⟨t2,rfl,hn⟩,hb⟩;have cO:Hid (qaj wB (.agg #[.bool t2.b,.slice t2.p t2.k t2.c,.slice t2.q t2.j t2.d]) (qnu E ms k)):=hid hn;have aX:=hid (bQ.out.trans (hb.mono bQ.out.size));have yI:=hid (Gl.out.later (hb.mono Gl.out.1));have tW:=hid (sA.out.later hb);have eB:wB.cell? ⟨gb,0,none⟩=some (.map (some r))∧wB.cell? ⟨gm,0,none⟩=some (.int .i64 ms):=tW.out;clear hn hb))
   | (go_at_call 50;((with_reducible refine(qiv _ _ wB cO.out cS.out.2).mono ?_);rintro e wC h;obtain⟨rfl,hb⟩:=qmj h;have dY:=hid (aX.out.trans (hb.mono aX.out.size));have tG:=hid (yI.out.later (hb.mono yI.out.1));have Ab:=hid (tW.out.later hb);have eC:wC.cell? ⟨gb,0,none⟩=some (.map (some r))∧wC.cell? ⟨gm,0,none⟩=some (.int .i64 ms):=Ab.out;obtain⟨⟨r0,g0'⟩,⟨r1,g1⟩⟩:=qas tG.out;clear hb h)))
 all_goals
  have fT:=hid (qbk dY.out (zap _) (.string k) (.string (qcw (qnu E ms k))));go_wp2_with fail;refine bodyPost_ret (v := .tuple #[.agg #[.string k,.string (qcw (qnu E ms k))],.int .i64 (qfa (qnu E ms k):Nat)]) ?_ rfl ?_
  ·simp[results,Tryz.results107,go_sem,r0,r1]
  ·exact⟨rfl,fT.out⟩
def shK:quh (BA × BA) where
 ty:=62
 size:=2
 ok:=fun c=>∃s,c = .string s
 E:=fun _ cs x=>cs=[.string x.1,.string x.2]
theorem qpb:shK.Law where
 pos:=by show 0<2;omega
 cells:=by
  rintro W cs x rfl;refine⟨rfl,fun c hc => ?_⟩;simp only[List.mem_cons,List.not_mem_nil,or_false] at hc;rcases hc with rfl|rfl<;>exact⟨⟨_,rfl⟩,rfl⟩
 later:=by
  rintro W W' cs x rfl _;rfl
 set:=by
  rintro W g cur ty fr cs x cs' rfl _ _;rfl
def qqn(W:World)(b o:Nat)(l:List BA):Prop:=∀(j:Nat) (s:BA),l[j]? = some s→W.cell? ⟨b,o+j,none⟩=some (.string s)
theorem qqn.later{W W':World}{b o:Nat}{l:List BA}(h:qqn W b o l)(hb:Below W.heap.size W W'):qqn W' b o l:=fun j s hj=>by
 rw[hb.cell (zaq W _ (h j s hj))];exact h j s hj
theorem q5e(n:Nat)(hn:n≤1048576)(w:World):
  (Instr.makeSlice 55 (.int .i64 0) (.int .i64 (n:Int))).run Tryz.prog w = .ok (.slice (some ⟨w.heap.size,0,none⟩) 0 n) (w.alloc (.cells (madeCells #[.string ⟨#[]⟩,.string ⟨#[]⟩] (n*2)) 62)):=by
 obtain⟨i0,hi,cT,dT,dU⟩:=info_parts (show(Tryz.prog.info? 62).map (fun i=>(i.zero,i.size,i.bytes))=some (some (.agg #[.string ⟨#[]⟩,.string ⟨#[]⟩]),2,32) by kernel_rfl);have h:=run_make (P:=Tryz.prog) w 55 62 i0 _ Tryz.underlying55 hi cT .i64 .i64 0 (n:Int) (Int.le_refl _) (by omega) (by rw[dU];omega) (by omega);rw[dT] at h
 simpa [Value.cells] using h
theorem q5f(gb gm r:Nat)(E:Ent)(ms:Int)(l:List BA)(b o c:Nat)(w:World)(aB:qqn w b o l)(hl:l.length≤64)(hmc:MC gb gm r ms w)(hN:qie w r E)(h1:1≤ms)(h2:ms≤999999999)(tH:∀e ∈ E,bd e.2.2 (602*64*64+1)):
  Calls Tryz.prog 104 #[.slice (some ⟨b,o,none⟩) l.length c,.func (.func 107) #[] #[.pointer (some ⟨gb,0,none⟩),.pointer (some ⟨gm,0,none⟩)]] w
   (qi5 shK (l.map fun s=>qfa (qnu E ms s)) (l.map fun s=>(s,qcw (qnu E ms s))) w):=by
 have bN:=hid aB;have fX:Hid (∀W s,Below w.heap.size w W→Calls Tryz.prog 107 #[.string s,.pointer (some ⟨gb,0,none⟩),.pointer (some ⟨gm,0,none⟩)] W fun e w'=>e = .returned (.tuple #[.agg #[.string s,.string (qcw (qnu E ms s))],.int .i64 (qfa (qnu E ms s):Nat)])∧Below W.heap.size W w'):=hid fun W s hW=>qy4 gb gm r E ms s W (hmc.later hW) (hN.later hW) h1 h2 tH;have lS:=q5e l.length (by omega);obtain⟨i0,hi,cT,dT,dU⟩:=info_parts (show(Tryz.prog.info? 62).map (fun i=>(i.zero,i.size,i.bytes))=some (some (.agg #[.string ⟨#[]⟩,.string ⟨#[]⟩]),2,32) by kernel_rfl);have HI:=hid hi;clear aB hi cT dU hmc hN tH
 have gE:=hid (qkj qpb w l.length (l.length*2) #[.string ⟨#[]⟩,.string ⟨#[]⟩] rfl rfl (by
  intro c hc;simp only[List.mem_cons,List.not_mem_nil,or_false] at hc
  rcases hc with rfl|rfl<;>exact⟨_,rfl⟩))
 have eY:Hid (Below w.heap.size w (w.alloc (.cells (madeCells #[.string ⟨#[]⟩,.string ⟨#[]⟩] (l.length*2)) 62))):=hid (zam _ _);obtain⟨ef,hef⟩:∃ef:BA→Nat,ef=fun s=>qfa (qnu E ms s):=⟨_,rfl⟩;obtain⟨tf,htf⟩:∃tf:BA→BA,tf=fun s=>qcw (qnu E ms s):=⟨_,rfl⟩;have e1:∀s,qcw (qnu E ms s)=tf s:=fun s=>by rw[htf]
 have e2:∀s,qfa (qnu E ms s)=ef s:=fun s=>by rw[hef]
 simp only[e1,e2] at fX ⊢;clear e1 e2 hef htf;obtain⟨pf,hpf⟩:∃pf:BA→BA × BA,pf=fun s=>(s,tf s):=⟨_,rfl⟩;have HPF:Hid (∀s,pf s=(s,tf s)):=hid fun s=>by rw[hpf]
 rw[show(l.map fun s=>(s,tf s))=l.map pf from by rw[hpf],show(l.map fun s=>ef s)=l.map ef from rfl];clear hpf;go_enter Tryz.func104,Tryz.ntmps104;go_wp2_with fail;clear lS
 replace gE:Hid (qcz shK (w.alloc (.cells (madeCells #[.string ⟨#[]⟩,.string ⟨#[]⟩] (l.length*2)) 62)) w.heap.size l.length []):=gE
 generalize w.alloc (.cells (madeCells #[.string ⟨#[]⟩,.string ⟨#[]⟩] (l.length*2)) 62)=w0 at *
 go_loopw [6,16] (fun r i wr=>∃k:Nat,k≤l.length∧i = .int .i64 k∧r = .slice (some ⟨w.heap.size,0,none⟩) k l.length∧Hid (qcz shK wr w.heap.size l.length ((l.take k).map pf))∧Hid (qac ((l.take k).map ef)=0)∧Hid (Below w.heap.size w wr)) (fun _ i _=>l.length-(intOf i).toNat)
 case atStart=>exact⟨0,Nat.zero_le _,rfl,rfl,gE,hid rfl,eY⟩
 case round=>
  obtain⟨k,hk,rfl,rfl,HN,HE,HB⟩:=hrel;clear gE eY;by_cases cV:k<l.length
  ·obtain⟨s,eL⟩:∃s,l[k]? = some s:=⟨l[k],zau cV⟩
   have e0:=bN.out k s eL;have fC:wr.cell? ⟨b,o+k,none⟩=some (.string s):=by rw[HB.out.cell (zaq w _ e0)];exact e0
   have cM:=hid (fX.out wr s HB.out);have pI:=hid eL;clear e0 eL;by_cases hc:ef s=0
   ·have jR:=hid (qhh ef pI.out HE.out hc)
    rw[hc] at cM
    have jQ:((l.take k).map pf)++[(s,tf s)]=(l.take (k+1)).map pf:=by
     rw[qcm pI.out,List.map_append,←HPF.out];rfl
    have yT:=hid jQ;have jB:((l.take k).map pf).length=k:=by rw[List.length_map,List.length_take];omega
    have cX:=HN;have aQ:=HB;clear HE hc jQ HN HB;generalize tf s=q at *;generalize ((l.take k).map pf)=qs at *;go_wp2_with fail;refine cM.out.mono ?_;rintro e w1 ⟨rfl,hb⟩;have aD:Below w1.heap.size w1 (w1.alloc (.cells #[.string s,.string q] 62)):=zam _ _;have fM:=hid ((cX.out.later qpb hb).later qpb aD);have aX:=hid (aQ.out.trans (hb.mono aQ.out.size));have kJ:w.heap.size≤w1.heap.size:=aX.out.size;have aR:=hid (aX.out.trans (aD.mono kJ));obtain⟨y0,y1⟩:=qag (qbg w1 62 (.string s) (.string q));have bT:Below (w1.alloc (.cells #[.string s,.string q] 62)).heap.size (w1.alloc (.cells #[.string s,.string q] 62)) ((w1.alloc (.cells #[.string s,.string q] 62)).alloc (.cells #[.string s,.string q] 62)):=zam _ _;obtain⟨cur,eJ,bZ,cK,bM⟩:=(fM.out.later qpb bT).push qpb (cs:=[.string s,.string q]) (x:=(s,q)) (by rw[jB];exact cV) rfl;have jI:=heap_alloc_new (w1.alloc (.cells #[.string s,.string q] 62)) (.cells #[.string s,.string q] 62);rw[zao] at jI;rw[jB] at bZ cK bM;simp only[List.append_assoc,List.cons_append,List.nil_append,shK,List.length_cons,List.length_nil,Nat.zero_add,Nat.reduceAdd] at cK bM bZ eJ;have cH:Hid (qcz shK _ _ _ _):=hid cK;have aH:=hid (aR.out.trans ((bT.mono (by rw[zao];omega)).trans (bM w.heap.size (zap _))));have lB:=hid eJ;have kU:=hid jI;have dQ:=hid bZ;clear aD bT kJ eJ bZ cK bM jI cX aQ fM aR jB hb aX fC cM;go_wp2_with (at_builtin;refine qbi _ rfl _ _ 55 rfl 62 i0 2 Tryz.underlying55 HI.out dT w.heap.size k l.length cur rfl lB.out ⟨w1.heap.size+1,0,none⟩ 1 1 [.string s,.string q] rfl rfl (World.news_of_block kU.out) ?mT (by omega) dQ.out ?_)
    case mT=>
     intro u hu;simp only[List.mem_cons,List.not_mem_nil,or_false] at hu;rcases hu with rfl|rfl<;>rfl
    clear y0 y1;go_wp2_with fail;go_roundw
    case rel=>exact⟨k+1,cV,by go_num,rfl,hid (by rw[←yT.out];exact cH.out),jR,aH⟩
    case measure=>simp[intOf];omega
   ·have HF:=hid (qiz ef pI.out HE.out hc)
    clear HE;generalize ef s=ck at *;generalize tf s=q at *;have oF:((ck:Int)==0)=false:=zat (by omega);have gN:=hid hc;clear hc;go_wp2_with fail;refine cM.out.mono ?_;rintro e w1 ⟨rfl,hb⟩;have h1:=HB.out.trans (hb.mono HB.out.size);have aQ:=hid (h1.trans ((zan w.heap.size w1).alloc h1.size (.cells #[.string s,.string q] 62)));clear hb HB cM fC h1;go_wp2_with fail;go_ret2;exact qo3 HF.out gN.out rfl aQ.out
  ·obtain rfl:k=l.length:=by omega
   have hE:=HE.out;have hN:=HN.out;rw[List.take_length] at hE hN;have HE':=hid hE;have HN':=hid hN;clear hE hN HE HN;go_wp2_with fail;go_ret2;exact qml HE'.out (by rw[List.length_map]) (zap _) rfl HN'.out HB.out
end Go.Proofs.YtclimablgihlhaaGreatDoor
namespace Go.Proofs.YtclimablgihlhaaGreatDoor
open Go.RowKit Go.Maps Go.Sort Go.Shelf
set_option maxRecDepth 100000
set_option maxHeartbeats 8000000
def q76(l:List UInt8):BA:=⟨l.toArray⟩
def qcf(ss:List (List UInt8)):List BA:=(ss.mergeSort (fun x y=>decide (x≤y))).map q76
def qy5(E:Ent)(ms:Int)(w:World)(e:Ending)(w':World):Prop:=
 if 64<E.length then e = .returned (.tuple #[.slice none 0 0,.int .i64 5])∧Below w.heap.size w w'
 else ∃ss:List (List UInt8),ss.Perm (E.map fun e=>e.1.data.toList)∧qi5 shK ((qcf ss).map fun s=>qfa (qnu E ms s)) ((qcf ss).map fun s=>(s,qcw (qnu E ms s))) w e w'
theorem qy6{α:Type}{K:quh α}{errs:List Nat}{l:List α}{w W w':World}{e:Ending}(h:qi5 K errs l W e w')(hb:Below w.heap.size w W):qi5 K errs l w e w':=by
 obtain⟨h1,h2⟩:=h;refine⟨?_,hb.trans (h2.mono hb.size)⟩;split
 ·rename_i h0
  rw[if_pos h0] at h1;obtain⟨g,hg,he,hr⟩:=h1;exact⟨g,Nat.le_trans hb.size hg,he,hr⟩
 ·rename_i h0
  rw[if_neg h0] at h1;exact h1
theorem qy7{α:Type}{K:quh α}{errs:List Nat}{l:List α}{W w':World}{e:Ending}(h:qi5 K errs l W e w'):∃(p:Option Addr) (n c:Nat) (z:Int),e = .returned (.tuple #[.slice p n c,.int .i64 z]):=by
 obtain⟨h1,_⟩:=h;split at h1
 ·obtain⟨g,_,he,_⟩:=h1
  exact⟨_,_,_,_,he⟩
 ·exact⟨_,_,_,_,h1⟩
theorem q2k(r:Nat)(W:World):Calls Tryz.prog 106 #[.map (some r)] W fun e w'=>e = .returned (.func (.func 163) #[] #[.pointer (some ⟨W.heap.size,0,none⟩)])∧w'=W.alloc (.cells #[.map (some r)] 116):=
 callsIn_wide.1 (Tryz.maps_Keys_106 (some r) W)
theorem qvv{r n:Nat}{E:Ent}{W:World}(hn:n=W.heap.size)(hN:qie W r E)(hne:E≠[])(hl:E.length≤64)(hk:∀e ∈ E,e.1.size≤maxLen):
  Calls Tryz.prog 105 #[.func (.func 163) #[] #[.pointer (some ⟨n,0,none⟩)]] (W.alloc (.cells #[.map (some r)] 116)) fun e w'=>∃(ss:List (List UInt8)) (g c:Nat),ss.Perm (E.map fun e=>e.1.data.toList)∧e = .returned (.slice (some ⟨g,0,none⟩) (qcf ss).length c)∧qqn w' g 0 (qcf ss)∧Below W.heap.size W w':=by
 subst hn
 obtain⟨D0,bG,Uu,dM⟩:=hN.1.owns (H:=Nat) (P:=Tryz.prog) (kt:=9) Tryz.underlying9 (fun p hp=>by
  rw[List.mem_map] at hp;obtain⟨e,he,rfl⟩:=hp
  exact hk e he) (by rw[List.length_map];omega)
 rw[List.length_map] at dM;refine(callsIn_wide.1 (Tryz.slices_Sorted_keys_105_106 r _ D0 _ W bG (by rw[dM];unfold maxLen;omega) (by rw[dM];omega))).mono ?_;rintro e w' ⟨v,ss,rfl,hp,aB,sC,hb⟩;have dZ:=hp.trans Uu;rw[List.map_map] at dZ;have aF:=dZ.length_eq;rw[List.length_map] at aF
 have iU:ss≠[]:=by
  rintro rfl;exact hne (List.length_eq_zero_iff.1 aF.symm)
 have cV:(qcf ss).length=ss.length:=by unfold qcf;rw[List.length_map,List.length_mergeSort]
 obtain⟨h1,h2⟩:=aB;rcases h2 with⟨h2,_⟩|⟨g,cap,cur,h3,h4,h5,h6,h7,h8,h9⟩
 ·exact absurd (sC.1 h2) iU
 ·refine⟨ss,g,cap,dZ,by rw[h3,cV],fun j s hs => ?_,(zam _ _).trans (hb.mono (by rw[zao];omega))⟩
  rw[Nat.zero_add,cell_of_row w' g _ cur _ (0,0) h5,←Array.getElem?_toList];have hj:j<ss.length:=by rw[←cV];exact(List.getElem?_eq_some_iff.1 hs).1
  have h10:(cur.toList.take (ss.length*1))[j]? = some (Value.string s):=by
   rw[h9];unfold qcf at hs;rw[List.getElem?_map] at hs ⊢;cases hm:(ss.mergeSort (fun x y=>decide (x≤y)))[j]? with
   | none=>rw[hm] at hs;cases hs
   | some t=>
    rw[hm] at hs;simp only[Option.map_some,Option.some.injEq] at hs;subst hs;rfl
  rwa [List.getElem?_take_of_lt (by omega)] at h10
theorem qt0(r:Nat)(E:Ent)(ms:Int)(w:World)(hN:qie w r E)(hne:E≠[])(hk:∀e ∈ E,e.1.size≤maxLen)(h1:1≤ms)(h2:ms≤999999999)(tH:∀e ∈ E,bd e.2.2 (602*64*64+1)):
  Calls Tryz.prog 61 #[.map (some r),.int .i64 ms] w (qy5 E ms w):=by
 have gB:Below w.heap.size w (w.alloc (.cells #[.map (some r)] 116)):=zam _ _;have aD:Below w.heap.size w ((w.alloc (.cells #[.map (some r)] 116)).alloc (.cells #[.int .i64 ms] 3)):=gB.alloc (by simp) _;have fM:=hid (hN.later aD);have Uv:Hid (MC w.heap.size (w.heap.size+1) r ms ((w.alloc (.cells #[.map (some r)] 116)).alloc (.cells #[.int .i64 ms] 3))):=hid ⟨by simp,by simp⟩;obtain⟨m0,m1⟩:((w.alloc (.cells #[.map (some r)] 116)).alloc (.cells #[.int .i64 ms] 3)).cell? ⟨w.heap.size,0,none⟩=some (.map (some r))∧((w.alloc (.cells #[.map (some r)] 116)).alloc (.cells #[.int .i64 ms] 3)).cell? ⟨w.heap.size+1,0,none⟩=some (.int .i64 ms):=Uv.out
 obtain⟨es,clock,hb,hes⟩:∃es clock,((w.alloc (.cells #[.map (some r)] 116)).alloc (.cells #[.int .i64 ms] 3)).heap[r]? = some (.map es clock)∧es.size=E.length:=by
  obtain⟨es,clock,g1,g2,_⟩:=fM.out.1;refine⟨es,clock,g1, ?_⟩;have:=congrArg List.length g2;rw[List.length_map,List.length_map,List.length_map,Array.length_toList] at this;exact this
 have Iv:(Builtin.len_ #[116] 3 #[.map (some r)]).run Tryz.prog ((w.alloc (.cells #[.map (some r)] 116)).alloc (.cells #[.int .i64 ms] 3)) = .ok (.int .i64 (es.size:Nat)) ((w.alloc (.cells #[.map (some r)] 116)).alloc (.cells #[.int .i64 ms] 3)):=run_len_map _ _ _ r es clock (by kernel_rfl) hb;have eI:=hid aD;by_cases oN:64<E.length
 ·have HF:Hid (∀w',Below w.heap.size w w'→qy5 E ms w (.returned (.tuple #[.slice none 0 0,.int .i64 5])) w'):=hid fun w' hb=>by
   unfold qy5;rw[if_pos oN];exact⟨rfl,hb⟩
  have Kz:64<es.size:=by omega
  clear aD gB hN tH hk hne;go_enter Tryz.func61,Tryz.ntmps61;go_wp2_with fail;go_ret2;exact HF.out _ eI.out
 ·have Kz:¬64<es.size:=by omega
  have HF:Hid (∀(W:World) (ss:List (List UInt8)) e w',ss.Perm (E.map fun e=>e.1.data.toList)→Below w.heap.size w W→qi5 shK ((qcf ss).map fun s=>qfa (qnu E ms s)) ((qcf ss).map fun s=>(s,qcw (qnu E ms s))) W e w'→qy5 E ms w e w'):=hid fun W ss e w' hp hb h=>by
   unfold qy5;rw[if_neg oN];exact⟨ss,hp,qy6 h hb⟩
  have uB:=hid (qvv (n:=w.heap.size+1+1) (by simp) fM.out hne (by omega) hk);have HKC:=hid (q2k r ((w.alloc (.cells #[.map (some r)] 116)).alloc (.cells #[.int .i64 ms] 3)))
  have On:Hid (∀W ss g c,Below ((w.alloc (.cells #[.map (some r)] 116)).alloc (.cells #[.int .i64 ms] 3)).heap.size ((w.alloc (.cells #[.map (some r)] 116)).alloc (.cells #[.int .i64 ms] 3)) W→ss.Perm (E.map fun e=>e.1.data.toList)→qqn W g 0 (qcf ss)→Calls Tryz.prog 104 #[.slice (some ⟨g,0,none⟩) (qcf ss).length c,.func (.func 107) #[] #[.pointer (some ⟨w.heap.size,0,none⟩),.pointer (some ⟨w.heap.size+1,0,none⟩)]] W (qi5 shK ((qcf ss).map fun s=>qfa (qnu E ms s)) ((qcf ss).map fun s=>(s,qcw (qnu E ms s))) W)):=hid fun W ss g c hW hp hs=>
   q5f _ _ r E ms _ g 0 c W hs (by have:=hp.length_eq;rw[List.length_map] at this;unfold qcf;rw[List.length_map,List.length_mergeSort];omega) (Uv.out.later hW) (fM.out.later hW) h1 h2 tH
  clear aD gB hN tH hk hne;go_enter Tryz.func61,Tryz.ntmps61;go_wp2_with fail;refine HKC.out.mono ?_;rintro e w3 ⟨rfl,rfl⟩;go_wp2_with fail;refine uB.out.mono ?_;rintro e w4 ⟨ss,g,c,hp,rfl,hs,hb⟩;have HEC:=hid (On.out w4 ss g c hb hp hs);have Sh:=hid (fun e w' h=>HF.out w4 ss e w' hp (eI.out.trans (hb.mono eI.out.size)) h);clear hp hs hb On uB HKC HF;go_wp2_with fail;refine HEC.out.mono ?_;rintro e w5 h;have HR:=hid (Sh.out _ _ h);obtain⟨p,n,c',z,rfl⟩:=qy7 h;clear h Sh HEC;go_wp2_with fail;go_ret2;exact HR.out
end Go.Proofs.YtclimablgihlhaaGreatDoor
