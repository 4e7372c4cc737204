/- The map of the masses of lots. -/
import Derived.Test.YtmcfcpgglfimjaaGreatDoorMShare
import Derived.Test.YtmcfcpgglfimjaaGreatDoorMEachLayer
import Derived.Test.YtmcfcpgglfimjaaGreatDoorMMean
import Derived.Carry
import Derived.Test.YtmcfcpgglfimjaaGreatDoorIter
set_option linter.all false
namespace Go.Proofs.YtmcfcpgglfimjaaGreatDoor
open Go.RowKit
set_option maxRecDepth 100000
set_option maxHeartbeats 8000000
abbrev Ent:=List (BA × NV × Rat)
def qir(W:World)(r:Nat)(E:Ent):Prop:=qo9 W r (E.map fun e=>(e.1,.agg #[.bool e.2.1.b,.slice e.2.1.p e.2.1.k e.2.1.c,.slice e.2.1.q e.2.1.j e.2.1.d]))∧∀e ∈ E,qaw W (.agg #[.bool e.2.1.b,.slice e.2.1.p e.2.1.k e.2.1.c,.slice e.2.1.q e.2.1.j e.2.1.d]) e.2.2
def qj7(E:Ent):List (BA × Rat):=E.map fun e=>(e.1,e.2.2)
def q7d:NV:=⟨false,none,0,0,none,0,0⟩
def qis(E:Ent)(k:BA):NV:=((E.find? fun e=>k==e.1).map (·.2.1)).getD q7d
def qkv(E:Ent)(k:BA):Rat:=((E.find? fun e=>k==e.1).map (·.2.2)).getD 0
def q4s(E:Ent)(k:BA)(z:NV)(d:Rat):Ent:=
 if E.any (fun e=>k==e.1) then E.map (fun e=>if k==e.1 then(e.1,z,qkv E k+d) else e) else E++[(k,z,qkv E k+d)]
def qr9(D:List (BA × Rat))(k:BA)(d:Rat):List (BA × Rat):=
 if D.any (fun p=>k==p.1) then D.map (fun p=>if k==p.1 then(p.1,p.2+d) else p) else D++[(k,0+d)]
theorem qir.later{W W':World}{r:Nat}{E:Ent}(h:qir W r E)(hb:Below W.heap.size W W'):qir W' r E:=⟨h.1.later hb,fun e he=>(h.2 e he).later hb⟩
theorem qo9.nodup{W:World}{r:Nat}{D:List (BA × Value)}(h:qo9 W r D):(D.map (·.1)).Nodup:=by
 obtain⟨es,clock,_,h2,h3⟩:=h
 have e:es.toList.map (·.key)=(D.map (·.1)).map Value.string:=by
  have:=congrArg (List.map Prod.fst) h2;rw[List.map_map,List.map_map] at this;rw[List.map_map];exact this
 have De:=h3.2.2;rw[e] at De;exact(List.pairwise_map.1 De).imp (fun hne he=>hne (congrArg Value.string he))
theorem qzx{E:Ent}(h:(E.map (·.1)).Nodup){e f:BA × NV × Rat}(he:e ∈ E)(hf:f ∈ E)(hk:e.1=f.1):e=f:=by
 induction E with
 | nil=>cases he
 | cons a E ih=>
  rw[List.map_cons,List.nodup_cons] at h;rcases List.mem_cons.1 he with rfl|he'
  ·rcases List.mem_cons.1 hf with rfl|hf'
   ·rfl
   ·exact absurd (hk▸List.mem_map_of_mem (f:=(·.1)) hf') h.1
  ·rcases List.mem_cons.1 hf with rfl|hf'
   ·exact absurd (hk▸List.mem_map_of_mem (f:=(·.1)) he') h.1
   ·exact ih h.2 he' hf'
theorem qn2{E:Ent}{k:BA}:(E.find? fun e=>k==e.1)=none∧E.any (fun e=>k==e.1)=false∨∃e,(E.find? fun e=>k==e.1)=some e∧e ∈ E∧e.1=k∧E.any (fun e=>k==e.1)=true:=by
 cases h:E.find? fun e=>k==e.1 with
 | none=>
  left
  refine⟨rfl, ?_⟩;rw[List.any_eq_false];intro e he;have:=List.find?_eq_none.1 h e he;exact this
 | some e=>
  right
  refine⟨e,rfl,List.mem_of_find?_eq_some h, ?_, ?_⟩
  ·exact((qbw _ _).1 (List.find?_some (p:=fun e:BA × NV × Rat=>k==e.1) h)).symm
  ·rw[List.any_eq_true]
   exact⟨e,List.mem_of_find?_eq_some h,List.find?_some (p:=fun e:BA × NV × Rat=>k==e.1) h⟩
theorem qir.nodup{W:World}{r:Nat}{E:Ent}(h:qir W r E):(E.map (·.1)).Nodup:=by
 have:=h.1.nodup;rw[List.map_map] at this;exact this
theorem qj3{E:Ent}{k:BA}{e:BA × NV × Rat}(h:(E.find? fun e=>k==e.1)=some e):qkv E k=e.2.2∧qis E k=e.2.1:=by
 unfold qkv qis;rw[h];exact⟨rfl,rfl⟩
theorem qj4{E:Ent}{k:BA}(h:(E.find? fun e=>k==e.1)=none):qkv E k=0∧qis E k=q7d:=by
 unfold qkv qis;rw[h];exact⟨rfl,rfl⟩
theorem qt4(E:Ent)(k:BA):qlk (E.map fun e=>(e.1,Value.agg #[.bool e.2.1.b,.slice e.2.1.p e.2.1.k e.2.1.c,.slice e.2.1.q e.2.1.j e.2.1.d])) k=(E.find? fun e=>k==e.1).map fun e=>Value.agg #[.bool e.2.1.b,.slice e.2.1.p e.2.1.k e.2.1.c,.slice e.2.1.q e.2.1.j e.2.1.d]:=by
 unfold qlk;rw[List.find?_map,Option.map_map];rfl
theorem qhp{W:World}{r:Nat}{E:Ent}(h:qir W r E)(k:BA):
  (Instr.lookup 71 (.map (some r)) (.string k) false).run Tryz.prog W = .ok (.agg #[.bool (qis E k).b,.slice (qis E k).p (qis E k).k (qis E k).c,.slice (qis E k).q (qis E k).j (qis E k).d]) W∧qaw W (.agg #[.bool (qis E k).b,.slice (qis E k).p (qis E k).k (qis E k).c,.slice (qis E k).q (qis E k).j (qis E k).d]) (qkv E k):=by
 rcases qn2 (E:=E) (k:=k) with⟨h1,_⟩|⟨e,h1,h2,h3,_⟩
 ·obtain⟨q1,q2⟩:=qj4 h1
  rw[q1,q2];refine⟨(qeb W 71 9 85 Tryz.underlying71 Tryz.underlying9 r _ h.1.smap k (.agg #[.bool false,.slice none 0 0,.slice none 0 0]) (by kernel_rfl) (by rw[qt4,h1];rfl)).2, ?_⟩;exact qmx W
 ·obtain⟨q1,q2⟩:=qj3 h1
  rw[q1,q2];exact⟨(qcs W 71 9 85 Tryz.underlying71 Tryz.underlying9 r _ h.1.smap k _ (by rw[qt4,h1];rfl)).2,h.2 e h2⟩
theorem q58(E:Ent)(k:BA)(z:NV)(d:Rat):q97 (E.map fun e=>(e.1,Value.agg #[.bool e.2.1.b,.slice e.2.1.p e.2.1.k e.2.1.c,.slice e.2.1.q e.2.1.j e.2.1.d])) k (.agg #[.bool z.b,.slice z.p z.k z.c,.slice z.q z.j z.d])=(q4s E k z d).map fun e=>(e.1,Value.agg #[.bool e.2.1.b,.slice e.2.1.p e.2.1.k e.2.1.c,.slice e.2.1.q e.2.1.j e.2.1.d]):=by
 have Jm:(E.map fun e=>(e.1,Value.agg #[.bool e.2.1.b,.slice e.2.1.p e.2.1.k e.2.1.c,.slice e.2.1.q e.2.1.j e.2.1.d])).any (fun p=>k==p.1)=E.any (fun e=>k==e.1):=by rw[List.any_map];rfl
 unfold q97 q4s;rw[Jm];by_cases h:E.any (fun e=>k==e.1)=true
 ·rw[if_pos h,if_pos h,List.map_map,List.map_map]
  refine List.map_congr_left fun e _ => ?_;show(if(k==e.1)=true then _ else _)=_;by_cases hk:(k==e.1)=true
  ·simp[hk]
  ·simp[hk]
 ·rw[if_neg h,if_neg h,List.map_append]
  rfl
theorem q3f{W:World}{r:Nat}{E:Ent}(h:qir W r E)(k:BA)(z:NV)(d:Rat):qj7 (q4s E k z d)=qr9 (qj7 E) k d:=by
 have Jm:(qj7 E).any (fun p=>k==p.1)=E.any (fun e=>k==e.1):=by unfold qj7;rw[List.any_map];rfl
 unfold qr9;rw[Jm];unfold qj7 q4s;rcases qn2 (E:=E) (k:=k) with⟨h1,h2⟩|⟨e,h1,h2,h3,h4⟩
 ·rw[if_neg (by rw[h2];decide),if_neg (by rw[h2];decide),List.map_append,(qj4 h1).1]
  rfl
 ·rw[if_pos h4,if_pos h4,List.map_map,List.map_map]
  refine List.map_congr_left fun f hf => ?_;show _=(if(k==f.1)=true then _ else _);by_cases hk:(k==f.1)=true
  ·have hfe:=qzx h.nodup hf h2 (by rw[h3];exact((qbw _ _).1 hk).symm)
   subst hfe;simp[hk,(qj3 h1).1]
  ·simp[hk]
theorem qni{W:World}{r b o:Nat}{D:List (BA × Value)}{v:Value}(h:qo9 W r D)(hc:W.cell? ⟨b,o,none⟩=some v):b≠r:=by
 rintro rfl;obtain⟨es,clock,h1,_⟩:=h;simp[World.cell?,h1] at hc
theorem qo9.cell{W W':World}{r b o:Nat}{D:List (BA × Value)}{v:Value}(h:qo9 W r D)(mQ:Chg r r W W')(hc:W.cell? ⟨b,o,none⟩=some v):W'.cell? ⟨b,o,none⟩=some v:=
 mQ.cell hc (qni h hc) (qni h hc)
theorem qo9.nat{W W':World}{r:Nat}{D:List (BA × Value)}{v:Value}{n:Nat}(h:qo9 W r D)(mQ:Chg r r W W')(hn:qa2 W v n):qa2 W' v n:=by
 obtain⟨h1,q,c,h2,h3,h4,h5⟩:=hn;refine⟨h1,q,c,h2,h3,h4, ?_⟩;rcases h5 with h5|⟨b,o,h6,h7⟩
 ·exact .inl h5
 ·exact .inr ⟨b,o,h6,fun i hi=>h.cell mQ (h7 i hi)⟩
theorem qo9.num{W W':World}{r:Nat}{D:List (BA × Value)}{v:Value}{q:Rat}(h:qo9 W r D)(mQ:Chg r r W W')(hn:qaw W v q):qaw W' v q:=by
 obtain⟨t,b,e,h1,h2⟩:=hn;exact⟨t,b,e,h.nat mQ h1,h.nat mQ h2⟩
theorem q59{W:World}{r:Nat}{E:Ent}(h:qir W r E)(k:BA)(z:NV)(d:Rat)(hz:qaw W (.agg #[.bool z.b,.slice z.p z.k z.c,.slice z.q z.j z.d]) (qkv E k+d)):
  ∃w',(Instr.mapUpdate 71 (.map (some r)) (.string k) (.agg #[.bool z.b,.slice z.p z.k z.c,.slice z.q z.j z.d])).run Tryz.prog W = .ok () w'∧qir w' r (q4s E k z d)∧Chg r r W w'∧w'.heap.size=W.heap.size:=by
 obtain⟨w',h1,h2,h3,h4,h5⟩:=q53 (P:=Tryz.prog) W 71 9 85 Tryz.underlying71 Tryz.underlying9 r _ h.1 k (.agg #[.bool z.b,.slice z.p z.k z.c,.slice z.q z.j z.d]);have mQ:Chg r r W w':=⟨by rw[Nat.min_self];exact h3,fun j _ hj _=>h5 j hj⟩;refine⟨w',h1,⟨by rw[←q58 E k z d];exact h2,fun e he => ?_⟩,mQ,h4⟩;unfold q4s at he;split at he
 ·rw[List.mem_map] at he
  obtain⟨f,hf,rfl⟩:=he;split
  ·exact h.1.num mQ hz
  ·exact h.1.num mQ (h.2 f hf)
 ·rw[List.mem_append,List.mem_singleton] at he
  rcases he with he|rfl
  ·exact h.1.num mQ (h.2 e he)
  ·exact h.1.num mQ hz
theorem q8s{E:Ent}{k:BA}{z:NV}{d:Rat}{m n:Nat}(h:∀e ∈ E,bd e.2.2 m)(hm:1≤m)(hd:bd d n):∀e ∈ q4s E k z d,bd e.2.2 (m+n+1):=by
 have hl:bd (qkv E k) m:=by
  rcases qn2 (E:=E) (k:=k) with⟨h1,_⟩|⟨e,h1,h2,_⟩
  ·rw[(qj4 h1).1];exact qjb _ hm
  ·rw[(qj3 h1).1];exact h e h2
 intro e he;unfold q4s at he;split at he
 ·rw[List.mem_map] at he
  obtain⟨f,hf,rfl⟩:=he;split
  ·exact qne hl hd
  ·exact(h f hf).mono (by omega)
 ·rw[List.mem_append,List.mem_singleton] at he
  rcases he with he|rfl
  ·exact(h e he).mono (by omega)
  ·exact qne hl hd
def qe9(m:Int)(D:List (BA × Rat))(ss:List (BA × BA)):List (BA × Rat):=ss.foldl (fun D s=>qr9 D s.1 (qbk s*((m:Int):Rat))) D
def qcu(ls:List Lay):List (BA × Rat):=ls.foldl (fun D x=>qe9 x.mass D x.shares) []
theorem qt5(m:Int)(D:List (BA × Rat))(ss:List (BA × BA))(s:BA × BA):qe9 m D (ss++[s])=qr9 (qe9 m D ss) s.1 (qbk s*((m:Int):Rat)):=by unfold qe9;rw[List.foldl_append];rfl
theorem qj5(ls:List Lay)(x:Lay):qcu (ls++[x])=qe9 x.mass (qcu ls) x.shares:=by unfold qcu;rw[List.foldl_append];rfl
theorem qbq{x:Lay}(h:qbc x=0):0<x.mass∧x.mass≤999999999∧1≤x.shares.length∧x.shares.length≤64∧∀s ∈ x.shares,qah s.2.data.toList=0:=by
 unfold qbc at h;split at h
 ·cases h
 ·split at h
  ·cases h
  ·unfold qbd at h
   split at h
   ·cases h
   ·split at h
    ·cases h
    ·split at h
     ·rename_i h1;exact absurd h h1
     ·refine⟨by omega,by omega,by omega,by omega,fun s hs => ?_⟩
      have hz:qai (qay ⟨#[]⟩ x.shares)=0:=by omega
      clear h
      have key:∀(l:List (BA × BA)) b,qai (qay b l)=0→∀s ∈ l,qah s.2.data.toList=0:=by
       intro l
       induction l with
       | nil=>intro b _ s hs;cases hs
       | cons a l ih=>
        intro b hf s hs;have h1:(if qak b a=0 then qai (qay a.1 l) else qak b a)=0:=hf;by_cases ha:qak b a=0
        ·rw[if_pos ha] at h1
         rcases List.mem_cons.1 hs with rfl|hs
         ·exact qg7 ha
         ·exact ih _ h1 s hs
        ·rw[if_neg ha] at h1;exact absurd h1 ha
      exact key _ _ hz s hs
def qpf(s:BA × BA)(ms:Int)(nn gs gl gp g k j:Nat)(y:NV)(W:World):Prop:=W.cell? ⟨gs,0,none⟩=some (.string s.1)∧W.cell? ⟨gl,1,none⟩=some (.int .i64 ms)∧W.cell? ⟨gp,k,none⟩=some (.slice (some ⟨g,0,none⟩) nn nn)∧W.cell? ⟨g,j*3,none⟩=some (.bool y.b)∧W.cell? ⟨g,j*3+1,none⟩=some (.slice y.p y.k y.c)∧W.cell? ⟨g,j*3+2,none⟩=some (.slice y.q y.j y.d)
theorem qpf.later{s:BA × BA}{ms:Int}{nn gs gl gp g k j:Nat}{y:NV}{W W':World}(h:qpf s ms nn gs gl gp g k j y W)(hb:Below W.heap.size W W'):qpf s ms nn gs gl gp g k j y W':=by
 obtain⟨h0,h1,h2,h3,h4,h5⟩:=h;refine⟨?_, ?_, ?_, ?_, ?_, ?_⟩
 ·rw[hb.cell (qaf W _ h0)];exact h0
 ·rw[hb.cell (qaf W _ h1)];exact h1
 ·rw[hb.cell (qaf W _ h2)];exact h2
 ·rw[hb.cell (qaf W _ h3)];exact h3
 ·rw[hb.cell (qaf W _ h4)];exact h4
 ·rw[hb.cell (qaf W _ h5)];exact h5
theorem qpf.keep{s:BA × BA}{ms:Int}{nn gs gl gp g k j r:Nat}{y:NV}{W W':World}{D:List (BA × Value)}(h:qpf s ms nn gs gl gp g k j y W)(hm:qo9 W r D)(hc:Chg r r W W'):qpf s ms nn gs gl gp g k j y W':=by
 obtain⟨h0,h1,h2,h3,h4,h5⟩:=h;exact⟨hm.cell hc h0,hm.cell hc h1,hm.cell hc h2,hm.cell hc h3,hm.cell hc h4,hm.cell hc h5⟩
theorem qxu{E:Ent}{k:BA}{m:Nat}(h:∀e ∈ E,bd e.2.2 m)(hm:1≤m):bd (qkv E k) m:=by
 rcases qn2 (E:=E) (k:=k) with⟨h1,_⟩|⟨e,h1,h2,_⟩
 ·rw[(qj4 h1).1];exact qjb _ hm
 ·rw[(qj3 h1).1];exact h e h2
theorem qt6(l:List Lay)(b o c gp:Nat)(w:World)(aB:qec w b o l)(hl:l.length≤64)(cV:∀x ∈ l,qbc x=0)(hr:qdk q4r w gp l.length (l.map qqy)):
  Calls Tryz.prog 31 #[.slice (some ⟨b,o,none⟩) l.length c,.slice (some ⟨gp,0,none⟩) l.length l.length] w fun e w'=>(∃E,e = .returned (.map (some w.heap.size))∧qir w' w.heap.size E∧qj7 E=qcu l∧∀e ∈ E,bd e.2.2 (602*64*64+1))∧Below w.heap.size w w':=by
 have hmm:=@run_makeMap Tryz.prog;have bP:=hid aB;have Lf:=hid cV;have HR:=hid hr;have wQ:=hid (q2v w);have dU:Hid (Below w.heap.size w (w.alloc (.map #[] 0))):=hid (qad _ _);clear aB cV hr;go_enter Tryz.func31,Tryz.ntmps31;go_wp2_with fail;clear hmm;generalize w.alloc (.map #[] 0)=w0 at *
 go_loopw [13] (fun i wr=>∃k:Nat,k≤l.length∧i = .int .i64 k∧∃E:Ent,Hid (qir wr w.heap.size E)∧Hid (qj7 E=qcu (l.take k))∧Hid (∀e ∈ E,bd e.2.2 (602*64*k+1))∧Hid (Below w.heap.size w wr)) (fun i _=>l.length-(intOf i).toNat)
 case atStart=>exact⟨0,Nat.zero_le _,rfl,[],hid ⟨wQ.out,by intro e he;cases he⟩,hid rfl,hid (by intro e he;cases he),dU⟩
 case round=>
  obtain⟨k,hk,rfl,E0,HN,HD,fB,HB⟩:=hrel;clear wQ dU;by_cases cQ:k<l.length
  ·obtain⟨x,cI⟩:∃x,l[k]? = some x:=⟨l[k],qat cQ⟩
   obtain⟨e0,e1,p,cc,e2,hv⟩:=bP.out k x cI;obtain⟨mC,fD,hG,dL,Cf⟩:=qbq (Lf.out x (qbj cI));have fA:wr.cell? ⟨b,o+k*3,none⟩=some (.string x.grain):=by rw[HB.out.cell (qaf w _ e0)];exact e0
   have bO:wr.cell? ⟨b,o+k*3+1,none⟩=some (.int .i64 x.mass):=by rw[HB.out.cell (qaf w _ e1)];exact e1
   have bJ:wr.cell? ⟨b,o+k*3+2,none⟩=some (.slice p x.shares.length cc):=by rw[HB.out.cell (qaf w _ e2)];exact e2
   have aD:Below wr.heap.size wr (wr.alloc (.cells #[.string x.grain,.int .i64 x.mass,.slice p x.shares.length cc] 28)):=qad _ _;have ho:=qdr wr 28 (.string x.grain) (.int .i64 x.mass) (.slice p x.shares.length cc);obtain⟨a1,_⟩:=ho.2 1 (by omega);obtain⟨a2,_⟩:=ho.2 2 (by omega);simp only[qfv,if_pos,Nat.one_ne_zero] at a1 a2;obtain⟨p',cc',Ga,_,_,aA⟩:=hv;obtain⟨bs,os,rfl,Fk⟩:=aA.resolve_left (by omega);cases Ga
   obtain⟨cs,⟨g,rfl,Fl⟩,fL⟩:=HR.out.get k (qqy x) (by rw[List.getElem?_map,cI];rfl);have Oy:=fL 0 _ rfl;simp only[q4r,Nat.mul_one,Nat.add_zero] at Oy;have jU:(qqy x).length=x.shares.length:=by unfold qqy;rw[List.length_map]
   have fO:=hid Fk;have Rl:=hid Fl;have HP0:=hid Oy;have qC:=hid Cf;have gV:Hid (qcu (l.take (k+1))=qe9 x.mass (qcu (l.take k)) x.shares):=hid (by rw[qbp cI,qj5]);have dI:=hid (HN.out.later aD);have aP:=hid (HB.out.trans (aD.mono HB.out.size));have HGL:Hid (w.heap.size<wr.heap.size):=hid HN.out.1.lt;have eM:=hid a1;have HLQ:Hid (qqy x=x.shares.map qbk):=hid rfl;clear e0 e1 e2 cI aD ho aA fL Oy Fl Fk HN HB Cf a1;generalize qqy x=qs at *;generalize fM:x.shares=ss at *;generalize lH:x.mass=ms at *;generalize hnn:qs.length=nn at *;have bm:=qls ms (by omega) fD;go_wp2_with fail;clear a2 fA bO bJ;generalize wr.alloc (.cells #[.string x.grain,.int .i64 ms,.slice (some ⟨bs,os,none⟩) ss.length cc] 28)=w1 at *;generalize hgl:wr.heap.size=gl at *
   go_loopw [21] (fun i wi=>∃j:Nat,j≤ss.length∧i = .int .i64 j∧∃E:Ent,Hid (qir wi w.heap.size E)∧Hid (qj7 E=qe9 ms (qcu (l.take k)) (ss.take j))∧Hid (∀e ∈ E,bd e.2.2 (602*64*k+1+602*j))∧Hid (Below w.heap.size w wi)∧Hid (wi.cell? ⟨gl,1,none⟩=some (.int .i64 ms))) (fun i _=>ss.length-(intOf i).toNat)
   case atStart=>exact⟨0,Nat.zero_le _,rfl,E0,dI,HD,fB,aP,eM⟩
   case round=>
    obtain⟨j,hj,rfl,E,tW,Pz,nL,bU,jR⟩:=hrel;clear dI aP eM HD fB;by_cases xF:j<ss.length
    ·obtain⟨s,hs⟩:∃s,ss[j]? = some s:=⟨ss[j],qat xF⟩
     obtain⟨f0,f1⟩:=fO.out j s hs;have c0:wr.cell? ⟨bs,os+j*2,none⟩=some (.string s.1):=by rw[bU.out.cell (qaf w _ f0)];exact f0
     have c1:wr.cell? ⟨bs,os+j*2+1,none⟩=some (.string s.2):=by rw[bU.out.cell (qaf w _ f1)];exact f1
     have aD:Below wr.heap.size wr (wr.alloc (.cells #[.string s.1,.string s.2] 32)):=qad _ _;have rA:=bU.out.trans (aD.mono bU.out.size);obtain⟨x0,x1⟩:=qap (qd2 wr 32 (.string s.1) (.string s.2));obtain⟨y,⟨n0,n1,n2⟩,hy⟩:=(Rl.out.later rA).nv j (qbk s) (by rw[HLQ.out,List.getElem?_map,hs];rfl);rw[Nat.zero_add] at n0 n1 n2
     have xH:(wr.alloc (.cells #[.string s.1,.string s.2] 32)).cell? ⟨gp,k,none⟩=some (.slice (some ⟨g,0,none⟩) nn nn):=by
      rw[rA.cell (p:=⟨gp,k,none⟩) (qaf w _ HP0.out)];exact HP0.out
     have hlc:(wr.alloc (.cells #[.string s.1,.string s.2] 32)).cell? ⟨gl,1,none⟩=some (.int .i64 ms):=by
      rw[aD.cell (p:=⟨gl,1,none⟩) (qaf wr _ jR.out)];exact jR.out
     have bq:=qin (qC.out s (qbj hs));have bq':bd (qbk s) 600:=bq;have vI:=hid (qd4 (qet ms (wr.alloc (.cells #[.string s.1,.string s.2] 32)).drew (by omega) (by omega)));have Rm:=hid (tW.out.later (aD.trans ((qaa _ _).drew)));have kS:Hid (qpf s ms nn wr.heap.size gl gp g k j y (wr.alloc (.cells #[.string s.1,.string s.2] 32)).drew):=hid ⟨x0,hlc,xH,n0,n1,n2⟩;have HY:=hid (hy.later ((qaa _ _).drew));have rF:=hid (rA.trans (((qaa _ _).drew).mono rA.size));have HTJ:Hid (qe9 ms (qcu (l.take k)) (ss.take (j+1))=qr9 (qe9 ms (qcu (l.take k)) (ss.take j)) s.1 (qbk s*((ms:Int):Rat))):=hid (by rw[qbp hs,qt5]);have kN:j<nn:=by rw[jU];exact xF
     clear f0 f1 aD rA x1 xH hlc bq hs hy tW bU jR;generalize qbk s=q at *;generalize Cj:wr.heap.size=gs at *;go_wp2_with fail
     try rw[Cj]
     clear c0 c1;generalize (wr.alloc (.cells #[.string s.1,.string s.2] 32))=w2 at *;have e0:w2.drew.cell? ⟨gs,0,none⟩=some (.string s.1)∧w2.drew.cell? ⟨gl,1,none⟩=some (.int .i64 ms)∧w2.drew.cell? ⟨gp,k,none⟩=some (.slice (some ⟨g,0,none⟩) nn nn)∧w2.drew.cell? ⟨g,j*3,none⟩=some (.bool y.b)∧w2.drew.cell? ⟨g,j*3+1,none⟩=some (.slice y.p y.k y.c)∧w2.drew.cell? ⟨g,j*3+2,none⟩=some (.slice y.q y.j y.d):=kS.out;obtain⟨L0,Df⟩:=qhp Rm.out s.1;have bl:=(qxu (k:=s.1) nL.out (by omega)).rs;have bqm:=(qe0 bq' bm).rs;have bq1:=bq'.rs;have bm1:=bm.rs;have cM:Hid (rs (qkv E s.1)+rs (q*((ms:Int):Rat))+2≤Cap∧rs q+rs ((ms:Int):Rat)≤Cap):=hid (by unfold Cap;omega);clear bl bqm bq1 bm1 n0 n1 n2
     go_region_held3 (fun W=>W.cell? ⟨gs,0,none⟩=some (.string s.1)∧W.cell? ⟨gl,1,none⟩=some (.int .i64 ms)∧W.cell? ⟨gp,k,none⟩=some (.slice (some ⟨g,0,none⟩) nn nn)∧W.cell? ⟨g,j*3,none⟩=some (.bool y.b)∧W.cell? ⟨g,j*3+1,none⟩=some (.slice y.p y.k y.c)∧W.cell? ⟨g,j*3+2,none⟩=some (.slice y.q y.j y.d)) (first|with_reducible exact eA|with_reducible exact eB|with_reducible exact eC|with_reducible exact eD|exact e0)
      (first
       | (go_at_call 51;((with_reducible refine vI.out.mono ?_);rintro e wA ⟨⟨t1,rfl,hn⟩,hb⟩;have gE:=hid hn;have HYA:=hid (HY.out.later hb);have dE:=hid (rF.out.trans (hb.mono rF.out.size));have dN:=hid (Rm.out.later hb);have qO:=hid (kS.out.later hb);have eA:wA.cell? ⟨gs,0,none⟩=some (.string s.1)∧wA.cell? ⟨gl,1,none⟩=some (.int .i64 ms)∧wA.cell? ⟨gp,k,none⟩=some (.slice (some ⟨g,0,none⟩) nn nn)∧wA.cell? ⟨g,j*3,none⟩=some (.bool y.b)∧wA.cell? ⟨g,j*3+1,none⟩=some (.slice y.p y.k y.c)∧wA.cell? ⟨g,j*3+2,none⟩=some (.slice y.q y.j y.d):=qO.out;obtain⟨LA,HZA⟩:=qhp dN.out s.1;clear hn hb))
       | (go_at_call 53;((with_reducible refine(qd4 (qd5 _ _ _ _ wA HYA.out gE.out cM.out.2)).mono ?_);rintro e wB ⟨⟨t2,rfl,hn⟩,hb⟩;have cK:=hid hn;have aV:=hid (dE.out.trans (hb.mono dE.out.size));have jL:=hid (dN.out.later hb);have wK:=hid (qO.out.later hb);have eB:wB.cell? ⟨gs,0,none⟩=some (.string s.1)∧wB.cell? ⟨gl,1,none⟩=some (.int .i64 ms)∧wB.cell? ⟨gp,k,none⟩=some (.slice (some ⟨g,0,none⟩) nn nn)∧wB.cell? ⟨g,j*3,none⟩=some (.bool y.b)∧wB.cell? ⟨g,j*3+1,none⟩=some (.slice y.p y.k y.c)∧wB.cell? ⟨g,j*3+2,none⟩=some (.slice y.q y.j y.d):=wK.out;obtain⟨LB,HZB⟩:=qhp jL.out s.1;clear hn hb))
       | (go_at_call 72;((with_reducible refine(qd4 (qhy _ _ _ _ wB HZB cK.out cM.out.1)).mono ?_);rintro e wC ⟨⟨t3,rfl,hn⟩,hb⟩;have hJ:=hid (aV.out.trans (hb.mono aV.out.size));have Kj:=hid (jL.out.later hb);have Cy:=hid (wK.out.later hb);have eC:wC.cell? ⟨gs,0,none⟩=some (.string s.1)∧wC.cell? ⟨gl,1,none⟩=some (.int .i64 ms)∧wC.cell? ⟨gp,k,none⟩=some (.slice (some ⟨g,0,none⟩) nn nn)∧wC.cell? ⟨g,j*3,none⟩=some (.bool y.b)∧wC.cell? ⟨g,j*3+1,none⟩=some (.slice y.p y.k y.c)∧wC.cell? ⟨g,j*3+2,none⟩=some (.slice y.q y.j y.d):=Cy.out;obtain⟨LC,HZC⟩:=qhp Kj.out s.1;obtain⟨wD,hrunD,hND,hchD,hszD⟩:=q59 Kj.out s.1 t3 _ hn;have HND:=hid hND;have fB:=hid (hchD.1);have eD:wD.cell? ⟨gs,0,none⟩=some (.string s.1)∧wD.cell? ⟨gl,1,none⟩=some (.int .i64 ms)∧wD.cell? ⟨gp,k,none⟩=some (.slice (some ⟨g,0,none⟩) nn nn)∧wD.cell? ⟨g,j*3,none⟩=some (.bool y.b)∧wD.cell? ⟨g,j*3+1,none⟩=some (.slice y.p y.k y.c)∧wD.cell? ⟨g,j*3+2,none⟩=some (.slice y.q y.j y.d):=Cy.out.keep Kj.out.1 hchD;clear hn hb hchD hszD hND)))
     all_goals
      have kD:=hid (hJ.out.trans (fB.out.mono (by rw[Nat.min_self];exact qac _)));have HDF:Hid (qj7 (q4s E s.1 t3 (q*((ms:Int):Rat)))=qe9 ms (qcu (l.take k)) (ss.take (j+1))):=hid (by rw[q3f Kj.out,Pz.out,HTJ.out]);have HBEF:Hid (∀e ∈ q4s E s.1 t3 (q*((ms:Int):Rat)),bd e.2.2 (602*64*k+1+602*(j+1))):=hid (fun e he=>(q8s nL.out (by omega) (qe0 bq' bm) e he).mono (by omega));have HCF:Hid (wD.cell? ⟨gl,1,none⟩=some (.int .i64 ms)):=hid eD.2.1;go_wp2_with fail;go_roundw
      case rel=>exact⟨j+1,by omega,by go_num,_,HND,HDF,HBEF,kD,HCF⟩
      case measure=>simp[intOf];omega
    ·obtain rfl:j=ss.length:=by omega
     have hD:=Pz.out;rw[List.take_length,←gV.out] at hD;have mZ:=hid hD;have Jn:Hid (∀e ∈ E,bd e.2.2 (602*64*(k+1)+1)):=hid (fun e he=>(nL.out e he).mono (by omega));clear hD Pz nL;go_wp2_with fail;go_roundw
     case rel=>exact⟨k+1,by omega,by go_num,E,tW,mZ,Jn,bU⟩
     case measure=>simp[intOf];omega
  ·obtain rfl:k=l.length:=by omega
   have hD:=HD.out;rw[List.take_length] at hD;have mZ:=hid hD;have Jn:Hid (∀e ∈ E0,bd e.2.2 (602*64*64+1)):=hid (fun e he=>(fB.out e he).mono (by omega));clear hD HD fB;go_wp2_with fail;go_ret;exact⟨⟨E0,rfl,HN.out,mZ.out,Jn.out⟩,HB.out⟩
def MC(gb gm r:Nat)(ms:Int)(W:World):Prop:=W.cell? ⟨gb,0,none⟩=some (.map (some r))∧W.cell? ⟨gm,0,none⟩=some (.int .i64 ms)
theorem MC.later{gb gm r:Nat}{ms:Int}{W W':World}(h:MC gb gm r ms W)(hb:Below W.heap.size W W'):MC gb gm r ms W':=by
 obtain⟨h0,h1⟩:=h;refine⟨?_, ?_⟩
 ·rw[hb.cell (qaf W _ h0)];exact h0
 ·rw[hb.cell (qaf W _ h1)];exact h1
def qn3(E:Ent)(ms:Int)(k:BA):Rat:=qkv E k/((ms:Int):Rat)
theorem qzy(gb gm r:Nat)(E:Ent)(ms:Int)(k:BA)(w:World)(hc:MC gb gm r ms w)(hN:qir w r E)(h1:1≤ms)(h2:ms≤999999999)(rS:∀e ∈ E,bd e.2.2 (602*64*64+1)):
  Calls Tryz.prog 71 #[.string k,.pointer (some ⟨gb,0,none⟩),.pointer (some ⟨gm,0,none⟩)] w fun e w'=>e = .returned (.tuple #[.agg #[.string k,.string (qcz (qn3 E ms k))],.int .i64 (qgi (qn3 E ms k):Nat)])∧Below w.heap.size w w':=by
 have aD:Below w.heap.size w (w.alloc (.cells #[.string ⟨#[]⟩,.string ⟨#[]⟩] 32)):=qad _ _;have dK:=hid (aD.trans ((qaa w.heap.size _).drew));have HO:=hid ((qd2 w 32 (.string ⟨#[]⟩) (.string ⟨#[]⟩)).later ((qaa _ _).drew));have kS:=hid ((hc.later aD).later ((qaa _ _).drew));have gJ:=hid ((hN.later aD).later ((qaa _ _).drew));have bm:=qls ms (by omega) h2;have bl:=qxu (k:=k) rS (by omega)
 have cM:Hid (rs (qkv E k)+rs ((ms:Int):Rat)≤Cap∧rs (qn3 E ms k)≤Cap):=hid (by
  have a1:=bl.rs;have a2:=bm.rs;have a3:=(qnf bl bm).rs
  unfold qn3 Cap;omega)
 have Hm:Hid (((ms:Int):Rat).num≠0):=hid (by show ms≠0;omega);have vI:=hid (qd4 (qet ms (w.alloc (.cells #[.string ⟨#[]⟩,.string ⟨#[]⟩] 32)).drew (by omega) (by omega)));obtain⟨L0,Df⟩:=qhp gJ.out k;have e0:(w.alloc (.cells #[.string ⟨#[]⟩,.string ⟨#[]⟩] 32)).drew.cell? ⟨gb,0,none⟩=some (.map (some r))∧(w.alloc (.cells #[.string ⟨#[]⟩,.string ⟨#[]⟩] 32)).drew.cell? ⟨gm,0,none⟩=some (.int .i64 ms):=kS.out;clear aD hc hN bm bl rS;go_enter Tryz.func71,Tryz.ntmps71;go_wp2_with fail;generalize w.alloc (.cells #[.string ⟨#[]⟩,.string ⟨#[]⟩] 32)=w1 at *
 go_region_held3 (fun W=>W.cell? ⟨gb,0,none⟩=some (.map (some r))∧W.cell? ⟨gm,0,none⟩=some (.int .i64 ms)) (first|with_reducible exact eA|with_reducible exact eB|with_reducible exact eC|exact e0)
  (first
   | (go_at_call 51;((with_reducible refine vI.out.mono ?_);rintro e wA ⟨⟨t1,rfl,hn⟩,hb⟩;have gE:=hid hn;have dE:=hid (dK.out.trans (hb.mono dK.out.size));have dN:=hid (gJ.out.later hb);have Du:=hid (HO.out.later (hb.mono HO.out.1));have qO:=hid (kS.out.later hb);have eA:wA.cell? ⟨gb,0,none⟩=some (.map (some r))∧wA.cell? ⟨gm,0,none⟩=some (.int .i64 ms):=qO.out;obtain⟨LA,HZA⟩:=qhp dN.out k;clear hn hb))
   | (go_at_call 55;((with_reducible refine(qd4 (qfk _ _ _ _ wA HZA gE.out Hm.out cM.out.1)).mono ?_);rintro e wB ⟨⟨t2,rfl,hn⟩,hb⟩;have cK:Hid (qaw wB (.agg #[.bool t2.b,.slice t2.p t2.k t2.c,.slice t2.q t2.j t2.d]) (qn3 E ms k)):=hid hn;have aV:=hid (dE.out.trans (hb.mono dE.out.size));have uT:=hid (Du.out.later (hb.mono Du.out.1));have wK:=hid (qO.out.later hb);have eB:wB.cell? ⟨gb,0,none⟩=some (.map (some r))∧wB.cell? ⟨gm,0,none⟩=some (.int .i64 ms):=wK.out;clear hn hb))
   | (go_at_call 42;((with_reducible refine(qjc _ _ wB cK.out cM.out.2).mono ?_);rintro e wC h;obtain⟨rfl,hb⟩:=qmt h;have hJ:=hid (aV.out.trans (hb.mono aV.out.size));have rP:=hid (uT.out.later (hb.mono uT.out.1));have Cy:=hid (wK.out.later hb);have eC:wC.cell? ⟨gb,0,none⟩=some (.map (some r))∧wC.cell? ⟨gm,0,none⟩=some (.int .i64 ms):=Cy.out;obtain⟨⟨r0,g0'⟩,⟨r1,g1⟩⟩:=qia rP.out;clear hb h)))
 all_goals
  have kD:=hid (qho hJ.out (qac _) (.string k) (.string (qcz (qn3 E ms k))));go_wp2_with fail;refine bodyPost_ret (v := .tuple #[.agg #[.string k,.string (qcz (qn3 E ms k))],.int .i64 (qgi (qn3 E ms k):Nat)]) ?_ rfl ?_
  ·simp[results,Tryz.results71,go_sem,r0,r1]
  ·exact⟨rfl,kD.out⟩
def shK:qur (BA × BA) where
 ty:=32
 size:=2
 ok:=fun c=>∃s,c = .string s
 E:=fun _ cs x=>cs=[.string x.1,.string x.2]
theorem qpg:shK.Law where
 pos:=by show 0<2;omega
 cells:=by
  rintro W cs x rfl;refine⟨rfl,fun c hc => ?_⟩;simp only[List.mem_cons,List.not_mem_nil,or_false] at hc;rcases hc with rfl|rfl<;>exact⟨⟨_,rfl⟩,rfl⟩
 later:=by
  rintro W W' cs x rfl _;rfl
 set:=by
  rintro W g cur ty fr cs x cs' rfl _ _;rfl
def qq0(W:World)(b o:Nat)(l:List BA):Prop:=∀(j:Nat) (s:BA),l[j]? = some s→W.cell? ⟨b,o+j,none⟩=some (.string s)
theorem qq0.later{W W':World}{b o:Nat}{l:List BA}(h:qq0 W b o l)(hb:Below W.heap.size W W'):qq0 W' b o l:=fun j s hj=>by
 rw[hb.cell (qaf W _ (h j s hj))];exact h j s hj
theorem q6a(n:Nat)(hn:n≤1048576)(w:World):
  (Instr.makeSlice 26 (.int .i64 0) (.int .i64 (n:Int))).run Tryz.prog w = .ok (.slice (some ⟨w.heap.size,0,none⟩) 0 n) (w.alloc (.cells (madeCells #[.string ⟨#[]⟩,.string ⟨#[]⟩] (n*2)) 32)):=by
 obtain⟨i0,hi,cP,dV,eF⟩:=info_parts (show(Tryz.prog.info? 32).map (fun i=>(i.zero,i.size,i.bytes))=some (some (.agg #[.string ⟨#[]⟩,.string ⟨#[]⟩]),2,32) by kernel_rfl);have h:=run_make (P:=Tryz.prog) w 26 32 i0 _ Tryz.underlying26 hi cP .i64 .i64 0 (n:Int) (Int.le_refl _) (by omega) (by rw[eF];omega) (by omega);rw[dV] at h
 simpa [Value.cells] using h
theorem q6b(gb gm r:Nat)(E:Ent)(ms:Int)(l:List BA)(b o c:Nat)(w:World)(aB:qq0 w b o l)(hl:l.length≤64)(hmc:MC gb gm r ms w)(hN:qir w r E)(h1:1≤ms)(h2:ms≤999999999)(rS:∀e ∈ E,bd e.2.2 (602*64*64+1)):
  Calls Tryz.prog 68 #[.slice (some ⟨b,o,none⟩) l.length c,.func (.func 71) #[] #[.pointer (some ⟨gb,0,none⟩),.pointer (some ⟨gm,0,none⟩)]] w
   (qji shK (l.map fun s=>qgi (qn3 E ms s)) (l.map fun s=>(s,qcz (qn3 E ms s))) w):=by
 have bP:=hid aB;have jR:Hid (∀W s,Below w.heap.size w W→Calls Tryz.prog 71 #[.string s,.pointer (some ⟨gb,0,none⟩),.pointer (some ⟨gm,0,none⟩)] W fun e w'=>e = .returned (.tuple #[.agg #[.string s,.string (qcz (qn3 E ms s))],.int .i64 (qgi (qn3 E ms s):Nat)])∧Below W.heap.size W w'):=hid fun W s hW=>qzy gb gm r E ms s W (hmc.later hW) (hN.later hW) h1 h2 rS;have kX:=q6a l.length (by omega);obtain⟨i0,hi,cP,dV,eF⟩:=info_parts (show(Tryz.prog.info? 32).map (fun i=>(i.zero,i.size,i.bytes))=some (some (.agg #[.string ⟨#[]⟩,.string ⟨#[]⟩]),2,32) by kernel_rfl);have HI:=hid hi;clear aB hi cP eF hmc hN rS
 have gJ:=hid (qkt qpg w l.length (l.length*2) #[.string ⟨#[]⟩,.string ⟨#[]⟩] rfl rfl (by
  intro c hc;simp only[List.mem_cons,List.not_mem_nil,or_false] at hc
  rcases hc with rfl|rfl<;>exact⟨_,rfl⟩))
 have dU:Hid (Below w.heap.size w (w.alloc (.cells (madeCells #[.string ⟨#[]⟩,.string ⟨#[]⟩] (l.length*2)) 32))):=hid (qad _ _);obtain⟨ef,hef⟩:∃ef:BA→Nat,ef=fun s=>qgi (qn3 E ms s):=⟨_,rfl⟩;obtain⟨tf,htf⟩:∃tf:BA→BA,tf=fun s=>qcz (qn3 E ms s):=⟨_,rfl⟩;have e1:∀s,qcz (qn3 E ms s)=tf s:=fun s=>by rw[htf]
 have e2:∀s,qgi (qn3 E ms s)=ef s:=fun s=>by rw[hef]
 simp only[e1,e2] at jR ⊢;clear e1 e2 hef htf;obtain⟨pf,hpf⟩:∃pf:BA→BA × BA,pf=fun s=>(s,tf s):=⟨_,rfl⟩;have HPF:Hid (∀s,pf s=(s,tf s)):=hid fun s=>by rw[hpf]
 rw[show(l.map fun s=>(s,tf s))=l.map pf from by rw[hpf],show(l.map fun s=>ef s)=l.map ef from rfl];clear hpf;go_enter Tryz.func68,Tryz.ntmps68;go_wp2_with fail;clear kX
 replace gJ:Hid (qdk shK (w.alloc (.cells (madeCells #[.string ⟨#[]⟩,.string ⟨#[]⟩] (l.length*2)) 32)) w.heap.size l.length []):=gJ
 generalize w.alloc (.cells (madeCells #[.string ⟨#[]⟩,.string ⟨#[]⟩] (l.length*2)) 32)=w0 at *
 go_loopw [6,16] (fun r i wr=>∃k:Nat,k≤l.length∧i = .int .i64 k∧r = .slice (some ⟨w.heap.size,0,none⟩) k l.length∧Hid (qdk shK wr w.heap.size l.length ((l.take k).map pf))∧Hid (qai ((l.take k).map ef)=0)∧Hid (Below w.heap.size w wr)) (fun _ i _=>l.length-(intOf i).toNat)
 case atStart=>exact⟨0,Nat.zero_le _,rfl,rfl,gJ,hid rfl,dU⟩
 case round=>
  obtain⟨k,hk,rfl,rfl,HN,HE,HB⟩:=hrel;clear gJ dU;by_cases cQ:k<l.length
  ·obtain⟨s,cI⟩:∃s,l[k]? = some s:=⟨l[k],qat cQ⟩
   have e0:=bP.out k s cI;have fA:wr.cell? ⟨b,o+k,none⟩=some (.string s):=by rw[HB.out.cell (qaf w _ e0)];exact e0
   have cH:=hid (jR.out wr s HB.out);have oE:=hid cI;clear e0 cI;by_cases hc:ef s=0
   ·have gB:=hid (qhl ef oE.out HE.out hc)
    rw[hc] at cH
    have jU:((l.take k).map pf)++[(s,tf s)]=(l.take (k+1)).map pf:=by
     rw[qbp oE.out,List.map_append,←HPF.out];rfl
    have vJ:=hid jU;have gT:((l.take k).map pf).length=k:=by rw[List.length_map,List.length_take];omega
    have dI:=HN;have aP:=HB;clear HE hc jU HN HB;generalize tf s=q at *;generalize ((l.take k).map pf)=qs at *;go_wp2_with fail;refine cH.out.mono ?_;rintro e w1 ⟨rfl,hb⟩;have aD:Below w1.heap.size w1 (w1.alloc (.cells #[.string s,.string q] 32)):=qad _ _;have fX:=hid ((dI.out.later qpg hb).later qpg aD);have aV:=hid (aP.out.trans (hb.mono aP.out.size));have kB:w.heap.size≤w1.heap.size:=aV.out.size;have aK:=hid (aV.out.trans (aD.mono kB));obtain⟨y0,y1⟩:=qap (qd2 w1 32 (.string s) (.string q));have bL:Below (w1.alloc (.cells #[.string s,.string q] 32)).heap.size (w1.alloc (.cells #[.string s,.string q] 32)) ((w1.alloc (.cells #[.string s,.string q] 32)).alloc (.cells #[.string s,.string q] 32)):=qad _ _;obtain⟨cur,dX,bM,bZ,bI⟩:=(fX.out.later qpg bL).push qpg (cs:=[.string s,.string q]) (x:=(s,q)) (by rw[gT];exact cQ) rfl;have iD:=heap_alloc_new (w1.alloc (.cells #[.string s,.string q] 32)) (.cells #[.string s,.string q] 32);rw[qab] at iD;rw[gT] at bM bZ bI;simp only[List.append_assoc,List.cons_append,List.nil_append,shK,List.length_cons,List.length_nil,Nat.zero_add,Nat.reduceAdd] at bZ bI bM dX;have bV:Hid (qdk shK _ _ _ _):=hid bZ;have aG:=hid (aK.out.trans ((bL.mono (by rw[qab];omega)).trans (bI w.heap.size (qac _))));have kE:=hid dX;have jL:=hid iD;have dF:=hid bM;clear aD bL kB dX bM bZ bI iD dI aP fX aK gT hb aV fA cH;go_wp2_with (at_builtin;refine qbu _ rfl _ _ 26 rfl 32 i0 2 Tryz.underlying26 HI.out dV w.heap.size k l.length cur rfl kE.out ⟨w1.heap.size+1,0,none⟩ 1 1 [.string s,.string q] rfl rfl (World.news_of_block jL.out) ?lQ (by omega) dF.out ?_)
    case lQ=>
     intro u hu;simp only[List.mem_cons,List.not_mem_nil,or_false] at hu;rcases hu with rfl|rfl<;>rfl
    clear y0 y1;go_wp2_with fail;go_roundw
    case rel=>exact⟨k+1,cQ,by go_num,rfl,hid (by rw[←vJ.out];exact bV.out),gB,aG⟩
    case measure=>simp[intOf];omega
   ·have HF:=hid (qjg ef oE.out HE.out hc)
    clear HE;generalize ef s=ck at *;generalize tf s=q at *;have nE:((ck:Int)==0)=false:=qan (by omega);have eY:=hid hc;clear hc;go_wp2_with fail;refine cH.out.mono ?_;rintro e w1 ⟨rfl,hb⟩;have h1:=HB.out.trans (hb.mono HB.out.size);have aP:=hid (h1.trans ((qaa w.heap.size w1).alloc h1.size (.cells #[.string s,.string q] 32)));clear hb HB cH fA h1;go_wp2_with fail;go_ret2;exact qo7 HF.out eY.out rfl aP.out
  ·obtain rfl:k=l.length:=by omega
   have hE:=HE.out;have hN:=HN.out;rw[List.take_length] at hE hN;have HE':=hid hE;have HN':=hid hN;clear hE hN HE HN;go_wp2_with fail;go_ret2;exact qmv HE'.out (by rw[List.length_map]) (qac _) rfl HN'.out HB.out
end Go.Proofs.YtmcfcpgglfimjaaGreatDoor
namespace Go.Proofs.YtmcfcpgglfimjaaGreatDoor
open Go.RowKit Go.Maps Go.Sort Go.Shelf
set_option maxRecDepth 100000
set_option maxHeartbeats 8000000
def q3g(l:List UInt8):BA:=⟨l.toArray⟩
theorem qnj(s:BA):q3g s.data.toList=s:=rfl
def qcd(ss:List (List UInt8)):List BA:=(ss.mergeSort (fun x y=>decide (x≤y))).map q3g
def qzz(E:Ent)(ms:Int)(w:World)(e:Ending)(w':World):Prop:=
 if 64<E.length then e = .returned (.tuple #[.slice none 0 0,.int .i64 5])∧Below w.heap.size w w'
 else ∃ss:List (List UInt8),ss.Perm (E.map fun e=>e.1.data.toList)∧qji shK ((qcd ss).map fun s=>qgi (qn3 E ms s)) ((qcd ss).map fun s=>(s,qcz (qn3 E ms s))) w e w'
theorem qz0{α:Type}{K:qur α}{errs:List Nat}{l:List α}{w W w':World}{e:Ending}(h:qji K errs l W e w')(hb:Below w.heap.size w W):qji K errs l w e w':=by
 obtain⟨h1,h2⟩:=h;refine⟨?_,hb.trans (h2.mono hb.size)⟩;split
 ·rename_i h0
  rw[if_pos h0] at h1;obtain⟨g,hg,he,hr⟩:=h1;exact⟨g,Nat.le_trans hb.size hg,he,hr⟩
 ·rename_i h0
  rw[if_neg h0] at h1;exact h1
theorem qz1{α:Type}{K:qur α}{errs:List Nat}{l:List α}{W w':World}{e:Ending}(h:qji K errs l W e w'):∃(p:Option Addr) (n c:Nat) (z:Int),e = .returned (.tuple #[.slice p n c,.int .i64 z]):=by
 obtain⟨h1,_⟩:=h;split at h1
 ·obtain⟨g,_,he,_⟩:=h1
  exact⟨_,_,_,_,he⟩
 ·exact⟨_,_,_,_,h1⟩
theorem q3h(r:Nat)(W:World):Calls Tryz.prog 70 #[.map (some r)] W fun e w'=>e = .returned (.func (.func 115) #[] #[.pointer (some ⟨W.heap.size,0,none⟩)])∧w'=W.alloc (.cells #[.map (some r)] 71):=
 callsIn_wide.1 (Tryz.maps_Keys_70 (some r) W)
theorem qwd{r n:Nat}{E:Ent}{W:World}(hn:n=W.heap.size)(hN:qir W r E)(hne:E≠[])(hl:E.length≤64)(hk:∀e ∈ E,e.1.size≤maxLen):
  Calls Tryz.prog 69 #[.func (.func 115) #[] #[.pointer (some ⟨n,0,none⟩)]] (W.alloc (.cells #[.map (some r)] 71)) fun e w'=>∃(ss:List (List UInt8)) (g c:Nat),ss.Perm (E.map fun e=>e.1.data.toList)∧e = .returned (.slice (some ⟨g,0,none⟩) (qcd ss).length c)∧qq0 w' g 0 (qcd ss)∧Below W.heap.size W w':=by
 subst hn
 obtain⟨D0,aT,Rn,dG⟩:=hN.1.owns (H:=Nat) (P:=Tryz.prog) (kt:=9) Tryz.underlying9 (fun p hp=>by
  rw[List.mem_map] at hp;obtain⟨e,he,rfl⟩:=hp
  exact hk e he) (by rw[List.length_map];omega)
 rw[List.length_map] at dG;refine(callsIn_wide.1 (Tryz.slices_Sorted_keys_69_70 r _ D0 _ W aT (by rw[dG];unfold maxLen;omega) (by rw[dG];omega))).mono ?_;rintro e w' ⟨v,ss,rfl,hp,aB,qQ,hb⟩;have dO:=hp.trans Rn;rw[List.map_map] at dO;have aE:=dO.length_eq;rw[List.length_map] at aE
 have fM:ss≠[]:=by
  rintro rfl;exact hne (List.length_eq_zero_iff.1 aE.symm)
 have cQ:(qcd ss).length=ss.length:=by unfold qcd;rw[List.length_map,List.length_mergeSort]
 obtain⟨h1,h2⟩:=aB;rcases h2 with⟨h2,_⟩|⟨g,cap,cur,h3,h4,h5,h6,h7,h8,h9⟩
 ·exact absurd (qQ.1 h2) fM
 ·refine⟨ss,g,cap,dO,by rw[h3,cQ],fun j s hs => ?_,(qad _ _).trans (hb.mono (by rw[qab];omega))⟩
  rw[Nat.zero_add,cell_of_row w' g _ cur _ (0,0) h5,←Array.getElem?_toList];have hj:j<ss.length:=by rw[←cQ];exact(List.getElem?_eq_some_iff.1 hs).1
  have h10:(cur.toList.take (ss.length*1))[j]? = some (Value.string s):=by
   rw[h9];unfold qcd at hs;rw[List.getElem?_map] at hs ⊢;cases hm:(ss.mergeSort (fun x y=>decide (x≤y)))[j]? with
   | none=>rw[hm] at hs;cases hs
   | some t=>
    rw[hm] at hs;simp only[Option.map_some,Option.some.injEq] at hs;subst hs;rfl
  rwa [List.getElem?_take_of_lt (by omega)] at h10
theorem qt7(r:Nat)(E:Ent)(ms:Int)(w:World)(hN:qir w r E)(hne:E≠[])(hk:∀e ∈ E,e.1.size≤maxLen)(h1:1≤ms)(h2:ms≤999999999)(rS:∀e ∈ E,bd e.2.2 (602*64*64+1)):
  Calls Tryz.prog 30 #[.map (some r),.int .i64 ms] w (qzz E ms w):=by
 have nS:Below w.heap.size w (w.alloc (.cells #[.map (some r)] 71)):=qad _ _;have aD:Below w.heap.size w ((w.alloc (.cells #[.map (some r)] 71)).alloc (.cells #[.int .i64 ms] 3)):=nS.alloc (by simp) _;have fX:=hid (hN.later aD);have Ro:Hid (MC w.heap.size (w.heap.size+1) r ms ((w.alloc (.cells #[.map (some r)] 71)).alloc (.cells #[.int .i64 ms] 3))):=hid ⟨by simp,by simp⟩;obtain⟨m0,m1⟩:((w.alloc (.cells #[.map (some r)] 71)).alloc (.cells #[.int .i64 ms] 3)).cell? ⟨w.heap.size,0,none⟩=some (.map (some r))∧((w.alloc (.cells #[.map (some r)] 71)).alloc (.cells #[.int .i64 ms] 3)).cell? ⟨w.heap.size+1,0,none⟩=some (.int .i64 ms):=Ro.out
 obtain⟨es,clock,hb,hes⟩:∃es clock,((w.alloc (.cells #[.map (some r)] 71)).alloc (.cells #[.int .i64 ms] 3)).heap[r]? = some (.map es clock)∧es.size=E.length:=by
  obtain⟨es,clock,g1,g2,_⟩:=fX.out.1;refine⟨es,clock,g1, ?_⟩;have:=congrArg List.length g2;rw[List.length_map,List.length_map,List.length_map,Array.length_toList] at this;exact this
 have Fr:(Builtin.len_ #[71] 3 #[.map (some r)]).run Tryz.prog ((w.alloc (.cells #[.map (some r)] 71)).alloc (.cells #[.int .i64 ms] 3)) = .ok (.int .i64 (es.size:Nat)) ((w.alloc (.cells #[.map (some r)] 71)).alloc (.cells #[.int .i64 ms] 3)):=run_len_map _ _ _ r es clock (by kernel_rfl) hb;have dK:=hid aD;by_cases nK:64<E.length
 ·have HF:Hid (∀w',Below w.heap.size w w'→qzz E ms w (.returned (.tuple #[.slice none 0 0,.int .i64 5])) w'):=hid fun w' hb=>by
   unfold qzz;rw[if_pos nK];exact⟨rfl,hb⟩
  have Hw:64<es.size:=by omega
  clear aD nS hN rS hk hne;go_enter Tryz.func30,Tryz.ntmps30;go_wp2_with fail;go_ret2;exact HF.out _ dK.out
 ·have Hw:¬64<es.size:=by omega
  have HF:Hid (∀(W:World) (ss:List (List UInt8)) e w',ss.Perm (E.map fun e=>e.1.data.toList)→Below w.heap.size w W→qji shK ((qcd ss).map fun s=>qgi (qn3 E ms s)) ((qcd ss).map fun s=>(s,qcz (qn3 E ms s))) W e w'→qzz E ms w e w'):=hid fun W ss e w' hp hb h=>by
   unfold qzz;rw[if_neg nK];exact⟨ss,hp,qz0 h hb⟩
  have qC:=hid (qwd (n:=w.heap.size+1+1) (by simp) fX.out hne (by omega) hk);have HKC:=hid (q3h r ((w.alloc (.cells #[.map (some r)] 71)).alloc (.cells #[.int .i64 ms] 3)))
  have Lg:Hid (∀W ss g c,Below ((w.alloc (.cells #[.map (some r)] 71)).alloc (.cells #[.int .i64 ms] 3)).heap.size ((w.alloc (.cells #[.map (some r)] 71)).alloc (.cells #[.int .i64 ms] 3)) W→ss.Perm (E.map fun e=>e.1.data.toList)→qq0 W g 0 (qcd ss)→Calls Tryz.prog 68 #[.slice (some ⟨g,0,none⟩) (qcd ss).length c,.func (.func 71) #[] #[.pointer (some ⟨w.heap.size,0,none⟩),.pointer (some ⟨w.heap.size+1,0,none⟩)]] W (qji shK ((qcd ss).map fun s=>qgi (qn3 E ms s)) ((qcd ss).map fun s=>(s,qcz (qn3 E ms s))) W)):=hid fun W ss g c hW hp hs=>
   q6b _ _ r E ms _ g 0 c W hs (by have:=hp.length_eq;rw[List.length_map] at this;unfold qcd;rw[List.length_map,List.length_mergeSort];omega) (Ro.out.later hW) (fX.out.later hW) h1 h2 rS
  clear aD nS hN rS hk hne;go_enter Tryz.func30,Tryz.ntmps30;go_wp2_with fail;refine HKC.out.mono ?_;rintro e w3 ⟨rfl,rfl⟩;go_wp2_with fail;refine qC.out.mono ?_;rintro e w4 ⟨ss,g,c,hp,rfl,hs,hb⟩;have HEC:=hid (Lg.out w4 ss g c hb hp hs);have Qi:=hid (fun e w' h=>HF.out w4 ss e w' hp (dK.out.trans (hb.mono dK.out.size)) h);clear hp hs hb Lg qC HKC HF;go_wp2_with fail;refine HEC.out.mono ?_;rintro e w5 h;have HR:=hid (Qi.out _ _ h);obtain⟨p,n,c',z,rfl⟩:=qz1 h;clear h Qi HEC;go_wp2_with fail;go_ret2;exact HR.out
end Go.Proofs.YtmcfcpgglfimjaaGreatDoor
