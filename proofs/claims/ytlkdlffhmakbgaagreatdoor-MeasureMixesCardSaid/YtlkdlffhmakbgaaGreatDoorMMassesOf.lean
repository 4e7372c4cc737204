/- The map of the masses of lots. -/
import Derived.Test.YtlkdlffhmakbgaaGreatDoorMShare
import Derived.Test.YtlkdlffhmakbgaaGreatDoorMEachLayer
import Derived.Test.YtlkdlffhmakbgaaGreatDoorMMean
import Derived.Carry
import Derived.Test.YtlkdlffhmakbgaaGreatDoorIter
set_option linter.all false
namespace Go.Proofs.YtlkdlffhmakbgaaGreatDoor
open Go.RowKit
set_option maxRecDepth 100000
set_option maxHeartbeats 8000000
abbrev Ent:=List (BA × NV × Rat)
def qhm(W:World)(r:Nat)(E:Ent):Prop:=qo6 W r (E.map fun e=>(e.1,.agg #[.bool e.2.1.b,.slice e.2.1.p e.2.1.k e.2.1.c,.slice e.2.1.q e.2.1.j e.2.1.d]))∧∀e ∈ E,qau W (.agg #[.bool e.2.1.b,.slice e.2.1.p e.2.1.k e.2.1.c,.slice e.2.1.q e.2.1.j e.2.1.d]) e.2.2
def qhn(E:Ent):List (BA × Rat):=E.map fun e=>(e.1,e.2.2)
def q65:NV:=⟨false,none,0,0,none,0,0⟩
def qir(E:Ent)(k:BA):NV:=((E.find? fun e=>k==e.1).map (·.2.1)).getD q65
def qkv(E:Ent)(k:BA):Rat:=((E.find? fun e=>k==e.1).map (·.2.2)).getD 0
def q4k(E:Ent)(k:BA)(z:NV)(d:Rat):Ent:=
 if E.any (fun e=>k==e.1) then E.map (fun e=>if k==e.1 then(e.1,z,qkv E k+d) else e) else E++[(k,z,qkv E k+d)]
def qsb(D:List (BA × Rat))(k:BA)(d:Rat):List (BA × Rat):=
 if D.any (fun p=>k==p.1) then D.map (fun p=>if k==p.1 then(p.1,p.2+d) else p) else D++[(k,0+d)]
theorem qhm.later{W W':World}{r:Nat}{E:Ent}(h:qhm W r E)(hb:Below W.heap.size W W'):qhm W' r E:=⟨h.1.later hb,fun e he=>(h.2 e he).later hb⟩
theorem qo6.nodup{W:World}{r:Nat}{D:List (BA × Value)}(h:qo6 W r D):(D.map (·.1)).Nodup:=by
 obtain⟨es,clock,_,h2,h3⟩:=h
 have e:es.toList.map (·.key)=(D.map (·.1)).map Value.string:=by
  have:=congrArg (List.map Prod.fst) h2;rw[List.map_map,List.map_map] at this;rw[List.map_map];exact this
 have Fo:=h3.2.2;rw[e] at Fo;exact(List.pairwise_map.1 Fo).imp (fun hne he=>hne (congrArg Value.string he))
theorem qzx{E:Ent}(h:(E.map (·.1)).Nodup){e f:BA × NV × Rat}(he:e ∈ E)(hf:f ∈ E)(hk:e.1=f.1):e=f:=by
 induction E with
 | nil=>cases he
 | cons a E ih=>
  rw[List.map_cons,List.nodup_cons] at h;rcases List.mem_cons.1 he with rfl|he'
  ·rcases List.mem_cons.1 hf with rfl|hf'
   ·rfl
   ·exact absurd (hk▸List.mem_map_of_mem (f:=(·.1)) hf') h.1
  ·rcases List.mem_cons.1 hf with rfl|hf'
   ·exact absurd (hk▸List.mem_map_of_mem (f:=(·.1)) he') h.1
   ·exact ih h.2 he' hf'
theorem qn8{E:Ent}{k:BA}:(E.find? fun e=>k==e.1)=none∧E.any (fun e=>k==e.1)=false∨∃e,(E.find? fun e=>k==e.1)=some e∧e ∈ E∧e.1=k∧E.any (fun e=>k==e.1)=true:=by
 cases h:E.find? fun e=>k==e.1 with
 | none=>
  left
  refine⟨rfl, ?_⟩;rw[List.any_eq_false];intro e he;have:=List.find?_eq_none.1 h e he;exact this
 | some e=>
  right
  refine⟨e,rfl,List.mem_of_find?_eq_some h, ?_, ?_⟩
  ·exact((qbu _ _).1 (List.find?_some (p:=fun e:BA × NV × Rat=>k==e.1) h)).symm
  ·rw[List.any_eq_true]
   exact⟨e,List.mem_of_find?_eq_some h,List.find?_some (p:=fun e:BA × NV × Rat=>k==e.1) h⟩
theorem qhm.nodup{W:World}{r:Nat}{E:Ent}(h:qhm W r E):(E.map (·.1)).Nodup:=by
 have:=h.1.nodup;rw[List.map_map] at this;exact this
theorem qj0{E:Ent}{k:BA}{e:BA × NV × Rat}(h:(E.find? fun e=>k==e.1)=some e):qkv E k=e.2.2∧qir E k=e.2.1:=by
 unfold qkv qir;rw[h];exact⟨rfl,rfl⟩
theorem qj1{E:Ent}{k:BA}(h:(E.find? fun e=>k==e.1)=none):qkv E k=0∧qir E k=q65:=by
 unfold qkv qir;rw[h];exact⟨rfl,rfl⟩
theorem qt9(E:Ent)(k:BA):qli (E.map fun e=>(e.1,Value.agg #[.bool e.2.1.b,.slice e.2.1.p e.2.1.k e.2.1.c,.slice e.2.1.q e.2.1.j e.2.1.d])) k=(E.find? fun e=>k==e.1).map fun e=>Value.agg #[.bool e.2.1.b,.slice e.2.1.p e.2.1.k e.2.1.c,.slice e.2.1.q e.2.1.j e.2.1.d]:=by
 unfold qli;rw[List.find?_map,Option.map_map];rfl
theorem qho{W:World}{r:Nat}{E:Ent}(h:qhm W r E)(k:BA):
  (Instr.lookup 74 (.map (some r)) (.string k) false).run Tryz.prog W = .ok (.agg #[.bool (qir E k).b,.slice (qir E k).p (qir E k).k (qir E k).c,.slice (qir E k).q (qir E k).j (qir E k).d]) W∧qau W (.agg #[.bool (qir E k).b,.slice (qir E k).p (qir E k).k (qir E k).c,.slice (qir E k).q (qir E k).j (qir E k).d]) (qkv E k):=by
 rcases qn8 (E:=E) (k:=k) with⟨h1,_⟩|⟨e,h1,h2,h3,_⟩
 ·obtain⟨q1,q2⟩:=qj1 h1
  rw[q1,q2];refine⟨(qeg W 74 9 87 Tryz.underlying74 Tryz.underlying9 r _ h.1.smap k (.agg #[.bool false,.slice none 0 0,.slice none 0 0]) (by kernel_rfl) (by rw[qt9,h1];rfl)).2, ?_⟩;exact qmy W
 ·obtain⟨q1,q2⟩:=qj0 h1
  rw[q1,q2];exact⟨(qct W 74 9 87 Tryz.underlying74 Tryz.underlying9 r _ h.1.smap k _ (by rw[qt9,h1];rfl)).2,h.2 e h2⟩
theorem q50(E:Ent)(k:BA)(z:NV)(d:Rat):q9o (E.map fun e=>(e.1,Value.agg #[.bool e.2.1.b,.slice e.2.1.p e.2.1.k e.2.1.c,.slice e.2.1.q e.2.1.j e.2.1.d])) k (.agg #[.bool z.b,.slice z.p z.k z.c,.slice z.q z.j z.d])=(q4k E k z d).map fun e=>(e.1,Value.agg #[.bool e.2.1.b,.slice e.2.1.p e.2.1.k e.2.1.c,.slice e.2.1.q e.2.1.j e.2.1.d]):=by
 have Km:(E.map fun e=>(e.1,Value.agg #[.bool e.2.1.b,.slice e.2.1.p e.2.1.k e.2.1.c,.slice e.2.1.q e.2.1.j e.2.1.d])).any (fun p=>k==p.1)=E.any (fun e=>k==e.1):=by rw[List.any_map];rfl
 unfold q9o q4k;rw[Km];by_cases h:E.any (fun e=>k==e.1)=true
 ·rw[if_pos h,if_pos h,List.map_map,List.map_map]
  refine List.map_congr_left fun e _ => ?_;show(if(k==e.1)=true then _ else _)=_;by_cases hk:(k==e.1)=true
  ·simp[hk]
  ·simp[hk]
 ·rw[if_neg h,if_neg h,List.map_append]
  rfl
theorem q3g{W:World}{r:Nat}{E:Ent}(h:qhm W r E)(k:BA)(z:NV)(d:Rat):qhn (q4k E k z d)=qsb (qhn E) k d:=by
 have Km:(qhn E).any (fun p=>k==p.1)=E.any (fun e=>k==e.1):=by unfold qhn;rw[List.any_map];rfl
 unfold qsb;rw[Km];unfold qhn q4k;rcases qn8 (E:=E) (k:=k) with⟨h1,h2⟩|⟨e,h1,h2,h3,h4⟩
 ·rw[if_neg (by rw[h2];decide),if_neg (by rw[h2];decide),List.map_append,(qj1 h1).1]
  rfl
 ·rw[if_pos h4,if_pos h4,List.map_map,List.map_map]
  refine List.map_congr_left fun f hf => ?_;show _=(if(k==f.1)=true then _ else _);by_cases hk:(k==f.1)=true
  ·have hfe:=qzx h.nodup hf h2 (by rw[h3];exact((qbu _ _).1 hk).symm)
   subst hfe;simp[hk,(qj0 h1).1]
  ·simp[hk]
theorem qnm{W:World}{r b o:Nat}{D:List (BA × Value)}{v:Value}(h:qo6 W r D)(hc:W.cell? ⟨b,o,none⟩=some v):b≠r:=by
 rintro rfl;obtain⟨es,clock,h1,_⟩:=h;simp[World.cell?,h1] at hc
theorem qo6.cell{W W':World}{r b o:Nat}{D:List (BA × Value)}{v:Value}(h:qo6 W r D)(nI:Chg r r W W')(hc:W.cell? ⟨b,o,none⟩=some v):W'.cell? ⟨b,o,none⟩=some v:=
 nI.cell hc (qnm h hc) (qnm h hc)
theorem qo6.nat{W W':World}{r:Nat}{D:List (BA × Value)}{v:Value}{n:Nat}(h:qo6 W r D)(nI:Chg r r W W')(hn:qa5 W v n):qa5 W' v n:=by
 obtain⟨h1,q,c,h2,h3,h4,h5⟩:=hn;refine⟨h1,q,c,h2,h3,h4, ?_⟩;rcases h5 with h5|⟨b,o,h6,h7⟩
 ·exact .inl h5
 ·exact .inr ⟨b,o,h6,fun i hi=>h.cell nI (h7 i hi)⟩
theorem qo6.num{W W':World}{r:Nat}{D:List (BA × Value)}{v:Value}{q:Rat}(h:qo6 W r D)(nI:Chg r r W W')(hn:qau W v q):qau W' v q:=by
 obtain⟨t,b,e,h1,h2⟩:=hn;exact⟨t,b,e,h.nat nI h1,h.nat nI h2⟩
theorem q51{W:World}{r:Nat}{E:Ent}(h:qhm W r E)(k:BA)(z:NV)(d:Rat)(hz:qau W (.agg #[.bool z.b,.slice z.p z.k z.c,.slice z.q z.j z.d]) (qkv E k+d)):
  ∃w',(Instr.mapUpdate 74 (.map (some r)) (.string k) (.agg #[.bool z.b,.slice z.p z.k z.c,.slice z.q z.j z.d])).run Tryz.prog W = .ok () w'∧qhm w' r (q4k E k z d)∧Chg r r W w'∧w'.heap.size=W.heap.size:=by
 obtain⟨w',h1,h2,h3,h4,h5⟩:=q5k (P:=Tryz.prog) W 74 9 87 Tryz.underlying74 Tryz.underlying9 r _ h.1 k (.agg #[.bool z.b,.slice z.p z.k z.c,.slice z.q z.j z.d]);have nI:Chg r r W w':=⟨by rw[Nat.min_self];exact h3,fun j _ hj _=>h5 j hj⟩;refine⟨w',h1,⟨by rw[←q50 E k z d];exact h2,fun e he => ?_⟩,nI,h4⟩;unfold q4k at he;split at he
 ·rw[List.mem_map] at he
  obtain⟨f,hf,rfl⟩:=he;split
  ·exact h.1.num nI hz
  ·exact h.1.num nI (h.2 f hf)
 ·rw[List.mem_append,List.mem_singleton] at he
  rcases he with he|rfl
  ·exact h.1.num nI (h.2 e he)
  ·exact h.1.num nI hz
theorem q8h{E:Ent}{k:BA}{z:NV}{d:Rat}{m n:Nat}(h:∀e ∈ E,bd e.2.2 m)(hm:1≤m)(hd:bd d n):∀e ∈ q4k E k z d,bd e.2.2 (m+n+1):=by
 have hl:bd (qkv E k) m:=by
  rcases qn8 (E:=E) (k:=k) with⟨h1,_⟩|⟨e,h1,h2,_⟩
  ·rw[(qj1 h1).1];exact qi5 _ hm
  ·rw[(qj0 h1).1];exact h e h2
 intro e he;unfold q4k at he;split at he
 ·rw[List.mem_map] at he
  obtain⟨f,hf,rfl⟩:=he;split
  ·exact qnb hl hd
  ·exact(h f hf).mono (by omega)
 ·rw[List.mem_append,List.mem_singleton] at he
  rcases he with he|rfl
  ·exact(h e he).mono (by omega)
  ·exact qnb hl hd
def qfb(m:Int)(D:List (BA × Rat))(ss:List (BA × BA)):List (BA × Rat):=ss.foldl (fun D s=>qsb D s.1 (qcu s*((m:Int):Rat))) D
def qci(ls:List Lay):List (BA × Rat):=ls.foldl (fun D x=>qfb x.mass D x.shares) []
theorem qua(m:Int)(D:List (BA × Rat))(ss:List (BA × BA))(s:BA × BA):qfb m D (ss++[s])=qsb (qfb m D ss) s.1 (qcu s*((m:Int):Rat)):=by unfold qfb;rw[List.foldl_append];rfl
theorem qj2(ls:List Lay)(x:Lay):qci (ls++[x])=qfb x.mass (qci ls) x.shares:=by unfold qci;rw[List.foldl_append];rfl
theorem qbo{x:Lay}(h:qbj x=0):0<x.mass∧x.mass≤999999999∧1≤x.shares.length∧x.shares.length≤64∧∀s ∈ x.shares,qah s.2.data.toList=0:=by
 unfold qbj at h;split at h
 ·cases h
 ·split at h
  ·cases h
  ·unfold qbe at h
   split at h
   ·cases h
   ·split at h
    ·cases h
    ·split at h
     ·rename_i h1;exact absurd h h1
     ·refine⟨by omega,by omega,by omega,by omega,fun s hs => ?_⟩
      have hz:qaj (qa4 ⟨#[]⟩ x.shares)=0:=by omega
      clear h
      have key:∀(l:List (BA × BA)) b,qaj (qa4 b l)=0→∀s ∈ l,qah s.2.data.toList=0:=by
       intro l
       induction l with
       | nil=>intro b _ s hs;cases hs
       | cons a l ih=>
        intro b hf s hs;have h1:(if qao b a=0 then qaj (qa4 a.1 l) else qao b a)=0:=hf;by_cases ha:qao b a=0
        ·rw[if_pos ha] at h1
         rcases List.mem_cons.1 hs with rfl|hs
         ·exact qg1 ha
         ·exact ih _ h1 s hs
        ·rw[if_neg ha] at h1;exact absurd h1 ha
      exact key _ _ hz s hs
def qpm(s:BA × BA)(ms:Int)(nn gs gl gp g k j:Nat)(y:NV)(W:World):Prop:=W.cell? ⟨gs,0,none⟩=some (.string s.1)∧W.cell? ⟨gl,1,none⟩=some (.int .i64 ms)∧W.cell? ⟨gp,k,none⟩=some (.slice (some ⟨g,0,none⟩) nn nn)∧W.cell? ⟨g,j*3,none⟩=some (.bool y.b)∧W.cell? ⟨g,j*3+1,none⟩=some (.slice y.p y.k y.c)∧W.cell? ⟨g,j*3+2,none⟩=some (.slice y.q y.j y.d)
theorem qpm.later{s:BA × BA}{ms:Int}{nn gs gl gp g k j:Nat}{y:NV}{W W':World}(h:qpm s ms nn gs gl gp g k j y W)(hb:Below W.heap.size W W'):qpm s ms nn gs gl gp g k j y W':=by
 obtain⟨h0,h1,h2,h3,h4,h5⟩:=h;refine⟨?_, ?_, ?_, ?_, ?_, ?_⟩
 ·rw[hb.cell (qae W _ h0)];exact h0
 ·rw[hb.cell (qae W _ h1)];exact h1
 ·rw[hb.cell (qae W _ h2)];exact h2
 ·rw[hb.cell (qae W _ h3)];exact h3
 ·rw[hb.cell (qae W _ h4)];exact h4
 ·rw[hb.cell (qae W _ h5)];exact h5
theorem qpm.keep{s:BA × BA}{ms:Int}{nn gs gl gp g k j r:Nat}{y:NV}{W W':World}{D:List (BA × Value)}(h:qpm s ms nn gs gl gp g k j y W)(hm:qo6 W r D)(hc:Chg r r W W'):qpm s ms nn gs gl gp g k j y W':=by
 obtain⟨h0,h1,h2,h3,h4,h5⟩:=h;exact⟨hm.cell hc h0,hm.cell hc h1,hm.cell hc h2,hm.cell hc h3,hm.cell hc h4,hm.cell hc h5⟩
theorem qxu{E:Ent}{k:BA}{m:Nat}(h:∀e ∈ E,bd e.2.2 m)(hm:1≤m):bd (qkv E k) m:=by
 rcases qn8 (E:=E) (k:=k) with⟨h1,_⟩|⟨e,h1,h2,_⟩
 ·rw[(qj1 h1).1];exact qi5 _ hm
 ·rw[(qj0 h1).1];exact h e h2
theorem qnn(l:List Lay)(b o c gp:Nat)(w:World)(aB:qdz w b o l)(hl:l.length≤64)(cM:∀x ∈ l,qbj x=0)(hr:qdg q12 w gp l.length (l.map qp6)):
  Calls Tryz.prog 33 #[.slice (some ⟨b,o,none⟩) l.length c,.slice (some ⟨gp,0,none⟩) l.length l.length] w fun e w'=>(∃E,e = .returned (.map (some w.heap.size))∧qhm w' w.heap.size E∧qhn E=qci l∧∀e ∈ E,bd e.2.2 (602*64*64+1))∧Below w.heap.size w w':=by
 have hmm:=@run_makeMap Tryz.prog;have bL:=hid aB;have xS:=hid cM;have HR:=hid hr;have xZ:=hid (q1x w);have dM:Hid (Below w.heap.size w (w.alloc (.map #[] 0))):=hid (qad _ _);clear aB cM hr;go_enter Tryz.func33,Tryz.ntmps33;go_wp2_with fail;clear hmm;generalize w.alloc (.map #[] 0)=w0 at *
 go_loopw [13] (fun i wr=>∃k:Nat,k≤l.length∧i = .int .i64 k∧∃E:Ent,Hid (qhm wr w.heap.size E)∧Hid (qhn E=qci (l.take k))∧Hid (∀e ∈ E,bd e.2.2 (602*64*k+1))∧Hid (Below w.heap.size w wr)) (fun i _=>l.length-(intOf i).toNat)
 case atStart=>exact⟨0,Nat.zero_le _,rfl,[],hid ⟨xZ.out,by intro e he;cases he⟩,hid rfl,hid (by intro e he;cases he),dM⟩
 case round=>
  obtain⟨k,hk,rfl,E0,HN,HD,eO,HB⟩:=hrel;clear xZ dM;by_cases cT:k<l.length
  ·obtain⟨x,bV⟩:∃x,l[k]? = some x:=⟨l[k],qap cT⟩
   obtain⟨e0,e1,p,cc,e2,hv⟩:=bL.out k x bV;obtain⟨mT,eU,iA,dO,Dj⟩:=qbo (xS.out x (qbh bV));have eY:wr.cell? ⟨b,o+k*3,none⟩=some (.string x.grain):=by rw[HB.out.cell (qae w _ e0)];exact e0
   have bO:wr.cell? ⟨b,o+k*3+1,none⟩=some (.int .i64 x.mass):=by rw[HB.out.cell (qae w _ e1)];exact e1
   have bG:wr.cell? ⟨b,o+k*3+2,none⟩=some (.slice p x.shares.length cc):=by rw[HB.out.cell (qae w _ e2)];exact e2
   have aD:Below wr.heap.size wr (wr.alloc (.cells #[.string x.grain,.int .i64 x.mass,.slice p x.shares.length cc] 29)):=qad _ _;have ho:=qb4 wr 29 (.string x.grain) (.int .i64 x.mass) (.slice p x.shares.length cc);obtain⟨a1,_⟩:=ho.2 1 (by omega);obtain⟨a2,_⟩:=ho.2 2 (by omega);simp only[qep,if_pos,Nat.one_ne_zero] at a1 a2;obtain⟨p',cc',Dd,_,_,aA⟩:=hv;obtain⟨bs,os,rfl,Gq⟩:=aA.resolve_left (by omega);cases Dd
   obtain⟨cs,⟨g,rfl,Gr⟩,fR⟩:=HR.out.get k (qp6 x) (by rw[List.getElem?_map,bV];rfl);have Qp:=fR 0 _ rfl;simp only[q12,Nat.mul_one,Nat.add_zero] at Qp;have iU:(qp6 x).length=x.shares.length:=by unfold qp6;rw[List.length_map]
   have gD:=hid Gq;have So:=hid Gr;have HP0:=hid Qp;have oG:=hid Dj;have fW:Hid (qci (l.take (k+1))=qfb x.mass (qci (l.take k)) x.shares):=hid (by rw[qbl bV,qj2]);have dH:=hid (HN.out.later aD);have aP:=hid (HB.out.trans (aD.mono HB.out.size));have HGL:Hid (w.heap.size<wr.heap.size):=hid HN.out.1.lt;have eP:=hid a1;have HLQ:Hid (qp6 x=x.shares.map qcu):=hid rfl;clear e0 e1 e2 bV aD ho aA fR Qp Gr Gq HN HB Dj a1;generalize qp6 x=qs at *;generalize eT:x.shares=ss at *;generalize jM:x.mass=ms at *;generalize hnn:qs.length=nn at *;have bm:=ql0 ms (by omega) eU;go_wp2_with fail;clear a2 eY bO bG;generalize wr.alloc (.cells #[.string x.grain,.int .i64 ms,.slice (some ⟨bs,os,none⟩) ss.length cc] 29)=w1 at *;generalize hgl:wr.heap.size=gl at *
   go_loopw [21] (fun i wi=>∃j:Nat,j≤ss.length∧i = .int .i64 j∧∃E:Ent,Hid (qhm wi w.heap.size E)∧Hid (qhn E=qfb ms (qci (l.take k)) (ss.take j))∧Hid (∀e ∈ E,bd e.2.2 (602*64*k+1+602*j))∧Hid (Below w.heap.size w wi)∧Hid (wi.cell? ⟨gl,1,none⟩=some (.int .i64 ms))) (fun i _=>ss.length-(intOf i).toNat)
   case atStart=>exact⟨0,Nat.zero_le _,rfl,E0,dH,HD,eO,aP,eP⟩
   case round=>
    obtain⟨j,hj,rfl,E,uN,Rt,nD,bM,kE⟩:=hrel;clear dH aP eP HD eO;by_cases yD:j<ss.length
    ·obtain⟨s,hs⟩:∃s,ss[j]? = some s:=⟨ss[j],qap yD⟩
     obtain⟨f0,f1⟩:=gD.out j s hs;have c0:wr.cell? ⟨bs,os+j*2,none⟩=some (.string s.1):=by rw[bM.out.cell (qae w _ f0)];exact f0
     have c1:wr.cell? ⟨bs,os+j*2+1,none⟩=some (.string s.2):=by rw[bM.out.cell (qae w _ f1)];exact f1
     have aD:Below wr.heap.size wr (wr.alloc (.cells #[.string s.1,.string s.2] 58)):=qad _ _;have lK:=bM.out.trans (aD.mono bM.out.size);obtain⟨x0,x1⟩:=qaq (qd3 wr 58 (.string s.1) (.string s.2));obtain⟨y,⟨n0,n1,n2⟩,hy⟩:=(So.out.later lK).nv j (qcu s) (by rw[HLQ.out,List.getElem?_map,hs];rfl);rw[Nat.zero_add] at n0 n1 n2
     have yH:(wr.alloc (.cells #[.string s.1,.string s.2] 58)).cell? ⟨gp,k,none⟩=some (.slice (some ⟨g,0,none⟩) nn nn):=by
      rw[lK.cell (p:=⟨gp,k,none⟩) (qae w _ HP0.out)];exact HP0.out
     have hlc:(wr.alloc (.cells #[.string s.1,.string s.2] 58)).cell? ⟨gl,1,none⟩=some (.int .i64 ms):=by
      rw[aD.cell (p:=⟨gl,1,none⟩) (qae wr _ kE.out)];exact kE.out
     have bq:=qim (oG.out s (qbh hs));have bq':bd (qcu s) 600:=bq;have xM:=hid (qd6 (qe0 ms (wr.alloc (.cells #[.string s.1,.string s.2] 58)).drew (by omega) (by omega)));have Sp:=hid (uN.out.later (aD.trans ((qaa _ _).drew)));have lI:Hid (qpm s ms nn wr.heap.size gl gp g k j y (wr.alloc (.cells #[.string s.1,.string s.2] 58)).drew):=hid ⟨x0,hlc,yH,n0,n1,n2⟩;have HY:=hid (hy.later ((qaa _ _).drew));have rV:=hid (lK.trans (((qaa _ _).drew).mono lK.size));have HTJ:Hid (qfb ms (qci (l.take k)) (ss.take (j+1))=qsb (qfb ms (qci (l.take k)) (ss.take j)) s.1 (qcu s*((ms:Int):Rat))):=hid (by rw[qbl hs,qua]);have lC:j<nn:=by rw[iU];exact yD
     clear f0 f1 aD lK x1 yH hlc bq hs hy uN bM kE;generalize qcu s=q at *;generalize Do:wr.heap.size=gs at *;go_wp2_with fail
     try rw[Do]
     clear c0 c1;generalize (wr.alloc (.cells #[.string s.1,.string s.2] 58))=w2 at *;have e0:w2.drew.cell? ⟨gs,0,none⟩=some (.string s.1)∧w2.drew.cell? ⟨gl,1,none⟩=some (.int .i64 ms)∧w2.drew.cell? ⟨gp,k,none⟩=some (.slice (some ⟨g,0,none⟩) nn nn)∧w2.drew.cell? ⟨g,j*3,none⟩=some (.bool y.b)∧w2.drew.cell? ⟨g,j*3+1,none⟩=some (.slice y.p y.k y.c)∧w2.drew.cell? ⟨g,j*3+2,none⟩=some (.slice y.q y.j y.d):=lI.out;obtain⟨L0,Fp⟩:=qho Sp.out s.1;have bl:=(qxu (k:=s.1) nD.out (by omega)).rs;have bqm:=(qe3 bq' bm).rs;have bq1:=bq'.rs;have bm1:=bm.rs;have cQ:Hid (rs (qkv E s.1)+rs (q*((ms:Int):Rat))+2≤Cap∧rs q+rs ((ms:Int):Rat)≤Cap):=hid (by unfold Cap;omega);clear bl bqm bq1 bm1 n0 n1 n2
     go_region_held3 (fun W=>W.cell? ⟨gs,0,none⟩=some (.string s.1)∧W.cell? ⟨gl,1,none⟩=some (.int .i64 ms)∧W.cell? ⟨gp,k,none⟩=some (.slice (some ⟨g,0,none⟩) nn nn)∧W.cell? ⟨g,j*3,none⟩=some (.bool y.b)∧W.cell? ⟨g,j*3+1,none⟩=some (.slice y.p y.k y.c)∧W.cell? ⟨g,j*3+2,none⟩=some (.slice y.q y.j y.d)) (first|with_reducible exact eA|with_reducible exact eB|with_reducible exact eC|with_reducible exact eD|exact e0)
      (first
       | (go_at_call 53;((with_reducible refine xM.out.mono ?_);rintro e wA ⟨⟨t1,rfl,hn⟩,hb⟩;have gS:=hid hn;have HYA:=hid (HY.out.later hb);have dI:=hid (rV.out.trans (hb.mono rV.out.size));have dR:=hid (Sp.out.later hb);have rK:=hid (lI.out.later hb);have eA:wA.cell? ⟨gs,0,none⟩=some (.string s.1)∧wA.cell? ⟨gl,1,none⟩=some (.int .i64 ms)∧wA.cell? ⟨gp,k,none⟩=some (.slice (some ⟨g,0,none⟩) nn nn)∧wA.cell? ⟨g,j*3,none⟩=some (.bool y.b)∧wA.cell? ⟨g,j*3+1,none⟩=some (.slice y.p y.k y.c)∧wA.cell? ⟨g,j*3+2,none⟩=some (.slice y.q y.j y.d):=rK.out;obtain⟨LA,HZA⟩:=qho dR.out s.1;clear hn hb))
       | (go_at_call 55;((with_reducible refine(qd6 (qd8 _ _ _ _ wA HYA.out gS.out cQ.out.2)).mono ?_);rintro e wB ⟨⟨t2,rfl,hn⟩,hb⟩;have cO:=hid hn;have aW:=hid (dI.out.trans (hb.mono dI.out.size));have kA:=hid (dR.out.later hb);have xX:=hid (rK.out.later hb);have eB:wB.cell? ⟨gs,0,none⟩=some (.string s.1)∧wB.cell? ⟨gl,1,none⟩=some (.int .i64 ms)∧wB.cell? ⟨gp,k,none⟩=some (.slice (some ⟨g,0,none⟩) nn nn)∧wB.cell? ⟨g,j*3,none⟩=some (.bool y.b)∧wB.cell? ⟨g,j*3+1,none⟩=some (.slice y.p y.k y.c)∧wB.cell? ⟨g,j*3+2,none⟩=some (.slice y.q y.j y.d):=xX.out;obtain⟨LB,HZB⟩:=qho kA.out s.1;clear hn hb))
       | (go_at_call 67;((with_reducible refine(qd6 (qhw _ _ _ _ wB HZB cO.out cQ.out.1)).mono ?_);rintro e wC ⟨⟨t3,rfl,hn⟩,hb⟩;have gJ:=hid (aW.out.trans (hb.mono aW.out.size));have Lh:=hid (kA.out.later hb);have Ek:=hid (xX.out.later hb);have eC:wC.cell? ⟨gs,0,none⟩=some (.string s.1)∧wC.cell? ⟨gl,1,none⟩=some (.int .i64 ms)∧wC.cell? ⟨gp,k,none⟩=some (.slice (some ⟨g,0,none⟩) nn nn)∧wC.cell? ⟨g,j*3,none⟩=some (.bool y.b)∧wC.cell? ⟨g,j*3+1,none⟩=some (.slice y.p y.k y.c)∧wC.cell? ⟨g,j*3+2,none⟩=some (.slice y.q y.j y.d):=Ek.out;obtain⟨LC,HZC⟩:=qho Lh.out s.1;obtain⟨wD,hrunD,hND,hchD,hszD⟩:=q51 Lh.out s.1 t3 _ hn;have HND:=hid hND;have eO:=hid (hchD.1);have eD:wD.cell? ⟨gs,0,none⟩=some (.string s.1)∧wD.cell? ⟨gl,1,none⟩=some (.int .i64 ms)∧wD.cell? ⟨gp,k,none⟩=some (.slice (some ⟨g,0,none⟩) nn nn)∧wD.cell? ⟨g,j*3,none⟩=some (.bool y.b)∧wD.cell? ⟨g,j*3+1,none⟩=some (.slice y.p y.k y.c)∧wD.cell? ⟨g,j*3+2,none⟩=some (.slice y.q y.j y.d):=Ek.out.keep Lh.out.1 hchD;clear hn hb hchD hszD hND)))
     all_goals
      have jA:=hid (gJ.out.trans (eO.out.mono (by rw[Nat.min_self];exact qac _)));have HDF:Hid (qhn (q4k E s.1 t3 (q*((ms:Int):Rat)))=qfb ms (qci (l.take k)) (ss.take (j+1))):=hid (by rw[q3g Lh.out,Rt.out,HTJ.out]);have HBEF:Hid (∀e ∈ q4k E s.1 t3 (q*((ms:Int):Rat)),bd e.2.2 (602*64*k+1+602*(j+1))):=hid (fun e he=>(q8h nD.out (by omega) (qe3 bq' bm) e he).mono (by omega));have HCF:Hid (wD.cell? ⟨gl,1,none⟩=some (.int .i64 ms)):=hid eD.2.1;go_wp2_with fail;go_roundw
      case rel=>exact⟨j+1,by omega,by go_num,_,HND,HDF,HBEF,jA,HCF⟩
      case measure=>simp[intOf];omega
    ·obtain rfl:j=ss.length:=by omega
     have hD:=Rt.out;rw[List.take_length,←fW.out] at hD;have nM:=hid hD;have Kn:Hid (∀e ∈ E,bd e.2.2 (602*64*(k+1)+1)):=hid (fun e he=>(nD.out e he).mono (by omega));clear hD Rt nD;go_wp2_with fail;go_roundw
     case rel=>exact⟨k+1,by omega,by go_num,E,uN,nM,Kn,bM⟩
     case measure=>simp[intOf];omega
  ·obtain rfl:k=l.length:=by omega
   have hD:=HD.out;rw[List.take_length] at hD;have nM:=hid hD;have Kn:Hid (∀e ∈ E0,bd e.2.2 (602*64*64+1)):=hid (fun e he=>(eO.out e he).mono (by omega));clear hD HD eO;go_wp2_with fail;go_ret;exact⟨⟨E0,rfl,HN.out,nM.out,Kn.out⟩,HB.out⟩
def MC(gb gm r:Nat)(ms:Int)(W:World):Prop:=W.cell? ⟨gb,0,none⟩=some (.map (some r))∧W.cell? ⟨gm,0,none⟩=some (.int .i64 ms)
theorem MC.later{gb gm r:Nat}{ms:Int}{W W':World}(h:MC gb gm r ms W)(hb:Below W.heap.size W W'):MC gb gm r ms W':=by
 obtain⟨h0,h1⟩:=h;refine⟨?_, ?_⟩
 ·rw[hb.cell (qae W _ h0)];exact h0
 ·rw[hb.cell (qae W _ h1)];exact h1
def qn9(E:Ent)(ms:Int)(k:BA):Rat:=qkv E k/((ms:Int):Rat)
theorem qzy(gb gm r:Nat)(E:Ent)(ms:Int)(k:BA)(w:World)(hc:MC gb gm r ms w)(hN:qhm w r E)(h1:1≤ms)(h2:ms≤999999999)(pK:∀e ∈ E,bd e.2.2 (602*64*64+1)):
  Calls Tryz.prog 80 #[.string k,.pointer (some ⟨gb,0,none⟩),.pointer (some ⟨gm,0,none⟩)] w fun e w'=>e = .returned (.tuple #[.agg #[.string k,.string (qc7 (qn9 E ms k))],.int .i64 (qgf (qn9 E ms k):Nat)])∧Below w.heap.size w w':=by
 have aD:Below w.heap.size w (w.alloc (.cells #[.string ⟨#[]⟩,.string ⟨#[]⟩] 58)):=qad _ _;have cX:=hid (aD.trans ((qaa w.heap.size _).drew));have HO:=hid ((qd3 w 58 (.string ⟨#[]⟩) (.string ⟨#[]⟩)).later ((qaa _ _).drew));have lI:=hid ((hc.later aD).later ((qaa _ _).drew));have hU:=hid ((hN.later aD).later ((qaa _ _).drew));have bm:=ql0 ms (by omega) h2;have bl:=qxu (k:=k) pK (by omega)
 have cQ:Hid (rs (qkv E k)+rs ((ms:Int):Rat)≤Cap∧rs (qn9 E ms k)≤Cap):=hid (by
  have a1:=bl.rs;have a2:=bm.rs;have a3:=(qnc bl bm).rs
  unfold qn9 Cap;omega)
 have Iv:Hid (((ms:Int):Rat).num≠0):=hid (by show ms≠0;omega);have xM:=hid (qd6 (qe0 ms (w.alloc (.cells #[.string ⟨#[]⟩,.string ⟨#[]⟩] 58)).drew (by omega) (by omega)));obtain⟨L0,Fp⟩:=qho hU.out k;have e0:(w.alloc (.cells #[.string ⟨#[]⟩,.string ⟨#[]⟩] 58)).drew.cell? ⟨gb,0,none⟩=some (.map (some r))∧(w.alloc (.cells #[.string ⟨#[]⟩,.string ⟨#[]⟩] 58)).drew.cell? ⟨gm,0,none⟩=some (.int .i64 ms):=lI.out;clear aD hc hN bm bl pK;go_enter Tryz.func80,Tryz.ntmps80;go_wp2_with fail;generalize w.alloc (.cells #[.string ⟨#[]⟩,.string ⟨#[]⟩] 58)=w1 at *
 go_region_held3 (fun W=>W.cell? ⟨gb,0,none⟩=some (.map (some r))∧W.cell? ⟨gm,0,none⟩=some (.int .i64 ms)) (first|with_reducible exact eA|with_reducible exact eB|with_reducible exact eC|exact e0)
  (first
   | (go_at_call 53;((with_reducible refine xM.out.mono ?_);rintro e wA ⟨⟨t1,rfl,hn⟩,hb⟩;have gS:=hid hn;have dI:=hid (cX.out.trans (hb.mono cX.out.size));have dR:=hid (hU.out.later hb);have Fa:=hid (HO.out.later (hb.mono HO.out.1));have rK:=hid (lI.out.later hb);have eA:wA.cell? ⟨gb,0,none⟩=some (.map (some r))∧wA.cell? ⟨gm,0,none⟩=some (.int .i64 ms):=rK.out;obtain⟨LA,HZA⟩:=qho dR.out k;clear hn hb))
   | (go_at_call 57;((with_reducible refine(qd6 (qfl _ _ _ _ wA HZA gS.out Iv.out cQ.out.1)).mono ?_);rintro e wB ⟨⟨t2,rfl,hn⟩,hb⟩;have cO:Hid (qau wB (.agg #[.bool t2.b,.slice t2.p t2.k t2.c,.slice t2.q t2.j t2.d]) (qn9 E ms k)):=hid hn;have aW:=hid (dI.out.trans (hb.mono dI.out.size));have wR:=hid (Fa.out.later (hb.mono Fa.out.1));have xX:=hid (rK.out.later hb);have eB:wB.cell? ⟨gb,0,none⟩=some (.map (some r))∧wB.cell? ⟨gm,0,none⟩=some (.int .i64 ms):=xX.out;clear hn hb))
   | (go_at_call 44;((with_reducible refine(qi6 _ _ wB cO.out cQ.out.2).mono ?_);rintro e wC h;obtain⟨rfl,hb⟩:=qmv h;have gJ:=hid (aW.out.trans (hb.mono aW.out.size));have sK:=hid (wR.out.later (hb.mono wR.out.1));have Ek:=hid (xX.out.later hb);have eC:wC.cell? ⟨gb,0,none⟩=some (.map (some r))∧wC.cell? ⟨gm,0,none⟩=some (.int .i64 ms):=Ek.out;obtain⟨⟨r0,g0'⟩,⟨r1,g1⟩⟩:=qh4 sK.out;clear hb h)))
 all_goals
  have jA:=hid (qhi gJ.out (qac _) (.string k) (.string (qc7 (qn9 E ms k))));go_wp2_with fail;refine bodyPost_ret (v := .tuple #[.agg #[.string k,.string (qc7 (qn9 E ms k))],.int .i64 (qgf (qn9 E ms k):Nat)]) ?_ rfl ?_
  ·simp[results,Tryz.results80,go_sem,r0,r1]
  ·exact⟨rfl,jA.out⟩
def shK:qur (BA × BA) where
 ty:=58
 size:=2
 ok:=fun c=>∃s,c = .string s
 E:=fun _ cs x=>cs=[.string x.1,.string x.2]
theorem qpn:shK.Law where
 pos:=by show 0<2;omega
 cells:=by
  rintro W cs x rfl;refine⟨rfl,fun c hc => ?_⟩;simp only[List.mem_cons,List.not_mem_nil,or_false] at hc;rcases hc with rfl|rfl<;>exact⟨⟨_,rfl⟩,rfl⟩
 later:=by
  rintro W W' cs x rfl _;rfl
 set:=by
  rintro W g cur ty fr cs x cs' rfl _ _;rfl
def qq2(W:World)(b o:Nat)(l:List BA):Prop:=∀(j:Nat) (s:BA),l[j]? = some s→W.cell? ⟨b,o+j,none⟩=some (.string s)
theorem qq2.later{W W':World}{b o:Nat}{l:List BA}(h:qq2 W b o l)(hb:Below W.heap.size W W'):qq2 W' b o l:=fun j s hj=>by
 rw[hb.cell (qae W _ (h j s hj))];exact h j s hj
theorem q52(n:Nat)(hn:n≤1048576)(w:World):
  (Instr.makeSlice 27 (.int .i64 0) (.int .i64 (n:Int))).run Tryz.prog w = .ok (.slice (some ⟨w.heap.size,0,none⟩) 0 n) (w.alloc (.cells (madeCells #[.string ⟨#[]⟩,.string ⟨#[]⟩] (n*2)) 58)):=by
 obtain⟨i0,hi,cU,eE,eK⟩:=info_parts (show(Tryz.prog.info? 58).map (fun i=>(i.zero,i.size,i.bytes))=some (some (.agg #[.string ⟨#[]⟩,.string ⟨#[]⟩]),2,32) by kernel_rfl);have h:=run_make (P:=Tryz.prog) w 27 58 i0 _ Tryz.underlying27 hi cU .i64 .i64 0 (n:Int) (Int.le_refl _) (by omega) (by rw[eK];omega) (by omega);rw[eE] at h
 simpa [Value.cells] using h
theorem q53(gb gm r:Nat)(E:Ent)(ms:Int)(l:List BA)(b o c:Nat)(w:World)(aB:qq2 w b o l)(hl:l.length≤64)(hmc:MC gb gm r ms w)(hN:qhm w r E)(h1:1≤ms)(h2:ms≤999999999)(pK:∀e ∈ E,bd e.2.2 (602*64*64+1)):
  Calls Tryz.prog 77 #[.slice (some ⟨b,o,none⟩) l.length c,.func (.func 80) #[] #[.pointer (some ⟨gb,0,none⟩),.pointer (some ⟨gm,0,none⟩)]] w
   (qip shK (l.map fun s=>qgf (qn9 E ms s)) (l.map fun s=>(s,qc7 (qn9 E ms s))) w):=by
 have bL:=hid aB;have kE:Hid (∀W s,Below w.heap.size w W→Calls Tryz.prog 80 #[.string s,.pointer (some ⟨gb,0,none⟩),.pointer (some ⟨gm,0,none⟩)] W fun e w'=>e = .returned (.tuple #[.agg #[.string s,.string (qc7 (qn9 E ms s))],.int .i64 (qgf (qn9 E ms s):Nat)])∧Below W.heap.size W w'):=hid fun W s hW=>qzy gb gm r E ms s W (hmc.later hW) (hN.later hW) h1 h2 pK;have lO:=q52 l.length (by omega);obtain⟨i0,hi,cU,eE,eK⟩:=info_parts (show(Tryz.prog.info? 58).map (fun i=>(i.zero,i.size,i.bytes))=some (some (.agg #[.string ⟨#[]⟩,.string ⟨#[]⟩]),2,32) by kernel_rfl);have HI:=hid hi;clear aB hi cU eK hmc hN pK
 have hU:=hid (qkp qpn w l.length (l.length*2) #[.string ⟨#[]⟩,.string ⟨#[]⟩] rfl rfl (by
  intro c hc;simp only[List.mem_cons,List.not_mem_nil,or_false] at hc
  rcases hc with rfl|rfl<;>exact⟨_,rfl⟩))
 have dM:Hid (Below w.heap.size w (w.alloc (.cells (madeCells #[.string ⟨#[]⟩,.string ⟨#[]⟩] (l.length*2)) 58))):=hid (qad _ _);obtain⟨ef,hef⟩:∃ef:BA→Nat,ef=fun s=>qgf (qn9 E ms s):=⟨_,rfl⟩;obtain⟨tf,htf⟩:∃tf:BA→BA,tf=fun s=>qc7 (qn9 E ms s):=⟨_,rfl⟩;have e1:∀s,qc7 (qn9 E ms s)=tf s:=fun s=>by rw[htf]
 have e2:∀s,qgf (qn9 E ms s)=ef s:=fun s=>by rw[hef]
 simp only[e1,e2] at kE ⊢;clear e1 e2 hef htf;obtain⟨pf,hpf⟩:∃pf:BA→BA × BA,pf=fun s=>(s,tf s):=⟨_,rfl⟩;have HPF:Hid (∀s,pf s=(s,tf s)):=hid fun s=>by rw[hpf]
 rw[show(l.map fun s=>(s,tf s))=l.map pf from by rw[hpf],show(l.map fun s=>ef s)=l.map ef from rfl];clear hpf;go_enter Tryz.func77,Tryz.ntmps77;go_wp2_with fail;clear lO
 replace hU:Hid (qdg shK (w.alloc (.cells (madeCells #[.string ⟨#[]⟩,.string ⟨#[]⟩] (l.length*2)) 58)) w.heap.size l.length []):=hU
 generalize w.alloc (.cells (madeCells #[.string ⟨#[]⟩,.string ⟨#[]⟩] (l.length*2)) 58)=w0 at *
 go_loopw [6,16] (fun r i wr=>∃k:Nat,k≤l.length∧i = .int .i64 k∧r = .slice (some ⟨w.heap.size,0,none⟩) k l.length∧Hid (qdg shK wr w.heap.size l.length ((l.take k).map pf))∧Hid (qaj ((l.take k).map ef)=0)∧Hid (Below w.heap.size w wr)) (fun _ i _=>l.length-(intOf i).toNat)
 case atStart=>exact⟨0,Nat.zero_le _,rfl,rfl,hU,hid rfl,dM⟩
 case round=>
  obtain⟨k,hk,rfl,rfl,HN,HE,HB⟩:=hrel;clear hU dM;by_cases cT:k<l.length
  ·obtain⟨s,bV⟩:∃s,l[k]? = some s:=⟨l[k],qap cT⟩
   have e0:=bL.out k s bV;have eY:wr.cell? ⟨b,o+k,none⟩=some (.string s):=by rw[HB.out.cell (qae w _ e0)];exact e0
   have cJ:=hid (kE.out wr s HB.out);have oZ:=hid bV;clear e0 bV;by_cases hc:ef s=0
   ·have gN:=hid (qhf ef oZ.out HE.out hc)
    rw[hc] at cJ
    have iU:((l.take k).map pf)++[(s,tf s)]=(l.take (k+1)).map pf:=by
     rw[qbl oZ.out,List.map_append,←HPF.out];rfl
    have xN:=hid iU;have iG:((l.take k).map pf).length=k:=by rw[List.length_map,List.length_take];omega
    have dH:=HN;have aP:=HB;clear HE hc iU HN HB;generalize tf s=q at *;generalize ((l.take k).map pf)=qs at *;go_wp2_with fail;refine cJ.out.mono ?_;rintro e w1 ⟨rfl,hb⟩;have aD:Below w1.heap.size w1 (w1.alloc (.cells #[.string s,.string q] 58)):=qad _ _;have gI:=hid ((dH.out.later qpn hb).later qpn aD);have aW:=hid (aP.out.trans (hb.mono aP.out.size));have kM:w.heap.size≤w1.heap.size:=aW.out.size;have aK:=hid (aW.out.trans (aD.mono kM));obtain⟨y0,y1⟩:=qaq (qd3 w1 58 (.string s) (.string q));have bP:Below (w1.alloc (.cells #[.string s,.string q] 58)).heap.size (w1.alloc (.cells #[.string s,.string q] 58)) ((w1.alloc (.cells #[.string s,.string q] 58)).alloc (.cells #[.string s,.string q] 58)):=qad _ _;obtain⟨cur,eH,bU,cG,bK⟩:=(gI.out.later qpn bP).push qpn (cs:=[.string s,.string q]) (x:=(s,q)) (by rw[iG];exact cT) rfl;have gO:=heap_alloc_new (w1.alloc (.cells #[.string s,.string q] 58)) (.cells #[.string s,.string q] 58);rw[qab] at gO;rw[iG] at bU cG bK;simp only[List.append_assoc,List.cons_append,List.nil_append,shK,List.length_cons,List.length_nil,Nat.zero_add,Nat.reduceAdd] at cG bK bU eH;have bY:Hid (qdg shK _ _ _ _):=hid cG;have aG:=hid (aK.out.trans ((bP.mono (by rw[qab];omega)).trans (bK w.heap.size (qac _))));have kT:=hid eH;have kA:=hid gO;have dJ:=hid bU;clear aD bP kM eH bU cG bK gO dH aP gI aK iG hb aW eY cJ;go_wp2_with (at_builtin;refine qbw _ rfl _ _ 27 rfl 58 i0 2 Tryz.underlying27 HI.out eE w.heap.size k l.length cur rfl kT.out ⟨w1.heap.size+1,0,none⟩ 1 1 [.string s,.string q] rfl rfl (World.news_of_block kA.out) ?mK (by omega) dJ.out ?_)
    case mK=>
     intro u hu;simp only[List.mem_cons,List.not_mem_nil,or_false] at hu;rcases hu with rfl|rfl<;>rfl
    clear y0 y1;go_wp2_with fail;go_roundw
    case rel=>exact⟨k+1,cT,by go_num,rfl,hid (by rw[←xN.out];exact bY.out),gN,aG⟩
    case measure=>simp[intOf];omega
   ·have HF:=hid (qja ef oZ.out HE.out hc)
    clear HE;generalize ef s=ck at *;generalize tf s=q at *;have lV:((ck:Int)==0)=false:=qam (by omega);have eX:=hid hc;clear hc;go_wp2_with fail;refine cJ.out.mono ?_;rintro e w1 ⟨rfl,hb⟩;have h1:=HB.out.trans (hb.mono HB.out.size);have aP:=hid (h1.trans ((qaa w.heap.size w1).alloc h1.size (.cells #[.string s,.string q] 58)));clear hb HB cJ eY h1;go_wp2_with fail;go_ret2;exact qo4 HF.out eX.out rfl aP.out
  ·obtain rfl:k=l.length:=by omega
   have hE:=HE.out;have hN:=HN.out;rw[List.take_length] at hE hN;have HE':=hid hE;have HN':=hid hN;clear hE hN HE HN;go_wp2_with fail;go_ret2;exact qmx HE'.out (by rw[List.length_map]) (qac _) rfl HN'.out HB.out
end Go.Proofs.YtlkdlffhmakbgaaGreatDoor
namespace Go.Proofs.YtlkdlffhmakbgaaGreatDoor
open Go.RowKit Go.Maps Go.Sort Go.Shelf
set_option maxRecDepth 100000
set_option maxHeartbeats 8000000
def q3h(l:List UInt8):BA:=⟨l.toArray⟩
theorem qgw(s:BA):q3h s.data.toList=s:=rfl
def qcc(ss:List (List UInt8)):List BA:=(ss.mergeSort (fun x y=>decide (x≤y))).map q3h
def qwd(E:Ent)(ms:Int)(w:World)(e:Ending)(w':World):Prop:=
 if 64<E.length then e = .returned (.tuple #[.slice none 0 0,.int .i64 5])∧Below w.heap.size w w'
 else ∃ss:List (List UInt8),ss.Perm (E.map fun e=>e.1.data.toList)∧qip shK ((qcc ss).map fun s=>qgf (qn9 E ms s)) ((qcc ss).map fun s=>(s,qc7 (qn9 E ms s))) w e w'
theorem qzz{α:Type}{K:qur α}{errs:List Nat}{l:List α}{w W w':World}{e:Ending}(h:qip K errs l W e w')(hb:Below w.heap.size w W):qip K errs l w e w':=by
 obtain⟨h1,h2⟩:=h;refine⟨?_,hb.trans (h2.mono hb.size)⟩;split
 ·rename_i h0
  rw[if_pos h0] at h1;obtain⟨g,hg,he,hr⟩:=h1;exact⟨g,Nat.le_trans hb.size hg,he,hr⟩
 ·rename_i h0
  rw[if_neg h0] at h1;exact h1
theorem qz0{α:Type}{K:qur α}{errs:List Nat}{l:List α}{W w':World}{e:Ending}(h:qip K errs l W e w'):∃(p:Option Addr) (n c:Nat) (z:Int),e = .returned (.tuple #[.slice p n c,.int .i64 z]):=by
 obtain⟨h1,_⟩:=h;split at h1
 ·obtain⟨g,_,he,_⟩:=h1
  exact⟨_,_,_,_,he⟩
 ·exact⟨_,_,_,_,h1⟩
theorem q3i(r:Nat)(W:World):Calls Tryz.prog 79 #[.map (some r)] W fun e w'=>e = .returned (.func (.func 131) #[] #[.pointer (some ⟨W.heap.size,0,none⟩)])∧w'=W.alloc (.cells #[.map (some r)] 74):=
 callsIn_wide.1 (Tryz.maps_Keys_79 (some r) W)
theorem qwe{r n:Nat}{E:Ent}{W:World}(hn:n=W.heap.size)(hN:qhm W r E)(hne:E≠[])(hl:E.length≤64)(hk:∀e ∈ E,e.1.size≤maxLen):
  Calls Tryz.prog 78 #[.func (.func 131) #[] #[.pointer (some ⟨n,0,none⟩)]] (W.alloc (.cells #[.map (some r)] 74)) fun e w'=>∃(ss:List (List UInt8)) (g c:Nat),ss.Perm (E.map fun e=>e.1.data.toList)∧e = .returned (.slice (some ⟨g,0,none⟩) (qcc ss).length c)∧qq2 w' g 0 (qcc ss)∧Below W.heap.size W w':=by
 subst hn
 obtain⟨D0,aU,Sq,dK⟩:=hN.1.owns (H:=Nat) (P:=Tryz.prog) (kt:=9) Tryz.underlying9 (fun p hp=>by
  rw[List.mem_map] at hp;obtain⟨e,he,rfl⟩:=hp
  exact hk e he) (by rw[List.length_map];omega)
 rw[List.length_map] at dK;refine(callsIn_wide.1 (Tryz.slices_Sorted_keys_78_79 r _ D0 _ W aU (by rw[dK];unfold maxLen;omega) (by rw[dK];omega))).mono ?_;rintro e w' ⟨v,ss,rfl,hp,aB,rM,hb⟩;have dP:=hp.trans Sq;rw[List.map_map] at dP;have aE:=dP.length_eq;rw[List.length_map] at aE
 have eT:ss≠[]:=by
  rintro rfl;exact hne (List.length_eq_zero_iff.1 aE.symm)
 have cT:(qcc ss).length=ss.length:=by unfold qcc;rw[List.length_map,List.length_mergeSort]
 obtain⟨h1,h2⟩:=aB;rcases h2 with⟨h2,_⟩|⟨g,cap,cur,h3,h4,h5,h6,h7,h8,h9⟩
 ·exact absurd (rM.1 h2) eT
 ·refine⟨ss,g,cap,dP,by rw[h3,cT],fun j s hs => ?_,(qad _ _).trans (hb.mono (by rw[qab];omega))⟩
  rw[Nat.zero_add,cell_of_row w' g _ cur _ (0,0) h5,←Array.getElem?_toList];have hj:j<ss.length:=by rw[←cT];exact(List.getElem?_eq_some_iff.1 hs).1
  have h10:(cur.toList.take (ss.length*1))[j]? = some (Value.string s):=by
   rw[h9];unfold qcc at hs;rw[List.getElem?_map] at hs ⊢;cases hm:(ss.mergeSort (fun x y=>decide (x≤y)))[j]? with
   | none=>rw[hm] at hs;cases hs
   | some t=>
    rw[hm] at hs;simp only[Option.map_some,Option.some.injEq] at hs;subst hs;rfl
  rwa [List.getElem?_take_of_lt (by omega)] at h10
theorem qno(r:Nat)(E:Ent)(ms:Int)(w:World)(hN:qhm w r E)(hne:E≠[])(hk:∀e ∈ E,e.1.size≤maxLen)(h1:1≤ms)(h2:ms≤999999999)(pK:∀e ∈ E,bd e.2.2 (602*64*64+1)):
  Calls Tryz.prog 32 #[.map (some r),.int .i64 ms] w (qwd E ms w):=by
 have oK:Below w.heap.size w (w.alloc (.cells #[.map (some r)] 74)):=qad _ _;have aD:Below w.heap.size w ((w.alloc (.cells #[.map (some r)] 74)).alloc (.cells #[.int .i64 ms] 3)):=oK.alloc (by simp) _;have gI:=hid (hN.later aD);have Dz:Hid (MC w.heap.size (w.heap.size+1) r ms ((w.alloc (.cells #[.map (some r)] 74)).alloc (.cells #[.int .i64 ms] 3))):=hid ⟨by simp,by simp⟩;obtain⟨m0,m1⟩:((w.alloc (.cells #[.map (some r)] 74)).alloc (.cells #[.int .i64 ms] 3)).cell? ⟨w.heap.size,0,none⟩=some (.map (some r))∧((w.alloc (.cells #[.map (some r)] 74)).alloc (.cells #[.int .i64 ms] 3)).cell? ⟨w.heap.size+1,0,none⟩=some (.int .i64 ms):=Dz.out
 obtain⟨es,clock,hb,hes⟩:∃es clock,((w.alloc (.cells #[.map (some r)] 74)).alloc (.cells #[.int .i64 ms] 3)).heap[r]? = some (.map es clock)∧es.size=E.length:=by
  obtain⟨es,clock,g1,g2,_⟩:=gI.out.1;refine⟨es,clock,g1, ?_⟩;have:=congrArg List.length g2;rw[List.length_map,List.length_map,List.length_map,Array.length_toList] at this;exact this
 have Gw:(Builtin.len_ #[74] 3 #[.map (some r)]).run Tryz.prog ((w.alloc (.cells #[.map (some r)] 74)).alloc (.cells #[.int .i64 ms] 3)) = .ok (.int .i64 (es.size:Nat)) ((w.alloc (.cells #[.map (some r)] 74)).alloc (.cells #[.int .i64 ms] 3)):=run_len_map _ _ _ r es clock (by kernel_rfl) hb;have cX:=hid aD;by_cases oA:64<E.length
 ·have HF:Hid (∀w',Below w.heap.size w w'→qwd E ms w (.returned (.tuple #[.slice none 0 0,.int .i64 5])) w'):=hid fun w' hb=>by
   unfold qwd;rw[if_pos oA];exact⟨rfl,hb⟩
  have Jk:64<es.size:=by omega
  clear aD oK hN pK hk hne;go_enter Tryz.func32,Tryz.ntmps32;go_wp2_with fail;go_ret2;exact HF.out _ cX.out
 ·have Jk:¬64<es.size:=by omega
  have HF:Hid (∀(W:World) (ss:List (List UInt8)) e w',ss.Perm (E.map fun e=>e.1.data.toList)→Below w.heap.size w W→qip shK ((qcc ss).map fun s=>qgf (qn9 E ms s)) ((qcc ss).map fun s=>(s,qc7 (qn9 E ms s))) W e w'→qwd E ms w e w'):=hid fun W ss e w' hp hb h=>by
   unfold qwd;rw[if_neg oA];exact⟨ss,hp,qzz h hb⟩
  have oG:=hid (qwe (n:=w.heap.size+1+1) (by simp) gI.out hne (by omega) hk);have HKC:=hid (q3i r ((w.alloc (.cells #[.map (some r)] 74)).alloc (.cells #[.int .i64 ms] 3)))
  have Mi:Hid (∀W ss g c,Below ((w.alloc (.cells #[.map (some r)] 74)).alloc (.cells #[.int .i64 ms] 3)).heap.size ((w.alloc (.cells #[.map (some r)] 74)).alloc (.cells #[.int .i64 ms] 3)) W→ss.Perm (E.map fun e=>e.1.data.toList)→qq2 W g 0 (qcc ss)→Calls Tryz.prog 77 #[.slice (some ⟨g,0,none⟩) (qcc ss).length c,.func (.func 80) #[] #[.pointer (some ⟨w.heap.size,0,none⟩),.pointer (some ⟨w.heap.size+1,0,none⟩)]] W (qip shK ((qcc ss).map fun s=>qgf (qn9 E ms s)) ((qcc ss).map fun s=>(s,qc7 (qn9 E ms s))) W)):=hid fun W ss g c hW hp hs=>
   q53 _ _ r E ms _ g 0 c W hs (by have:=hp.length_eq;rw[List.length_map] at this;unfold qcc;rw[List.length_map,List.length_mergeSort];omega) (Dz.out.later hW) (gI.out.later hW) h1 h2 pK
  clear aD oK hN pK hk hne;go_enter Tryz.func32,Tryz.ntmps32;go_wp2_with fail;refine HKC.out.mono ?_;rintro e w3 ⟨rfl,rfl⟩;go_wp2_with fail;refine oG.out.mono ?_;rintro e w4 ⟨ss,g,c,hp,rfl,hs,hb⟩;have HEC:=hid (Mi.out w4 ss g c hb hp hs);have Qa:=hid (fun e w' h=>HF.out w4 ss e w' hp (cX.out.trans (hb.mono cX.out.size)) h);clear hp hs hb Mi oG HKC HF;go_wp2_with fail;refine HEC.out.mono ?_;rintro e w5 h;have HR:=hid (Qa.out _ _ h);obtain⟨p,n,c',z,rfl⟩:=qz0 h;clear h Qa HEC;go_wp2_with fail;go_ret2;exact HR.out
end Go.Proofs.YtlkdlffhmakbgaaGreatDoor
