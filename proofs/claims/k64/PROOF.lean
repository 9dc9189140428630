import PyProof.Rows.All
import Wide.All
import OpenK.AllK
import Wide.FinOn
import HandS.ForMost
import HandS.TupAny
import HandS.Deep
import HandS.Wide
import HandS.Style
import HandS.WordsDict
import HandS.TupLen
import HandS.IsInst
import HandS.TupMul
import KE.GoesEnum
import KE.GoesZip
import KE.GoesMore
import HandS.Zip
import HandS.Walk
import KE.SortData
import PyProof.TupleOfSeq
import KE.DataMinMax
import HandS.Conv
import KE.KIndexOf
import HandS.DictComp
import HandS.TryOnly
import HandS.Gcd
import HandS.CallLocal
import PyProof.Rows.SeqMore
import PySem.Challenge.RW_huesandrounds_k64_whole_drums_of_any_num
set_option Elab.async false
set_option linter.all false
set_option maxRecDepth 100000
set_option maxHeartbeats 2000000
/-! Ev: the program as plain functions over data, and the readings of the hand layer that follow from them. -/
namespace EV
open PySem PySem.Spec PyProof.Rows L2
abbrev SLT := List (Option V)

/-- data: a tuple is a value, a list or a dict stands at an index -/
inductive D where
  | non | bl (b : Bool) | int (i : Int) | str (x : Str) | tup (ds : List D) | con (ds : List D) | lcon (ds : List D) | ftp (ds : List D) | ref (n : Nat)
  deriving Inhabited
/-- objects that change -/
inductive O where
  | lst (ds : List D)
  | dct (t : Bool) (kvs : List (D × D))
  | fro (ds : List D)
  | frd (t : Bool) (kvs : List (D × D))
  deriving Inhabited
abbrev M := List O
abbrev Env := List (Option D)

/-! ### the relation -/
section
variable (K : PySem.W.Frag)
/-- a tuple stands at p, tracked or written -/
def TupAt (ρ : List Addr) (H : Hp) (p : Addr) (vs : List V) : Prop :=
  (p ∉ ρ ∧ Rd H p (.tup vs)) ∨
    ∃ (o : Obj) (its : Array Value) (n : Nat), K.lookup p = some o ∧ o.cls = .type "tuple" ∧ o.data = .seq its n ∧ its.size ≤ sizeLine ∧ Vals vs its.toList
/-- a list that is only read stands at p, locked or written -/
def LstAt (ρ : List Addr) (H : Hp) (p : Addr) (vs : List V) : Prop :=
  (p ∉ ρ ∧ ∃ o, H p = some (.frz o (.lst vs))) ∨
    ∃ (o : Obj) (its : Array Value) (n : Nat), K.lookup p = some o ∧ o.cls = .type "list" ∧ o.dict = none ∧ o.data = .seq its n ∧ its.size ≤ sizeLine ∧ Vals vs its.toList
/-- a tuple without a dict of its own, known to the object -/
def FtAt (ρ : List Addr) (H : Hp) (p : Addr) (vs : List V) : Prop := p ∉ ρ ∧ ∃ o, H p = some (.frz o (.tup vs)) ∧ o.dict = none
mutual
def rd (ρ : List Addr) (H : Hp) : D → V → Prop
  | .non, v => v = .non
  | .bl b, v => v = .bl b
  | .int i, v => v = .int i
  | .str x, v => v = .str x
  | .tup ds, v => ∃ p vs, v = .ref p ∧ (p ∉ ρ ∧ H p = some (.tup vs)) ∧ rds ρ H ds vs
  | .con ds, v => ∃ p vs, v = .ref p ∧ TupAt K ρ H p vs ∧ rds ρ H ds vs
  | .lcon ds, v => ∃ p vs, v = .ref p ∧ LstAt K ρ H p vs ∧ rds ρ H ds vs
  | .ftp ds, v => ∃ p vs, v = .ref p ∧ FtAt ρ H p vs ∧ rds ρ H ds vs
  | .ref n, v => ∃ p, v = .ref p ∧ ρ[n]? = some p
def rds (ρ : List Addr) (H : Hp) : List D → List V → Prop
  | [], vs => vs = []
  | d :: ds, vs => ∃ v r, vs = v :: r ∧ rd ρ H d v ∧ rds ρ H ds r
end
/-- keys: ints, texts; tuples of such -/
def dKey : D → Option Key
  | .int i => some (.inl i)
  | .str x => some (.inr x)
  | _ => none
def dKeys : List D → Option (List Key)
  | [] => some []
  | d :: ds => match dKey d, dKeys ds with
    | some k, some ks => some (k :: ks)
    | _, _ => none
def rkK (ρ : List Addr) (H : Hp) : List (D × D) → List (Key × V) → Prop
  | [], r => r = []
  | (k, d) :: kvs, r => ∃ key v t, r = (key, v) :: t ∧ dKey k = some key ∧ rd K ρ H d v ∧ rkK ρ H kvs t
def rkT (ρ : List Addr) (H : Hp) : List (D × D) → List (List Key × V) → Prop
  | [], r => r = []
  | (k, d) :: kvs, r => ∃ ks key v t, r = (key, v) :: t ∧ k = .tup ks ∧ dKeys ks = some key ∧ rd K ρ H d v ∧ rkT ρ H kvs t
/-- an object at p -/
def ro (ρ : List Addr) (H : Hp) (p : Addr) : O → Prop
  | .lst ds => ∃ vs, H p = some (.lst vs) ∧ rds K ρ H ds vs
  | .fro ds => ∃ vs o, H p = some (.frz o (.lst vs)) ∧ rds K ρ H ds vs
  | .dct false kvs => ∃ r, H p = some (.dK r) ∧ rkK K ρ H kvs r
  | .dct true kvs => ∃ r, H p = some (.dT r) ∧ rkT K ρ H kvs r
  | .frd false kvs => ∃ r o, H p = some (.frz o (.dK r)) ∧ rkK K ρ H kvs r
  | .frd true kvs => ∃ r o, H p = some (.frz o (.dT r)) ∧ rkT K ρ H kvs r
structure HRel (ρ : List Addr) (H : Hp) (m : M) : Prop where
  len : ρ.length = m.length
  nd : ρ.Nodup
  obj : ∀ (n : Nat) (p : Addr) (o : O), ρ[n]? = some p → m[n]? = some o → ro K ρ H p o
structure ER (ρ : List Addr) (H : Hp) (env : Env) (σ : SLT) : Prop where
  len : env.length = σ.length
  at_ : ∀ (i : Nat) (d : D), env[i]? = some (some d) → ∃ v, σ[i]? = some (some v) ∧ rd K ρ H d v
end
/-- what stays: tracked things that the data does not hold -/
structure Ext (ρ : List Addr) (H : Hp) (ρ' : List Addr) (H' : Hp) : Prop where
  pre : ∃ t, ρ' = ρ ++ t ∧ ∀ p ∈ t, H p = none
  fr : ∀ (p : Addr) (o : HO), H p = some o → p ∉ ρ → H' p = some o
  kp : ∀ p : Addr, H p ≠ none → H' p ≠ none
  fz : ∀ (p : Addr) (ob : Obj) (u : HO), H p = some (.frz ob u) → H' p = some (.frz ob u)

theorem Ext.refl (ρ : List Addr) (H : Hp) : Ext ρ H ρ H := ⟨⟨[], by simp⟩, fun _ _ h _ => h, fun _ h => h, fun _ _ _ h => h⟩
theorem Ext.notin {ρ ρ' : List Addr} {H H' : Hp} (e : Ext ρ H ρ' H') {p : Addr} {o : HO} (h : H p = some o) (n : p ∉ ρ) : p ∉ ρ' := by
  obtain ⟨t, rfl, ht⟩ := e.pre
  intro q
  rcases List.mem_append.mp q with q | q
  · exact n q
  · have := ht p q
    rw [h] at this
    cases this
theorem Ext.trans {ρ ρ1 ρ2 : List Addr} {H H1 H2 : Hp} (a : Ext ρ H ρ1 H1) (b : Ext ρ1 H1 ρ2 H2) : Ext ρ H ρ2 H2 := by
  obtain ⟨t, e1, ht⟩ := a.pre
  obtain ⟨t2, e2, ht2⟩ := b.pre
  refine ⟨⟨t ++ t2, by rw [e2, e1, List.append_assoc], fun p hp => ?_⟩, fun p o h n => b.fr p o (a.fr p o h n) (a.notin h n), fun p h => b.kp p (a.kp p h), fun p ob u h => b.fz p ob u (a.fz p ob u h)⟩
  rcases List.mem_append.mp hp with hp | hp
  · exact ht p hp
  · cases q : H p with
    | none => rfl
    | some o => exact absurd (ht2 p hp) (a.kp p (by rw [q]; simp))
theorem Ext.get {ρ ρ' : List Addr} {H H' : Hp} (e : Ext ρ H ρ' H') {n : Nat} {p : Addr} (h : ρ[n]? = some p) : ρ'[n]? = some p := by
  obtain ⟨t, rfl, _⟩ := e.pre
  rw [List.getElem?_append_left (List.getElem?_eq_some_iff.mp h).1]
  exact h
/-- what data leans on: the places held, the tuples -/
structure Tps (ρ : List Addr) (H : Hp) (ρ' : List Addr) (H' : Hp) : Prop where
  get : ∀ (n : Nat) (p : Addr), ρ[n]? = some p → ρ'[n]? = some p
  tp : ∀ (p : Addr) (vs : List V), p ∉ ρ → H p = some (.tup vs) → p ∉ ρ' ∧ H' p = some (.tup vs)
  fz : ∀ (p : Addr) (o : Obj) (u : HO), p ∉ ρ → H p = some (.frz o u) → p ∉ ρ' ∧ H' p = some (.frz o u)
theorem Ext.tps {ρ ρ' : List Addr} {H H' : Hp} (e : Ext ρ H ρ' H') : Tps ρ H ρ' H' := ⟨fun n p h => e.get h, fun p vs n h => ⟨e.notin h n, e.fr _ _ h n⟩, fun p o u n h => ⟨e.notin h n, e.fr _ _ h n⟩⟩
/-- what a walk leans on -/
structure Wk (ρ : List Addr) (H : Hp) (ρ' : List Addr) (H' : Hp) : Prop where
  tps : Tps ρ H ρ' H'
  fz : ∀ (p : Addr) (ob : Obj) (u : HO), H p = some (.frz ob u) → H' p = some (.frz ob u)
theorem Ext.wk {ρ ρ' : List Addr} {H H' : Hp} (e : Ext ρ H ρ' H') : Wk ρ H ρ' H' := ⟨e.tps, e.fz⟩
theorem Wk.get {ρ ρ' : List Addr} {H H' : Hp} (e : Wk ρ H ρ' H') {n : Nat} {p : Addr} (h : ρ[n]? = some p) : ρ'[n]? = some p := e.tps.get n p h
theorem Wk.trans {ρ ρ1 ρ2 : List Addr} {H H1 H2 : Hp} (a : Wk ρ H ρ1 H1) (b : Wk ρ1 H1 ρ2 H2) : Wk ρ H ρ2 H2 :=
  ⟨⟨fun n p h => b.get (a.get h), fun p vs n h => let ⟨x, y⟩ := a.tps.tp p vs n h; b.tps.tp p vs x y, fun p o u n h => let ⟨x, y⟩ := a.tps.fz p o u n h; b.tps.fz p o u x y⟩, fun p ob u h => b.fz p ob u (a.fz p ob u h)⟩
section
variable {K : PySem.W.Frag} {ρ ρ' : List Addr} {H H' : Hp}
theorem TupAt.mono {p : Addr} {vs : List V} (e : Ext ρ H ρ' H') (h : TupAt K ρ H p vs) : TupAt K ρ' H' p vs := by
  rcases h with ⟨n, h | ⟨o, h⟩⟩ | h
  · exact .inl ⟨e.notin h n, .inl (e.fr _ _ h n)⟩
  · exact .inl ⟨e.notin h n, .inr ⟨o, e.fr _ _ h n⟩⟩
  · exact .inr h
theorem LstAt.monoT {p : Addr} {vs : List V} (e : Tps ρ H ρ' H') (h : LstAt K ρ H p vs) : LstAt K ρ' H' p vs := by
  rcases h with ⟨n, o, h⟩ | h
  · exact .inl ⟨(e.fz p o _ n h).1, o, (e.fz p o _ n h).2⟩
  · exact .inr h
theorem LstAt.sq {p : Addr} {vs : List V} (h : LstAt K ρ H p vs) : SqL K H p vs := by
  rcases h with ⟨n, o, h⟩ | h
  · exact .inl (.inr ⟨o, h⟩)
  · exact .inr h
theorem TupAt.sq {p : Addr} {vs : List V} (h : TupAt K ρ H p vs) : SqT K H p vs := by
  rcases h with ⟨n, h⟩ | h
  · exact .inl h
  · exact .inr h
theorem TupAt.monoT {p : Addr} {vs : List V} (e : Tps ρ H ρ' H') (h : TupAt K ρ H p vs) : TupAt K ρ' H' p vs := by
  rcases h with ⟨n, h | ⟨o, h⟩⟩ | h
  · exact .inl ⟨(e.tp p vs n h).1, .inl (e.tp p vs n h).2⟩
  · exact .inl ⟨(e.fz p o _ n h).1, .inr ⟨o, (e.fz p o _ n h).2⟩⟩
  · exact .inr h
theorem FtAt.monoT {p : Addr} {vs : List V} (e : Tps ρ H ρ' H') (h : FtAt ρ H p vs) : FtAt ρ' H' p vs := by
  obtain ⟨n, o, h, d⟩ := h
  exact ⟨(e.fz p o _ n h).1, o, (e.fz p o _ n h).2, d⟩
theorem FtAt.tup {p : Addr} {vs : List V} (h : FtAt ρ H p vs) : TupAt K ρ H p vs := let ⟨n, o, h, _⟩ := h; .inl ⟨n, .inr ⟨o, h⟩⟩
mutual
theorem rd.monoT (e : Tps ρ H ρ' H') : ∀ {d : D} {v : V}, rd K ρ H d v → rd K ρ' H' d v
  | .non, _, h => by unfold rd at h ⊢; exact h
  | .bl _, _, h => by unfold rd at h ⊢; exact h
  | .int _, _, h => by unfold rd at h ⊢; exact h
  | .str _, _, h => by unfold rd at h ⊢; exact h
  | .tup ds, v, h => by
    unfold rd at h ⊢
    obtain ⟨p, vs, h1, ⟨n, h2⟩, h3⟩ := h
    exact ⟨p, vs, h1, e.tp p vs n h2, rds.monoT e h3⟩
  | .con ds, v, h => by
    unfold rd at h ⊢
    obtain ⟨p, vs, h1, h2, h3⟩ := h
    exact ⟨p, vs, h1, h2.monoT e, rds.monoT e h3⟩
  | .lcon ds, v, h => by
    unfold rd at h ⊢
    obtain ⟨p, vs, h1, h2, h3⟩ := h
    exact ⟨p, vs, h1, h2.monoT e, rds.monoT e h3⟩
  | .ftp ds, v, h => by
    unfold rd at h ⊢
    obtain ⟨p, vs, h1, h2, h3⟩ := h
    exact ⟨p, vs, h1, h2.monoT e, rds.monoT e h3⟩
  | .ref n, v, h => by
    unfold rd at h ⊢
    obtain ⟨p, h1, h2⟩ := h
    exact ⟨p, h1, e.get n p h2⟩
theorem rds.monoT (e : Tps ρ H ρ' H') : ∀ {ds : List D} {vs : List V}, rds K ρ H ds vs → rds K ρ' H' ds vs
  | [], _, h => by unfold rds at h ⊢; exact h
  | d :: ds, vs, h => by
    unfold rds at h ⊢
    obtain ⟨v, r, h1, h2, h3⟩ := h
    exact ⟨v, r, h1, rd.monoT e h2, rds.monoT e h3⟩
end
theorem rkK.monoT (e : Tps ρ H ρ' H') : ∀ {kvs : List (D × D)} {r : List (Key × V)}, rkK K ρ H kvs r → rkK K ρ' H' kvs r
  | [], _, h => by unfold rkK at h ⊢; exact h
  | (k, d) :: kvs, r, h => by
    unfold rkK at h ⊢
    obtain ⟨key, v, t, h1, h2, h3, h4⟩ := h
    exact ⟨key, v, t, h1, h2, h3.monoT e, rkK.monoT e h4⟩
theorem rkT.monoT (e : Tps ρ H ρ' H') : ∀ {kvs : List (D × D)} {r : List (List Key × V)}, rkT K ρ H kvs r → rkT K ρ' H' kvs r
  | [], _, h => by unfold rkT at h ⊢; exact h
  | (k, d) :: kvs, r, h => by
    unfold rkT at h ⊢
    obtain ⟨ks, key, v, t, h1, h2, h2', h3, h4⟩ := h
    exact ⟨ks, key, v, t, h1, h2, h2', h3.monoT e, rkT.monoT e h4⟩
theorem rd.mono (e : Ext ρ H ρ' H') {d : D} {v : V} (h : rd K ρ H d v) : rd K ρ' H' d v := h.monoT e.tps
theorem rds.mono (e : Ext ρ H ρ' H') {d : List D} {v : List V} (h : rds K ρ H d v) : rds K ρ' H' d v := h.monoT e.tps
theorem rkK.mono (e : Ext ρ H ρ' H') {kvs : List (D × D)} {r : List (Key × V)} (h : rkK K ρ H kvs r) : rkK K ρ' H' kvs r := h.monoT e.tps
theorem rkT.mono (e : Ext ρ H ρ' H') {kvs : List (D × D)} {r : List (List Key × V)} (h : rkT K ρ H kvs r) : rkT K ρ' H' kvs r := h.monoT e.tps
theorem ER.mono (e : Ext ρ H ρ' H') {env : Env} {σ : SLT} (h : ER K ρ H env σ) : ER K ρ' H' env σ :=
  ⟨h.len, fun i d q => by
    obtain ⟨v, h1, h2⟩ := h.at_ i d q
    exact ⟨v, h1, h2.mono e⟩⟩
theorem rds.length : ∀ {ds : List D} {vs : List V}, rds K ρ H ds vs → ds.length = vs.length
  | [], _, h => by unfold rds at h; rw [h]; rfl
  | d :: ds, vs, h => by
    unfold rds at h
    obtain ⟨v, r, rfl, _, h3⟩ := h
    simp [h3.length]
theorem rds.get : ∀ {ds : List D} {vs : List V} {i : Nat} {d : D}, rds K ρ H ds vs → ds[i]? = some d → ∃ v, vs[i]? = some v ∧ rd K ρ H d v
  | [], _, _, _, _, q => by simp at q
  | d :: ds, vs, 0, d', h, q => by
    unfold rds at h
    obtain ⟨v, r, rfl, h2, h3⟩ := h
    simp at q
    subst q
    exact ⟨v, by simp, h2⟩
  | d :: ds, vs, i + 1, d', h, q => by
    unfold rds at h
    obtain ⟨v, r, rfl, h2, h3⟩ := h
    simp at q
    obtain ⟨v', h4, h5⟩ := h3.get q
    exact ⟨v', by simpa using h4, h5⟩
theorem rds.append : ∀ {ds es : List D} {vs ws : List V}, rds K ρ H ds vs → rds K ρ H es ws → rds K ρ H (ds ++ es) (vs ++ ws)
  | [], _, _, _, h, g => by unfold rds at h; subst h; simpa using g
  | d :: ds, es, vs, ws, h, g => by
    unfold rds at h
    obtain ⟨v, r, rfl, h2, h3⟩ := h
    show rds K ρ H (d :: (ds ++ es)) (v :: (r ++ ws))
    unfold rds
    exact ⟨v, _, rfl, h2, h3.append g⟩
theorem rds.nil : rds K ρ H [] [] := by unfold rds; rfl
theorem rds.cons {d : D} {v : V} {ds : List D} {vs : List V} (h : rd K ρ H d v) (g : rds K ρ H ds vs) : rds K ρ H (d :: ds) (v :: vs) := by
  unfold rds; exact ⟨v, vs, rfl, h, g⟩
theorem rds.set {d : D} {v : V} (h : rd K ρ H d v) : ∀ {ds : List D} {vs : List V} (i : Nat), rds K ρ H ds vs → rds K ρ H (ds.set i d) (vs.set i v)
  | [], _, i, g => by unfold rds at g; subst g; cases i <;> exact rds.nil
  | e :: ds, vs, 0, g => by
    unfold rds at g
    obtain ⟨w, r, rfl, _, h3⟩ := g
    exact rds.cons h h3
  | e :: ds, vs, i + 1, g => by
    unfold rds at g
    obtain ⟨w, r, rfl, h2, h3⟩ := g
    exact rds.cons h2 (rds.set h i h3)
theorem rds.take : ∀ {ds : List D} {vs : List V} (n : Nat), rds K ρ H ds vs → rds K ρ H (ds.take n) (vs.take n)
  | _, _, 0, _ => rds.nil
  | [], _, n + 1, g => by unfold rds at g; subst g; exact rds.nil
  | d :: ds, vs, n + 1, g => by
    unfold rds at g
    obtain ⟨w, r, rfl, h2, h3⟩ := g
    exact rds.cons h2 (rds.take n h3)
theorem rds.drop : ∀ {ds : List D} {vs : List V} (n : Nat), rds K ρ H ds vs → rds K ρ H (ds.drop n) (vs.drop n)
  | _, _, 0, g => g
  | [], _, n + 1, g => by unfold rds at g; subst g; exact rds.nil
  | d :: ds, vs, n + 1, g => by
    unfold rds at g
    obtain ⟨w, r, rfl, h2, h3⟩ := g
    exact rds.drop n h3
theorem rds.ints : ∀ (ns : List Int), rds K ρ H (ns.map D.int) (ns.map V.int)
  | [] => rds.nil
  | n :: ns => rds.cons (by unfold rd; rfl) (rds.ints ns)
theorem rds.reverse : ∀ {ds : List D} {vs : List V}, rds K ρ H ds vs → rds K ρ H ds.reverse vs.reverse
  | [], _, g => by unfold rds at g; subst g; exact rds.nil
  | d :: ds, vs, g => by
    unfold rds at g
    obtain ⟨w, r, rfl, h2, h3⟩ := g
    rw [List.reverse_cons, List.reverse_cons]
    exact h3.reverse.append (rds.cons h2 rds.nil)
theorem ro.keepT {p : Addr} {o : O} (e : Tps ρ H ρ' H') (kp : H' p = H p) (q : ro K ρ H p o) : ro K ρ' H' p o := by
  cases o with
  | lst ds => obtain ⟨vs, a, b⟩ := q; exact ⟨vs, kp.trans a, b.monoT e⟩
  | fro ds => obtain ⟨vs, o, a, b⟩ := q; exact ⟨vs, o, kp.trans a, b.monoT e⟩
  | dct t kvs =>
    cases t with
    | false => obtain ⟨r, a, b⟩ := q; exact ⟨r, kp.trans a, b.monoT e⟩
    | true => obtain ⟨r, a, b⟩ := q; exact ⟨r, kp.trans a, b.monoT e⟩
  | frd t kvs =>
    cases t with
    | false => obtain ⟨r, o, a, b⟩ := q; exact ⟨r, o, kp.trans a, b.monoT e⟩
    | true => obtain ⟨r, o, a, b⟩ := q; exact ⟨r, o, kp.trans a, b.monoT e⟩
theorem ro.keep {p : Addr} {o : O} (e : Ext ρ H ρ' H') (kp : H' p = H p) (q : ro K ρ H p o) : ro K ρ' H' p o := q.keepT e.tps kp
theorem ro.here {p : Addr} {o : O} (q : ro K ρ H p o) : H p ≠ none := by
  intro z
  cases o with
  | lst ds => obtain ⟨vs, a, b⟩ := q; rw [z] at a; cases a
  | fro ds => obtain ⟨vs, o, a, b⟩ := q; rw [z] at a; cases a
  | dct t kvs =>
    cases t with
    | false => obtain ⟨r, a, b⟩ := q; rw [z] at a; cases a
    | true => obtain ⟨r, a, b⟩ := q; rw [z] at a; cases a
  | frd t kvs =>
    cases t with
    | false => obtain ⟨r, o, a, b⟩ := q; rw [z] at a; cases a
    | true => obtain ⟨r, o, a, b⟩ := q; rw [z] at a; cases a
/-- the heap's relation is kept by what leaves the held objects as they are -/
theorem HRel.keep {m : M} (h : HRel K ρ H m) (e : Ext ρ H ρ H') (k : ∀ p ∈ ρ, H' p = H p) : HRel K ρ H' m :=
  ⟨h.len, h.nd, fun n p o h1 h2 => (h.obj n p o h1 h2).keep e (k p (List.mem_of_getElem? h1))⟩
theorem HRel.here {m : M} (h : HRel K ρ H m) {p : Addr} (hp : p ∈ ρ) : H p ≠ none := by
  obtain ⟨n, hn, e⟩ := List.getElem_of_mem hp
  have e1 : ρ[n]? = some p := by rw [List.getElem?_eq_getElem hn, e]
  have hm : n < m.length := by rw [← h.len]; exact hn
  exact (h.obj n p m[n] e1 (List.getElem?_eq_getElem hm)).here
theorem HRel.keepT {m : M} (h : HRel K ρ H m) (e : Tps ρ H ρ H') (k : ∀ p ∈ ρ, H' p = H p) : HRel K ρ H' m :=
  ⟨h.len, h.nd, fun n p o h1 h2 => (h.obj n p o h1 h2).keepT e (k p (List.mem_of_getElem? h1))⟩
theorem ER.monoT (e : Tps ρ H ρ' H') {env : Env} {σ : SLT} (h : ER K ρ H env σ) : ER K ρ' H' env σ :=
  ⟨h.len, fun i d q => by
    obtain ⟨v, h1, h2⟩ := h.at_ i d q
    exact ⟨v, h1, h2.monoT e⟩⟩
/-- a new thing that the data does not hold -/
theorem Ext.new {p : Addr} {o : HO} (hp : H p = none) : Ext ρ H ρ (upd H p o) :=
  ⟨⟨[], by simp⟩, fun q u h _ => by rw [upd_ne (ne_of_none h hp)]; exact h, fun q h => by
    by_cases e : q = p
    · subst e; exact absurd hp h
    · rw [upd_ne e]; exact h, fun q ob u h => by rw [upd_ne (ne_of_none h hp)]; exact h⟩
theorem HRel.new {m : M} {p : Addr} {o : HO} (h : HRel K ρ H m) (hp : H p = none) : HRel K ρ (upd H p o) m :=
  h.keep (Ext.new hp) fun q hq => upd_ne fun e => h.here hq (e ▸ hp)
/-- a new thing that it holds -/
theorem Ext.laid {p : Addr} {o : HO} (hp : H p = none) : Ext ρ H (ρ ++ [p]) (upd H p o) :=
  ⟨⟨[p], rfl, fun q hq => by simp at hq; subst hq; exact hp⟩, fun q u h _ => by rw [upd_ne (ne_of_none h hp)]; exact h, fun q h => by
    by_cases e : q = p
    · subst e; exact absurd hp h
    · rw [upd_ne e]; exact h, fun q ob u h => by rw [upd_ne (ne_of_none h hp)]; exact h⟩
theorem HRel.laid {m : M} {p : Addr} {u : HO} {o : O} (h : HRel K ρ H m) (hp : H p = none) (ho : ro K (ρ ++ [p]) (upd H p u) p o) : HRel K (ρ ++ [p]) (upd H p u) (m ++ [o]) := by
  have e : Ext ρ H (ρ ++ [p]) (upd H p u) := Ext.laid hp
  have hnin : p ∉ ρ := fun z => h.here z hp
  refine ⟨by simp [h.len], ?_, fun n q x h1 h2 => ?_⟩
  · rw [List.nodup_append]
    exact ⟨h.nd, by simp, fun a ha b hb => by simp at hb; subst hb; intro z; exact hnin (z ▸ ha)⟩
  · by_cases hn : n < ρ.length
    · rw [List.getElem?_append_left hn] at h1
      rw [List.getElem?_append_left (by rw [← h.len]; exact hn)] at h2
      have q0 := h.obj n q x h1 h2
      have kq : upd H p u q = H q := upd_ne fun z => hnin (z ▸ List.mem_of_getElem? h1)
      exact q0.keep e kq
    · have hlen : n < (ρ ++ [p]).length := (List.getElem?_eq_some_iff.mp h1).1
      have en : n = ρ.length := by simp at hlen; omega
      subst en
      rw [List.getElem?_append_right (Nat.le_refl _)] at h1
      rw [h.len, List.getElem?_append_right (Nat.le_refl _)] at h2
      simp at h1 h2
      subst h1 h2
      exact ho
/-- an object that it holds is written -/
theorem Ext.put {p : Addr} {o : HO} (hp : p ∈ ρ) (hs : H p ≠ none) (hfz : ∀ ob u, H p ≠ some (.frz ob u)) : Ext ρ H ρ (upd H p o) :=
  ⟨⟨[], by simp⟩, fun q u h n => by rw [upd_ne (fun z => n (by rw [z]; exact hp))]; exact h, fun q h => by
    by_cases e : q = p
    · subst e; rw [upd_same]; simp
    · rw [upd_ne e]; exact h, fun q ob u h => by rw [upd_ne (fun z => hfz ob u (by rw [← z]; exact h))]; exact h⟩
theorem Tps.put {p : Addr} {o : HO} (hp : p ∈ ρ) : Tps ρ H ρ (upd H p o) := ⟨fun _ _ e => e, fun q us n e => ⟨n, by rw [upd_ne (fun z => n (by rw [z]; exact hp))]; exact e⟩, fun q ob u n e => ⟨n, by rw [upd_ne (fun z => n (by rw [z]; exact hp))]; exact e⟩⟩
theorem HRel.put {m : M} {n : Nat} {p : Addr} {u : HO} {o : O} (h : HRel K ρ H m) (hn : ρ[n]? = some p) (ho : ro K ρ (upd H p u) p o) : HRel K ρ (upd H p u) (m.set n o) := by
  have hp := List.mem_of_getElem? hn
  have e : Tps ρ H ρ (upd H p u) := Tps.put hp
  refine ⟨by rw [List.length_set]; exact h.len, h.nd, fun k q x h1 h2 => ?_⟩
  by_cases hk : k = n
  · subst hk
    rw [hn] at h1
    cases h1
    rw [List.getElem?_set_self (by rw [← h.len]; exact (List.getElem?_eq_some_iff.mp hn).1)] at h2
    cases h2
    exact ho
  · rw [List.getElem?_set_ne (Ne.symm hk)] at h2
    have q0 := h.obj k q x h1 h2
    have hqp : q ≠ p := fun z => by
      subst z
      obtain ⟨l1, e1⟩ := List.getElem?_eq_some_iff.mp h1
      obtain ⟨l2, e2⟩ := List.getElem?_eq_some_iff.mp hn
      exact hk ((List.getElem_inj h.nd).mp (e1.trans e2.symm))
    have kq : upd H p u q = H q := upd_ne hqp
    exact q0.keepT e kq
theorem ER.set {env : Env} {σ : SLT} {i : Nat} {d : D} {v : V} (h : ER K ρ H env σ) (hd : rd K ρ H d v) : ER K ρ H (env.set i (some d)) (σ.set i (some v)) := by
  refine ⟨by simp [h.len], fun j x q => ?_⟩
  by_cases hj : j = i
  · subst hj
    have hl : j < env.length := by
      have := (List.getElem?_eq_some_iff.mp q).1
      simpa using this
    rw [List.getElem?_set_self hl] at q
    cases q
    exact ⟨v, List.getElem?_set_self (by rw [← h.len]; exact hl), hd⟩
  · rw [List.getElem?_set_ne (Ne.symm hj)] at q
    rw [List.getElem?_set_ne (Ne.symm hj)]
    exact h.at_ j x q
end
end EV

set_option Elab.async false
set_option linter.all false
set_option maxRecDepth 100000
set_option maxHeartbeats 2000000
namespace EV
open PySem PySem.Spec PyProof.Rows L2

/-! ### the readings of plain functions -/
inductive Rs (α : Type) where
  | ok (a : α) (m : M) | ex (c : Nat) (m : M)
def bnd {α β : Type} (x : Option (Rs α)) (k : α → M → Option (Rs β)) : Option (Rs β) := match x with
  | none => none
  | some (.ok a m) => k a m
  | some (.ex c m) => some (.ex c m)
abbrev ME := Env → M → Option (Rs D)
abbrev MT := Env → M → Option (Rs Bool)
abbrev MA := Env → M → Option (Rs (List D))
inductive Fl where
  | nx (env : Env) | rt (d : D) | bk (env : Env) | ct (env : Env)
abbrev MS := Env → M → Option (Rs Fl)
abbrev G1 := D → M → Option (Rs D)
abbrev G2 := D → D → M → Option (Rs D)

/-- what an exception is to reach: its class by number, the wish -/
structure Wi where
  E : XK
  cls : Nat → Addr
section
variable (K : PySem.W.Frag) (w : Wi)
def W {α : Type} (ρ : List Addr) (H : Hp) (o : Option (Rs α)) (post : α → M → List Addr → Hp → Prop) : Prop := match o with
  | none => False
  | some (.ok a m) => ∀ ρ' H', Ext ρ H ρ' H' → HRel K ρ' H' m → post a m ρ' H'
  | some (.ex c m) => ∀ ρ' H', Ext ρ H ρ' H' → HRel K ρ' H' m → w.E (.ref (w.cls c)) none H'
def tE (f : ME) : TE := fun σ H Q => ∃ ρ env m, HRel K ρ H m ∧ ER K ρ H env σ ∧ W K w ρ H (f env m) fun d _ ρ' H' => ∀ v, rd K ρ' H' d v → Q v H'
def tT (f : MT) : TT := fun σ H Q => ∃ ρ env m, HRel K ρ H m ∧ ER K ρ H env σ ∧ W K w ρ H (f env m) fun b _ _ H' => Q b H'
def tA (f : MA) : TA := fun σ H Q => ∃ ρ env m, HRel K ρ H m ∧ ER K ρ H env σ ∧ W K w ρ H (f env m) fun ds _ ρ' H' => ∀ vs, rds K ρ' H' ds vs → Q vs H'
def EndF (Dn : Ends) (ρ : List Addr) (H : Hp) : Fl → Prop
  | .nx env => ∀ σ, ER K ρ H env σ → Dn.nx σ H
  | .rt d => ∀ v, rd K ρ H d v → Dn.rt v H
  | .bk env => ∀ σ, ER K ρ H env σ → Dn.bk σ H
  | .ct env => ∀ σ, ER K ρ H env σ → Dn.ct σ H
def tS (f : MS) : TS := fun Dn σ H => ∃ ρ env m, HRel K ρ H m ∧ ER K ρ H env σ ∧ W K w ρ H (f env m) fun fl _ ρ' H' => EndF K Dn ρ' H' fl
end
section
variable {K : PySem.W.Frag} {w : Wi} {ρ ρ1 : List Addr} {H H1 : Hp} {α β : Type}
theorem W.mono {o : Option (Rs α)} {post : α → M → List Addr → Hp → Prop} (e : Ext ρ H ρ1 H1) (h : W K w ρ H o post) : W K w ρ1 H1 o post := by
  cases o with
  | none => exact h
  | some r =>
    cases r with
    | ok a m => exact fun ρ' H' e' hm => h ρ' H' (e.trans e') hm
    | ex c m => exact fun ρ' H' e' hm => h ρ' H' (e.trans e') hm
theorem W.imp {o : Option (Rs α)} {post post' : α → M → List Addr → Hp → Prop} (h : W K w ρ H o post) (k : ∀ a m ρ' H', Ext ρ H ρ' H' → HRel K ρ' H' m → post a m ρ' H' → post' a m ρ' H') : W K w ρ H o post' := by
  cases o with
  | none => exact h
  | some r =>
    cases r with
    | ok a m => exact fun ρ' H' e' hm => k a m ρ' H' e' hm (h ρ' H' e' hm)
    | ex c m => exact h
theorem W.bnd {x : Option (Rs α)} {k : α → M → Option (Rs β)} {post : β → M → List Addr → Hp → Prop} (h : W K w ρ H (bnd x k) post) : W K w ρ H x fun a m1 ρ1 H1 => W K w ρ1 H1 (k a m1) post := by
  cases x with
  | none => exact h
  | some r =>
    cases r with
    | ok a m => exact fun ρ' H' e' hm => h.mono e'
    | ex c m => exact h
theorem W.ok {a : α} {m : M} {post : α → M → List Addr → Hp → Prop} (h : W K w ρ H (some (.ok a m)) post) (hm : HRel K ρ H m) : post a m ρ H := h ρ H (Ext.refl _ _) hm
end

section
variable {X : Cx} {w : Wi}
theorem _root_.L2.PE.weak {e : Expr} {t t' : TE} (h : PE X e t) (w : ∀ σ H Q, t' σ H Q → t σ H Q) : PE X e t' := ⟨fun pins s σ H Q I q => h.run pins s σ H Q I (w _ _ _ q)⟩
theorem _root_.L2.PT.weak {e : Expr} {t t' : TT} (h : PT X e t) (w : ∀ σ H Q, t' σ H Q → t σ H Q) : PT X e t' := ⟨fun pins s σ H Q I q => h.run pins s σ H Q I (w _ _ _ q)⟩
theorem _root_.L2.PW.weak {e : Expr} {t t' : TT} (h : PW X e t) (w : ∀ σ H Q, t' σ H Q → t σ H Q) : PW X e t' := ⟨fun wh pins s σ H Q I q => h.run wh pins s σ H Q I (w _ _ _ q)⟩
theorem _root_.L2.PA.weak {e : List Expr} {t t' : TA} (h : PA X e t) (w : ∀ σ H Q, t' σ H Q → t σ H Q) : PA X e t' := ⟨fun pos pins s σ H Q I q => h.run pos pins s σ H Q I (w _ _ _ q)⟩
theorem _root_.L2.PS.weak {e : Stmt} {t t' : TS} (h : PS X e t) (w : ∀ D σ H, t' D σ H → t D σ H) : PS X e t' := ⟨fun pins s σ H D I q => h.run pins s σ H D I (w _ _ _ q)⟩
theorem _root_.L2.PSs.weak {e : List Stmt} {t t' : TS} (h : PSs X e t) (w : ∀ D σ H, t' D σ H → t D σ H) : PSs X e t' := ⟨fun pins s σ H D I q => h.run pins s σ H D I (w _ _ _ q)⟩

theorem rd_bl {K : PySem.W.Frag} {ρ : List Addr} {H : Hp} {b : Bool} {v : V} (h : rd K ρ H (.bl b) v) : v = .bl b := by unfold rd at h; exact h
theorem rd_int {K : PySem.W.Frag} {ρ : List Addr} {H : Hp} {b : Int} {v : V} (h : rd K ρ H (.int b) v) : v = .int b := by unfold rd at h; exact h
theorem rd_str {K : PySem.W.Frag} {ρ : List Addr} {H : Hp} {b : Str} {v : V} (h : rd K ρ H (.str b) v) : v = .str b := by unfold rd at h; exact h
theorem rd_non {K : PySem.W.Frag} {ρ : List Addr} {H : Hp} {v : V} (h : rd K ρ H .non v) : v = .non := by unfold rd at h; exact h
theorem rd_ref {K : PySem.W.Frag} {ρ : List Addr} {H : Hp} {n : Nat} {v : V} (h : rd K ρ H (.ref n) v) : ∃ p, v = .ref p ∧ ρ[n]? = some p := by unfold rd at h; exact h
theorem rd_tup {K : PySem.W.Frag} {ρ : List Addr} {H : Hp} {ds : List D} {v : V} (h : rd K ρ H (.tup ds) v) : ∃ p vs, v = .ref p ∧ (p ∉ ρ ∧ H p = some (.tup vs)) ∧ rds K ρ H ds vs := by unfold rd at h; exact h
theorem rd_con {K : PySem.W.Frag} {ρ : List Addr} {H : Hp} {ds : List D} {v : V} (h : rd K ρ H (.con ds) v) : ∃ p vs, v = .ref p ∧ TupAt K ρ H p vs ∧ rds K ρ H ds vs := by unfold rd at h; exact h
theorem rd_ftp {K : PySem.W.Frag} {ρ : List Addr} {H : Hp} {ds : List D} {v : V} (h : rd K ρ H (.ftp ds) v) : ∃ p vs, v = .ref p ∧ FtAt ρ H p vs ∧ rds K ρ H ds vs := by unfold rd at h; exact h
/-- a tuple, tracked or written -/
def asT : D → Option (List D)
  | .tup ds => some ds
  | .con ds => some ds
  | .ftp ds => some ds
  | _ => none
theorem rd_asT {K : PySem.W.Frag} {ρ : List Addr} {H : Hp} {d : D} {ds : List D} {v : V} (e : asT d = some ds) (h : rd K ρ H d v) : ∃ p vs, v = .ref p ∧ SqT K H p vs ∧ rds K ρ H ds vs := by
  cases d with
  | tup es => cases e; obtain ⟨p, vs, a, b, c⟩ := rd_tup h; exact ⟨p, vs, a, .inl (.inl b.2), c⟩
  | con es => cases e; obtain ⟨p, vs, a, b, c⟩ := rd_con h; exact ⟨p, vs, a, b.sq, c⟩
  | ftp es => cases e; obtain ⟨p, vs, a, b, c⟩ := rd_ftp h; exact ⟨p, vs, a, (FtAt.tup (K := K) b).sq, c⟩
  | non => cases e
  | bl _ => cases e
  | int _ => cases e
  | str _ => cases e
  | lcon _ => cases e
  | ref _ => cases e
theorem rd_lcon {K : PySem.W.Frag} {ρ : List Addr} {H : Hp} {ds : List D} {v : V} (h : rd K ρ H (.lcon ds) v) : ∃ p vs, v = .ref p ∧ LstAt K ρ H p vs ∧ rds K ρ H ds vs := by unfold rd at h; exact h
theorem rd_blI {K : PySem.W.Frag} {ρ : List Addr} {H : Hp} {b : Bool} : rd K ρ H (.bl b) (.bl b) := by unfold rd; rfl
theorem rd_intI {K : PySem.W.Frag} {ρ : List Addr} {H : Hp} {b : Int} : rd K ρ H (.int b) (.int b) := by unfold rd; rfl
theorem rd_strI {K : PySem.W.Frag} {ρ : List Addr} {H : Hp} {b : Str} : rd K ρ H (.str b) (.str b) := by unfold rd; rfl
theorem rd_nonI {K : PySem.W.Frag} {ρ : List Addr} {H : Hp} : rd K ρ H .non .non := by unfold rd; rfl
theorem rd_refI {K : PySem.W.Frag} {ρ : List Addr} {H : Hp} {n : Nat} {p : Addr} (h : ρ[n]? = some p) : rd K ρ H (.ref n) (.ref p) := by unfold rd; exact ⟨p, rfl, h⟩
theorem rd_tupI {K : PySem.W.Frag} {ρ : List Addr} {H : Hp} {ds : List D} {p : Addr} {vs : List V} (h : p ∉ ρ ∧ H p = some (.tup vs)) (g : rds K ρ H ds vs) : rd K ρ H (.tup ds) (.ref p) := by unfold rd; exact ⟨p, vs, rfl, h, g⟩
theorem rd_conI {K : PySem.W.Frag} {ρ : List Addr} {H : Hp} {ds : List D} {p : Addr} {vs : List V} (h : TupAt K ρ H p vs) (g : rds K ρ H ds vs) : rd K ρ H (.con ds) (.ref p) := by unfold rd; exact ⟨p, vs, rfl, h, g⟩
theorem rd_toCon {K : PySem.W.Frag} {ρ : List Addr} {H : Hp} {ds : List D} {v : V} (h : rd K ρ H (.tup ds) v) : rd K ρ H (.con ds) v := by
  obtain ⟨p, vs, rfl, a, b⟩ := rd_tup h
  exact rd_conI (.inl ⟨a.1, .inl a.2⟩) b
theorem rd_ftCon {K : PySem.W.Frag} {ρ : List Addr} {H : Hp} {ds : List D} {v : V} (h : rd K ρ H (.ftp ds) v) : rd K ρ H (.con ds) v := by
  obtain ⟨p, vs, rfl, a, b⟩ := rd_ftp h
  exact rd_conI a.tup b

/-! ### names, constants -/
def mVar (i : Nat) : ME := fun env m => match env[i]? with
  | some (some d) => some (.ok d m)
  | _ => none
theorem se_var {e : Expr} {i : Nat} (h : PE X e (tVar i)) : PE X e (tE X.K w (mVar i)) := h.weak fun σ H Q q => by
  obtain ⟨ρ, env, m, hm, he, q⟩ := q
  unfold mVar at q
  split at q
  · rename_i d' e1
    obtain ⟨v, e2, r⟩ := he.at_ _ _ e1
    exact ⟨v, e2, q.ok hm v r⟩
  · exact q.elim
def mC (d : D) : ME := fun _ m => some (.ok d m)
theorem se_c {e : Expr} {d : D} {v : V} (h : PE X e (tC v)) (r : ∀ ρ H, rd X.K ρ H d v) : PE X e (tE X.K w (mC d)) := h.weak fun σ H Q q => by
  obtain ⟨ρ, env, m, hm, he, q⟩ := q
  exact q.ok hm v (r ρ H)
theorem se_int {i j pos} : PE X (.Constant (.int i) j pos) (tE X.K w (mC (.int i))) := se_c pe_int fun _ _ => rd_intI
theorem se_bl {i j pos} : PE X (.Constant (.bool i) j pos) (tE X.K w (mC (.bl i))) := se_c pe_bl fun _ _ => rd_blI
theorem se_non {j pos} : PE X (.Constant .none j pos) (tE X.K w (mC .non)) := se_c pe_non fun _ _ => rd_nonI
theorem se_str {x j pos} : PE X (.Constant (.str x) j pos) (tE X.K w (mC (.str x))) := se_c pe_str fun _ _ => rd_strI

/-! ### operators -/
/-- a rule by values, and a function on data -/
def OpD (K : PySem.W.Frag) (w : Wi) (r : R2) (g : G2) : Prop :=
  ∀ ρ H m x y dx dy (Q : VK), HRel K ρ H m → rd K ρ H dx x → rd K ρ H dy y → W K w ρ H (g dx dy m) (fun d _ ρ' H' => ∀ v, rd K ρ' H' d v → Q v H') → r x y H Q
def mOp (g : G2) (fa fb : ME) : ME := fun env m => bnd (fa env m) fun x m1 => bnd (fb env m1) fun y m2 => g x y m2
section
variable {K : PySem.W.Frag} {σ : SLT} {H : Hp}
theorem op_lift {r : R2} {g : G2} {fa fb : ME} (h : OpD K w r g) {Q : VK} (q : tE K w (mOp g fa fb) σ H Q) : tOp r (tE K w fa) (tE K w fb) σ H Q := by
  obtain ⟨ρ, env, m, hm, he, q⟩ := q
  refine ⟨ρ, env, m, hm, he, q.bnd.imp fun dx m1 ρ1 H1 e1 hm1 q1 x r1 => ⟨ρ1, env, m1, hm1, he.mono e1, q1.bnd.imp fun dy m2 ρ2 H2 e2 hm2 q2 y r2 => ?_⟩⟩
  exact h ρ2 H2 m2 x y dx dy Q hm2 (r1.mono e2) r2 q2
/-- a < b < c -/
def mChain (g g' : G2) (fa fb fc : ME) : ME := fun env m => bnd (fa env m) fun x m1 => bnd (fb env m1) fun y m2 => bnd (g x y m2) fun b m3 => match b with
  | .bl true => bnd (fc env m3) fun z m4 => g' y z m4
  | .bl false => some (.ok (.bl false) m3)
  | _ => none
theorem chain_lift {r r' : R2} {g g' : G2} {fa fb fc : ME} (h : OpD K w r g) (h' : OpD K w r' g') {Q : VK} (q : tE K w (mChain g g' fa fb fc) σ H Q) : tChain r r' (tE K w fa) (tE K w fb) (tE K w fc) σ H Q := by
  obtain ⟨ρ, env, m, hm, he, q⟩ := q
  refine ⟨ρ, env, m, hm, he, q.bnd.imp fun dx m1 ρ1 H1 e1 hm1 q1 x r1 => ⟨ρ1, env, m1, hm1, he.mono e1, q1.bnd.imp fun dy m2 ρ2 H2 e2 hm2 q2 y r2 => ?_⟩⟩
  refine h ρ2 H2 m2 x y dx dy _ hm2 (r1.mono e2) r2 (q2.bnd.imp fun db m3 ρ3 H3 e3 hm3 q3 v r3 => ?_)
  split at q3
  · refine ⟨true, rd_bl r3, ?_⟩
    rw [if_pos rfl]
    refine ⟨ρ3, env, m3, hm3, he.mono (e1.trans (e2.trans e3)), q3.bnd.imp fun dz m4 ρ4 H4 e4 hm4 q4 z r4 => ?_⟩
    exact h' ρ4 H4 m4 y z dy dz Q hm4 (r2.mono (e3.trans e4)) r4 q4
  · refine ⟨false, rd_bl r3, ?_⟩
    rw [if_neg Bool.false_ne_true]
    exact q3.ok hm3 _ rd_blI
  · exact q3.elim
/-- an operator of one operand -/
def mUn (g : G1) (fa : ME) : ME := fun env m => bnd (fa env m) g
def UnD (K : PySem.W.Frag) (w : Wi) (r : V → Hp → VK → Prop) (g : G1) : Prop :=
  ∀ ρ H m x dx (Q : VK), HRel K ρ H m → rd K ρ H dx x → W K w ρ H (g dx m) (fun d _ ρ' H' => ∀ v, rd K ρ' H' d v → Q v H') → r x H Q
theorem un_lift {r : V → Hp → VK → Prop} {g : G1} {fa : ME} (h : UnD K w r g) {Q : VK} (q : tE K w (mUn g fa) σ H Q) : tE K w fa σ H fun x H1 => r x H1 Q := by
  obtain ⟨ρ, env, m, hm, he, q⟩ := q
  exact ⟨ρ, env, m, hm, he, q.bnd.imp fun dx m1 ρ1 H1 e1 hm1 q1 x r1 => h ρ1 H1 m1 x dx Q hm1 r1 q1⟩
end
theorem se_op {op : Operator} {a b : Expr} {pos : Pos} {fa fb : ME} {r : R2} {g : G2} (ho : OpR X (binaryOp op) r) (h : OpD X.K w r g) (ha : PE X a (tE X.K w fa)) (hb : PE X b (tE X.K w fb)) :
    PE X (.BinOp a op b pos) (tE X.K w (mOp g fa fb)) := (pe_op ho ha hb).weak fun _ _ _ q => op_lift h q
theorem se_cmp {op : CmpOp} {a b : Expr} {pos : Pos} {fa fb : ME} {r : R2} {g : G2} (ho : OpR X (compareOp op) r) (h : OpD X.K w r g) (ha : PE X a (tE X.K w fa)) (hb : PE X b (tE X.K w fb)) (hm : behindInMarks op b = false) :
    PE X (.Compare a [op] [b] pos) (tE X.K w (mOp g fa fb)) := (pe_cmpR ho ha hb hm).weak fun _ _ _ q => op_lift h q
theorem se_chain {op op' : CmpOp} {a b c : Expr} {pos : Pos} {fa fb fc : ME} {r r' : R2} {g g' : G2} (ho : OpR X (compareOp op) r) (ho' : OpR X (compareOp op') r') (h : OpD X.K w r g) (h' : OpD X.K w r' g')
    (ha : PE X a (tE X.K w fa)) (hb : PE X b (tE X.K w fb)) (hc : PE X c (tE X.K w fc)) (hlm : lastMarks [op, op'] [b, c] = false) : PE X (.Compare a [op, op'] [b, c] pos) (tE X.K w (mChain g g' fa fb fc)) :=
  (pe_chain ho ho' ha hb hc hlm).weak fun σ H Q q => chain_lift h h' q
theorem se_un {op : UnaryOp} {a : Expr} {pos : Pos} {fa : ME} {r : V → Hp → VK → Prop} {g : G1} (ho : UnR X (unaryOp op) r) (h : UnD X.K w r g) (ha : PE X a (tE X.K w fa)) : PE X (.UnaryOp op a pos) (tE X.K w (mUn g fa)) :=
  (pe_un ho ha).weak fun _ _ _ q => un_lift h q

/-! ### lists of expressions -/
def mNil : MA := fun _ m => some (.ok [] m)
def mCons (f : ME) (g : MA) : MA := fun env m => bnd (f env m) fun d m1 => bnd (g env m1) fun ds m2 => some (.ok (d :: ds) m2)
theorem sa_nil : PA X [] (tA X.K w mNil) := pa_nil.weak fun σ H Q q => by
  obtain ⟨ρ, env, m, hm, he, q⟩ := q
  exact q.ok hm [] rds.nil
theorem sa_cons {e : Expr} {es : List Expr} {f : ME} {g : MA} (hc : PA X (e :: es) (tCons (tE X.K w f) (tA X.K w g))) : PA X (e :: es) (tA X.K w (mCons f g)) := hc.weak fun σ H Q q => by
  obtain ⟨ρ, env, m, hm, he, q⟩ := q
  exact ⟨ρ, env, m, hm, he, q.bnd.imp fun d m1 ρ1 H1 e1 hm1 q1 x r1 => ⟨ρ1, env, m1, hm1, he.mono e1, q1.bnd.imp fun ds m2 ρ2 H2 e2 hm2 q2 ys r2 => q2.ok hm2 _ (rds.cons (r1.mono e2) r2)⟩⟩
def lim : Nat := 1000000
theorem lim_line {n : Nat} (h : Nat.ble n lim = true) : n ≤ sizeLine := by
  have h1 := Nat.le_of_ble_eq_true h
  have h2 : sizeLine = 16777216 := sizeLine_eq
  unfold lim at h1
  omega
theorem lim_lt {n : Nat} (h : Nat.ble n lim = true) : n < sizeLine := by
  have h1 := Nat.le_of_ble_eq_true h
  have h2 : sizeLine = 16777216 := sizeLine_eq
  unfold lim at h1
  omega
/-- when a size is within the line -/
def gif {α : Type} (b : Bool) (x : Option (Rs α)) : Option (Rs α) := match b with
  | true => x
  | false => none
theorem W.gif {K : PySem.W.Frag} {ρ : List Addr} {H : Hp} {α : Type} {b : Bool} {x : Option (Rs α)} {post : α → M → List Addr → Hp → Prop} (h : W K w ρ H (gif b x) post) : b = true ∧ W K w ρ H x post := by
  cases b with
  | true => exact ⟨rfl, h⟩
  | false => exact False.elim h
def mTup (f : MA) : ME := fun env m => bnd (f env m) fun ds m1 => gif (Nat.ble ds.length lim) (some (.ok (.tup ds) m1))
theorem HRel.notin {K : PySem.W.Frag} {ρ : List Addr} {H : Hp} {m : M} (h : HRel K ρ H m) {p : Addr} (hp : H p = none) : p ∉ ρ := fun z => h.here z hp
theorem lay_tup {K : PySem.W.Frag} {ρ : List Addr} {H : Hp} {m : M} {p : Addr} {ds : List D} {vs : List V} (hm : HRel K ρ H m) (hp : H p = none) (r : rds K ρ H ds vs) :
    Ext ρ H ρ (upd H p (.tup vs)) ∧ HRel K ρ (upd H p (.tup vs)) m ∧ rd K ρ (upd H p (.tup vs)) (.tup ds) (.ref p) :=
  ⟨Ext.new hp, hm.new hp, rd_tupI ⟨hm.notin hp, upd_same⟩ (r.mono (Ext.new hp))⟩
theorem lay_list {K : PySem.W.Frag} {ρ : List Addr} {H : Hp} {m : M} {p : Addr} {ds : List D} {vs : List V} (hm : HRel K ρ H m) (hp : H p = none) (r : rds K ρ H ds vs) :
    Ext ρ H (ρ ++ [p]) (upd H p (.lst vs)) ∧ HRel K (ρ ++ [p]) (upd H p (.lst vs)) (m ++ [.lst ds]) ∧ rd K (ρ ++ [p]) (upd H p (.lst vs)) (.ref m.length) (.ref p) := by
  refine ⟨Ext.laid hp, hm.laid hp ⟨vs, upd_same, r.mono (Ext.laid hp)⟩, rd_refI ?_⟩
  rw [← hm.len, List.getElem?_append_right (Nat.le_refl _)]
  simp
theorem se_tup {es : List Expr} {x1 pos} {f : MA} (h : PA X es (tA X.K w f)) : PE X (.Tuple es x1 pos) (tE X.K w (mTup f)) := (pe_tup h).weak fun σ H Q q => by
  obtain ⟨ρ, env, m, hm, he, q⟩ := q
  refine ⟨ρ, env, m, hm, he, q.bnd.imp fun ds m1 ρ1 H1 e1 hm1 q1 vs r1 => ?_⟩
  obtain ⟨hl, q2⟩ := q1.gif
  refine ⟨by rw [← r1.length]; exact lim_line hl, fun p hp => ?_⟩
  obtain ⟨a, b, c⟩ := lay_tup hm1 hp r1
  exact q2 _ _ a b _ c
/-- a new list -/
def newL (ds : List D) (m : M) : Option (Rs D) := some (.ok (.ref m.length) (m ++ [.lst ds]))
def mLst (f : MA) : ME := fun env m => bnd (f env m) fun ds m1 => gif (Nat.ble ds.length lim) (newL ds m1)
theorem W.newL {K : PySem.W.Frag} {ρ : List Addr} {H : Hp} {m : M} {p : Addr} {ds : List D} {vs : List V} {post : D → M → List Addr → Hp → Prop} (h : W K w ρ H (newL ds m) post) (hm : HRel K ρ H m) (hp : H p = none) (r : rds K ρ H ds vs) :
    ∃ ρ' m', rd K ρ' (upd H p (.lst vs)) (.ref m.length) (.ref p) ∧ post (.ref m.length) m' ρ' (upd H p (.lst vs)) := by
  obtain ⟨a, b, c⟩ := lay_list hm hp r
  exact ⟨_, _, c, h _ _ a b⟩
theorem se_lst {es : List Expr} {pos} {f : MA} (h : PA X es (tA X.K w f)) : PE X (.List es pos) (tE X.K w (mLst f)) := (pe_lst h).weak fun σ H Q q => by
  obtain ⟨ρ, env, m, hm, he, q⟩ := q
  refine ⟨ρ, env, m, hm, he, q.bnd.imp fun ds m1 ρ1 H1 e1 hm1 q1 vs r1 => ?_⟩
  obtain ⟨hl, q2⟩ := q1.gif
  refine ⟨by rw [← r1.length]; exact lim_line hl, fun p hp => ?_⟩
  obtain ⟨ρ', m', c, q3⟩ := q2.newL hm1 hp r1
  exact q3 _ c

/-! ### tests -/
def trO : Option O → Option Bool
  | some (.lst ds) => some (!ds.isEmpty)
  | some (.fro ds) => some (!ds.isEmpty)
  | _ => none
def trD (m : M) : D → Option Bool
  | .non => some false
  | .bl b => some b
  | .int i => some (i != 0)
  | .str _ => none
  | .tup ds => some (!ds.isEmpty)
  | .con ds => some (!ds.isEmpty)
  | .ftp ds => some (!ds.isEmpty)
  | .lcon ds => some (!ds.isEmpty)
  | .ref n => trO m[n]?
theorem rds.isEmpty {K : PySem.W.Frag} {ρ : List Addr} {H : Hp} {ds : List D} {vs : List V} (h : rds K ρ H ds vs) : vs.isEmpty = ds.isEmpty := by
  have := h.length
  cases ds <;> cases vs <;> simp_all
theorem trD_ok {K : PySem.W.Frag} {ρ : List Addr} {H : Hp} {m : M} {d : D} {v : V} {b : Bool} (hm : HRel K ρ H m) (r : rd K ρ H d v) (h : trD m d = some b) : TruV K v H b := by
  cases d with
  | non => rw [rd_non r]; cases h; rfl
  | bl k => rw [rd_bl r]; cases h; rfl
  | int i => rw [rd_int r]; cases h; rfl
  | str _ => cases h
  | tup ds =>
    obtain ⟨p, vs, rfl, h1, h2⟩ := rd_asT (rfl : asT (.tup ds) = some ds) r
    cases h
    exact .inr (.inl ⟨vs, h1, by rw [h2.isEmpty]⟩)
  | con ds =>
    obtain ⟨p, vs, rfl, h1, h2⟩ := rd_asT (rfl : asT (.con ds) = some ds) r
    cases h
    exact .inr (.inl ⟨vs, h1, by rw [h2.isEmpty]⟩)
  | ftp ds =>
    obtain ⟨p, vs, rfl, h1, h2⟩ := rd_asT (rfl : asT (.ftp ds) = some ds) r
    cases h
    exact .inr (.inl ⟨vs, h1, by rw [h2.isEmpty]⟩)
  | lcon ds =>
    obtain ⟨p, vs, rfl, h1, h2⟩ := rd_lcon r
    cases h
    exact .inl ⟨vs, h1.sq, by rw [h2.isEmpty]⟩
  | ref n =>
    obtain ⟨p, rfl, h1⟩ := rd_ref r
    have h : trO m[n]? = some b := h
    unfold trO at h
    split at h
    · rename_i ds e
      cases h
      obtain ⟨vs, a, c⟩ := hm.obj n p _ h1 e
      exact .inl ⟨vs, .inl (.inl a), by rw [c.isEmpty]⟩
    · rename_i ds e
      cases h
      obtain ⟨vs, o, a, c⟩ := hm.obj n p _ h1 e
      exact .inl ⟨vs, .inl (.inr ⟨o, a⟩), by rw [c.isEmpty]⟩
    · cases h
def mTr (f : ME) : MT := fun env m => bnd (f env m) fun d m1 => match trD m1 d with
  | none => none
  | some b => some (.ok b m1)
theorem st_truth {e : Expr} {f : ME} (he : PE X e (tE X.K w f)) (hp : ∀ whole, isTrue e X.env whole = (do let v ← whole; standAt e.pos; holding [v] (truthy v)) := by intro _; rfl) : PT X e (tT X.K w (mTr f)) := (pt_truth he hp).weak fun σ H Q q => by
  obtain ⟨ρ, env, m, hm, he, q⟩ := q
  refine ⟨ρ, env, m, hm, he, q.bnd.imp fun d m1 ρ1 H1 e1 hm1 q1 v r1 => ?_⟩
  split at q1
  · exact q1.elim
  · rename_i b eb
    exact ⟨b, trD_ok hm1 r1 eb, q1.ok hm1⟩
/-- a comparison as a test -/
def mB (f : ME) : MT := fun env m => bnd (f env m) fun d m1 => match d with
  | .bl b => some (.ok b m1)
  | _ => none
section
variable {K : PySem.W.Frag} {σ : SLT} {H : Hp} {Q : Bool → Hp → Prop} {f g : MT}
theorem tB_lift {f : ME} (q : tT K w (mB f) σ H Q) : tE K w f σ H fun x H' => ∃ k, x = .bl k ∧ Q k H' := by
  obtain ⟨ρ, env, m, hm, he, q⟩ := q
  refine ⟨ρ, env, m, hm, he, q.bnd.imp fun d m1 ρ1 H1 e1 hm1 q1 v r1 => ?_⟩
  split at q1
  · exact ⟨_, rd_bl r1, q1.ok hm1⟩
  · exact q1.elim
def mAnd (f g : MT) : MT := fun env m => bnd (f env m) fun b m1 => match b with
  | true => g env m1
  | false => some (.ok false m1)
def mOr (f g : MT) : MT := fun env m => bnd (f env m) fun b m1 => match b with
  | true => some (.ok true m1)
  | false => g env m1
def mNot (f : MT) : MT := fun env m => bnd (f env m) fun b m1 => some (.ok (!b) m1)
theorem and_lift (q : tT K w (mAnd f g) σ H Q) : tAnd (tT K w f) (tT K w g) σ H Q := by
  obtain ⟨ρ, env, m, hm, he, q⟩ := q
  refine ⟨ρ, env, m, hm, he, q.bnd.imp fun b m1 ρ1 H1 e1 hm1 q1 => ?_⟩
  cases b with
  | true => exact iteT ⟨ρ1, env, m1, hm1, he.mono e1, q1⟩
  | false => exact iteF (q1.ok hm1)
theorem or_lift (q : tT K w (mOr f g) σ H Q) : tOr (tT K w f) (tT K w g) σ H Q := by
  obtain ⟨ρ, env, m, hm, he, q⟩ := q
  refine ⟨ρ, env, m, hm, he, q.bnd.imp fun b m1 ρ1 H1 e1 hm1 q1 => ?_⟩
  cases b with
  | true => exact iteT (q1.ok hm1)
  | false => exact iteF ⟨ρ1, env, m1, hm1, he.mono e1, q1⟩
theorem not_lift (q : tT K w (mNot f) σ H Q) : tNot (tT K w f) σ H Q := by
  obtain ⟨ρ, env, m, hm, he, q⟩ := q
  exact ⟨ρ, env, m, hm, he, q.bnd.imp fun b m1 ρ1 H1 e1 hm1 q1 => q1.ok hm1⟩
end
theorem st_val {e : Expr} {f : ME} (h : PE X e (tE X.K w f)) (he : ∀ whole, isTrue e X.env whole = (do let v ← whole; standAt e.pos; holding [v] (truthy v))) : PT X e (tT X.K w (mB f)) := (pt_val h he).weak fun _ _ _ q => tB_lift q
theorem st_cmp {op : CmpOp} {a b : Expr} {pos : Pos} {fa fb : ME} {r : R2} {g : G2} (ho : OpR X (compareOp op) r) (h : OpD X.K w r g) (ha : PE X a (tE X.K w fa)) (hb : PE X b (tE X.K w fb)) (hm : behindInMarks op b = false) :
    PT X (.Compare a [op] [b] pos) (tT X.K w (mB (mOp g fa fb))) := (pt_cmpR ho ha hb hm).weak fun _ _ _ q => op_lift h (tB_lift q)
section
variable {a b : Expr} {rest : List Expr} {pos : Pos} {f g : MT}
theorem sw_and (ha : PT X a (tT X.K w f)) (hb : PW X (.BoolOp .And (b :: rest) pos) (tT X.K w g)) : PW X (.BoolOp .And (a :: b :: rest) pos) (tT X.K w (mAnd f g)) := (pw_and ha hb).weak fun _ _ _ q => and_lift q
theorem sw_or (ha : PT X a (tT X.K w f)) (hb : PW X (.BoolOp .Or (b :: rest) pos) (tT X.K w g)) : PW X (.BoolOp .Or (a :: b :: rest) pos) (tT X.K w (mOr f g)) := (pw_or ha hb).weak fun _ _ _ q => or_lift q
theorem st_not (ha : PT X a (tT X.K w f)) : PT X (.UnaryOp .Not a pos) (tT X.K w (mNot f)) := (pt_not ha).weak fun _ _ _ q => not_lift q
end
end
end EV

set_option Elab.async false
set_option linter.all false
set_option maxRecDepth 100000
set_option maxHeartbeats 2000000
namespace EV
open PySem PySem.Spec PyProof.Rows L2
section
variable {X : Cx} {K : PySem.W.Frag} {w : Wi}

theorem opr_or {f : Value → Value → Sem Value} {r1 r2 : R2} (h1 : OpR X f r1) (h2 : OpR X f r2) : OpR X f (fun x y H Q => r1 x y H Q ∨ r2 x y H Q) := by
  intro pins s σ H x y v u Q I rx ry h
  rcases h with h | h
  · exact h1 pins s σ H x y v u Q I rx ry h
  · exact h2 pins s σ H x y v u Q I rx ry h

/-! ### data as a whole -/
def seqO {α : Type} : List (Option α) → Option (List α)
  | [] => some []
  | some a :: r => match seqO r with
    | some l => some (a :: l)
    | none => none
  | none :: _ => none
def lstO : Option O → Option (List D)
  | some (.lst ds) => some ds
  | some (.fro ds) => some ds
  | _ => none
def toP (m : M) : Nat → D → Option PyData
  | 0, _ => none
  | _ + 1, .non => some .none
  | _ + 1, .bl b => some (.bool b)
  | _ + 1, .int i => some (.int i)
  | _ + 1, .str x => if PyData.canLay0 (.str x) then some (.str x) else none
  | k + 1, .tup ds => match seqO (ds.map (toP m k)) with
    | some l => some (.tuple l)
    | none => none
  | k + 1, .con ds => match seqO (ds.map (toP m k)) with
    | some l => some (.tuple l)
    | none => none
  | k + 1, .ftp ds => match seqO (ds.map (toP m k)) with
    | some l => some (.tuple l)
    | none => none
  | k + 1, .lcon ds => match seqO (ds.map (toP m k)) with
    | some l => some (.list l)
    | none => none
  | k + 1, .ref n => match lstO m[n]? with
    | some ds => (match seqO (ds.map (toP m k)) with
      | some l => some (.list l)
      | none => none)
    | none => none
theorem lst_at {ρ : List Addr} {H : Hp} {m : M} {n : Nat} {p : Addr} {ds : List D} (hm : HRel K ρ H m) (hp : ρ[n]? = some p) (h : lstO m[n]? = some ds) : ∃ vs, SqL K H p vs ∧ rds K ρ H ds vs := by
  unfold lstO at h
  split at h
  · rename_i e
    cases h
    obtain ⟨vs, a, c⟩ := hm.obj n p _ hp e
    exact ⟨vs, .inl (.inl a), c⟩
  · rename_i e
    cases h
    obtain ⟨vs, o, a, c⟩ := hm.obj n p _ hp e
    exact ⟨vs, .inl (.inr ⟨o, a⟩), c⟩
  · cases h
/-- a list, changing or only read -/
def asL (m : M) : D → Option (List D)
  | .ref n => lstO m[n]?
  | .lcon ds => some ds
  | _ => none
theorem rd_asL {ρ : List Addr} {H : Hp} {m : M} {d : D} {ds : List D} {v : V} (hm : HRel K ρ H m) (r : rd K ρ H d v) (h : asL m d = some ds) : ∃ p vs, v = .ref p ∧ SqL K H p vs ∧ rds K ρ H ds vs := by
  cases d with
  | ref n =>
    obtain ⟨p, rfl, hp⟩ := rd_ref r
    obtain ⟨vs, a, b⟩ := lst_at hm hp h
    exact ⟨p, vs, rfl, a, b⟩
  | lcon es => cases h; obtain ⟨p, vs, a, b, c⟩ := rd_lcon r; exact ⟨p, vs, a, b.sq, c⟩
  | non => cases h
  | bl _ => cases h
  | int _ => cases h
  | str _ => cases h
  | tup _ => cases h
  | con _ => cases h
  | ftp _ => cases h
theorem toPs_dp {ρ : List Addr} {H : Hp} {f : D → Option PyData} (ih : ∀ d v p, rd K ρ H d v → f d = some p → Dp K H v p) : ∀ (ds : List D) (vs : List V) (l : List PyData), rds K ρ H ds vs → seqO (ds.map f) = some l → DpAll K H vs l
  | [], vs, l, r, h => by
    unfold rds at r
    subst r
    cases h
    exact .nil
  | d :: ds, vs, l, r, h => by
    unfold rds at r
    obtain ⟨v, r', rfl, h1, h2⟩ := r
    rw [List.map_cons] at h
    cases e : f d with
    | none => rw [e] at h; cases h
    | some p =>
      rw [e] at h
      unfold seqO at h
      split at h
      · rename_i l' e2
        cases h
        exact .cons (ih d v p h1 e) (toPs_dp ih ds r' l' h2 e2)
      · cases h
theorem toP_dp {ρ : List Addr} {H : Hp} {m : M} (hm : HRel K ρ H m) : ∀ (k : Nat) (d : D) (v : V) (p : PyData), rd K ρ H d v → toP m k d = some p → Dp K H v p
  | 0, _, _, _, _, h => by cases h
  | k + 1, .non, v, p, r, h => by rw [rd_non r]; cases h; exact .non
  | k + 1, .bl b, v, p, r, h => by rw [rd_bl r]; cases h; exact .bl b
  | k + 1, .int i, v, p, r, h => by rw [rd_int r]; cases h; exact .int i
  | k + 1, .str x, v, p, r, h => by
    rw [rd_str r]
    unfold toP at h
    split at h
    · cases h; exact .str x
    · cases h
  | k + 1, .tup ds, v, p, r, h => by
    obtain ⟨a, vs, rfl, h1, h2⟩ := rd_asT (rfl : asT (.tup ds) = some ds) r
    unfold toP at h
    split at h
    · rename_i l e
      cases h
      exact .tup h1 (toPs_dp (fun d v p => toP_dp hm k d v p) ds vs l h2 e)
    · cases h
  | k + 1, .con ds, v, p, r, h => by
    obtain ⟨a, vs, rfl, h1, h2⟩ := rd_asT (rfl : asT (.con ds) = some ds) r
    unfold toP at h
    split at h
    · rename_i l e
      cases h
      exact .tup h1 (toPs_dp (fun d v p => toP_dp hm k d v p) ds vs l h2 e)
    · cases h
  | k + 1, .ftp ds, v, p, r, h => by
    obtain ⟨a, vs, rfl, h1, h2⟩ := rd_asT (rfl : asT (.ftp ds) = some ds) r
    unfold toP at h
    split at h
    · rename_i l e
      cases h
      exact .tup h1 (toPs_dp (fun d v p => toP_dp hm k d v p) ds vs l h2 e)
    · cases h
  | k + 1, .lcon ds, v, p, r, h => by
    obtain ⟨a, vs, rfl, h1, h2⟩ := rd_lcon r
    unfold toP at h
    split at h
    · rename_i l e
      cases h
      exact .lst h1.sq (toPs_dp (fun d v p => toP_dp hm k d v p) ds vs l h2 e)
    · cases h
  | k + 1, .ref n, v, p, r, h => by
    obtain ⟨a, rfl, h1⟩ := rd_ref r
    unfold toP at h
    split at h
    · rename_i ds e
      obtain ⟨vs, h2, h3⟩ := lst_at hm h1 e
      split at h
      · rename_i l e2
        cases h
        exact .lst h2 (toPs_dp (fun d v p => toP_dp hm k d v p) ds vs l h3 e2)
      · cases h
    · cases h
theorem toPs_lay {f : D → Option PyData} (ih : ∀ d p, f d = some p → p.canLay0 = true) : ∀ (ds : List D) (l : List PyData), seqO (ds.map f) = some l → PyData.canLayAll0 l = true
  | [], l, h => by cases h; rfl
  | d :: ds, l, h => by
    rw [List.map_cons] at h
    cases e : f d with
    | none => rw [e] at h; cases h
    | some p =>
      rw [e] at h
      unfold seqO at h
      split at h
      · rename_i l' e2
        cases h
        simp only [PyData.canLayAll0, ih d p e, toPs_lay ih ds l' e2, Bool.and_self]
      · cases h
theorem toP_lay {m : M} : ∀ (k : Nat) (d : D) (p : PyData), toP m k d = some p → p.canLay0 = true
  | 0, _, _, h => by cases h
  | k + 1, .non, p, h => by cases h; rfl
  | k + 1, .bl b, p, h => by cases h; rfl
  | k + 1, .int i, p, h => by cases h; rfl
  | k + 1, .str x, p, h => by
    unfold toP at h
    split at h
    · rename_i e
      cases h
      exact e
    · cases h
  | k + 1, .tup ds, p, h => by
    unfold toP at h
    split at h
    · rename_i l e
      cases h
      simp only [PyData.canLay0]
      exact toPs_lay (fun d p => toP_lay k d p) ds l e
    · cases h
  | k + 1, .con ds, p, h => by
    unfold toP at h
    split at h
    · rename_i l e
      cases h
      simp only [PyData.canLay0]
      exact toPs_lay (fun d p => toP_lay k d p) ds l e
    · cases h
  | k + 1, .ftp ds, p, h => by
    unfold toP at h
    split at h
    · rename_i l e
      cases h
      simp only [PyData.canLay0]
      exact toPs_lay (fun d p => toP_lay k d p) ds l e
    · cases h
  | k + 1, .lcon ds, p, h => by
    unfold toP at h
    split at h
    · rename_i l e
      cases h
      simp only [PyData.canLay0]
      exact toPs_lay (fun d p => toP_lay k d p) ds l e
    · cases h
  | k + 1, .ref n, p, h => by
    unfold toP at h
    split at h
    · split at h
      · rename_i l e2
        cases h
        simp only [PyData.canLay0]
        exact toPs_lay (fun d p => toP_lay k d p) _ l e2
      · cases h
    · cases h
theorem toPs_depth {f : D → Option PyData} {k : Nat} (ih : ∀ d p, f d = some p → p.depth ≤ k) : ∀ (ds : List D) (l : List PyData), seqO (ds.map f) = some l → PyData.depthAll l ≤ k
  | [], l, h => by cases h; simp [PyData.depthAll]
  | d :: ds, l, h => by
    rw [List.map_cons] at h
    cases e : f d with
    | none => rw [e] at h; cases h
    | some p =>
      rw [e] at h
      unfold seqO at h
      split at h
      · rename_i l' e2
        cases h
        have h1 := ih d p e
        have h2 := toPs_depth ih ds l' e2
        simp only [PyData.depthAll]
        omega
      · cases h
theorem toP_depth {m : M} : ∀ (k : Nat) (d : D) (p : PyData), toP m k d = some p → p.depth ≤ k
  | 0, _, _, h => by cases h
  | k + 1, .non, p, h => by cases h; simp [PyData.depth]
  | k + 1, .bl b, p, h => by cases h; simp [PyData.depth]
  | k + 1, .int i, p, h => by cases h; simp [PyData.depth]
  | k + 1, .str x, p, h => by
    unfold toP at h
    split at h
    · cases h; simp [PyData.depth]
    · cases h
  | k + 1, .tup ds, p, h => by
    unfold toP at h
    split at h
    · rename_i l e
      cases h
      have := toPs_depth (fun d p => toP_depth k d p) ds l e
      simp only [PyData.depth]
      omega
    · cases h
  | k + 1, .con ds, p, h => by
    unfold toP at h
    split at h
    · rename_i l e
      cases h
      have := toPs_depth (fun d p => toP_depth k d p) ds l e
      simp only [PyData.depth]
      omega
    · cases h
  | k + 1, .ftp ds, p, h => by
    unfold toP at h
    split at h
    · rename_i l e
      cases h
      have := toPs_depth (fun d p => toP_depth k d p) ds l e
      simp only [PyData.depth]
      omega
    · cases h
  | k + 1, .lcon ds, p, h => by
    unfold toP at h
    split at h
    · rename_i l e
      cases h
      have := toPs_depth (fun d p => toP_depth k d p) ds l e
      simp only [PyData.depth]
      omega
    · cases h
  | k + 1, .ref n, p, h => by
    unfold toP at h
    split at h
    · split at h
      · rename_i l e2
        cases h
        have := toPs_depth (fun d p => toP_depth k d p) _ l e2
        simp only [PyData.depth]
        omega
      · cases h
    · cases h
/-- the fuel of data -/
def fuelP : Nat := 12
theorem toP_shaped {m : M} {d : D} {p : PyData} (h : toP m fuelP d = some p) : SeqAt.shaped p = true := by
  have h1 := toP_lay _ _ _ h
  have h2 := toP_depth _ _ _ h
  show (p.canLay0 && decide (p.depth ≤ 64)) = true
  rw [Bool.and_eq_true]
  exact ⟨h1, decide_eq_true (Nat.le_trans h2 (by decide))⟩

/-! ### == and != -/
def gEq : G2 := fun a b m => match toP m fuelP a, toP m fuelP b with
  | some x, some y => some (.ok (.bl (PyData.eqv x y)) m)
  | _, _ => none
def gNe : G2 := fun a b m => match toP m fuelP a, toP m fuelP b with
  | some x, some y => some (.ok (.bl (!PyData.eqv x y)) m)
  | _, _ => none
theorem eq_ok : OpD K w (rEqD K) gEq := by
  intro ρ H m x y dx dy Q hm rx ry h
  unfold gEq at h
  split at h
  · rename_i p p' e1 e2
    exact ⟨p, p', toP_dp hm _ _ _ _ rx e1, toP_dp hm _ _ _ _ ry e2, toP_shaped e1, toP_shaped e2, h.ok hm _ rd_blI⟩
  · exact h.elim
theorem ne_ok : OpD K w (rNeD K) gNe := by
  intro ρ H m x y dx dy Q hm rx ry h
  unfold gNe at h
  split at h
  · rename_i p p' e1 e2
    exact ⟨p, p', toP_dp hm _ _ _ _ rx e1, toP_dp hm _ _ _ _ ry e2, toP_shaped e1, toP_shaped e2, h.ok hm _ rd_blI⟩
  · exact h.elim
/-! ### arithmetic -/
def gI (f : Int → Int → Option Int) : G2 := fun x y m => match x, y with
  | .int i, .int j => (match f i j with
    | some z => some (.ok (.int z) m)
    | none => none)
  | _, _ => none
theorem gI_ok {C : Int → Int → Prop} {g : Int → Int → V} {f : Int → Int → Option Int} (h : ∀ i j z, f i j = some z → C i j ∧ g i j = .int z) : OpD K w (rI C g) (gI f) := by
  intro ρ H m x y dx dy Q hm rx ry e
  unfold gI at e
  split at e
  · split at e
    · rename_i z ez
      obtain ⟨a, b⟩ := h _ _ _ ez
      exact ⟨_, _, rd_int rx, rd_int ry, a, by rw [b]; exact e.ok hm _ rd_intI⟩
    · exact e.elim
  · exact e.elim
theorem gI0_ok {g : Int → Int → V} {f : Int → Int → Option Int} (h : ∀ i j z, f i j = some z → g i j = .int z) : OpD K w (rI0 g) (gI f) := by
  intro ρ H m x y dx dy Q hm rx ry e
  unfold gI at e
  split at e
  · split at e
    · rename_i z ez
      have b := h _ _ _ ez
      exact ⟨_, _, rd_int rx, rd_int ry, by rw [b]; exact e.ok hm _ rd_intI⟩
    · exact e.elim
  · exact e.elim
def fSub (i j : Int) : Option Int := some (i - j)
theorem sub_ok : OpD K w (rI0 fun i j => .int (i - j)) (gI fSub) := gI0_ok fun i j z h => by cases h; rfl
/-- the greatest divisors and factors -/
def small64 (i : Int) : Bool := decide (-18446744073709551616 < i) && decide (i < 18446744073709551616)
def fMul (i j : Int) : Option Int := if small64 i || small64 j then some (i * j) else none
theorem small64_ok {i : Int} (h : small64 i = true) : -(2 ^ 64) < i ∧ i < 2 ^ 64 := by
  unfold small64 at h
  rw [Bool.and_eq_true] at h
  have h1 := of_decide_eq_true h.1
  have h2 := of_decide_eq_true h.2
  omega
theorem mul_ok : OpD K w (rI CMul fun i j => .int (i * j)) (gI fMul) := gI_ok fun i j z h => by
  unfold fMul at h
  split at h
  · rename_i c
    cases h
    rw [Bool.or_eq_true] at c
    refine ⟨?_, rfl⟩
    rcases c with c | c
    · exact .inl (small64_ok c)
    · exact .inr (small64_ok c)
  · cases h
def fMod (i j : Int) : Option Int := if decide (0 < j) then some (i % j) else none
theorem mod_ok : OpD K w (rI (fun _ j => 0 < j) fun i j => .int (i % j)) (gI fMod) := gI_ok fun i j z h => by
  unfold fMod at h
  split at h
  · rename_i c
    cases h
    exact ⟨of_decide_eq_true c, rfl⟩
  · cases h
def fFdiv (i j : Int) : Option Int := if decide (0 < j) && decide (j < 1073741824) then some (i / j) else none
theorem fdiv_ok : OpD K w (rI CDiv fun i j => .int (i / j)) (gI fFdiv) := gI_ok fun i j z h => by
  unfold fFdiv at h
  split at h
  · rename_i c
    cases h
    rw [Bool.and_eq_true] at c
    exact ⟨⟨of_decide_eq_true c.1, of_decide_eq_true c.2⟩, rfl⟩
  · cases h
def fPow (i j : Int) : Option Int := if decide (0 ≤ j) && decide (j ≤ 1000) && small64 i && decide (0 ≤ i) then some (i ^ j.toNat) else none
theorem pow_ok : OpD K w (rI CPow fun i j => .int (i ^ j.toNat)) (gI fPow) := gI_ok fun i j z h => by
  unfold fPow at h
  split at h
  · rename_i c
    cases h
    simp only [Bool.and_eq_true] at c
    obtain ⟨⟨⟨c1, c2⟩, c3⟩, c4⟩ := c
    have h1 := of_decide_eq_true c1
    have h2 := of_decide_eq_true c2
    have h4 := of_decide_eq_true c4
    obtain ⟨h5, h6⟩ := small64_ok c3
    refine ⟨⟨h1, by omega, ?_⟩, rfl⟩
    omega
  · cases h
def fXor (i j : Int) : Option Int := some (Builtin.bitXor i j)
theorem xor_ok : OpD K w (rI0 fun i j => .int (Builtin.bitXor i j)) (gI fXor) := gI0_ok fun i j z h => by cases h; rfl
def gB (f : Int → Int → Bool) : G2 := fun x y m => match x, y with
  | .int i, .int j => some (.ok (.bl (f i j)) m)
  | _, _ => none
theorem gB_ok {f : Int → Int → Bool} : OpD K w (rI0 fun i j => .bl (f i j)) (gB f) := by
  intro ρ H m x y dx dy Q hm rx ry e
  unfold gB at e
  split at e
  · exact ⟨_, _, rd_int rx, rd_int ry, e.ok hm _ rd_blI⟩
  · exact e.elim
def bLt (i j : Int) : Bool := decide (i < j)
def bLe (i j : Int) : Bool := decide (i ≤ j)
def bGt (i j : Int) : Bool := decide (j < i)
def bGe (i j : Int) : Bool := decide (j ≤ i)
theorem lt_ok : OpD K w (rI0 fun i j => .bl (decide (i < j))) (gB bLt) := gB_ok (f := bLt)
theorem le_ok : OpD K w (rI0 fun i j => .bl (decide (i ≤ j))) (gB bLe) := gB_ok (f := bLe)
theorem gt_ok : OpD K w (rI0 fun i j => .bl (decide (j < i))) (gB bGt) := gB_ok (f := bGt)
theorem ge_ok : OpD K w (rI0 fun i j => .bl (decide (j ≤ i))) (gB bGe) := gB_ok (f := bGe)
/-! ### + -/
/-- a tuple, as plain as may be -/
def mkT (con : Bool) (ds : List D) : D := match con with
  | true => .con ds
  | false => .tup ds
def isCon : D → Bool
  | .con _ => true
  | .ftp _ => true
  | _ => false
def addL : Option O → Option O → M → Option (Rs D)
  | some (.lst xs), some (.lst ys), m => gif (Nat.ble (xs.length + ys.length) lim) (newL (xs ++ ys) m)
  | _, _, _ => none
def addT (con : Bool) : Option (List D) → Option (List D) → M → Option (Rs D)
  | some xs, some ys, m => gif (Nat.ble (xs.length + ys.length) lim) (some (.ok (mkT con (xs ++ ys)) m))
  | _, _, _ => none
def gAdd : G2 := fun x y m => match x, y with
  | .int i, .int j => some (.ok (.int (i + j)) m)
  | .ref a, .ref b => addL m[a]? m[b]? m
  | _, _ => addT (isCon x || isCon y) (asT x) (asT y) m
def rAddAll (K : PySem.W.Frag) : R2 := fun x y H Q => (rI0 (fun i j => .int (i + j)) x y H Q ∨ rCatA K x y H Q) ∨ rCat x y H Q
theorem op_addAll : OpR X (binaryOp .Add) (rAddAll X.K) := opr_or (opr_or op_add op_catA) op_cat
theorem rds.nil_iff {ρ : List Addr} {H : Hp} {ds : List D} {vs : List V} (h : rds K ρ H ds vs) : vs = [] ↔ ds = [] := by
  have := h.length
  cases ds <;> cases vs <;> simp_all
theorem asT_mk {ρ : List Addr} {H : Hp} {d : D} {ds : List D} {v : V} {c : Bool} (e : asT d = some ds) (h : rd K ρ H d v) (hc : isCon d = true → c = true) : rd K ρ H (mkT c ds) v := by
  cases d with
  | tup es =>
    cases e
    cases c with
    | true => exact rd_toCon h
    | false => exact h
  | con es => cases e; rw [hc rfl]; exact h
  | ftp es => cases e; rw [hc rfl]; exact rd_ftCon h
  | lcon _ => cases e
  | non => cases e
  | bl _ => cases e
  | int _ => cases e
  | str _ => cases e
  | ref _ => cases e
theorem mk_new {ρ : List Addr} {H : Hp} {ds : List D} {vs : List V} {p : Addr} {c : Bool} (h : p ∉ ρ ∧ H p = some (.tup vs)) (g : rds K ρ H ds vs) : rd K ρ H (mkT c ds) (.ref p) := by
  cases c with
  | true => exact rd_conI (.inl ⟨h.1, .inl h.2⟩) g
  | false => exact rd_tupI h g
theorem add_ok : OpD K w (rAddAll K) gAdd := by
  intro ρ H m x y dx dy Q hm rx ry e
  unfold gAdd at e
  split at e
  · exact .inl (.inl ⟨_, _, rd_int rx, rd_int ry, e.ok hm _ rd_intI⟩)
  · rename_i a b
    unfold addL at e
    split at e
    · rename_i xs ys e1 e2
      obtain ⟨hl, e⟩ := e.gif
      obtain ⟨pa, rfl, h1⟩ := rd_ref rx
      obtain ⟨pb, rfl, g1⟩ := rd_ref ry
      obtain ⟨vs, a1, a2⟩ := hm.obj a pa _ h1 e1
      obtain ⟨ws, b1, b2⟩ := hm.obj b pb _ g1 e2
      refine .inr ⟨pa, pb, vs, ws, rfl, rfl, a1, b1, by rw [← a2.length, ← b2.length]; exact lim_line hl, fun p hp => ?_⟩
      obtain ⟨ρ', m', c, q⟩ := e.newL hm hp (a2.append b2)
      exact q _ c
    · exact e.elim
  · unfold addT at e
    split at e
    · rename_i xs ys ex ey
      obtain ⟨hl, e⟩ := e.gif
      obtain ⟨a, vs, rfl, h1, h2⟩ := rd_asT ex rx
      obtain ⟨b, ws, rfl, g1, g2⟩ := rd_asT ey ry
      refine .inl (.inr ⟨a, b, vs, ws, rfl, rfl, h1, g1, ?_, fun z => ?_, fun z z' => ?_, fun z z' p hp => ?_⟩)
      · rw [← h2.length, ← g2.length]
        exact lim_line hl
      · have : xs = [] := h2.nil_iff.mp z
        subst this
        exact e.ok hm _ (asT_mk ey ry fun q => by rw [q, Bool.or_true])
      · have : ys = [] := g2.nil_iff.mp z'
        subst this
        rw [List.append_nil] at e
        exact e.ok hm _ (asT_mk ex rx fun q => by rw [q, Bool.true_or])
      · exact e ρ _ (Ext.new hp) (hm.new hp) _ (mk_new ⟨hm.notin hp, upd_same⟩ ((h2.append g2).mono (Ext.new hp)))
    · exact e.elim
/-! ### is None -/
def isN : D → Bool
  | .non => true
  | _ => false
def gIs (neg : Bool) : G2 := fun x y m => gif (isN y) (some (.ok (.bl (if neg then !isN x else isN x)) m))
theorem rd_isN {ρ : List Addr} {H : Hp} {d : D} {v : V} (r : rd K ρ H d v) : decide (v = .non) = isN d := by
  cases d with
  | non => rw [rd_non r]; rfl
  | bl _ => rw [rd_bl r]; rfl
  | int _ => rw [rd_int r]; rfl
  | str _ => rw [rd_str r]; rfl
  | tup _ => obtain ⟨_, _, rfl, _⟩ := rd_tup r; rfl
  | con _ => obtain ⟨_, _, rfl, _⟩ := rd_con r; rfl
  | ftp _ => obtain ⟨_, _, rfl, _⟩ := rd_ftp r; rfl
  | lcon _ => obtain ⟨_, _, rfl, _⟩ := rd_lcon r; rfl
  | ref _ => obtain ⟨_, rfl, _⟩ := rd_ref r; rfl
theorem isN_ok : OpD K w (fun x y H Q => y = .non ∧ Q (.bl (decide (x = .non))) H) (gIs false) := by
  intro ρ H m x y dx dy Q hm rx ry e
  obtain ⟨hy, e⟩ := e.gif
  rw [rd_isN rx]
  exact ⟨of_decide_eq_true ((rd_isN ry).trans hy), e.ok hm _ rd_blI⟩
theorem notN_ok : OpD K w (fun x y H Q => y = .non ∧ Q (.bl (!decide (x = .non))) H) (gIs true) := by
  intro ρ H m x y dx dy Q hm rx ry e
  obtain ⟨hy, e⟩ := e.gif
  rw [rd_isN rx]
  exact ⟨of_decide_eq_true ((rd_isN ry).trans hy), e.ok hm _ rd_blI⟩
end
end EV

set_option Elab.async false
set_option linter.all false
set_option maxRecDepth 100000
set_option maxHeartbeats 2000000
namespace EV
open PySem PySem.Spec PyProof.Rows L2
/-! ### keys and dicts -/
def scEq : D → D → Bool
  | .int i, .int j => decide (i = j)
  | .str x, .str y => decide (x = y)
  | _, _ => false
def scsEq : List D → List D → Bool
  | [], [] => true
  | a :: r, b :: s => scEq a b && scsEq r s
  | _, _ => false
def keyEq : D → D → Bool
  | .tup xs, .tup ys => scsEq xs ys
  | a, b => scEq a b
def scOk (d : D) : Bool := match d with
  | .int _ => true
  | .str _ => true
  | _ => false
/-- a key of a dict of the kind -/
def kOk : Bool → D → Bool
  | true, .tup ds => ds.all scOk
  | false, d => scOk d
  | _, _ => false
def dget : List (D × D) → D → Option D
  | [], _ => none
  | p :: r, k => if keyEq p.1 k then some p.2 else dget r k
def drep : List (D × D) → D → D → List (D × D)
  | [], _, _ => []
  | p :: r, k, d => (if keyEq p.1 k then (p.1, d) else p) :: drep r k d
def dput (kvs : List (D × D)) (k d : D) : List (D × D) := if (dget kvs k).isSome then drep kvs k d else kvs ++ [(k, d)]
theorem scEq_key {a b : D} {k l : Key} (ha : dKey a = some k) (hb : dKey b = some l) : scEq a b = decide (k = l) := by
  cases a <;> cases b <;> simp_all [dKey, scEq]
  · subst ha hb; simp
  · subst ha hb; simp
  · subst ha hb; simp
  · subst ha hb; simp
theorem scsEq_key : ∀ {a b : List D} {k l : List Key}, dKeys a = some k → dKeys b = some l → scsEq a b = decide (k = l)
  | [], [], _, _, ha, hb => by cases ha; cases hb; simp [scsEq]
  | [], b :: bs, k, l, ha, hb => by
    cases ha
    unfold dKeys at hb
    split at hb
    · cases hb; simp [scsEq]
    · cases hb
  | a :: as, [], k, l, ha, hb => by
    cases hb
    unfold dKeys at ha
    split at ha
    · cases ha; simp [scsEq]
    · cases ha
  | a :: as, b :: bs, k, l, ha, hb => by
    unfold dKeys at ha hb
    split at ha
    · rename_i k1 ks1 e1 e2
      split at hb
      · rename_i k2 ks2 e3 e4
        cases ha
        cases hb
        unfold scsEq
        rw [scEq_key e1 e3, scsEq_key e2 e4]
        simp
      · cases hb
    · cases ha
theorem dKey_ok {d : D} (h : scOk d = true) : ∃ k, dKey d = some k := by
  cases d with
  | int i => exact ⟨_, rfl⟩
  | str x => exact ⟨_, rfl⟩
  | _ => cases h
theorem dKeys_ok : ∀ {ds : List D}, ds.all scOk = true → ∃ k, dKeys ds = some k
  | [], _ => ⟨[], rfl⟩
  | d :: ds, h => by
    rw [List.all_cons, Bool.and_eq_true] at h
    obtain ⟨k, e⟩ := dKey_ok h.1
    obtain ⟨ks, e2⟩ := dKeys_ok h.2
    exact ⟨k :: ks, by unfold dKeys; rw [e, e2]⟩
section
variable {X : Cx} {K : PySem.W.Frag} {w : Wi} {ρ : List Addr} {H : Hp} {m : M}
theorem rd_key {d : D} {k : Key} {v : V} (e : dKey d = some k) (r : rd K ρ H d v) : v = kV k := by
  cases d with
  | int i => cases e; exact rd_int r
  | str x => cases e; exact rd_str r
  | _ => cases e
theorem rds_key : ∀ {ds : List D} {ks : List Key} {vs : List V}, dKeys ds = some ks → rds K ρ H ds vs → vs = ks.map kV
  | [], _, _, e, r => by cases e; unfold rds at r; exact r
  | d :: ds, ks, vs, e, r => by
    unfold dKeys at e
    split at e
    · rename_i k1 ks1 e1 e2
      cases e
      unfold rds at r
      obtain ⟨v, t, rfl, h1, h2⟩ := r
      rw [rd_key e1 h1, rds_key e2 h2]
      rfl
    · cases e
theorem rkK_get {k : D} {key : Key} (e : dKey k = some key) : ∀ {kvs : List (D × D)} {r : List (Key × V)}, rkK K ρ H kvs r →
    (∃ d v, dget kvs k = some d ∧ valV r key = some v ∧ rd K ρ H d v) ∨ (dget kvs k = none ∧ valV r key = none)
  | [], _, h => by unfold rkK at h; subst h; exact .inr ⟨rfl, rfl⟩
  | (k0, d0) :: kvs, r, h => by
    unfold rkK at h
    obtain ⟨key0, v, t, rfl, h1, h2, h3⟩ := h
    have hk : keyEq k0 k = decide (key0 = key) := by
      have : keyEq k0 k = scEq k0 k := by
        cases k0 with
        | tup _ => cases h1
        | _ => rfl
      rw [this]
      exact scEq_key h1 e
    unfold dget
    by_cases c : key0 = key
    · refine .inl ⟨d0, v, ?_, valV_pos c, h2⟩
      simp only [hk, c, decide_true, if_true]
    · rw [valV_neg c]
      simp only [hk, decide_eq_false c]
      exact rkK_get e h3
theorem rkT_get {ks : List D} {key : List Key} (e : dKeys ks = some key) : ∀ {kvs : List (D × D)} {r : List (List Key × V)}, rkT K ρ H kvs r →
    (∃ d v, dget kvs (.tup ks) = some d ∧ valV r key = some v ∧ rd K ρ H d v) ∨ (dget kvs (.tup ks) = none ∧ valV r key = none)
  | [], _, h => by unfold rkT at h; subst h; exact .inr ⟨rfl, rfl⟩
  | (k0, d0) :: kvs, r, h => by
    unfold rkT at h
    obtain ⟨ks0, key0, v, t, rfl, rfl, h1, h2, h3⟩ := h
    have hk : keyEq (.tup ks0) (.tup ks) = decide (key0 = key) := scsEq_key h1 e
    unfold dget
    by_cases c : key0 = key
    · refine .inl ⟨d0, v, ?_, valV_pos c, h2⟩
      simp only [hk, c, decide_true, if_true]
    · rw [valV_neg c]
      simp only [hk, decide_eq_false c]
      exact rkT_get e h3
/-- a dict, changing or locked -/
def dO : Option O → Option (Bool × List (D × D))
  | some (.dct t kvs) => some (t, kvs)
  | some (.frd t kvs) => some (t, kvs)
  | _ => none
theorem dO_at {n : Nat} {p : Addr} {t : Bool} {kvs : List (D × D)} (hm : HRel K ρ H m) (hp : ρ[n]? = some p) (h : dO m[n]? = some (t, kvs)) :
    (t = false ∧ ∃ r, Rd H p (.dK r) ∧ rkK K ρ H kvs r) ∨ (t = true ∧ ∃ r, Rd H p (.dT r) ∧ rkT K ρ H kvs r) := by
  unfold dO at h
  split at h
  · rename_i e
    cases h
    have q := hm.obj n p _ hp e
    cases t with
    | false => obtain ⟨r, a, b⟩ := q; exact .inl ⟨rfl, r, .inl a, b⟩
    | true => obtain ⟨r, a, b⟩ := q; exact .inr ⟨rfl, r, .inl a, b⟩
  · rename_i e
    cases h
    have q := hm.obj n p _ hp e
    cases t with
    | false => obtain ⟨r, o, a, b⟩ := q; exact .inl ⟨rfl, r, .inr ⟨o, a⟩, b⟩
    | true => obtain ⟨r, o, a, b⟩ := q; exact .inr ⟨rfl, r, .inr ⟨o, a⟩, b⟩
  · cases h
/-- what is asked of a dict -/
theorem dget_ok {n : Nat} {p : Addr} {t : Bool} {kvs : List (D × D)} {k : D} {y : V} (hm : HRel K ρ H m) (hp : ρ[n]? = some p) (h : dO m[n]? = some (t, kvs)) (hk : kOk t k = true) (ry : rd K ρ H k y) :
    (∃ d v, dget kvs k = some d ∧ DGet H p y (some v) ∧ rd K ρ H d v) ∨ (dget kvs k = none ∧ DGet H p y none) := by
  rcases dO_at hm hp h with ⟨rfl, r, a, b⟩ | ⟨rfl, r, a, b⟩
  · have hk' : scOk k = true := by
      cases k <;> first | exact hk | cases hk
    obtain ⟨key, e⟩ := dKey_ok hk'
    have ey := rd_key e ry
    subst ey
    rcases rkK_get e b with ⟨d, v, e1, e2, e3⟩ | ⟨e1, e2⟩
    · exact .inl ⟨d, v, e1, .inl ⟨r, key, a, rfl, e2.symm⟩, e3⟩
    · exact .inr ⟨e1, .inl ⟨r, key, a, rfl, e2.symm⟩⟩
  · cases k with
    | tup ks =>
      obtain ⟨key, e⟩ := dKeys_ok (show ks.all scOk = true from hk)
      obtain ⟨b0, vs, rfl, h1, h2⟩ := rd_tup ry
      have ev := rds_key e h2
      subst ev
      rcases rkT_get e b with ⟨d, v, e1, e2, e3⟩ | ⟨e1, e2⟩
      · exact .inl ⟨d, v, e1, .inr ⟨r, key, b0, a, rfl, h1.2, e2.symm⟩, e3⟩
      · exact .inr ⟨e1, .inr ⟨r, key, b0, a, rfl, h1.2, e2.symm⟩⟩
    | _ => cases hk

/-! ### subscripts -/
def oN : Option D → M → Option (Rs D)
  | some d, m => some (.ok d m)
  | none, _ => none
def ixL : Option (List D) → D → M → Option (Rs D)
  | some ds, .int i, m => oN (atI ds i) m
  | _, _, _ => none
def ixD : Option (Bool × List (D × D)) → D → M → Option (Rs D)
  | some (t, kvs), k, m => gif (kOk t k) (oN (dget kvs k) m)
  | none, _, _ => none
def gIx : G2 := fun x y m => match x with
  | .lcon ds => ixL (some ds) y m
  | .ref n => (match lstO m[n]? with
    | some ds => ixL (some ds) y m
    | none => ixD (dO m[n]?) y m)
  | _ => ixL (asT x) y m
theorem rds.atI {ds : List D} {vs : List V} {i : Int} {d : D} (r : rds K ρ H ds vs) (h : atI ds i = some d) : ∃ v, atI vs i = some v ∧ rd K ρ H d v := by
  obtain ⟨j, h1, h2, h3, h4, h5⟩ := atI_get h
  obtain ⟨v, e, q⟩ := r.get h2
  refine ⟨v, ?_, q⟩
  unfold L2.atI at h ⊢
  rw [← r.length]
  cases e2 : ixN ds.length i with
  | none => rw [e2] at h; cases h
  | some j' =>
    obtain ⟨g1, g2, _, _⟩ := ixN_seq e2
    rw [h1] at g1
    cases g1
    exact e
def rIxAll (K : PySem.W.Frag) : R2 := fun x y H Q => (rIxL K x y H Q ∨ rIxT K x y H Q) ∨ ∃ a v, x = .ref a ∧ DGet H a y (some v) ∧ Q v H
theorem ix_dct (hu : X.A.units + 1 < cLine) : IxR X (fun x y H Q => ∃ a v, x = .ref a ∧ DGet H a y (some v) ∧ Q v H) := by
  intro value slice pins s σ H x y v u Q I rx ry h hs
  obtain ⟨a, z, rfl, g, q⟩ := h
  cases rx
  have hT := dict_typeIs I g
  have hg : wpAny (model X.prog X.w) X.A (getItem (.ref a) u) (EP X pins σ Q) X.xe s := d_getItem hu I g ry fun w' s3 I3 rw' => ⟨z, H, I3, rw', q⟩
  unfold subscriptTail
  refine wpAny_bind ?_
  rw [getitemInPython_of_ne
    hT.not_modules]
  refine wpAny_bind (wpAny_specialOf hT PySem.F.slot_dict_getitem.lookup ?_)
  have fin : wpAny (model X.prog X.w) X.A (subscripted slice false (.ref a) u) (fun r s₃ => wpAny (model X.prog X.w) X.A (letTemporaryGo value (.ref a) r >>= fun _ => pure r) (EP X pins σ Q) X.xe s₃) X.xe s := by
    rw [hs]
    exact wpAny_operating (wpAny_mono hg (fun r s₃ h₃ =>
      wpAny_bind (wpAny_letTemporaryGo (wpAny_pure h₃))) fun _ _ x => x)
  first
    | exact wpAny_pure (wpAny_bind fin)
    | exact wpAny_bind (wpAny_pure
        (wpAny_bind fin))
    | exact wpAny_bind fin
theorem ix_all (hu : X.A.units + 1 < cLine) : IxR X (rIxAll X.K) := (ix_list.or ix_tup).or (ix_dct hu)
theorem oN_some {o : Option D} {d : D} {m : M} {post : D → M → List Addr → Hp → Prop} (h : W K w ρ H (oN o m) post) (hm : HRel K ρ H m) : ∃ d, o = some d ∧ post d m ρ H := by
  cases o with
  | none => exact h.elim
  | some d => exact ⟨d, rfl, h.ok hm⟩
theorem ixL_some {o : Option (List D)} {y : D} {m : M} {post : D → M → List Addr → Hp → Prop} (h : W K w ρ H (ixL o y m) post) (hm : HRel K ρ H m) : ∃ ds i d, o = some ds ∧ y = .int i ∧ atI ds i = some d ∧ post d m ρ H := by
  cases o with
  | none => exact h.elim
  | some ds =>
    cases y with
    | int i =>
      obtain ⟨d, e2, q⟩ := oN_some (d := .non) (show W K w ρ H (oN (atI ds i) m) post from h) hm
      exact ⟨ds, i, d, rfl, rfl, e2, q⟩
    | _ => exact h.elim
theorem ix_tupD {dx dy : D} {x y : V} {Q : VK} (hm : HRel K ρ H m) (rx : rd K ρ H dx x) (ry : rd K ρ H dy y) (e : W K w ρ H (ixL (asT dx) dy m) (fun d _ ρ' H' => ∀ v, rd K ρ' H' d v → Q v H')) : rIxAll K x y H Q := by
  obtain ⟨ds, i, d, ed, rfl, e2, q⟩ := ixL_some e hm
  obtain ⟨p, vs, rfl, h1, h2⟩ := rd_asT ed rx
  obtain ⟨v, e3, r⟩ := h2.atI e2
  exact .inl (.inr ⟨p, vs, i, v, rfl, rd_int ry, h1, e3, q v r⟩)
theorem ix_ok : OpD K w (rIxAll K) gIx := by
  intro ρ H m x y dx dy Q hm rx ry e
  cases dx with
  | ref n =>
    obtain ⟨p, rfl, hp⟩ := rd_ref rx
    unfold gIx at e
    simp only at e
    cases el : lstO m[n]? with
    | some ds =>
      rw [el] at e
      obtain ⟨ds', i, d, ed, rfl, e2, q⟩ := ixL_some e hm
      cases ed
      obtain ⟨vs, h1, h2⟩ := lst_at hm hp el
      obtain ⟨v, e3, r⟩ := h2.atI e2
      exact .inl (.inl ⟨p, vs, i, v, rfl, rd_int ry, h1, e3, q v r⟩)
    | none =>
      rw [el] at e
      simp only at e
      cases ed : dO m[n]? with
      | none => rw [ed] at e; exact e.elim
      | some tk =>
        obtain ⟨t, kvs⟩ := tk
        rw [ed] at e
        obtain ⟨hk, e⟩ := W.gif e
        obtain ⟨d, e2, q⟩ := oN_some (d := .non) e hm
        rcases dget_ok hm hp ed hk ry with ⟨d', v, e3, g, r⟩ | ⟨e3, _⟩
        · rw [e2] at e3
          cases e3
          exact .inr ⟨p, v, rfl, g, q v r⟩
        · rw [e2] at e3
          cases e3
  | non => exact ix_tupD hm rx ry e
  | bl _ => exact ix_tupD hm rx ry e
  | int _ => exact ix_tupD hm rx ry e
  | str _ => exact ix_tupD hm rx ry e
  | tup _ => exact ix_tupD hm rx ry e
  | con _ => exact ix_tupD hm rx ry e
  | ftp _ => exact ix_tupD hm rx ry e
  | lcon ds0 =>
    obtain ⟨ds, i, d, ed, rfl, e2, q⟩ := ixL_some e hm
    cases ed
    obtain ⟨p, vs, rfl, h1, h2⟩ := rd_lcon rx
    obtain ⟨v, e3, r⟩ := h2.atI e2
    exact .inl (.inl ⟨p, vs, i, v, rfl, rd_int ry, h1.sq, e3, q v r⟩)
theorem se_ix {a b : Expr} {pos : Pos} {fa fb : ME} (hu : X.A.units + 1 < cLine) (ha : PE X a (tE X.K w fa)) (hb : PE X b (tE X.K w fb)) (hs : PlainIx b) : PE X (.Subscript a b pos) (tE X.K w (mOp gIx fa fb)) :=
  (pe_ix (ix_all hu) ha hb hs).weak fun _ _ _ q => op_lift ix_ok q

/-! ### in -/
def inP (neg : Bool) (m : M) : Option PyData → Option PyData → Option (Rs D)
  | some x, some (.list ds) => some (.ok (.bl (if neg then !(ds.any fun z => PyData.eqv z x) else ds.any fun z => PyData.eqv z x)) m)
  | some x, some (.tuple ds) => some (.ok (.bl (if neg then !(ds.any fun z => PyData.eqv z x) else ds.any fun z => PyData.eqv z x)) m)
  | _, _ => none
def inD (neg : Bool) (x : D) (m : M) : Bool × List (D × D) → Option (Rs D)
  | (t, kvs) => gif (kOk t x) (some (.ok (.bl (if neg then !(dget kvs x).isSome else (dget kvs x).isSome)) m))
def gIn (neg : Bool) : G2 := fun x y m => match y with
  | .ref n => (match dO m[n]? with
    | some q => inD neg x m q
    | none => inP neg m (toP m fuelP x) (toP m fuelP y))
  | _ => inP neg m (toP m fuelP x) (toP m fuelP y)
def rInAll (K : PySem.W.Frag) (neg : Bool) : R2 := fun x y H Q =>
  (∃ d ds, Dp K H x d ∧ (Dp K H y (.list ds) ∨ Dp K H y (.tuple ds)) ∧ SeqAt.shaped d = true ∧ SeqAt.shaped (.list ds) = true ∧ Q (.bl (if neg then !(ds.any fun z => PyData.eqv z d) else ds.any fun z => PyData.eqv z d)) H) ∨
  ∃ a o, y = .ref a ∧ DGet H a x o ∧ Q (.bl (if neg then !o.isSome else o.isSome)) H
theorem op_inAll (hu : X.A.units + 65 < cLine) : OpR X (compareOp .In) (rInAll X.K false) := by
  intro pins s σ H x y v u Q I rx ry h
  rcases h with ⟨d, ds, hd, he, sd, se, q⟩ | ⟨a, o, rfl, g, q⟩
  · obtain ⟨as, r1⟩ := Dp.reads I d x v hd rx
    rcases he with he | he
    · obtain ⟨bs, r2⟩ := Dp.reads I (.list ds) y u he ry
      exact SeqAt.in_list_reads r2 r1 (SeqAt.canLay_of_shaped se) (SeqAt.canLay_of_shaped sd)
        (room_in_shaped sd hu) ⟨.bl _, H, I, rfl, q⟩
    · obtain ⟨bs, r2⟩ := Dp.reads I (.tuple ds) y u he ry
      exact SeqAt.in_tuple_reads r2 r1 (SeqAt.canLay_of_shaped se) (SeqAt.canLay_of_shaped sd) (room_in_shaped sd hu) ⟨.bl _, H, I, rfl, q⟩
  · cases ry
    exact d_in (by omega) I g rx fun s3 I3 => ⟨.bl o.isSome, H, I3, rfl, q⟩
theorem op_notInAll (hu : X.A.units + 65 < cLine) : OpR X (compareOp .NotIn) (rInAll X.K true) := by
  intro pins s σ H x y v u Q I rx ry h
  rcases h with ⟨d, ds, hd, he, sd, se, q⟩ | ⟨a, o, rfl, g, q⟩
  · obtain ⟨as, r1⟩ := Dp.reads I d x v hd rx
    rcases he with he | he
    · obtain ⟨bs, r2⟩ := Dp.reads I (.list ds) y u he ry
      exact SeqAt.notIn_list_reads r2 r1 (SeqAt.canLay_of_shaped se) (SeqAt.canLay_of_shaped sd)
        (room_in_shaped sd hu) ⟨.bl _, H, I, rfl, q⟩
    · obtain ⟨bs, r2⟩ := Dp.reads I (.tuple ds) y u he ry
      exact SeqAt.notIn_tuple_reads r2 r1 (SeqAt.canLay_of_shaped se) (SeqAt.canLay_of_shaped sd) (room_in_shaped sd hu) ⟨.bl _, H, I, rfl, q⟩
  · cases ry
    exact d_notIn (by omega) I g rx fun s3 I3 => ⟨.bl (!o.isSome), H, I3, rfl, q⟩
theorem inP_ok {neg : Bool} {x y : V} {dx dy : D} {Q : VK} (hm : HRel K ρ H m) (rx : rd K ρ H dx x) (ry : rd K ρ H dy y)
    (e : W K w ρ H (inP neg m (toP m fuelP dx) (toP m fuelP dy)) (fun d _ ρ' H' => ∀ v, rd K ρ' H' d v → Q v H')) : rInAll K neg x y H Q := by
  unfold inP at e
  split at e
  · rename_i p ds e1 e2
    exact .inl ⟨p, ds, toP_dp hm _ _ _ _ rx e1, .inl (toP_dp hm _ _ _ _ ry e2), toP_shaped e1, toP_shaped e2, e.ok hm _ rd_blI⟩
  · rename_i p ds e1 e2
    exact .inl ⟨p, ds, toP_dp hm _ _ _ _ rx e1, .inr (toP_dp hm _ _ _ _ ry e2), toP_shaped e1, by simpa [SeqAt.shaped, PyData.canLay0, PyData.depth] using toP_shaped e2, e.ok hm _ rd_blI⟩
  · exact e.elim
theorem in_ok {neg : Bool} : OpD K w (rInAll K neg) (gIn neg) := by
  intro ρ H m x y dx dy Q hm rx ry e
  unfold gIn at e
  split at e
  · rename_i n
    split at e
    · rename_i q eq
      obtain ⟨t, kvs⟩ := q
      obtain ⟨hk, e⟩ := W.gif e
      obtain ⟨p, rfl, hp⟩ := rd_ref ry
      rcases dget_ok hm hp eq hk rx with ⟨d', v, e3, g, r⟩ | ⟨e3, g⟩
      · rw [e3] at e
        exact .inr ⟨p, some v, rfl, g, e.ok hm _ rd_blI⟩
      · rw [e3] at e
        exact .inr ⟨p, none, rfl, g, e.ok hm _ rd_blI⟩
    · exact inP_ok hm rx ry e
  · exact inP_ok hm rx ry e
end
end EV

set_option Elab.async false
set_option linter.all false
set_option maxRecDepth 100000
set_option maxHeartbeats 2000000
namespace EV
open PySem PySem.Spec PyProof.Rows L2
/-! ### targets -/
inductive Pat where
  | n (i : Nat) | t (ps : List Pat)
mutual
def Pat.put : Pat → D → Env → Option Env
  | .n i, d, env => some (env.set i (some d))
  | .t ps, d, env => match asT d with
    | some ds => Pat.puts ps ds env
    | none => none
def Pat.puts : List Pat → List D → Env → Option Env
  | [], [], env => some env
  | p :: ps, d :: ds, env => match Pat.put p d env with
    | some env' => Pat.puts ps ds env'
    | none => none
  | _, _, _ => none
end
mutual
def gP (K : PySem.W.Frag) : Pat → TG
  | .n i => gName i
  | .t ps => gTup K ps.length (gPs K ps)
def gPs (K : PySem.W.Frag) : List Pat → TGs
  | [] => gNil
  | p :: ps => gCons (gP K p) (gPs K ps)
end
mutual
def Pat.slots : Pat → List Nat
  | .n i => [i]
  | .t ps => Pat.slotsL ps
def Pat.slotsL : List Pat → List Nat
  | [] => []
  | p :: ps => Pat.slots p ++ Pat.slotsL ps
end
theorem wipe_set {σ : SLT} {i : Nat} {x : Option V} : ∀ {vs : List Nat}, i ∈ vs → wipe (σ.set i x) vs = wipe σ vs
  | [], h => by simp at h
  | v :: vs, h => by
    unfold wipe
    by_cases e : i ∈ vs
    · rw [wipe_set e]
    · have : i = v := by
        rcases List.mem_cons.mp h with h | h
        · exact h
        · exact absurd h e
      subst this
      have aux : ∀ (τ : SLT) (us : List Nat), i ∉ us → wipe (τ.set i x) us = (wipe τ us).set i x := by
        intro τ us
        induction us with
        | nil => intro _; rfl
        | cons u us ih =>
          intro hu
          simp only [List.mem_cons, not_or] at hu
          unfold wipe
          rw [ih hu.2, List.set_comm _ _ hu.1]
      rw [aux σ vs e, List.set_set]
section
variable {X : Cx} {K : PySem.W.Frag} {w : Wi} {ρ : List Addr} {H : Hp} {m : M}
mutual
theorem Pat.ok {vs : List Nat} {Q : L2.St → Hp → Prop} : ∀ (p : Pat) {d : D} {v : V} {env env' : Env} {σ : SLT}, ER K ρ H env σ → rd K ρ H d v → p.put d env = some env' → (∀ i ∈ p.slots, i ∈ vs) →
    (∀ σ', ER K ρ H env' σ' → wipe σ' vs = wipe σ vs → Q σ' H) → gP K p v σ H Q
  | .n i, d, v, env, env', σ, he, hd, e, hs, q => by
    unfold Pat.put at e
    cases e
    unfold gP
    exact q _ (he.set hd) (wipe_set (hs i (by unfold Pat.slots; simp)))
  | .t ps, d, v, env, env', σ, he, hd, e, hs, q => by
    unfold Pat.put at e
    cases ed : asT d with
    | none => rw [ed] at e; cases e
    | some ds =>
      rw [ed] at e
      obtain ⟨a, us, rfl, h1, h2⟩ := rd_asT ed hd
      have hl : us.length = ps.length := by rw [← h2.length]; exact Pat.puts_len ps e
      unfold gP
      refine ⟨a, us, rfl, h1, hl, ?_⟩
      exact Pat.oks ps he h2 e (by unfold Pat.slots at hs; exact hs) q
theorem Pat.oks {vs : List Nat} {Q : L2.St → Hp → Prop} : ∀ (ps : List Pat) {ds : List D} {us : List V} {env env' : Env} {σ : SLT}, ER K ρ H env σ → rds K ρ H ds us → Pat.puts ps ds env = some env' → (∀ i ∈ Pat.slotsL ps, i ∈ vs) →
    (∀ σ', ER K ρ H env' σ' → wipe σ' vs = wipe σ vs → Q σ' H) → gPs K ps us σ H Q
  | [], ds, us, env, env', σ, he, hd, e, hs, q => by
    cases ds with
    | nil =>
      unfold Pat.puts at e
      cases e
      unfold rds at hd
      subst hd
      unfold gPs
      exact ⟨rfl, q σ he rfl⟩
    | cons d ds => unfold Pat.puts at e; cases e
  | p :: ps, ds, us, env, env', σ, he, hd, e, hs, q => by
    cases ds with
    | nil => unfold Pat.puts at e; cases e
    | cons d ds =>
      unfold Pat.puts at e
      cases ep : p.put d env with
      | none => rw [ep] at e; cases e
      | some env1 =>
        rw [ep] at e
        unfold rds at hd
        obtain ⟨v, r, rfl, h1, h2⟩ := hd
        unfold gPs
        unfold Pat.slotsL at hs
        refine ⟨v, r, rfl, ?_⟩
        exact Pat.ok p he h1 ep (fun i hi => hs i (List.mem_append_left _ hi)) fun σ1 he1 hw1 => Pat.oks ps he1 h2 e (fun i hi => hs i (List.mem_append_right _ hi)) fun σ2 he2 hw2 => q σ2 he2 (hw2.trans hw1)
theorem Pat.puts_len : ∀ (ps : List Pat) {ds : List D} {env env' : Env}, Pat.puts ps ds env = some env' → ds.length = ps.length
  | [], ds, env, env', e => by
    cases ds with
    | nil => rfl
    | cons d ds => unfold Pat.puts at e; cases e
  | p :: ps, ds, env, env', e => by
    cases ds with
    | nil => unfold Pat.puts at e; cases e
    | cons d ds =>
      unfold Pat.puts at e
      cases ep : p.put d env with
      | none => rw [ep] at e; cases e
      | some env1 =>
        rw [ep] at e
        simp [Pat.puts_len ps e]
end

/-! ### statements -/
def sNil : MS := fun env m => some (.ok (.nx env) m)
def sSeq (f g : MS) : MS := fun env m => bnd (f env m) fun fl m1 => match fl with
  | .nx env1 => g env1 m1
  | r => some (.ok r m1)
theorem seq_lift {f g : MS} {Dn : Ends} {σ : SLT} (q : tS K w (sSeq f g) Dn σ H) : tSeq (tS K w f) (tS K w g) Dn σ H := by
  obtain ⟨ρ, env, m, hm, he, q⟩ := q
  refine ⟨ρ, env, m, hm, he, q.bnd.imp fun fl m1 ρ1 H1 e1 hm1 q1 => ?_⟩
  cases fl with
  | nx env1 => exact fun σ1 he1 => ⟨ρ1, env1, m1, hm1, he1, q1⟩
  | rt d => exact q1.ok hm1
  | bk env1 => exact q1.ok hm1
  | ct env1 => exact q1.ok hm1
theorem ss_nil : PSs X [] (tS X.K w sNil) := pss_nil.weak fun Dn σ H q => by
  obtain ⟨ρ, env, m, hm, he, q⟩ := q
  exact q.ok hm σ he
theorem ss_cons {st : Stmt} {rest : List Stmt} {f g : MS} (h1 : PS X st (tS X.K w f)) (h2 : PSs X rest (tS X.K w g)) : PSs X (st :: rest) (tS X.K w (sSeq f g)) := (pss_cons h1 h2).weak fun _ _ _ q => seq_lift q
theorem ss_one {st : Stmt} {f : MS} (h1 : PS X st (tS X.K w f)) : PSs X [st] (tS X.K w f) := pss_one h1
theorem ss_pass {pos : Pos} : PS X (.Pass pos) (tS X.K w sNil) := ps_pass.weak fun Dn σ H q => by
  obtain ⟨ρ, env, m, hm, he, q⟩ := q
  exact q.ok hm σ he
def sExpr (f : ME) : MS := fun env m => bnd (f env m) fun _ m1 => some (.ok (.nx env) m1)
theorem ss_expr {e : Expr} {pos : Pos} {f : ME} (he : PE X e (tE X.K w f)) (hs : swapsWith e none pos.line X.env = pure false) : PS X (.Expr e pos) (tS X.K w (sExpr f)) := (ps_expr he hs).weak fun Dn σ H q => by
  obtain ⟨ρ, env, m, hm, he, q⟩ := q
  exact ⟨ρ, env, m, hm, he, q.bnd.imp fun d m1 ρ1 H1 e1 hm1 q1 v r => q1.ok hm1 σ (he.mono e1)⟩
def sRet (f : ME) : MS := fun env m => bnd (f env m) fun d m1 => some (.ok (.rt d) m1)
theorem ss_ret {e : Expr} {pos : Pos} {f : ME} (he : PE X e (tE X.K w f)) : PS X (.Return (some e) pos) (tS X.K w (sRet f)) := (ps_ret he).weak fun Dn σ H q => by
  obtain ⟨ρ, env, m, hm, he, q⟩ := q
  exact ⟨ρ, env, m, hm, he, q.bnd.imp fun d m1 ρ1 H1 e1 hm1 q1 v r => q1.ok hm1 v r⟩
def sRetN : MS := fun _ m => some (.ok (.rt .non) m)
theorem ss_retN {pos : Pos} : PS X (.Return none pos) (tS X.K w sRetN) := ps_retN.weak fun Dn σ H q => by
  obtain ⟨ρ, env, m, hm, he, q⟩ := q
  exact q.ok hm _ rd_nonI
def sIf (c : MT) (f g : MS) : MS := fun env m => bnd (c env m) fun b m1 => match b with
  | true => f env m1
  | false => g env m1
theorem ss_if {c : Expr} {a b : List Stmt} {pos : Pos} {tc : MT} {f g : MS} (hc : PT X c (tT X.K w tc)) (ha : PSs X a (tS X.K w f)) (hb : PSs X b (tS X.K w g)) : PS X (.If c a b pos) (tS X.K w (sIf tc f g)) := (ps_if hc ha hb).weak fun Dn σ H q => by
  obtain ⟨ρ, env, m, hm, he, q⟩ := q
  refine ⟨ρ, env, m, hm, he, q.bnd.imp fun b m1 ρ1 H1 e1 hm1 q1 => ?_⟩
  cases b with
  | true => exact iteT ⟨ρ1, env, m1, hm1, he.mono e1, q1⟩
  | false => exact iteF ⟨ρ1, env, m1, hm1, he.mono e1, q1⟩
def sBreak : MS := fun env m => some (.ok (.bk env) m)
def sCont : MS := fun env m => some (.ok (.ct env) m)
theorem ss_break {pos : Pos} : PS X (.Break pos) (tS X.K w sBreak) := ps_break.weak fun Dn σ H q => by
  obtain ⟨ρ, env, m, hm, he, q⟩ := q
  exact q.ok hm σ he
theorem ss_cont {pos : Pos} : PS X (.Continue pos) (tS X.K w sCont) := ps_continue.weak fun Dn σ H q => by
  obtain ⟨ρ, env, m, hm, he, q⟩ := q
  exact q.ok hm σ he
/-- what is never reached -/
def sNever : MS := fun _ _ => none
theorem ss_never {st : Stmt} : PS X st (tS X.K w sNever) := ps_never.weak fun Dn σ H q => by
  obtain ⟨ρ, env, m, hm, he, q⟩ := q
  exact q.elim
/-- target = value -/
def sSet (i : Nat) (f : ME) : MS := fun env m => bnd (f env m) fun d m1 => some (.ok (.nx (env.set i (some d))) m1)
theorem set_lift {i : Nat} {f : ME} {Dn : Ends} {σ : SLT} (q : tS K w (sSet i f) Dn σ H) : tAsg (tE K w f) (gName i) Dn σ H := by
  obtain ⟨ρ, env, m, hm, he, q⟩ := q
  exact ⟨ρ, env, m, hm, he, q.bnd.imp fun d m1 ρ1 H1 e1 hm1 q1 v r => q1.ok hm1 _ ((he.mono e1).set r)⟩
theorem ss_set {i : Nat} {x : Str} {e : Expr} {f : ME} {pos pos' : Pos} (hN : X.N.Nodup) (hi : X.N[i]? = some x) (hx : Loc X.env.scope x) (he : PE X e (tE X.K w f)) (hs : swapsWith e (some (.Name x pos')) pos.line X.env = pure false)
    (hf : X.fn x = true ∨ X.env.scope.names.lookup x = some .local) : PS X (.Assign [.Name x pos'] e pos) (tS X.K w (sSet i f)) := (ps_set hN hi hx he hs hf).weak fun _ _ _ q => set_lift q
def sPat (p : Pat) (f : ME) : MS := fun env m => bnd (f env m) fun d m1 => match p.put d env with
  | some env' => some (.ok (.nx env') m1)
  | none => none
theorem ss_pat {tg e : Expr} {f : ME} {p : Pat} {pos : Pos} (he : PE X e (tE X.K w f)) (hg : PG X tg (gP X.K p)) (hs : swapsWithSole [tg] e pos.line X.env = pure false) (hw : swappedStores [tg] e X.env = pure none)
    (h1 : (assignEach [tg] X.env).map (·.2) = [assign tg X.env]) : PS X (.Assign [tg] e pos) (tS X.K w (sPat p f)) := (ps_asg he hg hs hw h1).weak fun Dn σ H q => by
  obtain ⟨ρ, env, m, hm, he, q⟩ := q
  refine ⟨ρ, env, m, hm, he, q.bnd.imp fun d m1 ρ1 H1 e1 hm1 q1 v r => ?_⟩
  split at q1
  · rename_i env' ep
    exact Pat.ok (vs := p.slots) p (he.mono e1) r ep (fun _ h => h) fun σ' he' _ => q1.ok hm1 σ' he'
  · exact q1.elim
/-- a, b = x, y -/
def sPar (i j : Nat) (f : MA) : MS := fun env m => bnd (f env m) fun ds m1 => match ds with
  | [a, b] => some (.ok (.nx ((env.set i (some a)).set j (some b))) m1)
  | _ => none
theorem par_lift {i j : Nat} {f : MA} {Dn : Ends} {σ : SLT} (q : tS K w (sPar i j f) Dn σ H) : tPar i j (tA K w f) Dn σ H := by
  obtain ⟨ρ, env, m, hm, he, q⟩ := q
  refine ⟨ρ, env, m, hm, he, q.bnd.imp fun ds m1 ρ1 H1 e1 hm1 q1 vs r => ?_⟩
  split at q1
  · rename_i a b
    unfold rds at r
    obtain ⟨v, r', rfl, ra, r2⟩ := r
    unfold rds at r2
    obtain ⟨v2, r3, rfl, rb, r4⟩ := r2
    unfold rds at r4
    subst r4
    exact ⟨v, v2, rfl, q1.ok hm1 _ (((he.mono e1).set ra).set rb)⟩
  · exact q1.elim

/-! ### what is walked -/
abbrev Nxt := Nat → M → Option (Option D)
abbrev MI := Env → M → Option (Rs (Nat × Nxt))
def JOk (K : PySem.W.Frag) (ρ0 : List Addr) (H0 : Hp) (J : It) (nx : Nxt) : Prop := ∀ ρ H m i, Wk ρ0 H0 ρ H → HRel K ρ H m → match nx i m with
  | none => True
  | some none => J.stop i H
  | some (some d) => J.go i H ∧ ∀ x H', J.yld i H x H' → Ext ρ H ρ H' ∧ HRel K ρ H' m ∧ rd K ρ H' d x
def tI (K : PySem.W.Frag) (w : Wi) (f : MI) : TI := fun σ H R => ∃ ρ env m, HRel K ρ H m ∧ ER K ρ H env σ ∧ W K w ρ H (f env m) fun kn _ ρ' H' => ∀ J, JOk K ρ' H' J kn.2 → R J H'
theorem _root_.L2.PI.weak {tg iter : Expr} {t t' : TI} (h : PI X tg iter t) (w : ∀ σ H R, t' σ H R → t σ H R) : PI X tg iter t' := ⟨fun pins s σ H Q I q => h.run pins s σ H Q I (w _ _ _ q)⟩
/-- a list or a tuple -/
theorem pi_seq {tg l : Expr} {tl : TE} (hl : PE X l tl) : PI X tg l (fun σ H R => tl σ H fun x H1 => ∃ a, x = .ref a ∧ (((∃ xs, SqL X.K H1 a xs) ∧ R (Itl X.K a) H1) ∨ ((∃ xs, SqT X.K H1 a xs) ∧ R (Itt X.K a) H1))) := by
  refine ⟨fun pins s σ H R I h => thn (hl.run pins s σ H _ I h) fun v s1 ⟨x, H1, I1, r1, a, e, q1⟩ => ?_⟩
  subst e
  cases r1
  have hfr := I1.hok.fresh (Nat.le_refl s1.heap.objs.size)
  rcases q1 with ⟨⟨xs, hq⟩, q⟩ | ⟨⟨xs, hq⟩, q⟩
  · obtain ⟨its, rv, p, hz⟩ := I1.list hq
    refine wpAny_pyIter_list p.isList ⟨s1.heap.objs.size, [s1.heap.objs.size], _, _, H1, rfl, I1.kept (t' := s1.toks) fun b o e => Heap.get?_push_of_some _ e,
      turn_list a _, ⟨_, Heap.get?_push_size _ rfl, rfl, rfl⟩, fun b hb => ?_, q⟩
    obtain rfl : b = s1.heap.objs.size := by simpa using hb
    exact I1.fpOk (Nat.le_refl _) hfr
  · obtain ⟨its, rv, p, hz⟩ := I1.tuple hq
    refine wpAny_pyIter_tuple (show s1.heap.IsTuple a its.toArray from p) ⟨s1.heap.objs.size, [s1.heap.objs.size], _, _, H1, rfl, I1.kept (t' := s1.toks) fun b o e => Heap.get?_push_of_some _ e,
      turn_tuple a _, ⟨_, Heap.get?_push_size _ rfl, rfl, rfl⟩, fun b hb => ?_, q⟩
    obtain rfl : b = s1.heap.objs.size := by simpa using hb
    exact I1.fpOk (Nat.le_refl _) hfr
def nxL (n : Nat) : Nxt := fun i m => match lstO m[n]? with
  | some ds => some ds[i]?
  | none => none
def nxT (ds : List D) : Nxt := fun i _ => some ds[i]?
def srcD (d : D) (m : M) : Option (Rs (Nat × Nxt)) := match d with
  | .ref n => (match lstO m[n]? with
    | some ds => some (.ok (ds.length + 1, nxL n) m)
    | none => none)
  | _ => match asT d with
    | some ds => some (.ok (ds.length + 1, nxT ds) m)
    | none => none
def iSeq (f : ME) : MI := fun env m => bnd (f env m) srcD
theorem sqL_fun {K : PySem.W.Frag} {H : Hp} {a : Addr} {xs : List V} {P : Prop} (h : SqL K H a xs) (hP : (∀ ys, SqL K H a ys → ys = xs) → P) (hu : ∀ ys, SqL K H a ys → ys = xs) : P := hP hu
theorem jok_list {n : Nat} {p : Addr} (hp : ρ[n]? = some p) : JOk K ρ H (Itl K p) (nxL n) := by
  intro ρ1 H1 m1 i e1 hm1
  unfold nxL
  cases el : lstO m1[n]? with
  | none => trivial
  | some ds =>
    obtain ⟨vs, h1, h2⟩ := lst_at hm1 (e1.get hp) el
    simp only
    cases ei : ds[i]? with
    | none =>
      refine ⟨vs, h1, ?_⟩
      rw [← h2.length]
      exact List.getElem?_eq_none_iff.mp ei
    | some d =>
      obtain ⟨v, ev, r⟩ := h2.get ei
      refine ⟨⟨vs, v, h1, ev⟩, fun x H' hy => ?_⟩
      obtain ⟨rfl, hx⟩ := hy
      have := hx vs h1
      rw [ev] at this
      cases this
      exact ⟨Ext.refl _ _, hm1, r⟩
theorem sqT_mono {ρ' : List Addr} {H' : Hp} {p : Addr} {vs : List V} (e : Wk ρ H ρ' H') (h : TupAt K ρ H p vs) : SqT K H' p vs := (h.monoT e.tps).sq
theorem jok_tup {p : Addr} {ds : List D} {vs : List V} (h1 : TupAt K ρ H p vs) (h2 : rds K ρ H ds vs) : JOk K ρ H (Itt K p) (nxT ds) := by
  intro ρ1 H1 m1 i e1 hm1
  have g1 := sqT_mono e1 h1
  have g2 := h2.monoT e1.tps

  unfold nxT
  cases ei : ds[i]? with
  | none =>
    refine ⟨vs, g1, ?_⟩
    rw [← g2.length]
    exact List.getElem?_eq_none_iff.mp ei
  | some d =>
    obtain ⟨v, ev, r⟩ := g2.get ei
    refine ⟨⟨vs, v, g1, ev⟩, fun x H' hy => ?_⟩
    obtain ⟨rfl, hx⟩ := hy
    have := hx vs g1
    rw [ev] at this
    cases this
    exact ⟨Ext.refl _ _, hm1, r⟩
theorem rd_asTA {d : D} {ds : List D} {v : V} (e : asT d = some ds) (h : rd K ρ H d v) : ∃ p vs, v = .ref p ∧ TupAt K ρ H p vs ∧ rds K ρ H ds vs := by
  cases d with
  | tup es => cases e; obtain ⟨p, vs, a, b, c⟩ := rd_tup h; exact ⟨p, vs, a, .inl ⟨b.1, .inl b.2⟩, c⟩
  | con es => cases e; exact rd_con h
  | ftp es => cases e; obtain ⟨p, vs, a, b, c⟩ := rd_ftp h; exact ⟨p, vs, a, b.tup, c⟩
  | lcon _ => cases e
  | non => cases e
  | bl _ => cases e
  | int _ => cases e
  | str _ => cases e
  | ref _ => cases e
theorem src_tup {d : D} {x : V} {m : M} {R : It → Hp → Prop} (hm : HRel K ρ H m) (r : rd K ρ H d x) (q : W K w ρ H (match asT d with | some ds => some (.ok (ds.length + 1, nxT ds) m) | none => none) fun kn _ ρ' H' => ∀ J, JOk K ρ' H' J kn.2 → R J H') :
    ∃ a, x = .ref a ∧ (((∃ xs, SqL K H a xs) ∧ R (Itl K a) H) ∨ ((∃ xs, SqT K H a xs) ∧ R (Itt K a) H)) := by
  cases ed : asT d with
  | none => rw [ed] at q; exact q.elim
  | some ds =>
    rw [ed] at q
    obtain ⟨p, vs, rfl, h1, h2⟩ := rd_asTA ed r
    exact ⟨p, rfl, .inr ⟨⟨vs, h1.sq⟩, q.ok hm _ (jok_tup h1 h2)⟩⟩
theorem src_ok {d : D} {x : V} {m : M} {R : It → Hp → Prop} (hm : HRel K ρ H m) (r : rd K ρ H d x) (q : W K w ρ H (srcD d m) fun kn _ ρ' H' => ∀ J, JOk K ρ' H' J kn.2 → R J H') :
    ∃ a, x = .ref a ∧ (((∃ xs, SqL K H a xs) ∧ R (Itl K a) H) ∨ ((∃ xs, SqT K H a xs) ∧ R (Itt K a) H)) := by
  cases d with
  | ref n =>
    obtain ⟨p, rfl, hp⟩ := rd_ref r
    unfold srcD at q
    simp only at q
    cases el : lstO m[n]? with
    | none => rw [el] at q; exact q.elim
    | some ds =>
      rw [el] at q
      obtain ⟨vs, h1, h2⟩ := lst_at hm hp el
      exact ⟨p, rfl, .inl ⟨⟨vs, h1⟩, q.ok hm _ (jok_list hp)⟩⟩
  | non => exact src_tup hm r q
  | bl _ => exact src_tup hm r q
  | int _ => exact src_tup hm r q
  | str _ => exact src_tup hm r q
  | tup _ => exact src_tup hm r q
  | con _ => exact src_tup hm r q
  | ftp _ => exact src_tup hm r q
  | lcon _ => exact src_tup hm r q
theorem si_seq {tg l : Expr} {f : ME} (hl : PE X l (tE X.K w f)) : PI X tg l (tI X.K w (iSeq f)) := (pi_seq hl).weak fun σ H R q => by
  obtain ⟨ρ, env, m, hm, he, q⟩ := q
  exact ⟨ρ, env, m, hm, he, q.bnd.imp fun d m1 ρ1 H1 e1 hm1 q1 x r => src_ok hm1 r q1⟩
/-- ranges -/
def ok62 (i : Int) : Bool := decide (-4611686018427387904 ≤ i) && decide (i < 4611686018427387904)
theorem ok62_ok {i : Int} (h : ok62 i = true) : -(2 ^ 62) ≤ i ∧ i < 2 ^ 62 := by
  unfold ok62 at h
  rw [Bool.and_eq_true] at h
  have h1 := of_decide_eq_true h.1
  have h2 := of_decide_eq_true h.2
  omega
def nxR (lo : Int) (n : Nat) : Nxt := fun i _ => match Nat.blt i n with
  | true => some (some (.int (lo + i)))
  | false => some none
theorem jok_range {lo : Int} {n : Nat} : JOk K ρ H (Itr lo n) (nxR lo n) := by
  intro ρ1 H1 m1 i e1 hm1
  unfold nxR
  cases eb : Nat.blt i n with
  | true =>
    have hi : i < n := by simpa [Nat.blt_eq] using eb
    refine ⟨hi, fun x H' hy => ?_⟩
    obtain ⟨rfl, rfl⟩ := hy
    exact ⟨Ext.refl _ _, hm1, rd_intI⟩
  | false =>
    have hi : ¬ i < n := by
      intro z
      rw [Nat.blt_eq.mpr z] at eb
      cases eb
    show n ≤ i
    omega
def iRange1 (f : MA) : MI := fun env m => bnd (f env m) fun ds m1 => match ds with
  | [.int j] => gif (ok62 j) (some (.ok (j.toNat + 1, nxR 0 j.toNat) m1))
  | _ => none
def iRange2 (f : MA) : MI := fun env m => bnd (f env m) fun ds m1 => match ds with
  | [.int i, .int j] => gif (ok62 i && ok62 j) (some (.ok ((j - i).toNat + 1, nxR i (j - i).toNat) m1))
  | _ => none
theorem rds1 {d : D} {vs : List V} (r : rds K ρ H [d] vs) : ∃ v, vs = [v] ∧ rd K ρ H d v := by
  unfold rds at r
  obtain ⟨v, r', rfl, ra, r2⟩ := r
  unfold rds at r2
  subst r2
  exact ⟨v, rfl, ra⟩
theorem rds2 {d e : D} {vs : List V} (r : rds K ρ H [d, e] vs) : ∃ v u, vs = [v, u] ∧ rd K ρ H d v ∧ rd K ρ H e u := by
  unfold rds at r
  obtain ⟨v, r', rfl, ra, r2⟩ := r
  obtain ⟨u, rfl, rb⟩ := rds1 r2
  exact ⟨v, u, rfl, ra, rb⟩
theorem si_range1 {tg a : Expr} {f : MA} {p pos : Pos} (hg : Gl X "range") (hm : X.mg "range" = none) (ha : PA X [a] (tA X.K w f)) (hs : starEach [a] X.env = [(false, eval a X.env)]) : PI X tg (.Call (.Name "range" p) [a] [] pos) (tI X.K w (iRange1 f)) :=
  (pi_range1 hg hm ha hs).weak fun σ H R q => by
    obtain ⟨ρ, env, m, hm, he, q⟩ := q
    refine ⟨ρ, env, m, hm, he, q.bnd.imp fun ds m1 ρ1 H1 e1 hm1 q1 vs r => ?_⟩
    split at q1
    · rename_i j
      obtain ⟨h62, q1⟩ := q1.gif
      obtain ⟨v, rfl, rv⟩ := rds1 r
      rw [rd_int rv]
      obtain ⟨h1, h2⟩ := ok62_ok h62
      exact ⟨j, rfl, h1, h2, q1.ok hm1 _ jok_range⟩
    · exact q1.elim
theorem si_range2 {tg a b : Expr} {f : MA} {p pos : Pos} (hg : Gl X "range") (hm : X.mg "range" = none) (ha : PA X [a, b] (tA X.K w f)) (hs : starEach [a, b] X.env = [(false, eval a X.env), (false, eval b X.env)]) (hs2 : starEach [b] X.env = [(false, eval b X.env)]) :
    PI X tg (.Call (.Name "range" p) [a, b] [] pos) (tI X.K w (iRange2 f)) :=
  (pi_range2 hg hm ha hs hs2).weak fun σ H R q => by
    obtain ⟨ρ, env, m, hm, he, q⟩ := q
    refine ⟨ρ, env, m, hm, he, q.bnd.imp fun ds m1 ρ1 H1 e1 hm1 q1 vs r => ?_⟩
    split at q1
    · rename_i i j
      obtain ⟨h62, q1⟩ := q1.gif
      rw [Bool.and_eq_true] at h62
      obtain ⟨v, u, rfl, rv, ru⟩ := rds2 r
      rw [rd_int rv, rd_int ru]
      obtain ⟨h1, h2⟩ := ok62_ok h62.1
      obtain ⟨h3, h4⟩ := ok62_ok h62.2
      exact ⟨i, j, rfl, ⟨h1, h2, h3, h4⟩, q1.ok hm1 _ jok_range⟩
    · exact q1.elim
end
end EV

set_option Elab.async false
set_option linter.all false
set_option maxRecDepth 100000
set_option maxHeartbeats 2000000
namespace EV
open PySem PySem.Spec PyProof.Rows L2
/-! ### loops -/
def forLoop (nx : Nxt) (p : Pat) (body : MS) : Nat → Nat → Env → M → Option (Rs Fl)
  | 0, _, _, _ => none
  | k + 1, i, env, m => match nx i m with
    | none => none
    | some none => some (.ok (.nx env) m)
    | some (some d) => match p.put d env with
      | none => none
      | some env1 => bnd (body env1 m) fun fl m1 => match fl with
        | .nx e => forLoop nx p body k (i + 1) e m1
        | .ct e => forLoop nx p body k (i + 1) e m1
        | .bk e => some (.ok (.nx e) m1)
        | .rt d => some (.ok (.rt d) m1)
def sFor (fi : MI) (p : Pat) (body : MS) : MS := fun env m => bnd (fi env m) fun kn m1 => forLoop kn.2 p body kn.1 0 env m1
def whileLoop (c : MT) (body : MS) : Nat → Env → M → Option (Rs Fl)
  | 0, _, _ => none
  | k + 1, env, m => bnd (c env m) fun b m1 => match b with
    | false => some (.ok (.nx env) m1)
    | true => bnd (body env m1) fun fl m2 => match fl with
      | .nx e => whileLoop c body k e m2
      | .ct e => whileLoop c body k e m2
      | .bk e => some (.ok (.nx e) m2)
      | .rt d => some (.ok (.rt d) m2)
def sWhile (n : Nat) (c : MT) (body : MS) : MS := fun env m => whileLoop c body n env m
section
variable {X : Cx} {K : PySem.W.Frag} {w : Wi} {ρ : List Addr} {H : Hp} {m : M}
theorem EndF.of {Dn Dn' : Ends} (h : ∀ σ H, Dn.nx σ H → Dn'.nx σ H) (h2 : ∀ v H, Dn.rt v H → Dn'.rt v H) (h3 : ∀ σ H, Dn.bk σ H → Dn'.bk σ H) (h4 : ∀ σ H, Dn.ct σ H → Dn'.ct σ H) {fl : Fl} (q : EndF K Dn ρ H fl) : EndF K Dn' ρ H fl := by
  cases fl with
  | nx env => exact fun σ e => h _ _ (q σ e)
  | rt d => exact fun v r => h2 _ _ (q v r)
  | bk env => exact fun σ e => h3 _ _ (q σ e)
  | ct env => exact fun σ e => h4 _ _ (q σ e)
theorem for_lift {fi : MI} {p : Pat} {body : MS} {Dn : Ends} {σ : SLT} (q : tS K w (sFor fi p body) Dn σ H) : tFor (tI K w fi) (gP K p) (tS K w body) Dn σ H := by
  obtain ⟨ρ, env, m, hm, he, q⟩ := q
  refine ⟨ρ, env, m, hm, he, q.bnd.imp fun kn m1 ρ1 H1 e1 hm1 q1 J hJ => ?_⟩
  obtain ⟨k, nx⟩ := kn
  let Wv : Nat → Nat → L2.St → Hp → Prop := fun i k σ H => ∃ ρ env m, Ext ρ1 H1 ρ H ∧ HRel K ρ H m ∧ ER K ρ H env σ ∧ W K w ρ H (forLoop nx p body k i env m) fun fl _ ρ' H' => EndF K Dn ρ' H' fl
  refine ⟨Wv, ⟨k, ρ1, env, m1, Ext.refl _ _, hm1, he.mono e1, q1⟩, ?_⟩
  rintro i k σ H ⟨ρ2, env2, m2, e2, hm2, he2, q2⟩
  cases k with
  | zero => exact q2.elim
  | succ k =>
    unfold forLoop at q2
    have hj := hJ ρ2 H m2 i e2.wk hm2
    simp only at hj
    cases en : nx i m2 with
    | none => rw [en] at q2; exact q2.elim
    | some o =>
      rw [en] at q2 hj
      cases o with
      | none => exact .inl ⟨hj, q2.ok hm2 σ he2⟩
      | some d =>
        obtain ⟨hgo, hy⟩ := hj
        refine .inr ⟨hgo, Wv (i + 1) k, fun σ' H' h => ⟨k, Nat.lt_succ_self k, h⟩, fun x H' hyl => ?_⟩
        obtain ⟨e3, hm3, rx⟩ := hy x H' hyl
        simp only at q2
        cases ep : p.put d env2 with
        | none => rw [ep] at q2; exact q2.elim
        | some env3 =>
          rw [ep] at q2
          refine Pat.ok (vs := p.slots) p (he2.mono e3) rx ep (fun _ h => h) fun σ3 he3 _ => ?_
          refine ⟨ρ2, env3, m2, hm3, he3, (q2.mono e3).bnd.imp fun fl m4 ρ4 H4 e4 hm4 q4 => ?_⟩
          cases fl with
          | nx env5 => exact fun σ5 he5 => ⟨ρ4, env5, m4, e2.trans (e3.trans e4), hm4, he5, q4⟩
          | ct env5 => exact fun σ5 he5 => ⟨ρ4, env5, m4, e2.trans (e3.trans e4), hm4, he5, q4⟩
          | bk env5 => exact q4.ok hm4
          | rt d => exact q4.ok hm4
theorem ss_for {tg iter : Expr} {body : List Stmt} {pos : Pos} {fi : MI} {p : Pat} {f : MS} {t : TI → TG → TS → TS} (hs : PS X (.For tg iter body [] pos) (tFor (tI X.K w fi) (gP X.K p) (tS X.K w f))) : PS X (.For tg iter body [] pos) (tS X.K w (sFor fi p f)) := hs.weak fun _ _ _ q => for_lift q
theorem while_lift {n : Nat} {c : MT} {body : MS} {Dn : Ends} {σ : SLT} (q : tS K w (sWhile n c body) Dn σ H) : tWhile (tT K w c) (tS K w body) Dn σ H := by
  obtain ⟨ρ, env, m, hm, he, q⟩ := q
  let Wv : Nat → L2.St → Hp → Prop := fun k σ H => ∃ ρ env m, HRel K ρ H m ∧ ER K ρ H env σ ∧ W K w ρ H (whileLoop c body k env m) fun fl _ ρ' H' => EndF K Dn ρ' H' fl
  refine ⟨Wv, ⟨n, ρ, env, m, hm, he, q⟩, ?_⟩
  rintro k σ H ⟨ρ2, env2, m2, hm2, he2, q2⟩
  cases k with
  | zero => exact q2.elim
  | succ k =>
    unfold whileLoop at q2
    refine ⟨ρ2, env2, m2, hm2, he2, q2.bnd.imp fun b m3 ρ3 H3 e3 hm3 q3 => ?_⟩
    cases b with
    | true =>
      refine iteT ⟨Wv k, fun σ' H' h => ⟨k, Nat.lt_succ_self k, h⟩, ρ3, env2, m3, hm3, he2.mono e3, q3.bnd.imp fun fl m4 ρ4 H4 e4 hm4 q4 => ?_⟩
      cases fl with
      | nx env5 => exact fun σ5 he5 => ⟨ρ4, env5, m4, hm4, he5, q4⟩
      | ct env5 => exact fun σ5 he5 => ⟨ρ4, env5, m4, hm4, he5, q4⟩
      | bk env5 => exact q4.ok hm4
      | rt d => exact q4.ok hm4
    | false => exact iteF (q3.ok hm3 σ (he2.mono e3))
theorem ss_while {c : Expr} {body : List Stmt} {pos : Pos} {n : Nat} {tc : MT} {f : MS} (hp : PassesOwn (model X.prog X.w) X.A X.env X.xe) (hc : PT X c (tT X.K w tc)) (hb : PSs X body (tS X.K w f)) : PS X (.While c body [] pos) (tS X.K w (sWhile n tc f)) := (ps_while hp hc hb).weak fun _ _ _ q => while_lift q

/-! ### comprehensions -/
def wipeE (env : Env) : List Nat → Env
  | [] => env
  | v :: vs => (wipeE env vs).set v none
theorem ER.wipe {env : Env} {σ : SLT} (h : ER K ρ H env σ) : ∀ vs : List Nat, ER K ρ H (wipeE env vs) (wipe σ vs)
  | [] => h
  | v :: vs => by
    have ih := h.wipe vs
    unfold wipeE L2.wipe
    refine ⟨by simp [ih.len], fun i d q => ?_⟩
    by_cases e : i = v
    · subst e
      have hl : i < (wipeE env vs).length := by simpa using (List.getElem?_eq_some_iff.mp q).1
      rw [List.getElem?_set_self hl] at q
      cases q
    · rw [List.getElem?_set_ne (Ne.symm e)] at q ⊢
      exact ih.at_ i d q
def lcLoop (nx : Nxt) (p : Pat) (test : MT) (elt : ME) (env0 : Env) : Nat → Nat → M → List D → Option (Rs (List D))
  | 0, _, _, _ => none
  | k + 1, i, m, acc => match nx i m with
    | none => none
    | some none => some (.ok acc m)
    | some (some d) => match p.put d env0 with
      | none => none
      | some env1 => bnd (test env1 m) fun b m1 => match b with
        | true => bnd (elt env1 m1) fun y m2 => lcLoop nx p test elt env0 k (i + 1) m2 (y :: acc)
        | false => lcLoop nx p test elt env0 k (i + 1) m1 acc
def mLc (fi : MI) (p : Pat) (vs : List Nat) (test : MT) (elt : ME) : ME := fun env m => bnd (fi env m) fun kn m1 => gif (Nat.ble kn.1 lim)
  (bnd (lcLoop kn.2 p test elt (wipeE env vs) kn.1 0 m1 []) fun acc m2 => newL acc.reverse m2)
def mYes : MT := fun _ m => some (.ok true m)
/-- the base kept -/
theorem bnd_assoc {α β γ : Type} (x : Option (Rs α)) (f : α → M → Option (Rs β)) (g : β → M → Option (Rs γ)) : EV.bnd (EV.bnd x f) g = EV.bnd x fun a m => EV.bnd (f a m) g := by
  cases x with
  | none => rfl
  | some r => cases r <;> rfl
theorem W.bnd0 {α β : Type} {x : Option (Rs α)} {k : α → M → Option (Rs β)} {post : β → M → List Addr → Hp → Prop} (h : W K w ρ H (EV.bnd x k) post) : W K w ρ H x fun a m1 _ _ => W K w ρ H (k a m1) post := by
  cases x with
  | none => exact h
  | some r =>
    cases r with
    | ok a m => exact fun ρ' H' e' hm => h
    | ex c m => exact h
theorem W.at_ {α : Type} {ρ1 : List Addr} {H1 : Hp} {a : α} {m : M} {post : α → M → List Addr → Hp → Prop} (h : W K w ρ H (some (.ok a m)) post) (e : Ext ρ H ρ1 H1) (hm : HRel K ρ1 H1 m) : post a m ρ1 H1 := h ρ1 H1 e hm
/-- a tracked list is taken among the held -/
theorem HRel.adopt {p : Addr} {ds : List D} {vs : List V} (h : HRel K ρ H m) (hp : p ∉ ρ) (hl : H p = some (.lst vs)) (r : rds K ρ H ds vs) : HRel K (ρ ++ [p]) H (m ++ [.lst ds]) := by
  have t : Tps ρ H (ρ ++ [p]) H := by
    refine ⟨fun n q e => ?_, fun q us n e => ⟨fun z => ?_, e⟩, fun q o u n e => ⟨fun z => ?_, e⟩⟩
    · rw [List.getElem?_append_left (List.getElem?_eq_some_iff.mp e).1]
      exact e
    · rcases List.mem_append.mp z with z | z
      · exact n z
      · simp at z
        rw [z, hl] at e
        cases e
    · rcases List.mem_append.mp z with z | z
      · exact n z
      · simp at z
        rw [z, hl] at e
        cases e
  refine ⟨by simp [h.len], ?_, fun n q o h1 h2 => ?_⟩
  · rw [List.nodup_append]
    exact ⟨h.nd, by simp, fun a ha b hb => by simp at hb; subst hb; intro z; exact hp (z ▸ ha)⟩
  · by_cases hn : n < ρ.length
    · rw [List.getElem?_append_left hn] at h1
      rw [List.getElem?_append_left (by rw [← h.len]; exact hn)] at h2
      exact (h.obj n q o h1 h2).keepT t rfl
    · have hlen : n < (ρ ++ [p]).length := (List.getElem?_eq_some_iff.mp h1).1
      have en : n = ρ.length := by simp at hlen; omega
      subst en
      rw [List.getElem?_append_right (Nat.le_refl _)] at h1
      rw [h.len, List.getElem?_append_right (Nat.le_refl _)] at h2
      simp at h1 h2
      subst h1 h2
      exact ⟨vs, hl, r.monoT t⟩
theorem Tps.upd {p : Addr} {vs : List V} {o : HO} (hl : H p = some (.lst vs)) : Tps ρ H ρ (upd H p o) := ⟨fun _ _ e => e, fun q us n e => ⟨n, by rw [upd_ne (ne_of e hl (by intro z; cases z))]; exact e⟩, fun q ob u n e => ⟨n, by rw [upd_ne (ne_of e hl (by intro z; cases z))]; exact e⟩⟩
theorem lc_lift {fi : MI} {p : Pat} {vs : List Nat} {test : MT} {elt : ME} (hvs : ∀ i ∈ p.slots, i ∈ vs) {Q : VK} {σ : SLT} (q : tE K w (mLc fi p vs test elt) σ H Q) : tLc (tI K w fi) (gP K p) (tT K w test) (tE K w elt) vs σ H Q := by
  obtain ⟨ρ, env, m, hm, he, q⟩ := q
  refine ⟨ρ, env, m, hm, he, q.bnd.imp fun kn m1 ρ1 H1 e1 hm1 q1 J hJ D hD => ?_⟩
  obtain ⟨k0, nx⟩ := kn
  obtain ⟨hk0, q1⟩ := q1.gif
  have hlim : k0 ≤ lim := Nat.le_of_ble_eq_true hk0
  let Wv : Nat → Nat → Hp → Prop := fun i k H => ∃ ρ m acc accV, Ext ρ1 H1 ρ H ∧ HRel K ρ H m ∧ H D = some (.lst accV) ∧ D ∉ ρ ∧ rds K ρ H acc.reverse accV ∧ acc.length + k ≤ lim ∧
    W K w ρ1 H1 (bnd (lcLoop nx p test elt (wipeE env vs) k i m acc) fun acc m2 => newL acc.reverse m2) fun d _ ρ' H' => ∀ v, rd K ρ' H' d v → Q v H'
  have hDn : D ∉ ρ1 := hm1.notin hD
  refine ⟨Wv, ⟨k0, ρ1, m1, [], [], Ext.new hD, hm1.new hD, upd_same, hDn, rds.nil, by simpa using hlim, q1⟩, ?_⟩
  rintro i k H ⟨ρ2, m2, acc, accV, e2, hm2, hDH, hDr, hacc, hle, q2⟩
  cases k with
  | zero => exact q2.elim
  | succ k =>
    unfold lcLoop at q2
    have hj := hJ ρ2 H m2 i e2.wk hm2
    simp only at hj
    cases en : nx i m2 with
    | none => rw [en] at q2; exact q2.elim
    | some o =>
      rw [en] at q2 hj
      cases o with
      | none =>
        refine .inl ⟨hj, ?_⟩
        have hpre : Ext ρ1 H1 (ρ2 ++ [D]) H := by
          obtain ⟨t, et, ht⟩ := e2.pre
          refine ⟨⟨t ++ [D], by rw [et, List.append_assoc], fun z hz => ?_⟩, e2.fr, e2.kp, e2.fz⟩
          rcases List.mem_append.mp hz with hz | hz
          · exact ht z hz
          · simp at hz; subst hz; exact hD
        have hm3 : HRel K (ρ2 ++ [D]) H (m2 ++ [.lst acc.reverse]) := hm2.adopt hDr hDH hacc
        exact (show W K w ρ1 H1 (newL acc.reverse m2) _ from q2) _ _ hpre hm3 _ (rd_refI (by rw [← hm2.len, List.getElem?_append_right (Nat.le_refl _)]; simp))
      | some d =>
        obtain ⟨hgo, hy⟩ := hj
        refine .inr ⟨hgo, Wv (i + 1) k, fun H' h => ⟨k, Nat.lt_succ_self k, h⟩, fun x H' hyl => ?_⟩
        obtain ⟨e3, hm3, rx⟩ := hy x H' hyl
        simp only at q2
        cases ep : p.put d (wipeE env vs) with
        | none => rw [ep] at q2; exact q2.elim
        | some env3 =>
          rw [ep] at q2
          have he2 : ER K ρ2 H (wipeE env vs) (wipe σ vs) := ((he.mono e1).mono e2).wipe vs
          have e23 : Ext ρ1 H1 ρ2 H' := e2.trans e3
          have hDH3 : H' D = some (.lst accV) := e3.fr D _ hDH hDr
          refine Pat.ok (vs := vs) p (he2.mono e3) rx ep hvs fun σ3 he3 hw3 => ⟨?_, ?_⟩
          · have aux : ∀ (τ : SLT) (us : List Nat), wipe (wipe τ us) us = wipe τ us := by
              intro τ us
              have h1 : ∀ (ws : List Nat) (us : List Nat), (∀ i ∈ us, i ∈ ws) → wipe (wipe τ us) ws = wipe τ ws := by
                intro ws us
                induction us with
                | nil => intro _; rfl
                | cons u us ih =>
                  intro hu
                  show wipe ((wipe τ us).set u none) ws = wipe τ ws
                  rw [wipe_set (hu u (by simp)), ih fun i hi => hu i (by simp [hi])]
              exact h1 us us fun _ h => h
            rw [hw3, aux]
          · have q3 := q2
            simp only [bnd_assoc] at q3
            refine ⟨ρ2, env3, m2, hm3, he3, (q3.bnd0.mono e23).imp fun b m4 ρ4 H4 e4 hm4 q4 => ?_⟩
            have e24 : Ext ρ1 H1 ρ4 H4 := e23.trans e4
            have hDH4 : H4 D = some (.lst accV) := e4.fr D _ hDH3 hDr
            have hDr4 : D ∉ ρ4 := e4.notin hDH3 hDr
            cases b with
            | true =>
              refine iteT ?_
              have q5 := q4
              simp only [bnd_assoc] at q5
              refine ⟨ρ4, env3, m4, hm4, he3.mono e4, (q5.bnd0.mono e24).imp fun y m6 ρ6 H6 e6 hm6 q6 v rv => ?_⟩
              have hDH6 : H6 D = some (.lst accV) := e6.fr D _ hDH4 hDr4
              have hDr6 : D ∉ ρ6 := e6.notin hDH4 hDr4
              have hacc6 : rds K ρ6 H6 acc.reverse accV := ((hacc.mono e3).mono e4).mono e6
              have hl : accV.length < sizeLine := by
                rw [← hacc6.length, List.length_reverse]
                have h2 : sizeLine = 16777216 := sizeLine_eq
                unfold lim at hle
                omega
              have t : Tps ρ6 H6 ρ6 (upd H6 D (.lst (accV ++ [v]))) := Tps.upd hDH6
              have e26 : Ext ρ1 H1 ρ6 H6 := e24.trans e6
              refine ⟨accV, hDH6, hl, ρ6, m6, y :: acc, accV ++ [v], ⟨e26.pre, fun z o hz hn => ?_, fun z hz => ?_, fun z ob u hz => by rw [upd_ne (ne_of_none hz hD)]; exact e26.fz z ob u hz⟩, hm6.keepT t fun z hz => upd_ne fun e => hDr6 (e ▸ hz), upd_same, hDr6, ?_, by simpa using (by omega : acc.length + 1 + k ≤ lim), q6⟩
              · rw [upd_ne (ne_of_none hz hD)]
                exact e26.fr z o hz hn
              · by_cases ez : z = D
                · subst ez; rw [upd_same]; simp
                · rw [upd_ne ez]; exact e26.kp z hz
              · rw [List.reverse_cons]
                exact (hacc6.append (rds.cons rv rds.nil)).monoT t
            | false =>
              refine iteF ⟨ρ4, m4, acc, accV, e24, hm4, hDH4, hDr4, (hacc.mono e3).mono e4, by omega, q4⟩
end
end EV

set_option Elab.async false
set_option linter.all false
set_option maxRecDepth 100000
set_option maxHeartbeats 2000000
namespace EV
open PySem PySem.Spec PyProof.Rows L2
abbrev MF := List D → M → Option (Rs D)
/-! ### data without places -/
mutual
def pureD : D → Bool
  | .tup ds => pureDs ds
  | .con ds => pureDs ds
  | .ftp ds => pureDs ds
  | .lcon _ => false
  | .ref _ => false
  | _ => true
def pureDs : List D → Bool
  | [] => true
  | d :: ds => pureD d && pureDs ds
end
def pureKs : List (D × D) → Bool
  | [] => true
  | p :: r => pureD p.2 && pureKs r
mutual
def belowD (n : Nat) : D → Bool
  | .tup ds => belowDs n ds
  | .con ds => belowDs n ds
  | .ftp ds => belowDs n ds
  | .lcon ds => belowDs n ds
  | .ref k => Nat.blt k n
  | _ => true
def belowDs (n : Nat) : List D → Bool
  | [] => true
  | d :: ds => belowD n d && belowDs n ds
end
def belowKs (n : Nat) : List (D × D) → Bool
  | [] => true
  | p :: r => belowD n p.2 && belowKs n r
def belowO (n : Nat) : O → Bool
  | .lst ds => belowDs n ds
  | .fro ds => belowDs n ds
  | .dct _ kvs => belowKs n kvs
  | .frd _ kvs => belowKs n kvs
def belowM (n : Nat) : M → Bool
  | [] => true
  | o :: r => belowO n o && belowM n r
section
variable {X : Cx} {K : PySem.W.Frag} {w : Wi} {ρ ρ' : List Addr} {H : Hp} {m : M}
mutual
/-- what has no places may be read by other held ones -/
theorem rd.pure (hn : ∀ p vs, Rd H p (.tup vs) → p ∉ ρ') : ∀ {d : D} {v : V}, pureD d = true → rd K ρ H d v → rd K ρ' H d v
  | .non, v, _, h => by rw [rd_non h]; exact rd_nonI
  | .bl _, v, _, h => by rw [rd_bl h]; exact rd_blI
  | .int _, v, _, h => by rw [rd_int h]; exact rd_intI
  | .str _, v, _, h => by rw [rd_str h]; exact rd_strI
  | .tup ds, v, e, h => by
    obtain ⟨p, vs, rfl, h1, h2⟩ := rd_tup h
    exact rd_tupI ⟨hn p vs (.inl h1.2), h1.2⟩ (rds.pure hn e h2)
  | .con ds, v, e, h => by
    obtain ⟨p, vs, rfl, h1, h2⟩ := rd_con h
    refine rd_conI ?_ (rds.pure hn e h2)
    rcases h1 with h1 | h1
    · exact .inl ⟨hn p vs h1.2, h1.2⟩
    · exact .inr h1
  | .ftp ds, v, e, h => by
    obtain ⟨p, vs, rfl, ⟨_, o, h1, hd⟩, h2⟩ := rd_ftp h
    unfold rd
    exact ⟨p, vs, rfl, ⟨hn p vs (.inr ⟨o, h1⟩), o, h1, hd⟩, rds.pure hn e h2⟩
  | .lcon ds, v, e, h => by cases e
  | .ref n, v, e, h => by cases e
theorem rds.pure (hn : ∀ p vs, Rd H p (.tup vs) → p ∉ ρ') : ∀ {ds : List D} {vs : List V}, pureDs ds = true → rds K ρ H ds vs → rds K ρ' H ds vs
  | [], vs, _, h => by unfold rds at h ⊢; exact h
  | d :: ds, vs, e, h => by
    unfold pureDs at e
    rw [Bool.and_eq_true] at e
    unfold rds at h ⊢
    obtain ⟨v, r, h1, h2, h3⟩ := h
    exact ⟨v, r, h1, rd.pure hn e.1 h2, rds.pure hn e.2 h3⟩
end
theorem HRel.noTupR (h : HRel K ρ H m) {p : Addr} {vs : List V} (e : Rd H p (.tup vs)) : p ∉ ρ := by
  intro hp
  obtain ⟨n, hn, en⟩ := List.getElem_of_mem hp
  have e1 : ρ[n]? = some p := by rw [List.getElem?_eq_getElem hn, en]
  have hm : n < m.length := by rw [← h.len]; exact hn
  have q := h.obj n p m[n] e1 (List.getElem?_eq_getElem hm)
  rcases e with e | ⟨o, e⟩
  · cases ho : m[n] with
    | lst ds => rw [ho] at q; obtain ⟨vs, a, b⟩ := q; rw [e] at a; cases a
    | fro ds => rw [ho] at q; obtain ⟨vs, o, a, b⟩ := q; rw [e] at a; cases a
    | dct t kvs => rw [ho] at q; cases t <;> (obtain ⟨r, a, b⟩ := q; rw [e] at a; cases a)
    | frd t kvs => rw [ho] at q; cases t <;> (obtain ⟨r, o, a, b⟩ := q; rw [e] at a; cases a)
  · cases ho : m[n] with
    | lst ds => rw [ho] at q; obtain ⟨vs, a, b⟩ := q; rw [e] at a; cases a
    | fro ds => rw [ho] at q; obtain ⟨vs, o, a, b⟩ := q; rw [e] at a; cases a
    | dct t kvs => rw [ho] at q; cases t <;> (obtain ⟨r, a, b⟩ := q; rw [e] at a; cases a)
    | frd t kvs => rw [ho] at q; cases t <;> (obtain ⟨r, o, a, b⟩ := q; rw [e] at a; cases a)
theorem HRel.noTup (h : HRel K ρ H m) {p : Addr} {vs : List V} (e : H p = some (.tup vs)) : p ∉ ρ := h.noTupR (.inl e)
theorem rkK.pure (hn : ∀ p vs, Rd H p (.tup vs) → p ∉ ρ') : ∀ {kvs : List (D × D)} {r : List (Key × V)}, pureKs kvs = true → rkK K ρ H kvs r → rkK K ρ' H kvs r
  | [], _, _, h => by unfold rkK at h ⊢; exact h
  | (k, d) :: kvs, r, e, h => by
    unfold pureKs at e
    rw [Bool.and_eq_true] at e
    unfold rkK at h ⊢
    obtain ⟨key, v, t, h1, h2, h3, h4⟩ := h
    exact ⟨key, v, t, h1, h2, rd.pure hn e.1 h3, rkK.pure hn e.2 h4⟩
theorem rkT.pure (hn : ∀ p vs, Rd H p (.tup vs) → p ∉ ρ') : ∀ {kvs : List (D × D)} {r : List (List Key × V)}, pureKs kvs = true → rkT K ρ H kvs r → rkT K ρ' H kvs r
  | [], _, _, h => by unfold rkT at h ⊢; exact h
  | (k, d) :: kvs, r, e, h => by
    unfold pureKs at e
    rw [Bool.and_eq_true] at e
    unfold rkT at h ⊢
    obtain ⟨ks, key, v, t, h1, h2, h2', h3, h4⟩ := h
    exact ⟨ks, key, v, t, h1, h2, h2', rd.pure hn e.1 h3, rkT.pure hn e.2 h4⟩
/-- an object that is not held yet is taken among the held -/
theorem HRel.adoptO {p : Addr} {o : O} (h : HRel K ρ H m) (hp : p ∉ ρ) (h1 : ∀ vs, H p ≠ some (.tup vs)) (h2 : ∀ ob u, H p ≠ some (.frz ob u)) (r : ro K (ρ ++ [p]) H p o) : HRel K (ρ ++ [p]) H (m ++ [o]) := by
  have t : Tps ρ H (ρ ++ [p]) H := by
    refine ⟨fun n q e => ?_, fun q us n e => ⟨fun z => ?_, e⟩, fun q ob u n e => ⟨fun z => ?_, e⟩⟩
    · rw [List.getElem?_append_left (List.getElem?_eq_some_iff.mp e).1]
      exact e
    · rcases List.mem_append.mp z with z | z
      · exact n z
      · simp at z
        rw [z] at e
        exact h1 _ e
    · rcases List.mem_append.mp z with z | z
      · exact n z
      · simp at z
        rw [z] at e
        exact h2 _ _ e
  refine ⟨by simp [h.len], ?_, fun n q ob e1 e2 => ?_⟩
  · rw [List.nodup_append]
    exact ⟨h.nd, by simp, fun a ha b hb => by simp at hb; subst hb; intro z; exact hp (z ▸ ha)⟩
  · by_cases hn : n < ρ.length
    · rw [List.getElem?_append_left hn] at e1
      rw [List.getElem?_append_left (by rw [← h.len]; exact hn)] at e2
      exact (h.obj n q ob e1 e2).keepT t rfl
    · have hlen : n < (ρ ++ [p]).length := (List.getElem?_eq_some_iff.mp e1).1
      have en : n = ρ.length := by simp at hlen; omega
      subst en
      rw [List.getElem?_append_right (Nat.le_refl _)] at e1
      rw [h.len, List.getElem?_append_right (Nat.le_refl _)] at e2
      simp at e1 e2
      subst e1 e2
      exact r
/-! ### fewer held ones -/
def Sub (ρ ρ' : List Addr) (n : Nat) : Prop := ρ' = ρ.take n
mutual
theorem rd.below {n : Nat} : ∀ {d : D} {v : V}, belowD n d = true → rd K ρ H d v → rd K (ρ.take n) H d v
  | .non, v, _, h => by rw [rd_non h]; exact rd_nonI
  | .bl _, v, _, h => by rw [rd_bl h]; exact rd_blI
  | .int _, v, _, h => by rw [rd_int h]; exact rd_intI
  | .str _, v, _, h => by rw [rd_str h]; exact rd_strI
  | .tup ds, v, e, h => by
    obtain ⟨p, vs, rfl, h1, h2⟩ := rd_tup h
    exact rd_tupI ⟨fun z => h1.1 (List.mem_of_mem_take z), h1.2⟩ (rds.below e h2)
  | .con ds, v, e, h => by
    obtain ⟨p, vs, rfl, h1, h2⟩ := rd_con h
    refine rd_conI ?_ (rds.below e h2)
    rcases h1 with h1 | h1
    · exact .inl ⟨fun z => h1.1 (List.mem_of_mem_take z), h1.2⟩
    · exact .inr h1
  | .ftp ds, v, e, h => by
    obtain ⟨p, vs, rfl, ⟨hp, o, h1, hd⟩, h2⟩ := rd_ftp h
    unfold rd
    exact ⟨p, vs, rfl, ⟨fun z => hp (List.mem_of_mem_take z), o, h1, hd⟩, rds.below e h2⟩
  | .lcon ds, v, e, h => by
    obtain ⟨p, vs, rfl, h1, h2⟩ := rd_lcon h
    unfold rd
    refine ⟨p, vs, rfl, ?_, rds.below e h2⟩
    rcases h1 with h1 | h1
    · exact .inl ⟨fun z => h1.1 (List.mem_of_mem_take z), h1.2⟩
    · exact .inr h1
  | .ref k, v, e, h => by
    obtain ⟨p, rfl, h1⟩ := rd_ref h
    have hk : k < n := by simpa [Nat.blt_eq] using (show Nat.blt k n = true from e)
    exact rd_refI (by rw [List.getElem?_take_of_lt hk]; exact h1)
theorem rds.below {n : Nat} : ∀ {ds : List D} {vs : List V}, belowDs n ds = true → rds K ρ H ds vs → rds K (ρ.take n) H ds vs
  | [], vs, _, h => by unfold rds at h ⊢; exact h
  | d :: ds, vs, e, h => by
    unfold belowDs at e
    rw [Bool.and_eq_true] at e
    unfold rds at h ⊢
    obtain ⟨v, r, h1, h2, h3⟩ := h
    exact ⟨v, r, h1, rd.below e.1 h2, rds.below e.2 h3⟩
end
theorem rkK.below {n : Nat} : ∀ {kvs : List (D × D)} {r : List (Key × V)}, belowKs n kvs = true → rkK K ρ H kvs r → rkK K (ρ.take n) H kvs r
  | [], _, _, h => by unfold rkK at h ⊢; exact h
  | (k, d) :: kvs, r, e, h => by
    unfold belowKs at e
    rw [Bool.and_eq_true] at e
    unfold rkK at h ⊢
    obtain ⟨key, v, t, h1, h2, h3, h4⟩ := h
    exact ⟨key, v, t, h1, h2, rd.below e.1 h3, rkK.below e.2 h4⟩
theorem rkT.below {n : Nat} : ∀ {kvs : List (D × D)} {r : List (List Key × V)}, belowKs n kvs = true → rkT K ρ H kvs r → rkT K (ρ.take n) H kvs r
  | [], _, _, h => by unfold rkT at h ⊢; exact h
  | (k, d) :: kvs, r, e, h => by
    unfold belowKs at e
    rw [Bool.and_eq_true] at e
    unfold rkT at h ⊢
    obtain ⟨ks, key, v, t, h1, h2, h2', h3, h4⟩ := h
    exact ⟨ks, key, v, t, h1, h2, h2', rd.below e.1 h3, rkT.below e.2 h4⟩
theorem belowM_at {n : Nat} : ∀ {m : M} {k : Nat} {o : O}, belowM n m = true → m[k]? = some o → belowO n o = true
  | [], k, o, _, h => by simp at h
  | x :: m, 0, o, e, h => by
    unfold belowM at e
    rw [Bool.and_eq_true] at e
    simp at h
    subst h
    exact e.1
  | x :: m, k + 1, o, e, h => by
    unfold belowM at e
    rw [Bool.and_eq_true] at e
    exact belowM_at e.2 (by simpa using h)
theorem HRel.take {n : Nat} (h : HRel K ρ H m) (e : belowM n (m.take n) = true) : HRel K (ρ.take n) H (m.take n) := by
  refine ⟨by simp [h.len], h.nd.sublist (List.take_sublist _ _), fun k p o h1 h2 => ?_⟩
  have hk : k < n := by
    have := (List.getElem?_eq_some_iff.mp h1).1
    rw [List.length_take] at this
    omega
  have b := belowM_at e h2
  rw [List.getElem?_take_of_lt hk] at h1 h2
  have q := h.obj k p o h1 h2
  cases o with
  | lst ds => obtain ⟨vs, a, c⟩ := q; exact ⟨vs, a, rds.below b c⟩
  | fro ds => obtain ⟨vs, o, a, c⟩ := q; exact ⟨vs, o, a, rds.below b c⟩
  | dct t kvs =>
    cases t with
    | false => obtain ⟨r, a, c⟩ := q; exact ⟨r, a, rkK.below b c⟩
    | true => obtain ⟨r, a, c⟩ := q; exact ⟨r, a, rkT.below b c⟩
  | frd t kvs =>
    cases t with
    | false => obtain ⟨r, o, a, c⟩ := q; exact ⟨r, o, a, rkK.below b c⟩
    | true => obtain ⟨r, o, a, c⟩ := q; exact ⟨r, o, a, rkT.below b c⟩

/-! ### a call -/
/-- a result that stands on objects of its own -/
def outP (d : D) (m' m : M) : Option (Rs D) := match pureD d with
  | true => some (.ok d m)
  | false => match d with
    | .ref k => (match m'[k]? with
      | some (.lst xs) => (match pureDs xs with
        | true => newL xs m
        | false => none)
      | some (.dct t kvs) => (match pureKs kvs with
        | true => some (.ok (.ref m.length) (m ++ [.dct t kvs]))
        | false => none)
      | _ => none)
    | _ => none
/-- called with data without places: on an empty heap -/
def callP (F : MF) (ds : List D) (m : M) : Option (Rs D) := match F ds [] with
  | none => none
  | some (.ok d m') => outP d m' m
  | some (.ex c _) => some (.ex c m)
/-- behind a call: what is new and not held goes -/
def gcr (n : Nat) (d : D) (m' : M) : Option (Rs D) := match belowM n (m'.take n) with
  | false => some (.ok d m')
  | true => match belowD n d with
    | true => some (.ok d (m'.take n))
    | false => match d with
      | .ref k => (match m'[k]? with
        | some (.lst xs) => (match belowDs n xs with
          | true => newL xs (m'.take n)
          | false => some (.ok d m'))
        | _ => some (.ok d m'))
      | _ => some (.ok d m')
def callD (F : MF) (ds : List D) (m : M) : Option (Rs D) := match pureDs ds with
  | true => (match callP F ds m with
    | none => bnd (F ds m) (gcr m.length)
    | some r => some r)
  | false => bnd (F ds m) (gcr m.length)
/-- what a def promises, by its function -/
def spF (K : PySem.W.Frag) (cls : Nat → Addr) (n : Nat) (F : MF) : Sp := fun vs H Q E => vs.length = n ∧ ∃ ρ m ds, HRel K ρ H m ∧ rds K ρ H ds vs ∧ W K ⟨E, cls⟩ ρ H (F ds m) fun d _ ρ' H' => ∀ v, rd K ρ' H' d v → Q v H'
theorem Ext.of_nil {H' : Hp} (hm : HRel K ρ H m) (e : Ext [] H ρ' H') : Ext ρ H ρ H' := ⟨⟨[], by simp⟩, fun p o h _ => e.fr p o h (by simp), e.kp, e.fz⟩
theorem HRel.of_nil {H' : Hp} (hm : HRel K ρ H m) (e : Ext [] H ρ' H') : HRel K ρ H' m := hm.keep (Ext.of_nil hm e) fun p hp => by
  cases q : H p with
  | none => exact absurd q (hm.here hp)
  | some o => rw [e.fr p o q (by simp)]
theorem HRel.nil : HRel K [] H [] := ⟨rfl, List.nodup_nil, fun n p o h => by simp at h⟩
theorem call_full {F : MF} {n : Nat} {ds : List D} {vs : List V} {Q : VK} (hm : HRel K ρ H m) (r : rds K ρ H ds vs) (hn : vs.length = n)
    (q : W K w ρ H (bnd (F ds m) (gcr m.length)) fun d _ ρ' H' => ∀ v, rd K ρ' H' d v → Q v H') : spF K w.cls n F vs H Q w.E := by
  refine ⟨hn, ρ, m, ds, hm, r, q.bnd0.imp fun d m' ρ' H' e' hm' q' v rv => ?_⟩
  have pre : ρ'.take m.length = ρ := by
    obtain ⟨t, et, _⟩ := e'.pre
    rw [et, ← hm.len]
    simp
  have ext : Ext ρ H (ρ'.take m.length) H' := by
    rw [pre]
    exact ⟨⟨[], by simp⟩, e'.fr, e'.kp, e'.fz⟩
  have keep : W K w ρ H (some (.ok d m')) (fun d _ ρ' H' => ∀ v, rd K ρ' H' d v → Q v H') → Q v H' := fun q => q ρ' H' e' hm' v rv
  unfold gcr at q'
  cases hb : belowM m.length (m'.take m.length) with
  | false => rw [hb] at q'; exact keep q'
  | true =>
    rw [hb] at q'
    simp only at q'
    have hm2 := hm'.take hb
    cases hd : belowD m.length d with
    | true =>
      rw [hd] at q'
      exact q' _ _ ext hm2 v (rd.below hd rv)
    | false =>
      rw [hd] at q'
      simp only at q'
      cases d with
      | ref k =>
        simp only at q'
        cases ho : m'[k]? with
        | none => rw [ho] at q'; exact keep q'
        | some o =>
          rw [ho] at q'
          cases o with
          | lst xs =>
            simp only at q'
            cases hx : belowDs m.length xs with
            | false => rw [hx] at q'; exact keep q'
            | true =>
              rw [hx] at q'
              obtain ⟨p, rfl, hp⟩ := rd_ref rv
              obtain ⟨us, a, b⟩ := hm'.obj k p _ hp ho
              have hk : ¬ k < m.length := fun z => by
                have : Nat.blt k m.length = true := Nat.blt_eq.mpr z
                rw [show belowD m.length (.ref k) = Nat.blt k m.length from rfl, this] at hd
                cases hd
              have hpn : p ∉ ρ'.take m.length := fun z => by
                obtain ⟨j, hj, ej⟩ := List.getElem_of_mem z
                rw [List.length_take] at hj
                have e1 : ρ'[j]? = some p := by
                  rw [← List.getElem?_take_of_lt (show j < m.length by omega), List.getElem?_eq_getElem (by rw [List.length_take]; omega), ej]
                obtain ⟨l1, e2⟩ := List.getElem?_eq_some_iff.mp e1
                obtain ⟨l2, e3⟩ := List.getElem?_eq_some_iff.mp hp
                have := (List.getElem_inj hm'.nd).mp (e2.trans e3.symm)
                omega
              have hfresh : H p = none := by
                obtain ⟨t, et, ht⟩ := e'.pre
                have hpm : p ∈ ρ' := List.mem_of_getElem? hp
                rw [et] at hpm
                rcases List.mem_append.mp hpm with z | z
                · rw [pre] at hpn; exact absurd z hpn
                · exact ht p z
              have hm3 := hm2.adopt hpn a (rds.below hx b)
              have ext2 : Ext ρ H (ρ'.take m.length ++ [p]) H' := by
                rw [pre]
                exact ⟨⟨[p], rfl, fun z hz => by simp at hz; subst hz; exact hfresh⟩, e'.fr, e'.kp, e'.fz⟩
              refine (show W K w ρ H (newL xs (m'.take m.length)) _ from q') _ _ ext2 hm3 _ (rd_refI ?_)
              rw [← hm2.len, List.getElem?_append_right (Nat.le_refl _)]
              simp
          | fro _ => exact keep q'
          | dct _ _ => exact keep q'
          | frd _ _ => exact keep q'
      | non => exact keep q'
      | bl _ => exact keep q'
      | int _ => exact keep q'
      | str _ => exact keep q'
      | tup _ => exact keep q'
      | con _ => exact keep q'
      | ftp _ => exact keep q'
      | lcon _ => exact keep q'
theorem call_ok {F : MF} {n : Nat} {ds : List D} {vs : List V} {Q : VK} (hm : HRel K ρ H m) (r : rds K ρ H ds vs) (hn : vs.length = n)
    (q : W K w ρ H (callD F ds m) fun d _ ρ' H' => ∀ v, rd K ρ' H' d v → Q v H') : spF K w.cls n F vs H Q w.E := by
  unfold callD at q
  cases hp : pureDs ds with
  | false => rw [hp] at q; exact call_full hm r hn q
  | true =>
    rw [hp] at q
    simp only at q
    cases hc : callP F ds m with
    | none => rw [hc] at q; exact call_full hm r hn q
    | some o =>
      rw [hc] at q
      simp only at q
      refine ⟨hn, [], [], ds, HRel.nil, rds.pure (fun p vs e => by simp) hp r, ?_⟩
      unfold callP at hc
      cases hF : F ds [] with
      | none => rw [hF] at hc; cases hc
      | some o2 =>
        rw [hF] at hc
        cases o2 with
        | ex c m' =>
          simp only at hc
          cases hc
          exact fun ρ' H' e' hm' => q ρ H' (Ext.of_nil hm e') (hm.of_nil e')
        | ok d m' =>
          simp only at hc
          intro ρ' H' e' hm' v rv
          have hmc := hm.of_nil e'
          have hext := Ext.of_nil hm e'
          unfold outP at hc
          cases hd : pureD d with
          | true =>
            rw [hd] at hc
            cases hc
            exact q ρ H' hext hmc v (rd.pure (fun p vs e => hmc.noTupR e) hd rv)
          | false =>
            rw [hd] at hc
            simp only at hc
            cases d with
            | ref k =>
              simp only at hc
              cases ho : m'[k]? with
              | none => rw [ho] at hc; cases hc
              | some ob =>
                rw [ho] at hc
                cases ob with
                | lst xs =>
                  simp only at hc
                  cases hx : pureDs xs with
                  | false => rw [hx] at hc; cases hc
                  | true =>
                    rw [hx] at hc
                    obtain ⟨p, rfl, hpk⟩ := rd_ref rv
                    obtain ⟨us, a, b⟩ := hm'.obj k p _ hpk ho
                    have hfresh : H p = none := by
                      obtain ⟨t, et, ht⟩ := e'.pre
                      have hpm : p ∈ ρ' := List.mem_of_getElem? hpk
                      rw [et] at hpm
                      exact ht p (by simpa using hpm)
                    have hpn : p ∉ ρ := fun z => hm.here z hfresh
                    have hm3 := hmc.adopt hpn a (rds.pure (fun p vs e => hmc.noTupR e) hx b)
                    have ext2 : Ext ρ H (ρ ++ [p]) H' := ⟨⟨[p], rfl, fun z hz => by simp at hz; subst hz; exact hfresh⟩, hext.fr, hext.kp, hext.fz⟩
                    unfold newL at hc
                    cases hc
                    refine q _ _ ext2 hm3 _ (rd_refI ?_)
                    rw [← hm.len, List.getElem?_append_right (Nat.le_refl _)]
                    simp
                | fro _ => cases hc
                | dct t kvs =>
                  simp only at hc
                  cases hx : pureKs kvs with
                  | false => rw [hx] at hc; cases hc
                  | true =>
                    rw [hx] at hc
                    obtain ⟨p, rfl, hpk⟩ := rd_ref rv
                    have hro := hm'.obj k p _ hpk ho
                    have hfresh : H p = none := by
                      obtain ⟨t, et, ht⟩ := e'.pre
                      have hpm : p ∈ ρ' := List.mem_of_getElem? hpk
                      rw [et] at hpm
                      exact ht p (by simpa using hpm)
                    have hpn : p ∉ ρ := fun z => hm.here z hfresh
                    have hkind : ∀ u, H' p = some u → (∀ vs, u ≠ .tup vs) ∧ ∀ ob w, u ≠ .frz ob w := fun u e => by
                      cases t with
                      | false =>
                        obtain ⟨r, a, b⟩ := hro
                        rw [a] at e
                        cases e
                        exact ⟨fun _ z => (nomatch z), fun _ _ z => (nomatch z)⟩
                      | true =>
                        obtain ⟨r, a, b⟩ := hro
                        rw [a] at e
                        cases e
                        exact ⟨fun _ z => (nomatch z), fun _ _ z => (nomatch z)⟩
                    have hn2 : ∀ z ws, Rd H' z (.tup ws) → z ∉ ρ ++ [p] := fun z ws e hz => by
                      rcases List.mem_append.mp hz with hz | hz
                      · exact hmc.noTupR e hz
                      · simp at hz
                        subst hz
                        rcases e with e | ⟨o, e⟩
                        · exact (hkind _ e).1 _ rfl
                        · exact (hkind _ e).2 _ _ rfl
                    have hm3 : HRel K (ρ ++ [p]) H' (m ++ [.dct t kvs]) := by
                      refine hmc.adoptO hpn (fun vs e => (hkind _ e).1 _ rfl) (fun ob u e => (hkind _ e).2 _ _ rfl) ?_
                      cases t with
                      | false => obtain ⟨r, a, b⟩ := hro; exact ⟨r, a, rkK.pure hn2 hx b⟩
                      | true => obtain ⟨r, a, b⟩ := hro; exact ⟨r, a, rkT.pure hn2 hx b⟩
                    have ext2 : Ext ρ H (ρ ++ [p]) H' := ⟨⟨[p], rfl, fun z hz => by simp at hz; subst hz; exact hfresh⟩, hext.fr, hext.kp, hext.fz⟩
                    cases hc
                    refine q _ _ ext2 hm3 _ (rd_refI ?_)
                    rw [← hm.len, List.getElem?_append_right (Nat.le_refl _)]
                    simp
                | frd _ _ => cases hc
            | non => cases hc
            | bl _ => cases hc
            | int _ => cases hc
            | str _ => cases hc
            | tup _ => cases hc
            | con _ => cases hc
            | ftp _ => cases hc
            | lcon _ => cases hc
def mCall (F : MF) (fa : MA) : ME := fun env m => bnd (fa env m) fun ds m1 => callD F ds m1
theorem call_lift {F : MF} {n : Nat} {fa : MA} {σ : SLT} {Q : VK} (hn : ∀ env m ds m', fa env m = some (.ok ds m') → ds.length = n) (q : tE K w (mCall F fa) σ H Q) : tCall (spF K w.cls n F) [] w.E (tA K w fa) σ H Q := by
  obtain ⟨ρ, env, m, hm, he, q⟩ := q
  refine ⟨ρ, env, m, hm, he, ?_⟩
  have q1 := W.bnd q
  cases ef : fa env m with
  | none => rw [ef] at q1; exact q1.elim
  | some o =>
    rw [ef] at q1
    cases o with
    | ex c m' => exact q1
    | ok ds m' =>
      intro ρ1 H1 e1 hm1 vs r
      have q2 := q1 ρ1 H1 e1 hm1
      rw [List.append_nil]
      exact call_ok hm1 r (by rw [← r.length]; exact hn env m ds m' ef) q2
end
end EV

set_option Elab.async false
set_option linter.all false
set_option maxRecDepth 100000
set_option maxHeartbeats 2000000
namespace EV
open PySem PySem.Spec PyProof.Rows L2
theorem hu65 {A : Around} {k : Nat} (hr : Room k A) : A.units + 65 < cLine := by have := hr.un; omega
theorem hu1 {A : Around} {k : Nat} (hr : Room k A) : A.units + 1 < cLine := by have := hr.un; omega
section
variable {X : Cx} {w : Wi} {pos : Pos}
/-! ### targets, comprehensions -/
theorem sp_n {i : Nat} {x : Str} (hN : X.N.Nodup) (hi : X.N[i]? = some x) (hx : Loc X.env.scope x) (hf : X.fn x = true ∨ X.env.scope.names.lookup x = some .local := by first | exact .inl rfl | exact .inr rfl | assumption) : PG X (.Name x pos) (gP X.K (.n i)) := by
  unfold gP
  exact pg_name hN hi hx hf
theorem sps_nil : PGs X [] (gPs X.K []) := by
  unfold gPs
  exact pgs_nil
theorem sps_cons {e : Expr} {es : List Expr} {p : Pat} {ps : List Pat} (h1 : PG X e (gP X.K p)) (h2 : PGs X es (gPs X.K ps)) (hs : (assignEach (e :: es) X.env).map (·.2) = assign e X.env :: (assignEach es X.env).map (·.2) := by rfl) : PGs X (e :: es) (gPs X.K (p :: ps)) := by
  unfold gPs
  exact pgs_cons h1 h2 hs
theorem sp_t {es : List Expr} {k : Nat} {ps : List Pat} (hc : X.calm = true) (h : PGs X es (gPs X.K ps)) (hn : (assignEach es X.env).length = ps.length := by rfl) (hst : (assignEach es X.env).findIdx? (·.1) = none := by rfl) : PG X (.Tuple es k pos) (gP X.K (.t ps)) := by
  unfold gP
  exact pg_tup hc h hn hst
theorem yes_lift {K : PySem.W.Frag} {σ : SLT} {H : Hp} {Q : Bool → Hp → Prop} (q : tT K w mYes σ H Q) : tYes σ H Q := by
  obtain ⟨ρ, env, m, hm, he, q⟩ := q
  exact q.ok hm
theorem _root_.L2.PTs.weak {es : List Expr} {t t' : TT} (h : PTs X es t) (w : ∀ σ H Q, t' σ H Q → t σ H Q) : PTs X es t' := ⟨fun pins s σ H Q I q => h.run pins s σ H Q I (w _ _ _ q)⟩
theorem sts_nil : PTs X [] (tT X.K w mYes) := pts_nil.weak fun _ _ _ q => yes_lift q
theorem sts_one {c : Expr} {t : MT} (h : PT X c (tT X.K w t)) : PTs X [c] (tT X.K w t) := pts_one h
theorem se_lc {elt tg iter : Expr} {ifs : List Expr} {scope : Scope} {own : List (Str × Nat)} {fi : MI} {p : Pat} {tt : MT} {te : ME} (hc : X.calm = true) (hN : X.N.Nodup) (hi : PI X tg iter (tI X.K w fi)) (ok : BlkOk X.N X.env.scope scope own) (hv : ∀ i ∈ p.slots, i ∈ own.map (·.2))
    (hg : ∀ (s : Shared) (H : Hp) (C : Addr) (cl : List (Str × Addr)) (fp : List Addr), PG (X.blk s H scope (compEnvC scope cl C X.env) fp) tg (gP X.K p)) (ht : ∀ (s : Shared) (H : Hp) (C : Addr) (cl : List (Str × Addr)) (fp : List Addr), PTs (X.blk s H scope (compEnvC scope cl C X.env) fp) ifs (tT X.K w tt))
    (he : ∀ (s : Shared) (H : Hp) (C : Addr) (cl : List (Str × Addr)) (fp : List Addr), PE (X.blk s H scope (compEnvC scope cl C X.env) fp) elt (tE X.K w te)) (hs : ∀ x, foldedSetIterable iter X.env x = pure x := by intro _; rfl) :
    PE X (.ListComp elt [⟨tg, iter, ifs, 0⟩] scope pos) (tE X.K w (mLc fi p (own.map (·.2)) tt te)) := (pe_lc hc hN hi ok hg ht he hs).weak fun _ _ _ q => lc_lift hv q
theorem ss_setLc {i : Nat} {y : Str} {py : Pos} {elt tg iter : Expr} {ifs : List Expr} {scope : Scope} {own : List (Str × Nat)} {spos : Pos} {fi : MI} {p : Pat} {tt : MT} {te : ME} (hc : X.calm = true) (hN : X.N.Nodup) (hy : X.N[i]? = some y) (hyl : X.env.scope.names.lookup y = some .local)
    (hsw : swapsWith (.ListComp elt [⟨tg, iter, ifs, 0⟩] scope pos) (some (.Name y py)) spos.line X.env = pure true) (hi : PI X tg iter (tI X.K w fi)) (ok : BlkOk X.N X.env.scope scope own) (hv : ∀ i ∈ p.slots, i ∈ own.map (·.2))
    (hg : ∀ (s : Shared) (H : Hp) (C : Addr) (cl : List (Str × Addr)) (fp : List Addr), PG (X.blk s H scope (compEnvC scope cl C X.env) fp) tg (gP X.K p)) (ht : ∀ (s : Shared) (H : Hp) (C : Addr) (cl : List (Str × Addr)) (fp : List Addr), PTs (X.blk s H scope (compEnvC scope cl C X.env) fp) ifs (tT X.K w tt))
    (he : ∀ (s : Shared) (H : Hp) (C : Addr) (cl : List (Str × Addr)) (fp : List Addr), PE (X.blk s H scope (compEnvC scope cl C X.env) fp) elt (tE X.K w te)) (hs : ∀ x, foldedSetIterable iter X.env x = pure x := by intro _; rfl) :
    PS X (.Assign [.Name y py] (.ListComp elt [⟨tg, iter, ifs, 0⟩] scope pos) spos) (tS X.K w (sSet i (mLc fi p (own.map (·.2)) tt te))) := (ps_setLc hc hN hy hyl hsw hi ok hg ht he hs).weak fun Dn σ H q => by
  obtain ⟨ρ, env, m, hm, he, q⟩ := q
  refine lc_lift (w := w) hv ⟨ρ, env, m, hm, he, ?_⟩
  exact q.bnd.imp fun d m1 ρ1 H1 e1 hm1 q1 v r => q1.ok hm1 _ ((he.mono e1).set r)
theorem ss_for' {tg iter : Expr} {body : List Stmt} {fi : MI} {p : Pat} {f : MS} (hp : PassesOwn (model X.prog X.w) X.A X.env X.xe) (hc : X.calm = true) (hi : PI X tg iter (tI X.K w fi)) (hg : PG X tg (gP X.K p)) (hb : PSs X body (tS X.K w f)) (hs : ∀ x, foldedSetIterable iter X.env x = pure x := by intro _; rfl) :
    PS X (.For tg iter body [] pos) (tS X.K w (sFor fi p f)) := (ps_for hp hc hi hg hb hs).weak fun _ _ _ q => for_lift q
/-! ### calls of defs -/
def MA.len (n : Nat) (f : MA) : Prop := ∀ env m ds m', f env m = some (.ok ds m') → ds.length = n
theorem len_nil : MA.len 0 mNil := fun env m ds m' h => by cases h; rfl
theorem len_cons {n : Nat} {f : ME} {g : MA} (h : MA.len n g) : MA.len (n + 1) (mCons f g) := fun env m ds m' e => by
  unfold mCons at e
  cases ef : f env m with
  | none => rw [ef] at e; cases e
  | some r =>
    rw [ef] at e
    cases r with
    | ex c m1 => cases e
    | ok d m1 =>
      simp only [bnd] at e
      cases eg : g env m1 with
      | none => rw [eg] at e; cases e
      | some r2 =>
        rw [eg] at e
        cases r2 with
        | ex c m2 => cases e
        | ok ds2 m2 =>
          simp only at e
          cases e
          simp [h env m1 ds2 _ eg]
theorem se_call {CX : CXT} {k : Nat} {f : Addr} {fd : FuncData} {ps : List Str} {F : MF} {n : Nat} {x : Str} {p : Pos} {e : Expr} {es : List Expr} {fa : MA} (G : FnOk X.prog X.w X.K X.mg X.base CX k f fd ps (spF X.K w.cls n F)) (hr : Room k X.A) (hg : Gl X x) (hm : X.mg x = some (.ref f)) (hk : PySem.W.keepIn X.K (.ref f) = true) (hb : Binds X.K fd ps [])
    (hx : Passes CX X w.E) (ha : PA X (e :: es) (tA X.K w fa)) (hn : MA.len n fa) (hdb : (x == ("__debug__" : Str)) = false := by decide) (he : starEach (e :: es) X.env = (false, eval e X.env) :: starEach es X.env := by rfl) (hpl : (backTo pos (starEach es X.env)).any (·.1) = false := by rfl) :
    PE X (.Call (.Name x p) (e :: es) [] pos) (tE X.K w (mCall F fa)) := (pe_call G hr hg hm hk hb .nil hx ha hdb he hpl).weak fun _ _ _ q => call_lift hn q
theorem se_call0 {CX : CXT} {k : Nat} {f : Addr} {fd : FuncData} {ps : List Str} {F : MF} {x : Str} {p : Pos} (G : FnOk X.prog X.w X.K X.mg X.base CX k f fd ps (spF X.K w.cls 0 F)) (hr : Room k X.A) (hg : Gl X x) (hm : X.mg x = some (.ref f)) (hk : PySem.W.keepIn X.K (.ref f) = true) (hb : Binds X.K fd ps [])
    (hx : Passes CX X w.E) (hdb : (x == ("__debug__" : Str)) = false := by decide) : PE X (.Call (.Name x p) [] [] pos) (tE X.K w (mCall F mNil)) := (pe_call0 G hr hg hm hk hb .nil hx hdb).weak fun σ H Q q => by
  obtain ⟨ρ, env, m, hm, he, q⟩ := call_lift len_nil q
  exact q.ok hm [] rds.nil
/-! ### built-ins by values -/
def CallD (K : PySem.W.Frag) (w : Wi) (r : List V → Hp → VK → Prop) (g : MF) : Prop :=
  ∀ ρ H m vs ds (Q : VK), HRel K ρ H m → rds K ρ H ds vs → W K w ρ H (g ds m) (fun d _ ρ' H' => ∀ v, rd K ρ' H' d v → Q v H') → r vs H Q
def mB1 (g : MF) (fa : MA) : ME := fun env m => bnd (fa env m) g
theorem cb_lift {K : PySem.W.Frag} {r : List V → Hp → VK → Prop} {g : MF} {fa : MA} (h : CallD K w r g) {σ : SLT} {H : Hp} {Q : VK} (q : tE K w (mB1 g fa) σ H Q) : tCB r (tA K w fa) σ H Q := by
  obtain ⟨ρ, env, m, hm, he, q⟩ := q
  exact ⟨ρ, env, m, hm, he, q.bnd.imp fun ds m1 ρ1 H1 e1 hm1 q1 vs r1 => h ρ1 H1 m1 vs ds Q hm1 r1 q1⟩
theorem se_b {x : Str} {id : String} {p : Pos} {e : Expr} {es : List Expr} {fa : MA} {r : List V → Hp → VK → Prop} {g : MF} (h : PE X (.Call (.Name x p) (e :: es) [] pos) (tCB r (tA X.K w fa))) (hd : CallD X.K w r g) : PE X (.Call (.Name x p) (e :: es) [] pos) (tE X.K w (mB1 g fa)) :=
  h.weak fun _ _ _ q => cb_lift hd q
end
section
variable {X : Cx} {K : PySem.W.Frag} {w : Wi} {ρ : List Addr} {H : Hp} {m : M}
/-- len -/
def lenD (m : M) : D → Option Nat
  | .str x => if Nat.ble x.length lim then some x.length else none
  | .ref n => (match lstO m[n]? with
    | some ds => some ds.length
    | none => match dO m[n]? with
      | some (false, kvs) => some kvs.length
      | _ => none)
  | .lcon ds => some ds.length
  | .tup ds => some ds.length
  | .con ds => some ds.length
  | _ => none
def gLen : MF := fun ds m => match ds with
  | [d] => (match lenD m d with
    | some n => some (.ok (.int n) m)
    | none => none)
  | _ => none
theorem callr_or {f : Value} {r1 r2 : List V → Hp → VK → Prop} (h1 : CallR X f r1) (h2 : CallR X f r2) : CallR X f (fun xs H Q => r1 xs H Q ∨ r2 xs H Q) := by
  intro pins s σ H xs us Q I rx h
  rcases h with h | h
  · exact h1 pins s σ H xs us Q I rx h
  · exact h2 pins s σ H xs us Q I rx h
end
end EV

set_option Elab.async false
set_option linter.all false
set_option maxRecDepth 100000
set_option maxHeartbeats 2000000
namespace EV
open PySem PySem.Spec PyProof.Rows L2
section
variable {X : Cx} {K : PySem.W.Frag} {w : Wi} {ρ : List Addr} {H : Hp} {m : M}
/-! ### len, int, abs, min, max of two -/
def rLenAll (K : PySem.W.Frag) : List V → Hp → VK → Prop := fun xs H Q => (∃ x n, xs = [x] ∧ LenV K x H n ∧ Q (.int n) H) ∨ ∃ a kvs, xs = [V.ref a] ∧ H a = some (.dK kvs) ∧ Q (.int kvs.length) H
theorem call_lenAll : CallR X (.builtin "len") (rLenAll X.K) := callr_or call_len call_lenD
def gLen1 (d : D) (m : M) : Option (Rs D) := match asL m d with
  | some ds => some (.ok (.int ds.length) m)
  | none => match asT d with
    | some ds => some (.ok (.int ds.length) m)
    | none => match d with
      | .str x => gif (Nat.ble x.length lim) (some (.ok (.int x.length) m))
      | .ref n => (match m[n]? with
        | some (.dct false kvs) => some (.ok (.int kvs.length) m)
        | _ => none)
      | _ => none
def one (g : D → M → Option (Rs D)) : MF := fun ds m => match ds with
  | [d] => g d m
  | _ => none
def two (g : D → D → M → Option (Rs D)) : MF := fun ds m => match ds with
  | [d, e] => g d e m
  | _ => none
theorem one_ok {r : List V → Hp → VK → Prop} {g : D → M → Option (Rs D)} (h : ∀ ρ H m x d (Q : VK), HRel K ρ H m → rd K ρ H d x → W K w ρ H (g d m) (fun d _ ρ' H' => ∀ v, rd K ρ' H' d v → Q v H') → r [x] H Q) : CallD K w r (one g) := by
  intro ρ H m vs ds Q hm rs e
  unfold one at e
  split at e
  · obtain ⟨v, rfl, rv⟩ := rds1 rs
    exact h ρ H m v _ Q hm rv e
  · exact e.elim
theorem two_ok {r : List V → Hp → VK → Prop} {g : D → D → M → Option (Rs D)} (h : ∀ ρ H m x y d e (Q : VK), HRel K ρ H m → rd K ρ H d x → rd K ρ H e y → W K w ρ H (g d e m) (fun d _ ρ' H' => ∀ v, rd K ρ' H' d v → Q v H') → r [x, y] H Q) : CallD K w r (two g) := by
  intro ρ H m vs ds Q hm rs e
  unfold two at e
  split at e
  · obtain ⟨v, u, rfl, rv, ru⟩ := rds2 rs
    exact h ρ H m v u _ _ Q hm rv ru e
  · exact e.elim
theorem rkK.length : ∀ {kvs : List (D × D)} {r : List (Key × V)}, rkK K ρ H kvs r → r.length = kvs.length
  | [], _, h => by unfold rkK at h; rw [h]; rfl
  | (k, d) :: kvs, r, h => by
    unfold rkK at h
    obtain ⟨key, v, t, rfl, h1, h2, h3⟩ := h
    simp [h3.length]
theorem len_ok : CallD K w (rLenAll K) (one gLen1) := one_ok fun ρ H m x d Q hm r e => by
  unfold gLen1 at e
  cases el : asL m d with
  | some ds =>
    rw [el] at e
    obtain ⟨p, vs, rfl, h1, h2⟩ := rd_asL hm r el
    exact .inl ⟨_, ds.length, rfl, .inl ⟨vs, h1, h2.length⟩, e.ok hm _ rd_intI⟩
  | none =>
    rw [el] at e
    simp only at e
    cases et : asT d with
    | some ds =>
      rw [et] at e
      obtain ⟨p, vs, rfl, h1, h2⟩ := rd_asT et r
      exact .inl ⟨_, ds.length, rfl, .inr ⟨vs, h1, h2.length⟩, e.ok hm _ rd_intI⟩
    | none =>
      rw [et] at e
      simp only at e
      split at e
      · rename_i y
        obtain ⟨hl, e⟩ := e.gif
        rw [rd_str r]
        exact .inl ⟨_, y.length, rfl, ⟨lim_line hl, rfl⟩, e.ok hm _ rd_intI⟩
      · rename_i n
        split at e
        · rename_i kvs eo
          obtain ⟨p, rfl, hp⟩ := rd_ref r
          obtain ⟨r', a, b⟩ := hm.obj n p _ hp eo
          refine .inr ⟨p, r', rfl, a, ?_⟩
          rw [b.length]
          exact e.ok hm _ rd_intI
        · exact e.elim
      · exact e.elim
def gInt (d : D) (m : M) : Option (Rs D) := match d with
  | .int i => some (.ok (.int i) m)
  | .bl k => some (.ok (.int (if k then 1 else 0)) m)
  | _ => none
theorem int_ok : CallD K w (fun xs H Q => (∃ i, xs = [.int i] ∧ Q (.int i) H) ∨ ∃ k, xs = [.bl k] ∧ Q (.int (if k then 1 else 0)) H) (one gInt) := one_ok fun ρ H m x d Q hm r e => by
  unfold gInt at e
  split at e
  · rw [rd_int r]; exact .inl ⟨_, rfl, e.ok hm _ rd_intI⟩
  · rw [rd_bl r]; exact .inr ⟨_, rfl, e.ok hm _ rd_intI⟩
  · exact e.elim
def gAbs (d : D) (m : M) : Option (Rs D) := match d with
  | .int i => some (.ok (.int (if i < 0 then -i else i)) m)
  | _ => none
theorem abs_ok : CallD K w (fun xs H Q => ∃ i, xs = [.int i] ∧ Q (.int (if i < 0 then -i else i)) H) (one gAbs) := one_ok fun ρ H m x d Q hm r e => by
  unfold gAbs at e
  split at e
  · rw [rd_int r]; exact ⟨_, rfl, e.ok hm _ rd_intI⟩
  · exact e.elim
def gMax2 (d e : D) (m : M) : Option (Rs D) := match d, e with
  | .int i, .int j => some (.ok (.int (if j > i then j else i)) m)
  | _, _ => none
def gMin2 (d e : D) (m : M) : Option (Rs D) := match d, e with
  | .int i, .int j => some (.ok (.int (if j < i then j else i)) m)
  | _, _ => none
theorem max2_ok : CallD K w (fun xs H Q => ∃ i j, xs = [.int i, .int j] ∧ Q (.int (if j > i then j else i)) H) (two gMax2) := two_ok fun ρ H m x y d e' Q hm r1 r2 e => by
  unfold gMax2 at e
  split at e
  · rw [rd_int r1, rd_int r2]; exact ⟨_, _, rfl, e.ok hm _ rd_intI⟩
  · exact e.elim
theorem min2_ok : CallD K w (fun xs H Q => ∃ i j, xs = [.int i, .int j] ∧ Q (.int (if j < i then j else i)) H) (two gMin2) := two_ok fun ρ H m x y d e' Q hm r1 r2 e => by
  unfold gMin2 at e
  split at e
  · rw [rd_int r1, rd_int r2]; exact ⟨_, _, rfl, e.ok hm _ rd_intI⟩
  · exact e.elim
/-! ### sums, all -/
def intsO : List D → Option (List Int)
  | [] => some []
  | .int i :: r => match intsO r with
    | some l => some (i :: l)
    | none => none
  | _ => none
theorem intsO_ok : ∀ {ds : List D} {ns : List Int} {vs : List V}, intsO ds = some ns → rds K ρ H ds vs → vs = ns.map V.int
  | [], ns, vs, h, r => by cases h; unfold rds at r; rw [r]; rfl
  | d :: ds, ns, vs, h, r => by
    unfold rds at r
    obtain ⟨v, t, rfl, h1, h2⟩ := r
    cases d with
    | int i =>
      unfold intsO at h
      split at h
      · rename_i l e
        cases h
        rw [rd_int h1, intsO_ok e h2]
        rfl
      · cases h
    | _ => cases h
def blsO : List D → Option (List Bool)
  | [] => some []
  | .bl i :: r => match blsO r with
    | some l => some (i :: l)
    | none => none
  | _ => none
theorem blsO_ok : ∀ {ds : List D} {ns : List Bool} {vs : List V}, blsO ds = some ns → rds K ρ H ds vs → vs = ns.map V.bl
  | [], ns, vs, h, r => by cases h; unfold rds at r; rw [r]; rfl
  | d :: ds, ns, vs, h, r => by
    unfold rds at r
    obtain ⟨v, t, rfl, h1, h2⟩ := r
    cases d with
    | bl i =>
      unfold blsO at h
      split at h
      · rename_i l e
        cases h
        rw [rd_bl h1, blsO_ok e h2]
        rfl
      · cases h
    | _ => cases h
def gOfL {α : Type} (f : List D → Option α) (g : α → D) (d : D) (m : M) : Option (Rs D) := match asL m d with
  | some ds => (match f ds with
    | some a => some (.ok (g a) m)
    | none => none)
  | none => none
def gSum : D → M → Option (Rs D) := gOfL intsO fun l => .int l.sum
def gAll : D → M → Option (Rs D) := gOfL blsO fun l => .bl (l.all id)
def gAny : D → M → Option (Rs D) := gOfL blsO fun l => .bl (l.any id)
theorem sum_ok : CallD K w (rSum K) (one gSum) := one_ok fun ρ H m x d Q hm r e => by
  unfold gSum gOfL at e
  split at e
  · rename_i ds el
    split at e
    · rename_i ns en
      obtain ⟨p, vs, rfl, h1, h2⟩ := rd_asL hm r el
      have := intsO_ok en h2
      subst this
      exact ⟨p, ns, rfl, h1, e.ok hm _ rd_intI⟩
    · exact e.elim
  · exact e.elim
theorem all_ok : CallD K w (rAll K) (one gAll) := one_ok fun ρ H m x d Q hm r e => by
  unfold gAll gOfL at e
  split at e
  · rename_i ds el
    split at e
    · rename_i ns en
      obtain ⟨p, vs, rfl, h1, h2⟩ := rd_asL hm r el
      have := blsO_ok en h2
      subst this
      exact ⟨p, ns, rfl, h1, e.ok hm _ rd_blI⟩
    · exact e.elim
  · exact e.elim
theorem any_ok : CallD K w (rAny K) (one gAny) := one_ok fun ρ H m x d Q hm r e => by
  unfold gAny gOfL at e
  split at e
  · rename_i ds el
    split at e
    · rename_i ns en
      obtain ⟨p, vs, rfl, h1, h2⟩ := rd_asL hm r el
      have := blsO_ok en h2
      subst this
      exact ⟨p, ns, rfl, h1, e.ok hm _ rd_blI⟩
    · exact e.elim
  · exact e.elim
/-! ### list(), tuple() -/
def gList (d : D) (m : M) : Option (Rs D) := match asL m d with
  | some ds => newL ds m
  | none => match asT d with
    | some ds => newL ds m
    | none => none
theorem list_ok : CallD K w (fun xs H Q => ∃ p ys, xs = [.ref p] ∧ (SqL K H p ys ∨ SqT K H p ys) ∧ ∀ l, H l = none → Q (.ref l) (upd H l (.lst ys))) (one gList) := one_ok fun ρ H m x d Q hm r e => by
  unfold gList at e
  cases el : asL m d with
  | some ds =>
    rw [el] at e
    obtain ⟨p, vs, rfl, h1, h2⟩ := rd_asL hm r el
    refine ⟨p, vs, rfl, .inl h1, fun l hl => ?_⟩
    obtain ⟨ρ', m', c, q⟩ := W.newL e hm hl h2
    exact q _ c
  | none =>
    rw [el] at e
    simp only at e
    cases et : asT d with
    | some ds =>
      rw [et] at e
      obtain ⟨p, vs, rfl, h1, h2⟩ := rd_asT et r
      refine ⟨p, vs, rfl, .inr h1, fun l hl => ?_⟩
      obtain ⟨ρ', m', c, q⟩ := W.newL e hm hl h2
      exact q _ c
    | none => rw [et] at e; exact e.elim
def gTuple (d : D) (m : M) : Option (Rs D) := match asL m d with
  | some ds => some (.ok (.tup ds) m)
  | none => match d with
    | .tup ds => some (.ok (.tup ds) m)
    | .con ds => some (.ok (.con ds) m)
    | .ftp ds => some (.ok (.ftp ds) m)
    | _ => none
theorem tuple_ok : CallD K w (fun xs H Q => ∃ p ys, xs = [.ref p] ∧ ((SqL K H p ys ∧ ∀ l, H l = none → Q (.ref l) (upd H l (.tup ys))) ∨ (SqT K H p ys ∧ Q (.ref p) H))) (one gTuple) := one_ok fun ρ H m x d Q hm r e => by
  unfold gTuple at e
  cases el : asL m d with
  | some ds =>
    rw [el] at e
    obtain ⟨p, vs, rfl, h1, h2⟩ := rd_asL hm r el
    refine ⟨p, vs, rfl, .inl ⟨h1, fun l hl => ?_⟩⟩
    obtain ⟨a, b, c⟩ := lay_tup hm hl h2
    exact e _ _ a b _ c
  | none =>
    rw [el] at e
    simp only at e
    split at e
    · obtain ⟨p, vs, rfl, h1, h2⟩ := rd_asT rfl r
      exact ⟨p, vs, rfl, .inr ⟨h1, e.ok hm _ r⟩⟩
    · obtain ⟨p, vs, rfl, h1, h2⟩ := rd_asT rfl r
      exact ⟨p, vs, rfl, .inr ⟨h1, e.ok hm _ r⟩⟩
    · obtain ⟨p, vs, rfl, h1, h2⟩ := rd_asT rfl r
      exact ⟨p, vs, rfl, .inr ⟨h1, e.ok hm _ r⟩⟩
    · exact e.elim
/-! ### slices -/
def cutD (xs : List D) (lo hi : Option Int) : List D := (xs.drop (HT.sIx xs.length 0 lo)).take (HT.sIx xs.length xs.length hi - HT.sIx xs.length 0 lo)
theorem rds.cut {ds : List D} {vs : List V} (r : rds K ρ H ds vs) (lo hi : Option Int) : rds K ρ H (cutD ds lo hi) (cutV vs lo hi) := by
  unfold cutD cutV
  rw [← r.length]
  exact (r.drop _).take _
abbrev MO := Env → M → Option (Rs (Option Int))
def oNone : MO := fun _ m => some (.ok none m)
def oSome (f : ME) : MO := fun env m => bnd (f env m) fun d m1 => match d with
  | .int i => some (.ok (some i) m1)
  | _ => none
def tO (K : PySem.W.Frag) (w : Wi) (f : MO) : TO := fun σ H Q => ∃ ρ env m, HRel K ρ H m ∧ ER K ρ H env σ ∧ W K w ρ H (f env m) fun o _ _ H' => Q o H'
theorem _root_.L2.PO.weak {e : Option Expr} {t t' : TO} (h : PO X e t) (w : ∀ σ H Q, t' σ H Q → t σ H Q) : PO X e t' := ⟨fun pins s σ H Q I q => h.run pins s σ H Q I (w _ _ _ q)⟩
theorem so_none : PO X none (tO X.K w oNone) := po_none.weak fun σ H Q q => by
  obtain ⟨ρ, env, m, hm, he, q⟩ := q
  exact q.ok hm
theorem so_some {e : Expr} {f : ME} (h : PE X e (tE X.K w f)) : PO X (some e) (tO X.K w (oSome f)) := (po_some h).weak fun σ H Q q => by
  obtain ⟨ρ, env, m, hm, he, q⟩ := q
  refine ⟨ρ, env, m, hm, he, q.bnd.imp fun d m1 ρ1 H1 e1 hm1 q1 v r => ?_⟩
  split at q1
  · exact ⟨_, rd_int r, q1.ok hm1⟩
  · exact q1.elim
/-- the whole of a tuple is itself -/
def gSl (d : D) (lo hi : Option Int) (m : M) : Option (Rs D) := match asL m d with
  | some ds => newL (cutD ds lo hi) m
  | none => match d with
    | .tup ds => some (.ok (.tup (cutD ds lo hi)) m)
    | .con ds => some (.ok (.con (cutD ds lo hi)) m)
    | .ftp ds => some (.ok (.con (cutD ds lo hi)) m)
    | _ => none
theorem cut_whole {xs : List D} {lo hi : Option Int} (h : HT.sIx xs.length 0 lo = 0 ∧ HT.sIx xs.length xs.length hi = xs.length) : cutD xs lo hi = xs := by
  unfold cutD
  rw [h.1, h.2]
  simp
theorem sl_ok {x : V} {d : D} {lo hi : Option Int} {Q : VK} (hm : HRel K ρ H m) (r : rd K ρ H d x) (e : W K w ρ H (gSl d lo hi m) (fun d _ ρ' H' => ∀ v, rd K ρ' H' d v → Q v H')) : rSlL K x lo hi H Q ∨ rSlA K x lo hi H Q := by
  unfold gSl at e
  cases el : asL m d with
  | some ds =>
    rw [el] at e
    obtain ⟨p, vs, rfl, h1, h2⟩ := rd_asL hm r el
    refine .inl ⟨p, vs, rfl, h1, fun l hl => ?_⟩
    obtain ⟨ρ', m', c, q⟩ := W.newL e hm hl (h2.cut lo hi)
    exact q _ c
  | none =>
    rw [el] at e
    simp only at e
    split at e
    · rename_i ds
      obtain ⟨p, vs, rfl, h1, h2⟩ := rd_tup r
      refine .inr ⟨p, vs, rfl, .inl (.inl h1.2), fun hw => ?_, fun _ l hl => ?_⟩
      · rw [← h2.length] at hw
        rw [cut_whole hw] at e
        exact e.ok hm _ r
      · obtain ⟨a, b, c⟩ := lay_tup hm hl (h2.cut lo hi)
        exact e _ _ a b _ c
    · rename_i ds
      obtain ⟨p, vs, rfl, h1, h2⟩ := rd_con r
      refine .inr ⟨p, vs, rfl, h1.sq, fun hw => ?_, fun _ l hl => ?_⟩
      · rw [← h2.length] at hw
        rw [cut_whole hw] at e
        exact e.ok hm _ r
      · obtain ⟨a, b, c⟩ := lay_tup hm hl (h2.cut lo hi)
        exact e _ _ a b _ (rd_toCon c)
    · rename_i ds
      have r := rd_ftCon r
      obtain ⟨p, vs, rfl, h1, h2⟩ := rd_con r
      refine .inr ⟨p, vs, rfl, h1.sq, fun hw => ?_, fun _ l hl => ?_⟩
      · rw [← h2.length] at hw
        rw [cut_whole hw] at e
        exact e.ok hm _ r
      · obtain ⟨a, b, c⟩ := lay_tup hm hl (h2.cut lo hi)
        exact e _ _ a b _ (rd_toCon c)
    · exact e.elim
def mSl (f : ME) (lo hi : MO) : ME := fun env m => bnd (f env m) fun d m1 => bnd (lo env m1) fun a m2 => bnd (hi env m2) fun b m3 => gSl d a b m3
theorem se_sl {e : Expr} {lo hi : Option Expr} {p2 pos : Pos} {f : ME} {fl fh : MO} (he : PE X e (tE X.K w f)) (hl : PO X lo (tO X.K w fl)) (hh : PO X hi (tO X.K w fh)) : PE X (.Subscript e (.Slice lo hi none p2) pos) (tE X.K w (mSl f fl fh)) :=
  (pe_slice (sl_list.or sl_tupA) he hl hh).weak fun σ H Q q => by
    obtain ⟨ρ, env, m, hm, he, q⟩ := q
    refine ⟨ρ, env, m, hm, he, q.bnd.imp fun d m1 ρ1 H1 e1 hm1 q1 x r1 => ⟨ρ1, env, m1, hm1, he.mono e1, q1.bnd.imp fun a m2 ρ2 H2 e2 hm2 q2 => ⟨ρ2, env, m2, hm2, (he.mono e1).mono e2, q2.bnd.imp fun b m3 ρ3 H3 e3 hm3 q3 => ?_⟩⟩⟩
    exact sl_ok hm3 ((r1.mono e2).mono e3) q3
/-! ### methods -/
def MtD (K : PySem.W.Frag) (w : Wi) (r : V → List V → Hp → VK → Prop) (T : String) (g : D → List D → M → Option (Rs D)) : Prop :=
  ∀ ρ H m x d vs ds (Q : VK), HRel K ρ H m → rd K ρ H d x → rds K ρ H ds vs → W K w ρ H (g d ds m) (fun d _ ρ' H' => ∀ v, rd K ρ' H' d v → Q v H') → r x vs H Q
def gApp (d : D) (ds : List D) (m : M) : Option (Rs D) := match d, ds with
  | .ref n, [e] => (match m[n]? with
    | some (.lst xs) => gif (Nat.ble xs.length lim) (some (.ok .non (m.set n (.lst (xs ++ [e])))))
    | _ => none)
  | _, _ => none
theorem app_okD {x y : V} {d e : D} {Q : VK} (hm : HRel K ρ H m) (r : rd K ρ H d x) (re : rd K ρ H e y) (h : W K w ρ H (gApp d [e] m) (fun d _ ρ' H' => ∀ v, rd K ρ' H' d v → Q v H')) : rAppend x [y] H Q := by
  cases d with
  | ref n =>
    unfold gApp at h
    simp only at h
    split at h
    · rename_i xs eo
      obtain ⟨hl, h⟩ := h.gif
      obtain ⟨p, rfl, hp⟩ := rd_ref r
      obtain ⟨vs, a, b⟩ := hm.obj n p _ hp eo
      refine ⟨p, vs, y, rfl, rfl, a, by rw [← b.length]; exact lim_lt hl, ?_⟩
      have hpm : p ∈ ρ := List.mem_of_getElem? hp
      have e1 : Ext ρ H ρ (upd H p (.lst (vs ++ [y]))) := Ext.put hpm (by rw [a]; simp) (by rw [a]; intro _ _ z; cases z)
      exact h _ _ e1 (hm.put hp ⟨_, upd_same, (b.append (rds.cons re rds.nil)).mono e1⟩) _ rd_nonI
    · exact h.elim
  | _ => exact h.elim
/-- the receiver's kind is seen first -/
def mMt (chk : D → M → Bool) (g : D → List D → M → Option (Rs D)) (f : ME) (fa : MA) : ME := fun env m => bnd (f env m) fun d m1 => gif (chk d m1) (bnd (fa env m1) fun ds m2 => g d ds m2)
def isL : D → M → Bool := fun d m => (asL m d).isSome
theorem isL_ty {x : V} {d : D} (hm : HRel K ρ H m) (r : rd K ρ H d x) (h : isL d m = true) : tyV K "list" x H := by
  unfold isL at h
  cases el : asL m d with
  | none => rw [el] at h; cases h
  | some ds =>
    obtain ⟨p, vs, rfl, h1, h2⟩ := rd_asL hm r el
    exact .inl ⟨rfl, vs, h1⟩
theorem mt_lift {T : String} {chk : D → M → Bool} {g : D → List D → M → Option (Rs D)} {r : V → List V → Hp → VK → Prop} (hc : ∀ ρ H m x d, HRel K ρ H m → rd K ρ H d x → chk d m = true → tyV K T x H) (hd : MtD K w r T g) {f : ME} {fa : MA} {σ : SLT} {Q : VK}
    (q : tE K w (mMt chk g f fa) σ H Q) : tBM K T r (tE K w f) (tA K w fa) σ H Q := by
  obtain ⟨ρ, env, m, hm, he, q⟩ := q
  refine ⟨ρ, env, m, hm, he, q.bnd.imp fun d m1 ρ1 H1 e1 hm1 q1 x r1 => ?_⟩
  obtain ⟨hch, q1⟩ := q1.gif
  exact ⟨hc _ _ _ _ _ hm1 r1 hch, ρ1, env, m1, hm1, he.mono e1, q1.bnd.imp fun ds m2 ρ2 H2 e2 hm2 q2 vs r2 => hd ρ2 H2 m2 x d vs ds Q hm2 (r1.mono e2) r2 q2⟩
theorem app_ok : MtD K w rAppend "list" gApp := by
  intro ρ H m x d vs ds Q hm r rs h
  cases ds with
  | nil => cases d <;> exact h.elim
  | cons e t =>
    cases t with
    | nil =>
      obtain ⟨y, rfl, re⟩ := rds1 rs
      exact app_okD hm r re h
    | cons _ _ => cases d <;> exact h.elim
theorem se_app {o e : Expr} {apos cpos : Pos} {f : ME} {fa : MA} (h : PE X (.Call (.Attribute o "append" apos) [e] [] cpos) (tBM X.K "list" rAppend (tE X.K w f) (tA X.K w fa))) : PE X (.Call (.Attribute o "append" apos) [e] [] cpos) (tE X.K w (mMt isL gApp f fa)) :=
  h.weak fun _ _ _ q => mt_lift (fun _ _ _ _ _ => isL_ty) app_ok q
/-- l.index(x) -/
def findP (x : PyData) : List PyData → Nat → Option Nat
  | [], _ => none
  | y :: r, k => if PyData.eqv y x then some k else findP x r (k + 1)
theorem findP_ok {x : PyData} : ∀ {l : List PyData} {k j : Nat}, findP x l k = some j → ∃ i, j = k + i ∧ (∃ z, l[i]? = some z ∧ PyData.eqv z x = true) ∧ ∀ (n : Nat) (z : PyData), n < i → l[n]? = some z → PyData.eqv z x = false
  | [], k, j, h => by cases h
  | y :: r, k, j, h => by
    unfold findP at h
    cases e : PyData.eqv y x with
    | true =>
      rw [e] at h
      simp at h
      subst h
      exact ⟨0, rfl, ⟨y, rfl, e⟩, fun n z hn => absurd hn (Nat.not_lt_zero n)⟩
    | false =>
      rw [e] at h
      simp at h
      obtain ⟨i, e1, ⟨z, e2, e3⟩, e4⟩ := findP_ok h
      refine ⟨i + 1, by omega, ⟨z, by simpa using e2, e3⟩, fun n z' hn hz => ?_⟩
      cases n with
      | zero => simp at hz; subst hz; exact e
      | succ n => exact e4 n z' (by omega) (by simpa using hz)
def gIndex (d : D) (ds : List D) (m : M) : Option (Rs D) := match ds with
  | [e] => (match toP m fuelP d, toP m fuelP e with
    | some (.list l), some x => (match findP x l 0 with
      | some j => some (.ok (.int j) m)
      | none => none)
    | _, _ => none)
  | _ => none
theorem index_ok : MtD K w (rIndexD K) "list" gIndex := by
  intro ρ H m x d vs ds Q hm r rs h
  unfold gIndex at h
  split at h
  · rename_i e
    obtain ⟨y, rfl, re⟩ := rds1 rs
    split at h
    · rename_i l p e1 e2
      split at h
      · rename_i j ej
        obtain ⟨i, rfl, ⟨z, e3, e4⟩, e5⟩ := findP_ok ej
        have hd := toP_dp hm _ _ _ _ r e1
        have hx : ∃ a, x = V.ref a := by cases hd; exact ⟨_, rfl⟩
        obtain ⟨a, rfl⟩ := hx
        rw [Nat.zero_add] at h
        exact ⟨a, y, p, l, i, z, rfl, rfl, hd, toP_dp hm _ _ _ _ re e2, toP_shaped e1, toP_shaped e2, e3, e4, e5, h.ok hm _ rd_intI⟩
      · exact h.elim
    · exact h.elim
  · exact h.elim
theorem se_index {o e : Expr} {apos cpos : Pos} {f : ME} {fa : MA} (h : PE X (.Call (.Attribute o "index" apos) [e] [] cpos) (tBM X.K "list" (rIndexD X.K) (tE X.K w f) (tA X.K w fa))) : PE X (.Call (.Attribute o "index" apos) [e] [] cpos) (tE X.K w (mMt isL gIndex f fa)) :=
  h.weak fun _ _ _ q => mt_lift (fun _ _ _ _ _ => isL_ty) index_ok q
/-- d.get(k) -/
def mGet1 (f g : ME) : ME := fun env m => bnd (f env m) fun d m1 => match d with
  | .ref n => (match dO m1[n]? with
    | some _ => bnd (g env m1) fun k m2 => (match dO m2[n]? with
      | some (t, kvs) => gif (kOk t k) (some (.ok ((dget kvs k).getD .non) m2))
      | none => none)
    | none => none)
  | _ => none
theorem isD_of {n : Nat} {p : Addr} {q : Bool × List (D × D)} (hm : HRel K ρ H m) (hp : ρ[n]? = some p) (h : dO m[n]? = some q) : IsD H p := by
  obtain ⟨t, kvs⟩ := q
  rcases dO_at hm hp h with ⟨_, r, a, _⟩ | ⟨_, r, a, _⟩
  · exact .inl ⟨r, a⟩
  · exact .inr ⟨r, a⟩
theorem get_lift {f g : ME} {σ : SLT} {Q : VK} (q : tE K w (mGet1 f g) σ H Q) : tDGet1 (tE K w f) (tE K w g) σ H Q := by
  obtain ⟨ρ, env, m, hm, he, q⟩ := q
  refine ⟨ρ, env, m, hm, he, q.bnd.imp fun d m1 ρ1 H1 e1 hm1 q1 x r1 => ?_⟩
  cases d with
  | ref n =>
    obtain ⟨p, rfl, hp⟩ := rd_ref r1
    simp only at q1
    cases ed : dO m1[n]? with
    | none => rw [ed] at q1; exact q1.elim
    | some q0 =>
      rw [ed] at q1
      refine ⟨p, rfl, isD_of hm1 hp ed, ρ1, env, m1, hm1, he.mono e1, q1.bnd.imp fun k m2 ρ2 H2 e2 hm2 q2 y r2 => ?_⟩
      cases ed2 : dO m2[n]? with
      | none => rw [ed2] at q2; exact q2.elim
      | some q3 =>
        obtain ⟨t, kvs⟩ := q3
        rw [ed2] at q2
        obtain ⟨hk, q2⟩ := q2.gif
        rcases dget_ok hm2 (e2.get hp) ed2 hk r2 with ⟨d', v, e3, g', r⟩ | ⟨e3, g'⟩
        · rw [e3] at q2
          exact ⟨some v, g', q2.ok hm2 v r⟩
        · rw [e3] at q2
          exact ⟨none, g', q2.ok hm2 _ rd_nonI⟩
  | _ => exact q1.elim
theorem se_get1 {o e : Expr} {apos cpos : Pos} {f g : ME} (h : PE X (.Call (.Attribute o "get" apos) [e] [] cpos) (tDGet1 (tE X.K w f) (tE X.K w g))) : PE X (.Call (.Attribute o "get" apos) [e] [] cpos) (tE X.K w (mGet1 f g)) := h.weak fun _ _ _ q => get_lift q
/-! ### stores by place -/
theorem drep_K {k : D} {key : Key} {d : D} {v : V} (e : dKey k = some key) (rv : rd K ρ H d v) : ∀ {kvs : List (D × D)} {r : List (Key × V)}, rkK K ρ H kvs r → rkK K ρ H (drep kvs k d) (r.map fun kv => if kv.1 = key then (kv.1, v) else kv)
  | [], _, h => by unfold rkK at h; subst h; unfold drep rkK; rfl
  | (k0, d0) :: kvs, r, h => by
    unfold rkK at h
    obtain ⟨key0, v0, t, rfl, h1, h2, h3⟩ := h
    have hk : keyEq k0 k = decide (key0 = key) := by
      have : keyEq k0 k = scEq k0 k := by
        cases k0 with
        | tup _ => cases h1
        | _ => rfl
      rw [this]
      exact scEq_key h1 e
    unfold drep
    rw [List.map_cons]
    by_cases c : key0 = key
    · simp only [hk, c, decide_true, if_true]
      subst c
      unfold rkK
      exact ⟨_, v, _, rfl, h1, rv, drep_K e rv h3⟩
    · simp only [hk, decide_eq_false c, if_neg c]
      unfold rkK
      exact ⟨_, v0, _, rfl, h1, h2, drep_K e rv h3⟩
theorem drep_T {ks : List D} {key : List Key} {d : D} {v : V} (e : dKeys ks = some key) (rv : rd K ρ H d v) : ∀ {kvs : List (D × D)} {r : List (List Key × V)}, rkT K ρ H kvs r → rkT K ρ H (drep kvs (.tup ks) d) (r.map fun kv => if kv.1 = key then (kv.1, v) else kv)
  | [], _, h => by unfold rkT at h; subst h; unfold drep rkT; rfl
  | (k0, d0) :: kvs, r, h => by
    unfold rkT at h
    obtain ⟨ks0, key0, v0, t, rfl, rfl, h1, h2, h3⟩ := h
    have hk : keyEq (.tup ks0) (.tup ks) = decide (key0 = key) := scsEq_key h1 e
    unfold drep
    rw [List.map_cons]
    by_cases c : key0 = key
    · simp only [hk, c, decide_true, if_true]
      subst c
      unfold rkT
      exact ⟨ks0, _, v, _, rfl, rfl, h1, rv, drep_T e rv h3⟩
    · simp only [hk, decide_eq_false c, if_neg c]
      unfold rkT
      exact ⟨ks0, _, v0, _, rfl, rfl, h1, h2, drep_T e rv h3⟩
theorem rkK_snoc {k : D} {key : Key} {d : D} {v : V} (e : dKey k = some key) (rv : rd K ρ H d v) : ∀ {kvs : List (D × D)} {r : List (Key × V)}, rkK K ρ H kvs r → rkK K ρ H (kvs ++ [(k, d)]) (r ++ [(key, v)])
  | [], _, h => by unfold rkK at h; subst h; show rkK K ρ H [(k, d)] [(key, v)]; unfold rkK; exact ⟨key, v, [], rfl, e, rv, by unfold rkK; rfl⟩
  | (k0, d0) :: kvs, r, h => by
    unfold rkK at h
    obtain ⟨key0, v0, t, rfl, h1, h2, h3⟩ := h
    show rkK K ρ H ((k0, d0) :: (kvs ++ [(k, d)])) ((key0, v0) :: (t ++ [(key, v)]))
    unfold rkK
    exact ⟨key0, v0, _, rfl, h1, h2, rkK_snoc e rv h3⟩
theorem rkT_snoc {ks : List D} {key : List Key} {d : D} {v : V} (e : dKeys ks = some key) (rv : rd K ρ H d v) : ∀ {kvs : List (D × D)} {r : List (List Key × V)}, rkT K ρ H kvs r → rkT K ρ H (kvs ++ [(.tup ks, d)]) (r ++ [(key, v)])
  | [], _, h => by unfold rkT at h; subst h; show rkT K ρ H [(.tup ks, d)] [(key, v)]; unfold rkT; exact ⟨ks, key, v, [], rfl, rfl, e, rv, by unfold rkT; rfl⟩
  | (k0, d0) :: kvs, r, h => by
    unfold rkT at h
    obtain ⟨ks0, key0, v0, t, rfl, e0, h1, h2, h3⟩ := h
    show rkT K ρ H ((k0, d0) :: (kvs ++ [(.tup ks, d)])) ((key0, v0) :: (t ++ [(key, v)]))
    unfold rkT
    exact ⟨ks0, key0, v0, _, rfl, e0, h1, h2, rkT_snoc e rv h3⟩
theorem rkT.length : ∀ {kvs : List (D × D)} {r : List (List Key × V)}, rkT K ρ H kvs r → r.length = kvs.length
  | [], _, h => by unfold rkT at h; rw [h]; rfl
  | (k, d) :: kvs, r, h => by
    unfold rkT at h
    obtain ⟨ks, key, v, t, rfl, _, h1, h2, h3⟩ := h
    simp [h3.length]
/-- what a store does -/
def putD (k d : D) (m : M) (n : Nat) : Option O → Option M
  | some (.lst xs) => (match k with
    | .int i => (match ixN xs.length i with
      | some j => some (m.set n (.lst (xs.set j d)))
      | none => none)
    | _ => none)
  | some (.dct t kvs) => if kOk t k && Nat.ble kvs.length lim then some (m.set n (.dct t (dput kvs k d))) else none
  | _ => none
theorem putK_of {κ : Type} [DecidableEq κ] {kvs : List (κ × V)} {k : κ} {v : V} (h : (valV kvs k).isSome = true) : putK kvs k v = kvs.map fun kv => if kv.1 = k then (kv.1, v) else kv := by
  unfold putK
  rw [valV_any, h, if_pos rfl]
theorem dput_K {k : D} {key : Key} {d : D} {v : V} {kvs : List (D × D)} {r : List (Key × V)} (e : dKey k = some key) (rv : rd K ρ H d v) (b : rkK K ρ H kvs r) : rkK K ρ H (dput kvs k d) (putK r key v) := by
  unfold dput
  rcases rkK_get e b with ⟨d', v', e2, e3, _⟩ | ⟨e2, e3⟩
  · rw [e2, putK_of (by rw [e3]; rfl)]
    exact drep_K e rv b
  · rw [e2, putK_new _ e3]
    exact rkK_snoc e rv b
theorem dput_T {ks : List D} {key : List Key} {d : D} {v : V} {kvs : List (D × D)} {r : List (List Key × V)} (e : dKeys ks = some key) (rv : rd K ρ H d v) (b : rkT K ρ H kvs r) : rkT K ρ H (dput kvs (.tup ks) d) (putK r key v) := by
  unfold dput
  rcases rkT_get e b with ⟨d', v', e2, e3, _⟩ | ⟨e2, e3⟩
  · rw [e2, putK_of (by rw [e3]; rfl)]
    exact drep_T e rv b
  · rw [e2, putK_new _ e3]
    exact rkT_snoc e rv b
theorem put_ok {n : Nat} {p : Addr} {k d : D} {y v : V} {m' : M} (hm : HRel K ρ H m) (hp : ρ[n]? = some p) (ry : rd K ρ H k y) (rv : rd K ρ H d v) (h : putD k d m n m[n]? = some m') :
    ∃ H', Ext ρ H ρ H' ∧ HRel K ρ H' m' ∧ ((∃ xs i j, y = .int i ∧ H p = some (.lst xs) ∧ ixN xs.length i = some j ∧ H' = upd H p (.lst (xs.set j v))) ∨ DPut H p y v H') := by
  have hpm : p ∈ ρ := List.mem_of_getElem? hp
  unfold putD at h
  split at h
  · rename_i xs eo
    split at h
    · rename_i i
      split at h
      · rename_i j ej
        cases h
        obtain ⟨vs, a, b⟩ := hm.obj n p _ hp eo
        have e1 : Ext ρ H ρ (upd H p (.lst (vs.set j v))) := Ext.put hpm (by rw [a]; simp) (by rw [a]; intro _ _ z; cases z)
        exact ⟨_, e1, hm.put hp ⟨_, upd_same, (b.set rv j).mono e1⟩, .inl ⟨vs, i, j, rd_int ry, a, by rw [← b.length]; exact ej, rfl⟩⟩
      · cases h
    · cases h
  · rename_i t kvs eo
    split at h
    · rename_i hc
      cases h
      rw [Bool.and_eq_true] at hc
      obtain ⟨hk, hl⟩ := hc
      cases t with
      | false =>
        obtain ⟨r, a, b⟩ := hm.obj n p _ hp eo
        have hk' : scOk k = true := by cases k <;> first | exact hk | cases hk
        obtain ⟨key, e⟩ := dKey_ok hk'
        have ey := rd_key e ry
        subst ey
        have e1 : Ext ρ H ρ (upd H p (.dK (putK r key v))) := Ext.put hpm (by rw [a]; simp) (by rw [a]; intro _ _ z; cases z)
        refine ⟨_, e1, hm.put hp ⟨_, upd_same, ?_⟩, .inr (.inl ⟨r, key, a, rfl, by rw [b.length]; exact lim_lt hl, rfl⟩)⟩
        exact dput_K e (rv.mono e1) (b.mono e1)
      | true =>
        obtain ⟨r, a, b⟩ := hm.obj n p _ hp eo
        cases k with
        | tup ks =>
          obtain ⟨key, e⟩ := dKeys_ok (show ks.all scOk = true from hk)
          obtain ⟨b0, us, rfl, h1, h2⟩ := rd_tup ry
          have eu := rds_key e h2
          subst eu
          have e1 : Ext ρ H ρ (upd H p (.dT (putK r key v))) := Ext.put hpm (by rw [a]; simp) (by rw [a]; intro _ _ z; cases z)
          refine ⟨_, e1, hm.put hp ⟨_, upd_same, ?_⟩, .inr (.inr ⟨r, key, b0, a, rfl, h1.2, by rw [b.length]; exact lim_lt hl, rfl⟩)⟩
          exact dput_T e (rv.mono e1) (b.mono e1)
        | _ => cases hk
    · cases h
  · cases h
/-- o[i] = value: the value first -/
def sPut (fo fi fv : ME) : MS := fun env m => bnd (fv env m) fun d m1 => bnd (fo env m1) fun o m2 => bnd (fi env m2) fun k m3 => match o with
  | .ref n => (match putD k d m3 n m3[n]? with
    | some m4 => some (.ok (.nx env) m4)
    | none => none)
  | _ => none
theorem set_any (hu : X.A.units + 1 < cLine) : PSet X (fun o i v H Q => rSetL o i v H Q ∨ ∃ a H', o = .ref a ∧ DPut H a i v H' ∧ Q H') := by
  intro pins s σ H o i v ov iv u Q I ro ri rv h
  rcases h with h | ⟨a, H', rfl, g, q⟩
  · exact set_list pins s σ H o i v ov iv u Q I ro ri rv h
  · cases ro
    exact d_setItem hu I g ri rv fun s4 I4 => ⟨H', I4, q⟩
theorem ss_put {o i e : Expr} {pos' pos : Pos} {fo fi fv : ME} (hu : X.A.units + 1 < cLine) (he : PE X e (tE X.K w fv)) (ho : PE X o (tE X.K w fo)) (hi : PE X i (tE X.K w fi))
    (ha : ∀ v, assign (.Subscript o i pos') X.env v = (do
      let ov ← holding [v] (eval o X.env)
      let iv ← holding [v, ov] (eval i X.env)
      standAt pos'
      holding [v, ov, iv] (setItem ov iv v)
      release [v, ov, iv] []) := by intro _; rfl)
    (hs : swapsWithSole [.Subscript o i pos'] e pos.line X.env = pure false := by rfl) (hw : swappedStores [.Subscript o i pos'] e X.env = pure none := by rfl)
    (h1 : (assignEach [.Subscript o i pos'] X.env).map (·.2) = [assign (.Subscript o i pos') X.env] := by rfl) : PS X (.Assign [.Subscript o i pos'] e pos) (tS X.K w (sPut fo fi fv)) :=
  (ps_asg he (pg_sub ho hi (set_any hu) ha) hs hw h1).weak fun Dn σ H q => by
    obtain ⟨ρ, env, m, hm, he, q⟩ := q
    refine ⟨ρ, env, m, hm, he, q.bnd.imp fun d m1 ρ1 H1 e1 hm1 q1 v r1 => ⟨ρ1, env, m1, hm1, he.mono e1, q1.bnd.imp fun o m2 ρ2 H2 e2 hm2 q2 x r2 => ⟨ρ2, env, m2, hm2, (he.mono e1).mono e2, q2.bnd.imp fun k m3 ρ3 H3 e3 hm3 q3 y r3 => ?_⟩⟩⟩
    cases o with
    | ref n =>
      obtain ⟨p, rfl, hp⟩ := rd_ref r2
      simp only at q3
      cases ep : putD k d m3 n m3[n]? with
      | none => rw [ep] at q3; exact q3.elim
      | some m4 =>
        rw [ep] at q3
        obtain ⟨H', ex, hm4, alt⟩ := put_ok hm3 (e3.get hp) r3 ((r1.mono e2).mono e3) ep
        have fin : Dn.nx σ H' := q3 ρ3 H' ex hm4 σ ((((he.mono e1).mono e2).mono e3).mono ex)
        rcases alt with ⟨xs, i, j, rfl, a, ej, rfl⟩ | g
        · exact .inl ⟨p, xs, i, j, rfl, rfl, a, ej, fin⟩
        · exact .inr ⟨p, H', rfl, g, fin⟩
    | _ => exact q3.elim
/-- {} -/
def mDct (t : Bool) : ME := fun _ m => some (.ok (.ref m.length) (m ++ [.dct t []]))
theorem se_dK {pos : Pos} : PE X (.Dict [] [] pos) (tE X.K w (mDct false)) := pe_dnewK.weak fun σ H Q q => by
  obtain ⟨ρ, env, m, hm, he, q⟩ := q
  intro p hp
  refine q _ _ (Ext.laid hp) (hm.laid hp ⟨[], upd_same, by unfold rkK; rfl⟩) _ (rd_refI ?_)
  rw [← hm.len, List.getElem?_append_right (Nat.le_refl _)]
  simp
theorem se_dT {pos : Pos} : PE X (.Dict [] [] pos) (tE X.K w (mDct true)) := pe_dnewT.weak fun σ H Q q => by
  obtain ⟨ρ, env, m, hm, he, q⟩ := q
  intro p hp
  refine q _ _ (Ext.laid hp) (hm.laid hp ⟨[], upd_same, by unfold rkT; rfl⟩) _ (rd_refI ?_)
  rw [← hm.len, List.getElem?_append_right (Nat.le_refl _)]
  simp
end
end EV

set_option Elab.async false
set_option linter.all false
set_option maxRecDepth 100000
set_option maxHeartbeats 2000000
namespace EV
open PySem PySem.Spec PyProof.Rows L2
section
variable {P : Program} {wd : World} {K : PySem.W.Frag} {mg : Str → Option Value} {base : Heap} {cls : Nat → Addr}
/-- a def's function, from its body -/
def mDef (slots : Nat) (body : MS) : MF := fun ds m => bnd (body (ds.map some ++ List.replicate (slots - ds.length) none) m) fun fl m' => match fl with
  | .rt d => some (.ok d m')
  | .nx _ => some (.ok .non m')
  | _ => none
theorem er_start {ρ : List Addr} {H : Hp} {N : List Str} {ds : List D} {vs : List V} (r : rds K ρ H ds vs) : ER K ρ H (ds.map some ++ List.replicate (N.length - ds.length) none) (L2.start N vs) := by
  have hl := r.length
  refine ⟨by unfold L2.start; simp [hl], fun i d e => ?_⟩
  by_cases hi : i < ds.length
  · rw [List.getElem?_append_left (by simpa using hi), List.getElem?_map] at e
    cases ed : ds[i]? with
    | none => rw [ed] at e; cases e
    | some d' =>
      rw [ed] at e
      cases e
      obtain ⟨v, ev, rv⟩ := r.get ed
      refine ⟨v, ?_, rv⟩
      unfold L2.start
      rw [List.getElem?_append_left (by rw [List.length_map, ← hl]; exact hi), List.getElem?_map, ev]
      rfl
  · rw [List.getElem?_append_right (by simpa using hi), List.getElem?_replicate] at e
    split at e <;> cases e
theorem ok_def {x : Str} {st : Stmt} {f : Addr} {fd : FuncData} {N ps : List Str} {k : Nat} (F : Fun K x x st f fd) (S : FnScope N ps (defScope st)) {body : MS}
    (hb : ∀ (cdv : Value) (A : Around) (outer : List PySem.Env) (s : Shared) (H : Hp) (E : XK), Room k (A.deeper (envOfC x (defScope st) s.heap.objs.size f cdv)) → PSs (cxOf CX0 P wd K mg base N x (defScope st) f cdv A outer s H E).nox (defBody st) (tS K ⟨E, cls⟩ body)) :
    FnOk P wd K mg base CX0 (k + 1) f fd ps (spF K cls ps.length (mDef N.length body)) := by
  refine F.ok S (fun vs H Q E h => h.1) (fun cdv A outer s H vs Q E hr h => ?_)
  obtain ⟨hn, ρ, m, ds, hm, r, q⟩ := h
  refine ⟨_, hb cdv A outer s H E hr, ρ, _, m, hm, er_start r, q.bnd0.imp fun fl m' ρ' H' e' hm' q' => ?_⟩
  cases fl with
  | nx env => exact fun σ he => (W.at_ q' e' hm') _ rd_nonI
  | rt d => exact fun v rv => (W.at_ q' e' hm') v rv
  | bk env => exact q'.elim
  | ct env => exact q'.elim
end
end EV

set_option Elab.async false
set_option linter.all false
set_option maxRecDepth 100000
set_option maxHeartbeats 2000000
namespace EV
open PySem PySem.Spec PyProof.Rows L2
section
variable {X : Cx} {K : PySem.W.Frag} {w : Wi} {ρ : List Addr} {H : Hp} {m : M}
/-! ### choices, and, or, not as values -/
def mIf (c : MT) (f g : ME) : ME := fun env m => bnd (c env m) fun b m1 => match b with
  | true => f env m1
  | false => g env m1
theorem se_ifExp {c a b : Expr} {pos : Pos} {tc : MT} {f g : ME} (hc : PT X c (tT X.K w tc)) (ha : PE X a (tE X.K w f)) (hb : PE X b (tE X.K w g)) : PE X (.IfExp c a b pos) (tE X.K w (mIf tc f g)) := (pe_ifExp hc ha hb).weak fun σ H Q q => by
  obtain ⟨ρ, env, m, hm, he, q⟩ := q
  refine ⟨ρ, env, m, hm, he, q.bnd.imp fun b m1 ρ1 H1 e1 hm1 q1 => ?_⟩
  cases b with
  | true => exact iteT ⟨ρ1, env, m1, hm1, he.mono e1, q1⟩
  | false => exact iteF ⟨ρ1, env, m1, hm1, he.mono e1, q1⟩
def mAndV (f g : ME) : ME := fun env m => bnd (f env m) fun d m1 => match d with
  | .bl true => g env m1
  | .bl false => some (.ok (.bl false) m1)
  | _ => none
def mOrV (f g : ME) : ME := fun env m => bnd (f env m) fun d m1 => match d with
  | .bl true => some (.ok (.bl true) m1)
  | .bl false => g env m1
  | _ => none
theorem se_andV {a b : Expr} {rest : List Expr} {pos : Pos} {f g : ME} (ha : PE X a (tE X.K w f)) (hb : PE X (.BoolOp .And (b :: rest) pos) (tE X.K w g)) : PE X (.BoolOp .And (a :: b :: rest) pos) (tE X.K w (mAndV f g)) := (pe_and ha hb).weak fun σ H Q q => by
  obtain ⟨ρ, env, m, hm, he, q⟩ := q
  refine ⟨ρ, env, m, hm, he, q.bnd.imp fun d m1 ρ1 H1 e1 hm1 q1 v r => ?_⟩
  split at q1
  · exact ⟨true, rd_bl r, iteT ⟨ρ1, env, m1, hm1, he.mono e1, q1⟩⟩
  · exact ⟨false, rd_bl r, iteF (q1.ok hm1 _ rd_blI)⟩
  · exact q1.elim
theorem se_orV {a b : Expr} {rest : List Expr} {pos : Pos} {f g : ME} (ha : PE X a (tE X.K w f)) (hb : PE X (.BoolOp .Or (b :: rest) pos) (tE X.K w g)) : PE X (.BoolOp .Or (a :: b :: rest) pos) (tE X.K w (mOrV f g)) := (pe_or ha hb).weak fun σ H Q q => by
  obtain ⟨ρ, env, m, hm, he, q⟩ := q
  refine ⟨ρ, env, m, hm, he, q.bnd.imp fun d m1 ρ1 H1 e1 hm1 q1 v r => ?_⟩
  split at q1
  · exact ⟨true, rd_bl r, iteT (q1.ok hm1 _ rd_blI)⟩
  · exact ⟨false, rd_bl r, iteF ⟨ρ1, env, m1, hm1, he.mono e1, q1⟩⟩
  · exact q1.elim
def gNotB : G1 := fun d m => match d with
  | .bl b => some (.ok (.bl (!b)) m)
  | _ => none
theorem se_notV {a : Expr} {pos : Pos} {f : ME} (ha : PE X a (tE X.K w f)) : PE X (.UnaryOp .Not a pos) (tE X.K w (mUn gNotB f)) := (pe_not ha).weak fun σ H Q q => by
  obtain ⟨ρ, env, m, hm, he, q⟩ := q
  refine ⟨ρ, env, m, hm, he, q.bnd.imp fun d m1 ρ1 H1 e1 hm1 q1 v r => ?_⟩
  unfold gNotB at q1
  split at q1
  · exact ⟨_, rd_bl r, q1.ok hm1 _ rd_blI⟩
  · exact q1.elim
def gNeg : G1 := fun d m => match d with
  | .int i => some (.ok (.int (-i)) m)
  | _ => none
theorem neg_ok : UnD K w (rU fun i => .int (-i)) gNeg := by
  intro ρ H m x dx Q hm rx e
  unfold gNeg at e
  split at e
  · exact ⟨_, rd_int rx, e.ok hm _ rd_intI⟩
  · exact e.elim
/-! ### isinstance -/
def tyD (m : M) : D → Option String
  | .non => some "NoneType"
  | .bl _ => some "bool"
  | .int _ => some "int"
  | .str _ => some "str"
  | .tup _ => some "tuple"
  | .con _ => some "tuple"
  | .ftp _ => some "tuple"
  | .lcon _ => some "list"
  | .ref n => match m[n]? with
    | some (.lst _) => some "list"
    | some (.fro _) => some "list"
    | some (.dct _ _) => some "dict"
    | some (.frd false _) => some "dict"
    | _ => none
theorem tyD_ok {d : D} {v : V} {t : String} (hm : HRel K ρ H m) (r : rd K ρ H d v) (h : tyD m d = some t) : TyX K H v (.type t) := by
  cases d with
  | non => cases h; rw [rd_non r]; exact .base .non
  | bl b => cases h; rw [rd_bl r]; exact .base (.bl b)
  | int i => cases h; rw [rd_int r]; exact .base (.int i)
  | str x => cases h; rw [rd_str r]; exact .base (.str x)
  | tup ds => cases h; obtain ⟨p, vs, rfl, a, b⟩ := rd_tup r; exact .base (.tup a.2)
  | con ds =>
    cases h
    obtain ⟨p, vs, rfl, a, b⟩ := rd_con r
    rcases a with ⟨_, a | ⟨o, a⟩⟩ | ⟨o, its, n, e, c, _⟩
    · exact .base (.tup a)
    · exact .fTuple a
    · exact .kTuple e c
  | ftp ds =>
    cases h
    obtain ⟨p, vs, rfl, ⟨_, o, a, _⟩, b⟩ := rd_ftp r
    exact .fTuple a
  | lcon ds =>
    cases h
    obtain ⟨p, vs, rfl, a, b⟩ := rd_lcon r
    rcases a with ⟨_, o, a⟩ | ⟨o, its, n, e, c, _⟩
    · exact .base (.frz a)
    · exact .kList e c
  | ref n =>
    obtain ⟨p, rfl, hp⟩ := rd_ref r
    unfold tyD at h
    simp only at h
    split at h
    · rename_i e; cases h; obtain ⟨vs, a, b⟩ := hm.obj n p _ hp e; exact .base (.lst a)
    · rename_i e; cases h; obtain ⟨vs, o, a, b⟩ := hm.obj n p _ hp e; exact .base (.frz a)
    · rename_i t' kvs e
      cases h
      cases t' with
      | false => obtain ⟨vs, a, b⟩ := hm.obj n p _ hp e; exact .base (.dK a)
      | true => obtain ⟨vs, a, b⟩ := hm.obj n p _ hp e; exact .base (.dT a)
    · rename_i kvs e; cases h; obtain ⟨vs, o, a, b⟩ := hm.obj n p _ hp e; exact .fDict a
    · cases h
def isTab (t T : String) : Bool := (t == T) || (t == "bool" && T == "int")
def mIsi (T : String) (f : ME) : ME := fun env m => bnd (f env m) fun d m1 => match tyD m1 d with
  | some t => some (.ok (.bl (isTab t T)) m1)
  | none => none
def tyOk (T : String) : Bool := ["NoneType", "bool", "int", "str", "tuple", "list", "dict"].all fun t => kitB t T == some (isTab t T)
theorem tyOk_at {T t : String} {d : D} (h : tyOk T = true) (e : tyD m d = some t) : kitB t T = some (isTab t T) := by
  have ht : t ∈ ["NoneType", "bool", "int", "str", "tuple", "list", "dict"] := by
    cases d with
    | ref n =>
      unfold tyD at e
      simp only at e
      split at e <;> first | (cases e; simp) | cases e
    | _ => cases e; simp
  have := List.all_eq_true.mp h t ht
  simpa using this
theorem se_isi {x y : Str} {p p2 pos : Pos} {T : String} {e : Expr} {f : ME} (hg : Gl X x) (hm : X.mg x = none) (hv : bootBuiltins x = some (.builtin "isinstance")) (hT : tyOk T = true)
    (hn : x ≠ "__name__" := by decide) (hdb : (x == ("__debug__" : Str)) = false := by decide)
    (hs : starEach (e :: [.Name y p2]) X.env = (false, eval e X.env) :: starEach [.Name y p2] X.env := by rfl) (hpl : (backTo pos (starEach [.Name y p2] X.env)).any (·.1) = false := by rfl)
    (hc : PA X [e, .Name y p2] (tCons (tE X.K w f) (tCons (tC (.ty T)) tNil))) :
    PE X (.Call (.Name x p) [e, .Name y p2] [] pos) (tE X.K w (mIsi T f)) := (pe_callB call_isi hg hm hv hc hn hdb hs hpl).weak fun σ H Q q => by
  obtain ⟨ρ, env, m, hm, he, q⟩ := q
  refine ⟨ρ, env, m, hm, he, q.bnd.imp fun d m1 ρ1 H1 e1 hm1 q1 v r => ?_⟩
  cases et : tyD m1 d with
  | none => rw [et] at q1; exact q1.elim
  | some t =>
    rw [et] at q1
    exact ⟨v, _, .type t, .type T, isTab t T, rfl, .ty _, tyD_ok hm1 r et, kit_ty (tyOk_at hT et), q1.ok hm1 _ rd_blI⟩
/-! ### tuple * int -/
def gRepT : G2 := fun x y m => match asT x, y with
  | some ds, .int k => if !ds.isEmpty && decide (2 ≤ k) && decide (k ≤ 1000) && Nat.ble ds.length 1000 then some (.ok (.tup (List.replicate k.toNat ds).flatten) m) else none
  | _, _ => none
theorem rds.rep {ds : List D} {vs : List V} (r : rds K ρ H ds vs) : ∀ n : Nat, rds K ρ H (List.replicate n ds).flatten (List.replicate n vs).flatten
  | 0 => rds.nil
  | n + 1 => by
    rw [List.replicate_succ, List.replicate_succ, List.flatten_cons, List.flatten_cons]
    exact r.append (rds.rep r n)
theorem repT_ok : OpD K w (rRepT K) gRepT := by
  intro ρ H m x y dx dy Q hm rx ry e
  unfold gRepT at e
  split at e
  · rename_i ds k ed
    split at e
    · rename_i hc
      simp only [Bool.and_eq_true, decide_eq_true_eq] at hc
      obtain ⟨⟨⟨h1, h2⟩, h3⟩, h4⟩ := hc
      obtain ⟨p, vs, rfl, a, b⟩ := rd_asT ed rx
      refine ⟨p, k, vs, rfl, rd_int ry, a, fun z => ?_, h2, h3, by rw [← b.length]; exact Nat.le_of_ble_eq_true h4, fun q hq => ?_⟩
      · subst z
        have := b.length
        cases ds with
        | nil => simp at h1
        | cons _ _ => simp at this
      · obtain ⟨a', b', c'⟩ := lay_tup hm hq (b.rep k.toNat)
        exact e _ _ a' b' _ c'
    · exact e.elim
  · exact e.elim
end
end EV

set_option Elab.async false
set_option linter.all false
set_option maxRecDepth 100000
set_option maxHeartbeats 2000000
namespace EV
open PySem PySem.Spec PyProof.Rows L2
/-! ### a list or a tuple (true) to walk -/
def SqB (b : Bool) (K : PySem.W.Frag) (H : Hp) (a : Addr) (xs : List V) : Prop := match b with
  | true => SqT K H a xs
  | false => SqL K H a xs
def IsB (b : Bool) (h : Heap) (a : Addr) (z : Array Value) : Prop := match b with
  | true => h.IsTuple a z
  | false => h.IsList a z
def tyI : Bool → String
  | true => "tuple_iterator"
  | false => "list_iterator"
def tyB : Bool → String
  | true => "tuple"
  | false => "list"
def ItAt (b : Bool) (h : Heap) (it a : Addr) (i : Nat) : Prop := ∃ o, h.get? it = some o ∧ o.cls = .type (tyI b) ∧ o.data = .fields #[.ref a, .int i 0]
theorem tup_it {h : Heap} {it a : Addr} {i : Nat} : h.IsTupleIter it a i ↔ ItAt true h it a i := Iff.rfl
theorem lst_it {h : Heap} {it a : Addr} {i : Nat} : h.IsListIter it a i ↔ ItAt false h it a i := Iff.rfl
theorem ItAt.keep {b : Bool} {h h' : Heap} {it a : Addr} {i : Nat} (x : ItAt b h it a i) (k : ∀ o, h.get? it = some o → h'.get? it = some o) : ItAt b h' it a i := let ⟨o, e, r⟩ := x; ⟨o, k o e, r⟩
theorem IsB.has {b : Bool} {h : Heap} {a : Addr} {z : Array Value} (x : IsB b h a z) : ∃ o, h.get? a = some o ∧ o.cls = .type (tyB b) := by
  cases b with
  | true => obtain ⟨o, e, c, _⟩ := (show h.IsTuple a z from x); exact ⟨o, e, c⟩
  | false => obtain ⟨o, e, c, _⟩ := (show h.IsList a z from x); exact ⟨o, e, c⟩
theorem tys_ne (b c : Bool) : (Value.type (tyB b) : Value) ≠ .type (tyI c) := by
  cases b <;> cases c <;> (intro z; injection z with z; exact absurd z (by decide))
theorem it_ne {b c : Bool} {h : Heap} {a it a' : Addr} {i : Nat} {z : Array Value} (x : IsB b h a z) (y : ItAt c h it a' i) : a ≠ it := by
  rintro rfl
  obtain ⟨o, e, k⟩ := x.has
  obtain ⟨o', e', k', _⟩ := y
  rw [e] at e'
  cases e'
  exact tys_ne b c (k.symm.trans k')
theorem cls_ne {b : Bool} {h : Heap} {a e : Addr} {z : Array Value} {o : Obj} {T : String} (x : IsB b h a z) (he : h.get? e = some o) (hc : o.cls = .type T) (hT : T ≠ "tuple") (hT2 : T ≠ "list") : e ≠ a := by
  rintro rfl
  obtain ⟨o', e', k⟩ := x.has
  rw [he] at e'
  cases e'
  rw [hc] at k
  injection k with k
  cases b
  · exact hT2 k
  · exact hT k
theorem it_cls_ne {b : Bool} {h : Heap} {a e it : Addr} {i : Nat} {o : Obj} {T : String} (x : ItAt b h it a i) (he : h.get? e = some o) (hc : o.cls = .type T) (hT : T ≠ "tuple_iterator") (hT2 : T ≠ "list_iterator") : e ≠ it := by
  rintro rfl
  obtain ⟨o', e', k, _⟩ := x
  rw [he] at e'
  cases e'
  rw [hc] at k
  injection k with k
  cases b
  · exact hT2 k
  · exact hT k
section
variable {X : Cx} {pins : List (Addr × Obj)} {σ : L2.St} {H : Hp} {s : Shared} {K : PySem.W.Frag} {w : Wi}
theorem drawsB {P : Program} {wd : World} {A : Around} (b : Bool) (hh : A.handled = none) (it a : Addr) (hne : a ≠ it) (z : Array Value) :
    Draws P wd A it [it, a] z.size (fun i v => z[i]? = some v) (fun i h => ItAt b h it a i ∧ IsB b h a z) := by
  cases b with
  | true => exact Draws.tuple hh it a hne z
  | false => exact Draws.list hh it a hne z
theorem begB (b : Bool) (a : Addr) (z : Array Value) : Begins (.ref a) { cls := .type (tyI b), data := .fields #[.ref a, .int 0 0] } fun h => IsB b h a z := by
  cases b with
  | true => exact begins_tuple a z
  | false => exact begins_list a z
theorem inv_sqB {b : Bool} {a : Addr} {xs : List V} (I : Inv X pins σ H s) (q : SqB b X.K H a xs) : ∃ us : List Value, Vals xs us ∧ IsB b s.heap a us.toArray := by
  cases b with
  | true => obtain ⟨its, rv, p, _⟩ := I.tuple q; exact ⟨its, rv, p⟩
  | false => obtain ⟨its, rv, p, _⟩ := I.list q; exact ⟨its, rv, p.isList⟩
theorem inv_sqB_inj {b : Bool} {a : Addr} {xs ys : List V} (I : Inv X pins σ H s) (q : SqB b X.K H a xs) (q2 : SqB b X.K H a ys) : xs = ys := by
  cases b with
  | true => exact I.tuple_inj q q2
  | false => exact I.list_inj q q2

/-! ### enumerate -/
def IteB (b : Bool) (K : PySem.W.Frag) (a : Addr) : It :=
  ⟨fun i H => ∃ (xs : List V) (x : V), SqB b K H a xs ∧ xs[i]? = some x,
   fun i H v H' => ∃ T x, v = .ref T ∧ H T = none ∧ H' = upd H T (.tup [.int (i : Nat), x]) ∧ ∀ xs, SqB b K H a xs → xs[i]? = some x,
   fun i H => ∃ xs : List V, SqB b K H a xs ∧ xs.length ≤ i⟩
theorem turn_enumB {P : Program} {wd : World} {elts : List Expr} {kk : Nat} {tpos : Pos} (b : Bool) (a e it : Addr) :
    Turn P wd K (.Tuple elts kk tpos) (IteB b K a) [e, it] e (fun i h => (∃ old, IsEnum h e it ((i : Nat) : Int) old) ∧ ItAt b h it a i) where
  mem := by simp
  obj := fun i h st c hc => by
    obtain ⟨⟨old, he⟩, ⟨o, ho, _, hd⟩⟩ := st
    rcases (show c = e ∨ c = it by simpa using hc) with z | z
    · subst z; exact ⟨_, he, fun v q => nomatch q⟩
    · subst z; exact ⟨o, ho, fun v q => by rw [hd] at q; cases q⟩
  keep := fun i h h' st k => let ⟨⟨old, he⟩, hi⟩ := st; ⟨⟨old, k e (by simp) _ he⟩, hi.keep fun o q => k it (by simp) o q⟩
  item := by
    intro X hP hw hK hc i pins s σ H E I hf st hg
    subst hP hw hK
    obtain ⟨⟨old, he⟩, hit⟩ := st
    obtain ⟨xs, x, hq, hx⟩ := hg
    obtain ⟨us, rv, p⟩ := inv_sqB I hq
    obtain ⟨u, hu, ru⟩ := rv.get hx
    have hne : e ≠ it := it_cls_ne hit he rfl (by decide) (by decide)
    have hea : e ≠ a := cls_ne p he rfl (by decide) (by decide)
    have lte : e < s.heap.objs.size := Heap.lt_size he
    have lti : it < s.heap.objs.size := by obtain ⟨_, q, _⟩ := hit; exact Heap.lt_size q
    have hlt : i < us.toArray.size := by
      have := (List.getElem?_eq_some_iff.mp hu).1
      simpa using this
    refine wpAny_pyNext_enum_itemC (drawsB (P := X.prog) (wd := X.w) (A := X.A.in1) b (show X.A.in1.handled = none from I.ok.hd hc) it a (it_ne p hit) us.toArray) he ⟨hit, p⟩ hlt hne (by simp [hne, hea]) fun u' h' tk hP' ho st' hT hsz hk => ?_
    have eu : u' = u := by
      have h1 : us[i]? = some u' := by simpa using hP'
      rw [hu] at h1
      exact (Option.some.inj h1).symm
    subst eu
    refine ⟨_, rfl, wpAny_letOwnedTupleGo_enum (s := { s with heap := h', toks := tk + 1 }) ho fun h'' he' sb => ?_⟩
    have hT2 : h''.get? s.heap.objs.size = some { cls := .type "tuple", data := .seq #[.int i tk, u'] } := (sb.2 _ (Nat.ne_of_gt lte)).trans hT
    have nw : ObjOk X.prog X.w (upd H s.heap.objs.size (.tup [.int (i : Nat), x])) h'' s.heap.objs.size (.tup [.int (i : Nat), x]) := ⟨by show 2 ≤ sizeLine; decide, [.int i tk, u'], .cons ⟨_, rfl⟩ (.cons ru .nil), ⟨_, hT2, rfl, _, rfl⟩⟩
    have I1 : Inv X pins σ (upd H s.heap.objs.size (.tup [.int (i : Nat), x])) { s with heap := h'', toks := tk + 1 } := I.turnedNew (ch := [e, it]) (fun c ob hb q => (sb.2 c (fun z => hb (by simp [z]))).trans (hk c ob (fun z => hb (by simp [z])) (fun z => hb (by simp [z])) q)) hf (Nat.le_refl _) nw
    refine ⟨.ref s.heap.objs.size, _, I1, rfl, ⟨_, x, rfl, I.hok.fresh (Nat.le_refl _), rfl, fun ys hy => by rw [inv_sqB_inj I hy hq]; exact hx⟩, ⟨⟨u', ?_⟩, st'.1.keep fun o q => (sb.2 it (Ne.symm hne)).trans q⟩, fun c hcm => ?_⟩
    · rw [show ((i + 1 : Nat) : Int) = (i : Int) + 1 from by omega]
      exact he'
    · rw [upd_ne (Nat.ne_of_lt (show c < s.heap.objs.size from by
        rcases (show c = e ∨ c = it by simpa using hcm) with z | z
        · exact z ▸ lte
        · exact z ▸ lti))]
      exact (hf c hcm).1
  done := by
    intro X hP hw hK hc i pins s σ H E I hf st hg
    subst hP hw hK
    obtain ⟨⟨old, he⟩, hit⟩ := st
    obtain ⟨xs, hq, hx⟩ := hg
    obtain ⟨us, rv, p⟩ := inv_sqB I hq
    obtain ⟨f0, f1, f2, f3, f4, f5⟩ := hf it (by simp)
    have hl := rv.length
    by_cases hi : i = us.toArray.size
    · subst hi
      exact wpAny_pyNext_enum_endD (drawsB (P := X.prog) (wd := X.w) (A := X.A.in1) b (show X.A.in1.handled = none from I.ok.hd hc) it a (it_ne p hit) us.toArray) he ⟨hit, p⟩ fun h' eb => ⟨rfl, I.turned (t' := s.toks) (fun c o hb q => eb c o hb q) f0 f1 f3 f4 f5⟩
    · cases b with
      | true =>
        have hD : Draws X.prog X.w X.A.in1 it [it, a] i (fun j v => us.toArray[j]? = some v ∧ False) (fun j h => (j = i ∧ h.IsTupleIter it a i) ∧ h.IsTuple a us.toArray) := ⟨fun j h st => let ⟨o, e1, _⟩ := st.1.2; ⟨o, e1⟩, fun j h h' st k => ⟨⟨st.1.1, st.1.2.at fun o q => k it (by simp) o q⟩, st.2.at fun o q => k a (by simp) o q⟩, fun j s Q E hj st hQ => absurd st.1.1 (Nat.ne_of_lt hj), fun s Q E st hE => wpAny_nextOf_tuple_end (I.ok.hd hc) st.1.2 st.2 (by simp; omega) hE⟩
        exact wpAny_pyNext_enum_endD hD he ⟨⟨rfl, hit⟩, p⟩ fun h' eb => ⟨rfl, I.turned (t' := s.toks) (fun c o hb q => eb c o hb q) f0 f1 f3 f4 f5⟩
      | false =>
        have hD : Draws X.prog X.w X.A.in1 it [it, a] i (fun j v => us.toArray[j]? = some v ∧ False) (fun j h => (j = i ∧ h.IsListIter it a i) ∧ h.IsList a us.toArray) := ⟨fun j h st => let ⟨o, e1, _⟩ := st.1.2; ⟨o, e1⟩, fun j h h' st k => ⟨⟨st.1.1, st.1.2.at fun o q => k it (by simp) o q⟩, st.2.at fun o q => k a (by simp) o q⟩, fun j s Q E hj st hQ => absurd st.1.1 (Nat.ne_of_lt hj), fun s Q E st hE => wpAny_nextOf_list_end (I.ok.hd hc) st.1.2 st.2 (by simp; omega) hE⟩
        exact wpAny_pyNext_enum_endD hD he ⟨⟨rfl, hit⟩, p⟩ fun h' eb => ⟨rfl, I.turned (t' := s.toks) (fun c o hb q => eb c o hb q) f0 f1 f3 f4 f5⟩
  self := fun A i s Q E st h => let ⟨⟨_, he⟩, _⟩ := st; wpAny_pyIter_enum he h
end
end EV

set_option Elab.async false
set_option linter.all false
set_option maxRecDepth 100000
set_option maxHeartbeats 2000000
namespace EV
open PySem PySem.Spec PyProof.Rows L2
/-! ### enumerate(v) begins -/
theorem enum_new1 {v : Value} {o : Obj} {G : Heap → Prop} (B : Begins v o G) :
    Meets (Builtin.«enumerate.__new__» ⟨[.type "enumerate", v], []⟩) (fun _ R s => G s.heap ∧ R (.ok (.ret (.ref (s.heap.push o).objs.size))) { s with heap := (s.heap.push o).push { cls := .type "enumerate", data := .fields #[.none, .bool false, .ref s.heap.objs.size, rawInt 0, .none, .none] } }) :=
  .of_wp fun prog wd A R s hyp => by
    obtain ⟨hp, g, d, tk, os⟩ := s
    obtain ⟨hG, hyp⟩ := hyp
    have hsub := sub_enumerate
    have go : ∀ {A' : Around} {E' : Value → Shared → Prop} {Q' : Value → Shared → Prop}, Q' (.ref hp.objs.size) ⟨hp.push o, g, d, tk, os⟩ → wpAny (model prog wd) A' (pyIter v) Q' E' ⟨hp, g, d, tk, os⟩ := fun q => B.iter prog wd _ _ ⟨hp, g, d, tk, os⟩ _ hG q
    wp_walk using go
    refine wpAny_stack_any fun stk => wpAny_pure ?_
    split
    · rename_i cc _ _ _ _ _
      cases (cc == Value.type "enumerate") <;> (wp_walk using go; exact ⟨_, rfl, hyp⟩)
    · wp_walk using go
      exact ⟨_, rfl, hyp⟩
theorem enum_call1 {P : Program} {wd : World} {A : Around} {E : Value → Shared → Prop} {s : Shared} {v : Value} {o : Obj} {G : Heap → Prop} {Q : Value → Shared → Prop} (B : Begins v o G) (hG : G s.heap)
    (h : ∀ h', IsEnum h' (s.heap.objs.size + 1) s.heap.objs.size 0 .none → h'.get? s.heap.objs.size = some o → (∀ c u, s.heap.get? c = some u → h'.get? c = some u) → Q (.ref (s.heap.objs.size + 1)) { s with heap := h' }) :
    wpAny (model P wd) A (call (.type "enumerate") [v]) Q E s := by
  refine callType_new F.called_enumerate (by decide) (F.typeCall_enumerate_1 _) (F.newCall_enumerate_1 _) (fun obj => F.args_object_init_2 obj _) F.entry_enumerate_new (enum_new1 B) ⟨hG, ?_⟩
  have hz : (s.heap.push o).objs.size = s.heap.objs.size + 1 := Heap.size_push ..
  show _ ∧ _
  rw [hz]
  have he : IsEnum ((s.heap.push o).push { cls := .type "enumerate", data := .fields #[.none, .bool false, .ref s.heap.objs.size, rawInt 0, .none, .none] }) (s.heap.objs.size + 1) s.heap.objs.size 0 .none := by
    have q := Heap.get?_push_size (s.heap.push o) (o := { cls := .type "enumerate", data := .fields #[.none, .bool false, .ref s.heap.objs.size, rawInt 0, .none, .none] }) rfl
    rw [hz] at q
    exact q
  exact ⟨⟨_, he, rfl⟩, h _ he (Heap.get?_push_of_some _ (Heap.get?_push_size _ B.free)) fun c u e => Heap.get?_push_of_some _ (Heap.get?_push_of_some _ e)⟩
section
variable {X : Cx} {K : PySem.W.Frag} {w : Wi}
def tEnumB (K : PySem.W.Frag) (ta : TA) : TI := fun σ H R => ta σ H fun vs H1 => ∃ b a xs, vs = [.ref a] ∧ SqB b K H1 a xs ∧ R (IteB b K a) H1
theorem pi_enumB {e : Expr} {ta : TA} {p pos tpos : Pos} {elts : List Expr} {kk : Nat} (hg : Gl X "enumerate") (hm : X.mg "enumerate" = none) (ha : PA X [e] ta) (hs : starEach [e] X.env = [(false, eval e X.env)] := by rfl) :
    PI X (.Tuple elts kk tpos) (.Call (.Name "enumerate" p) [e] [] pos) (tEnumB X.K ta) := by
  refine ⟨fun pins s σ H R I h => ?_⟩
  refine Call_ (ld_blt I hg hm boot_enumerate (PyProof.Rows.callWith_type1 (thn (ha.run pos pins s σ H _ I h) fun us s1 ⟨vs, H1, I1, r1, q1⟩ => ?_) hs rfl))
  obtain ⟨b, a, xs, ex, hq, q⟩ := q1
  subst ex
  obtain ⟨u, eu, ru⟩ := vals1 r1
  subst eu
  cases ru
  obtain ⟨its, rv, p'⟩ := inv_sqB I1 hq
  refine enum_call1 (begB b a its.toArray) p' fun h' he hit hk => wpAny_pyIter_enum he ?_
  have I2 : Inv X pins σ H1 { s1 with heap := h' } := I1.kept (t' := s1.toks) hk
  refine ⟨s1.heap.objs.size + 1, [s1.heap.objs.size + 1, s1.heap.objs.size], _, _, H1, rfl, I2, turn_enumB b a (s1.heap.objs.size + 1) s1.heap.objs.size, ⟨⟨.none, he⟩, ⟨_, hit, rfl, rfl⟩⟩, fun c hc => ?_, q⟩
  have hle : s1.heap.objs.size ≤ c := by
    rcases (show c = s1.heap.objs.size + 1 ∨ c = s1.heap.objs.size by simpa using hc) with z | z
    · rw [z]; exact Nat.le_succ _
    · rw [z]; exact Nat.le_refl _
  exact I1.fpOk hle (I1.hok.fresh hle)
/-! ### zip(v, u) -/
def ItzB (b c : Bool) (K : PySem.W.Frag) (a a2 : Addr) : It :=
  ⟨fun i H => ∃ (xs ys : List V) (x y : V), SqB b K H a xs ∧ SqB c K H a2 ys ∧ xs[i]? = some x ∧ ys[i]? = some y,
   fun i H v H' => ∃ T x y, v = .ref T ∧ H T = none ∧ H' = upd H T (.tup [x, y]) ∧ (∀ xs, SqB b K H a xs → xs[i]? = some x) ∧ ∀ ys, SqB c K H a2 ys → ys[i]? = some y,
   fun i H => ∃ xs ys : List V, SqB b K H a xs ∧ SqB c K H a2 ys ∧ i ≤ xs.length ∧ i ≤ ys.length ∧ (i = xs.length ∨ i = ys.length)⟩
theorem turn_zipB {P : Program} {wd : World} {elts : List Expr} {kk : Nat} {tpos : Pos} {b c : Bool} {a a2 z TI TO i1 i2 : Addr} (S : ZipSep2 z TI TO i1 i2 [i1, a] [i2, a2]) :
    Turn P wd K (.Tuple elts kk tpos) (ItzB b c K a a2) [z, TI, TO, i1, i2] z (fun i h => IsZip h z TI TO .none ∧ IsTupOf2 h TI (.ref i1) (.ref i2) ∧ (∃ x y, IsTupOf2 h TO x y) ∧ ItAt b h i1 a i ∧ ItAt c h i2 a2 i) where
  mem := by simp
  obj := fun i h st d hd => by
    obtain ⟨hz, hTI, ⟨x, y, hTO⟩, ⟨o1, e1, _, d1⟩, ⟨o2, e2, _, d2⟩⟩ := st
    rcases (show d = z ∨ d = TI ∨ d = TO ∨ d = i1 ∨ d = i2 by simpa using hd) with q | q | q | q | q
    · subst q; exact ⟨_, hz, fun v q => nomatch q⟩
    · subst q; exact ⟨_, hTI, fun v q => nomatch q⟩
    · subst q; exact ⟨_, hTO, fun v q => nomatch q⟩
    · subst q; exact ⟨o1, e1, fun v q => by rw [d1] at q; cases q⟩
    · subst q; exact ⟨o2, e2, fun v q => by rw [d2] at q; cases q⟩
  keep := fun i h h' st k => by
    obtain ⟨hz, hTI, ⟨x, y, hTO⟩, h1, h2⟩ := st
    exact ⟨k _ (by simp) _ hz, k _ (by simp) _ hTI, ⟨x, y, k _ (by simp) _ hTO⟩, h1.keep fun o q => k _ (by simp) o q, h2.keep fun o q => k _ (by simp) o q⟩
  item := by
    intro X hP hw hK hc i pins s σ H E I hf st hg
    subst hP hw hK
    obtain ⟨hz, hTI, ⟨x0, y0, hTO⟩, h1, h2⟩ := st
    obtain ⟨xs, ys, x, y, hqx, hqy, hx, hy⟩ := hg
    obtain ⟨us, rv, p⟩ := inv_sqB I hqx
    obtain ⟨us2, rv2, p2⟩ := inv_sqB I hqy
    obtain ⟨u, hu, ru⟩ := rv.get hx
    obtain ⟨u2, hu2, ru2⟩ := rv2.get hy
    have l1 : i < us.toArray.size := by simpa using (List.getElem?_eq_some_iff.mp hu).1
    have l2 : i < us2.toArray.size := by simpa using (List.getElem?_eq_some_iff.mp hu2).1
    have lz : z < s.heap.objs.size := Heap.lt_size hz
    have hh : X.A.in1.handled = none := I.ok.hd hc
    refine wpAny_pyNext_zipD2_item S (drawsB (P := X.prog) (wd := X.w) (A := X.A.in1) b hh i1 a (it_ne p h1) us.toArray) (drawsB (P := X.prog) (wd := X.w) (A := X.A.in1) c hh i2 a2 (it_ne p2 h2) us2.toArray) hz hTI hTO ⟨h1, p⟩ ⟨h2, p2⟩ l1 l2 fun v1 v2 h' tk e1 e2 z' TO' st1 st2 hT hsz hk => ?_
    have ev : v1 = u := by
      have q : us[i]? = some v1 := by simpa using e1
      rw [hu] at q
      exact (Option.some.inj q).symm
    have ev2 : v2 = u2 := by
      have q : us2[i]? = some v2 := by simpa using e2
      rw [hu2] at q
      exact (Option.some.inj q).symm
    subst ev ev2
    refine ⟨_, rfl, wpAny_letOwnedTupleGo_zip (s := { s with heap := h', toks := tk }) z' fun h'' z'' sb => ?_⟩
    have hT2 : h''.get? s.heap.objs.size = some { cls := .type "tuple", data := .seq #[v1, v2] } := (sb.2 _ (Nat.ne_of_gt lz)).trans hT
    have nw : ObjOk X.prog X.w (upd H s.heap.objs.size (.tup [x, y])) h'' s.heap.objs.size (.tup [x, y]) := ⟨by show 2 ≤ sizeLine; decide, [v1, v2], .cons ru (.cons ru2 .nil), ⟨_, hT2, rfl, _, rfl⟩⟩
    have I1 : Inv X pins σ (upd H s.heap.objs.size (.tup [x, y])) { s with heap := h'', toks := tk } := I.turnedNew (t' := tk) (ch := [z, TI, TO, i1, i2]) (fun d o hb q =>
      (sb.2 d (fun q' => hb (by simp [q']))).trans (hk d o (fun q' => hb (by simp [q'])) (fun q' => hb (by simp [q'])) (fun q' => hb (by simp [q'])) (fun q' => hb (by simp [q'])) q)) hf (Nat.le_refl _) nw
    have i1z : i1 ≠ z := fun q => S.zi1 q.symm
    have i2z : i2 ≠ z := fun q => S.zi2 q.symm
    refine ⟨.ref s.heap.objs.size, _, I1, rfl, ⟨_, x, y, rfl, I.hok.fresh (Nat.le_refl _), rfl, fun l hl => by rw [inv_sqB_inj I hl hqx]; exact hx, fun l hl => by rw [inv_sqB_inj I hl hqy]; exact hy⟩, ⟨z'', ?_, ⟨v1, v2, ?_⟩, st1.1.keep fun o q => (sb.2 _ i1z).trans q, st2.1.keep fun o q => (sb.2 _ i2z).trans q⟩, fun d hdm => ?_⟩
    · exact (sb.2 _ S.TIz).trans (hk _ _ S.TIz S.TITO S.TIi1 S.TIi2 hTI)
    · exact (sb.2 _ S.TOz).trans TO'
    · rw [upd_ne (Nat.ne_of_lt (show d < s.heap.objs.size from by
        rcases (show d = z ∨ d = TI ∨ d = TO ∨ d = i1 ∨ d = i2 by simpa using hdm) with q | q | q | q | q
        · rw [q]; exact lz
        · rw [q]; exact Heap.lt_size hTI
        · rw [q]; exact Heap.lt_size hTO
        · rw [q]; obtain ⟨_, e, _⟩ := h1; exact Heap.lt_size e
        · rw [q]; obtain ⟨_, e, _⟩ := h2; exact Heap.lt_size e))]
      exact (hf d hdm).1
  done := by
    intro X hP hw hK hc i pins s σ H E I hf st hg
    subst hP hw hK
    obtain ⟨hz, hTI, ⟨x0, y0, hTO⟩, h1, h2⟩ := st
    obtain ⟨xs, ys, hqx, hqy, g1, g2, g3⟩ := hg
    obtain ⟨us, rv, p⟩ := inv_sqB I hqx
    obtain ⟨us2, rv2, p2⟩ := inv_sqB I hqy
    have l1 := rv.length
    have l2 := rv2.length
    have hh : X.A.in1.handled = none := I.ok.hd hc
    exact wpAny_pyNext_zipD2_end S (drawsB (P := X.prog) (wd := X.w) (A := X.A.in1) b hh i1 a (it_ne p h1) us.toArray) (drawsB (P := X.prog) (wd := X.w) (A := X.A.in1) c hh i2 a2 (it_ne p2 h2) us2.toArray) hz hTI hTO ⟨h1, p⟩ ⟨h2, p2⟩ (by simp; omega) (by simp; omega) (by simp; omega)
      fun h' tk hk => ⟨rfl, I.turnedL (t' := tk) (ch := [z, TI, TO, i1, i2]) (fun d o hb q => hk d o (fun q' => hb (by simp [q'])) (fun q' => hb (by simp [q'])) (fun q' => hb (by simp [q'])) (fun q' => hb (by simp [q'])) q) hf⟩
  self := fun A i s Q E st h => wpAny_pyIter_zip st.1 h
def tZipB (K : PySem.W.Frag) (ta : TA) : TI := fun σ H R => ta σ H fun vs H1 => ∃ b c a a2 xs ys, vs = [.ref a, .ref a2] ∧ SqB b K H1 a xs ∧ SqB c K H1 a2 ys ∧ R (ItzB b c K a a2) H1
theorem isB_lt {b : Bool} {h : Heap} {a : Addr} {z : Array Value} (x : IsB b h a z) : a < h.objs.size := by obtain ⟨o, e, _⟩ := x.has; exact Heap.lt_size e
theorem nm2 {x y z : Nat} (h1 : x ≠ y) (h2 : x ≠ z) : x ∉ [y, z] := by simp [h1, h2]
theorem sep_new (n a a2 : Nat) (h : a < n) (h2 : a2 < n) : ZipSep2 (n + 4) (n + 2) (n + 3) n (n + 1) [n, a] [n + 1, a2] where
  TIz := show (n + 2 : Nat) ≠ n + 4 by omega
  TOz := show (n + 3 : Nat) ≠ n + 4 by omega
  TITO := show (n + 2 : Nat) ≠ n + 3 by omega
  TIi1 := show (n + 2 : Nat) ≠ n by omega
  mem1 := by simp
  zf1 := nm2 (show (n + 4 : Nat) ≠ n by omega) (show (n + 4 : Nat) ≠ a by omega)
  Tf1 := nm2 (show (n + 3 : Nat) ≠ n by omega) (show (n + 3 : Nat) ≠ a by omega)
  TIi2 := show (n + 2 : Nat) ≠ n + 1 by omega
  mem2 := by simp
  zf2 := nm2 (show (n + 4 : Nat) ≠ n + 1 by omega) (show (n + 4 : Nat) ≠ a2 by omega)
  Tf2 := nm2 (show (n + 3 : Nat) ≠ n + 1 by omega) (show (n + 3 : Nat) ≠ a2 by omega)
  sep1_2 := nm2 (show (n : Nat) ≠ n + 1 by omega) (show (n : Nat) ≠ a2 by omega)
  sep2_1 := nm2 (show (n + 1 : Nat) ≠ n by omega) (show (n + 1 : Nat) ≠ a by omega)
theorem pi_zipB {e e2 : Expr} {ta : TA} {p pos tpos : Pos} {elts : List Expr} {kk : Nat} (hg : Gl X "zip") (hm : X.mg "zip" = none) (ha : PA X [e, e2] ta)
    (hs : starEach [e, e2] X.env = (false, eval e X.env) :: starEach [e2] X.env := by rfl) (hpl : (backTo pos (starEach [e2] X.env)).any (·.1) = false := by rfl) : PI X (.Tuple elts kk tpos) (.Call (.Name "zip" p) [e, e2] [] pos) (tZipB X.K ta) := by
  refine ⟨fun pins s σ H R I h => ?_⟩
  refine Call_ (ld_blt I hg hm PyProof.Rows.boot_zip (PyProof.Rows.callWith_type1 (thn (ha.run pos pins s σ H _ I h) fun us s1 ⟨vs, H1, I1, r1, q1⟩ => ?_) hs hpl))
  obtain ⟨b, c, a, a2, xs, ys, ex, hq1, hq2, q⟩ := q1
  subst ex
  obtain ⟨u1, u2, eu, r, r'⟩ := vals2 r1
  subst eu
  cases r
  cases r'
  obtain ⟨us, rv, p1⟩ := inv_sqB I1 hq1
  obtain ⟨us2, rv2, p2⟩ := inv_sqB I1 hq2
  refine zip_begins2 (begB b a us.toArray) (begB c a2 us2.toArray) p1 p2 fun h' hz hTI hTO h1 h2 hsz hk => wpAny_pyIter_zip hz ?_
  have I2 : Inv X pins σ H1 { s1 with heap := h' } := I1.kept (t' := s1.toks) hk
  refine ⟨s1.heap.objs.size + 4, [s1.heap.objs.size + 4, s1.heap.objs.size + 2, s1.heap.objs.size + 3, s1.heap.objs.size, s1.heap.objs.size + 1], _, _, H1, rfl, I2, turn_zipB (sep_new _ a a2 (isB_lt p1) (isB_lt p2)), ⟨hz, hTI, ⟨_, _, hTO⟩, ⟨_, h1, rfl, rfl⟩, ⟨_, h2, rfl, rfl⟩⟩, fun d hd => ?_, q⟩
  have hle : s1.heap.objs.size ≤ d := by
    rcases (show d = s1.heap.objs.size + 4 ∨ d = s1.heap.objs.size + 2 ∨ d = s1.heap.objs.size + 3 ∨ d = s1.heap.objs.size ∨ d = s1.heap.objs.size + 1 by simpa using hd) with z | z | z | z | z
    · rw [z]; exact Nat.le_add_right _ _
    · rw [z]; exact Nat.le_add_right _ _
    · rw [z]; exact Nat.le_add_right _ _
    · rw [z]; exact Nat.le_refl _
    · rw [z]; exact Nat.le_add_right _ _
  exact I1.fpOk hle (I1.hok.fresh hle)
/-! ### as sources -/
def sqO (m : M) (d : D) : Option (List D) := match asL m d with
  | some ds => some ds
  | none => asT d
/-- where it stands: a held list, or what does not change -/
inductive Src where
  | held (n : Nat) | fix (ds : List D)
def Src.at_ (m : M) : Src → Option (List D)
  | .held n => lstO m[n]?
  | .fix ds => some ds
def srcO (m : M) : D → Option Src
  | .ref n => match lstO m[n]? with
    | some _ => some (.held n)
    | none => none
  | .lcon ds => some (.fix ds)
  | .tup ds => some (.fix ds)
  | .con ds => some (.fix ds)
  | .ftp ds => some (.fix ds)
  | _ => none
/-- what a source's place is -/
def SrcAt (b : Bool) (K : PySem.W.Frag) (ρ : List Addr) (H : Hp) (p : Addr) (s : Src) : Prop := ∀ ρ1 H1 m1, Wk ρ H ρ1 H1 → HRel K ρ1 H1 m1 → ∀ ds, s.at_ m1 = some ds → ∃ vs, SqB b K H1 p vs ∧ rds K ρ1 H1 ds vs
theorem src_at {ρ : List Addr} {H : Hp} {m : M} {d : D} {v : V} {s : Src} (hm : HRel K ρ H m) (r : rd K ρ H d v) (h : srcO m d = some s) : ∃ b p ds, v = .ref p ∧ s.at_ m = some ds ∧ SrcAt b K ρ H p s := by
  cases d with
  | ref n =>
    obtain ⟨p, rfl, hp⟩ := rd_ref r
    unfold srcO at h
    simp only at h
    cases el : lstO m[n]? with
    | none => rw [el] at h; cases h
    | some ds =>
      rw [el] at h
      cases h
      exact ⟨false, p, ds, rfl, el, fun ρ1 H1 m1 e1 hm1 ds1 e => lst_at hm1 (e1.get hp) e⟩
  | lcon ds =>
    cases h
    obtain ⟨p, vs, rfl, a, b⟩ := rd_lcon r
    exact ⟨false, p, ds, rfl, rfl, fun ρ1 H1 m1 e1 hm1 ds1 e => by cases e; exact ⟨vs, (a.monoT e1.tps).sq, b.monoT e1.tps⟩⟩
  | tup ds =>
    cases h
    obtain ⟨p, vs, rfl, a, b⟩ := rd_tup r
    exact ⟨true, p, ds, rfl, rfl, fun ρ1 H1 m1 e1 hm1 ds1 e => by cases e; exact ⟨vs, ((TupAt.monoT e1.tps (.inl ⟨a.1, .inl a.2⟩)) : TupAt K ρ1 H1 p vs).sq, b.monoT e1.tps⟩⟩
  | con ds =>
    cases h
    obtain ⟨p, vs, rfl, a, b⟩ := rd_con r
    exact ⟨true, p, ds, rfl, rfl, fun ρ1 H1 m1 e1 hm1 ds1 e => by cases e; exact ⟨vs, (a.monoT e1.tps).sq, b.monoT e1.tps⟩⟩
  | ftp ds =>
    cases h
    obtain ⟨p, vs, rfl, a, b⟩ := rd_ftp r
    exact ⟨true, p, ds, rfl, rfl, fun ρ1 H1 m1 e1 hm1 ds1 e => by cases e; exact ⟨vs, (FtAt.tup (K := K) (a.monoT e1.tps)).sq, b.monoT e1.tps⟩⟩
  | _ => cases h
def nxE (s : Src) : Nxt := fun i m => match s.at_ m with
  | none => none
  | some ds => match ds[i]? with
    | none => some none
    | some d => some (some (.tup [.int i, d]))
theorem jok_enum {b : Bool} {ρ : List Addr} {H : Hp} {p : Addr} {s : Src} (h : SrcAt b K ρ H p s) : JOk K ρ H (IteB b K p) (nxE s) := by
  intro ρ1 H1 m1 i e1 hm1
  unfold nxE
  cases es : s.at_ m1 with
  | none => trivial
  | some ds =>
    obtain ⟨vs, g1, g2⟩ := h ρ1 H1 m1 e1 hm1 ds es
    simp only
    cases ei : ds[i]? with
    | none =>
      refine ⟨vs, g1, ?_⟩
      rw [← g2.length]
      exact List.getElem?_eq_none_iff.mp ei
    | some d =>
      obtain ⟨v, ev, r⟩ := g2.get ei
      refine ⟨⟨vs, v, g1, ev⟩, fun x H' hy => ?_⟩
      obtain ⟨T, y, rfl, hT, rfl, hx⟩ := hy
      have q := hx vs g1
      rw [ev] at q
      cases q
      exact lay_tup hm1 hT (rds.cons rd_intI (rds.cons r rds.nil))
def iEnumD (f : ME) : MI := fun env m => bnd (f env m) fun d m1 => match srcO m1 d with
  | none => none
  | some s => match s.at_ m1 with
    | none => none
    | some ds => some (.ok (ds.length + 1, nxE s) m1)
theorem si_enum {e : Expr} {f : ME} {p pos tpos : Pos} {elts : List Expr} {kk : Nat} (hg : Gl X "enumerate") (hm : X.mg "enumerate" = none) (ha : PA X [e] (tCons (tE X.K w f) tNil)) (hs : starEach [e] X.env = [(false, eval e X.env)] := by rfl) :
    PI X (.Tuple elts kk tpos) (.Call (.Name "enumerate" p) [e] [] pos) (tI X.K w (iEnumD f)) := (pi_enumB hg hm ha hs).weak fun σ H R q => by
  obtain ⟨ρ, env, m, hm, he, q⟩ := q
  refine ⟨ρ, env, m, hm, he, q.bnd.imp fun d m1 ρ1 H1 e1 hm1 q1 v r => ?_⟩
  split at q1
  · exact q1.elim
  · rename_i s es
    split at q1
    · exact q1.elim
    · rename_i ds ed
      obtain ⟨b, a, ds', rfl, ed', hs⟩ := src_at hm1 r es
      obtain ⟨vs, g1, _⟩ := hs ρ1 H1 m1 (Ext.refl _ _).wk hm1 ds' ed'
      exact ⟨b, a, vs, rfl, g1, q1.ok hm1 _ (jok_enum hs)⟩
def nxZ (s t : Src) : Nxt := fun i m => match s.at_ m, t.at_ m with
  | some ds, some es => (match ds[i]?, es[i]? with
    | some d, some e => some (some (.tup [d, e]))
    | _, _ => if i = min ds.length es.length then some none else none)
  | _, _ => none
theorem jok_zip {b c : Bool} {ρ : List Addr} {H : Hp} {p p2 : Addr} {s t : Src} (h : SrcAt b K ρ H p s) (h2 : SrcAt c K ρ H p2 t) : JOk K ρ H (ItzB b c K p p2) (nxZ s t) := by
  intro ρ1 H1 m1 i e1 hm1
  unfold nxZ
  cases es : s.at_ m1 with
  | none => trivial
  | some ds =>
    cases et : t.at_ m1 with
    | none => trivial
    | some es' =>
      obtain ⟨vs, g1, g2⟩ := h ρ1 H1 m1 e1 hm1 ds es
      obtain ⟨us, k1, k2⟩ := h2 ρ1 H1 m1 e1 hm1 es' et
      have gl := g2.length
      have kl := k2.length
      simp only
      by_cases hb : i < ds.length ∧ i < es'.length
      · obtain ⟨d, ei⟩ : ∃ d, ds[i]? = some d := ⟨_, List.getElem?_eq_getElem hb.1⟩
        obtain ⟨e, ej⟩ : ∃ d, es'[i]? = some d := ⟨_, List.getElem?_eq_getElem hb.2⟩
        rw [ei, ej]
        obtain ⟨v, ev, r⟩ := g2.get ei
        obtain ⟨u, eu, r2⟩ := k2.get ej
        refine ⟨⟨vs, us, v, u, g1, k1, ev, eu⟩, fun x H' hy => ?_⟩
        obtain ⟨T, y, z, rfl, hT, rfl, hx, hz⟩ := hy
        have q := hx vs g1
        have q2 := hz us k1
        rw [ev] at q
        rw [eu] at q2
        cases q
        cases q2
        exact lay_tup hm1 hT (rds.cons r (rds.cons r2 rds.nil))
      · split
        · trivial
        · rename_i en
          split at en
          · cases en
          · split at en
            · rename_i hmin
              refine ⟨vs, us, g1, k1, ?_, ?_, ?_⟩ <;> omega
            · cases en
        · rename_i d en
          split at en
          · rename_i d1 d2 e1' e2'
            exact absurd ⟨(List.getElem?_eq_some_iff.mp e1').1, (List.getElem?_eq_some_iff.mp e2').1⟩ hb
          · split at en <;> cases en
def iZipD (f g : ME) : MI := fun env m => bnd (f env m) fun d m1 => bnd (g env m1) fun e m2 => match srcO m2 d, srcO m2 e with
  | some s, some t => (match s.at_ m2, t.at_ m2 with
    | some ds, some es => some (.ok (min ds.length es.length + 1, nxZ s t) m2)
    | _, _ => none)
  | _, _ => none
theorem si_zip {e e2 : Expr} {f g : ME} {p pos tpos : Pos} {elts : List Expr} {kk : Nat} (hg : Gl X "zip") (hm : X.mg "zip" = none) (ha : PA X [e, e2] (tCons (tE X.K w f) (tCons (tE X.K w g) tNil)))
    (hs : starEach [e, e2] X.env = (false, eval e X.env) :: starEach [e2] X.env := by rfl) (hpl : (backTo pos (starEach [e2] X.env)).any (·.1) = false := by rfl) :
    PI X (.Tuple elts kk tpos) (.Call (.Name "zip" p) [e, e2] [] pos) (tI X.K w (iZipD f g)) := (pi_zipB hg hm ha hs hpl).weak fun σ H R q => by
  obtain ⟨ρ, env, m, hm, he, q⟩ := q
  refine ⟨ρ, env, m, hm, he, q.bnd.imp fun d m1 ρ1 H1 e1 hm1 q1 v r => ⟨ρ1, env, m1, hm1, he.mono e1, q1.bnd.imp fun d2 m2 ρ2 H2 e2 hm2 q2 v2 r2 => ?_⟩⟩
  split at q2
  · rename_i s t es et
    split at q2
    · rename_i ds es' ed ee
      obtain ⟨b, a, ds1, rfl, ed1, hs1⟩ := src_at hm2 (r.mono e2) es
      obtain ⟨c, a2, ds2, rfl, ed2, hs2⟩ := src_at hm2 r2 et
      obtain ⟨vs, g1, _⟩ := hs1 ρ2 H2 m2 (Ext.refl _ _).wk hm2 ds1 ed1
      obtain ⟨us, k1, _⟩ := hs2 ρ2 H2 m2 (Ext.refl _ _).wk hm2 ds2 ed2
      exact ⟨b, c, a, a2, vs, us, rfl, g1, k1, q2.ok hm2 _ (jok_zip hs1 hs2)⟩
    · exact q2.elim
  · exact q2.elim
end
end EV

set_option Elab.async false
set_option linter.all false
set_option maxRecDepth 100000
set_option maxHeartbeats 2000000
namespace EV
open PySem PySem.Spec PyProof.Rows L2 PySem.W
/-! ### insertion, in order -/
section
variable {α β : Type}
def insB (le : α → α → Bool) (x : α) : List α → List α
  | [] => [x]
  | y :: r => match le x y with
    | true => x :: y :: r
    | false => y :: insB le x r
def isort (le : α → α → Bool) : List α → List α
  | [] => []
  | x :: r => insB le x (isort le r)
theorem insB_mem {le : α → α → Bool} {x z : α} : ∀ {l : List α}, z ∈ insB le x l → z = x ∨ z ∈ l
  | [], h => by unfold insB at h; simpa using h
  | y :: r, h => by
    unfold insB at h
    split at h
    · rcases List.mem_cons.mp h with h | h
      · exact .inl h
      · exact .inr h
    · rcases List.mem_cons.mp h with h | h
      · exact .inr (h ▸ List.mem_cons_self ..)
      · rcases insB_mem h with h | h
        · exact .inl h
        · exact .inr (List.mem_cons_of_mem _ h)
theorem insB_pair {le : α → α → Bool} (t : TotalLe le) {x : α} : ∀ {l : List α}, l.Pairwise (fun a b => le a b = true) → (insB le x l).Pairwise (fun a b => le a b = true)
  | [], _ => by unfold insB; simp
  | y :: r, h => by
    obtain ⟨h1, h2⟩ := List.pairwise_cons.mp h
    unfold insB
    split
    · rename_i e
      refine List.pairwise_cons.mpr ⟨fun z hz => ?_, h⟩
      rcases List.mem_cons.mp hz with q | q
      · rw [q]; exact e
      · exact t.trans _ _ _ e (h1 z q)
    · rename_i e
      refine List.pairwise_cons.mpr ⟨fun z hz => ?_, insB_pair t h2⟩
      rcases insB_mem hz with q | q
      · rcases t.total x y with g | g
        · rw [g] at e; cases e
        · rw [q]; exact g
      · exact h1 z q
theorem insB_filter {le : α → α → Bool} (t : TotalLe le) {x c : α} : ∀ {l : List α}, (insB le x l).filter (sameRank le c) = (x :: l).filter (sameRank le c)
  | [] => rfl
  | y :: r => by
    unfold insB
    split
    · rfl
    · rename_i e
      rw [List.filter_cons, insB_filter t]
      rw [List.filter_cons, List.filter_cons, List.filter_cons]
      cases hy : sameRank le c y with
      | false => simp
      | true =>
        cases hx : sameRank le c x with
        | false => simp
        | true =>
          unfold sameRank at hx hy
          rw [Bool.and_eq_true] at hx hy
          rw [t.trans x c y hx.2 hy.1] at e
          cases e
theorem isort_eq {le : α → α → Bool} (t : TotalLe le) (l : List α) : isort le l = l.mergeSort le := by
  have h1 : ∀ l : List α, (isort le l).Pairwise (fun a b => le a b = true) := fun l => by
    induction l with
    | nil => exact List.Pairwise.nil
    | cons x r ih => exact insB_pair t ih
  have h2 : ∀ (l : List α) (c : α), (isort le l).filter (sameRank le c) = l.filter (sameRank le c) := fun l c => by
    induction l with
    | nil => rfl
    | cons x r ih => 
      show (insB le x (isort le r)).filter _ = _
      rw [insB_filter t, List.filter_cons, List.filter_cons, ih]
  exact sort_unique t (h1 l) (h2 l)
theorem insB_map {le : α → α → Bool} {le2 : β → β → Bool} {f : α → β} (h : ∀ a b, le a b = le2 (f a) (f b)) {x : α} : ∀ {l : List α}, (insB le x l).map f = insB le2 (f x) (l.map f)
  | [] => rfl
  | y :: r => by
    rw [List.map_cons]
    unfold insB
    rw [← h]
    cases le x y with
    | true => rfl
    | false => simp [insB_map h]
theorem isort_map {le : α → α → Bool} {le2 : β → β → Bool} {f : α → β} (h : ∀ a b, le a b = le2 (f a) (f b)) : ∀ l : List α, (isort le l).map f = isort le2 (l.map f)
  | [] => rfl
  | x :: r => by
    show (insB le x (isort le r)).map f = insB le2 (f x) (isort le2 (r.map f))
    rw [insB_map h, isort_map h r]
theorem isort_mem {le : α → α → Bool} {z : α} : ∀ {l : List α}, z ∈ isort le l → z ∈ l
  | [], h => h
  | x :: r, h => by
    rcases insB_mem (show z ∈ insB le x (isort le r) from h) with q | q
    · rw [q]; exact List.mem_cons_self ..
    · exact List.mem_cons_of_mem _ (isort_mem q)
theorem isort_length {le : α → α → Bool} : ∀ l : List α, (isort le l).length = l.length
  | [] => rfl
  | x :: r => by
    have h : ∀ (l : List α), (insB le x l).length = l.length + 1 := fun l => by
      induction l with
      | nil => rfl
      | cons y r ih => 
        unfold insB
        split <;> simp [ih]
    show (insB le x (isort le r)).length = _
    rw [h, isort_length r]
    rfl
end
/-! ### the order of rows of ints -/
def lexI : List Int → List Int → Bool
  | [], [] => false
  | [], _ :: _ => true
  | _ :: _, [] => false
  | a :: r, b :: s => if decide (a < b) then true else if decide (b < a) then false else lexI r s
theorem lexI_eq : ∀ x y : List Int, lexI x y = decide (x < y)
  | [], [] => by simp [lexI]
  | [], _ :: _ => by simp [lexI]
  | _ :: _, [] => by simp [lexI]
  | a :: r, b :: s => by
    unfold lexI
    rw [lexI_eq r s]
    by_cases h1 : a < b
    · simp [h1, List.cons_lt_cons_iff]
    · by_cases h2 : b < a
      · have : ¬ a = b := by omega
        simp [h1, h2, this, List.cons_lt_cons_iff]
      · have : a = b := by omega
        subst this
        simp [List.cons_lt_cons_iff]
/-- a key: an int as a row of one (false), a tuple of ints (true) -/
def encI : Bool × List Int → PyData
  | (true, l) => .tuple (l.map .int)
  | (false, l) => .int (l.headD 0)
def leI (p q : Bool × List Int) : Bool := !lexI q.2 p.2
theorem enc_lt {k : Bool} {x y : List Int} (hx : k = false → ∃ i, x = [i]) (hy : k = false → ∃ i, y = [i]) : dataLt (encI (k, x)) (encI (k, y)) = lexI x y := by
  cases k with
  | true =>
    show dataLt (.tuple _) (.tuple _) = _
    rw [dataLt_tuple, lexI_eq]
    exact dataLt_ints x y
  | false =>
    obtain ⟨i, rfl⟩ := hx rfl
    obtain ⟨j, rfl⟩ := hy rfl
    show dataLt (.int i) (.int j) = _
    rw [dataLt_int]
    unfold lexI
    by_cases h1 : i < j
    · simp [h1]
    · by_cases h2 : j < i <;> simp [h1, h2, lexI]
end EV

set_option Elab.async false
set_option linter.all false
set_option maxRecDepth 100000
set_option maxHeartbeats 2000000
namespace EV
open PySem PySem.Spec PyProof.Rows L2 PySem.W
section
variable {X : Cx} {pins : List (Addr × Obj)} {σ : L2.St} {H : Hp} {s : Shared} {K : PySem.W.Frag} {w : Wi} {ρ : List Addr} {m : M}
theorem inv_sqB2 {b : Bool} {a : Addr} {xs : List V} (I : Inv X pins σ H s) (q : SqB b X.K H a xs) : ∃ us : List Value, Vals xs us ∧ IsB b s.heap a us.toArray ∧ us.length ≤ sizeLine := by
  cases b with
  | true => obtain ⟨its, rv, p, hz⟩ := I.tuple q; exact ⟨its, rv, p, by rw [← rv.length]; exact hz⟩
  | false => obtain ⟨its, rv, p, hz⟩ := I.list q; exact ⟨its, rv, p.isList, by rw [← rv.length]; exact hz⟩
theorem collectB {P : Program} {wd : World} {A : Around} {E : Value → Shared → Prop} {b : Bool} {a : Addr} {us : List Value} {Q : List Value → Shared → Prop} (h : IsB b s.heap a us.toArray) (hz : us.length ≤ sizeLine)
    (hQ : ∀ h', (∀ c o, s.heap.get? c = some o → h'.get? c = some o) → Q us { s with heap := h' }) : wpAny (model P wd) A (collect (.ref a)) Q E s := by
  cases b with
  | true =>
    obtain ⟨o, e, c, n, d⟩ := (show s.heap.IsTuple a us.toArray from h)
    exact wpAny_collect_seq a (.inr rfl) e c d (fun h' k => hQ h' k) (by simpa using hz)
  | false =>
    obtain ⟨o, e, c, n, d⟩ := (show s.heap.IsList a us.toArray from h)
    exact wpAny_collect_seq a (.inl rfl) e c d (fun h' k => hQ h' k) (by simpa using hz)
/-- sorted(v): the items read as alike data -/
def rSortedB (K : PySem.W.Frag) : List V → Hp → VK → Prop := fun xs H Q => ∃ (β : Type) (b : Bool) (a : Addr) (bs : List β) (val : β → V) (enc : β → PyData), xs = [.ref a] ∧ SqB b K H a (bs.map val) ∧ (∀ x ∈ bs, Dp K H (val x) (enc x)) ∧ AllAlike (bs.map enc) ∧ Sortable (bs.map enc) ∧ (∀ x ∈ bs, (enc x).depth ≤ 60) ∧
  ∀ l, H l = none → Q (.ref l) (upd H l (.lst ((bs.mergeSort (dataLe false enc)).map val)))
theorem vals_each {β : Type} {val : β → V} : ∀ {bs : List β} {us : List Value}, Vals (bs.map val) us → EachIs (fun v x => RelV (val x) v) us bs
  | [], us, r => by
    have r' : Vals [] us := r
    cases r'
    exact .nil
  | x :: bs, us, r => by
    have r' : Vals (val x :: bs.map val) us := r
    cases r' with
    | cons a t => exact .cons a (vals_each t)
theorem each_vals {β : Type} {val : β → V} : ∀ {bs : List β} {us : List Value}, EachIs (fun v x => RelV (val x) v) us bs → Vals (bs.map val) us
  | [], _, r => by cases r; exact .nil
  | x :: bs, _, r => by
    cases r with
    | cons a t => exact .cons a (each_vals t)
theorem call_sortedB (hu : X.A.units + 65 < cLine) : CallR X (.builtin "sorted") (rSortedB X.K) := by
  intro pins s σ H xs us0 Q I r h
  obtain ⟨β, b, a, bs, val, enc, rfl, hq, hdp, hal, hk, hdep, q⟩ := h
  obtain ⟨u, eu, ru⟩ := vals1 r
  subst eu
  cases ru
  obtain ⟨us, rv, p, hz⟩ := inv_sqB2 I hq
  have e := vals_each rv
  have er : EachIs (fun v x => ∃ as, Reads s.heap v (enc x) as) us bs := (each_mem e).mono fun v x ⟨rx, hx⟩ => Dp.reads I (enc x) (val x) v (hdp x hx) rx
  have hL : bs.length ≤ sizeLine := by rw [← e.length]; exact hz
  refine call_function_entry_kw kind_sorted plain_sorted entry_sorted (args_sorted1 _) ?_
  unfold Builtin.«sorted»
  refine wpAny_bind (m := checkCount "sorted" 1 1 _) (wpAny_pure ?_)
  refine wpAny_bind (collectB p hz fun h1 k1 => ?_)
  have I1 : Inv X pins σ H { s with heap := h1 } := I.kept (t' := s.toks) k1
  refine wpAny_bind (wpAny_newList ?_ hz)
  let l : Addr := h1.objs.size
  let h2 : Heap := h1.push (seqObj "list" us.toArray 0)
  have hl2 : h2.get? l = some (seqObj "list" us.toArray 0) := Heap.get?_push_size _ rfl
  have old2 : ∀ c o, s.heap.get? c = some o → h2.get? c = some o := fun c o ho => Heap.get?_push_of_some _ (k1 c o ho)
  have ne2 : ∀ c o, s.heap.get? c = some o → c ≠ l := fun c o ho => Nat.ne_of_lt (Heap.lt_size (k1 c o ho))
  have er2 : EachIs (fun v x => ∃ as, Reads (sortingHeap h2 l us) v (enc x) as) us bs := er.mono fun v x ⟨as, q⟩ => ⟨as, PyProof.Rows.Reads.keeps (fun c o ho => sortingHeap_old (ne2 c o ho) (old2 c o ho)) q⟩
  have hub : ∀ x, x ∈ bs → X.A.units + 2 + (enc x).depth < cLine := fun x hx => by have := hdep x hx; omega
  have S : SortsAt X.prog X.w X.A.in1.in1 { s with heap := sortingHeap h2 l us } (dataKind (sortingHeap h2 l us) (bs.map enc)) us := by
    refine SortsAt.data (s := { s with heap := sortingHeap h2 l us }) (each_map (R := fun v d => ∃ as, Reads (sortingHeap h2 l us) v d as) enc er2) hal hk ?_
    exact bound_map hub
  refine wpAny_bind (wpAny_holding (wpAny_call_entry_kw slot_list_sort ⟨_, hl2, rfl⟩ entry_list_sort ?body (args_list_sort _)))
  case body =>
    refine wpAny_mono (list_sort_vals (s := { s with heap := h2 }) (P := fun f s' => f = .done (.ret .none) ∧ s' = { s with heap := sortedHeap h2 l us (sortVals (dataKind (sortingHeap h2 l us) (bs.map enc)) false us us).toArray }) hl2 S hz ⟨rfl, rfl⟩) (fun f s' hf => ?_) fun _ _ e => e
    obtain ⟨rfl, rfl⟩ := hf
    refine ⟨_, rfl, wpAny_pure ⟨_, rfl, ?_⟩⟩
    obtain ⟨ep, he'⟩ := PyProof.Rows.sortedHeap_at (vs := us) (out := (sortVals (dataKind (sortingHeap h2 l us) (bs.map enc)) false us us).toArray) hl2
    have eo : EachIs (fun v x => RelV (val x) v) (sortVals (dataKind (sortingHeap h2 l us) (bs.map enc)) false us us) (bs.mergeSort (dataLe false enc)) := sortVals_data false e er2 hal
    have ro := each_vals eo
    have hfin : Inv X pins σ (upd H l (.lst ((bs.mergeSort (dataLe false enc)).map val))) { s with heap := sortedHeap h2 l us (sortVals (dataKind (sortingHeap h2 l us) (bs.map enc)) false us us).toArray } := by
      refine I1.laid (t' := s.toks) (fun c o ho => ?_) (Nat.le_refl _) (show ObjOk X.prog X.w _ _ _ (.lst _) from ⟨?_, _, ep, ro, he'⟩)
      · have hc : c < h2.objs.size := Heap.lt_size (show h2.get? c = some o from Heap.get?_push_of_some _ ho)
        rw [PyProof.Rows.sortedHeap_old (Nat.ne_of_lt (Heap.lt_size ho)) hc]
        exact Heap.get?_push_of_some _ ho
      · rw [List.length_map, (List.mergeSort_perm bs (dataLe false enc)).length_eq]
        exact hL
    exact ⟨.ref l, _, hfin, rfl, q l (I1.hok.fresh (Nat.le_refl _))⟩
end
end EV

set_option Elab.async false
set_option linter.all false
set_option maxRecDepth 100000
set_option maxHeartbeats 2000000
namespace EV
open PySem PySem.Spec PyProof.Rows L2 PySem.W
abbrev KI := Bool × List Int
def keyI (d : D) : Option KI := match d with
  | .int i => some (false, [i])
  | _ => match asT d with
    | some ds => match intsO ds with
      | some (i :: l) => some (true, i :: l)
      | _ => none
    | none => none
def keysI : List D → Option (List (KI × D))
  | [] => some []
  | d :: r => match keyI d, keysI r with
    | some k, some l => some ((k, d) :: l)
    | _, _ => none
def oneKind : List (KI × D) → Bool
  | [] => true
  | p :: r => r.all fun q => q.1.1 == p.1.1
def gSorted (d : D) (m : M) : Option (Rs D) := match sqO m d with
  | some ds => match keysI ds with
    | some ps => gif (oneKind ps) (newL ((isort (fun p q : KI × D => leI p.1 q.1) ps).map (·.2)) m)
    | none => none
  | none => none
theorem leI_total : TotalLe leI where
  trans a b c h1 h2 := by
    unfold leI at *
    rw [lexI_eq] at *
    simp only [Bool.not_eq_true', decide_eq_false_iff_not] at *
    rw [List.not_lt] at *
    exact List.le_trans h1 h2
  total a b := by
    unfold leI
    rw [lexI_eq, lexI_eq]
    simp only [Bool.not_eq_true', decide_eq_false_iff_not]
    rw [List.not_lt, List.not_lt]
    exact List.le_total _ _
section
variable {X : Cx} {K : PySem.W.Frag} {w : Wi} {ρ : List Addr} {H : Hp} {m : M}
theorem keyI_kind {d : D} {k : KI} (h : keyI d = some k) : (k.1 = false → ∃ i, k.2 = [i]) ∧ (k.1 = true → ∃ i l, k.2 = i :: l) := by
  unfold keyI at h
  split at h
  · cases h; exact ⟨fun _ => ⟨_, rfl⟩, fun z => nomatch z⟩
  · split at h
    · split at h
      · cases h; exact ⟨(fun z => nomatch z), fun _ => ⟨_, _, rfl⟩⟩
      · cases h
    · cases h
theorem dps_ints : ∀ l : List Int, DpAll K H (l.map V.int) (l.map PyData.int)
  | [] => .nil
  | i :: l => .cons (.int i) (dps_ints l)
theorem keyI_dp {d : D} {k : KI} {v : V} (h : keyI d = some k) (r : rd K ρ H d v) : Dp K H v (encI k) := by
  unfold keyI at h
  split at h
  · cases h
    rw [rd_int r]
    exact .int _
  · split at h
    · rename_i ds ed
      split at h
      · rename_i i l ei
        cases h
        obtain ⟨p, vs, rfl, a, b⟩ := rd_asT ed r
        have := intsO_ok ei b
        subst this
        exact .tup a (dps_ints (i :: l))
      · cases h
    · cases h
theorem keysI_get : ∀ {ds : List D} {ps : List (KI × D)}, keysI ds = some ps → ps.map (·.2) = ds ∧ ∀ p ∈ ps, keyI p.2 = some p.1
  | [], ps, h => by cases h; exact ⟨rfl, fun p hp => by simp at hp⟩
  | d :: r, ps, h => by
    unfold keysI at h
    split at h
    · rename_i k l e1 e2
      cases h
      obtain ⟨a, b⟩ := keysI_get e2
      refine ⟨by rw [List.map_cons, a], fun p hp => ?_⟩
      rcases List.mem_cons.mp hp with q | q
      · rw [q]; exact e1
      · exact b p q
    · cases h
theorem oneKind_eq {ps : List (KI × D)} (h : oneKind ps = true) : ∃ b, ∀ p ∈ ps, p.1.1 = b := by
  cases ps with
  | nil => exact ⟨true, fun p hp => by simp at hp⟩
  | cons p r =>
    refine ⟨p.1.1, fun q hq => ?_⟩
    rcases List.mem_cons.mp hq with e | e
    · rw [e]
    · have := List.all_eq_true.mp (show (r.all fun q => q.1.1 == p.1.1) = true from h) q e
      simpa using this
theorem zip_rd : ∀ {ps : List (KI × D)} {vs : List V}, rds K ρ H (ps.map (·.2)) vs → (ps.zip vs).map (·.2) = vs ∧ (ps.zip vs).map (·.1) = ps ∧ ∀ x ∈ ps.zip vs, rd K ρ H x.1.2 x.2 ∧ x.1 ∈ ps
  | [], vs, h => by
    have h' : rds K ρ H [] vs := h
    unfold rds at h'
    subst h'
    exact ⟨rfl, rfl, fun x hx => by simp at hx⟩
  | p :: ps, vs, h => by
    have h' : rds K ρ H (p.2 :: ps.map (·.2)) vs := h
    unfold rds at h'
    obtain ⟨v, r, rfl, h1, h2⟩ := h'
    obtain ⟨a, b, c⟩ := zip_rd h2
    refine ⟨by simp only [List.zip_cons_cons, List.map_cons, a], by simp only [List.zip_cons_cons, List.map_cons, b], fun x hx => ?_⟩
    rcases List.mem_cons.mp hx with q | q
    · subst q; exact ⟨h1, List.mem_cons_self ..⟩
    · exact ⟨(c x q).1, List.mem_cons_of_mem _ (c x q).2⟩
theorem rds_of {β : Type} {f : β → D} {g : β → V} : ∀ {l : List β}, (∀ x ∈ l, rd K ρ H (f x) (g x)) → rds K ρ H (l.map f) (l.map g)
  | [], _ => rds.nil
  | x :: l, h => rds.cons (h x (List.mem_cons_self ..)) (rds_of fun y hy => h y (List.mem_cons_of_mem _ hy))
theorem rd_sqO {d : D} {ds : List D} {v : V} (hm : HRel K ρ H m) (r : rd K ρ H d v) (h : sqO m d = some ds) : ∃ b p vs, v = .ref p ∧ SqB b K H p vs ∧ rds K ρ H ds vs := by
  unfold sqO at h
  split at h
  · rename_i e
    cases h
    obtain ⟨p, vs, a, b, c⟩ := rd_asL hm r e
    exact ⟨false, p, vs, a, b, c⟩
  · obtain ⟨p, vs, a, b, c⟩ := rd_asT h r
    exact ⟨true, p, vs, a, b, c⟩
theorem enc_alike {k k' : KI} (h : k.1 = k'.1) : alike (encI k) (encI k') = true := by
  obtain ⟨a, l⟩ := k
  obtain ⟨a', l'⟩ := k'
  simp only at h
  subst h
  cases a with
  | true =>
    show alike (.tuple _) (.tuple _) = true
    rw [alike]
    exact alike_ints _ _
  | false => simp [encI, alike]
theorem enc_depth (k : KI) : (encI k).depth ≤ 60 := by
  obtain ⟨a, l⟩ := k
  cases a with
  | true =>
    show PyData.depth (.tuple (l.map .int)) ≤ 60
    rw [PyData.depth, depth_ints]
    decide
  | false => simp [encI, PyData.depth]
theorem sorted_ok : CallD K w (rSortedB K) (one gSorted) := one_ok fun ρ H m x d Q hm r e => by
  unfold gSorted at e
  split at e
  · rename_i ds ed
    split at e
    · rename_i ps ep
      obtain ⟨hk, e⟩ := e.gif
      obtain ⟨b, p, vs, rfl, hq, hr⟩ := rd_sqO hm r ed
      obtain ⟨e1, e2⟩ := keysI_get ep
      obtain ⟨k, hkind⟩ := oneKind_eq hk
      rw [← e1] at hr
      obtain ⟨z1, z2, z3⟩ := zip_rd hr
      have hmem : ∀ x ∈ ps.zip vs, keyI x.1.2 = some x.1.1 ∧ x.1.1.1 = k := fun x hx => ⟨e2 _ (z3 x hx).2, hkind _ (z3 x hx).2⟩
      refine ⟨(KI × D) × V, b, p, ps.zip vs, (·.2), fun x => encI x.1.1, rfl, by rw [z1]; exact hq, fun x hx => keyI_dp (hmem x hx).1 (z3 x hx).1, ?_, ?_, fun x _ => enc_depth _, fun l hl => ?_⟩
      · intro d hd d' hd'
        obtain ⟨x, hx, rfl⟩ := List.mem_map.mp hd
        obtain ⟨y, hy, rfl⟩ := List.mem_map.mp hd'
        exact enc_alike ((hmem x hx).2.trans (hmem y hy).2.symm)
      · cases k with
        | true =>
          refine .inl fun d hd => ?_
          obtain ⟨x, hx, rfl⟩ := List.mem_map.mp hd
          obtain ⟨h1, h2⟩ := hmem x hx
          obtain ⟨i, t, et⟩ := (keyI_kind h1).2 h2
          refine ⟨.int i, t.map .int, ?_⟩
          show encI x.1.1 = _
          rw [show x.1.1 = (true, i :: t) from Prod.ext h2 et]
          rfl
        | false =>
          refine .inr fun d hd => ?_
          obtain ⟨x, hx, rfl⟩ := List.mem_map.mp hd
          obtain ⟨h1, h2⟩ := hmem x hx
          obtain ⟨i, et⟩ := (keyI_kind h1).1 h2
          show encI x.1.1 ≠ .none ∧ ∀ xs, encI x.1.1 ≠ .tuple xs
          rw [show x.1.1 = (false, [i]) from Prod.ext h2 et]
          exact ⟨(fun z => nomatch z), fun xs z => nomatch z⟩
      · have tot : TotalLe fun x y : (KI × D) × V => leI x.1.1 y.1.1 := ⟨fun a b c => leI_total.trans _ _ _, fun a b => leI_total.total _ _⟩
        have es : (ps.zip vs).mergeSort (dataLe false fun x => encI x.1.1) = isort (fun x y : (KI × D) × V => leI x.1.1 y.1.1) (ps.zip vs) := by
          rw [isort_eq tot]
          refine sort_congr fun x hx y hy => ?_
          obtain ⟨h1, h2⟩ := hmem x hx
          obtain ⟨h3, h4⟩ := hmem y hy
          rw [dataLe_eq]
          show (!dataLt (encI y.1.1) (encI x.1.1)) = !lexI y.1.1.2 x.1.1.2
          have ex : x.1.1 = (k, x.1.1.2) := Prod.ext h2 rfl
          have ey : y.1.1 = (k, y.1.1.2) := Prod.ext h4 rfl
          have := enc_lt (k := k) (x := y.1.1.2) (y := x.1.1.2) (fun z => (keyI_kind h3).1 (h4.trans z)) (fun z => (keyI_kind h1).1 (h2.trans z))
          rw [← ex, ← ey] at this
          rw [this]
        rw [es]
        have e5 : (isort (fun p q : KI × D => leI p.1 q.1) ps).map (·.2) = (isort (fun x y : (KI × D) × V => leI x.1.1 y.1.1) (ps.zip vs)).map (fun x => x.1.2) := by
          conv => lhs; rw [← z2]
          rw [← isort_map (le := fun x y : (KI × D) × V => leI x.1.1 y.1.1) (le2 := fun p q : KI × D => leI p.1 q.1) (f := fun x : (KI × D) × V => x.1) (fun a b => rfl), List.map_map]
          rfl
        rw [e5] at e
        have hrd : rds K ρ H ((isort (fun x y : (KI × D) × V => leI x.1.1 y.1.1) (ps.zip vs)).map (fun x => x.1.2)) ((isort (fun x y : (KI × D) × V => leI x.1.1 y.1.1) (ps.zip vs)).map (·.2)) := rds_of fun x hx => (z3 x (isort_mem hx)).1
        obtain ⟨ρ', m', c, q⟩ := W.newL e hm hl hrd
        exact q _ c
    · exact e.elim
  · exact e.elim
end
end EV

set_option Elab.async false
set_option linter.all false
set_option maxRecDepth 100000
set_option maxHeartbeats 2000000
namespace EV
open PySem PySem.Spec PyProof.Rows L2 PySem.W
section
variable {X : Cx} {K : PySem.W.Frag} {w : Wi} {ρ : List Addr} {H : Hp} {m : M}
/-! ### keys of a locked dict -/
def nxK (n : Nat) : Nxt := fun i m => match m[n]? with
  | some (.frd _ kvs) => (match kvs[i]? with
    | none => some none
    | some p => some (some p.1))
  | _ => none
def iKeysD (f : ME) : MI := fun env m => bnd (f env m) fun d m1 => match d with
  | .ref n => (match m1[n]? with
    | some (.frd _ kvs) => some (.ok (kvs.length + 1, nxK n) m1)
    | _ => none)
  | _ => none
theorem key_rd {k : D} {key : Key} (h : dKey k = some key) : rd K ρ H k (kV key) := by
  cases k with
  | int i => cases h; exact rd_intI
  | str x => cases h; exact rd_strI
  | _ => cases h
theorem keys_rd : ∀ {ks : List D} {key : List Key}, dKeys ks = some key → rds K ρ H ks (key.map kV)
  | [], key, h => by cases h; exact rds.nil
  | d :: ds, key, h => by
    unfold dKeys at h
    split at h
    · rename_i k l e1 e2
      cases h
      exact rds.cons (key_rd e1) (keys_rd e2)
    · cases h
theorem rkK_at : ∀ {kvs : List (D × D)} {r : List (Key × V)} {i : Nat} {p : D × D}, rkK K ρ H kvs r → kvs[i]? = some p → ∃ key v, r[i]? = some (key, v) ∧ dKey p.1 = some key
  | [], r, i, p, h, e => by simp at e
  | (k, d) :: kvs, r, 0, p, h, e => by
    unfold rkK at h
    obtain ⟨key, v, t, rfl, h1, h2, h3⟩ := h
    simp at e
    subst e
    exact ⟨key, v, by simp, h1⟩
  | (k, d) :: kvs, r, i + 1, p, h, e => by
    unfold rkK at h
    obtain ⟨key, v, t, rfl, h1, h2, h3⟩ := h
    simp at e
    obtain ⟨a, b, c, d⟩ := rkK_at h3 e
    exact ⟨a, b, by simpa using c, d⟩
theorem rkT_at : ∀ {kvs : List (D × D)} {r : List (List Key × V)} {i : Nat} {p : D × D}, rkT K ρ H kvs r → kvs[i]? = some p → ∃ key v ks, r[i]? = some (key, v) ∧ p.1 = .tup ks ∧ dKeys ks = some key
  | [], r, i, p, h, e => by simp at e
  | (k, d) :: kvs, r, 0, p, h, e => by
    unfold rkT at h
    obtain ⟨ks, key, v, t, rfl, h0, h1, h2, h3⟩ := h
    simp at e
    subst e
    exact ⟨key, v, ks, by simp, h0, h1⟩
  | (k, d) :: kvs, r, i + 1, p, h, e => by
    unfold rkT at h
    obtain ⟨ks, key, v, t, rfl, h0, h1, h2, h3⟩ := h
    simp at e
    obtain ⟨a, b, c, d, e1, e2⟩ := rkT_at h3 e
    exact ⟨a, b, c, by simpa using d, e1, e2⟩
theorem jok_keys {n : Nat} {p : Addr} {o : Obj} {r : List (Key × V)} (hp : ρ[n]? = some p) (h : H p = some (.frz o (.dK r))) : JOk K ρ H (Itk p o r) (nxK n) := by
  intro ρ1 H1 m1 i e1 hm1
  have hf := e1.fz p o _ h
  unfold nxK
  split
  · trivial
  · rename_i o' eo
    split at eo
    · rename_i t kvs em
      cases t with
      | true =>
        obtain ⟨r', o2, a, b⟩ := hm1.obj n p _ (e1.get hp) em
        rw [hf] at a
        cases a
      | false =>
        obtain ⟨r', o2, a, b⟩ := hm1.obj n p _ (e1.get hp) em
        rw [hf] at a
        cases a
        split at eo
        · rename_i en
          cases eo
          refine ⟨hf, ?_⟩
          rw [b.length]
          exact List.getElem?_eq_none_iff.mp en
        · cases eo
    · cases eo
  · rename_i d eo
    split at eo
    · rename_i t kvs em
      cases t with
      | true =>
        obtain ⟨r', o2, a, b⟩ := hm1.obj n p _ (e1.get hp) em
        rw [hf] at a
        cases a
      | false =>
        obtain ⟨r', o2, a, b⟩ := hm1.obj n p _ (e1.get hp) em
        rw [hf] at a
        cases a
        split at eo
        · cases eo
        · rename_i q en
          cases eo
          obtain ⟨key, v, e3, e4⟩ := rkK_at b en
          refine ⟨⟨hf, (List.getElem?_eq_some_iff.mp e3).1⟩, fun x H' hy => ?_⟩
          obtain ⟨rfl, k', v', e5, rfl⟩ := hy
          rw [e3] at e5
          cases e5
          exact ⟨Ext.refl _ _, hm1, key_rd e4⟩
    · cases eo
theorem jok_keysT {n : Nat} {p : Addr} {o : Obj} {r : List (List Key × V)} (hp : ρ[n]? = some p) (h : H p = some (.frz o (.dT r))) : JOk K ρ H (Itkt p o r) (nxK n) := by
  intro ρ1 H1 m1 i e1 hm1
  have hf := e1.fz p o _ h
  unfold nxK
  split
  · trivial
  · rename_i o' eo
    split at eo
    · rename_i t kvs em
      cases t with
      | false =>
        obtain ⟨r', o2, a, b⟩ := hm1.obj n p _ (e1.get hp) em
        rw [hf] at a
        cases a
      | true =>
        obtain ⟨r', o2, a, b⟩ := hm1.obj n p _ (e1.get hp) em
        rw [hf] at a
        cases a
        split at eo
        · rename_i en
          cases eo
          refine ⟨hf, ?_⟩
          rw [b.length]
          exact List.getElem?_eq_none_iff.mp en
        · cases eo
    · cases eo
  · rename_i d eo
    split at eo
    · rename_i t kvs em
      cases t with
      | false =>
        obtain ⟨r', o2, a, b⟩ := hm1.obj n p _ (e1.get hp) em
        rw [hf] at a
        cases a
      | true =>
        obtain ⟨r', o2, a, b⟩ := hm1.obj n p _ (e1.get hp) em
        rw [hf] at a
        cases a
        split at eo
        · cases eo
        · rename_i q en
          cases eo
          obtain ⟨key, v, ks, e3, e3', e4⟩ := rkT_at b en
          refine ⟨⟨hf, (List.getElem?_eq_some_iff.mp e3).1⟩, fun x H' hy => ?_⟩
          obtain ⟨rfl, k', v', z, e5, rfl, e6⟩ := hy
          rw [e3] at e5
          cases e5
          rw [e3']
          exact ⟨Ext.refl _ _, hm1, rd_tupI ⟨hm1.noTup e6, e6⟩ (keys_rd e4)⟩
    · cases eo
theorem si_keys {tg e : Expr} {f : ME} (he : PE X e (tE X.K w f)) : PI X tg e (tI X.K w (iKeysD f)) := (pi_keys he).weak fun σ H R q => by
  obtain ⟨ρ, env, m, hm, he, q⟩ := q
  refine ⟨ρ, env, m, hm, he, q.bnd.imp fun d m1 ρ1 H1 e1 hm1 q1 v r => ?_⟩
  split at q1
  · rename_i n
    obtain ⟨p, rfl, hp⟩ := rd_ref r
    split at q1
    · rename_i t kvs em
      cases t with
      | false =>
        obtain ⟨r', o, a, b⟩ := hm1.obj n p _ hp em
        exact ⟨p, o, rfl, .inl ⟨r', a, q1.ok hm1 _ (jok_keys hp a)⟩⟩
      | true =>
        obtain ⟨r', o, a, b⟩ := hm1.obj n p _ hp em
        exact ⟨p, o, rfl, .inr ⟨r', a, q1.ok hm1 _ (jok_keysT hp a)⟩⟩
    · exact q1.elim
  · exact q1.elim
/-! ### a statement with a dict locked -/
def sLock (i : Nat) (s : MS) : MS := fun env m => match env[i]? with
  | some (some (.ref n)) => (match m[n]? with
    | some (.dct t kvs) => (match s env (m.set n (.frd t kvs)) with
      | some (.ok fl m2) => some (.ok fl (m2.set n (.dct t kvs)))
      | _ => none)
    | _ => none)
  | _ => none
theorem lock_lift {i : Nat} {s : MS} {Dn : Ends} {σ : SLT} (q : tS K w (sLock i s) Dn σ H) : tLock (tS K w s) Dn σ H := by
  obtain ⟨ρ, env, m, hm, he, q⟩ := q
  unfold sLock at q
  split at q
  · rename_i n ei
    obtain ⟨v, _, rv⟩ := he.at_ _ _ ei
    obtain ⟨p, rfl, hp⟩ := rd_ref rv
    have hpm : p ∈ ρ := List.mem_of_getElem? hp
    split at q
    · rename_i t kvs em
      have key : ∃ u, H p = some u ∧ Mut (some u) ∧ (∀ ρ' H', Ext ρ H ρ' H' → H' p = some u → ro K ρ' H' p (.dct t kvs)) ∧ ∀ od H', Tps ρ H ρ H' → H' p = some (.frz od u) → ro K ρ H' p (.frd t kvs) := by
        cases t with
        | false =>
          obtain ⟨r, a, b⟩ := hm.obj n p _ hp em
          exact ⟨.dK r, a, True.intro, fun ρ' H' e g => ⟨r, g, b.mono e⟩, fun od H' e g => ⟨r, od, g, b.monoT e⟩⟩
        | true =>
          obtain ⟨r, a, b⟩ := hm.obj n p _ hp em
          exact ⟨.dT r, a, True.intro, fun ρ' H' e g => ⟨r, g, b.mono e⟩, fun od H' e g => ⟨r, od, g, b.monoT e⟩⟩
      obtain ⟨u, hu, mu, back, lock⟩ := key
      refine ⟨p, u, hu, mu, fun od => ?_⟩
      have t1 : Tps ρ H ρ (upd H p (.frz od u)) := Tps.put hpm
      refine ⟨ρ, env, m.set n (.frd t kvs), hm.put hp (lock od _ t1 upd_same), he.monoT t1, ?_⟩
      cases es : s env (m.set n (.frd t kvs)) with
      | none => rw [es] at q; exact q.elim
      | some rs =>
        rw [es] at q
        cases rs with
        | ex c m2 => exact q.elim
        | ok fl m2 =>
          simp only at q
          intro ρ' H' e' hm'
          have hf : H' p = some (.frz od u) := e'.fz p od u upd_same
          have hp' : ρ'[n]? = some p := e'.get hp
          have hpm' : p ∈ ρ' := List.mem_of_getElem? hp'
          have ext : Ext ρ H ρ' (upd H' p u) := by
            refine ⟨?_, fun z o hz hn => ?_, fun z hz => ?_, fun z ob o hz => ?_⟩
            · obtain ⟨t0, et, ht⟩ := e'.pre
              refine ⟨t0, et, fun z hz => ?_⟩
              have := ht z hz
              by_cases ez : z = p
              · subst ez; rw [upd_same] at this; cases this
              · rw [upd_ne ez] at this; exact this
            · have ez : z ≠ p := fun q => hn (q ▸ hpm)
              rw [upd_ne ez]
              exact e'.fr z o (by rw [upd_ne ez]; exact hz) hn
            · by_cases ez : z = p
              · subst ez; rw [upd_same]; simp
              · rw [upd_ne ez]
                exact e'.kp z (by rw [upd_ne ez]; exact hz)
            · have ez : z ≠ p := fun q => by
                rw [q, hu] at hz
                cases hz
                exact mu
              rw [upd_ne ez]
              exact e'.fz z ob o (by rw [upd_ne ez]; exact hz)
          have hm2 : HRel K ρ' (upd H' p u) (m2.set n (.dct t kvs)) := hm'.put hp' (back _ _ ext upd_same)
          have fin := q ρ' (upd H' p u) ext hm2
          have t2 : Tps ρ' H' ρ' (upd H' p u) := Tps.put hpm'
          cases fl with
          | nx env2 => exact fun σ2 he2 => ⟨hf, fin σ2 (he2.monoT t2)⟩
          | rt d => exact fun v rv => ⟨hf, fin v (rv.monoT t2)⟩
          | bk env2 => exact fun σ2 he2 => ⟨hf, fin σ2 (he2.monoT t2)⟩
          | ct env2 => exact fun σ2 he2 => ⟨hf, fin σ2 (he2.monoT t2)⟩
    · exact q.elim
  · exact q.elim
theorem ss_lock {st : Stmt} {i : Nat} {s : MS} (h : PS X st (tS X.K w s)) : PS X st (tS X.K w (sLock i s)) := (ps_lock h).weak fun _ _ _ q => lock_lift q
/-! ### list() of a dict with tuple keys, its len -/
def gList2 (d : D) (m : M) : Option (Rs D) := match d with
  | .ref n => (match m[n]? with
    | some (.dct true kvs) => newL (kvs.map (·.1)) m
    | _ => gList d m)
  | _ => gList d m
theorem keys_list : ∀ {kvs : List (D × D)} {r : List (List Key × V)} {bs : List Addr}, HRel K ρ H m → rkT K ρ H kvs r → IsKeys H r bs → rds K ρ H (kvs.map (·.1)) (bs.map V.ref)
  | [], r, bs, hm, h, k => by
    unfold rkT at h
    subst h
    cases k
    exact rds.nil
  | (k0, d) :: kvs, r, bs, hm, h, k => by
    unfold rkT at h
    obtain ⟨ks, key, v, t, rfl, rfl, h1, h2, h3⟩ := h
    cases k with
    | cons a b => exact rds.cons (rd_tupI ⟨hm.noTup a, a⟩ (keys_rd h1)) (keys_list hm h3 b)
theorem list2_ok : CallD K w (fun xs H Q => (∃ p ys, xs = [.ref p] ∧ (SqL K H p ys ∨ SqT K H p ys) ∧ ∀ l, H l = none → Q (.ref l) (upd H l (.lst ys))) ∨
    ∃ d kvs, xs = [V.ref d] ∧ Rd H d (.dT kvs) ∧ ∀ p bs, H p = none → IsKeys H kvs bs → Q (.ref p) (upd H p (.lst (bs.map V.ref)))) (one gList2) := one_ok fun ρ H m x d Q hm r e => by
  have old : W K w ρ H (gList d m) (fun d _ ρ' H' => ∀ v, rd K ρ' H' d v → Q v H') → ∃ p ys, [x] = [V.ref p] ∧ (SqL K H p ys ∨ SqT K H p ys) ∧ ∀ l, H l = none → Q (.ref l) (upd H l (.lst ys)) := fun e => by
    have := (list_ok (K := K) (w := w)) ρ H m [x] [d] Q hm (rds.cons r rds.nil) e
    exact this
  unfold gList2 at e
  split at e
  · rename_i n
    split at e
    · rename_i kvs em
      obtain ⟨p, rfl, hp⟩ := rd_ref r
      obtain ⟨r', a, b⟩ := hm.obj n p _ hp em
      refine .inr ⟨p, r', rfl, .inl a, fun l bs hl hk => ?_⟩
      obtain ⟨ρ', m', c, q⟩ := W.newL e hm hl (keys_list hm b hk)
      exact q _ c
    · exact .inl (old e)
  · exact .inl (old e)
def gLen2 (d : D) (m : M) : Option (Rs D) := match d with
  | .ref n => (match m[n]? with
    | some (.dct true kvs) => some (.ok (.int kvs.length) m)
    | _ => gLen1 d m)
  | _ => gLen1 d m
theorem len2_ok : CallD K w (fun xs H Q => rLenAll K xs H Q ∨ rLenT xs H Q) (one gLen2) := one_ok fun ρ H m x d Q hm r e => by
  have old : W K w ρ H (gLen1 d m) (fun d _ ρ' H' => ∀ v, rd K ρ' H' d v → Q v H') → rLenAll K [x] H Q := fun e => (len_ok (K := K) (w := w)) ρ H m [x] [d] Q hm (rds.cons r rds.nil) e
  unfold gLen2 at e
  split at e
  · rename_i n
    split at e
    · rename_i kvs em
      obtain ⟨p, rfl, hp⟩ := rd_ref r
      obtain ⟨r', a, b⟩ := hm.obj n p _ hp em
      refine .inr ⟨p, r', rfl, a, ?_⟩
      rw [b.length]
      exact e.ok hm _ rd_intI
    · exact .inl (old e)
  · exact .inl (old e)
/-! ### min, max of ints -/
def rMinB (K : PySem.W.Frag) (f : Int → Int → Int) : List V → Hp → VK → Prop := fun xs H Q => ∃ (b : Bool) (a : Addr) (n : Int) (ns : List Int), xs = [.ref a] ∧ SqB b K H a ((n :: ns).map V.int) ∧ Q (.int (ns.foldl f n)) H
theorem ints_reads {h : Heap} : ∀ {ns : List Int} {us : List Value}, Vals (ns.map V.int) us → ∃ as, ReadsAll h us (ns.map PyData.int) as
  | [], us, r => by
    have r' : Vals [] us := r
    cases r'
    exact ⟨[], .nil⟩
  | n :: ns, us, r => by
    have r' : Vals (V.int n :: ns.map V.int) us := r
    cases r' with
    | cons a t =>
      obtain ⟨tk, rfl⟩ := a
      obtain ⟨as, q⟩ := ints_reads (h := h) t
      exact ⟨_, .cons (.int n tk) q⟩
theorem ints_alike (ns : List Int) : AlikeAll (ns.map PyData.int) := by
  refine ⟨fun d hd d' hd' => ?_, fun d hd => ?_⟩
  · obtain ⟨a, _, rfl⟩ := List.mem_map.mp hd
    obtain ⟨b, _, rfl⟩ := List.mem_map.mp hd'
    simp [alike]
  · obtain ⟨a, _, rfl⟩ := List.mem_map.mp hd
    exact fun z => nomatch z
theorem call_minB (hc : X.calm = true) (hu : X.A.units + 65 < cLine) : CallR X (.builtin "min") (rMinB X.K min) := by
  intro pins s σ H xs us0 Q I r h
  obtain ⟨b, a, n, ns, rfl, hq, q⟩ := h
  obtain ⟨u, eu, ru⟩ := vals1 r
  subst eu
  cases ru
  obtain ⟨us, rv, p⟩ := inv_sqB I hq
  obtain ⟨as, hr⟩ := ints_reads (h := s.heap) rv
  have hd : X.A.units + 1 + PyData.depthAll ((n :: ns).map PyData.int) < cLine := by rw [depth_ints]; omega
  have fin : ∀ (i : Nat) v h' tk bs, us.toArray[i]? = some v → Reads h' v (minD (.int n) (ns.map .int)) bs → (∀ b o, s.heap.get? b = some o → h'.get? b = some o) → (∃ x H', Inv X pins σ H' { s with heap := h', toks := tk } ∧ RelV x v ∧ Q x H') := fun i v h' tk bs _ hv hk => by
    rw [minD_ints] at hv
    cases hv
    exact ⟨.int _, H, I.kept (t' := tk) hk, ⟨_, rfl⟩, q⟩
  cases b with
  | true => exact min_tuple_data (I.ok.hd hc) p (x := .int n) (xs := ns.map .int) hr (ints_alike (n :: ns)) hd fin
  | false => exact min_list_data (I.ok.hd hc) p (x := .int n) (xs := ns.map .int) hr (ints_alike (n :: ns)) hd fin
theorem call_maxB (hc : X.calm = true) (hu : X.A.units + 65 < cLine) : CallR X (.builtin "max") (rMinB X.K max) := by
  intro pins s σ H xs us0 Q I r h
  obtain ⟨b, a, n, ns, rfl, hq, q⟩ := h
  obtain ⟨u, eu, ru⟩ := vals1 r
  subst eu
  cases ru
  obtain ⟨us, rv, p⟩ := inv_sqB I hq
  obtain ⟨as, hr⟩ := ints_reads (h := s.heap) rv
  have hd : X.A.units + 1 + PyData.depthAll ((n :: ns).map PyData.int) < cLine := by rw [depth_ints]; omega
  have fin : ∀ (i : Nat) v h' tk bs, us.toArray[i]? = some v → Reads h' v (maxD (.int n) (ns.map .int)) bs → (∀ b o, s.heap.get? b = some o → h'.get? b = some o) → (∃ x H', Inv X pins σ H' { s with heap := h', toks := tk } ∧ RelV x v ∧ Q x H') := fun i v h' tk bs _ hv hk => by
    rw [maxD_ints] at hv
    cases hv
    exact ⟨.int _, H, I.kept (t' := tk) hk, ⟨_, rfl⟩, q⟩
  cases b with
  | true => exact max_tuple_data (I.ok.hd hc) p (x := .int n) (xs := ns.map .int) hr (ints_alike (n :: ns)) hd fin
  | false => exact max_list_data (I.ok.hd hc) p (x := .int n) (xs := ns.map .int) hr (ints_alike (n :: ns)) hd fin
def imn (i j : Int) : Int := if decide (i ≤ j) then i else j
def imx (i j : Int) : Int := if decide (i ≤ j) then j else i
def gMin1 (f : Int → Int → Int) (d : D) (m : M) : Option (Rs D) := match sqO m d with
  | some ds => (match intsO ds with
    | some (n :: ns) => some (.ok (.int (ns.foldl f n)) m)
    | _ => none)
  | none => none
theorem min1_ok {f g : Int → Int → Int} (hfg : ∀ i j, f i j = g i j) : CallD K w (rMinB K g) (one (gMin1 f)) := one_ok fun ρ H m x d Q hm r e => by
  have : f = g := funext fun i => funext fun j => hfg i j
  subst this
  unfold gMin1 at e
  split at e
  · rename_i ds ed
    split at e
    · rename_i n ns en
      obtain ⟨b, p, vs, rfl, hq, hr⟩ := rd_sqO hm r ed
      have := intsO_ok en hr
      subst this
      exact ⟨b, p, n, ns, rfl, hq, e.ok hm _ rd_intI⟩
    · exact e.elim
  · exact e.elim
theorem imn_eq (i j : Int) : imn i j = min i j := by
  unfold imn
  by_cases h : i ≤ j <;> simp [h] <;> omega
theorem imx_eq (i j : Int) : imx i j = max i j := by
  unfold imx
  by_cases h : i ≤ j <;> simp [h] <;> omega
end
end EV

set_option Elab.async false
set_option linter.all false
set_option maxRecDepth 100000
set_option maxHeartbeats 2000000
namespace EV
open PySem PySem.Spec PyProof.Rows L2
/-! ### comprehensions of two clauses -/
def lcLoop2 (nx : Nxt) (p : Pat) (test : MT) (fi1 : MI) (p1 : Pat) (vs1 : List Nat) (test1 : MT) (elt : ME) (env0 : Env) : Nat → Nat → M → List D → Option (Rs (List D))
  | 0, _, _, _ => none
  | k + 1, i, m, acc => match nx i m with
    | none => none
    | some none => some (.ok acc m)
    | some (some d) => match p.put d env0 with
      | none => none
      | some env1 => bnd (test env1 m) fun b m1 => match b with
        | true => bnd (fi1 env1 m1) fun kn m2 => gif (Nat.ble (acc.length + kn.1) lim) (bnd (lcLoop kn.2 p1 test1 elt (wipeE env1 vs1) kn.1 0 m2 acc) fun acc' m3 => lcLoop2 nx p test fi1 p1 vs1 test1 elt env0 k (i + 1) m3 acc')
        | false => lcLoop2 nx p test fi1 p1 vs1 test1 elt env0 k (i + 1) m1 acc
def mLc2 (fi : MI) (p : Pat) (vs : List Nat) (test : MT) (fi1 : MI) (p1 : Pat) (vs1 : List Nat) (test1 : MT) (elt : ME) : ME := fun env m => bnd (fi env m) fun kn m1 =>
  bnd (lcLoop2 kn.2 p test fi1 p1 vs1 test1 elt (wipeE env vs) kn.1 0 m1 []) fun acc m2 => newL acc.reverse m2
section
variable {X : Cx} {K : PySem.W.Frag} {w : Wi} {ρ : List Addr} {H : Hp} {m : M}
theorem wipe2 (τ : SLT) (us : List Nat) : wipe (wipe τ us) us = wipe τ us := by
  have h1 : ∀ (ws us : List Nat), (∀ i ∈ us, i ∈ ws) → wipe (wipe τ us) ws = wipe τ ws := by
    intro ws us
    induction us with
    | nil => intro _; rfl
    | cons u us ih =>
      intro hu
      show wipe ((wipe τ us).set u none) ws = wipe τ ws
      rw [wipe_set (hu u (by simp)), ih fun i hi => hu i (by simp [hi])]
  exact h1 us us fun _ h => h
/-- an item put behind -/
theorem put_back {ρ1 ρ6 : List Addr} {H1 H6 : Hp} {m6 : M} {D : Addr} {accV : List V} {acc : List EV.D} {y : EV.D} {v : V} (e26 : Ext ρ1 H1 ρ6 H6) (hD : H1 D = none) (hDH6 : H6 D = some (.lst accV)) (hDr6 : D ∉ ρ6) (hm6 : HRel K ρ6 H6 m6) (hacc6 : rds K ρ6 H6 acc.reverse accV) (rv : rd K ρ6 H6 y v) :
    Ext ρ1 H1 ρ6 (upd H6 D (.lst (accV ++ [v]))) ∧ HRel K ρ6 (upd H6 D (.lst (accV ++ [v]))) m6 ∧ rds K ρ6 (upd H6 D (.lst (accV ++ [v]))) (y :: acc).reverse (accV ++ [v]) ∧ Tps ρ6 H6 ρ6 (upd H6 D (.lst (accV ++ [v]))) := by
  have t : Tps ρ6 H6 ρ6 (upd H6 D (.lst (accV ++ [v]))) := Tps.upd hDH6
  refine ⟨⟨e26.pre, fun z o hz hn => ?_, fun z hz => ?_, fun z ob u hz => ?_⟩, hm6.keepT t fun z hz => upd_ne fun e => hDr6 (e ▸ hz), ?_, t⟩
  · rw [upd_ne (ne_of_none hz hD)]
    exact e26.fr z o hz hn
  · by_cases ez : z = D
    · subst ez; rw [upd_same]; simp
    · rw [upd_ne ez]; exact e26.kp z hz
  · rw [upd_ne (ne_of_none hz hD)]
    exact e26.fz z ob u hz
  · rw [List.reverse_cons]
    exact (hacc6.append (rds.cons rv rds.nil)).monoT t
theorem lc2_lift {fi fi1 : MI} {p p1 : Pat} {vs vs1 : List Nat} {test test1 : MT} {elt : ME} (hvs : ∀ i ∈ p.slots, i ∈ vs) (hvs1 : ∀ i ∈ p1.slots, i ∈ vs1) {Q : VK} {σ : SLT} (q : tE K w (mLc2 fi p vs test fi1 p1 vs1 test1 elt) σ H Q) :
    tLc2 (tI K w fi) (gP K p) (tT K w test) (tI K w fi1) (gP K p1) (tT K w test1) (tE K w elt) vs vs1 σ H Q := by
  obtain ⟨ρ, env, m, hm, he, q⟩ := q
  refine ⟨ρ, env, m, hm, he, q.bnd.imp fun kn m1 ρ1 H1 e1 hm1 q1 J hJ D hD => ?_⟩
  obtain ⟨k0, nx⟩ := kn
  let fin : List EV.D → M → Option (Rs EV.D) := fun acc m2 => newL acc.reverse m2
  let post : EV.D → M → List Addr → Hp → Prop := fun d _ ρ' H' => ∀ v, rd K ρ' H' d v → Q v H'
  let Wv : Nat → Nat → Hp → Prop := fun i k H => ∃ ρ m acc accV, Ext ρ1 H1 ρ H ∧ HRel K ρ H m ∧ H D = some (.lst accV) ∧ D ∉ ρ ∧ rds K ρ H acc.reverse accV ∧
    W K w ρ1 H1 (bnd (lcLoop2 nx p test fi1 p1 vs1 test1 elt (wipeE env vs) k i m acc) fin) post
  have hDn : D ∉ ρ1 := hm1.notin hD
  refine ⟨Wv, ⟨k0, ρ1, m1, [], [], Ext.new hD, hm1.new hD, upd_same, hDn, rds.nil, q1⟩, ?_⟩
  rintro i k H ⟨ρ2, m2, acc, accV, e2, hm2, hDH, hDr, hacc, q2⟩
  cases k with
  | zero => exact q2.elim
  | succ k =>
    unfold lcLoop2 at q2
    have hj := hJ ρ2 H m2 i e2.wk hm2
    simp only at hj
    cases en : nx i m2 with
    | none => rw [en] at q2; exact q2.elim
    | some o =>
      rw [en] at q2 hj
      cases o with
      | none =>
        refine .inl ⟨hj, ?_⟩
        have hpre : Ext ρ1 H1 (ρ2 ++ [D]) H := by
          obtain ⟨t, et, ht⟩ := e2.pre
          refine ⟨⟨t ++ [D], by rw [et, List.append_assoc], fun z hz => ?_⟩, e2.fr, e2.kp, e2.fz⟩
          rcases List.mem_append.mp hz with hz | hz
          · exact ht z hz
          · simp at hz; subst hz; exact hD
        have hm3 : HRel K (ρ2 ++ [D]) H (m2 ++ [.lst acc.reverse]) := hm2.adopt hDr hDH hacc
        exact (show W K w ρ1 H1 (newL acc.reverse m2) _ from q2) _ _ hpre hm3 _ (rd_refI (by rw [← hm2.len, List.getElem?_append_right (Nat.le_refl _)]; simp))
      | some d =>
        obtain ⟨hgo, hy⟩ := hj
        refine .inr ⟨hgo, Wv (i + 1) k, fun H' h => ⟨k, Nat.lt_succ_self k, h⟩, fun x H' hyl => ?_⟩
        obtain ⟨e3, hm3, rx⟩ := hy x H' hyl
        simp only at q2
        cases ep : p.put d (wipeE env vs) with
        | none => rw [ep] at q2; exact q2.elim
        | some env3 =>
          rw [ep] at q2
          have he2 : ER K ρ2 H (wipeE env vs) (wipe σ vs) := ((he.mono e1).mono e2).wipe vs
          have e23 : Ext ρ1 H1 ρ2 H' := e2.trans e3
          have hDH3 : H' D = some (.lst accV) := e3.fr D _ hDH hDr
          refine Pat.ok (vs := vs) p (he2.mono e3) rx ep hvs fun σ3 he3 hw3 => ⟨by rw [hw3, wipe2], ?_⟩
          have q3 := q2
          simp only [bnd_assoc] at q3
          refine ⟨ρ2, env3, m2, hm3, he3, (q3.bnd0.mono e23).imp fun b m4 ρ4 H4 e4 hm4 q4 => ?_⟩
          have e24 : Ext ρ1 H1 ρ4 H4 := e23.trans e4
          have hDH4 : H4 D = some (.lst accV) := e4.fr D _ hDH3 hDr
          have hDr4 : D ∉ ρ4 := e4.notin hDH3 hDr
          have he4 : ER K ρ4 H4 env3 σ3 := he3.mono e4
          have hacc4 : rds K ρ4 H4 acc.reverse accV := (hacc.mono e3).mono e4
          cases b with
          | false => exact iteF ⟨ρ4, m4, acc, accV, e24, hm4, hDH4, hDr4, hacc4, q4⟩
          | true =>
            refine iteT ?_
            have q5 := q4
            simp only [bnd_assoc] at q5
            refine ⟨ρ4, env3, m4, hm4, he4, (q5.bnd0.mono e24).imp fun kn1 m5 ρ5 H5 e5 hm5 q6 J1 hJ1 => ?_⟩
            obtain ⟨k1, nx1⟩ := kn1
            have e25 : Ext ρ1 H1 ρ5 H5 := e24.trans e5
            have hDH5 : H5 D = some (.lst accV) := e5.fr D _ hDH4 hDr4
            have hDr5 : D ∉ ρ5 := e5.notin hDH4 hDr4
            obtain ⟨hle, q7⟩ : Nat.ble (acc.length + k1) lim = true ∧ W K w ρ1 H1 (bnd (lcLoop nx1 p1 test1 elt (wipeE env3 vs1) k1 0 m5 acc) fun acc' m3 => bnd (lcLoop2 nx p test fi1 p1 vs1 test1 elt (wipeE env vs) k (i + 1) m3 acc') fin) post := by
              cases hb : Nat.ble (acc.length + k1) lim with
              | false => simp only [hb, gif] at q6; exact q6.elim
              | true => simp only [hb, gif, bnd_assoc] at q6; exact ⟨rfl, q6⟩
            let W1 : Nat → Nat → Hp → Prop := fun j k' H => ∃ ρ m acc accV, Ext ρ1 H1 ρ H ∧ Wk ρ5 H5 ρ H ∧ HRel K ρ H m ∧ H D = some (.lst accV) ∧ D ∉ ρ ∧ rds K ρ H acc.reverse accV ∧ acc.length + k' ≤ lim ∧
              W K w ρ1 H1 (bnd (lcLoop nx1 p1 test1 elt (wipeE env3 vs1) k' j m acc) fun acc' m3 => bnd (lcLoop2 nx p test fi1 p1 vs1 test1 elt (wipeE env vs) k (i + 1) m3 acc') fin) post
            refine ⟨W1, ⟨k1, ρ5, m5, acc, accV, e25, (Ext.refl _ _).wk, hm5, hDH5, hDr5, hacc4.mono e5, Nat.le_of_ble_eq_true hle, q7⟩, ?_⟩
            have he5 : ER K ρ5 H5 (wipeE env3 vs1) (wipe σ3 vs1) := (he4.mono e5).wipe vs1
            clear q7 q6 q5 q4 q3 q2 hle
            rintro j k' H6 ⟨ρ6, m6, acc6, accV6, e26, wk6, hm6, hDH6, hDr6, hacc6, hle6, q8⟩
            cases k' with
            | zero => exact q8.elim
            | succ k' =>
              unfold lcLoop at q8
              have hj1 := hJ1 ρ6 H6 m6 j wk6 hm6
              simp only at hj1
              cases en1 : nx1 j m6 with
              | none => rw [en1] at q8; exact q8.elim
              | some o1 =>
                rw [en1] at q8 hj1
                cases o1 with
                | none => exact .inl ⟨hj1, ρ6, m6, acc6, accV6, e26, hm6, hDH6, hDr6, hacc6, q8⟩
                | some d1 =>
                  obtain ⟨hgo1, hy1⟩ := hj1
                  refine .inr ⟨hgo1, W1 (j + 1) k', fun H' h => ⟨k', Nat.lt_succ_self k', h⟩, fun x1 H7 hyl1 => ?_⟩
                  obtain ⟨e7, hm7, rx1⟩ := hy1 x1 H7 hyl1
                  simp only at q8
                  cases ep1 : p1.put d1 (wipeE env3 vs1) with
                  | none => rw [ep1] at q8; exact q8.elim
                  | some env7 =>
                    rw [ep1] at q8
                    have he7 : ER K ρ6 H7 (wipeE env3 vs1) (wipe σ3 vs1) := (he5.monoT wk6.tps).mono e7
                    have e27 : Ext ρ1 H1 ρ6 H7 := e26.trans e7
                    have hDH7 : H7 D = some (.lst accV6) := e7.fr D _ hDH6 hDr6
                    refine Pat.ok (vs := vs1) p1 he7 rx1 ep1 hvs1 fun σ7 he8 hw8 => ⟨by rw [hw8, wipe2], ?_⟩
                    have q9 := q8
                    simp only [bnd_assoc] at q9
                    refine ⟨ρ6, env7, m6, hm7, he8, (q9.bnd0.mono e27).imp fun b8 m8 ρ8 H8 e8 hm8 q10 => ?_⟩
                    have e28 : Ext ρ1 H1 ρ8 H8 := e27.trans e8
                    have wk8 : Wk ρ5 H5 ρ8 H8 := wk6.trans (e7.trans e8).wk
                    have hDH8 : H8 D = some (.lst accV6) := e8.fr D _ hDH7 hDr6
                    have hDr8 : D ∉ ρ8 := e8.notin hDH7 hDr6
                    have hacc8 : rds K ρ8 H8 acc6.reverse accV6 := (hacc6.mono e7).mono e8
                    cases b8 with
                    | false => exact iteF ⟨ρ8, m8, acc6, accV6, e28, wk8, hm8, hDH8, hDr8, hacc8, by omega, q10⟩
                    | true =>
                      refine iteT ?_
                      have q11 := q10
                      simp only [bnd_assoc] at q11
                      refine ⟨ρ8, env7, m8, hm8, he8.mono e8, (q11.bnd0.mono e28).imp fun y m9 ρ9 H9 e9 hm9 q12 v rv => ?_⟩
                      have e29 : Ext ρ1 H1 ρ9 H9 := e28.trans e9
                      have hDH9 : H9 D = some (.lst accV6) := e9.fr D _ hDH8 hDr8
                      have hDr9 : D ∉ ρ9 := e9.notin hDH8 hDr8
                      have hacc9 : rds K ρ9 H9 acc6.reverse accV6 := hacc8.mono e9
                      have hl : accV6.length < sizeLine := by
                        rw [← hacc9.length, List.length_reverse]
                        have h2 : sizeLine = 16777216 := sizeLine_eq
                        unfold lim at hle6
                        omega
                      obtain ⟨f1, f2, f3, f4⟩ := put_back e29 hD hDH9 hDr9 hm9 hacc9 rv
                      have fz9 : ∀ (p : Addr) (ob : Obj) (u : HO), H9 p = some (.frz ob u) → upd H9 D (.lst (accV6 ++ [v])) p = some (.frz ob u) := fun p ob u h => by rw [upd_ne (ne_of h hDH9 (by intro z; cases z))]; exact h
                      exact ⟨accV6, hDH9, hl, ρ9, m9, y :: acc6, accV6 ++ [v], f1, (wk8.trans e9.wk).trans ⟨f4, fz9⟩, f2, upd_same, hDr9, f3, by simpa using (by omega : acc6.length + 1 + k' ≤ lim), q12⟩
end
end EV

set_option Elab.async false
set_option linter.all false
set_option maxRecDepth 100000
set_option maxHeartbeats 2000000
namespace EV
open PySem PySem.Spec PyProof.Rows L2
section
variable {X : Cx} {K : PySem.W.Frag} {w : Wi} {ρ : List Addr} {H : Hp} {m : M}
/-! ### what is never reached -/
def mNever : ME := fun _ _ => none
theorem se_never {e : Expr} : PE X e (tE X.K w mNever) := ⟨fun pins s σ H Q I q => by
  obtain ⟨ρ, env, m, hm, he, q⟩ := q
  exact q.elim⟩
/-! ### tuples without a dict, made -/
theorem pe_ftup {es : List Expr} {x1 : Nat} {pos : Pos} {t : TA} (h : PA X es t) : PE X (.Tuple es x1 pos) (fun σ H Q => t σ H fun xs H1 => xs.length ≤ sizeLine ∧ ∀ p o, H1 p = none → o.dict = none → Q (.ref p) (upd H1 p (.frz o (.tup xs)))) := by
  refine ⟨fun pins s σ H Q I hq => ?_⟩
  refine wpAny_Tuple_spliced (thn (h.run pos pins s σ H _ I hq) fun us s1 ⟨xs, H1, I1, r, z, q⟩ => ⟨by rw [← r.length]; exact z, ?_⟩)
  have hg : (s1.heap.push { cls := .type "tuple", data := .seq us.toArray }).get? s1.heap.objs.size = some { cls := .type "tuple", data := .seq us.toArray } := Heap.get?_push_size _ rfl
  have I2 := I1.laid (t' := s1.toks) (a := s1.heap.objs.size) (o := .frz { cls := .type "tuple", data := .seq us.toArray } (.tup xs)) (fun b u e => Heap.get?_push_of_some _ e) (Nat.le_refl _) (show ObjOk X.prog X.w _ _ _ (.frz _ (.tup xs)) from ⟨hg, z, us, r, ⟨_, hg, rfl, _, rfl⟩⟩)
  exact ⟨.ref s1.heap.objs.size, _, I2, rfl, q _ _ (I1.hok.fresh (Nat.le_refl _)) rfl⟩
theorem lay_ftup {p : Addr} {o : Obj} {ds : List D} {vs : List V} (hm : HRel K ρ H m) (hp : H p = none) (ho : o.dict = none) (r : rds K ρ H ds vs) :
    Ext ρ H ρ (upd H p (.frz o (.tup vs))) ∧ HRel K ρ (upd H p (.frz o (.tup vs))) m ∧ rd K ρ (upd H p (.frz o (.tup vs))) (.ftp ds) (.ref p) := by
  refine ⟨Ext.new hp, hm.new hp, ?_⟩
  unfold rd
  exact ⟨p, vs, rfl, ⟨hm.notin hp, o, upd_same, ho⟩, r.mono (Ext.new hp)⟩
def mFTup (f : MA) : ME := fun env m => bnd (f env m) fun ds m1 => gif (Nat.ble ds.length lim) (some (.ok (.ftp ds) m1))
theorem se_ftup {es : List Expr} {x1 : Nat} {pos : Pos} {f : MA} (h : PA X es (tA X.K w f)) : PE X (.Tuple es x1 pos) (tE X.K w (mFTup f)) := (pe_ftup h).weak fun σ H Q q => by
  obtain ⟨ρ, env, m, hm, he, q⟩ := q
  refine ⟨ρ, env, m, hm, he, q.bnd.imp fun ds m1 ρ1 H1 e1 hm1 q1 vs r1 => ?_⟩
  obtain ⟨hl, q2⟩ := q1.gif
  refine ⟨by rw [← r1.length]; exact lim_line hl, fun p o hp ho => ?_⟩
  obtain ⟨a, b, c⟩ := lay_ftup hm1 hp ho r1
  exact q2 _ _ a b _ c
/-- tuple(l), without a dict -/
theorem call_ftuple : CallR X (.type "tuple") (fun xs H Q => ∃ p ys, xs = [.ref p] ∧ SqL X.K H p ys ∧ ∀ l o, H l = none → o.dict = none → Q (.ref l) (upd H l (.frz o (.tup ys)))) := by
  intro pins s σ H xs us Q I r h
  obtain ⟨p, ys, rfl, hq, q⟩ := h
  obtain ⟨u, eu, rx⟩ := vals1 r
  subst eu
  cases rx
  obtain ⟨its, r', pl, hz⟩ := I.list hq
  have hlen := r'.length
  refine call_tuple_list pl.isList (fun h' kp => ?_) (by simp only [List.size_toArray]; omega)
  have I1 : Inv X pins σ H { s with heap := h' } := I.kept (t' := s.toks) kp
  have hg : (h'.push { cls := .type "tuple", data := .seq its.toArray }).get? h'.objs.size = some { cls := .type "tuple", data := .seq its.toArray } := Heap.get?_push_size _ rfl
  have I2 := I1.laid (t' := s.toks) (a := h'.objs.size) (o := .frz { cls := .type "tuple", data := .seq its.toArray } (.tup ys)) (fun b o e => Heap.get?_push_of_some _ e) (Nat.le_refl _) (show ObjOk X.prog X.w _ _ _ (.frz _ (.tup ys)) from ⟨hg, hz, its, r', ⟨_, hg, rfl, _, rfl⟩⟩)
  exact ⟨.ref h'.objs.size, _, I2, rfl, q _ _ (I1.hok.fresh (Nat.le_refl _)) rfl⟩
def gFTuple (d : D) (m : M) : Option (Rs D) := match asL m d with
  | some ds => some (.ok (.ftp ds) m)
  | none => none
theorem ftuple_ok : CallD K w (fun xs H Q => ∃ p ys, xs = [.ref p] ∧ SqL K H p ys ∧ ∀ l o, H l = none → o.dict = none → Q (.ref l) (upd H l (.frz o (.tup ys)))) (one gFTuple) := one_ok fun ρ H m x d Q hm r e => by
  unfold gFTuple at e
  cases el : asL m d with
  | some ds =>
    rw [el] at e
    obtain ⟨p, vs, rfl, h1, h2⟩ := rd_asL hm r el
    refine ⟨p, vs, rfl, h1, fun l o hl ho => ?_⟩
    obtain ⟨a, b, c⟩ := lay_ftup hm hl ho h2
    exact e _ _ a b _ c
  | none => rw [el] at e; exact e.elim
/-! ### t.index(i) -/
def tTIndex (to : TE) (ta : TA) : TE := fun σ H Q => to σ H fun x H1 => ∃ p o vs, x = .ref p ∧ H1 p = some (.frz o (.tup vs)) ∧ o.dict = none ∧ ta σ H1 fun ys H2 => ∃ (ns : List Int) (k : Int), H2 p = some (.frz o (.tup (ns.map V.int))) ∧ ys = [.int k] ∧ k ∈ ns ∧ Q (.int (ns.idxOf k : Nat)) H2
theorem pe_tindex {o e : Expr} {to : TE} {ta : TA} {apos cpos : Pos} (ho : PE X o to) (ha : PA X [e] ta) (hbase : attributeBase o "index" X.env (eval o X.env) = eval o X.env := by rfl)
    (hfew : ((backTo cpos (starEach [e] X.env)).all (fun x => !x.1) && (backToKw cpos (keywordEach [] X.env)).all (fun x => x.1.isSome) && decide (([e] : List Expr).length + ([] : List Keyword).length + (if ([] : List Keyword).isEmpty then 0 else 1) < 30)) = true := by rfl)
    (hline : (apos.endLine == cpos.line) = true := by rfl) (hs : starEach [e] X.env = (false, eval e X.env) :: starEach [] X.env := by rfl) (hplain : (backTo cpos (starEach [] X.env)).any (·.1) = false := by rfl) :
    PE X (.Call (.Attribute o "index" apos) [e] [] cpos) (tTIndex to ta) := by
  refine ⟨fun pins s σ H Q I h => ?_⟩
  refine wpAny_Call_method (T := "tuple") (id := "tuple.index") hbase hfew hline PySem.F.plainAttrs_tuple PySem.F.slot_tuple_index PySem.F.type_tuple_index (thn (ho.run pins s σ H _ I h) fun v s1 ⟨x, H1, I1, r1, p, ob, vs, ex, hf, hd, q1⟩ => ?_)
  subst ex
  cases r1
  obtain ⟨hg, hz, its0, rv0, ⟨o', e', hc, _⟩⟩ := (show ObjOk X.prog X.w H1 s1.heap p (.frz ob (.tup vs)) from I1.hok p _ hf)
  rw [hg] at e'
  cases e'
  refine ⟨⟨ob, hg, hc⟩, fun a z => by cases z; exact ⟨ob, hg, hd⟩, ?_⟩
  have hA := ha.run cpos pins s1 σ H1 _ I1 q1
  rw [hs] at hA ⊢
  refine Calls.callWith_builtin (by show (false || (backTo cpos (starEach [] X.env)).any (·.1)) = false; rw [hplain] <;> rfl) (Calls.evalArgs_plain ?_)
  refine thn hA fun us s2 ⟨ys, H2, I2, r2, ns, k, hf2, ey, hk, q2⟩ => ?_
  subst ey
  obtain ⟨u, eu, ru⟩ := vals1 r2
  subst eu
  obtain ⟨t, rfl⟩ := ru
  obtain ⟨hg2, hz2, its, rv, pt⟩ := (show ObjOk X.prog X.w H2 s2.heap p (.frz ob (.tup (ns.map V.int))) from I2.hok p _ hf2)
  exact PySem.SeqAt.tuple_index_ints pt rv.ints hk ⟨.int _, H2, I2.tok (s2.toks + 1), ⟨_, rfl⟩, q2⟩
def idxD (k : Int) : List Int → Nat
  | [] => 0
  | x :: r => if decide (x = k) then 0 else idxD k r + 1
theorem idxD_eq (k : Int) : ∀ l : List Int, idxD k l = l.idxOf k
  | [] => rfl
  | x :: r => by
    unfold idxD
    rw [List.idxOf_cons, idxD_eq k r]
    by_cases h : x = k
    · simp [h]
    · have h2 : (x == k) = false := by simpa using h
      simp [h, h2]
def mTIndex (f : ME) (fa : MA) : ME := fun env m => bnd (f env m) fun d m1 => match d with
  | .ftp ds => bnd (fa env m1) fun es m2 => (match es with
    | [.int k] => (match intsO ds with
      | some ns => gif (ns.any fun i => decide (i = k)) (some (.ok (.int (idxD k ns)) m2))
      | none => none)
    | _ => none)
  | _ => none
theorem se_tindex {o e : Expr} {apos cpos : Pos} {f : ME} {fa : MA} (h : PE X (.Call (.Attribute o "index" apos) [e] [] cpos) (tTIndex (tE X.K w f) (tA X.K w fa))) : PE X (.Call (.Attribute o "index" apos) [e] [] cpos) (tE X.K w (mTIndex f fa)) := h.weak fun σ H Q q => by
  obtain ⟨ρ, env, m, hm, he, q⟩ := q
  refine ⟨ρ, env, m, hm, he, q.bnd.imp fun d m1 ρ1 H1 e1 hm1 q1 v r => ?_⟩
  cases d with
  | ftp ds =>
    obtain ⟨p, vs, rfl, ⟨hp, ob, hf, hd⟩, hr⟩ := rd_ftp r
    refine ⟨p, ob, vs, rfl, hf, hd, ρ1, env, m1, hm1, he.mono e1, q1.bnd.imp fun es m2 ρ2 H2 e2 hm2 q2 ys r2 => ?_⟩
    split at q2
    · rename_i k
      obtain ⟨y, rfl, ry⟩ := rds1 r2
      split at q2
      · rename_i ns en
        obtain ⟨hk, q3⟩ := q2.gif
        have ev := intsO_ok en hr
        subst ev
        refine ⟨ns, k, e2.fz p _ _ hf, by rw [rd_int ry], ?_, ?_⟩
        · obtain ⟨i, hi, e⟩ := List.any_eq_true.mp hk
          have := of_decide_eq_true e
          subst this
          exact hi
        · rw [← idxD_eq]
          exact q3.ok hm2 _ rd_intI
      · exact q2.elim
    · exact q2.elim
  | _ => exact q1.elim
/-! ### comprehensions of two clauses, in the text -/
section
variable {elt tg iter tg1 iter1 : Expr} {ifs ifs1 : List Expr} {scope : Scope} {own : List (Str × Nat)} {vs1 : List Nat} {pos : Pos} {fi fi1 : MI} {p p1 : Pat} {tt tt1 : MT} {te : ME}
theorem se_lc2 (hc : X.calm = true) (hN : X.N.Nodup) (hi : PI X tg iter (tI X.K w fi)) (ok : BlkOk X.N X.env.scope scope own) (hv : ∀ i ∈ vs1, i ∈ own.map (·.2)) (hp : ∀ i ∈ p.slots, i ∈ own.map (·.2)) (hp1 : ∀ i ∈ p1.slots, i ∈ vs1)
    (hg : ∀ (s : Shared) (H : Hp) (C : Addr) (cl : List (Str × Addr)) (fp : List Addr), PG (X.blk s H scope (compEnvC scope cl C X.env) fp) tg (gP X.K p)) (ht : ∀ (s : Shared) (H : Hp) (C : Addr) (cl : List (Str × Addr)) (fp : List Addr), PTs (X.blk s H scope (compEnvC scope cl C X.env) fp) ifs (tT X.K w tt))
    (hi1 : ∀ (s : Shared) (H : Hp) (C : Addr) (cl : List (Str × Addr)) (fp : List Addr), PI (X.blk s H scope (compEnvC scope cl C X.env) fp) tg1 iter1 (tI X.K w fi1)) (hg1 : ∀ (s : Shared) (H : Hp) (C : Addr) (cl : List (Str × Addr)) (fp : List Addr), PG (X.blk s H scope (compEnvC scope cl C X.env) fp) tg1 (gP X.K p1))
    (ht1 : ∀ (s : Shared) (H : Hp) (C : Addr) (cl : List (Str × Addr)) (fp : List Addr), PTs (X.blk s H scope (compEnvC scope cl C X.env) fp) ifs1 (tT X.K w tt1)) (he : ∀ (s : Shared) (H : Hp) (C : Addr) (cl : List (Str × Addr)) (fp : List Addr), PE (X.blk s H scope (compEnvC scope cl C X.env) fp) elt (tE X.K w te))
    (hs : ∀ x, foldedSetIterable iter X.env x = pure x := by intro _; rfl) (hs1 : ∀ env x, foldedSetIterable iter1 env x = pure x := by intro _ _; rfl) :
    PE X (.ListComp elt [⟨tg, iter, ifs, 0⟩, ⟨tg1, iter1, ifs1, 0⟩] scope pos) (tE X.K w (mLc2 fi p (own.map (·.2)) tt fi1 p1 vs1 tt1 te)) := (pe_lc2 hc hN hi ok hv hg ht hi1 hg1 ht1 he hs hs1).weak fun _ _ _ q => lc2_lift hp hp1 q
end
/-! ### a, b = x, y -/
theorem ss_par {i j : Nat} {x y : Str} {a b : Expr} {f : MA} {px py pt : Pos} {kt k2 pt2 pos} (hc : X.calm = true) (hN : X.N.Nodup) (hi : X.N[i]? = some x) (hj : X.N[j]? = some y) (hij : i ≠ j) (hx : X.env.scope.names.lookup x = some .local) (hy : X.env.scope.names.lookup y = some .local) (ha : PA X [a, b] (tA X.K w f))
    (hw : swappedStores [.Tuple [.Name x px, .Name y py] kt pt] (.Tuple [a, b] k2 pt2) X.env = pure (some [x, y])) (hs : swapsWithSole [.Tuple [.Name x px, .Name y py] kt pt] (.Tuple [a, b] k2 pt2) pos.line X.env = pure false := by rfl) :
    PS X (.Assign [.Tuple [.Name x px, .Name y py] kt pt] (.Tuple [a, b] k2 pt2) pos) (tS X.K w (sPar i j f)) := (ps_par hc hN hi hj hij hx hy ha hw hs).weak fun _ _ _ q => par_lift q
def sPar3 (i j l : Nat) (f : MA) : MS := fun env m => bnd (f env m) fun ds m1 => match ds with
  | [a, b, c] => some (.ok (.nx (((env.set i (some a)).set j (some b)).set l (some c))) m1)
  | _ => none
theorem par3_lift {i j l : Nat} {f : MA} {Dn : Ends} {σ : SLT} (q : tS K w (sPar3 i j l f) Dn σ H) : tPar3 i j l (tA K w f) Dn σ H := by
  obtain ⟨ρ, env, m, hm, he, q⟩ := q
  refine ⟨ρ, env, m, hm, he, q.bnd.imp fun ds m1 ρ1 H1 e1 hm1 q1 vs r => ?_⟩
  split at q1
  · rename_i a b c
    unfold rds at r
    obtain ⟨v, r', rfl, ra, r2⟩ := r
    unfold rds at r2
    obtain ⟨v2, r3, rfl, rb, r4⟩ := r2
    obtain ⟨v3, rfl, rc⟩ := rds1 r4
    exact ⟨v, v2, v3, rfl, q1.ok hm1 _ ((((he.mono e1).set ra).set rb).set rc)⟩
  · exact q1.elim
theorem ss_par3 {i j l : Nat} {x y z : Str} {a b c : Expr} {f : MA} {px py pz pt pos : Pos} {kt k2 pt2} (hc : X.calm = true) (hN : X.N.Nodup) (hi : X.N[i]? = some x) (hj : X.N[j]? = some y) (hl : X.N[l]? = some z) (hij : i ≠ j) (hil : i ≠ l) (hjl : j ≠ l)
    (hx : X.env.scope.names.lookup x = some .local) (hy : X.env.scope.names.lookup y = some .local) (hz : X.env.scope.names.lookup z = some .local) (ha : PA X [a, b, c] (tA X.K w f))
    (hw : swappedStores [.Tuple [.Name x px, .Name y py, .Name z pz] kt pt] (.Tuple [a, b, c] k2 pt2) X.env = pure (some [x, y, z])) (hs : swapsWithSole [.Tuple [.Name x px, .Name y py, .Name z pz] kt pt] (.Tuple [a, b, c] k2 pt2) pos.line X.env = pure false := by rfl) :
    PS X (.Assign [.Tuple [.Name x px, .Name y py, .Name z pz] kt pt] (.Tuple [a, b, c] k2 pt2) pos) (tS X.K w (sPar3 i j l f)) := (ps_par3 hc hN hi hj hl hij hil hjl hx hy hz ha hw hs).weak fun _ _ _ q => par3_lift q
end
end EV

set_option Elab.async false
set_option linter.all false
set_option maxRecDepth 100000
set_option maxHeartbeats 2000000
namespace EV
open PySem PySem.Spec PyProof.Rows L2
section
variable {X : Cx} {pins : List (Addr × Obj)} {σ : L2.St} {H : Hp} {s : Shared} {K : PySem.W.Frag} {w : Wi} {ρ : List Addr} {m : M}
/-- a key tuple stored -/
theorem dict_setT {E : Value → Shared → Prop} {D b : Addr} {kvs : List (List Key × V)} {k : List Key} {v : V} {r : Value} {Q : Unit → Shared → Prop} (hu : X.A.units + 1 < cLine) (I : Inv X pins σ H s) (hD : H D = some (.dT kvs)) (hz : kvs.length < sizeLine) (eb : H b = some (.tup (k.map kV))) (rv : RelV v r)
    (h : ∀ s', Inv X pins σ (upd H D (.dT (putK kvs k v))) s' → Q () s') : wpAny (model X.prog X.w) X.A (dictSet D (.ref b) r) Q E s := by
  obtain ⟨z, hd, xs, rel, dd⟩ := dt_of I.hok hD
  have h1 : xs.length ≤ sizeLine := by rw [← Paired.length rel]; exact z
  have h2 : (putK kvs k v).length ≤ sizeLine := by have := length_putK kvs k v; omega
  refine wpAny_dictSet_heap (hsz := h1) (show X.A.units < cLine by omega) (key_of I.hok eb) dd (fun h' dd' hs => h _ ?_)
  obtain ⟨q, es, ep, hq, g2, g3, g4, _, g5⟩ := dd'
  refine d_write I (by rw [hD]; exact True.intro) hs ⟨q, hq⟩ ⟨h2, hd, _, (rel.put k eb rv).keeps fun c ys ec => ?_, q, es, ep, hq, g2, g3, g4, g5⟩
  rw [upd_ne (ne_of ec hD (fun z => nomatch z))]
  exact ec
/-- {k: v} with a key tuple -/
def tDispT (tk tv : TE) : TE := fun σ H Q => ∀ p, H p = none → tk σ (upd H p (.dT [])) fun x H1 => tv σ H1 fun y H2 => ∃ b ks, x = .ref b ∧ H2 b = some (.tup (ks.map kV)) ∧ H2 p = some (.dT []) ∧ Q (.ref p) (upd H2 p (.dT [(ks, y)]))
theorem pe_dispT {k v : Expr} {tk tv : TE} {pos : Pos} (hu : X.A.units + 1 < cLine) (hk : PE X k tk) (hv : PE X v tv) : PE X (.Dict [some k] [v] pos) (tDispT tk tv) := by
  refine ⟨fun pins s σ H Q I q => ?_⟩
  have hn := I.hok.fresh (Nat.le_refl s.heap.objs.size)
  have I1 := I.laid (a := s.heap.objs.size) (o := .dT []) (h' := s.heap.push { cls := .type "dict", data := .dict #[] }) (t' := s.toks) (fun _ _ q => Heap.get?_push_of_some _ q) (Nat.le_refl _) (dt_empty s.heap I.big)
  have shape := zip_pairTrees [some k] [v] X.env pos rfl rfl
  rw [arm_eval_Dict, shape, dictDisplay_pairs (pairTrees [some k] [v] X.env pos) (by simp [pairTrees]) (by simp [pairTrees])]
  refine wpAny_bind (wpAny_standAt (wpAny_bind ?_))
  unfold subDict
  refine wpAny_bind (wpAny_alloc ?_)
  refine wpAny_bind (wpAny_holding ?_)
  rw [if_pos (by simp [pairTrees])]
  refine wpAny_bind (pairTrees_cons_walk (thn (hk.run pins _ σ _ _ I1 (q _ hn)) fun u s1 ⟨x, H1, I2, rx, q1⟩ => thn (hv.run pins s1 σ H1 _ I2 q1) fun u2 s2 ⟨y, H2, I3, ry, b, ks, ex, eb, eD, q2⟩ => pairTrees_nil_walk ?_))
  subst ex
  cases rx
  refine wpAny_holding ?_
  refine wpAny_bind ?_
  rw [List.forIn_cons]
  refine wpAny_bind (wpAny_bind (dict_setT hu I3 eD (by rw [sizeLine_eq]; decide) eb ry fun s4 I4 => wpAny_pure ?_))
  dsimp only
  rw [List.forIn_nil]
  exact wpAny_pure (wpAny_pure (wpAny_pure (wpAny_pure ⟨.ref s.heap.objs.size, _, I4, rfl, q2⟩)))
/-! ### displays as functions -/
theorem HRel.adoptD {p : Addr} {o : O} {u : HO} (h : HRel K ρ H m) (hp : p ∉ ρ) (hl : H p = some u) (hnt : ∀ vs, u ≠ .tup vs) (hnf : ∀ ob v, u ≠ .frz ob v) (r : ro K (ρ ++ [p]) H p o) : HRel K (ρ ++ [p]) H (m ++ [o]) := by
  have t : Tps ρ H (ρ ++ [p]) H := by
    refine ⟨fun n q e => ?_, fun q us n e => ⟨fun z => ?_, e⟩, fun q o u' n e => ⟨fun z => ?_, e⟩⟩
    · rw [List.getElem?_append_left (List.getElem?_eq_some_iff.mp e).1]
      exact e
    · rcases List.mem_append.mp z with z | z
      · exact n z
      · simp at z
        rw [z, hl] at e
        exact hnt us (Option.some.inj e)
    · rcases List.mem_append.mp z with z | z
      · exact n z
      · simp at z
        rw [z, hl] at e
        exact hnf _ _ (Option.some.inj e)
  refine ⟨by simp [h.len], ?_, fun n q x h1 h2 => ?_⟩
  · rw [List.nodup_append]
    exact ⟨h.nd, by simp, fun a ha b hb => by simp at hb; subst hb; intro z; exact hp (z ▸ ha)⟩
  · by_cases hn : n < ρ.length
    · rw [List.getElem?_append_left hn] at h1
      rw [List.getElem?_append_left (by rw [← h.len]; exact hn)] at h2
      exact (h.obj n q x h1 h2).keepT t rfl
    · have hlen : n < (ρ ++ [p]).length := (List.getElem?_eq_some_iff.mp h1).1
      have en : n = ρ.length := by simp at hlen; omega
      subst en
      rw [List.getElem?_append_right (Nat.le_refl _)] at h1
      rw [h.len, List.getElem?_append_right (Nat.le_refl _)] at h2
      simp at h1 h2
      subst h1 h2
      exact r
theorem Tps.snoc {p : Addr} {u : HO} (hl : H p = some u) (hnt : ∀ vs, u ≠ .tup vs) (hnf : ∀ ob v, u ≠ .frz ob v) : Tps ρ H (ρ ++ [p]) H := by
  refine ⟨fun n q e => ?_, fun q us n e => ⟨fun z => ?_, e⟩, fun q o u' n e => ⟨fun z => ?_, e⟩⟩
  · rw [List.getElem?_append_left (List.getElem?_eq_some_iff.mp e).1]
    exact e
  · rcases List.mem_append.mp z with z | z
    · exact n z
    · simp at z
      rw [z, hl] at e
      exact hnt us (Option.some.inj e)
  · rcases List.mem_append.mp z with z | z
    · exact n z
    · simp at z
      rw [z, hl] at e
      exact hnf _ _ (Option.some.inj e)
theorem Tps.updO {p : Addr} {u o : HO} (hl : H p = some u) (hnt : ∀ vs, u ≠ .tup vs) (hnf : ∀ ob v, u ≠ .frz ob v) : Tps ρ H ρ (L2.upd H p o) := ⟨fun _ _ e => e, fun q us n e => ⟨n, by rw [upd_ne (ne_of e hl (fun z => hnt us z.symm))]; exact e⟩, fun q ob u' n e => ⟨n, by rw [upd_ne (ne_of e hl (fun z => hnf ob u' z.symm))]; exact e⟩⟩
/-- what stood apart is written, then held -/
theorem hold_new {ρ1 ρ2 : List Addr} {H1 H2 : Hp} {m2 : M} {p : Addr} {u v : HO} {o : O} (hD : H1 p = none) (e2 : Ext ρ1 H1 ρ2 H2) (hm2 : HRel K ρ2 H2 m2) (hH2 : H2 p = some u) (hr2 : p ∉ ρ2) (hu : (∀ vs, u ≠ .tup vs) ∧ ∀ ob v, u ≠ .frz ob v) (hv : (∀ vs, v ≠ .tup vs) ∧ ∀ ob v', v ≠ .frz ob v')
    (hro : Tps ρ2 H2 (ρ2 ++ [p]) (upd H2 p v) → ro K (ρ2 ++ [p]) (upd H2 p v) p o) : Ext ρ1 H1 (ρ2 ++ [p]) (upd H2 p v) ∧ HRel K (ρ2 ++ [p]) (upd H2 p v) (m2 ++ [o]) ∧ rd K (ρ2 ++ [p]) (upd H2 p v) (.ref m2.length) (.ref p) := by
  have t1 : Tps ρ2 H2 ρ2 (upd H2 p v) := Tps.updO hH2 hu.1 hu.2
  have t2 : Tps ρ2 (upd H2 p v) (ρ2 ++ [p]) (upd H2 p v) := Tps.snoc upd_same hv.1 hv.2
  have t12 : Tps ρ2 H2 (ρ2 ++ [p]) (upd H2 p v) := ⟨fun n q e => t2.get n q (t1.get n q e), fun q us n e => let ⟨a, b⟩ := t1.tp q us n e; t2.tp q us a b, fun q o' u' n e => let ⟨a, b⟩ := t1.fz q o' u' n e; t2.fz q o' u' a b⟩
  have hm3 : HRel K ρ2 (upd H2 p v) m2 := hm2.keepT t1 fun z hz => upd_ne fun e => hr2 (e ▸ hz)
  refine ⟨⟨?_, fun z o' hz hn => ?_, fun z hz => ?_, fun z ob u' hz => ?_⟩, hm3.adoptD hr2 upd_same hv.1 hv.2 (hro t12), rd_refI ?_⟩
  · obtain ⟨t, et, ht⟩ := e2.pre
    refine ⟨t ++ [p], by rw [et, List.append_assoc], fun z hz => ?_⟩
    rcases List.mem_append.mp hz with hz | hz
    · exact ht z hz
    · simp at hz; subst hz; exact hD
  · rw [upd_ne (ne_of_none hz hD)]
    exact e2.fr z o' hz hn
  · by_cases ez : z = p
    · subst ez; exact absurd hD hz
    · rw [upd_ne ez]; exact e2.kp z hz
  · rw [upd_ne (ne_of_none hz hD)]
    exact e2.fz z ob u' hz
  · rw [← hm2.len, List.getElem?_append_right (Nat.le_refl _)]
    simp
def mDispT (f g : ME) : ME := fun env m => bnd (f env m) fun k m1 => bnd (g env m1) fun d m2 => gif (kOk true k) (some (.ok (.ref m2.length) (m2 ++ [.dct true [(k, d)]])))
theorem dispT_lift {f g : ME} {σ : SLT} {Q : VK} (q : tE K w (mDispT f g) σ H Q) : tDispT (tE K w f) (tE K w g) σ H Q := by
  obtain ⟨ρ, env, m, hm, he, q⟩ := q
  intro p hp
  have e0 : Ext ρ H ρ (upd H p (.dT [])) := Ext.new hp
  refine ⟨ρ, env, m, hm.new hp, he.mono e0, (q.bnd0.mono e0).imp fun k m1 ρ1 H1 e1 hm1 q1 x r1 => ?_⟩
  have e01 := e0.trans e1
  have hH1 : H1 p = some (.dT []) := e1.fr p _ upd_same (hm.notin hp)
  have hr1 : p ∉ ρ1 := e1.notin upd_same (hm.notin hp)
  refine ⟨ρ1, env, m1, hm1, (he.mono e0).mono e1, (q1.bnd0.mono e01).imp fun d m2 ρ2 H2 e2 hm2 q2 y r2 => ?_⟩
  have e02 := e01.trans e2
  have hH2 : H2 p = some (.dT []) := e2.fr p _ hH1 hr1
  have hr2 : p ∉ ρ2 := e2.notin hH1 hr1
  obtain ⟨hk, q3⟩ := q2.gif
  cases k with
  | tup ks =>
    obtain ⟨key, ek⟩ := dKeys_ok (show ks.all scOk = true from hk)
    obtain ⟨b, vs, rfl, h1, h2⟩ := rd_tup (r1.mono e2)
    have ev := rds_key ek h2
    subst ev
    refine ⟨b, key, rfl, h1.2, hH2, ?_⟩
    obtain ⟨a1, a2, a3⟩ := hold_new (o := .dct true [(.tup ks, d)]) (v := .dT [(key, y)]) hp e02 hm2 hH2 hr2 ⟨(fun _ z => nomatch z), fun _ _ z => nomatch z⟩ ⟨(fun _ z => nomatch z), fun _ _ z => nomatch z⟩ (fun t => ⟨_, upd_same, by
      unfold rkT
      exact ⟨ks, key, y, [], rfl, rfl, ek, r2.monoT t, by unfold rkT; rfl⟩⟩)
    exact q3 _ _ a1 a2 _ a3
  | _ => cases hk
theorem se_dispT {k v : Expr} {f g : ME} {pos : Pos} (hu : X.A.units + 1 < cLine) (hk : PE X k (tE X.K w f)) (hv : PE X v (tE X.K w g)) : PE X (.Dict [some k] [v] pos) (tE X.K w (mDispT f g)) := (pe_dispT hu hk hv).weak fun _ _ _ q => dispT_lift q
/-- {k: v, ..} with plain keys -/
def mPairs : List (ME × ME) → Env → M → Option (Rs (List (D × D)))
  | [], _, m => some (.ok [] m)
  | (f, g) :: r, env, m => bnd (f env m) fun k m1 => bnd (g env m1) fun d m2 => bnd (mPairs r env m2) fun l m3 => some (.ok ((k, d) :: l) m3)
def foldP : List (D × D) → List (D × D) → List (D × D)
  | acc, [] => acc
  | acc, p :: r => foldP (dput acc p.1 p.2) r
def mDispK (ps : List (ME × ME)) : ME := fun env m => bnd (mPairs ps env m) fun l m1 => gif (l.all (fun p => kOk false p.1) && Nat.ble l.length 15) (some (.ok (.ref m1.length) (m1 ++ [.dct false (foldP [] l)])))
def rdP (K : PySem.W.Frag) (ρ : List Addr) (H : Hp) : List (D × D) → List (V × V) → Prop
  | [], r => r = []
  | p :: ps, r => ∃ x y t, r = (x, y) :: t ∧ rd K ρ H p.1 x ∧ rd K ρ H p.2 y ∧ rdP K ρ H ps t
theorem rdP.monoT {ρ' : List Addr} {H' : Hp} (t : Tps ρ H ρ' H') : ∀ {l : List (D × D)} {r : List (V × V)}, rdP K ρ H l r → rdP K ρ' H' l r
  | [], r, h => h
  | p :: l, r, h => by
    obtain ⟨x, y, s, e, h1, h2, h3⟩ := h
    exact ⟨x, y, s, e, h1.monoT t, h2.monoT t, rdP.monoT t h3⟩
theorem pairs_lift {env : Env} {σ : SLT} {Q : List (V × V) → Hp → Prop} : ∀ {ps : List (ME × ME)} {ρ : List Addr} {H : Hp} {m : M}, HRel K ρ H m → ER K ρ H env σ → (W K w ρ H (mPairs ps env m) fun l _ ρ' H' => ∀ r, rdP K ρ' H' l r → Q r H') → tPairs (ps.map fun p => (tE K w p.1, tE K w p.2)) σ H Q
  | [], ρ, H, m, hm, he, q => (show Q [] H from (W.ok q hm) [] rfl)
  | (f, g) :: r, ρ, H, m, hm, he, q => by
    show tE K w f σ H fun x H1 => tE K w g σ H1 fun y H2 => tPairs (r.map fun p => (tE K w p.1, tE K w p.2)) σ H2 fun ps H3 => Q ((x, y) :: ps) H3
    refine ⟨ρ, env, m, hm, he, (show W K w ρ H (bnd (f env m) _) _ from q).bnd.imp fun k m1 ρ1 H1 e1 hm1 q1 x r1 => ⟨ρ1, env, m1, hm1, he.mono e1, q1.bnd.imp fun d m2 ρ2 H2 e2 hm2 q2 y r2 => ?_⟩⟩
    refine pairs_lift hm2 ((he.mono e1).mono e2) (q2.bnd.imp fun l m3 ρ3 H3 e3 hm3 q3 rs hrs => ?_)
    exact q3.ok hm3 _ ⟨x, y, rs, rfl, (r1.mono e2).mono e3, r2.mono e3, hrs⟩
theorem foldP_K : ∀ {l : List (D × D)} {r : List (V × V)} {acc : List (D × D)} {kv : List (Key × V)}, rdP K ρ H l r → l.all (fun p => kOk false p.1) = true → rkK K ρ H acc kv → ∃ kvs : List (Key × V), r = kvs.map (fun kv => (kV kv.1, kv.2)) ∧ kvs.length = l.length ∧ rkK K ρ H (foldP acc l) (mergeK kv kvs)
  | [], r, acc, kv, h, _, ha => by
    have : r = [] := h
    subst this
    exact ⟨[], rfl, rfl, ha⟩
  | (k, d) :: l, r, acc, kv, h, hk, ha => by
    obtain ⟨x, y, t, rfl, h1, h2, h3⟩ := h
    rw [List.all_cons, Bool.and_eq_true] at hk
    have hk' : scOk k = true := by cases k <;> first | exact hk.1 | cases hk.1
    obtain ⟨key, ek⟩ := dKey_ok hk'
    have ex := rd_key ek h1
    subst ex
    obtain ⟨kvs, e1, e2, e3⟩ := foldP_K h3 hk.2 (dput_K ek h2 ha)
    exact ⟨(key, y) :: kvs, by rw [List.map_cons, e1], by simp [e2], e3⟩
theorem dispK_lift {ps : List (ME × ME)} {σ : SLT} {Q : VK} (q : tE K w (mDispK ps) σ H Q) : tDisp (ps.map fun p => (tE K w p.1, tE K w p.2)) σ H Q := by
  obtain ⟨ρ, env, m, hm, he, q⟩ := q
  intro p hp
  have e0 : Ext ρ H ρ (upd H p (.dK [])) := Ext.new hp
  refine pairs_lift (hm.new hp) (he.mono e0) ((q.bnd0.mono e0).imp fun l m1 ρ1 H1 e1 hm1 q1 r hr => ?_)
  have hH1 : H1 p = some (.dK []) := e1.fr p _ upd_same (hm.notin hp)
  have hr1 : p ∉ ρ1 := e1.notin upd_same (hm.notin hp)
  obtain ⟨hk, q2⟩ := q1.gif
  rw [Bool.and_eq_true] at hk
  obtain ⟨kvs, er, el, _⟩ := foldP_K (acc := []) (kv := []) hr hk.1 (by unfold rkK; rfl)
  refine ⟨hH1, kvs, er, by rw [el]; exact Nat.le_of_ble_eq_true hk.2, ?_⟩
  obtain ⟨a1, a2, a3⟩ := hold_new (o := .dct false (foldP [] l)) (v := .dK (mergeK [] kvs)) hp (e0.trans e1) hm1 hH1 hr1 ⟨(fun _ z => nomatch z), fun _ _ z => nomatch z⟩ ⟨(fun _ z => nomatch z), fun _ _ z => nomatch z⟩ (fun t => ⟨_, upd_same, by
    obtain ⟨kvs2, er2, _, h3⟩ := foldP_K (acc := []) (kv := []) (hr.monoT t) hk.1 (by unfold rkK; rfl)
    have : kvs2 = kvs := by
      have e : kvs2.map (fun kv => (kV kv.1, kv.2)) = kvs.map (fun kv => (kV kv.1, kv.2)) := er2.symm.trans er
      refine List.map_inj_right (fun a b h => ?_) |>.mp e
      obtain ⟨a1, a2⟩ := a
      obtain ⟨b1, b2⟩ := b
      simp only [Prod.mk.injEq] at h
      obtain ⟨h1, h2⟩ := h
      subst h2
      cases a1 <;> cases b1 <;> (simp [kV] at h1) <;> subst h1 <;> rfl
    subst this
    exact h3⟩)
  exact q2 _ _ a1 a2 _ a3
end
end EV

set_option Elab.async false
set_option linter.all false
set_option maxRecDepth 100000
set_option maxHeartbeats 2000000
namespace EV
open PySem PySem.Spec PyProof.Rows L2
/-! ### {k: v for ..} with key tuples -/
def tDcT (wi : TI) (g : TG) (tt : TT) (tk tv : TE) (vs : List Nat) : TE := fun σ H Q => wi σ H fun J H1 => ∀ D, H1 D = none → ∃ Wv : Nat → Nat → Hp → Prop, (∃ m, Wv 0 m (upd H1 D (.dT []))) ∧ ∀ i m H, Wv i m H →
  (J.stop i H ∧ Q (.ref D) H) ∨ (J.go i H ∧ ∃ Nx : Hp → Prop, (∀ H', Nx H' → ∃ m', m' < m ∧ Wv (i + 1) m' H') ∧ ∀ x H', J.yld i H x H' → g x (wipe σ vs) H' fun σ2 H2 => wipe σ2 vs = wipe σ vs ∧ tt σ2 H2 fun b H3 =>
    if b = true then tk σ2 H3 fun y H4 => tv σ2 H4 fun z H5 => ∃ kvs a ks, y = .ref a ∧ H5 a = some (.tup (ks.map kV)) ∧ H5 D = some (.dT kvs) ∧ kvs.length < sizeLine ∧ Nx (upd H5 D (.dT (putK kvs ks z))) else Nx H3)
section
variable {X : Cx}
theorem dcT_all {pins : List (Addr × Obj)} {s : Shared} {σ : L2.St} {H : Hp} {Q : VK} {kx vx tg src : Expr} {conds : List Expr} {sc : Scope} {own : List (Str × Nat)} {pos pos' : Pos} {wi : TI} {g : TG} {tt : TT} {tk tv : TE} {use : Option (Value → Sem Unit)} {Qf : Value → Shared → Prop}
    (hu : X.A.units + 1 < cLine) (calm : X.calm = true) (nd : X.N.Nodup) (I : Inv X pins σ H s) (hi : PI X tg src wi) (ok : BlkOk X.N X.env.scope sc own)
    (hg : ∀ (s : Shared) (H : Hp) (C : Addr) (cl : List (Str × Addr)) (fp : List Addr), PG (X.blk s H sc (compEnvC sc cl C X.env) fp) tg g) (ht : ∀ (s : Shared) (H : Hp) (C : Addr) (cl : List (Str × Addr)) (fp : List Addr), PTs (X.blk s H sc (compEnvC sc cl C X.env) fp) conds tt)
    (hk : ∀ (s : Shared) (H : Hp) (C : Addr) (cl : List (Str × Addr)) (fp : List Addr), PE (X.blk s H sc (compEnvC sc cl C X.env) fp) kx tk) (he : ∀ (s : Shared) (H : Hp) (C : Addr) (cl : List (Str × Addr)) (fp : List Addr), PE (X.blk s H sc (compEnvC sc cl C X.env) fp) vx tv)
    (hs : ∀ x, foldedSetIterable src X.env x = pure x) (h : tDcT wi g tt tk tv (own.map (·.2)) σ H Q)
    (out : ∀ D C s' m H', Inv X pins σ H' s' → Q (.ref D) H' → s'.heap.Ns C m → FpOk X pins H' C → compPost (model X.prog X.w) X.A X.xe use Qf (.ref D) C (.ok .next) s') :
    wpAny (model X.prog X.w) X.A (comprehension (.DictComp kx vx [⟨tg, src, conds, 0⟩] sc pos) sc X.env pos' newDict false (eval src X.env) use) Qf X.xe s := by
  have frees : ∀ y ∈ sc.names, y.2 = .free → ∃ c, X.env.cells.lookup y.1 = some c := fun y hy e => (ok.free y hy e).elim (fun k => I.ok.has _ (.inl k)) (fun k => I.ok.has _ (.inr k))
  refine wpAny_comprehension_free (use := use) rfl hs (closure_ok frees) ok.kind (fun y hy e => by rw [ok.uniq y hy, e]) (thn (hi.run pins s σ H _ I h) fun xv sa hx => thn hx fun itv sb hb => ?_)
  obtain ⟨it, fp, tn, J, Hb, ee, Ib, T, stb, fb, q⟩ := hb
  subst ee
  refine wpAny_newObj_type (newEnv_comp ?_)
  generalize hD : sb.heap.objs.size = D
  have Dn : Hb D = none := Ib.hok.fresh (Nat.le_of_eq hD)
  obtain ⟨Wv, ⟨m0, w0⟩, turn⟩ := q D Dn
  generalize hsc : ({ sb with heap := sb.heap.push { cls := .type "dict", data := .dict #[] } } : Shared) = sd
  have Id : Inv X pins σ (upd Hb D (.dT [])) sd := by
    rw [← hsc]
    refine Ib.laid (t' := sb.toks) (fun b o e => Heap.get?_push_of_some _ e) (Nat.le_of_eq hD) ?_
    rw [← hD]
    exact dt_empty sb.heap Ib.big
  have hpd : sd.heap = sb.heap.push { cls := .type "dict", data := .dict #[] } := by rw [← hsc]
  have small : ∀ b ∈ fp, b < sb.heap.objs.size := fun b hb => by
    obtain ⟨o, e, _⟩ := T.obj _ _ stb b hb
    exact Heap.lt_size e
  have fd : ∀ b ∈ fp, FpOk X pins (upd Hb D (.dT [])) b ∧ b < sd.heap.objs.size := fun b hb => by
    have lt := small b hb
    refine ⟨⟨?_, (fb b hb).2⟩, by rw [hpd, Heap.size_push]; exact Nat.lt_succ_of_lt lt⟩
    rw [upd_ne (by rw [← hD]; exact Nat.ne_of_lt lt)]
    exact (fb b hb).1
  have std : tn 0 sd.heap := T.keep _ _ _ stb fun b _ o e => by rw [hpd]; exact Heap.get?_push_of_some _ e
  have Ie := block_start Id ok nd fd
  have pg := hg sd (upd Hb D (.dT [])) sd.heap.objs.size (cellsFrom (sd.heap.objs.size + 1) sc.names (cloFrom X.env.cells sc.names [])) fp
  have pt := ht sd (upd Hb D (.dT [])) sd.heap.objs.size (cellsFrom (sd.heap.objs.size + 1) sc.names (cloFrom X.env.cells sc.names [])) fp
  have pk := hk sd (upd Hb D (.dT [])) sd.heap.objs.size (cellsFrom (sd.heap.objs.size + 1) sc.names (cloFrom X.env.cells sc.names [])) fp
  have pv := he sd (upd Hb D (.dT [])) sd.heap.objs.size (cellsFrom (sd.heap.objs.size + 1) sc.names (cloFrom X.env.cells sc.names [])) fp
  show codeAny _ _ (.compStart (.DictComp kx vx [⟨tg, src, conds, 0⟩] sc pos) 0 (.ref it) (.ref D) (compEnvC sc (cellsFrom (sd.heap.objs.size + 1) sc.names (cloFrom X.env.cells sc.names [])) sd.heap.objs.size X.env)) (compPost (model X.prog X.w) X.A X.xe use Qf (.ref D) sd.heap.objs.size) { sd with heap := pushCells (sd.heap.push { cls := .type "dict", data := .dict #[] }) sc.names }
  have nofp : ∀ b ∈ fp, (upd Hb D (.dT [])) b = none := fun b hb => (fd b hb).1.1
  generalize hce : compEnvC sc (cellsFrom (sd.heap.objs.size + 1) sc.names (cloFrom X.env.cells sc.names [])) sd.heap.objs.size X.env = ce at Ie pg pt pk pv ⊢
  have ceL : ce.locals = sd.heap.objs.size := by subst hce; rfl
  generalize hHd : upd Hb D (.dT []) = Hd at Id Ie pg pt pk pv w0 nofp fd
  generalize hse : ({ sd with heap := pushCells (sd.heap.push { cls := .type "dict", data := .dict #[] }) sc.names } : Shared) = se at Ie ⊢
  have ste : tn 0 se.heap := T.keep _ _ _ std fun b _ o e => by rw [← hse]; exact pushCells_keeps _ _ _ _ (Heap.get?_push_of_some _ e)
  have stat : ∀ {τ : L2.St} {G : Hp} {z : Shared}, Inv (X.blk sd Hd sc ce fp) [] τ G z → (∀ b ∈ fp, G b = none) → ∀ b ∈ fp, FpOk (X.blk sd Hd sc ce fp) [] G b := fun {τ G z} Iz hn b hb => ⟨hn b hb, (Iz.ok.exf b hb).1, Iz.ok.exfs b hb, .inl hb, fun x c e => (Iz.ok.exf b hb).2 x c e, fun p hp => absurd (show p ∈ ([] : List (Addr × Obj)) ++ [] from hp) (by simp)⟩
  have loop : codeAny (model X.prog X.w) X.A (.compLoop (.DictComp kx vx [⟨tg, src, conds, 0⟩] sc pos) 0 (.ref it) (.ref D) ce) (compPost (model X.prog X.w) X.A X.xe use Qf (.ref D) sd.heap.objs.size) se := by
    refine compLoop_anyD (fun n z => ∃ i G, Inv (X.blk sd Hd sc ce fp) [] (wipe σ (own.map (·.2))) G z ∧ tn i z.heap ∧ (∀ b ∈ fp, G b = none) ∧ Wv i n G) ?_ m0 ⟨0, Hd, Ie, ste, nofp, w0⟩
    rintro n z5 ⟨i, G5, J5, st5, n5, w5⟩
    rcases turn i n G5 w5 with ⟨stop, qq⟩ | ⟨go, Nx, hNx, step⟩
    · refine thnF (T.done (X.blk sd Hd sc ce fp) rfl rfl rfl calm i [] z5 _ G5 (fun _ _ => False) J5 (stat J5 n5) st5 stop) fun r z6 ⟨hr, J6⟩ => ?_
      subst hr
      have J7 : Inv X pins σ G5 z6 := Id.call' (ch := fp) J6.os J6.base J6.hok J6.bare fun b hb => ⟨(fd b hb).1.2.2.2.1, (fd b hb).1.2.1, (fd b hb).1.2.2.2.2.1, (fd b hb).1.2.2.2.2.2⟩
      have noC : G5 sd.heap.objs.size = none := by
        have q := J6.free
        rwa [show (X.blk sd Hd sc ce fp).env.locals = sd.heap.objs.size from ceL] at q
      obtain ⟨m, hn, _⟩ := J6.loc
      have hn : z6.heap.Ns ce.locals m := hn
      rw [ceL] at hn
      exact out D sd.heap.objs.size z6 m G5 J7 qq hn (Id.fpOk (Nat.le_refl _) noC)
    · refine thnF (T.item (X.blk sd Hd sc ce fp) rfl rfl rfl calm i [] z5 _ G5 (fun _ _ => False) J5 (stat J5 n5) st5 go) fun r z6 ⟨u, hr, h6⟩ => ?_
      subst hr
      refine thnF h6 fun _ z7 ⟨x, G7, J7, r7, y7, st7, n7⟩ => ?_
      have J7' := J7.pinned (stat J7 n7) (T.obj _ _ st7)
      refine thnF (pg.run _ z7 _ G7 x u _ J7' r7 (step x G7 y7)) fun _ z8 ⟨τ8, G8, J8, hw8, q8⟩ => ?_
      refine thnF (pt.run _ z8 τ8 G8 _ J8 q8) fun b z9 ⟨G9, J9, q9⟩ => ?_
      have fin : ∀ {z : Shared} {G : Hp}, Inv (X.blk sd Hd sc ce fp) ([] ++ pinsAt fp z7.heap) τ8 G z → Nx G → ∃ m, m < n ∧ ∃ i G, Inv (X.blk sd Hd sc ce fp) [] (wipe σ (own.map (·.2))) G z ∧ tn i z.heap ∧ (∀ b ∈ fp, G b = none) ∧ Wv i m G := fun {z G} Jz nx => by
        obtain ⟨m', hm, w'⟩ := hNx G nx
        have pinned : ∀ b ∈ fp, ∀ o, z7.heap.get? b = some o → z.heap.get? b = some o ∧ G b = none := fun b hb o e =>
          let y := Jz.pin (b, o) (List.mem_append_right _ (List.mem_append_right _ (mem_pinsAt hb e)))
          ⟨y.1, y.2.1⟩
        refine ⟨m', hm, i + 1, G, (Jz.unpinned (pins := [])).weak (by rw [← hw8, wipe_length]) (fun j v e => ?_), T.keep _ _ _ st7 fun b hb o e => (pinned b hb o e).1, fun b hb => ?_, w'⟩
        · rw [← hw8] at e
          exact (wipe_some e).1
        · obtain ⟨o, e, _⟩ := T.obj _ _ st7 b hb
          exact (pinned b hb o e).2
      cases b with
      | false =>
        simp only [Bool.false_eq_true, if_false] at q9 ⊢
        exact fin J9 q9
      | true =>
        simp only [if_true] at q9 ⊢
        refine thnF (pk.run _ z9 τ8 G9 _ J9 q9) fun ku z10 ⟨yk, G10, J10, r10, q10⟩ => ?_
        refine thnF (pv.run _ z10 τ8 G10 _ J10 q10) fun vu z11 ⟨yv, G11, J11, r11, kvs, a, ks, ek, ea, hD11, hz11, nx⟩ => ?_
        subst ek
        cases r10
        exact dict_setT (X := X.blk sd Hd sc ce fp) hu J11 hD11 hz11 ea r11 fun z12 J12 => fin J12 nx
  exact codeAny_compStart_dict loop (T.self X.A 0 _ _ _ ste loop)
theorem pe_dcT {kx vx tg src : Expr} {conds : List Expr} {sc : Scope} {own : List (Str × Nat)} {pos : Pos} {wi : TI} {g : TG} {tt : TT} {tk tv : TE} (hu : X.A.units + 1 < cLine) (calm : X.calm = true) (nd : X.N.Nodup) (hi : PI X tg src wi) (ok : BlkOk X.N X.env.scope sc own)
    (hg : ∀ (s : Shared) (H : Hp) (C : Addr) (cl : List (Str × Addr)) (fp : List Addr), PG (X.blk s H sc (compEnvC sc cl C X.env) fp) tg g) (ht : ∀ (s : Shared) (H : Hp) (C : Addr) (cl : List (Str × Addr)) (fp : List Addr), PTs (X.blk s H sc (compEnvC sc cl C X.env) fp) conds tt)
    (hk : ∀ (s : Shared) (H : Hp) (C : Addr) (cl : List (Str × Addr)) (fp : List Addr), PE (X.blk s H sc (compEnvC sc cl C X.env) fp) kx tk) (he : ∀ (s : Shared) (H : Hp) (C : Addr) (cl : List (Str × Addr)) (fp : List Addr), PE (X.blk s H sc (compEnvC sc cl C X.env) fp) vx tv) (hs : ∀ x, foldedSetIterable src X.env x = pure x := by intro _; rfl) :
    PE X (.DictComp kx vx [⟨tg, src, conds, 0⟩] sc pos) (tDcT wi g tt tk tv (own.map (·.2))) := by
  refine ⟨fun pins s σ H Q I h => ?_⟩
  rw [arm_eval_DictComp]
  refine dcT_all hu calm nd I hi ok hg ht hk he hs h fun D C z m H' Iz q hn f => ⟨m, hn, fun h'' sb => ?_⟩
  obtain ⟨f0, f1, f2, f3, f4, f5⟩ := f
  exact ⟨.ref D, H', Iz.turned (t' := z.toks) (fun b o hb e => (sb.2 b hb).trans e) f0 f1 f3 f4 f5, rfl, q⟩
end
def dcLoop (nx : Nxt) (p : Pat) (test : MT) (fk fv : ME) (env0 : Env) : Nat → Nat → M → List (D × D) → Option (Rs (List (D × D)))
  | 0, _, _, _ => none
  | k + 1, i, m, acc => match nx i m with
    | none => none
    | some none => some (.ok acc m)
    | some (some d) => match p.put d env0 with
      | none => none
      | some env1 => bnd (test env1 m) fun b m1 => match b with
        | true => bnd (fk env1 m1) fun y m2 => bnd (fv env1 m2) fun z m3 => gif (kOk true y && Nat.ble acc.length lim) (dcLoop nx p test fk fv env0 k (i + 1) m3 (dput acc y z))
        | false => dcLoop nx p test fk fv env0 k (i + 1) m1 acc
def mDcT (fi : MI) (p : Pat) (vs : List Nat) (test : MT) (fk fv : ME) : ME := fun env m => bnd (fi env m) fun kn m1 =>
  bnd (dcLoop kn.2 p test fk fv (wipeE env vs) kn.1 0 m1 []) fun acc m2 => some (.ok (.ref m2.length) (m2 ++ [.dct true acc]))
section
variable {X : Cx} {K : PySem.W.Frag} {w : Wi} {ρ : List Addr} {H : Hp} {m : M}
theorem dcT_lift {fi : MI} {p : Pat} {vs : List Nat} {test : MT} {fk fv : ME} (hvs : ∀ i ∈ p.slots, i ∈ vs) {Q : VK} {σ : SLT} (q : tE K w (mDcT fi p vs test fk fv) σ H Q) : tDcT (tI K w fi) (gP K p) (tT K w test) (tE K w fk) (tE K w fv) vs σ H Q := by
  obtain ⟨ρ, env, m, hm, he, q⟩ := q
  refine ⟨ρ, env, m, hm, he, q.bnd.imp fun kn m1 ρ1 H1 e1 hm1 q1 J hJ D hD => ?_⟩
  obtain ⟨k0, nx⟩ := kn
  let fin : List (EV.D × EV.D) → M → Option (Rs EV.D) := fun acc m2 => some (.ok (.ref m2.length) (m2 ++ [.dct true acc]))
  let post : EV.D → M → List Addr → Hp → Prop := fun d _ ρ' H' => ∀ v, rd K ρ' H' d v → Q v H'
  let Wv : Nat → Nat → Hp → Prop := fun i k H => ∃ ρ m acc accV, Ext ρ1 H1 ρ H ∧ HRel K ρ H m ∧ H D = some (.dT accV) ∧ D ∉ ρ ∧ rkT K ρ H acc accV ∧ W K w ρ1 H1 (bnd (dcLoop nx p test fk fv (wipeE env vs) k i m acc) fin) post
  have hDn : D ∉ ρ1 := hm1.notin hD
  refine ⟨Wv, ⟨k0, ρ1, m1, [], [], Ext.new hD, hm1.new hD, upd_same, hDn, by unfold rkT; rfl, q1⟩, ?_⟩
  rintro i k H ⟨ρ2, m2, acc, accV, e2, hm2, hDH, hDr, hacc, q2⟩
  cases k with
  | zero => exact q2.elim
  | succ k =>
    unfold dcLoop at q2
    have hj := hJ ρ2 H m2 i e2.wk hm2
    simp only at hj
    cases en : nx i m2 with
    | none => rw [en] at q2; exact q2.elim
    | some o =>
      rw [en] at q2 hj
      cases o with
      | none =>
        refine .inl ⟨hj, ?_⟩
        have hpre : Ext ρ1 H1 (ρ2 ++ [D]) H := by
          obtain ⟨t, et, ht⟩ := e2.pre
          refine ⟨⟨t ++ [D], by rw [et, List.append_assoc], fun z hz => ?_⟩, e2.fr, e2.kp, e2.fz⟩
          rcases List.mem_append.mp hz with hz | hz
          · exact ht z hz
          · simp at hz; subst hz; exact hD
        have hm3 : HRel K (ρ2 ++ [D]) H (m2 ++ [.dct true acc]) := hm2.adoptD hDr hDH (fun _ z => nomatch z) (fun _ _ z => nomatch z) ⟨accV, hDH, hacc.monoT (Tps.snoc hDH (fun _ z => nomatch z) (fun _ _ z => nomatch z))⟩
        exact (show W K w ρ1 H1 (some (.ok (.ref m2.length) (m2 ++ [.dct true acc]))) post from q2) _ _ hpre hm3 _ (rd_refI (by rw [← hm2.len, List.getElem?_append_right (Nat.le_refl _)]; simp))
      | some d =>
        obtain ⟨hgo, hy⟩ := hj
        refine .inr ⟨hgo, Wv (i + 1) k, fun H' h => ⟨k, Nat.lt_succ_self k, h⟩, fun x H' hyl => ?_⟩
        obtain ⟨e3, hm3, rx⟩ := hy x H' hyl
        simp only at q2
        cases ep : p.put d (wipeE env vs) with
        | none => rw [ep] at q2; exact q2.elim
        | some env3 =>
          rw [ep] at q2
          have he2 : ER K ρ2 H (wipeE env vs) (wipe σ vs) := ((he.mono e1).mono e2).wipe vs
          have e23 : Ext ρ1 H1 ρ2 H' := e2.trans e3
          have hDH3 : H' D = some (.dT accV) := e3.fr D _ hDH hDr
          refine Pat.ok (vs := vs) p (he2.mono e3) rx ep hvs fun σ3 he3 hw3 => ⟨by rw [hw3, wipe2], ?_⟩
          have q3 := q2
          simp only [bnd_assoc] at q3
          refine ⟨ρ2, env3, m2, hm3, he3, (q3.bnd0.mono e23).imp fun b m4 ρ4 H4 e4 hm4 q4 => ?_⟩
          have e24 : Ext ρ1 H1 ρ4 H4 := e23.trans e4
          have hDH4 : H4 D = some (.dT accV) := e4.fr D _ hDH3 hDr
          have hDr4 : D ∉ ρ4 := e4.notin hDH3 hDr
          have hacc4 : rkT K ρ4 H4 acc accV := (hacc.mono e3).mono e4
          cases b with
          | false => exact iteF ⟨ρ4, m4, acc, accV, e24, hm4, hDH4, hDr4, hacc4, q4⟩
          | true =>
            refine iteT ?_
            have q5 := q4
            simp only [bnd_assoc] at q5
            refine ⟨ρ4, env3, m4, hm4, he3.mono e4, (q5.bnd0.mono e24).imp fun y m6 ρ6 H6 e6 hm6 q6 yv ry => ?_⟩
            have e26 := e24.trans e6
            have hDH6 : H6 D = some (.dT accV) := e6.fr D _ hDH4 hDr4
            have hDr6 : D ∉ ρ6 := e6.notin hDH4 hDr4
            have q7 := q6
            refine ⟨ρ6, env3, m6, hm6, (he3.mono e4).mono e6, (q7.bnd0.mono e26).imp fun z m8 ρ8 H8 e8 hm8 q8 zv rz => ?_⟩
            have e28 := e26.trans e8
            have hDH8 : H8 D = some (.dT accV) := e8.fr D _ hDH6 hDr6
            have hDr8 : D ∉ ρ8 := e8.notin hDH6 hDr6
            have hacc8 : rkT K ρ8 H8 acc accV := (hacc4.mono e6).mono e8
            obtain ⟨hg, q9⟩ : (kOk true y && Nat.ble acc.length lim) = true ∧ W K w ρ1 H1 (bnd (dcLoop nx p test fk fv (wipeE env vs) k (i + 1) m8 (dput acc y z)) fin) post := by
              cases hb : (kOk true y && Nat.ble acc.length lim) with
              | false => simp only [hb, gif] at q8; exact q8.elim
              | true => simp only [hb, gif] at q8; exact ⟨rfl, q8⟩
            rw [Bool.and_eq_true] at hg
            cases y with
            | tup ks =>
              obtain ⟨key, ek⟩ := dKeys_ok (show ks.all scOk = true from hg.1)
              obtain ⟨b0, vs0, rfl, h1, h2⟩ := rd_tup (ry.mono e8)
              have ev := rds_key ek h2
              subst ev
              have t : Tps ρ8 H8 ρ8 (upd H8 D (.dT (putK accV key zv))) := Tps.updO hDH8 (fun _ z => nomatch z) (fun _ _ z => nomatch z)
              refine ⟨accV, b0, key, rfl, h1.2, hDH8, by rw [hacc8.length]; exact lim_lt hg.2, ρ8, m8, dput acc (.tup ks) z, putK accV key zv, ⟨e28.pre, fun z o hz hn => ?_, fun z hz => ?_, fun z ob u hz => ?_⟩, hm8.keepT t fun z hz => upd_ne fun e => hDr8 (e ▸ hz), upd_same, hDr8, (dput_T ek rz hacc8).monoT t, q9⟩
              · rw [upd_ne (ne_of_none hz hD)]
                exact e28.fr z o hz hn
              · by_cases ez : z = D
                · subst ez; exact absurd hD hz
                · rw [upd_ne ez]; exact e28.kp z hz
              · rw [upd_ne (ne_of_none hz hD)]
                exact e28.fz z ob u hz
            | _ => cases hg.1
theorem se_dcT {kx vx tg src : Expr} {conds : List Expr} {sc : Scope} {own : List (Str × Nat)} {pos : Pos} {fi : MI} {p : Pat} {tt : MT} {fk fv : ME} (hu : X.A.units + 1 < cLine) (calm : X.calm = true) (nd : X.N.Nodup) (hi : PI X tg src (tI X.K w fi)) (ok : BlkOk X.N X.env.scope sc own) (hv : ∀ i ∈ p.slots, i ∈ own.map (·.2))
    (hg : ∀ (s : Shared) (H : Hp) (C : Addr) (cl : List (Str × Addr)) (fp : List Addr), PG (X.blk s H sc (compEnvC sc cl C X.env) fp) tg (gP X.K p)) (ht : ∀ (s : Shared) (H : Hp) (C : Addr) (cl : List (Str × Addr)) (fp : List Addr), PTs (X.blk s H sc (compEnvC sc cl C X.env) fp) conds (tT X.K w tt))
    (hk : ∀ (s : Shared) (H : Hp) (C : Addr) (cl : List (Str × Addr)) (fp : List Addr), PE (X.blk s H sc (compEnvC sc cl C X.env) fp) kx (tE X.K w fk)) (he : ∀ (s : Shared) (H : Hp) (C : Addr) (cl : List (Str × Addr)) (fp : List Addr), PE (X.blk s H sc (compEnvC sc cl C X.env) fp) vx (tE X.K w fv)) (hs : ∀ x, foldedSetIterable src X.env x = pure x := by intro _; rfl) :
    PE X (.DictComp kx vx [⟨tg, src, conds, 0⟩] sc pos) (tE X.K w (mDcT fi p (own.map (·.2)) tt fk fv)) := (pe_dcT hu calm nd hi ok hg ht hk he hs).weak fun _ _ _ q => dcT_lift hv q
end
end EV

set_option Elab.async false
set_option linter.all false
set_option maxRecDepth 100000
set_option maxHeartbeats 2000000
namespace EV
open PySem PySem.Spec PyProof.Rows L2
section
variable {X : Cx} {K : PySem.W.Frag} {w : Wi} {ρ : List Addr} {H : Hp} {m : M}
/-! ### an expression with a dict locked -/
def mLockE (i : Nat) (s : ME) : ME := fun env m => match env[i]? with
  | some (some (.ref n)) => (match m[n]? with
    | some (.dct t kvs) => (match s env (m.set n (.frd t kvs)) with
      | some (.ok d m2) => some (.ok d (m2.set n (.dct t kvs)))
      | _ => none)
    | _ => none)
  | _ => none
theorem lockE_lift {i : Nat} {s : ME} {σ : SLT} {Q : VK} (q : tE K w (mLockE i s) σ H Q) : tLockE (tE K w s) σ H Q := by
  obtain ⟨ρ, env, m, hm, he, q⟩ := q
  unfold mLockE at q
  split at q
  · rename_i n ei
    obtain ⟨v, _, rv⟩ := he.at_ _ _ ei
    obtain ⟨p, rfl, hp⟩ := rd_ref rv
    have hpm : p ∈ ρ := List.mem_of_getElem? hp
    split at q
    · rename_i t kvs em
      have key : ∃ u, H p = some u ∧ Mut (some u) ∧ (∀ ρ' H', Ext ρ H ρ' H' → H' p = some u → ro K ρ' H' p (.dct t kvs)) ∧ ∀ od H', Tps ρ H ρ H' → H' p = some (.frz od u) → ro K ρ H' p (.frd t kvs) := by
        cases t with
        | false =>
          obtain ⟨r, a, b⟩ := hm.obj n p _ hp em
          exact ⟨.dK r, a, True.intro, fun ρ' H' e g => ⟨r, g, b.mono e⟩, fun od H' e g => ⟨r, od, g, b.monoT e⟩⟩
        | true =>
          obtain ⟨r, a, b⟩ := hm.obj n p _ hp em
          exact ⟨.dT r, a, True.intro, fun ρ' H' e g => ⟨r, g, b.mono e⟩, fun od H' e g => ⟨r, od, g, b.monoT e⟩⟩
      obtain ⟨u, hu, mu, back, lock⟩ := key
      refine ⟨p, u, hu, mu, fun od => ?_⟩
      have t1 : Tps ρ H ρ (upd H p (.frz od u)) := Tps.put hpm
      refine ⟨ρ, env, m.set n (.frd t kvs), hm.put hp (lock od _ t1 upd_same), he.monoT t1, ?_⟩
      cases es : s env (m.set n (.frd t kvs)) with
      | none => rw [es] at q; exact q.elim
      | some rs =>
        rw [es] at q
        cases rs with
        | ex c m2 => exact q.elim
        | ok d m2 =>
          simp only at q
          intro ρ' H' e' hm' v rv'
          have hf : H' p = some (.frz od u) := e'.fz p od u upd_same
          have hp' : ρ'[n]? = some p := e'.get hp
          have hpm' : p ∈ ρ' := List.mem_of_getElem? hp'
          have ext : Ext ρ H ρ' (upd H' p u) := by
            refine ⟨?_, fun z o hz hn => ?_, fun z hz => ?_, fun z ob o hz => ?_⟩
            · obtain ⟨t0, et, ht⟩ := e'.pre
              refine ⟨t0, et, fun z hz => ?_⟩
              have := ht z hz
              by_cases ez : z = p
              · subst ez; rw [upd_same] at this; cases this
              · rw [upd_ne ez] at this; exact this
            · have ez : z ≠ p := fun q => hn (q ▸ hpm)
              rw [upd_ne ez]
              exact e'.fr z o (by rw [upd_ne ez]; exact hz) hn
            · by_cases ez : z = p
              · subst ez; rw [upd_same]; simp
              · rw [upd_ne ez]
                exact e'.kp z (by rw [upd_ne ez]; exact hz)
            · have ez : z ≠ p := fun q => by
                rw [q, hu] at hz
                cases hz
                exact mu
              rw [upd_ne ez]
              exact e'.fz z ob o (by rw [upd_ne ez]; exact hz)
          have hm2 : HRel K ρ' (upd H' p u) (m2.set n (.dct t kvs)) := hm'.put hp' (back _ _ ext upd_same)
          exact ⟨hf, q ρ' (upd H' p u) ext hm2 v (rv'.monoT (Tps.put hpm'))⟩
    · exact q.elim
  · exact q.elim
theorem se_lockE {e : Expr} {i : Nat} {s : ME} (h : PE X e (tE X.K w s)) : PE X e (tE X.K w (mLockE i s)) := (pe_lock h).weak fun _ _ _ q => lockE_lift q
/-! ### what a module holds -/
/-- a constant of a module -/
def CoAt (K : PySem.W.Frag) (mg : Str → Option Value) (x : Str) (d : D) : Prop := ∃ u v, mg x = some u ∧ RelV v u ∧ ∀ ρ H, rd K ρ H d v
theorem se_glob {x : Str} {d : D} {pos : Pos} (hg : Gl X x) (h : CoAt X.K X.mg x d) (hd : (x == ("__debug__" : Str)) = false := by decide) : PE X (.Name x pos) (tE X.K w (mC d)) := by
  obtain ⟨u, v, h1, h2, h3⟩ := h
  exact se_c (pe_glob hg h1 h2 hd) h3
/-- a value that stands written -/
def CoV (K : PySem.W.Frag) (d : D) (u : Value) : Prop := ∃ v, RelV v u ∧ ∀ ρ H, rd K ρ H d v
theorem cov_int {i : Int} {t : Tok} : CoV K (.int i) (.int i t) := ⟨.int i, ⟨t, rfl⟩, fun _ _ => rd_intI⟩
def CoVs (K : PySem.W.Frag) : List D → List Value → Prop
  | [], us => us = []
  | d :: ds, us => ∃ u t, us = u :: t ∧ CoV K d u ∧ CoVs K ds t
theorem covs_get : ∀ {ds : List D} {us : List Value}, CoVs K ds us → ∃ vs, Vals vs us ∧ ∀ ρ H, rds K ρ H ds vs
  | [], us, h => by
    have : us = [] := h
    subst this
    exact ⟨[], .nil, fun _ _ => rds.nil⟩
  | d :: ds, us, h => by
    obtain ⟨u, t, rfl, ⟨v, r, hv⟩, h2⟩ := h
    obtain ⟨vs, rs, hs⟩ := covs_get h2
    exact ⟨v :: vs, .cons r rs, fun ρ H => rds.cons (hv ρ H) (hs ρ H)⟩
theorem cov_tup {ds : List D} {p : Addr} {o : Obj} {its : Array Value} {n : Nat} (h : K.lookup p = some o) (hc : o.cls = .type "tuple") (hd : o.data = .seq its n) (hz : its.size ≤ sizeLine) (hs : CoVs K ds its.toList) : CoV K (.con ds) (.ref p) := by
  obtain ⟨vs, rv, hv⟩ := covs_get hs
  exact ⟨.ref p, rfl, fun ρ H => rd_conI (.inr ⟨o, its, n, h, hc, hd, hz, rv⟩) (hv ρ H)⟩
theorem co_at {mg : Str → Option Value} {x : Str} {d : D} {u : Value} (h : mg x = some u) (c : CoV K d u) : CoAt K mg x d := let ⟨v, r, hv⟩ := c; ⟨u, v, h, r, hv⟩
theorem st_chain {op op' : CmpOp} {a b c : Expr} {pos : Pos} {fa fb fc : ME} {r r' : R2} {g g' : G2} (ho : OpR X (compareOp op) r) (ho' : OpR X (compareOp op') r') (h : OpD X.K w r g) (h' : OpD X.K w r' g') (ha : PE X a (tE X.K w fa)) (hb : PE X b (tE X.K w fb)) (hc : PE X c (tE X.K w fc)) (hlm : lastMarks [op, op'] [b, c] = false) :
    PT X (.Compare a [op, op'] [b, c] pos) (tT X.K w (mB (mChain g g' fa fb fc))) := (pt_chain ho ho' ha hb hc hlm).weak fun _ _ _ q => chain_lift h h' (tB_lift q)
/-- a, b, .. = a list -/
def sPatL (ps : List Pat) (f : ME) : MS := fun env m => bnd (f env m) fun d m1 => match asL m1 d with
  | some ds => (match Pat.puts ps ds env with
    | some env' => some (.ok (.nx env') m1)
    | none => none)
  | none => none
theorem ss_patL {es : List Expr} {k : Nat} {pt : Pos} {e : Expr} {f : ME} {ps : List Pat} {pos : Pos} (hc : X.calm = true) (he : PE X e (tE X.K w f)) (hg : PGs X es (gPs X.K ps)) (hn : (assignEach es X.env).length = ps.length := by rfl) (hst : (assignEach es X.env).findIdx? (·.1) = none := by rfl)
    (hs : swapsWithSole [.Tuple es k pt] e pos.line X.env = pure false := by rfl) (hw : swappedStores [.Tuple es k pt] e X.env = pure none := by rfl) (h1 : (assignEach [.Tuple es k pt] X.env).map (·.2) = [assign (.Tuple es k pt) X.env] := by rfl) : PS X (.Assign [.Tuple es k pt] e pos) (tS X.K w (sPatL ps f)) :=
  (ps_asg he (pg_lst hc hg hn hst) hs hw h1).weak fun Dn σ H q => by
    obtain ⟨ρ, env, m, hm, he, q⟩ := q
    refine ⟨ρ, env, m, hm, he, q.bnd.imp fun d m1 ρ1 H1 e1 hm1 q1 v r => ?_⟩
    split at q1
    · rename_i ds ed
      split at q1
      · rename_i env' ep
        obtain ⟨p, vs, rfl, h1, h2⟩ := rd_asL hm1 r ed
        exact ⟨p, vs, rfl, h1, by rw [← h2.length]; exact Pat.puts_len (K := X.K) (ρ := ρ1) (H := H1) ps ep, Pat.oks (vs := Pat.slotsL ps) ps (he.mono e1) h2 ep (fun _ h => h) fun σ' he' _ => q1.ok hm1 σ' he'⟩
      · exact q1.elim
    · exact q1.elim
end
end EV

set_option Elab.async false
set_option linter.all false
set_option maxRecDepth 100000
set_option maxHeartbeats 2000000
namespace EV
open PySem PySem.Spec PyProof.Rows L2
/-! ### a call on one list alone -/
def callK (F : MF) (k : Nat) (ds : List D) (m : M) : Option (Rs D) := match m[k]? with
  | some (.lst xs) => (match pureDs xs && pureDs ds with
    | true => (match F (.ref 0 :: ds) [.lst xs] with
      | some (.ok d m') => (match (m'[0]? : Option O) with
        | some (.lst ys) => (match pureDs ys && pureD d with
          | true => some (.ok d (m.set k (.lst ys)))
          | false => none)
        | _ => none)
      | _ => none)
    | false => none)
  | _ => none
def mCallK (F : MF) (fa : MA) : ME := fun env m => bnd (fa env m) fun ds m1 => match ds with
  | .ref k :: r => callK F k r m1
  | _ => none
section
variable {X : Cx} {K : PySem.W.Frag} {w : Wi} {ρ : List Addr} {H : Hp} {m : M}
theorem callK_ok {F : MF} {n k : Nat} {ds : List D} {vs : List V} {Q : VK} (hm : HRel K ρ H m) (r : rds K ρ H (.ref k :: ds) vs) (hn : vs.length = n)
    (q : W K w ρ H (callK F k ds m) fun d _ ρ' H' => ∀ v, rd K ρ' H' d v → Q v H') : spF K w.cls n F vs H Q w.E := by
  unfold callK at q
  split at q
  · rename_i xs em
    unfold rds at r
    obtain ⟨v0, vr, rfl, r0, rr⟩ := r
    obtain ⟨p, rfl, hp⟩ := rd_ref r0
    have hpm : p ∈ ρ := List.mem_of_getElem? hp
    obtain ⟨us0, a0, b0⟩ := hm.obj k p _ hp em
    split at q
    · rename_i hpure
      rw [Bool.and_eq_true] at hpure
      have hn1 : ∀ z ws, Rd H z (.tup ws) → z ∉ [p] := fun z ws e hz => by
        simp at hz
        subst hz
        rcases e with e | ⟨o, e⟩ <;> (rw [a0] at e; cases e)
      have hm1 : HRel K [p] H [.lst xs] := by
        refine ⟨rfl, by simp, fun j z o h1 h2 => ?_⟩
        cases j with
        | zero =>
          simp at h1 h2
          subst h1 h2
          exact ⟨us0, a0, rds.pure hn1 hpure.1 b0⟩
        | succ j => simp at h1
      refine ⟨hn, [p], [.lst xs], .ref 0 :: ds, hm1, rds.cons (rd_refI rfl) (rds.pure hn1 hpure.2 rr), ?_⟩
      cases hF : F (.ref 0 :: ds) [.lst xs] with
      | none => rw [hF] at q; exact q.elim
      | some rs =>
        rw [hF] at q
        cases rs with
        | ex c m' => exact q.elim
        | ok d m' =>
          simp only at q
          intro ρ' H' e' hm' v rv
          split at q
          · rename_i ys ey
            split at q
            · rename_i hp2
              rw [Bool.and_eq_true] at hp2
              have hp' : ρ'[0]? = some p := e'.get rfl
              obtain ⟨us, a1, b1⟩ := hm'.obj 0 p _ hp' ey
              have ext : Ext ρ H ρ H' := ⟨⟨[], by simp⟩, fun z o hz hn => e'.fr z o hz (fun y => hn (by simp at y; subst y; exact hpm)), e'.kp, e'.fz⟩
              have other : ∀ z ∈ ρ, z ≠ p → H' z = H z := fun z hz hne => by
                cases hq : H z with
                | none => exact absurd hq (hm.here hz)
                | some o => exact e'.fr z o hq (by simp [hne])
              have hn2 : ∀ z ws, Rd H' z (.tup ws) → z ∉ ρ := fun z ws e hz => by
                by_cases ez : z = p
                · subst ez
                  rcases e with e | ⟨o, e⟩ <;> (rw [a1] at e; cases e)
                · have eq := other z hz ez
                  have e2 : Rd H z (.tup ws) := by
                    rcases e with e | ⟨o, e⟩
                    · exact .inl (by rw [← eq]; exact e)
                    · exact .inr ⟨o, by rw [← eq]; exact e⟩
                  exact hm.noTupR e2 hz
              have hm2 : HRel K ρ H' (m.set k (.lst ys)) := by
                refine ⟨by rw [List.length_set]; exact hm.len, hm.nd, fun j z o h1 h2 => ?_⟩
                by_cases hj : j = k
                · subst hj
                  rw [hp] at h1
                  cases h1
                  rw [List.getElem?_set_self (by rw [← hm.len]; exact (List.getElem?_eq_some_iff.mp hp).1)] at h2
                  cases h2
                  exact ⟨us, a1, rds.pure hn2 hp2.1 b1⟩
                · rw [List.getElem?_set_ne (Ne.symm hj)] at h2
                  have hzp : z ≠ p := fun y => by
                    subst y
                    obtain ⟨l1, e1⟩ := List.getElem?_eq_some_iff.mp h1
                    obtain ⟨l2, e2⟩ := List.getElem?_eq_some_iff.mp hp
                    exact hj ((List.getElem_inj hm.nd).mp (e1.trans e2.symm))
                  exact (hm.obj j z o h1 h2).keep ext (other z (List.mem_of_getElem? h1) hzp)
              exact q ρ H' ext hm2 v (rd.pure hn2 hp2.2 rv)
            · exact q.elim
          · exact q.elim
    · exact q.elim
  · exact q.elim
theorem callK_lift {F : MF} {n : Nat} {fa : MA} {σ : SLT} {Q : VK} (hn : MA.len n fa) (q : tE K w (mCallK F fa) σ H Q) : tCall (spF K w.cls n F) [] w.E (tA K w fa) σ H Q := by
  obtain ⟨ρ, env, m, hm, he, q⟩ := q
  refine ⟨ρ, env, m, hm, he, ?_⟩
  have q1 := W.bnd q
  cases ef : fa env m with
  | none => rw [ef] at q1; exact q1.elim
  | some o =>
    rw [ef] at q1
    cases o with
    | ex c m' => exact q1
    | ok ds m' =>
      intro ρ1 H1 e1 hm1 vs r
      have q2 := q1 ρ1 H1 e1 hm1
      rw [List.append_nil]
      cases ds with
      | nil => exact q2.elim
      | cons d ds =>
        cases d with
        | ref k => exact callK_ok hm1 r (by rw [← r.length]; exact hn env m _ m' ef) q2
        | _ => exact q2.elim
theorem se_callK {CX : CXT} {k : Nat} {f : Addr} {fd : FuncData} {ps : List Str} {F : MF} {n : Nat} {x : Str} {p pos : Pos} {e : Expr} {es : List Expr} {fa : MA} (G : FnOk X.prog X.w X.K X.mg X.base CX k f fd ps (spF X.K w.cls n F)) (hr : Room k X.A) (hg : Gl X x) (hm : X.mg x = some (.ref f)) (hk : PySem.W.keepIn X.K (.ref f) = true) (hb : Binds X.K fd ps [])
    (hx : Passes CX X w.E) (ha : PA X (e :: es) (tA X.K w fa)) (hn : MA.len n fa) (hdb : (x == ("__debug__" : Str)) = false := by decide) (he : starEach (e :: es) X.env = (false, eval e X.env) :: starEach es X.env := by rfl) (hpl : (backTo pos (starEach es X.env)).any (·.1) = false := by rfl) :
    PE X (.Call (.Name x p) (e :: es) [] pos) (tE X.K w (mCallK F fa)) := (pe_call G hr hg hm hk hb .nil hx ha hdb he hpl).weak fun _ _ _ q => callK_lift hn q
end
end EV

set_option Elab.async false
set_option linter.all false
set_option maxRecDepth 100000
set_option maxHeartbeats 2000000
namespace EV
open PySem PySem.Spec PyProof.Rows L2
/-! ### what is known of calls, kept in a table -/
mutual
def beqD : D → D → Bool
  | .non, d => (match d with | .non => true | _ => false)
  | .bl a, d => (match d with | .bl b => (match a, b with | true, true => true | false, false => true | _, _ => false) | _ => false)
  | .int i, d => (match d with | .int j => decide (i = j) | _ => false)
  | .str _, _ => false
  | .tup a, d => (match d with | .tup b => beqDs a b | _ => false)
  | .con a, d => (match d with | .con b => beqDs a b | _ => false)
  | .ftp a, d => (match d with | .ftp b => beqDs a b | _ => false)
  | .lcon _, _ => false
  | .ref n, d => (match d with | .ref k => Nat.beq n k | _ => false)
def beqDs : List D → List D → Bool
  | [], l => (match l with | [] => true | _ => false)
  | a :: r, l => (match l with | b :: s => (match beqD a b with | true => beqDs r s | false => false) | [] => false)
end
mutual
theorem beqD_eq : ∀ {a b : D}, beqD a b = true → a = b
  | .non, b, h => by unfold beqD at h; split at h <;> first | rfl | cases h
  | .bl a, b, h => by
    unfold beqD at h
    split at h
    · rename_i c
      cases a <;> cases c <;> first | rfl | cases h
    · cases h
  | .int i, b, h => by
    unfold beqD at h
    split at h
    · rw [of_decide_eq_true h]
    · cases h
  | .str _, b, h => by unfold beqD at h; cases h
  | .tup a, b, h => by
    unfold beqD at h
    split at h
    · rw [beqDs_eq h]
    · cases h
  | .con a, b, h => by
    unfold beqD at h
    split at h
    · rw [beqDs_eq h]
    · cases h
  | .ftp a, b, h => by
    unfold beqD at h
    split at h
    · rw [beqDs_eq h]
    · cases h
  | .lcon _, b, h => by unfold beqD at h; cases h
  | .ref n, b, h => by
    unfold beqD at h
    split at h
    · rw [Nat.eq_of_beq_eq_true h]
    · cases h
theorem beqDs_eq : ∀ {a b : List D}, beqDs a b = true → a = b
  | [], b, h => by unfold beqDs at h; split at h <;> first | rfl | cases h
  | a :: r, b, h => by
    unfold beqDs at h
    split at h
    · split at h
      · rename_i e
        rw [beqD_eq e, beqDs_eq h]
      · cases h
    · cases h
end
/-- what comes: a value, a new list, a new dict -/
inductive TR where
  | val (d : D)
  | lst (ds : List D)
  | dct (t : Bool) (kvs : List (D × D))
def TR.run : TR → M → Option (Rs D)
  | .val d, m => some (.ok d m)
  | .lst ds, m => newL ds m
  | .dct t kvs, m => some (.ok (.ref m.length) (m ++ [.dct t kvs]))
abbrev Tab := List D → Option TR
def tLeaf (x : TR) : Tab := fun r => match r with
  | [] => some x
  | _ => none
def tFind : List (D × Tab) → D → List D → Option TR
  | [], _, _ => none
  | p :: l, d, r => match beqD p.1 d with
    | true => p.2 r
    | false => tFind l d r
def tNode (l : List (D × Tab)) : Tab := fun r => match r with
  | d :: r => tFind l d r
  | [] => none
/-- the table is right, behind some arguments -/
def OkT (F : MF) (pre : List D) (T : Tab) : Prop := ∀ r x, T r = some x → pureDs (pre ++ r) = true ∧ ∀ m, callP F (pre ++ r) m = x.run m
theorem okt_leaf {F : MF} {pre : List D} {x : TR} (h : pureDs pre = true) (h2 : ∀ m, callP F pre m = x.run m) : OkT F pre (tLeaf x) := fun r y e => by
  unfold tLeaf at e
  split at e
  · cases e
    rw [List.append_nil]
    exact ⟨h, h2⟩
  · cases e
theorem okt_nil {F : MF} {pre : List D} : OkT F pre (tNode []) := fun r y e => by
  unfold tNode at e
  split at e
  · cases e
  · cases e
theorem okt_cons {F : MF} {pre : List D} {d : D} {T : Tab} {l : List (D × Tab)} (h : OkT F (pre ++ [d]) T) (t : OkT F pre (tNode l)) : OkT F pre (tNode ((d, T) :: l)) := fun r y e => by
  unfold tNode at e
  split at e
  · rename_i d' r'
    unfold tFind at e
    split at e
    · rename_i eb
      rw [← beqD_eq eb]
      have := h r' y e
      rw [List.append_assoc] at this
      exact this
    · exact t (d' :: r') y e
  · cases e
def callT (T : Tab) (F : MF) (ds : List D) (m : M) : Option (Rs D) := match T ds with
  | some r => r.run m
  | none => callD F ds m
def mCallT (T : Tab) (F : MF) (fa : MA) : ME := fun env m => bnd (fa env m) fun ds m1 => callT T F ds m1
theorem callT_eq {T : Tab} {F : MF} (ok : OkT F [] T) : callT T F = callD F := by
  funext ds m
  unfold callT
  split
  · rename_i r h
    obtain ⟨h1, h2⟩ := ok _ _ h
    rw [List.nil_append] at h1 h2
    unfold callD
    rw [h1, h2]
    cases r <;> rfl
  · rfl
theorem mCallT_eq {T : Tab} {F : MF} (ok : OkT F [] T) : mCallT T F = mCall F := by
  funext fa env m
  unfold mCallT mCall
  rw [callT_eq ok]
/-! ### a block, statement by statement -/
theorem seq_nx {f g : MS} {env e1 : Env} {m m1 : M} (h : f env m = some (.ok (.nx e1) m1)) : sSeq f g env m = g e1 m1 := by unfold sSeq; rw [h]; rfl
theorem bnd_ok {α β : Type} {x : Option (Rs α)} {a : α} {m : M} {k : α → M → Option (Rs β)} (h : x = some (.ok a m)) : EV.bnd x k = k a m := by rw [h]; rfl
theorem set_ok {i : Nat} {f : ME} {env : Env} {m m1 : M} {d : D} (h : f env m = some (.ok d m1)) : sSet i f env m = some (.ok (.nx (env.set i (some d))) m1) := by unfold sSet; rw [h]; rfl
theorem cons_ok {f : ME} {g : MA} {env : Env} {m m1 m2 : M} {d : D} {ds : List D} (h : f env m = some (.ok d m1)) (h2 : g env m1 = some (.ok ds m2)) : mCons f g env m = some (.ok (d :: ds) m2) := by unfold mCons; rw [h]; show EV.bnd (g env m1) _ = _; rw [h2]; rfl
theorem par_ok {i j : Nat} {f : MA} {env : Env} {m m1 : M} {d e : D} (h : f env m = some (.ok [d, e] m1)) : sPar i j f env m = some (.ok (.nx ((env.set i (some d)).set j (some e))) m1) := by unfold sPar; rw [h]; rfl
theorem op_okE {g : G2} {fa fb : ME} {env : Env} {m m1 m2 m3 : M} {x y z : D} (h : fa env m = some (.ok x m1)) (h2 : fb env m1 = some (.ok y m2)) (h3 : g x y m2 = some (.ok z m3)) : mOp g fa fb env m = some (.ok z m3) := by unfold mOp; rw [h]; show EV.bnd (fb env m1) _ = _; rw [h2]; exact h3
theorem call_okE {F : MF} {fa : MA} {env : Env} {m m1 m2 : M} {ds : List D} {d : D} (h : fa env m = some (.ok ds m1)) (h2 : callD F ds m1 = some (.ok d m2)) : mCall F fa env m = some (.ok d m2) := by unfold mCall; rw [h]; exact h2
theorem callK_okE {F : MF} {fa : MA} {env : Env} {m m1 m2 : M} {k : Nat} {ds : List D} {d : D} (h : fa env m = some (.ok (.ref k :: ds) m1)) (h2 : callK F k ds m1 = some (.ok d m2)) : mCallK F fa env m = some (.ok d m2) := by unfold mCallK; rw [h]; exact h2
theorem callD_ref {F : MF} {ds : List D} {m m1 m2 : M} {d e : D} (hp : pureDs ds = false) (h : F ds m = some (.ok d m1)) (g : gcr m.length d m1 = some (.ok e m2)) : callD F ds m = some (.ok e m2) := by unfold callD; rw [hp]; show EV.bnd (F ds m) _ = _; rw [h]; exact g
def endF (fl : Fl) (m' : M) : Option (Rs D) := match fl with
  | .rt d => some (.ok d m')
  | .nx _ => some (.ok .non m')
  | _ => none
theorem mDef_eq {n : Nat} {body : MS} {ds : List D} {m : M} {x : Option (Rs Fl)} (h : body (ds.map some ++ List.replicate (n - ds.length) none) m = x) : mDef n body ds m = EV.bnd x endF := by unfold mDef; rw [h]; rfl
end EV

set_option Elab.async false
set_option linter.all false
set_option maxRecDepth 100000
set_option maxHeartbeats 2000000
namespace EV
open PySem PySem.Spec PyProof.Rows L2
/-! ### a call on the lists that it is given, and those within them, alone -/
def memN (n : Nat) : List Nat → Bool
  | [] => false
  | a :: r => match Nat.beq a n with
    | true => true
    | false => memN n r
def ddp : List Nat → List Nat → List Nat
  | [], acc => acc.reverse
  | a :: r, acc => match memN a acc with
    | true => ddp r acc
    | false => ddp r (a :: acc)
def ndB : List Nat → Bool
  | [] => true
  | a :: r => match memN a r with
    | true => false
    | false => ndB r
def refsL : List D → List Nat
  | [] => []
  | .ref n :: r => n :: refsL r
  | _ :: r => refsL r
def innerL (m : M) : List Nat → List Nat
  | [] => []
  | n :: r => match m[n]? with
    | some (.lst xs) => refsL xs ++ innerL m r
    | _ => innerL m r
def selR (ds : List D) (m : M) : List Nat := let a := refsL ds; ddp (a ++ innerL m a) []
def posN (n : Nat) : List Nat → Nat → Option Nat
  | [], _ => none
  | a :: r, i => match Nat.beq a n with
    | true => some i
    | false => posN n r (i + 1)
def renD (sel : List Nat) (d : D) : Option D := match d with
  | .ref n => (match posN n sel 0 with
    | some i => some (.ref i)
    | none => none)
  | d => (match pureD d with
    | true => some d
    | false => none)
def renL (sel : List Nat) : List D → Option (List D)
  | [] => some []
  | d :: r => match renD sel d with
    | some d' => (match renL sel r with
      | some r' => some (d' :: r')
      | none => none)
    | none => none
def lsR (sel : List Nat) (m : M) : List Nat → Option (List (List D))
  | [] => some []
  | n :: r => match m[n]? with
    | some (.lst xs) => (match renL sel xs with
      | some xs' => (match lsR sel m r with
        | some l => some (xs' :: l)
        | none => none)
      | none => none)
    | _ => none
def unch : List (List D) → M → Bool
  | [], _ => true
  | xs :: r, m => match m with
    | .lst ys :: m => (match beqDs xs ys with
      | true => unch r m
      | false => false)
    | _ => false
/-- what comes of a call on lists that it leaves as they are -/
def callQ (F : MF) (ds : List D) (ls : List (List D)) : Option TR := match F ds (ls.map .lst) with
  | some (.ok d m') => (match unch ls m' with
    | true => (match pureD d with
      | true => some (.val d)
      | false => (match d with
        | .ref k => (match Nat.ble ls.length k with
          | true => (match m'[k]? with
            | some (.lst xs) => (match pureDs xs with
              | true => some (.lst xs)
              | false => none)
            | _ => none)
          | false => none)
        | _ => none))
    | false => none)
  | _ => none
def prepR (ds : List D) (m : M) : Option (List D × List (List D)) := let sel := selR ds m; match ndB sel with
  | true => (match renL sel ds with
    | some ds' => (match lsR sel m sel with
      | some ls => some (ds', ls)
      | none => none)
    | none => none)
  | false => none
def callR (F : MF) (ds : List D) (m : M) : Option (Rs D) := match prepR ds m with
  | some (ds', ls) => (match callQ F ds' ls with
    | some r => r.run m
    | none => none)
  | none => none
def mCallR (F : MF) (fa : MA) : ME := fun env m => bnd (fa env m) fun ds m1 => callR F ds m1
section
variable {X : Cx} {K : PySem.W.Frag} {w : Wi} {ρ : List Addr} {H : Hp} {m : M}
theorem memN_of : ∀ {l : List Nat} {n : Nat}, n ∈ l → memN n l = true
  | a :: r, n, h => by
    unfold memN
    cases e : Nat.beq a n with
    | true => rfl
    | false =>
      rcases List.mem_cons.mp h with h | h
      · subst h
        rw [Nat.beq_refl] at e
        cases e
      · exact memN_of h
theorem ndB_of : ∀ {l : List Nat}, ndB l = true → l.Nodup
  | [], _ => List.nodup_nil
  | a :: r, h => by
    unfold ndB at h
    cases e : memN a r with
    | true => rw [e] at h; cases h
    | false =>
      rw [e] at h
      exact List.nodup_cons.mpr ⟨fun z => (by rw [memN_of z] at e; cases e), ndB_of h⟩
theorem posN_at : ∀ {l : List Nat} {n i j : Nat}, posN n l i = some j → ∃ k, j = i + k ∧ l[k]? = some n
  | [], n, i, j, h => by cases h
  | a :: r, n, i, j, h => by
    unfold posN at h
    cases e : Nat.beq a n with
    | true =>
      rw [e] at h
      cases h
      exact ⟨0, rfl, by rw [Nat.eq_of_beq_eq_true e]; rfl⟩
    | false =>
      rw [e] at h
      obtain ⟨k, e1, e2⟩ := posN_at h
      exact ⟨k + 1, by omega, by simpa using e2⟩
/-- the places chosen -/
def pick (ρ : List Addr) (sel : List Nat) : List Addr := sel.map fun n => ρ.getD n 0
theorem lsR_at {sel : List Nat} : ∀ {l : List Nat} {ls : List (List D)}, lsR sel m l = some ls → ls.length = l.length ∧ ∀ (i n : Nat), l[i]? = some n → ∃ xs xs', m[n]? = some (O.lst xs) ∧ renL sel xs = some xs' ∧ ls[i]? = some xs'
  | [], ls, h => by cases h; exact ⟨rfl, fun i n e => by simp at e⟩
  | n :: r, ls, h => by
    unfold lsR at h
    split at h
    · rename_i xs e1
      split at h
      · rename_i xs' e2
        split at h
        · rename_i l e3
          cases h
          obtain ⟨a, b⟩ := lsR_at e3
          refine ⟨by simp [a], fun i k e => ?_⟩
          cases i with
          | zero => simp at e; subst e; exact ⟨xs, xs', e1, e2, rfl⟩
          | succ i => exact b i k (by simpa using e)
        · cases h
      · cases h
    · cases h
theorem unch_at : ∀ {ls : List (List D)} {m : M}, unch ls m = true → ∀ (i : Nat) (xs : List D), ls[i]? = some xs → m[i]? = some (O.lst xs)
  | [], m, _, i, xs, e => by simp at e
  | x :: r, m, h, i, xs, e => by
    unfold unch at h
    split at h
    · rename_i ys m'
      split at h
      · rename_i eb
        cases i with
        | zero => simp at e; subst e; rw [beqDs_eq eb]; rfl
        | succ i => simpa using unch_at h i xs (by simpa using e)
      · cases h
    · cases h
theorem rd_ren {sel : List Nat} {ρ' : List Addr} (hn : ∀ p vs, Rd H p (.tup vs) → p ∉ ρ') (hs : ∀ (i n : Nat) (p : Addr), sel[i]? = some n → ρ[n]? = some p → ρ'[i]? = some p) {d d' : D} {v : V} (e : renD sel d = some d') (r : rd K ρ H d v) : rd K ρ' H d' v := by
  unfold renD at e
  split at e
  · rename_i n
    split at e
    · rename_i i ep
      cases e
      obtain ⟨k, rfl, hk⟩ := posN_at ep
      obtain ⟨p, rfl, hp⟩ := rd_ref r
      exact rd_refI (by rw [Nat.zero_add]; exact hs k n p hk hp)
    · cases e
  · split at e
    · rename_i hp
      cases e
      exact rd.pure hn hp r
    · cases e
theorem rds_ren {sel : List Nat} {ρ' : List Addr} (hn : ∀ p vs, Rd H p (.tup vs) → p ∉ ρ') (hs : ∀ (i n : Nat) (p : Addr), sel[i]? = some n → ρ[n]? = some p → ρ'[i]? = some p) : ∀ {ds ds' : List D} {vs : List V}, renL sel ds = some ds' → rds K ρ H ds vs → rds K ρ' H ds' vs
  | [], ds', vs, e, r => by cases e; unfold rds at r ⊢; exact r
  | d :: ds, ds', vs, e, r => by
    unfold renL at e
    split at e
    · rename_i d1 e1
      split at e
      · rename_i r1 e2
        cases e
        unfold rds at r
        obtain ⟨v, t, rfl, h1, h2⟩ := r
        exact rds.cons (rd_ren hn hs e1 h1) (rds_ren hn hs e2 h2)
      · cases e
    · cases e
theorem rd_unren {sel : List Nat} {ρ' : List Addr} (hn : ∀ p vs, Rd H p (.tup vs) → p ∉ ρ) (hs : ∀ (i n : Nat) (p : Addr), sel[i]? = some n → ρ'[i]? = some p → ρ[n]? = some p) {d d' : D} {v : V} (e : renD sel d = some d') (r : rd K ρ' H d' v) : rd K ρ H d v := by
  unfold renD at e
  split at e
  · rename_i n
    split at e
    · rename_i i ep
      cases e
      obtain ⟨k, rfl, hk⟩ := posN_at ep
      obtain ⟨p, rfl, hp⟩ := rd_ref r
      rw [Nat.zero_add] at hp
      exact rd_refI (hs k n p hk hp)
    · cases e
  · split at e
    · rename_i hp
      cases e
      exact rd.pure hn hp r
    · cases e
theorem rds_unren {sel : List Nat} {ρ' : List Addr} (hn : ∀ p vs, Rd H p (.tup vs) → p ∉ ρ) (hs : ∀ (i n : Nat) (p : Addr), sel[i]? = some n → ρ'[i]? = some p → ρ[n]? = some p) : ∀ {ds ds' : List D} {vs : List V}, renL sel ds = some ds' → rds K ρ' H ds' vs → rds K ρ H ds vs
  | [], ds', vs, e, r => by cases e; unfold rds at r ⊢; exact r
  | d :: ds, ds', vs, e, r => by
    unfold renL at e
    split at e
    · rename_i d1 e1
      split at e
      · rename_i r1 e2
        cases e
        unfold rds at r
        obtain ⟨v, t, rfl, h1, h2⟩ := r
        exact rds.cons (rd_unren hn hs e1 h1) (rds_unren hn hs e2 h2)
      · cases e
    · cases e
theorem pick_at {sel : List Nat} (hm : HRel K ρ H m) {i n : Nat} {o : O} (e : sel[i]? = some n) (em : m[n]? = some o) : ∃ p, ρ[n]? = some p ∧ (pick ρ sel)[i]? = some p := by
  have hn : n < ρ.length := by rw [hm.len]; exact (List.getElem?_eq_some_iff.mp em).1
  refine ⟨ρ[n], List.getElem?_eq_getElem hn, ?_⟩
  unfold pick
  rw [List.getElem?_map, e]
  simp [List.getElem?_eq_getElem hn]
theorem callR_ok {F : MF} {n : Nat} {ds : List D} {vs : List V} {Q : VK} (hm : HRel K ρ H m) (r : rds K ρ H ds vs) (hn : vs.length = n)
    (q : W K w ρ H (callR F ds m) fun d _ ρ' H' => ∀ v, rd K ρ' H' d v → Q v H') : spF K w.cls n F vs H Q w.E := by
  unfold callR at q
  split at q
  rotate_left
  · exact q.elim
  rename_i ds' ls ep
  split at q
  rotate_left
  · exact q.elim
  rename_i tr eq
  unfold prepR at ep
  simp only at ep
  generalize hsel : selR ds m = sel at ep
  split at ep
  rotate_left
  · cases ep
  rename_i hnd
  split at ep
  rotate_left
  · cases ep
  rename_i ds1 eds
  split at ep
  rotate_left
  · cases ep
  rename_i ls1 els
  cases ep
  have hnd := ndB_of hnd
  obtain ⟨hlen, hat⟩ := lsR_at els
  -- the places
  have hpk : ∀ (i n : Nat), sel[i]? = some n → ∃ p xs xs', ρ[n]? = some p ∧ (pick ρ sel)[i]? = some p ∧ m[n]? = some (O.lst xs) ∧ renL sel xs = some xs' ∧ ls[i]? = some xs' := fun i n e => by
    obtain ⟨xs, xs', e1, e2, e3⟩ := hat i n e
    obtain ⟨p, p1, p2⟩ := pick_at hm e e1
    exact ⟨p, xs, xs', p1, p2, e1, e2, e3⟩
  have hplen : (pick ρ sel).length = sel.length := by unfold pick; simp
  have hback : ∀ (i : Nat) (p : Addr), (pick ρ sel)[i]? = some p → ∃ n, sel[i]? = some n ∧ ρ[n]? = some p := fun i p e => by
    have hi : i < sel.length := by rw [← hplen]; exact (List.getElem?_eq_some_iff.mp e).1
    obtain ⟨p', xs, xs', a, b, _⟩ := hpk i sel[i] (List.getElem?_eq_getElem hi)
    rw [b] at e
    cases e
    exact ⟨sel[i], List.getElem?_eq_getElem hi, a⟩
  have hsub : ∀ p, p ∈ pick ρ sel → p ∈ ρ := fun p hp => by
    obtain ⟨i, hi, e⟩ := List.getElem_of_mem hp
    obtain ⟨n, _, b⟩ := hback i p (by rw [List.getElem?_eq_getElem hi, e])
    exact List.mem_of_getElem? b
  have hs : ∀ (i n : Nat) (p : Addr), sel[i]? = some n → ρ[n]? = some p → (pick ρ sel)[i]? = some p := fun i n p e ep => by
    obtain ⟨p', xs, xs', a, b, _⟩ := hpk i n e
    rw [a] at ep
    cases ep
    exact b
  have hn1 : ∀ p vs, Rd H p (.tup vs) → p ∉ pick ρ sel := fun p vs e hp => hm.noTupR e (hsub p hp)
  have hnd2 : (pick ρ sel).Nodup := by
    rw [List.nodup_iff_pairwise_ne, List.pairwise_iff_getElem]
    intro i j hi hj hij e
    obtain ⟨a, a1, a2⟩ := hback i _ (List.getElem?_eq_getElem hi)
    obtain ⟨b, b1, b2⟩ := hback j _ (List.getElem?_eq_getElem hj)
    rw [e] at a2
    obtain ⟨l1, e1⟩ := List.getElem?_eq_some_iff.mp a2
    obtain ⟨l2, e2⟩ := List.getElem?_eq_some_iff.mp b2
    have hab := (List.getElem_inj hm.nd).mp (e1.trans e2.symm)
    subst hab
    obtain ⟨l3, e3⟩ := List.getElem?_eq_some_iff.mp a1
    obtain ⟨l4, e4⟩ := List.getElem?_eq_some_iff.mp b1
    have := (List.getElem_inj hnd).mp (e3.trans e4.symm)
    omega
  have hm1 : HRel K (pick ρ sel) H (ls.map O.lst) := by
    refine ⟨by rw [hplen, List.length_map, hlen], hnd2, fun j z o h1 h2 => ?_⟩
    obtain ⟨n, e1, e2⟩ := hback j z h1
    obtain ⟨p, xs, xs', a, b, c, d, e⟩ := hpk j n e1
    rw [a] at e2
    cases e2
    rw [List.getElem?_map, e] at h2
    cases h2
    obtain ⟨us, u1, u2⟩ := hm.obj n z _ a c
    exact ⟨us, u1, rds_ren hn1 hs d u2⟩
  refine ⟨hn, pick ρ sel, ls.map .lst, ds', hm1, rds_ren hn1 hs eds r, ?_⟩
  unfold callQ at eq
  cases hF : F ds' (ls.map .lst) with
  | none => rw [hF] at eq; cases eq
  | some rs =>
    rw [hF] at eq
    cases rs with
    | ex c m' => cases eq
    | ok d m' =>
      simp only at eq
      intro ρ' H' e' hm' v rv
      split at eq
      rotate_left
      · cases eq
      rename_i hun
      have hu := unch_at hun
      have ext : Ext ρ H ρ H' := ⟨⟨[], by simp⟩, fun z o hz hn => e'.fr z o hz (fun y => hn (hsub z y)), e'.kp, e'.fz⟩
      have other : ∀ z ∈ ρ, z ∉ pick ρ sel → H' z = H z := fun z hz hne => by
        cases hq : H z with
        | none => exact absurd hq (hm.here hz)
        | some o => exact e'.fr z o hq hne
      have same : ∀ (i : Nat) (z : Addr), (pick ρ sel)[i]? = some z → ∃ xs' us, ls[i]? = some xs' ∧ H' z = some (.lst us) ∧ rds K ρ' H' xs' us := fun i z e => by
        obtain ⟨n, e1, e2⟩ := hback i z e
        obtain ⟨p, xs, xs', a, b, c, d, f⟩ := hpk i n e1
        obtain ⟨us, u1, u2⟩ := hm'.obj i z _ (e'.get e) (hu i xs' f)
        exact ⟨xs', us, f, u1, u2⟩
      have hn2 : ∀ z ws, Rd H' z (.tup ws) → z ∉ ρ := fun z ws e hz => by
        by_cases ez : z ∈ pick ρ sel
        · obtain ⟨i, hi, ei⟩ := List.getElem_of_mem ez
          obtain ⟨xs', us, _, a1, _⟩ := same i z (by rw [List.getElem?_eq_getElem hi, ei])
          rcases e with e | ⟨o, e⟩ <;> (rw [a1] at e; cases e)
        · have eq2 := other z hz ez
          have e2 : Rd H z (.tup ws) := by
            rcases e with e | ⟨o, e⟩
            · exact .inl (by rw [← eq2]; exact e)
            · exact .inr ⟨o, by rw [← eq2]; exact e⟩
          exact hm.noTupR e2 hz
      have hs2 : ∀ (i n : Nat) (p : Addr), sel[i]? = some n → ρ'[i]? = some p → ρ[n]? = some p := fun i n p e ep => by
        obtain ⟨p', xs, xs', a, b, _⟩ := hpk i n e
        rw [e'.get b] at ep
        cases ep
        exact a
      have hm2 : HRel K ρ H' m := by
        refine ⟨hm.len, hm.nd, fun j z o h1 h2 => ?_⟩
        by_cases ez : z ∈ pick ρ sel
        · obtain ⟨i, hi, ei⟩ := List.getElem_of_mem ez
          have e0 : (pick ρ sel)[i]? = some z := by rw [List.getElem?_eq_getElem hi, ei]
          obtain ⟨n, e1, e2⟩ := hback i z e0
          have hjn : j = n := by
            obtain ⟨l1, f1⟩ := List.getElem?_eq_some_iff.mp h1
            obtain ⟨l2, f2⟩ := List.getElem?_eq_some_iff.mp e2
            exact (List.getElem_inj hm.nd).mp (f1.trans f2.symm)
          subst hjn
          obtain ⟨p, xs, xs', a, b, c, d', f⟩ := hpk i j e1
          rw [c] at h2
          cases h2
          obtain ⟨xs2, us, g1, g2, g3⟩ := same i z e0
          rw [f] at g1
          cases g1
          exact ⟨us, g2, rds_unren hn2 hs2 d' g3⟩
        · exact (hm.obj j z o h1 h2).keep ext (other z (List.mem_of_getElem? h1) ez)
      split at eq
      · rename_i hpd
        cases eq
        exact q ρ H' ext hm2 v (rd.pure hn2 hpd rv)
      · split at eq
        rotate_left
        · cases eq
        rename_i k hpf
        split at eq
        rotate_left
        · cases eq
        rename_i hk
        split at eq
        rotate_left
        · cases eq
        rename_i xs hxs
        split at eq
        rotate_left
        · cases eq
        rename_i hpx
        cases eq
        obtain ⟨p, rfl, hpk'⟩ := rd_ref rv
        obtain ⟨us, a, b⟩ := hm'.obj k p _ hpk' hxs
        have hk : ls.length ≤ k := Nat.le_of_ble_eq_true hk
        have hfresh : H p = none := by
          obtain ⟨t, et, ht⟩ := e'.pre
          refine ht p ?_
          rw [et, List.getElem?_append_right (by rw [hplen, ← hlen]; exact hk)] at hpk'
          exact List.mem_of_getElem? hpk'
        have hpn : p ∉ ρ := fun z => hm.here z hfresh
        have hm3 := hm2.adopt hpn a (rds.pure hn2 hpx b)
        have ext2 : Ext ρ H (ρ ++ [p]) H' := ⟨⟨[p], rfl, fun z hz => by simp at hz; subst hz; exact hfresh⟩, ext.fr, ext.kp, ext.fz⟩
        refine (show W K w ρ H (newL xs m) _ from q) _ _ ext2 hm3 _ (rd_refI ?_)
        rw [← hm.len, List.getElem?_append_right (Nat.le_refl _)]
        simp
theorem callR_lift {F : MF} {n : Nat} {fa : MA} {σ : SLT} {Q : VK} (hn : MA.len n fa) (q : tE K w (mCallR F fa) σ H Q) : tCall (spF K w.cls n F) [] w.E (tA K w fa) σ H Q := by
  obtain ⟨ρ, env, m, hm, he, q⟩ := q
  refine ⟨ρ, env, m, hm, he, ?_⟩
  have q1 := W.bnd q
  cases ef : fa env m with
  | none => rw [ef] at q1; exact q1.elim
  | some o =>
    rw [ef] at q1
    cases o with
    | ex c m' => exact q1
    | ok ds m' =>
      intro ρ1 H1 e1 hm1 vs r
      have q2 := q1 ρ1 H1 e1 hm1
      rw [List.append_nil]
      exact callR_ok hm1 r (by rw [← r.length]; exact hn env m _ m' ef) q2
theorem se_callR {CX : CXT} {k : Nat} {f : Addr} {fd : FuncData} {ps : List Str} {F : MF} {n : Nat} {x : Str} {p pos : Pos} {e : Expr} {es : List Expr} {fa : MA} (G : FnOk X.prog X.w X.K X.mg X.base CX k f fd ps (spF X.K w.cls n F)) (hr : Room k X.A) (hg : Gl X x) (hm : X.mg x = some (.ref f)) (hk : PySem.W.keepIn X.K (.ref f) = true) (hb : Binds X.K fd ps [])
    (hx : Passes CX X w.E) (ha : PA X (e :: es) (tA X.K w fa)) (hn : MA.len n fa) (hdb : (x == ("__debug__" : Str)) = false := by decide) (he : starEach (e :: es) X.env = (false, eval e X.env) :: starEach es X.env := by rfl) (hpl : (backTo pos (starEach es X.env)).any (·.1) = false := by rfl) :
    PE X (.Call (.Name x p) (e :: es) [] pos) (tE X.K w (mCallR F fa)) := (pe_call G hr hg hm hk hb .nil hx ha hdb he hpl).weak fun _ _ _ q => callR_lift hn q
end
/-! ### tables of such calls -/
def unTup : List D → List (List D)
  | [] => []
  | .tup xs :: r => xs :: unTup r
  | _ :: r => unTup r
theorem unTup_map : ∀ ls : List (List D), unTup (ls.map D.tup) = ls
  | [] => rfl
  | x :: r => by show x :: unTup (r.map D.tup) = _; rw [unTup_map r]
def okQ (F : MF) (k : List D) (x : TR) : Prop := match k with
  | .tup as :: ds => ∀ ls : List (List D), as = ls.map D.tup → callQ F ds ls = some x
  | _ => False
def OkR (F : MF) (pre : List D) (T : Tab) : Prop := ∀ r x, T r = some x → okQ F (pre ++ r) x
theorem okr_leaf {F : MF} {as ds : List D} {x : TR} (h : callQ F ds (unTup as) = some x) : OkR F (.tup as :: ds) (tLeaf x) := fun r y e => by
  unfold tLeaf at e
  split at e
  · cases e
    rw [List.append_nil]
    intro ls e
    subst e
    rw [unTup_map] at h
    exact h
  · cases e
theorem okr_nil {F : MF} {pre : List D} : OkR F pre (tNode []) := fun r y e => by
  unfold tNode at e
  split at e
  · cases e
  · cases e
theorem okr_cons {F : MF} {pre : List D} {d : D} {T : Tab} {l : List (D × Tab)} (h : OkR F (pre ++ [d]) T) (t : OkR F pre (tNode l)) : OkR F pre (tNode ((d, T) :: l)) := fun r y e => by
  unfold tNode at e
  split at e
  · rename_i d' r'
    unfold tFind at e
    split at e
    · rename_i eb
      rw [← beqD_eq eb]
      have := h r' y e
      rw [List.append_assoc] at this
      exact this
    · exact t (d' :: r') y e
  · cases e
def callRT (T : Tab) (F : MF) (ds : List D) (m : M) : Option (Rs D) := match prepR ds m with
  | some (ds', ls) => (match T (.tup (ls.map .tup) :: ds') with
    | some r => r.run m
    | none => (match callQ F ds' ls with
      | some r => r.run m
      | none => none))
  | none => none
def mCallRT (T : Tab) (F : MF) (fa : MA) : ME := fun env m => bnd (fa env m) fun ds m1 => callRT T F ds m1
theorem callRT_eq {T : Tab} {F : MF} (ok : OkR F [] T) : callRT T F = callR F := by
  funext ds m
  unfold callRT callR
  split
  · rename_i ds' ls e
    split
    · rename_i r h
      have := ok _ _ h
      rw [List.nil_append] at this
      rw [this ls rfl]
    · rfl
  · rfl
theorem mCallRT_eq {T : Tab} {F : MF} (ok : OkR F [] T) : mCallRT T F = mCallR F := by
  funext fa env m
  unfold mCallRT mCallR
  rw [callRT_eq ok]
end EV

set_option Elab.async false
set_option linter.all false
set_option maxRecDepth 100000
set_option maxHeartbeats 2000000
namespace EV
open PySem PySem.Spec PyProof.Rows L2
section
variable {X : Cx} {K : PySem.W.Frag} {w : Wi} {ρ : List Addr} {H : Hp} {m : M}
/-! ### division by numbers of any sign -/
def fModN (i j : Int) : Option Int := if decide (j = 0) then none else some (i.fmod j)
theorem modN_ok : OpD K w (rI (fun _ j => j ≠ 0) fun i j => .int (i.fmod j)) (gI fModN) := gI_ok fun i j z h => by
  unfold fModN at h
  split at h
  · cases h
  · rename_i c
    cases h
    exact ⟨fun e => c (decide_eq_true e), rfl⟩
def fFdivN (i j : Int) : Option Int := if decide (j = 0) then none else if Nat.blt j.natAbs 1073741824 then some (i.fdiv j) else none
theorem fdivN_ok : OpD K w (rI CDivN fun i j => .int (i.fdiv j)) (gI fFdivN) := gI_ok fun i j z h => by
  unfold fFdivN at h
  split at h
  · cases h
  · rename_i c
    split at h
    · rename_i c2
      cases h
      exact ⟨⟨fun e => c (decide_eq_true e), by simpa [Nat.blt_eq] using c2⟩, rfl⟩
    · cases h
/-! ### list(range(..)) -/
def rgD (a b : Int) : List D := (List.range (b - a).toNat).map fun i => .int (a + (i : Nat))
theorem rds.rg (a b : Int) : rds K ρ H (rgD a b) (rgV a b) := by
  have h : ∀ l : List Nat, rds K ρ H (l.map fun i => D.int (a + (i : Nat))) (l.map fun i => V.int (a + (i : Nat))) := fun l => by
    induction l with
    | nil => exact rds.nil
    | cons x l ih => exact rds.cons rd_intI ih
  exact h _
def okRg (a b : Int) : Bool := decide (0 ≤ a) && decide (b ≤ 16777216) && decide (a ≤ 16777216) && decide (0 ≤ b)
theorem okRg_ok {a b : Int} (h : okRg a b = true) : RgOk a b := by
  unfold okRg at h
  simp only [Bool.and_eq_true, decide_eq_true_eq] at h
  exact RgOk.of_le h.1.1.1 h.1.1.2 h.1.2 h.2
def mRg1 (f : ME) : ME := fun env m => bnd (f env m) fun d m1 => match d with
  | .int n => gif (okRg 0 n) (newL (rgD 0 n) m1)
  | _ => none
def mRg2 (f g : ME) : ME := fun env m => bnd (f env m) fun d m1 => bnd (g env m1) fun e m2 => match d, e with
  | .int a, .int b => gif (okRg a b) (newL (rgD a b) m2)
  | _, _ => none
theorem rg1_lift {f : ME} {σ : SLT} {Q : VK} (q : tE K w (mRg1 f) σ H Q) : tLstRg (tRg1 (tE K w f)) σ H Q := by
  obtain ⟨ρ, env, m, hm, he, q⟩ := q
  refine ⟨ρ, env, m, hm, he, q.bnd.imp fun d m1 ρ1 H1 e1 hm1 q1 x r1 => ?_⟩
  split at q1
  · rename_i n
    obtain ⟨hr, q1⟩ := q1.gif
    refine ⟨n, rd_int r1, okRg_ok hr, fun p hp => ?_⟩
    obtain ⟨ρ', m', c, q⟩ := W.newL q1 hm1 hp (rds.rg 0 n)
    exact q _ c
  · exact q1.elim
theorem rg2_lift {f g : ME} {σ : SLT} {Q : VK} (q : tE K w (mRg2 f g) σ H Q) : tLstRg (tRg2 (tE K w f) (tE K w g)) σ H Q := by
  obtain ⟨ρ, env, m, hm, he, q⟩ := q
  refine ⟨ρ, env, m, hm, he, q.bnd.imp fun d m1 ρ1 H1 e1 hm1 q1 x r1 => ⟨ρ1, env, m1, hm1, he.mono e1, q1.bnd.imp fun e m2 ρ2 H2 e2 hm2 q2 y r2 => ?_⟩⟩
  split at q2
  · rename_i a b
    obtain ⟨hr, q2⟩ := q2.gif
    refine ⟨a, b, rd_int (r1.mono e2), rd_int r2, okRg_ok hr, fun p hp => ?_⟩
    obtain ⟨ρ', m', c, q⟩ := W.newL q2 hm2 hp (rds.rg a b)
    exact q _ c
  · exact q2.elim
theorem se_rg1 {e : Expr} {f : ME} (h : PE X e (tLstRg (tRg1 (tE X.K w f)))) : PE X e (tE X.K w (mRg1 f)) := h.weak fun _ _ _ q => rg1_lift q
theorem se_rg2 {e : Expr} {f g : ME} (h : PE X e (tLstRg (tRg2 (tE X.K w f) (tE X.K w g)))) : PE X e (tE X.K w (mRg2 f g)) := h.weak fun _ _ _ q => rg2_lift q
/-! ### gcd -/
def gGcd (d e : D) (m : M) : Option (Rs D) := match d, e with
  | .int a, .int b => some (.ok (.int ((Nat.gcd a.natAbs b.natAbs : Nat) : Int)) m)
  | _, _ => none
theorem gcd_ok : CallD K w rGcd (two gGcd) := by
  intro ρ H m vs ds Q hm r e
  unfold two at e
  split at e
  · rename_i d e'
    unfold rds at r
    obtain ⟨v, t, rfl, h1, h2⟩ := r
    unfold rds at h2
    obtain ⟨v2, t2, rfl, h3, h4⟩ := h2
    unfold rds at h4
    subst h4
    unfold gGcd at e
    split at e
    · exact ⟨_, _, by rw [rd_int h1, rd_int h3], e.ok hm _ rd_intI⟩
    · exact e.elim
  · exact e.elim
/-! ### d.get(k, x) -/
def mGet2 (f g x : ME) : ME := fun env m => bnd (f env m) fun d m1 => match d with
  | .ref n => (match dO m1[n]? with
    | some _ => bnd (g env m1) fun k m2 => bnd (x env m2) fun z m3 => (match dO m3[n]? with
      | some (t, kvs) => gif (kOk t k) (some (.ok ((dget kvs k).getD z) m3))
      | none => none)
    | none => none)
  | _ => none
theorem get2_lift {f g x : ME} {σ : SLT} {Q : VK} (q : tE K w (mGet2 f g x) σ H Q) : tDGet2 (tE K w f) (tE K w g) (tE K w x) σ H Q := by
  obtain ⟨ρ, env, m, hm, he, q⟩ := q
  refine ⟨ρ, env, m, hm, he, q.bnd.imp fun d m1 ρ1 H1 e1 hm1 q1 x r1 => ?_⟩
  cases d with
  | ref n =>
    obtain ⟨p, rfl, hp⟩ := rd_ref r1
    simp only at q1
    cases ed : dO m1[n]? with
    | none => rw [ed] at q1; exact q1.elim
    | some q0 =>
      rw [ed] at q1
      refine ⟨p, rfl, isD_of hm1 hp ed, ρ1, env, m1, hm1, he.mono e1, q1.bnd.imp fun k m2 ρ2 H2 e2 hm2 q2 y r2 => ⟨ρ2, env, m2, hm2, (he.mono e1).mono e2, q2.bnd.imp fun z m3 ρ3 H3 e3 hm3 q3 v3 r3 => ?_⟩⟩
      cases ed2 : dO m3[n]? with
      | none => rw [ed2] at q3; exact q3.elim
      | some q4 =>
        obtain ⟨t, kvs⟩ := q4
        rw [ed2] at q3
        obtain ⟨hk, q3⟩ := q3.gif
        rcases dget_ok hm3 (e3.get (e2.get hp)) ed2 hk (r2.mono e3) with ⟨d', v, e4, g', r⟩ | ⟨e4, g'⟩
        · rw [e4] at q3
          exact ⟨some v, g', q3.ok hm3 v r⟩
        · rw [e4] at q3
          exact ⟨none, g', q3.ok hm3 _ r3⟩
  | _ => exact q1.elim
theorem se_get2 {o e e2 : Expr} {apos cpos : Pos} {f g x : ME} (h : PE X (.Call (.Attribute o "get" apos) [e, e2] [] cpos) (tDGet2 (tE X.K w f) (tE X.K w g) (tE X.K w x))) : PE X (.Call (.Attribute o "get" apos) [e, e2] [] cpos) (tE X.K w (mGet2 f g x)) := h.weak fun _ _ _ q => get2_lift q
/-! ### l.pop() -/
def lastD : List D → Option D
  | [] => none
  | [d] => some d
  | _ :: r => lastD r
def mPop (f : ME) : ME := fun env m => bnd (f env m) fun d m1 => match d with
  | .ref n => (match m1[n]? with
    | some (.lst xs) => (match xs[xs.length - 1]? with
      | some y => some (.ok y (m1.set n (.lst xs.dropLast)))
      | none => none)
    | _ => none)
  | _ => none
theorem rds.dropLast : ∀ {ds : List D} {vs : List V}, rds K ρ H ds vs → rds K ρ H ds.dropLast vs.dropLast
  | [], vs, h => by
    unfold rds at h
    subst h
    exact rds.nil
  | [d], vs, h => by
    unfold rds at h
    obtain ⟨v, t, rfl, h1, h2⟩ := h
    unfold rds at h2
    subst h2
    exact rds.nil
  | d :: e :: r, vs, h => by
    unfold rds at h
    obtain ⟨v, t, rfl, h1, h2⟩ := h
    have h2' := h2
    unfold rds at h2'
    obtain ⟨v2, t2, rfl, h3, h4⟩ := h2'
    exact rds.cons h1 (rds.dropLast h2)
theorem pop_lift {f : ME} {σ : SLT} {Q : VK} (q : tE K w (mPop f) σ H Q) : tBM0 K "list" rPop (tE K w f) σ H Q := by
  obtain ⟨ρ, env, m, hm, he, q⟩ := q
  refine ⟨ρ, env, m, hm, he, q.bnd.imp fun d m1 ρ1 H1 e1 hm1 q1 x r1 => ?_⟩
  cases d with
  | ref n =>
    simp only at q1
    split at q1
    · rename_i xs eo
      split at q1
      · rename_i y ey
        obtain ⟨p, rfl, hp⟩ := rd_ref r1
        obtain ⟨vs, a, b⟩ := hm1.obj n p _ hp eo
        obtain ⟨v, ev, rv⟩ := b.get ey
        have hpm : p ∈ ρ1 := List.mem_of_getElem? hp
        have e2 : Ext ρ1 H1 ρ1 (upd H1 p (.lst vs.dropLast)) := Ext.put hpm (by rw [a]; simp) (by rw [a]; intro _ _ z; cases z)
        refine ⟨.inl ⟨rfl, vs, .inl (.inl a)⟩, p, vs, v, rfl, rfl, a, by rw [← b.length]; exact ev, ?_⟩
        exact q1 _ _ e2 (hm1.put hp ⟨_, upd_same, b.dropLast.mono e2⟩) _ (rv.mono e2)
      · exact q1.elim
    · exact q1.elim
  | _ => exact q1.elim
theorem se_pop {o : Expr} {apos cpos : Pos} {f : ME} (h : PE X (.Call (.Attribute o "pop" apos) [] [] cpos) (tBM0 X.K "list" rPop (tE X.K w f))) : PE X (.Call (.Attribute o "pop" apos) [] [] cpos) (tE X.K w (mPop f)) := h.weak fun _ _ _ q => pop_lift q
/-! ### l.pop(i) -/
theorem rds.eraseIdx : ∀ {ds : List D} {vs : List V} (k : Nat), rds K ρ H ds vs → rds K ρ H (ds.eraseIdx k) (vs.eraseIdx k)
  | [], vs, k, h => by
    unfold rds at h
    subst h
    exact rds.nil
  | d :: r, vs, 0, h => by
    unfold rds at h
    obtain ⟨v, t, rfl, h1, h2⟩ := h
    exact h2
  | d :: r, vs, k + 1, h => by
    unfold rds at h
    obtain ⟨v, t, rfl, h1, h2⟩ := h
    exact rds.cons h1 (rds.eraseIdx k h2)
def gPopAt (d : D) (ds : List D) (m : M) : Option (Rs D) := match d, ds with
  | .ref n, [.int i] => (match m[n]? with
    | some (.lst xs) => gif (ok62 i) (match seqIndex? i xs.length with
      | some k => (match xs[k]? with
        | some y => some (.ok y (m.set n (.lst (xs.eraseIdx k))))
        | none => none)
      | none => none)
    | _ => none)
  | _, _ => none
theorem popAt_ok : MtD K w rPopAt "list" gPopAt := by
  intro ρ H m x d vs ds Q hm r rs h
  unfold gPopAt at h
  split at h
  · rename_i n i
    split at h
    · rename_i xs eo
      obtain ⟨hb, h⟩ := h.gif
      split at h
      · rename_i k ek
        split at h
        · rename_i y ey
          obtain ⟨p, rfl, hp⟩ := rd_ref r
          obtain ⟨us, a, b⟩ := hm.obj n p _ hp eo
          obtain ⟨v, ev, rv⟩ := b.get ey
          obtain ⟨u, rfl, ru⟩ := rds1 rs
          have hpm : p ∈ ρ := List.mem_of_getElem? hp
          have e2 : Ext ρ H ρ (upd H p (.lst (us.eraseIdx k))) := Ext.put hpm (by rw [a]; simp) (by rw [a]; intro _ _ z; cases z)
          unfold ok62 at hb
          simp only [Bool.and_eq_true, decide_eq_true_eq] at hb
          refine ⟨p, us, i, k, v, rfl, by rw [rd_int ru], a, by omega, by omega, by rw [← b.length]; exact ek, ev, ?_⟩
          exact h _ _ e2 (hm.put hp ⟨_, upd_same, (b.eraseIdx k).mono e2⟩) _ (rv.mono e2)
        · exact h.elim
      · exact h.elim
    · exact h.elim
  · exact h.elim
theorem se_popAt {o e : Expr} {apos cpos : Pos} {f : ME} {fa : MA} (h : PE X (.Call (.Attribute o "pop" apos) [e] [] cpos) (tBM X.K "list" rPopAt (tE X.K w f) (tA X.K w fa))) : PE X (.Call (.Attribute o "pop" apos) [e] [] cpos) (tE X.K w (mMt isL gPopAt f fa)) :=
  h.weak fun _ _ _ q => mt_lift (fun _ _ _ _ _ => isL_ty) popAt_ok q
theorem ss_setLc2 {i : Nat} {y : Str} {py spos pos : Pos} {elt tg iter tg1 iter1 : Expr} {ifs ifs1 : List Expr} {scope : Scope} {own : List (Str × Nat)} {vs1 : List Nat} {fi fi1 : MI} {p p1 : Pat} {tt tt1 : MT} {te : ME} (hc : X.calm = true) (hN : X.N.Nodup) (hy : X.N[i]? = some y) (hyl : X.env.scope.names.lookup y = some .local)
    (hsw : swapsWith (.ListComp elt [⟨tg, iter, ifs, 0⟩, ⟨tg1, iter1, ifs1, 0⟩] scope pos) (some (.Name y py)) spos.line X.env = pure true) (hi : PI X tg iter (tI X.K w fi)) (ok : BlkOk X.N X.env.scope scope own) (hv : ∀ i ∈ vs1, i ∈ own.map (·.2)) (hp : ∀ i ∈ p.slots, i ∈ own.map (·.2)) (hp1 : ∀ i ∈ p1.slots, i ∈ vs1)
    (hg : ∀ (s : Shared) (H : Hp) (C : Addr) (cl : List (Str × Addr)) (fp : List Addr), PG (X.blk s H scope (compEnvC scope cl C X.env) fp) tg (gP X.K p)) (ht : ∀ (s : Shared) (H : Hp) (C : Addr) (cl : List (Str × Addr)) (fp : List Addr), PTs (X.blk s H scope (compEnvC scope cl C X.env) fp) ifs (tT X.K w tt))
    (hi1 : ∀ (s : Shared) (H : Hp) (C : Addr) (cl : List (Str × Addr)) (fp : List Addr), PI (X.blk s H scope (compEnvC scope cl C X.env) fp) tg1 iter1 (tI X.K w fi1))
    (hg1 : ∀ (s : Shared) (H : Hp) (C : Addr) (cl : List (Str × Addr)) (fp : List Addr), PG (X.blk s H scope (compEnvC scope cl C X.env) fp) tg1 (gP X.K p1)) (ht1 : ∀ (s : Shared) (H : Hp) (C : Addr) (cl : List (Str × Addr)) (fp : List Addr), PTs (X.blk s H scope (compEnvC scope cl C X.env) fp) ifs1 (tT X.K w tt1))
    (he : ∀ (s : Shared) (H : Hp) (C : Addr) (cl : List (Str × Addr)) (fp : List Addr), PE (X.blk s H scope (compEnvC scope cl C X.env) fp) elt (tE X.K w te)) (hs : ∀ x, foldedSetIterable iter X.env x = pure x := by intro _; rfl) (hs1 : ∀ env x, foldedSetIterable iter1 env x = pure x := by intro _ _; rfl) :
    PS X (.Assign [.Name y py] (.ListComp elt [⟨tg, iter, ifs, 0⟩, ⟨tg1, iter1, ifs1, 0⟩] scope pos) spos) (tS X.K w (sSet i (mLc2 fi p (own.map (·.2)) tt fi1 p1 vs1 tt1 te))) := (ps_setLc2 hc hN hy hyl hsw hi ok hv hg ht hi1 hg1 ht1 he hs hs1).weak fun Dn σ H q => by
  obtain ⟨ρ, env, m, hm, he, q⟩ := q
  refine lc2_lift (w := w) hp hp1 ⟨ρ, env, m, hm, he, ?_⟩
  exact q.bnd.imp fun d m1 ρ1 H1 e1 hm1 q1 v r => q1.ok hm1 _ ((he.mono e1).set r)
end
end EV

set_option Elab.async false
set_option linter.all false
set_option maxRecDepth 100000
set_option maxHeartbeats 2000000
namespace EV
open PySem PySem.Spec PyProof.Rows L2
section
variable {X : Cx} {K : PySem.W.Frag} {w : Wi} {ρ : List Addr} {H : Hp} {m : M}
/-! ### list + list, also lists that are only read -/
def rCatL (K : PySem.W.Frag) : R2 := fun x y H Q => ∃ a b xs ys, x = .ref a ∧ y = .ref b ∧ SqL K H a xs ∧ SqL K H b ys ∧ xs.length + ys.length ≤ sizeLine ∧ ∀ p, H p = none → Q (.ref p) (upd H p (.lst (xs ++ ys)))
theorem op_catL : OpR X (binaryOp .Add) (rCatL X.K) := by
  intro pins s σ H x y v u Q I rx ry h
  obtain ⟨a, b, xs, ys, rfl, rfl, ha, hb, hz, q⟩ := h
  cases rx
  cases ry
  obtain ⟨its, r, p, _⟩ := I.list ha
  obtain ⟨its2, r2, p2, _⟩ := I.list hb
  obtain ⟨⟨cls, dd, data, sl⟩, n, ho, hc, hdd, hd⟩ := p
  obtain ⟨⟨cls2, dd2, data2, sl2⟩, n2, ho2, hc2, hdd2, hd2⟩ := p2
  simp only at hc hd hc2 hd2 hdd hdd2
  subst hc hd hc2 hd2 hdd hdd2
  refine concat_meets ⟨_, ho, rfl⟩ ⟨_, ho2, rfl⟩ noFill_list_add seq_list_add PySem.F.slot_list_add PySem.F.entry_list_add (PySem.F.args_list_add_2 _ _) (PyProof.Rows.list_addW a b its.toArray its2.toArray n n2 none none sl sl2 (by rw [List.size_toArray, List.size_toArray, ← r.length, ← r2.length]; exact hz)) ⟨ho, ho2, ?_⟩
  have ea : its.toArray ++ its2.toArray = (its ++ its2).toArray := by simp
  rw [ea]
  exact ⟨.ref _, _, I.lnew (t' := s.toks) (r.append r2) (by rw [List.length_append]; exact hz), rfl, q _ I.fresh⟩
/-- a list that is only read, and another one -/
def gAddL : G2 := fun x y m => match x, y with
  | .lcon xs, .ref b => (match lstO m[b]? with
    | some ys => gif (Nat.ble (xs.length + ys.length) lim) (newL (xs ++ ys) m)
    | none => none)
  | _, _ => none
theorem addL_ok : OpD K w (rCatL K) gAddL := by
  intro ρ H m x y dx dy Q hm rx ry e
  unfold gAddL at e
  split at e
  · rename_i xs b
    split at e
    · rename_i ys e2
      obtain ⟨hl, e⟩ := e.gif
      obtain ⟨pa, vs, rfl, h1, h2⟩ := rd_lcon rx
      obtain ⟨pb, rfl, g1⟩ := rd_ref ry
      obtain ⟨ws, b1, b2⟩ := lst_at hm g1 e2
      refine ⟨pa, pb, vs, ws, rfl, rfl, h1.sq, b1, by rw [← h2.length, ← b2.length]; exact lim_line hl, fun p hp => ?_⟩
      obtain ⟨ρ', m', c, q⟩ := e.newL hm hp (h2.append b2)
      exact q _ c
    · exact e.elim
  · exact e.elim
/-! ### greater numbers -/
def bigB (i : Int) : Bool := Nat.blt i.natAbs (2 ^ 1000)
theorem log2_lt {n : Nat} {k : Nat} (h : n < 2 ^ k) (hk : 0 < k) : n.log2 < k := by
  by_cases h0 : n = 0
  · subst h0; simpa using hk
  · exact (Nat.log2_lt h0).mpr h
theorem bigB_ok {i : Int} (h : bigB i = true) : i.natAbs.log2 < 1000 := by
  unfold bigB at h
  rw [Nat.blt_eq] at h
  exact log2_lt h (by decide)
def fMulB (i j : Int) : Option Int := if bigB i && bigB j then some (i * j) else none
theorem mulB_ok : OpD K w (rI CMulW fun i j => .int (i * j)) (gI fMulB) := gI_ok fun i j z h => by
  unfold fMulB at h
  split at h
  · rename_i c
    cases h
    rw [Bool.and_eq_true] at c
    have h1 := bigB_ok c.1
    have h2 := bigB_ok c.2
    exact ⟨by unfold CMulW; omega, rfl⟩
  · cases h
def fFdivB (i j : Int) : Option Int := if decide (0 < j) && bigB j then some (i / j) else none
theorem fdivB_ok : OpD K w (rI CDivW fun i j => .int (i / j)) (gI fFdivB) := gI_ok fun i j z h => by
  unfold fFdivB at h
  split at h
  · rename_i c
    cases h
    rw [Bool.and_eq_true] at c
    have h2 := bigB_ok c.2
    exact ⟨⟨of_decide_eq_true c.1, by omega⟩, rfl⟩
  · cases h
/-! ### a def that is given a def -/
def spR (K : PySem.W.Frag) (cls : Nat → Addr) (f : Addr) (n : Nat) (F : MF) : Sp := fun vs H Q E => ∃ r, vs = .ref f :: r ∧ spF K cls n F r H Q E
end
section
variable {X : Cx} {w : Wi} {pos : Pos}
theorem rd_refFn {f : Addr} : RelV (V.ref f) (Value.ref f) := rfl
/-- g(h, e, ..): h is a def -/
theorem se_callFn {CX : CXT} {k : Nat} {f h : Addr} {fd : FuncData} {ps : List Str} {F : MF} {n : Nat} {x y : Str} {p py : Pos} {e : Expr} {es : List Expr} {fa : MA} (G : FnOk X.prog X.w X.K X.mg X.base CX k f fd ps (spR X.K w.cls h n F)) (hr : Room k X.A) (hg : Gl X x) (hm : X.mg x = some (.ref f)) (hk : PySem.W.keepIn X.K (.ref f) = true) (hb : Binds X.K fd ps [])
    (hx : Passes CX X w.E) (hgy : Gl X y) (hmy : X.mg y = some (.ref h)) (ha : PA X (e :: es) (tA X.K w fa)) (hn : MA.len n fa) (hdb : (x == ("__debug__" : Str)) = false := by decide) (hdy : (y == ("__debug__" : Str)) = false := by decide)
    (he : starEach (.Name y py :: e :: es) X.env = (false, eval (.Name y py) X.env) :: starEach (e :: es) X.env := by rfl) (hpl : (backTo pos (starEach (e :: es) X.env)).any (·.1) = false := by rfl) :
    PE X (.Call (.Name x p) (.Name y py :: e :: es) [] pos) (tE X.K w (mCall F fa)) := (pe_call G hr hg hm hk hb .nil hx (pa_cons (pe_glob hgy hmy rd_refFn hdy) ha he) hdb he hpl).weak fun σ H Q q => by
  have q2 := call_lift hn q
  show tA X.K w fa σ H _
  obtain ⟨ρ, env, m, hm, he, q3⟩ := q2
  exact ⟨ρ, env, m, hm, he, q3.imp fun ds m1 ρ1 H1 e1 hm1 q4 vs r => ⟨vs ++ [], rfl, q4 vs r⟩⟩
/-- h(e, ..): a local name that holds the def h -/
def tSL (K : PySem.W.Frag) (w : Wi) (j : Nat) (h : Addr) (f : MS) : TS := fun Dn σ H => σ[j]? = some (some (.ref h)) ∧ tS K w f Dn σ H
theorem ss_callL {CX : CXT} {k i j : Nat} {h : Addr} {fd : FuncData} {ps : List Str} {F : MF} {n : Nat} {x y : Str} {p py pc : Pos} {e : Expr} {es : List Expr} {fa : MA} (G : FnOk X.prog X.w X.K X.mg X.base CX k h fd ps (spF X.K w.cls n F)) (hr : Room k X.A) (hNy : X.N[j]? = some y) (hv : Vis X.env.scope y) (hk : PySem.W.keepIn X.K (.ref h) = true) (hb : Binds X.K fd ps [])
    (hx : Passes CX X w.E) (ha : PA X (e :: es) (tA X.K w fa)) (hn : MA.len n fa) (hN : X.N.Nodup) (hi : X.N[i]? = some x) (hl : Loc X.env.scope x) (hs : swapsWith (.Call (.Name y py) (e :: es) [] pc) (some (.Name x p)) pos.line X.env = pure false) (hf : X.fn x = true ∨ X.env.scope.names.lookup x = some .local)
    (hdb : (y == ("__debug__" : Str)) = false := by decide) (hcd : (y == ("__classdict__" : Str)) = false := by decide)
    (he : starEach (e :: es) X.env = (false, eval e X.env) :: starEach es X.env := by rfl) (hpl : (backTo pc (starEach es X.env)).any (·.1) = false := by rfl) :
    PS X (.Assign [.Name x p] (.Call (.Name y py) (e :: es) [] pc) pos) (tSL X.K w j h (sSet i (mCall F fa))) := (ps_set hN hi hl (pe_callL (i := j) (dvs := []) G hr hNy hv hk hb .nil hx ha hdb hcd he hpl) hs hf).weak fun Dn σ H q => by
  obtain ⟨q0, q⟩ := q
  have q1 := set_lift q
  exact ⟨q0, call_lift hn q1⟩
theorem ss_consL {j : Nat} {h : Addr} {st : Stmt} {rest : List Stmt} {f g : MS} (h1 : PS X st (tSL X.K w j h f)) (h2 : PSs X rest (tS X.K w g)) : PSs X (st :: rest) (tSL X.K w j h (sSeq f g)) := (pss_cons h1 h2).weak fun Dn σ H q => ⟨q.1, seq_lift q.2⟩
end
section
variable {P : Program} {wd : World} {K : PySem.W.Frag} {mg : Str → Option Value} {base : Heap} {cls : Nat → Addr}
def mDefR (slots : Nat) (body : MS) : MF := fun ds m => bnd (body (none :: (ds.map some ++ List.replicate (slots - 1 - ds.length) none)) m) fun fl m' => match fl with
  | .rt d => some (.ok d m')
  | .nx _ => some (.ok .non m')
  | _ => none
theorem er_startR {ρ : List Addr} {H : Hp} {N : List Str} {ds : List D} {vs : List V} {h : Addr} (hN : N.length ≠ 0) (r : rds K ρ H ds vs) : ER K ρ H (none :: (ds.map some ++ List.replicate (N.length - 1 - ds.length) none)) (L2.start N (V.ref h :: vs)) := by
  cases N with
  | nil => exact absurd rfl hN
  | cons x N =>
    have e := er_start (N := N) r
    have es : L2.start (x :: N) (V.ref h :: vs) = some (V.ref h) :: L2.start N vs := by
      unfold L2.start
      simp
    rw [es]
    refine ⟨?_, fun i d ei => ?_⟩
    · have := e.len
      simp only [List.length_cons, Nat.add_sub_cancel]
      rw [this]
    · cases i with
      | zero => cases ei
      | succ i => exact e.at_ i d ei
theorem ok_defR {x : Str} {st : Stmt} {f h : Addr} {fd : FuncData} {N : List Str} {p0 : Str} {ps : List Str} {k : Nat} (F : Fun K x x st f fd) (S : FnScope N (p0 :: ps) (defScope st)) (hN : N.length ≠ 0) {body : MS}
    (hb : ∀ (cdv : Value) (A : Around) (outer : List PySem.Env) (s : Shared) (H : Hp) (E : XK), Room k (A.deeper (envOfC x (defScope st) s.heap.objs.size f cdv)) → PSs (cxOf CX0 P wd K mg base N x (defScope st) f cdv A outer s H E).nox (defBody st) (tSL K ⟨E, cls⟩ 0 h body)) :
    FnOk P wd K mg base CX0 (k + 1) f fd (p0 :: ps) (spR K cls h ps.length (mDefR N.length body)) := by
  refine F.ok S (fun vs H Q E h => by obtain ⟨r, e, q⟩ := h; rw [e, List.length_cons, q.1, List.length_cons]) (fun cdv A outer s H vs Q E hr h => ?_)
  obtain ⟨r0, rfl, hn, ρ, m, ds, hm, r, q⟩ := h
  refine ⟨_, hb cdv A outer s H E hr, rfl, ρ, _, m, hm, er_startR hN r, q.bnd0.imp fun fl m' ρ' H' e' hm' q' => ?_⟩
  cases fl with
  | nx env => exact fun σ he => (W.at_ q' e' hm') _ rd_nonI
  | rt d => exact fun v rv => (W.at_ q' e' hm') v rv
  | bk env => exact q'.elim
  | ct env => exact q'.elim
end
end EV

set_option Elab.async false
set_option linter.all false
set_option maxRecDepth 100000
set_option maxHeartbeats 4000000
namespace EVP
open PySem PySem.Spec PyProof.Rows L2 EV
def topS (i : Nat) : Stmt := PySem.Challenge.pw_huesandrounds_k64_whole_drums_of_any_num.main.body.getD i (.Pass ⟨0, 0, 0, 0⟩)

abbrev s_is_int : Stmt := topS 1
abbrev s_is_within : Stmt := topS 2
abbrev s_check_number : Stmt := topS 8
abbrev s__check_sides : Stmt := topS 13
abbrev s__check_both : Stmt := topS 14
abbrev s_drum_rounds : Stmt := topS 15
abbrev s__power : Stmt := topS 21
abbrev s__ring_hues : Stmt := topS 18
abbrev s_drum_edge_hues : Stmt := topS 16
abbrev s_drum_face_hues : Stmt := topS 17
abbrev s__product : Stmt := topS 23
abbrev s__row_item : Stmt := topS 22
abbrev s_drum_pairings : Stmt := topS 19
abbrev s_drum_trees : Stmt := topS 20
abbrev s__law_drum : Stmt := topS 25
abbrev s__law_roll : Stmt := topS 26
abbrev s__law_some : Stmt := topS 27
abbrev s__law_rest : Stmt := topS 28



abbrev s__law_right : Stmt := topS 29
abbrev s__law_faces_right : Stmt := topS 30
abbrev s_law : Stmt := topS 31
abbrev c_LEAST_SIDES : D := .int 3
abbrev c_MOST_NUMBER : D := .int 1000000000000
abbrev c_MOST_SIDES : D := .int 1000000000000000000000000000000
structure Top (K : PySem.W.Frag) (mg : Str → Option Value) where
  f_is_int : Addr
  d_is_int : FuncData
  F_is_int : Fun K "is_int" "is_int" s_is_int f_is_int d_is_int
  g_is_int : mg "is_int" = some (.ref f_is_int)
  f_is_within : Addr
  d_is_within : FuncData
  F_is_within : Fun K "is_within" "is_within" s_is_within f_is_within d_is_within
  g_is_within : mg "is_within" = some (.ref f_is_within)
  f_check_number : Addr
  d_check_number : FuncData
  F_check_number : Fun K "check_number" "check_number" s_check_number f_check_number d_check_number
  g_check_number : mg "check_number" = some (.ref f_check_number)
  f__check_sides : Addr
  d__check_sides : FuncData
  F__check_sides : Fun K "_check_sides" "_check_sides" s__check_sides f__check_sides d__check_sides
  g__check_sides : mg "_check_sides" = some (.ref f__check_sides)
  f__check_both : Addr
  d__check_both : FuncData
  F__check_both : Fun K "_check_both" "_check_both" s__check_both f__check_both d__check_both
  g__check_both : mg "_check_both" = some (.ref f__check_both)
  f_drum_rounds : Addr
  d_drum_rounds : FuncData
  F_drum_rounds : Fun K "drum_rounds" "drum_rounds" s_drum_rounds f_drum_rounds d_drum_rounds
  g_drum_rounds : mg "drum_rounds" = some (.ref f_drum_rounds)
  f__power : Addr
  d__power : FuncData
  F__power : Fun K "_power" "_power" s__power f__power d__power
  g__power : mg "_power" = some (.ref f__power)
  f__ring_hues : Addr
  d__ring_hues : FuncData
  F__ring_hues : Fun K "_ring_hues" "_ring_hues" s__ring_hues f__ring_hues d__ring_hues
  g__ring_hues : mg "_ring_hues" = some (.ref f__ring_hues)
  f_drum_edge_hues : Addr
  d_drum_edge_hues : FuncData
  F_drum_edge_hues : Fun K "drum_edge_hues" "drum_edge_hues" s_drum_edge_hues f_drum_edge_hues d_drum_edge_hues
  g_drum_edge_hues : mg "drum_edge_hues" = some (.ref f_drum_edge_hues)
  f_drum_face_hues : Addr
  d_drum_face_hues : FuncData
  F_drum_face_hues : Fun K "drum_face_hues" "drum_face_hues" s_drum_face_hues f_drum_face_hues d_drum_face_hues
  g_drum_face_hues : mg "drum_face_hues" = some (.ref f_drum_face_hues)
  f__product : Addr
  d__product : FuncData
  F__product : Fun K "_product" "_product" s__product f__product d__product
  g__product : mg "_product" = some (.ref f__product)
  f__row_item : Addr
  d__row_item : FuncData
  F__row_item : Fun K "_row_item" "_row_item" s__row_item f__row_item d__row_item
  g__row_item : mg "_row_item" = some (.ref f__row_item)
  f_drum_pairings : Addr
  d_drum_pairings : FuncData
  F_drum_pairings : Fun K "drum_pairings" "drum_pairings" s_drum_pairings f_drum_pairings d_drum_pairings
  g_drum_pairings : mg "drum_pairings" = some (.ref f_drum_pairings)
  f_drum_trees : Addr
  d_drum_trees : FuncData
  F_drum_trees : Fun K "drum_trees" "drum_trees" s_drum_trees f_drum_trees d_drum_trees
  g_drum_trees : mg "drum_trees" = some (.ref f_drum_trees)
  f__law_drum : Addr
  d__law_drum : FuncData
  F__law_drum : Fun K "_law_drum" "_law_drum" s__law_drum f__law_drum d__law_drum
  g__law_drum : mg "_law_drum" = some (.ref f__law_drum)
  f__law_roll : Addr
  d__law_roll : FuncData
  F__law_roll : Fun K "_law_roll" "_law_roll" s__law_roll f__law_roll d__law_roll
  g__law_roll : mg "_law_roll" = some (.ref f__law_roll)
  f__law_some : Addr
  d__law_some : FuncData
  F__law_some : Fun K "_law_some" "_law_some" s__law_some f__law_some d__law_some
  g__law_some : mg "_law_some" = some (.ref f__law_some)
  f__law_rest : Addr
  d__law_rest : FuncData
  F__law_rest : Fun K "_law_rest" "_law_rest" s__law_rest f__law_rest d__law_rest
  g__law_rest : mg "_law_rest" = some (.ref f__law_rest)
  f__law_right : Addr
  d__law_right : FuncData
  F__law_right : Fun K "_law_right" "_law_right" s__law_right f__law_right d__law_right
  g__law_right : mg "_law_right" = some (.ref f__law_right)
  f__law_faces_right : Addr
  d__law_faces_right : FuncData
  F__law_faces_right : Fun K "_law_faces_right" "_law_faces_right" s__law_faces_right f__law_faces_right d__law_faces_right
  g__law_faces_right : mg "_law_faces_right" = some (.ref f__law_faces_right)
  f_law : Addr
  d_law : FuncData
  F_law : Fun K "law" "law" s_law f_law d_law
  g_law : mg "law" = some (.ref f_law)
  n_bool : mg "bool" = none
  n_int : mg "int" = none
  n_isinstance : mg "isinstance" = none
  n_len : mg "len" = none
  n_range : mg "range" = none
  n_tuple : mg "tuple" = none
  c_LEAST_SIDES : CoAt K mg "LEAST_SIDES" c_LEAST_SIDES
  c_MOST_NUMBER : CoAt K mg "MOST_NUMBER" c_MOST_NUMBER
  c_MOST_SIDES : CoAt K mg "MOST_SIDES" c_MOST_SIDES
section
variable {P : Program} {wd : World} {K : PySem.W.Frag} {mg : Str → Option Value} {base : Heap} {cls : Nat → Addr}
theorem pass0' {X : Cx} {E : XK} : Passes CX0 X E := fun _ _ _ _ _ _ _ h => h.elim
theorem sc_is_int : FnScope ["value"] ["value"] (defScope s_is_int) := ⟨rfl, rfl, rfl, by decide +kernel, rfl, by decide +kernel, by decide +kernel⟩
def B_is_int : MS := (sRet (mAndV (mIsi "int" (mVar 0)) (mUn gNotB (mIsi "bool" (mVar 0)))))
def F_is_int : MF := mDef 1 B_is_int
theorem ok_is_int (T : Top K mg) : FnOk P wd K mg base CX0 1 T.f_is_int T.d_is_int ["value"] (spF K cls 1 F_is_int) :=
  ok_def (k := 0) T.F_is_int sc_is_int fun cdv A outer s H E hr => by
  have S := sc_is_int
  unfold B_is_int
  exact (ss_one (ss_ret (se_andV (se_isi (T := "int") (by rfl) T.n_isinstance (by decide +kernel) (by decide +kernel) (hc := pa_cons (se_var (pv 0)) (pa_cons (pe_bltn (v := .ty "int") (by rfl) T.n_int (by decide +kernel) rfl) pa_nil))) (pe_one (se_notV (se_isi (T := "bool") (by rfl) T.n_isinstance (by decide +kernel) (by decide +kernel) (hc := pa_cons (se_var (pv 0)) (pa_cons (pe_bltn (v := .ty "bool") (by rfl) T.n_bool (by decide +kernel) rfl) pa_nil))))))))
theorem b_is_int (T : Top K mg) : Binds K T.d_is_int ["value"] [] := T.F_is_int.binds (ps := ["value"]) fun _ _ _ _ _ _ us hl => match us, hl with | [_], _ => rfl
theorem sc_is_within : FnScope ["value", "low", "high"] ["value", "low", "high"] (defScope s_is_within) := ⟨rfl, rfl, rfl, by decide +kernel, rfl, by decide +kernel, by decide +kernel⟩
def B_is_within : MS := (sRet (mAndV (mCall F_is_int (mCons (mVar 0) mNil)) (mChain (gB bLe) (gB bLe) (mVar 1) (mVar 0) (mVar 2))))
def F_is_within : MF := mDef 3 B_is_within
theorem ok_is_within (T : Top K mg) : FnOk P wd K mg base CX0 2 T.f_is_within T.d_is_within ["value", "low", "high"] (spF K cls 3 F_is_within) :=
  ok_def (k := 1) T.F_is_within sc_is_within fun cdv A outer s H E hr => by
  have S := sc_is_within
  unfold B_is_within
  exact (ss_one (ss_ret (se_andV (se_call (ok_is_int T) (hr.mono (by decide)) (by rfl) T.g_is_int T.F_is_int.kp (b_is_int T) pass0' (sa_cons (pa_cons (se_var (pv 0)) sa_nil)) (len_cons len_nil)) (pe_one (se_chain op_le op_le le_ok le_ok (se_var (pv 1)) (se_var (pv 0)) (se_var (pv 2)) (by with_unfolding_all rfl))))))
theorem b_is_within (T : Top K mg) : Binds K T.d_is_within ["value", "low", "high"] [] := T.F_is_within.binds (ps := ["value", "low", "high"]) fun _ _ _ _ _ _ us hl => match us, hl with | [_, _, _], _ => rfl
theorem sc_check_number : FnScope ["value", "low", "high"] ["value", "low", "high"] (defScope s_check_number) := ⟨rfl, rfl, rfl, by decide +kernel, rfl, by decide +kernel, by decide +kernel⟩
def B_check_number : MS := (sIf (mNot (mTr (mCall F_is_within (mCons (mVar 0) (mCons (mVar 1) (mCons (mVar 2) mNil)))))) sNever sNil)
def F_check_number : MF := mDef 3 B_check_number
theorem ok_check_number (T : Top K mg) : FnOk P wd K mg base CX0 3 T.f_check_number T.d_check_number ["value", "low", "high"] (spF K cls 3 F_check_number) :=
  ok_def (k := 2) T.F_check_number sc_check_number fun cdv A outer s H E hr => by
  have S := sc_check_number
  unfold B_check_number
  exact (ss_one (ss_if (st_not (st_truth (se_call (ok_is_within T) (hr.mono (by decide)) (by rfl) T.g_is_within T.F_is_within.kp (b_is_within T) pass0' (sa_cons (pa_cons (se_var (pv 0)) (sa_cons (pa_cons (se_var (pv 1)) (sa_cons (pa_cons (se_var (pv 2)) sa_nil)))))) (len_cons (len_cons (len_cons len_nil)))))) (ss_one ss_never) ss_nil))
theorem b_check_number (T : Top K mg) : Binds K T.d_check_number ["value", "low", "high"] [] := T.F_check_number.binds (ps := ["value", "low", "high"]) fun _ _ _ _ _ _ us hl => match us, hl with | [_, _, _], _ => rfl
theorem sc__check_sides : FnScope ["value", "most"] ["value", "most"] (defScope s__check_sides) := ⟨rfl, rfl, rfl, by decide +kernel, rfl, by decide +kernel, by decide +kernel⟩
def B__check_sides : MS := (sIf (mNot (mTr (mCall F_is_within (mCons (mVar 0) (mCons (mC c_LEAST_SIDES) (mCons (mVar 1) mNil)))))) sNever sNil)
def F__check_sides : MF := mDef 2 B__check_sides
theorem ok__check_sides (T : Top K mg) : FnOk P wd K mg base CX0 3 T.f__check_sides T.d__check_sides ["value", "most"] (spF K cls 2 F__check_sides) :=
  ok_def (k := 2) T.F__check_sides sc__check_sides fun cdv A outer s H E hr => by
  have S := sc__check_sides
  unfold B__check_sides
  exact (ss_one (ss_if (st_not (st_truth (se_call (ok_is_within T) (hr.mono (by decide)) (by rfl) T.g_is_within T.F_is_within.kp (b_is_within T) pass0' (sa_cons (pa_cons (se_var (pv 0)) (sa_cons (pa_cons (se_glob (by rfl) T.c_LEAST_SIDES) (sa_cons (pa_cons (se_var (pv 1)) sa_nil)))))) (len_cons (len_cons (len_cons len_nil)))))) (ss_one ss_never) ss_nil))
theorem b__check_sides (T : Top K mg) : Binds K T.d__check_sides ["value", "most"] [] := T.F__check_sides.binds (ps := ["value", "most"]) fun _ _ _ _ _ _ us hl => match us, hl with | [_, _], _ => rfl
theorem sc__check_both : FnScope ["sides", "modulus"] ["sides", "modulus"] (defScope s__check_both) := ⟨rfl, rfl, rfl, by decide +kernel, rfl, by decide +kernel, by decide +kernel⟩
def B__check_both : MS := (sSeq (sExpr (mCall F__check_sides (mCons (mVar 0) (mCons (mC c_MOST_SIDES) mNil))))
  (sExpr (mCall F_check_number (mCons (mVar 1) (mCons (mC (.int 1)) (mCons (mC c_MOST_NUMBER) mNil))))))
def F__check_both : MF := mDef 2 B__check_both
theorem ok__check_both (T : Top K mg) : FnOk P wd K mg base CX0 4 T.f__check_both T.d__check_both ["sides", "modulus"] (spF K cls 2 F__check_both) :=
  ok_def (k := 3) T.F__check_both sc__check_both fun cdv A outer s H E hr => by
  have S := sc__check_both
  unfold B__check_both
  exact (ss_cons (ss_expr (se_call (ok__check_sides T) (hr.mono (by decide)) (by rfl) T.g__check_sides T.F__check_sides.kp (b__check_sides T) pass0' (sa_cons (pa_cons (se_var (pv 0)) (sa_cons (pa_cons (se_glob (by rfl) T.c_MOST_SIDES) sa_nil)))) (len_cons (len_cons len_nil))) (by rfl))
  (ss_one (ss_expr (se_call (ok_check_number T) (hr.mono (by decide)) (by rfl) T.g_check_number T.F_check_number.kp (b_check_number T) pass0' (sa_cons (pa_cons (se_var (pv 1)) (sa_cons (pa_cons se_int (sa_cons (pa_cons (se_glob (by rfl) T.c_MOST_NUMBER) sa_nil)))))) (len_cons (len_cons (len_cons len_nil)))) (by rfl))))
theorem b__check_both (T : Top K mg) : Binds K T.d__check_both ["sides", "modulus"] [] := T.F__check_both.binds (ps := ["sides", "modulus"]) fun _ _ _ _ _ _ us hl => match us, hl with | [_, _], _ => rfl
theorem sc_drum_rounds : FnScope ["sides"] ["sides"] (defScope s_drum_rounds) := ⟨rfl, rfl, rfl, by decide +kernel, rfl, by decide +kernel, by decide +kernel⟩
def B_drum_rounds : MS := (sSeq (sExpr (mCall F__check_sides (mCons (mVar 0) (mCons (mC c_MOST_SIDES) mNil))))
  (sRet (mIf (mB (mOp gEq (mOp (gI fMod) (mVar 0) (mC (.int 2))) (mC (.int 0)))) (mOp gAdd (mVar 0) (mC (.int 2))) (mVar 0))))
def F_drum_rounds : MF := mDef 1 B_drum_rounds
theorem ok_drum_rounds (T : Top K mg) : FnOk P wd K mg base CX0 4 T.f_drum_rounds T.d_drum_rounds ["sides"] (spF K cls 1 F_drum_rounds) :=
  ok_def (k := 3) T.F_drum_rounds sc_drum_rounds fun cdv A outer s H E hr => by
  have S := sc_drum_rounds
  unfold B_drum_rounds
  exact (ss_cons (ss_expr (se_call (ok__check_sides T) (hr.mono (by decide)) (by rfl) T.g__check_sides T.F__check_sides.kp (b__check_sides T) pass0' (sa_cons (pa_cons (se_var (pv 0)) (sa_cons (pa_cons (se_glob (by rfl) T.c_MOST_SIDES) sa_nil)))) (len_cons (len_cons len_nil))) (by rfl))
  (ss_one (ss_ret (se_ifExp (st_cmp (op_eqD hr.units) eq_ok (se_op op_mod mod_ok (se_var (pv 0)) se_int) se_int (nomark _)) (se_op op_addAll add_ok (se_var (pv 0)) se_int) (se_var (pv 0))))))
theorem b_drum_rounds (T : Top K mg) : Binds K T.d_drum_rounds ["sides"] [] := T.F_drum_rounds.binds (ps := ["sides"]) fun _ _ _ _ _ _ us hl => match us, hl with | [_], _ => rfl
theorem sc__power : FnScope ["number", "exponent", "modulus", "worth"] ["number", "exponent", "modulus"] (defScope s__power) := ⟨rfl, rfl, rfl, by decide +kernel, rfl, by decide +kernel, by decide +kernel⟩
def B__power : MS := (sSeq (sSet 3 (mOp (gI fMod) (mC (.int 1)) (mVar 2)))
  (sSeq (sWhile 4000 (mB (mOp (gB bGt) (mVar 1) (mC (.int 0)))) (sSeq (sIf (mB (mOp gEq (mOp (gI fMod) (mVar 1) (mC (.int 2))) (mC (.int 1)))) (sSet 3 (mOp (gI fMod) (mOp (gI fMul) (mVar 3) (mVar 0)) (mVar 2))) sNil)
  (sSeq (sSet 0 (mOp (gI fMod) (mOp (gI fMul) (mVar 0) (mVar 0)) (mVar 2)))
  (sSet 1 (mOp (gI fFdiv) (mVar 1) (mC (.int 2)))))))
  (sRet (mVar 3))))
def F__power : MF := mDef 4 B__power
theorem ok__power (T : Top K mg) : FnOk P wd K mg base CX0 1 T.f__power T.d__power ["number", "exponent", "modulus"] (spF K cls 3 F__power) :=
  ok_def (k := 0) T.F__power sc__power fun cdv A outer s H E hr => by
  have S := sc__power
  unfold B__power
  exact (ss_cons (ss_set (i := 3) S.nd rfl (Or.inl rfl) (se_op op_mod mod_ok se_int (se_var (pv 2))) (by rfl) (.inl rfl))
  (ss_cons (ss_while PassesOwn.never (st_cmp op_gt gt_ok (se_var (pv 1)) se_int (nomark _)) (ss_cons (ss_if (st_cmp (op_eqD hr.units) eq_ok (se_op op_mod mod_ok (se_var (pv 1)) se_int) se_int (nomark _)) (ss_one (ss_set (i := 3) S.nd rfl (Or.inl rfl) (se_op op_mod mod_ok (se_op op_mul mul_ok (se_var (pv 3)) (se_var (pv 0))) (se_var (pv 2))) (by rfl) (.inl rfl))) ss_nil)
  (ss_cons (ss_set (i := 0) S.nd rfl (Or.inl rfl) (se_op op_mod mod_ok (se_op op_mul mul_ok (se_var (pv 0)) (se_var (pv 0))) (se_var (pv 2))) (by rfl) (.inl rfl))
  (ss_one (ss_set (i := 1) S.nd rfl (Or.inl rfl) (se_op op_fdiv fdiv_ok (se_var (pv 1)) se_int) (by rfl) (.inl rfl))))))
  (ss_one (ss_ret (se_var (pv 3))))))
theorem b__power (T : Top K mg) : Binds K T.d__power ["number", "exponent", "modulus"] [] := T.F__power.binds (ps := ["number", "exponent", "modulus"]) fun _ _ _ _ _ _ us hl => match us, hl with | [_, _, _], _ => rfl
theorem sc__ring_hues : FnScope ["sides", "many", "modulus"] ["sides", "many", "modulus"] (defScope s__ring_hues) := ⟨rfl, rfl, rfl, by decide +kernel, rfl, by decide +kernel, by decide +kernel⟩
def B__ring_hues : MS := (sRet (mOp gAdd (mCall F__power (mCons (mOp (gI fSub) (mVar 1) (mC (.int 1))) (mCons (mVar 0) (mCons (mVar 2) mNil)))) (mOp (gI fMul) (mOp (gI fSub) (mVar 1) (mC (.int 1))) (mIf (mB (mOp gEq (mOp (gI fMod) (mVar 0) (mC (.int 2))) (mC (.int 0)))) (mC (.int 1)) (mUn gNeg (mC (.int 1)))))))
def F__ring_hues : MF := mDef 3 B__ring_hues
theorem ok__ring_hues (T : Top K mg) : FnOk P wd K mg base CX0 2 T.f__ring_hues T.d__ring_hues ["sides", "many", "modulus"] (spF K cls 3 F__ring_hues) :=
  ok_def (k := 1) T.F__ring_hues sc__ring_hues fun cdv A outer s H E hr => by
  have S := sc__ring_hues
  unfold B__ring_hues
  exact (ss_one (ss_ret (se_op op_addAll add_ok (se_call (ok__power T) (hr.mono (by decide)) (by rfl) T.g__power T.F__power.kp (b__power T) pass0' (sa_cons (pa_cons (se_op op_sub sub_ok (se_var (pv 1)) se_int) (sa_cons (pa_cons (se_var (pv 0)) (sa_cons (pa_cons (se_var (pv 2)) sa_nil)))))) (len_cons (len_cons (len_cons len_nil)))) (se_op op_mul mul_ok (se_op op_sub sub_ok (se_var (pv 1)) se_int) (se_ifExp (st_cmp (op_eqD hr.units) eq_ok (se_op op_mod mod_ok (se_var (pv 0)) se_int) se_int (nomark _)) se_int (se_un un_neg neg_ok se_int))))))
theorem b__ring_hues (T : Top K mg) : Binds K T.d__ring_hues ["sides", "many", "modulus"] [] := T.F__ring_hues.binds (ps := ["sides", "many", "modulus"]) fun _ _ _ _ _ _ us hl => match us, hl with | [_, _, _], _ => rfl
theorem sc_drum_edge_hues : FnScope ["sides", "modulus", "unlike"] ["sides", "modulus"] (defScope s_drum_edge_hues) := ⟨rfl, rfl, rfl, by decide +kernel, rfl, by decide +kernel, by decide +kernel⟩
def B_drum_edge_hues : MS := (sSeq (sExpr (mCall F__check_both (mCons (mVar 0) (mCons (mVar 1) mNil))))
  (sSeq (sSet 2 (mIf (mB (mOp gEq (mOp (gI fMod) (mVar 0) (mC (.int 2))) (mC (.int 0)))) (mC (.int 6)) (mC (.int 0))))
  (sRet (mOp (gI fMod) (mOp gAdd (mCall F__ring_hues (mCons (mVar 0) (mCons (mC (.int 3)) (mCons (mVar 1) mNil)))) (mVar 2)) (mVar 1)))))
def F_drum_edge_hues : MF := mDef 3 B_drum_edge_hues
theorem ok_drum_edge_hues (T : Top K mg) : FnOk P wd K mg base CX0 5 T.f_drum_edge_hues T.d_drum_edge_hues ["sides", "modulus"] (spF K cls 2 F_drum_edge_hues) :=
  ok_def (k := 4) T.F_drum_edge_hues sc_drum_edge_hues fun cdv A outer s H E hr => by
  have S := sc_drum_edge_hues
  unfold B_drum_edge_hues
  exact (ss_cons (ss_expr (se_call (ok__check_both T) (hr.mono (by decide)) (by rfl) T.g__check_both T.F__check_both.kp (b__check_both T) pass0' (sa_cons (pa_cons (se_var (pv 0)) (sa_cons (pa_cons (se_var (pv 1)) sa_nil)))) (len_cons (len_cons len_nil))) (by rfl))
  (ss_cons (ss_set (i := 2) S.nd rfl (Or.inl rfl) (se_ifExp (st_cmp (op_eqD hr.units) eq_ok (se_op op_mod mod_ok (se_var (pv 0)) se_int) se_int (nomark _)) se_int se_int) (by rfl) (.inl rfl))
  (ss_one (ss_ret (se_op op_mod mod_ok (se_op op_addAll add_ok (se_call (ok__ring_hues T) (hr.mono (by decide)) (by rfl) T.g__ring_hues T.F__ring_hues.kp (b__ring_hues T) pass0' (sa_cons (pa_cons (se_var (pv 0)) (sa_cons (pa_cons se_int (sa_cons (pa_cons (se_var (pv 1)) sa_nil)))))) (len_cons (len_cons (len_cons len_nil)))) (se_var (pv 2))) (se_var (pv 1)))))))
theorem b_drum_edge_hues (T : Top K mg) : Binds K T.d_drum_edge_hues ["sides", "modulus"] [] := T.F_drum_edge_hues.binds (ps := ["sides", "modulus"]) fun _ _ _ _ _ _ us hl => match us, hl with | [_, _], _ => rfl
theorem sc_drum_face_hues : FnScope ["sides", "many", "modulus", "same", "unlike"] ["sides", "many", "modulus"] (defScope s_drum_face_hues) := ⟨rfl, rfl, rfl, by decide +kernel, rfl, by decide +kernel, by decide +kernel⟩
def B_drum_face_hues : MS := (sSeq (sExpr (mCall F__check_sides (mCons (mVar 0) (mCons (mC c_MOST_SIDES) mNil))))
  (sSeq (sExpr (mCall F_check_number (mCons (mVar 1) (mCons (mC (.int 0)) (mCons (mC c_MOST_NUMBER) mNil)))))
  (sSeq (sExpr (mCall F_check_number (mCons (mVar 2) (mCons (mC (.int 1)) (mCons (mC c_MOST_NUMBER) mNil)))))
  (sSeq (sSet 3 (mOp (gI fMul) (mVar 1) (mCall F__ring_hues (mCons (mVar 0) (mCons (mOp (gI fSub) (mVar 1) (mC (.int 1))) (mCons (mVar 2) mNil))))))
  (sSeq (sSet 4 (mOp (gI fMul) (mOp (gI fMul) (mVar 1) (mOp (gI fSub) (mVar 1) (mC (.int 1)))) (mCall F__ring_hues (mCons (mVar 0) (mCons (mOp (gI fSub) (mVar 1) (mC (.int 2))) (mCons (mVar 2) mNil))))))
  (sRet (mOp (gI fMod) (mOp gAdd (mVar 3) (mVar 4)) (mVar 2))))))))
def F_drum_face_hues : MF := mDef 5 B_drum_face_hues
theorem ok_drum_face_hues (T : Top K mg) : FnOk P wd K mg base CX0 4 T.f_drum_face_hues T.d_drum_face_hues ["sides", "many", "modulus"] (spF K cls 3 F_drum_face_hues) :=
  ok_def (k := 3) T.F_drum_face_hues sc_drum_face_hues fun cdv A outer s H E hr => by
  have S := sc_drum_face_hues
  unfold B_drum_face_hues
  exact (ss_cons (ss_expr (se_call (ok__check_sides T) (hr.mono (by decide)) (by rfl) T.g__check_sides T.F__check_sides.kp (b__check_sides T) pass0' (sa_cons (pa_cons (se_var (pv 0)) (sa_cons (pa_cons (se_glob (by rfl) T.c_MOST_SIDES) sa_nil)))) (len_cons (len_cons len_nil))) (by rfl))
  (ss_cons (ss_expr (se_call (ok_check_number T) (hr.mono (by decide)) (by rfl) T.g_check_number T.F_check_number.kp (b_check_number T) pass0' (sa_cons (pa_cons (se_var (pv 1)) (sa_cons (pa_cons se_int (sa_cons (pa_cons (se_glob (by rfl) T.c_MOST_NUMBER) sa_nil)))))) (len_cons (len_cons (len_cons len_nil)))) (by rfl))
  (ss_cons (ss_expr (se_call (ok_check_number T) (hr.mono (by decide)) (by rfl) T.g_check_number T.F_check_number.kp (b_check_number T) pass0' (sa_cons (pa_cons (se_var (pv 2)) (sa_cons (pa_cons se_int (sa_cons (pa_cons (se_glob (by rfl) T.c_MOST_NUMBER) sa_nil)))))) (len_cons (len_cons (len_cons len_nil)))) (by rfl))
  (ss_cons (ss_set (i := 3) S.nd rfl (Or.inl rfl) (se_op op_mul mul_ok (se_var (pv 1)) (se_call (ok__ring_hues T) (hr.mono (by decide)) (by rfl) T.g__ring_hues T.F__ring_hues.kp (b__ring_hues T) pass0' (sa_cons (pa_cons (se_var (pv 0)) (sa_cons (pa_cons (se_op op_sub sub_ok (se_var (pv 1)) se_int) (sa_cons (pa_cons (se_var (pv 2)) sa_nil)))))) (len_cons (len_cons (len_cons len_nil))))) (by rfl) (.inl rfl))
  (ss_cons (ss_set (i := 4) S.nd rfl (Or.inl rfl) (se_op op_mul mul_ok (se_op op_mul mul_ok (se_var (pv 1)) (se_op op_sub sub_ok (se_var (pv 1)) se_int)) (se_call (ok__ring_hues T) (hr.mono (by decide)) (by rfl) T.g__ring_hues T.F__ring_hues.kp (b__ring_hues T) pass0' (sa_cons (pa_cons (se_var (pv 0)) (sa_cons (pa_cons (se_op op_sub sub_ok (se_var (pv 1)) se_int) (sa_cons (pa_cons (se_var (pv 2)) sa_nil)))))) (len_cons (len_cons (len_cons len_nil))))) (by rfl) (.inl rfl))
  (ss_one (ss_ret (se_op op_mod mod_ok (se_op op_addAll add_ok (se_var (pv 3)) (se_var (pv 4))) (se_var (pv 2))))))))))
theorem b_drum_face_hues (T : Top K mg) : Binds K T.d_drum_face_hues ["sides", "many", "modulus"] [] := T.F_drum_face_hues.binds (ps := ["sides", "many", "modulus"]) fun _ _ _ _ _ _ us hl => match us, hl with | [_, _, _], _ => rfl
theorem sc__product : FnScope ["one", "other", "modulus", "rows", "a", "b", "c", "d", "p", "q", "r", "s", "item"] ["one", "other", "modulus"] (defScope s__product) := ⟨rfl, rfl, rfl, by decide +kernel, rfl, by decide +kernel, by decide +kernel⟩
def B__product : MS := (sSeq (sPat (.t [(.n 4), (.n 5), (.n 6), (.n 7)]) (mVar 0))
  (sSeq (sPat (.t [(.n 8), (.n 9), (.n 10), (.n 11)]) (mVar 1))
  (sSeq (sSet 3 (mTup (mCons (mOp gAdd (mOp (gI fMul) (mVar 4) (mVar 8)) (mOp (gI fMul) (mVar 5) (mVar 10))) (mCons (mOp gAdd (mOp (gI fMul) (mVar 4) (mVar 9)) (mOp (gI fMul) (mVar 5) (mVar 11))) (mCons (mOp gAdd (mOp (gI fMul) (mVar 6) (mVar 8)) (mOp (gI fMul) (mVar 7) (mVar 10))) (mCons (mOp gAdd (mOp (gI fMul) (mVar 6) (mVar 9)) (mOp (gI fMul) (mVar 7) (mVar 11))) mNil))))))
  (sRet (mB1 (one gTuple) (mCons (mLc (iSeq (mVar 3)) (.n 12) [12] mYes (mOp (gI fMod) (mVar 12) (mVar 2))) mNil))))))
def F__product : MF := mDef 13 B__product
theorem ok__product (T : Top K mg) : FnOk P wd K mg base CX0 1 T.f__product T.d__product ["one", "other", "modulus"] (spF K cls 3 F__product) :=
  ok_def (k := 0) T.F__product sc__product fun cdv A outer s H E hr => by
  have S := sc__product
  unfold B__product
  exact (ss_cons (ss_pat (se_var (pv 0)) (sp_t rfl (sps_cons (sp_n S.nd rfl (by first | exact Or.inl rfl | exact Or.inr rfl)) (sps_cons (sp_n S.nd rfl (by first | exact Or.inl rfl | exact Or.inr rfl)) (sps_cons (sp_n S.nd rfl (by first | exact Or.inl rfl | exact Or.inr rfl)) (sps_cons (sp_n S.nd rfl (by first | exact Or.inl rfl | exact Or.inr rfl)) sps_nil))))) (by rfl) (by rfl) (by rfl))
  (ss_cons (ss_pat (se_var (pv 1)) (sp_t rfl (sps_cons (sp_n S.nd rfl (by first | exact Or.inl rfl | exact Or.inr rfl)) (sps_cons (sp_n S.nd rfl (by first | exact Or.inl rfl | exact Or.inr rfl)) (sps_cons (sp_n S.nd rfl (by first | exact Or.inl rfl | exact Or.inr rfl)) (sps_cons (sp_n S.nd rfl (by first | exact Or.inl rfl | exact Or.inr rfl)) sps_nil))))) (by rfl) (by rfl) (by rfl))
  (ss_cons (ss_set (i := 3) S.nd rfl (Or.inl rfl) (se_tup (sa_cons (pa_cons (se_op op_addAll add_ok (se_op op_mul mul_ok (se_var (pv 4)) (se_var (pv 8))) (se_op op_mul mul_ok (se_var (pv 5)) (se_var (pv 10)))) (sa_cons (pa_cons (se_op op_addAll add_ok (se_op op_mul mul_ok (se_var (pv 4)) (se_var (pv 9))) (se_op op_mul mul_ok (se_var (pv 5)) (se_var (pv 11)))) (sa_cons (pa_cons (se_op op_addAll add_ok (se_op op_mul mul_ok (se_var (pv 6)) (se_var (pv 8))) (se_op op_mul mul_ok (se_var (pv 7)) (se_var (pv 10)))) (sa_cons (pa_cons (se_op op_addAll add_ok (se_op op_mul mul_ok (se_var (pv 6)) (se_var (pv 9))) (se_op op_mul mul_ok (se_var (pv 7)) (se_var (pv 11)))) sa_nil))))))))) (by rfl) (.inl rfl))
  (ss_one (ss_ret (se_b (id := "tuple") (pe_callTy call_tuple_of (by rfl) T.n_tuple (by decide +kernel) (sa_cons (pa_cons (se_lc (own := [("item", 12)]) rfl S.nd (si_seq (se_var (pv 3))) (blkOk_by (N := ["one", "other", "modulus", "rows", "a", "b", "c", "d", "p", "q", "r", "s", "item"]) (sc := defScope s__product) (by decide +kernel)) (by decide) (fun _ _ _ _ _ => (sp_n S.nd rfl (by first | exact Or.inl rfl | exact Or.inr rfl))) (fun _ _ _ _ _ => sts_nil) (fun _ _ _ _ _ => (se_op op_mod mod_ok (se_var (pv 12)) (se_var (pv 2))))) sa_nil))) tuple_ok))))))
theorem b__product (T : Top K mg) : Binds K T.d__product ["one", "other", "modulus"] [] := T.F__product.binds (ps := ["one", "other", "modulus"]) fun _ _ _ _ _ _ us hl => match us, hl with | [_, _, _], _ => rfl
theorem sc__row_item : FnScope ["times", "first", "index", "modulus", "worth", "step"] ["times", "first", "index", "modulus"] (defScope s__row_item) := ⟨rfl, rfl, rfl, by decide +kernel, rfl, by decide +kernel, by decide +kernel⟩
def B__row_item : MS := (sSeq (sPar 4 5 (mCons (mTup (mCons (mC (.int 1)) (mCons (mC (.int 0)) (mCons (mC (.int 0)) (mCons (mC (.int 1)) mNil))))) (mCons (mOp gAdd (mVar 0) (mTup (mCons (mC (.int 1)) (mCons (mC (.int 0)) mNil)))) mNil)))
  (sSeq (sWhile 4000 (mB (mOp (gB bGt) (mVar 2) (mC (.int 0)))) (sSeq (sIf (mB (mOp gEq (mOp (gI fMod) (mVar 2) (mC (.int 2))) (mC (.int 1)))) (sSet 4 (mCall F__product (mCons (mVar 4) (mCons (mVar 5) (mCons (mVar 3) mNil))))) sNil)
  (sSeq (sSet 5 (mCall F__product (mCons (mVar 5) (mCons (mVar 5) (mCons (mVar 3) mNil)))))
  (sSet 2 (mOp (gI fFdiv) (mVar 2) (mC (.int 2)))))))
  (sRet (mOp (gI fMod) (mOp gAdd (mOp (gI fMul) (mOp gIx (mVar 4) (mC (.int 2))) (mOp gIx (mVar 1) (mC (.int 1)))) (mOp (gI fMul) (mOp gIx (mVar 4) (mC (.int 3))) (mOp gIx (mVar 1) (mC (.int 0))))) (mVar 3)))))
def F__row_item : MF := mDef 6 B__row_item
theorem ok__row_item (T : Top K mg) : FnOk P wd K mg base CX0 2 T.f__row_item T.d__row_item ["times", "first", "index", "modulus"] (spF K cls 4 F__row_item) :=
  ok_def (k := 1) T.F__row_item sc__row_item fun cdv A outer s H E hr => by
  have S := sc__row_item
  unfold B__row_item
  exact (ss_cons (ss_par (i := 4) (j := 5) rfl S.nd rfl rfl (by decide) rfl rfl (sa_cons (pa_cons (se_tup (sa_cons (pa_cons se_int (sa_cons (pa_cons se_int (sa_cons (pa_cons se_int (sa_cons (pa_cons se_int sa_nil))))))))) (sa_cons (pa_cons (se_op op_addAll add_ok (se_var (pv 0)) (se_tup (sa_cons (pa_cons se_int (sa_cons (pa_cons se_int sa_nil)))))) sa_nil)))) rfl)
  (ss_cons (ss_while PassesOwn.never (st_cmp op_gt gt_ok (se_var (pv 2)) se_int (nomark _)) (ss_cons (ss_if (st_cmp (op_eqD hr.units) eq_ok (se_op op_mod mod_ok (se_var (pv 2)) se_int) se_int (nomark _)) (ss_one (ss_set (i := 4) S.nd rfl (Or.inl rfl) (se_call (ok__product T) (hr.mono (by decide)) (by rfl) T.g__product T.F__product.kp (b__product T) pass0' (sa_cons (pa_cons (se_var (pv 4)) (sa_cons (pa_cons (se_var (pv 5)) (sa_cons (pa_cons (se_var (pv 3)) sa_nil)))))) (len_cons (len_cons (len_cons len_nil)))) (by rfl) (.inl rfl))) ss_nil)
  (ss_cons (ss_set (i := 5) S.nd rfl (Or.inl rfl) (se_call (ok__product T) (hr.mono (by decide)) (by rfl) T.g__product T.F__product.kp (b__product T) pass0' (sa_cons (pa_cons (se_var (pv 5)) (sa_cons (pa_cons (se_var (pv 5)) (sa_cons (pa_cons (se_var (pv 3)) sa_nil)))))) (len_cons (len_cons (len_cons len_nil)))) (by rfl) (.inl rfl))
  (ss_one (ss_set (i := 2) S.nd rfl (Or.inl rfl) (se_op op_fdiv fdiv_ok (se_var (pv 2)) se_int) (by rfl) (.inl rfl))))))
  (ss_one (ss_ret (se_op op_mod mod_ok (se_op op_addAll add_ok (se_op op_mul mul_ok (se_ix (hu1 hr) (se_var (pv 4)) se_int (fun _ _ => rfl)) (se_ix (hu1 hr) (se_var (pv 1)) se_int (fun _ _ => rfl))) (se_op op_mul mul_ok (se_ix (hu1 hr) (se_var (pv 4)) se_int (fun _ _ => rfl)) (se_ix (hu1 hr) (se_var (pv 1)) se_int (fun _ _ => rfl)))) (se_var (pv 3)))))))
theorem b__row_item (T : Top K mg) : Binds K T.d__row_item ["times", "first", "index", "modulus"] [] := T.F__row_item.binds (ps := ["times", "first", "index", "modulus"]) fun _ _ _ _ _ _ us hl => match us, hl with | [_, _, _, _], _ => rfl
theorem sc_drum_pairings : FnScope ["sides", "modulus", "twice"] ["sides", "modulus"] (defScope s_drum_pairings) := ⟨rfl, rfl, rfl, by decide +kernel, rfl, by decide +kernel, by decide +kernel⟩
def B_drum_pairings : MS := (sSeq (sExpr (mCall F__check_both (mCons (mVar 0) (mCons (mVar 1) mNil))))
  (sSeq (sSet 2 (mCall F__row_item (mCons (mTup (mCons (mC (.int 1)) (mCons (mC (.int 1)) mNil))) (mCons (mTup (mCons (mC (.int 2)) (mCons (mC (.int 1)) mNil))) (mCons (mVar 0) (mCons (mVar 1) mNil))))))
  (sRet (mOp (gI fMod) (mOp gAdd (mVar 2) (mIf (mB (mOp gEq (mOp (gI fMod) (mVar 0) (mC (.int 2))) (mC (.int 0)))) (mC (.int 2)) (mC (.int 0)))) (mVar 1)))))
def F_drum_pairings : MF := mDef 3 B_drum_pairings
theorem ok_drum_pairings (T : Top K mg) : FnOk P wd K mg base CX0 5 T.f_drum_pairings T.d_drum_pairings ["sides", "modulus"] (spF K cls 2 F_drum_pairings) :=
  ok_def (k := 4) T.F_drum_pairings sc_drum_pairings fun cdv A outer s H E hr => by
  have S := sc_drum_pairings
  unfold B_drum_pairings
  exact (ss_cons (ss_expr (se_call (ok__check_both T) (hr.mono (by decide)) (by rfl) T.g__check_both T.F__check_both.kp (b__check_both T) pass0' (sa_cons (pa_cons (se_var (pv 0)) (sa_cons (pa_cons (se_var (pv 1)) sa_nil)))) (len_cons (len_cons len_nil))) (by rfl))
  (ss_cons (ss_set (i := 2) S.nd rfl (Or.inl rfl) (se_call (ok__row_item T) (hr.mono (by decide)) (by rfl) T.g__row_item T.F__row_item.kp (b__row_item T) pass0' (sa_cons (pa_cons (se_tup (sa_cons (pa_cons se_int (sa_cons (pa_cons se_int sa_nil))))) (sa_cons (pa_cons (se_tup (sa_cons (pa_cons se_int (sa_cons (pa_cons se_int sa_nil))))) (sa_cons (pa_cons (se_var (pv 0)) (sa_cons (pa_cons (se_var (pv 1)) sa_nil)))))))) (len_cons (len_cons (len_cons (len_cons len_nil))))) (by rfl) (.inl rfl))
  (ss_one (ss_ret (se_op op_mod mod_ok (se_op op_addAll add_ok (se_var (pv 2)) (se_ifExp (st_cmp (op_eqD hr.units) eq_ok (se_op op_mod mod_ok (se_var (pv 0)) se_int) se_int (nomark _)) se_int se_int)) (se_var (pv 1)))))))
theorem b_drum_pairings (T : Top K mg) : Binds K T.d_drum_pairings ["sides", "modulus"] [] := T.F_drum_pairings.binds (ps := ["sides", "modulus"]) fun _ _ _ _ _ _ us hl => match us, hl with | [_, _], _ => rfl
theorem sc_drum_trees : FnScope ["sides", "modulus", "half"] ["sides", "modulus"] (defScope s_drum_trees) := ⟨rfl, rfl, rfl, by decide +kernel, rfl, by decide +kernel, by decide +kernel⟩
def B_drum_trees : MS := (sSeq (sExpr (mCall F__check_both (mCons (mVar 0) (mCons (mVar 1) mNil))))
  (sSeq (sSet 2 (mCall F__row_item (mCons (mTup (mCons (mC (.int 4)) (mCons (mUn gNeg (mC (.int 1))) mNil))) (mCons (mTup (mCons (mC (.int 1)) (mCons (mC (.int 2)) mNil))) (mCons (mVar 0) (mCons (mVar 1) mNil))))))
  (sRet (mOp (gI fMod) (mOp (gI fMul) (mVar 0) (mOp (gI fSub) (mVar 2) (mC (.int 1)))) (mVar 1)))))
def F_drum_trees : MF := mDef 3 B_drum_trees
theorem ok_drum_trees (T : Top K mg) : FnOk P wd K mg base CX0 5 T.f_drum_trees T.d_drum_trees ["sides", "modulus"] (spF K cls 2 F_drum_trees) :=
  ok_def (k := 4) T.F_drum_trees sc_drum_trees fun cdv A outer s H E hr => by
  have S := sc_drum_trees
  unfold B_drum_trees
  exact (ss_cons (ss_expr (se_call (ok__check_both T) (hr.mono (by decide)) (by rfl) T.g__check_both T.F__check_both.kp (b__check_both T) pass0' (sa_cons (pa_cons (se_var (pv 0)) (sa_cons (pa_cons (se_var (pv 1)) sa_nil)))) (len_cons (len_cons len_nil))) (by rfl))
  (ss_cons (ss_set (i := 2) S.nd rfl (Or.inl rfl) (se_call (ok__row_item T) (hr.mono (by decide)) (by rfl) T.g__row_item T.F__row_item.kp (b__row_item T) pass0' (sa_cons (pa_cons (se_tup (sa_cons (pa_cons se_int (sa_cons (pa_cons (se_un un_neg neg_ok se_int) sa_nil))))) (sa_cons (pa_cons (se_tup (sa_cons (pa_cons se_int (sa_cons (pa_cons se_int sa_nil))))) (sa_cons (pa_cons (se_var (pv 0)) (sa_cons (pa_cons (se_var (pv 1)) sa_nil)))))))) (len_cons (len_cons (len_cons (len_cons len_nil))))) (by rfl) (.inl rfl))
  (ss_one (ss_ret (se_op op_mod mod_ok (se_op op_mul mul_ok (se_var (pv 0)) (se_op op_sub sub_ok (se_var (pv 2)) se_int)) (se_var (pv 1)))))))
theorem b_drum_trees (T : Top K mg) : Binds K T.d_drum_trees ["sides", "modulus"] [] := T.F_drum_trees.binds (ps := ["sides", "modulus"]) fun _ _ _ _ _ _ us hl => match us, hl with | [_, _], _ => rfl
theorem sc__law_drum : FnScope ["_law_cell", "_law_turn", "_law_great"] ["_law_cell", "_law_turn"] (defScope s__law_drum) := ⟨rfl, rfl, rfl, by decide +kernel, rfl, by decide +kernel, by decide +kernel⟩
def B__law_drum : MS := (sSeq (sSet 2 (mIf (mB (mOp (gB bGe) (mVar 0) (mOp (gI fPow) (mC (.int 10)) (mC (.int 18))))) (mOp gAdd (mOp (gI fFdiv) (mVar 0) (mC (.int 7))) (mOp (gI fMul) (mC (.int 61)) (mVar 1))) (mC (.int 0))))
  (sRet (mLst (mCons (mVar 2) (mCons (mOp gAdd (mOp (gI fMod) (mB1 (one gInt) (mCons (mOp gAdd (mOp (gI fMul) (mVar 0) (mC (.int 97))) (mOp (gI fMul) (mC (.int 1087)) (mVar 1))) mNil)) (mC (.int 2077504273))) (mC (.int 71))) mNil)))))
def F__law_drum : MF := mDef 3 B__law_drum
theorem ok__law_drum (T : Top K mg) : FnOk P wd K mg base CX0 1 T.f__law_drum T.d__law_drum ["_law_cell", "_law_turn"] (spF K cls 2 F__law_drum) :=
  ok_def (k := 0) T.F__law_drum sc__law_drum fun cdv A outer s H E hr => by
  have S := sc__law_drum
  unfold B__law_drum
  exact (ss_cons (ss_set (i := 2) S.nd rfl (Or.inl rfl) (se_ifExp (st_cmp op_ge ge_ok (se_var (pv 0)) (se_op op_pow pow_ok se_int se_int) (nomark _)) (se_op op_addAll add_ok (se_op op_fdiv fdiv_ok (se_var (pv 0)) se_int) (se_op op_mul mul_ok se_int (se_var (pv 1)))) se_int) (by rfl) (.inl rfl))
  (ss_one (ss_ret (se_lst (sa_cons (pa_cons (se_var (pv 2)) (sa_cons (pa_cons (se_op op_addAll add_ok (se_op op_mod mod_ok (se_b (id := "int") (pe_callTy call_int1 (by rfl) T.n_int (by decide +kernel) (sa_cons (pa_cons (se_op op_addAll add_ok (se_op op_mul mul_ok (se_var (pv 0)) se_int) (se_op op_mul mul_ok se_int (se_var (pv 1)))) sa_nil))) int_ok) se_int) se_int) sa_nil))))))))
theorem b__law_drum (T : Top K mg) : Binds K T.d__law_drum ["_law_cell", "_law_turn"] [] := T.F__law_drum.binds (ps := ["_law_cell", "_law_turn"]) fun _ _ _ _ _ _ us hl => match us, hl with | [_, _], _ => rfl
theorem sc__law_roll : FnScope ["_law_keg", "_law_many", "_law_deep", "_law_found"] ["_law_keg", "_law_many"] (defScope s__law_roll) := ⟨rfl, rfl, rfl, by decide +kernel, rfl, by decide +kernel, by decide +kernel⟩
def B__law_roll : MS := (sSeq (sIf (mB (mOp (gB bGt) (mOp gIx (mVar 0) (mC (.int 0))) (mC (.int 0)))) (sSeq (sSet 3 (mOp (gI fMod) (mB1 (one gInt) (mCons (mOp gIx (mVar 0) (mC (.int 0))) mNil)) (mVar 1)))
  (sSeq (sPut (mVar 0) (mC (.int 0)) (mOp (gI fFdivB) (mOp gIx (mVar 0) (mC (.int 0))) (mVar 1)))
  (sRet (mVar 3)))) sNil)
  (sSeq (sPut (mVar 0) (mC (.int 1)) (mOp (gI fMod) (mB1 (one gInt) (mCons (mOp gAdd (mOp (gI fMul) (mOp gIx (mVar 0) (mC (.int 1))) (mC (.int 30671))) (mC (.int 8807))) mNil)) (mC (.int 2147483549))))
  (sSeq (sSet 2 (mOp (gI fMod) (mB1 (one gInt) (mCons (mOp (gI fMul) (mOp gIx (mVar 0) (mC (.int 1))) (mOp gAdd (mOp gIx (mVar 0) (mC (.int 1))) (mC (.int 101)))) mNil)) (mC (.int 2147483587))))
  (sRet (mOp (gI fMod) (mB1 (one gInt) (mCons (mOp (gI fFdivB) (mVar 2) (mC (.int 613))) mNil)) (mVar 1))))))
def F__law_roll : MF := mDef 4 B__law_roll
theorem ok__law_roll (T : Top K mg) : FnOk P wd K mg base CX0 1 T.f__law_roll T.d__law_roll ["_law_keg", "_law_many"] (spF K cls 2 F__law_roll) :=
  ok_def (k := 0) T.F__law_roll sc__law_roll fun cdv A outer s H E hr => by
  have S := sc__law_roll
  unfold B__law_roll
  exact (ss_cons (ss_if (st_cmp op_gt gt_ok (se_ix (hu1 hr) (se_var (pv 0)) se_int (fun _ _ => rfl)) se_int (nomark _)) (ss_cons (ss_set (i := 3) S.nd rfl (Or.inl rfl) (se_op op_mod mod_ok (se_b (id := "int") (pe_callTy call_int1 (by rfl) T.n_int (by decide +kernel) (sa_cons (pa_cons (se_ix (hu1 hr) (se_var (pv 0)) se_int (fun _ _ => rfl)) sa_nil))) int_ok) (se_var (pv 1))) (by rfl) (.inl rfl))
  (ss_cons (ss_put (hu1 hr) (se_op op_fdivW fdivB_ok (se_ix (hu1 hr) (se_var (pv 0)) se_int (fun _ _ => rfl)) (se_var (pv 1))) (se_var (pv 0)) se_int)
  (ss_one (ss_ret (se_var (pv 3)))))) ss_nil)
  (ss_cons (ss_put (hu1 hr) (se_op op_mod mod_ok (se_b (id := "int") (pe_callTy call_int1 (by rfl) T.n_int (by decide +kernel) (sa_cons (pa_cons (se_op op_addAll add_ok (se_op op_mul mul_ok (se_ix (hu1 hr) (se_var (pv 0)) se_int (fun _ _ => rfl)) se_int) se_int) sa_nil))) int_ok) se_int) (se_var (pv 0)) se_int)
  (ss_cons (ss_set (i := 2) S.nd rfl (Or.inl rfl) (se_op op_mod mod_ok (se_b (id := "int") (pe_callTy call_int1 (by rfl) T.n_int (by decide +kernel) (sa_cons (pa_cons (se_op op_mul mul_ok (se_ix (hu1 hr) (se_var (pv 0)) se_int (fun _ _ => rfl)) (se_op op_addAll add_ok (se_ix (hu1 hr) (se_var (pv 0)) se_int (fun _ _ => rfl)) se_int)) sa_nil))) int_ok) se_int) (by rfl) (.inl rfl))
  (ss_one (ss_ret (se_op op_mod mod_ok (se_b (id := "int") (pe_callTy call_int1 (by rfl) T.n_int (by decide +kernel) (sa_cons (pa_cons (se_op op_fdivW fdivB_ok (se_var (pv 2)) se_int) sa_nil))) int_ok) (se_var (pv 1))))))))
theorem b__law_roll (T : Top K mg) : Binds K T.d__law_roll ["_law_keg", "_law_many"] [] := T.F__law_roll.binds (ps := ["_law_keg", "_law_many"]) fun _ _ _ _ _ _ us hl => match us, hl with | [_, _], _ => rfl
theorem sc__law_some : FnScope ["_law_keg", "_law_things"] ["_law_keg", "_law_things"] (defScope s__law_some) := ⟨rfl, rfl, rfl, by decide +kernel, rfl, by decide +kernel, by decide +kernel⟩
def B__law_some : MS := (sRet (mOp gIx (mVar 1) (mCallK F__law_roll (mCons (mVar 0) (mCons (mB1 (one gLen2) (mCons (mVar 1) mNil)) mNil)))))
def F__law_some : MF := mDef 2 B__law_some
theorem ok__law_some (T : Top K mg) : FnOk P wd K mg base CX0 2 T.f__law_some T.d__law_some ["_law_keg", "_law_things"] (spF K cls 2 F__law_some) :=
  ok_def (k := 1) T.F__law_some sc__law_some fun cdv A outer s H E hr => by
  have S := sc__law_some
  unfold B__law_some
  exact (ss_one (ss_ret (se_ix (hu1 hr) (se_var (pv 1)) (se_callK (ok__law_roll T) (hr.mono (by decide)) (by rfl) T.g__law_roll T.F__law_roll.kp (b__law_roll T) pass0' (sa_cons (pa_cons (se_var (pv 0)) (sa_cons (pa_cons (se_b (id := "len") (pe_callB (callr_or call_lenAll call_len_dT) (by rfl) T.n_len (by decide +kernel) (sa_cons (pa_cons (se_var (pv 1)) sa_nil))) len2_ok) sa_nil)))) (len_cons (len_cons len_nil))) (fun _ _ => rfl))))
theorem b__law_some (T : Top K mg) : Binds K T.d__law_some ["_law_keg", "_law_things"] [] := T.F__law_some.binds (ps := ["_law_keg", "_law_things"]) fun _ _ _ _ _ _ us hl => match us, hl with | [_, _], _ => rfl
theorem sc__law_rest : FnScope ["_law_call", "_law_sides_so", "_law_modulus_so", "_law_found"] ["_law_call", "_law_sides_so", "_law_modulus_so"] (defScope s__law_rest) := ⟨rfl, rfl, rfl, by decide +kernel, rfl, by decide +kernel, by decide +kernel⟩
theorem b__law_rest (T : Top K mg) : Binds K T.d__law_rest ["_law_call", "_law_sides_so", "_law_modulus_so"] [] := T.F__law_rest.binds (ps := ["_law_call", "_law_sides_so", "_law_modulus_so"]) fun _ _ _ _ _ _ us hl => match us, hl with | [_, _, _], _ => rfl
def B__law_rest__drum_edge_hues : MS := (sSeq (sSet 3 (mCall F_drum_edge_hues (mCons (mVar 1) (mCons (mVar 2) mNil)))) (sSeq (sIf (mOr (mNot (mTr (mIsi "int" (mVar 3)))) (mOr (mTr (mIsi "bool" (mVar 3))) (mNot (mB (mChain (gB bLe) (gB bLt) (mC (.int 0)) (mVar 3) (mVar 2)))))) (sRet (mC .non)) sNil)
  (sRet (mVar 3))))
def F__law_rest__drum_edge_hues : MF := mDefR 4 B__law_rest__drum_edge_hues
theorem ok__law_rest__drum_edge_hues (T : Top K mg) : FnOk P wd K mg base CX0 6 T.f__law_rest T.d__law_rest ["_law_call", "_law_sides_so", "_law_modulus_so"] (spR K cls T.f_drum_edge_hues 2 F__law_rest__drum_edge_hues) :=
  ok_defR (k := 5) T.F__law_rest sc__law_rest (by decide) fun cdv A outer s H E hr => by
  have S := sc__law_rest
  unfold B__law_rest__drum_edge_hues
  exact (ss_consL (ss_callL (i := 3) (j := 0) (ok_drum_edge_hues T) (hr.mono (by decide)) rfl (Or.inl rfl) T.F_drum_edge_hues.kp (b_drum_edge_hues T) pass0' (sa_cons (pa_cons (se_var (pv 1)) (sa_cons (pa_cons (se_var (pv 2)) sa_nil)))) (len_cons (len_cons len_nil)) S.nd rfl (Or.inl rfl) (by rfl) (.inl rfl)) (ss_cons (ss_if (PW.pt (sw_or (st_not (st_truth (se_isi (T := "int") (by rfl) T.n_isinstance (by decide +kernel) (by decide +kernel) (hc := pa_cons (se_var (pv 3)) (pa_cons (pe_bltn (v := .ty "int") (by rfl) T.n_int (by decide +kernel) rfl) pa_nil))))) (sw_or (st_truth (se_isi (T := "bool") (by rfl) T.n_isinstance (by decide +kernel) (by decide +kernel) (hc := pa_cons (se_var (pv 3)) (pa_cons (pe_bltn (v := .ty "bool") (by rfl) T.n_bool (by decide +kernel) rfl) pa_nil)))) (pw_or1 (st_not (st_chain op_le op_lt le_ok lt_ok se_int (se_var (pv 3)) (se_var (pv 2)) (by with_unfolding_all rfl))))))) (ss_one (ss_ret se_non)) ss_nil)
  (ss_one (ss_ret (se_var (pv 3))))))
def B__law_rest__drum_pairings : MS := (sSeq (sSet 3 (mCall F_drum_pairings (mCons (mVar 1) (mCons (mVar 2) mNil)))) (sSeq (sIf (mOr (mNot (mTr (mIsi "int" (mVar 3)))) (mOr (mTr (mIsi "bool" (mVar 3))) (mNot (mB (mChain (gB bLe) (gB bLt) (mC (.int 0)) (mVar 3) (mVar 2)))))) (sRet (mC .non)) sNil)
  (sRet (mVar 3))))
def F__law_rest__drum_pairings : MF := mDefR 4 B__law_rest__drum_pairings
theorem ok__law_rest__drum_pairings (T : Top K mg) : FnOk P wd K mg base CX0 6 T.f__law_rest T.d__law_rest ["_law_call", "_law_sides_so", "_law_modulus_so"] (spR K cls T.f_drum_pairings 2 F__law_rest__drum_pairings) :=
  ok_defR (k := 5) T.F__law_rest sc__law_rest (by decide) fun cdv A outer s H E hr => by
  have S := sc__law_rest
  unfold B__law_rest__drum_pairings
  exact (ss_consL (ss_callL (i := 3) (j := 0) (ok_drum_pairings T) (hr.mono (by decide)) rfl (Or.inl rfl) T.F_drum_pairings.kp (b_drum_pairings T) pass0' (sa_cons (pa_cons (se_var (pv 1)) (sa_cons (pa_cons (se_var (pv 2)) sa_nil)))) (len_cons (len_cons len_nil)) S.nd rfl (Or.inl rfl) (by rfl) (.inl rfl)) (ss_cons (ss_if (PW.pt (sw_or (st_not (st_truth (se_isi (T := "int") (by rfl) T.n_isinstance (by decide +kernel) (by decide +kernel) (hc := pa_cons (se_var (pv 3)) (pa_cons (pe_bltn (v := .ty "int") (by rfl) T.n_int (by decide +kernel) rfl) pa_nil))))) (sw_or (st_truth (se_isi (T := "bool") (by rfl) T.n_isinstance (by decide +kernel) (by decide +kernel) (hc := pa_cons (se_var (pv 3)) (pa_cons (pe_bltn (v := .ty "bool") (by rfl) T.n_bool (by decide +kernel) rfl) pa_nil)))) (pw_or1 (st_not (st_chain op_le op_lt le_ok lt_ok se_int (se_var (pv 3)) (se_var (pv 2)) (by with_unfolding_all rfl))))))) (ss_one (ss_ret se_non)) ss_nil)
  (ss_one (ss_ret (se_var (pv 3))))))
def B__law_rest__drum_trees : MS := (sSeq (sSet 3 (mCall F_drum_trees (mCons (mVar 1) (mCons (mVar 2) mNil)))) (sSeq (sIf (mOr (mNot (mTr (mIsi "int" (mVar 3)))) (mOr (mTr (mIsi "bool" (mVar 3))) (mNot (mB (mChain (gB bLe) (gB bLt) (mC (.int 0)) (mVar 3) (mVar 2)))))) (sRet (mC .non)) sNil)
  (sRet (mVar 3))))
def F__law_rest__drum_trees : MF := mDefR 4 B__law_rest__drum_trees
theorem ok__law_rest__drum_trees (T : Top K mg) : FnOk P wd K mg base CX0 6 T.f__law_rest T.d__law_rest ["_law_call", "_law_sides_so", "_law_modulus_so"] (spR K cls T.f_drum_trees 2 F__law_rest__drum_trees) :=
  ok_defR (k := 5) T.F__law_rest sc__law_rest (by decide) fun cdv A outer s H E hr => by
  have S := sc__law_rest
  unfold B__law_rest__drum_trees
  exact (ss_consL (ss_callL (i := 3) (j := 0) (ok_drum_trees T) (hr.mono (by decide)) rfl (Or.inl rfl) T.F_drum_trees.kp (b_drum_trees T) pass0' (sa_cons (pa_cons (se_var (pv 1)) (sa_cons (pa_cons (se_var (pv 2)) sa_nil)))) (len_cons (len_cons len_nil)) S.nd rfl (Or.inl rfl) (by rfl) (.inl rfl)) (ss_cons (ss_if (PW.pt (sw_or (st_not (st_truth (se_isi (T := "int") (by rfl) T.n_isinstance (by decide +kernel) (by decide +kernel) (hc := pa_cons (se_var (pv 3)) (pa_cons (pe_bltn (v := .ty "int") (by rfl) T.n_int (by decide +kernel) rfl) pa_nil))))) (sw_or (st_truth (se_isi (T := "bool") (by rfl) T.n_isinstance (by decide +kernel) (by decide +kernel) (hc := pa_cons (se_var (pv 3)) (pa_cons (pe_bltn (v := .ty "bool") (by rfl) T.n_bool (by decide +kernel) rfl) pa_nil)))) (pw_or1 (st_not (st_chain op_le op_lt le_ok lt_ok se_int (se_var (pv 3)) (se_var (pv 2)) (by with_unfolding_all rfl))))))) (ss_one (ss_ret se_non)) ss_nil)
  (ss_one (ss_ret (se_var (pv 3))))))
theorem sc__law_right : FnScope ["_law_drum_so", "_law_sides_so", "_law_modulus_so", "_law_hues_so", "_law_pairs", "_law_trees", "_law_even", "_law_lucas", "_law_step", "_law_left", "_law_first", "_law_second", "_law_third"] ["_law_drum_so", "_law_sides_so", "_law_modulus_so"] (defScope s__law_right) := ⟨rfl, rfl, rfl, by decide +kernel, rfl, by decide +kernel, by decide +kernel⟩
def B__law_right : MS := (sSeq (sSet 3 (mLc (iRange1 (mCons (mC (.int 3)) mNil)) (.n 8) [8] mYes (mCall F__law_rest__drum_edge_hues (mCons (mOp gAdd (mVar 1) (mVar 8)) (mCons (mVar 2) mNil)))))
  (sSeq (sSet 4 (mLc (iRange1 (mCons (mC (.int 5)) mNil)) (.n 8) [8] mYes (mCall F__law_rest__drum_pairings (mCons (mOp gAdd (mVar 1) (mVar 8)) (mCons (mVar 2) mNil)))))
  (sSeq (sSet 5 (mLc (iRange1 (mCons (mC (.int 3)) mNil)) (.n 8) [8] mYes (mCall F__law_rest__drum_trees (mCons (mOp gAdd (mVar 1) (mVar 8)) (mCons (mVar 2) mNil)))))
  (sSeq (sIf (mOr (mB (mOp (gIn false) (mC .non) (mOp gAdd (mOp gAdd (mVar 3) (mVar 4)) (mVar 5)))) (mB (mOp gNe (mOp (gI fSub) (mCall F_drum_rounds (mCons (mVar 1) mNil)) (mVar 1)) (mIf (mB (mOp gEq (mOp (gI fMod) (mVar 1) (mC (.int 2))) (mC (.int 0)))) (mC (.int 2)) (mC (.int 0)))))) (sRet (mC (.bl false))) sNil)
  (sSeq (sSet 6 (mIf (mB (mOp gEq (mOp (gI fMod) (mVar 1) (mC (.int 2))) (mC (.int 0)))) (mC (.int 8)) (mUn gNeg (mC (.int 2)))))
  (sSeq (sIf (mB (mOp gNe (mOp (gI fMod) (mOp (gI fSub) (mOp (gI fSub) (mOp gIx (mVar 3) (mC (.int 2))) (mVar 6)) (mOp (gI fMulB) (mC (.int 4)) (mOp (gI fSub) (mOp gIx (mVar 3) (mC (.int 0))) (mVar 6)))) (mVar 2)) (mC (.int 0)))) (sRet (mC (.bl false))) sNil)
  (sSeq (sIf (mB (mOp gNe (mOp (gI fMod) (mOp (gI fSub) (mOp (gI fSub) (mOp gAdd (mOp gIx (mVar 3) (mC (.int 1))) (mOp gIx (mVar 3) (mC (.int 0)))) (mC (.int 6))) (mOp (gI fMulB) (mC (.int 3)) (mOp (gI fSub) (mOp gIx (mVar 3) (mC (.int 0))) (mVar 6)))) (mVar 2)) (mC (.int 0)))) (sRet (mC (.bl false))) sNil)
  (sSeq (sSet 7 (mLc (iRange1 (mCons (mC (.int 5)) mNil)) (.n 8) [8] mYes (mOp (gI fSub) (mOp gIx (mVar 4) (mVar 8)) (mIf (mB (mOp gEq (mOp (gI fMod) (mOp gAdd (mVar 1) (mVar 8)) (mC (.int 2))) (mC (.int 0)))) (mC (.int 2)) (mC (.int 0))))))
  (sSeq (sFor (iRange1 (mCons (mC (.int 3)) mNil)) (.n 8) (sIf (mB (mOp gNe (mOp (gI fMod) (mOp (gI fSub) (mOp (gI fSub) (mOp gIx (mVar 7) (mOp gAdd (mVar 8) (mC (.int 2)))) (mOp gIx (mVar 7) (mOp gAdd (mVar 8) (mC (.int 1))))) (mOp gIx (mVar 7) (mVar 8))) (mVar 2)) (mC (.int 0)))) (sRet (mC (.bl false))) sNil))
  (sSeq (sPatL [(.n 10), (.n 11), (.n 12)] (mLc (iRange1 (mCons (mC (.int 3)) mNil)) (.n 8) [8] mYes (mOp gAdd (mVar 1) (mVar 8))))
  (sSeq (sSet 9 (mOp gAdd (mOp (gI fSub) (mOp (gI fMulB) (mOp (gI fMulB) (mVar 12) (mVar 11)) (mOp gIx (mVar 5) (mC (.int 0)))) (mOp (gI fMulB) (mOp (gI fMulB) (mOp (gI fMulB) (mC (.int 4)) (mVar 12)) (mVar 10)) (mOp gIx (mVar 5) (mC (.int 1))))) (mOp (gI fMulB) (mOp (gI fMulB) (mVar 11) (mVar 10)) (mOp gIx (mVar 5) (mC (.int 2))))))
  (sRet (mOp gEq (mOp (gI fMod) (mOp (gI fSub) (mVar 9) (mOp (gI fMulB) (mOp (gI fMulB) (mOp (gI fMulB) (mC (.int 2)) (mVar 10)) (mVar 11)) (mVar 12))) (mVar 2)) (mC (.int 0)))))))))))))))
def F__law_right : MF := mDef 13 B__law_right
theorem ok__law_right (T : Top K mg) : FnOk P wd K mg base CX0 7 T.f__law_right T.d__law_right ["_law_drum_so", "_law_sides_so", "_law_modulus_so"] (spF K cls 3 F__law_right) :=
  ok_def (k := 6) T.F__law_right sc__law_right fun cdv A outer s H E hr => by
  have S := sc__law_right
  unfold B__law_right
  exact (ss_cons (ss_setLc (i := 3) (own := [("_law_step", 8)]) rfl S.nd rfl rfl (sw_true rfl rfl rfl (by decide +kernel)) (si_range1 (by rfl) T.n_range (sa_cons (pa_cons se_int sa_nil)) (by rfl)) (blkOk_by (N := ["_law_drum_so", "_law_sides_so", "_law_modulus_so", "_law_hues_so", "_law_pairs", "_law_trees", "_law_even", "_law_lucas", "_law_step", "_law_left", "_law_first", "_law_second", "_law_third"]) (sc := defScope s__law_right) (by decide +kernel)) (by decide) (fun _ _ _ _ _ => (sp_n S.nd rfl (by first | exact Or.inl rfl | exact Or.inr rfl))) (fun _ _ _ _ _ => sts_nil) (fun _ _ _ _ _ => (se_callFn (ok__law_rest__drum_edge_hues T) (hr.mono (by decide)) (by rfl) T.g__law_rest T.F__law_rest.kp (b__law_rest T) pass0' (by rfl) T.g_drum_edge_hues (sa_cons (pa_cons (se_op op_addAll add_ok (se_var (pv 1)) (se_var (pv 8))) (sa_cons (pa_cons (se_var (pv 2)) sa_nil)))) (len_cons (len_cons len_nil)))))
  (ss_cons (ss_set (i := 4) S.nd rfl (Or.inr rfl) (se_lc (own := [("_law_step", 8)]) rfl S.nd (si_range1 (by rfl) T.n_range (sa_cons (pa_cons se_int sa_nil)) (by rfl)) (blkOk_by (N := ["_law_drum_so", "_law_sides_so", "_law_modulus_so", "_law_hues_so", "_law_pairs", "_law_trees", "_law_even", "_law_lucas", "_law_step", "_law_left", "_law_first", "_law_second", "_law_third"]) (sc := defScope s__law_right) (by decide +kernel)) (by decide) (fun _ _ _ _ _ => (sp_n S.nd rfl (by first | exact Or.inl rfl | exact Or.inr rfl))) (fun _ _ _ _ _ => sts_nil) (fun _ _ _ _ _ => (se_callFn (ok__law_rest__drum_pairings T) (hr.mono (by decide)) (by rfl) T.g__law_rest T.F__law_rest.kp (b__law_rest T) pass0' (by rfl) T.g_drum_pairings (sa_cons (pa_cons (se_op op_addAll add_ok (se_var (pv 1)) (se_var (pv 8))) (sa_cons (pa_cons (se_var (pv 2)) sa_nil)))) (len_cons (len_cons len_nil))))) (by rfl) (.inl rfl))
  (ss_cons (ss_setLc (i := 5) (own := [("_law_step", 8)]) rfl S.nd rfl rfl (sw_true rfl rfl rfl (by decide +kernel)) (si_range1 (by rfl) T.n_range (sa_cons (pa_cons se_int sa_nil)) (by rfl)) (blkOk_by (N := ["_law_drum_so", "_law_sides_so", "_law_modulus_so", "_law_hues_so", "_law_pairs", "_law_trees", "_law_even", "_law_lucas", "_law_step", "_law_left", "_law_first", "_law_second", "_law_third"]) (sc := defScope s__law_right) (by decide +kernel)) (by decide) (fun _ _ _ _ _ => (sp_n S.nd rfl (by first | exact Or.inl rfl | exact Or.inr rfl))) (fun _ _ _ _ _ => sts_nil) (fun _ _ _ _ _ => (se_callFn (ok__law_rest__drum_trees T) (hr.mono (by decide)) (by rfl) T.g__law_rest T.F__law_rest.kp (b__law_rest T) pass0' (by rfl) T.g_drum_trees (sa_cons (pa_cons (se_op op_addAll add_ok (se_var (pv 1)) (se_var (pv 8))) (sa_cons (pa_cons (se_var (pv 2)) sa_nil)))) (len_cons (len_cons len_nil)))))
  (ss_cons (ss_if (PW.pt (sw_or (st_cmp (op_inAll (hu65 hr)) in_ok se_non (se_op op_addAll add_ok (se_op op_addAll add_ok (se_var (pv 3)) (se_var (pv 4))) (se_var (pv 5))) (by rfl)) (pw_or1 (st_cmp (op_neD hr.units) ne_ok (se_op op_sub sub_ok (se_call (ok_drum_rounds T) (hr.mono (by decide)) (by rfl) T.g_drum_rounds T.F_drum_rounds.kp (b_drum_rounds T) pass0' (sa_cons (pa_cons (se_var (pv 1)) sa_nil)) (len_cons len_nil)) (se_var (pv 1))) (se_ifExp (st_cmp (op_eqD hr.units) eq_ok (se_op op_mod mod_ok (se_var (pv 1)) se_int) se_int (nomark _)) se_int se_int) (nomark _))))) (ss_one (ss_ret se_bl)) ss_nil)
  (ss_cons (ss_set (i := 6) S.nd rfl (Or.inl rfl) (se_ifExp (st_cmp (op_eqD hr.units) eq_ok (se_op op_mod mod_ok (se_var (pv 1)) se_int) se_int (nomark _)) se_int (se_un un_neg neg_ok se_int)) (by rfl) (.inl rfl))
  (ss_cons (ss_if (st_cmp (op_neD hr.units) ne_ok (se_op op_mod mod_ok (se_op op_sub sub_ok (se_op op_sub sub_ok (se_ix (hu1 hr) (se_var (pv 3)) se_int (fun _ _ => rfl)) (se_var (pv 6))) (se_op op_mulW mulB_ok se_int (se_op op_sub sub_ok (se_ix (hu1 hr) (se_var (pv 3)) se_int (fun _ _ => rfl)) (se_var (pv 6))))) (se_var (pv 2))) se_int (nomark _)) (ss_one (ss_ret se_bl)) ss_nil)
  (ss_cons (ss_if (st_cmp (op_neD hr.units) ne_ok (se_op op_mod mod_ok (se_op op_sub sub_ok (se_op op_sub sub_ok (se_op op_addAll add_ok (se_ix (hu1 hr) (se_var (pv 3)) se_int (fun _ _ => rfl)) (se_ix (hu1 hr) (se_var (pv 3)) se_int (fun _ _ => rfl))) se_int) (se_op op_mulW mulB_ok se_int (se_op op_sub sub_ok (se_ix (hu1 hr) (se_var (pv 3)) se_int (fun _ _ => rfl)) (se_var (pv 6))))) (se_var (pv 2))) se_int (nomark _)) (ss_one (ss_ret se_bl)) ss_nil)
  (ss_cons (ss_setLc (i := 7) (own := [("_law_step", 8)]) rfl S.nd rfl rfl (sw_true rfl rfl rfl (by decide +kernel)) (si_range1 (by rfl) T.n_range (sa_cons (pa_cons se_int sa_nil)) (by rfl)) (blkOk_by (N := ["_law_drum_so", "_law_sides_so", "_law_modulus_so", "_law_hues_so", "_law_pairs", "_law_trees", "_law_even", "_law_lucas", "_law_step", "_law_left", "_law_first", "_law_second", "_law_third"]) (sc := defScope s__law_right) (by decide +kernel)) (by decide) (fun _ _ _ _ _ => (sp_n S.nd rfl (by first | exact Or.inl rfl | exact Or.inr rfl))) (fun _ _ _ _ _ => sts_nil) (fun _ _ _ _ _ => (se_op op_sub sub_ok (se_ix (hu1 hr) (se_var (pv 4)) (se_var (pv 8)) (fun _ _ => rfl)) (se_ifExp (st_cmp (op_eqD hr.units) eq_ok (se_op op_mod mod_ok (se_op op_addAll add_ok (se_var (pv 1)) (se_var (pv 8))) se_int) se_int (nomark _)) se_int se_int))))
  (ss_cons (ss_for' PassesOwn.never rfl (si_range1 (by rfl) T.n_range (sa_cons (pa_cons se_int sa_nil)) (by rfl)) (sp_n S.nd rfl (by first | exact Or.inl rfl | exact Or.inr rfl)) (ss_one (ss_if (st_cmp (op_neD hr.units) ne_ok (se_op op_mod mod_ok (se_op op_sub sub_ok (se_op op_sub sub_ok (se_ix (hu1 hr) (se_var (pv 7)) (se_op op_addAll add_ok (se_var (pv 8)) se_int) (fun _ _ => rfl)) (se_ix (hu1 hr) (se_var (pv 7)) (se_op op_addAll add_ok (se_var (pv 8)) se_int) (fun _ _ => rfl))) (se_ix (hu1 hr) (se_var (pv 7)) (se_var (pv 8)) (fun _ _ => rfl))) (se_var (pv 2))) se_int (nomark _)) (ss_one (ss_ret se_bl)) ss_nil)))
  (ss_cons (ss_patL rfl (se_lc (own := [("_law_step", 8)]) rfl S.nd (si_range1 (by rfl) T.n_range (sa_cons (pa_cons se_int sa_nil)) (by rfl)) (blkOk_by (N := ["_law_drum_so", "_law_sides_so", "_law_modulus_so", "_law_hues_so", "_law_pairs", "_law_trees", "_law_even", "_law_lucas", "_law_step", "_law_left", "_law_first", "_law_second", "_law_third"]) (sc := defScope s__law_right) (by decide +kernel)) (by decide) (fun _ _ _ _ _ => (sp_n S.nd rfl (by first | exact Or.inl rfl | exact Or.inr rfl))) (fun _ _ _ _ _ => sts_nil) (fun _ _ _ _ _ => (se_op op_addAll add_ok (se_var (pv 1)) (se_var (pv 8))))) (sps_cons (sp_n S.nd rfl (by first | exact Or.inl rfl | exact Or.inr rfl)) (sps_cons (sp_n S.nd rfl (by first | exact Or.inl rfl | exact Or.inr rfl)) (sps_cons (sp_n S.nd rfl (by first | exact Or.inl rfl | exact Or.inr rfl)) sps_nil))))
  (ss_cons (ss_set (i := 9) S.nd rfl (Or.inl rfl) (se_op op_addAll add_ok (se_op op_sub sub_ok (se_op op_mulW mulB_ok (se_op op_mulW mulB_ok (se_var (pv 12)) (se_var (pv 11))) (se_ix (hu1 hr) (se_var (pv 5)) se_int (fun _ _ => rfl))) (se_op op_mulW mulB_ok (se_op op_mulW mulB_ok (se_op op_mulW mulB_ok se_int (se_var (pv 12))) (se_var (pv 10))) (se_ix (hu1 hr) (se_var (pv 5)) se_int (fun _ _ => rfl)))) (se_op op_mulW mulB_ok (se_op op_mulW mulB_ok (se_var (pv 11)) (se_var (pv 10))) (se_ix (hu1 hr) (se_var (pv 5)) se_int (fun _ _ => rfl)))) (by rfl) (.inl rfl))
  (ss_one (ss_ret (se_cmp (op_eqD hr.units) eq_ok (se_op op_mod mod_ok (se_op op_sub sub_ok (se_var (pv 9)) (se_op op_mulW mulB_ok (se_op op_mulW mulB_ok (se_op op_mulW mulB_ok se_int (se_var (pv 10))) (se_var (pv 11))) (se_var (pv 12)))) (se_var (pv 2))) se_int (nomark _)))))))))))))))
theorem b__law_right (T : Top K mg) : Binds K T.d__law_right ["_law_drum_so", "_law_sides_so", "_law_modulus_so"] [] := T.F__law_right.binds (ps := ["_law_drum_so", "_law_sides_so", "_law_modulus_so"]) fun _ _ _ _ _ _ us hl => match us, hl with | [_, _, _], _ => rfl
theorem sc__law_faces_right : FnScope ["_law_drum_so", "_law_sides_so", "_law_modulus_so", "_law_four", "_law_whole", "_law_three", "_law_tints", "_law_part", "_law_many"] ["_law_drum_so", "_law_sides_so", "_law_modulus_so"] (defScope s__law_faces_right) := ⟨rfl, rfl, rfl, by decide +kernel, rfl, by decide +kernel, by decide +kernel⟩
def B__law_faces_right : MS := (sSeq (sSet 3 (mCall F_drum_face_hues (mCons (mVar 1) (mCons (mC (.int 4)) (mCons (mVar 2) mNil)))))
  (sSeq (sIf (mB (mOp gNe (mOp (gI fMod) (mOp (gI fSub) (mVar 3) (mOp (gI fMul) (mC (.int 4)) (mCall F_drum_edge_hues (mCons (mVar 1) (mCons (mVar 2) mNil))))) (mVar 2)) (mC (.int 0)))) (sRet (mC (.bl false))) sNil)
  (sSeq (sPar 6 7 (mCons (mCallK F__law_roll (mCons (mVar 0) (mCons (mOp (gI fPow) (mC (.int 10)) (mC (.int 12))) mNil))) (mCons (mOp gAdd (mC (.int 1)) (mCallK F__law_roll (mCons (mVar 0) (mCons (mOp (gI fPow) (mC (.int 10)) (mC (.int 5))) mNil)))) mNil)))
  (sSeq (sSet 4 (mCall F_drum_face_hues (mCons (mVar 1) (mCons (mVar 6) (mCons (mOp (gI fMul) (mVar 7) (mC (.int 1000))) mNil)))))
  (sSeq (sIf (mB (mOp gNe (mOp (gI fMod) (mVar 4) (mVar 7)) (mCall F_drum_face_hues (mCons (mVar 1) (mCons (mVar 6) (mCons (mVar 7) mNil)))))) (sRet (mC (.bl false))) sNil)
  (sSeq (sIf (mB (mOp gNe (mOp (gI fMod) (mVar 4) (mC (.int 1000))) (mCall F_drum_face_hues (mCons (mVar 1) (mCons (mOp (gI fMod) (mVar 6) (mC (.int 1000))) (mCons (mC (.int 1000)) mNil)))))) (sRet (mC (.bl false))) sNil)
  (sSeq (sSet 5 (mIf (mB (mOp gEq (mOp (gI fMod) (mVar 1) (mC (.int 2))) (mC (.int 0)))) (mC (.int 6)) (mC (.int 0))))
  (sRet (mOp gEq (mLc (iSeq (mTup (mCons (mC (.int 0)) (mCons (mC (.int 1)) (mCons (mC (.int 2)) (mCons (mC (.int 3)) mNil)))))) (.n 8) [8] mYes (mCall F_drum_face_hues (mCons (mVar 1) (mCons (mVar 8) (mCons (mC (.int 100)) mNil))))) (mLst (mCons (mC (.int 0)) (mCons (mC (.int 0)) (mCons (mC (.int 0)) (mCons (mVar 5) mNil))))))))))))))
def F__law_faces_right : MF := mDef 9 B__law_faces_right
theorem ok__law_faces_right (T : Top K mg) : FnOk P wd K mg base CX0 6 T.f__law_faces_right T.d__law_faces_right ["_law_drum_so", "_law_sides_so", "_law_modulus_so"] (spF K cls 3 F__law_faces_right) :=
  ok_def (k := 5) T.F__law_faces_right sc__law_faces_right fun cdv A outer s H E hr => by
  have S := sc__law_faces_right
  unfold B__law_faces_right
  exact (ss_cons (ss_set (i := 3) S.nd rfl (Or.inl rfl) (se_call (ok_drum_face_hues T) (hr.mono (by decide)) (by rfl) T.g_drum_face_hues T.F_drum_face_hues.kp (b_drum_face_hues T) pass0' (sa_cons (pa_cons (se_var (pv 1)) (sa_cons (pa_cons se_int (sa_cons (pa_cons (se_var (pv 2)) sa_nil)))))) (len_cons (len_cons (len_cons len_nil)))) (by rfl) (.inl rfl))
  (ss_cons (ss_if (st_cmp (op_neD hr.units) ne_ok (se_op op_mod mod_ok (se_op op_sub sub_ok (se_var (pv 3)) (se_op op_mul mul_ok se_int (se_call (ok_drum_edge_hues T) (hr.mono (by decide)) (by rfl) T.g_drum_edge_hues T.F_drum_edge_hues.kp (b_drum_edge_hues T) pass0' (sa_cons (pa_cons (se_var (pv 1)) (sa_cons (pa_cons (se_var (pv 2)) sa_nil)))) (len_cons (len_cons len_nil))))) (se_var (pv 2))) se_int (nomark _)) (ss_one (ss_ret se_bl)) ss_nil)
  (ss_cons (ss_par (i := 6) (j := 7) rfl S.nd rfl rfl (by decide) rfl rfl (sa_cons (pa_cons (se_callK (ok__law_roll T) (hr.mono (by decide)) (by rfl) T.g__law_roll T.F__law_roll.kp (b__law_roll T) pass0' (sa_cons (pa_cons (se_var (pv 0)) (sa_cons (pa_cons (se_op op_pow pow_ok se_int se_int) sa_nil)))) (len_cons (len_cons len_nil))) (sa_cons (pa_cons (se_op op_addAll add_ok se_int (se_callK (ok__law_roll T) (hr.mono (by decide)) (by rfl) T.g__law_roll T.F__law_roll.kp (b__law_roll T) pass0' (sa_cons (pa_cons (se_var (pv 0)) (sa_cons (pa_cons (se_op op_pow pow_ok se_int se_int) sa_nil)))) (len_cons (len_cons len_nil)))) sa_nil)))) rfl)
  (ss_cons (ss_set (i := 4) S.nd rfl (Or.inl rfl) (se_call (ok_drum_face_hues T) (hr.mono (by decide)) (by rfl) T.g_drum_face_hues T.F_drum_face_hues.kp (b_drum_face_hues T) pass0' (sa_cons (pa_cons (se_var (pv 1)) (sa_cons (pa_cons (se_var (pv 6)) (sa_cons (pa_cons (se_op op_mul mul_ok (se_var (pv 7)) se_int) sa_nil)))))) (len_cons (len_cons (len_cons len_nil)))) (by rfl) (.inl rfl))
  (ss_cons (ss_if (st_cmp (op_neD hr.units) ne_ok (se_op op_mod mod_ok (se_var (pv 4)) (se_var (pv 7))) (se_call (ok_drum_face_hues T) (hr.mono (by decide)) (by rfl) T.g_drum_face_hues T.F_drum_face_hues.kp (b_drum_face_hues T) pass0' (sa_cons (pa_cons (se_var (pv 1)) (sa_cons (pa_cons (se_var (pv 6)) (sa_cons (pa_cons (se_var (pv 7)) sa_nil)))))) (len_cons (len_cons (len_cons len_nil)))) (nomark _)) (ss_one (ss_ret se_bl)) ss_nil)
  (ss_cons (ss_if (st_cmp (op_neD hr.units) ne_ok (se_op op_mod mod_ok (se_var (pv 4)) se_int) (se_call (ok_drum_face_hues T) (hr.mono (by decide)) (by rfl) T.g_drum_face_hues T.F_drum_face_hues.kp (b_drum_face_hues T) pass0' (sa_cons (pa_cons (se_var (pv 1)) (sa_cons (pa_cons (se_op op_mod mod_ok (se_var (pv 6)) se_int) (sa_cons (pa_cons se_int sa_nil)))))) (len_cons (len_cons (len_cons len_nil)))) (nomark _)) (ss_one (ss_ret se_bl)) ss_nil)
  (ss_cons (ss_set (i := 5) S.nd rfl (Or.inl rfl) (se_ifExp (st_cmp (op_eqD hr.units) eq_ok (se_op op_mod mod_ok (se_var (pv 1)) se_int) se_int (nomark _)) se_int se_int) (by rfl) (.inl rfl))
  (ss_one (ss_ret (se_cmp (op_eqD hr.units) eq_ok (se_lc (own := [("_law_many", 8)]) rfl S.nd (si_seq (se_tup (sa_cons (pa_cons se_int (sa_cons (pa_cons se_int (sa_cons (pa_cons se_int (sa_cons (pa_cons se_int sa_nil)))))))))) (blkOk_by (N := ["_law_drum_so", "_law_sides_so", "_law_modulus_so", "_law_four", "_law_whole", "_law_three", "_law_tints", "_law_part", "_law_many"]) (sc := defScope s__law_faces_right) (by decide +kernel)) (by decide) (fun _ _ _ _ _ => (sp_n S.nd rfl (by first | exact Or.inl rfl | exact Or.inr rfl))) (fun _ _ _ _ _ => sts_nil) (fun _ _ _ _ _ => (se_call (ok_drum_face_hues T) (hr.mono (by decide)) (by rfl) T.g_drum_face_hues T.F_drum_face_hues.kp (b_drum_face_hues T) pass0' (sa_cons (pa_cons (se_var (pv 1)) (sa_cons (pa_cons (se_var (pv 8)) (sa_cons (pa_cons se_int sa_nil)))))) (len_cons (len_cons (len_cons len_nil)))))) (se_lst (sa_cons (pa_cons se_int (sa_cons (pa_cons se_int (sa_cons (pa_cons se_int (sa_cons (pa_cons (se_var (pv 5)) sa_nil))))))))) (nomark _)))))))))))
theorem b__law_faces_right (T : Top K mg) : Binds K T.d__law_faces_right ["_law_drum_so", "_law_sides_so", "_law_modulus_so"] [] := T.F__law_faces_right.binds (ps := ["_law_drum_so", "_law_sides_so", "_law_modulus_so"]) fun _ _ _ _ _ _ us hl => match us, hl with | [_, _, _], _ => rfl
theorem sc_law : FnScope ["_law_script", "_law_cell", "_law_drum_so", "_law_sides_so", "_law_modulus_so", "_law_many"] ["_law_script"] (defScope s_law) := ⟨rfl, rfl, rfl, by decide +kernel, rfl, by decide +kernel, by decide +kernel⟩
def B_law : MS := (sSeq (sFor (iSeq (mSl (mOp gAddL (mVar 0) (mLst (mCons (mC (.int 0)) (mCons (mC (.int 1)) mNil)))) oNone (oSome (mC (.int 4))))) (.n 1) (sSeq (sSet 2 (mCall F__law_drum (mCons (mVar 1) (mCons (mC (.int 9)) mNil))))
  (sSeq (sSet 3 (mCall F__law_some (mCons (mVar 2) (mCons (mLst (mCons (mC (.int 3)) (mCons (mC (.int 4)) (mCons (mOp gAdd (mC (.int 3)) (mCallK F__law_roll (mCons (mVar 2) (mCons (mC (.int 100)) mNil)))) (mCons (mOp (gI fSub) (mOp (gI fSub) (mOp (gI fPow) (mC (.int 10)) (mC (.int 30))) (mC (.int 4))) (mCallK F__law_roll (mCons (mVar 2) (mCons (mOp (gI fPow) (mC (.int 10)) (mC (.int 9))) mNil)))) mNil))))) mNil))))
  (sSeq (sSet 4 (mCall F__law_some (mCons (mVar 2) (mCons (mLst (mCons (mC (.int 1)) (mCons (mC (.int 2)) (mCons (mC (.int 7)) (mCons (mOp (gI fPow) (mC (.int 10)) (mC (.int 12))) (mCons (mOp gAdd (mC (.int 1)) (mCallK F__law_roll (mCons (mVar 2) (mCons (mOp (gI fPow) (mC (.int 10)) (mC (.int 12))) mNil)))) mNil)))))) mNil))))
  (sIf (mOr (mNot (mTr (mCallK F__law_right (mCons (mVar 2) (mCons (mVar 3) (mCons (mVar 4) mNil)))))) (mNot (mTr (mCallK F__law_faces_right (mCons (mVar 2) (mCons (mVar 3) (mCons (mVar 4) mNil))))))) (sRet (mC (.bl false))) sNil)))))
  (sSeq (sIf (mOr (mB (mOp gNe (mCall F_drum_rounds (mCons (mOp (gI fPow) (mC (.int 10)) (mC (.int 30))) mNil)) (mOp gAdd (mOp (gI fPow) (mC (.int 10)) (mC (.int 30))) (mC (.int 2))))) (mOr (mB (mOp gNe (mCall F_drum_edge_hues (mCons (mOp (gI fPow) (mC (.int 10)) (mC (.int 30))) (mCons (mC (.int 7)) mNil))) (mC (.int 3)))) (mB (mOp gNe (mCall F_drum_trees (mCons (mOp (gI fPow) (mC (.int 10)) (mC (.int 30))) (mCons (mC (.int 10)) mNil))) (mC (.int 0)))))) (sRet (mC (.bl false))) sNil)
  (sSeq (sIf (mB (mOp gNe (mLc (iSeq (mTup (mCons (mC (.int 3)) (mCons (mC (.int 4)) (mCons (mC (.int 5)) (mCons (mC (.int 6)) mNil)))))) (.n 5) [5] mYes (mCall F_drum_edge_hues (mCons (mVar 5) (mCons (mOp (gI fPow) (mC (.int 10)) (mC (.int 6))) mNil)))) (mLst (mCons (mC (.int 6)) (mCons (mC (.int 24)) (mCons (mC (.int 30)) (mCons (mC (.int 72)) mNil))))))) (sRet (mC (.bl false))) sNil)
  (sSeq (sIf (mB (mOp gNe (mLc (iSeq (mTup (mCons (mC (.int 3)) (mCons (mC (.int 4)) (mCons (mC (.int 5)) mNil))))) (.n 5) [5] mYes (mCall F_drum_pairings (mCons (mVar 5) (mCons (mC (.int 1000)) mNil)))) (mLst (mCons (mC (.int 4)) (mCons (mC (.int 9)) (mCons (mC (.int 11)) mNil)))))) (sRet (mC (.bl false))) sNil)
  (sSeq (sIf (mB (mOp gNe (mLc (iSeq (mTup (mCons (mC (.int 3)) (mCons (mC (.int 4)) mNil)))) (.n 5) [5] mYes (mCall F_drum_trees (mCons (mVar 5) (mCons (mC (.int 1000)) mNil)))) (mLst (mCons (mC (.int 75)) (mCons (mC (.int 384)) mNil))))) (sRet (mC (.bl false))) sNil)
  (sRet (mAndV (mOp gEq (mCall F_drum_face_hues (mCons (mC (.int 4)) (mCons (mC (.int 3)) (mCons (mC (.int 100)) mNil)))) (mC (.int 6))) (mAndV (mOp gEq (mCall F_drum_face_hues (mCons (mC (.int 4)) (mCons (mC (.int 4)) (mCons (mC (.int 1000)) mNil)))) (mC (.int 96))) (mOp gEq (mCall F_drum_face_hues (mCons (mC (.int 5)) (mCons (mC (.int 3)) (mCons (mC (.int 10)) mNil)))) (mC (.int 0)))))))))))
def F_law : MF := mDef 6 B_law
theorem ok_law (T : Top K mg) : FnOk P wd K mg base CX0 8 T.f_law T.d_law ["_law_script"] (spF K cls 1 F_law) :=
  ok_def (k := 7) T.F_law sc_law fun cdv A outer s H E hr => by
  have S := sc_law
  unfold B_law
  exact (ss_cons (ss_for' PassesOwn.never rfl (si_seq (se_sl (se_op op_catL addL_ok (se_var (pv 0)) (se_lst (sa_cons (pa_cons se_int (sa_cons (pa_cons se_int sa_nil)))))) so_none (so_some se_int))) (sp_n S.nd rfl (by first | exact Or.inl rfl | exact Or.inr rfl)) (ss_cons (ss_set (i := 2) S.nd rfl (Or.inl rfl) (se_call (ok__law_drum T) (hr.mono (by decide)) (by rfl) T.g__law_drum T.F__law_drum.kp (b__law_drum T) pass0' (sa_cons (pa_cons (se_var (pv 1)) (sa_cons (pa_cons se_int sa_nil)))) (len_cons (len_cons len_nil))) (by rfl) (.inl rfl))
  (ss_cons (ss_set (i := 3) S.nd rfl (Or.inl rfl) (se_call (ok__law_some T) (hr.mono (by decide)) (by rfl) T.g__law_some T.F__law_some.kp (b__law_some T) pass0' (sa_cons (pa_cons (se_var (pv 2)) (sa_cons (pa_cons (se_lst (sa_cons (pa_cons se_int (sa_cons (pa_cons se_int (sa_cons (pa_cons (se_op op_addAll add_ok se_int (se_callK (ok__law_roll T) (hr.mono (by decide)) (by rfl) T.g__law_roll T.F__law_roll.kp (b__law_roll T) pass0' (sa_cons (pa_cons (se_var (pv 2)) (sa_cons (pa_cons se_int sa_nil)))) (len_cons (len_cons len_nil)))) (sa_cons (pa_cons (se_op op_sub sub_ok (se_op op_sub sub_ok (se_op op_pow pow_ok se_int se_int) se_int) (se_callK (ok__law_roll T) (hr.mono (by decide)) (by rfl) T.g__law_roll T.F__law_roll.kp (b__law_roll T) pass0' (sa_cons (pa_cons (se_var (pv 2)) (sa_cons (pa_cons (se_op op_pow pow_ok se_int se_int) sa_nil)))) (len_cons (len_cons len_nil)))) sa_nil))))))))) sa_nil)))) (len_cons (len_cons len_nil))) (by rfl) (.inl rfl))
  (ss_cons (ss_set (i := 4) S.nd rfl (Or.inl rfl) (se_call (ok__law_some T) (hr.mono (by decide)) (by rfl) T.g__law_some T.F__law_some.kp (b__law_some T) pass0' (sa_cons (pa_cons (se_var (pv 2)) (sa_cons (pa_cons (se_lst (sa_cons (pa_cons se_int (sa_cons (pa_cons se_int (sa_cons (pa_cons se_int (sa_cons (pa_cons (se_op op_pow pow_ok se_int se_int) (sa_cons (pa_cons (se_op op_addAll add_ok se_int (se_callK (ok__law_roll T) (hr.mono (by decide)) (by rfl) T.g__law_roll T.F__law_roll.kp (b__law_roll T) pass0' (sa_cons (pa_cons (se_var (pv 2)) (sa_cons (pa_cons (se_op op_pow pow_ok se_int se_int) sa_nil)))) (len_cons (len_cons len_nil)))) sa_nil))))))))))) sa_nil)))) (len_cons (len_cons len_nil))) (by rfl) (.inl rfl))
  (ss_one (ss_if (PW.pt (sw_or (st_not (st_truth (se_callK (ok__law_right T) (hr.mono (by decide)) (by rfl) T.g__law_right T.F__law_right.kp (b__law_right T) pass0' (sa_cons (pa_cons (se_var (pv 2)) (sa_cons (pa_cons (se_var (pv 3)) (sa_cons (pa_cons (se_var (pv 4)) sa_nil)))))) (len_cons (len_cons (len_cons len_nil)))))) (pw_or1 (st_not (st_truth (se_callK (ok__law_faces_right T) (hr.mono (by decide)) (by rfl) T.g__law_faces_right T.F__law_faces_right.kp (b__law_faces_right T) pass0' (sa_cons (pa_cons (se_var (pv 2)) (sa_cons (pa_cons (se_var (pv 3)) (sa_cons (pa_cons (se_var (pv 4)) sa_nil)))))) (len_cons (len_cons (len_cons len_nil))))))))) (ss_one (ss_ret se_bl)) ss_nil))))))
  (ss_cons (ss_if (PW.pt (sw_or (st_cmp (op_neD hr.units) ne_ok (se_call (ok_drum_rounds T) (hr.mono (by decide)) (by rfl) T.g_drum_rounds T.F_drum_rounds.kp (b_drum_rounds T) pass0' (sa_cons (pa_cons (se_op op_pow pow_ok se_int se_int) sa_nil)) (len_cons len_nil)) (se_op op_addAll add_ok (se_op op_pow pow_ok se_int se_int) se_int) (nomark _)) (sw_or (st_cmp (op_neD hr.units) ne_ok (se_call (ok_drum_edge_hues T) (hr.mono (by decide)) (by rfl) T.g_drum_edge_hues T.F_drum_edge_hues.kp (b_drum_edge_hues T) pass0' (sa_cons (pa_cons (se_op op_pow pow_ok se_int se_int) (sa_cons (pa_cons se_int sa_nil)))) (len_cons (len_cons len_nil))) se_int (nomark _)) (pw_or1 (st_cmp (op_neD hr.units) ne_ok (se_call (ok_drum_trees T) (hr.mono (by decide)) (by rfl) T.g_drum_trees T.F_drum_trees.kp (b_drum_trees T) pass0' (sa_cons (pa_cons (se_op op_pow pow_ok se_int se_int) (sa_cons (pa_cons se_int sa_nil)))) (len_cons (len_cons len_nil))) se_int (nomark _)))))) (ss_one (ss_ret se_bl)) ss_nil)
  (ss_cons (ss_if (st_cmp (op_neD hr.units) ne_ok (se_lc (own := [("_law_many", 5)]) rfl S.nd (si_seq (se_tup (sa_cons (pa_cons se_int (sa_cons (pa_cons se_int (sa_cons (pa_cons se_int (sa_cons (pa_cons se_int sa_nil)))))))))) (blkOk_by (N := ["_law_script", "_law_cell", "_law_drum_so", "_law_sides_so", "_law_modulus_so", "_law_many"]) (sc := defScope s_law) (by decide +kernel)) (by decide) (fun _ _ _ _ _ => (sp_n S.nd rfl (by first | exact Or.inl rfl | exact Or.inr rfl))) (fun _ _ _ _ _ => sts_nil) (fun _ _ _ _ _ => (se_call (ok_drum_edge_hues T) (hr.mono (by decide)) (by rfl) T.g_drum_edge_hues T.F_drum_edge_hues.kp (b_drum_edge_hues T) pass0' (sa_cons (pa_cons (se_var (pv 5)) (sa_cons (pa_cons (se_op op_pow pow_ok se_int se_int) sa_nil)))) (len_cons (len_cons len_nil))))) (se_lst (sa_cons (pa_cons se_int (sa_cons (pa_cons se_int (sa_cons (pa_cons se_int (sa_cons (pa_cons se_int sa_nil))))))))) (nomark _)) (ss_one (ss_ret se_bl)) ss_nil)
  (ss_cons (ss_if (st_cmp (op_neD hr.units) ne_ok (se_lc (own := [("_law_many", 5)]) rfl S.nd (si_seq (se_tup (sa_cons (pa_cons se_int (sa_cons (pa_cons se_int (sa_cons (pa_cons se_int sa_nil)))))))) (blkOk_by (N := ["_law_script", "_law_cell", "_law_drum_so", "_law_sides_so", "_law_modulus_so", "_law_many"]) (sc := defScope s_law) (by decide +kernel)) (by decide) (fun _ _ _ _ _ => (sp_n S.nd rfl (by first | exact Or.inl rfl | exact Or.inr rfl))) (fun _ _ _ _ _ => sts_nil) (fun _ _ _ _ _ => (se_call (ok_drum_pairings T) (hr.mono (by decide)) (by rfl) T.g_drum_pairings T.F_drum_pairings.kp (b_drum_pairings T) pass0' (sa_cons (pa_cons (se_var (pv 5)) (sa_cons (pa_cons se_int sa_nil)))) (len_cons (len_cons len_nil))))) (se_lst (sa_cons (pa_cons se_int (sa_cons (pa_cons se_int (sa_cons (pa_cons se_int sa_nil))))))) (nomark _)) (ss_one (ss_ret se_bl)) ss_nil)
  (ss_cons (ss_if (st_cmp (op_neD hr.units) ne_ok (se_lc (own := [("_law_many", 5)]) rfl S.nd (si_seq (se_tup (sa_cons (pa_cons se_int (sa_cons (pa_cons se_int sa_nil)))))) (blkOk_by (N := ["_law_script", "_law_cell", "_law_drum_so", "_law_sides_so", "_law_modulus_so", "_law_many"]) (sc := defScope s_law) (by decide +kernel)) (by decide) (fun _ _ _ _ _ => (sp_n S.nd rfl (by first | exact Or.inl rfl | exact Or.inr rfl))) (fun _ _ _ _ _ => sts_nil) (fun _ _ _ _ _ => (se_call (ok_drum_trees T) (hr.mono (by decide)) (by rfl) T.g_drum_trees T.F_drum_trees.kp (b_drum_trees T) pass0' (sa_cons (pa_cons (se_var (pv 5)) (sa_cons (pa_cons se_int sa_nil)))) (len_cons (len_cons len_nil))))) (se_lst (sa_cons (pa_cons se_int (sa_cons (pa_cons se_int sa_nil))))) (nomark _)) (ss_one (ss_ret se_bl)) ss_nil)
  (ss_one (ss_ret (se_andV (se_cmp (op_eqD hr.units) eq_ok (se_call (ok_drum_face_hues T) (hr.mono (by decide)) (by rfl) T.g_drum_face_hues T.F_drum_face_hues.kp (b_drum_face_hues T) pass0' (sa_cons (pa_cons se_int (sa_cons (pa_cons se_int (sa_cons (pa_cons se_int sa_nil)))))) (len_cons (len_cons (len_cons len_nil)))) se_int (nomark _)) (se_andV (se_cmp (op_eqD hr.units) eq_ok (se_call (ok_drum_face_hues T) (hr.mono (by decide)) (by rfl) T.g_drum_face_hues T.F_drum_face_hues.kp (b_drum_face_hues T) pass0' (sa_cons (pa_cons se_int (sa_cons (pa_cons se_int (sa_cons (pa_cons se_int sa_nil)))))) (len_cons (len_cons (len_cons len_nil)))) se_int (nomark _)) (pe_one (se_cmp (op_eqD hr.units) eq_ok (se_call (ok_drum_face_hues T) (hr.mono (by decide)) (by rfl) T.g_drum_face_hues T.F_drum_face_hues.kp (b_drum_face_hues T) pass0' (sa_cons (pa_cons se_int (sa_cons (pa_cons se_int (sa_cons (pa_cons se_int sa_nil)))))) (len_cons (len_cons (len_cons len_nil)))) se_int (nomark _))))))))))))
theorem b_law (T : Top K mg) : Binds K T.d_law ["_law_script"] [] := T.F_law.binds (ps := ["_law_script"]) fun _ _ _ _ _ _ us hl => match us, hl with | [_], _ => rfl
end
end EVP

set_option Elab.async false
set_option linter.all false
set_option maxRecDepth 100000
set_option maxHeartbeats 4000000
/-! Numbers: remainders, squares of four numbers, rows. -/
namespace DM
/-- a and b leave the same -/
def cg (m a b : Int) : Prop := a % m = b % m
theorem cg.refl {m a : Int} : cg m a a := rfl
theorem cg.symm {m a b : Int} (h : cg m a b) : cg m b a := Eq.symm h
theorem cg.trans {m a b c : Int} (h : cg m a b) (k : cg m b c) : cg m a c := Eq.trans h k
theorem cg.of_eq {m a b : Int} (h : a = b) : cg m a b := by rw [h]; exact .refl
theorem cg.mul {m a b c d : Int} (h : cg m a b) (k : cg m c d) : cg m (a * c) (b * d) := by unfold cg at *; rw [Int.mul_emod, h, k, ← Int.mul_emod]
theorem cg.add {m a b c d : Int} (h : cg m a b) (k : cg m c d) : cg m (a + c) (b + d) := by unfold cg at *; rw [Int.add_emod, h, k, ← Int.add_emod]
theorem cg.sub {m a b c d : Int} (h : cg m a b) (k : cg m c d) : cg m (a - c) (b - d) := by unfold cg at *; rw [Int.sub_emod, h, k, ← Int.sub_emod]
theorem cg.red {m a : Int} : cg m (a % m) a := Int.emod_emod_of_dvd a (Int.dvd_refl m)
theorem cg.pow {m a b : Int} (h : cg m a b) (k : Nat) : cg m (a ^ k) (b ^ k) := by
  induction k with
  | zero => rw [Int.pow_zero, Int.pow_zero]; exact .refl
  | succ k ih => rw [Int.pow_succ, Int.pow_succ]; exact ih.mul h
theorem cg.dvd {m n a b : Int} (h : cg m a b) (d : n ∣ m) : cg n a b := by
  unfold cg at *
  rw [← Int.emod_emod_of_dvd a d, h, Int.emod_emod_of_dvd b d]
theorem cg.zero {m a : Int} (h : cg m a 0) : a % m = 0 := by unfold cg at h; rw [h]; exact Int.zero_emod m
@[ext] structure Mx where
  (a b c d : Int)
def Mx.mul (x y : Mx) : Mx := ⟨x.a * y.a + x.b * y.c, x.a * y.b + x.b * y.d, x.c * y.a + x.d * y.c, x.c * y.b + x.d * y.d⟩
def Mx.one : Mx := ⟨1, 0, 0, 1⟩
def Mx.pow (x : Mx) : Nat → Mx
  | 0 => .one
  | k + 1 => (x.pow k).mul x
theorem Mx.assoc (x y z : Mx) : (x.mul y).mul z = x.mul (y.mul z) := by
  unfold Mx.mul
  ext <;> grind
theorem Mx.one_mul (x : Mx) : Mx.one.mul x = x := by unfold Mx.one Mx.mul; ext <;> simp
theorem Mx.mul_one (x : Mx) : x.mul Mx.one = x := by unfold Mx.one Mx.mul; ext <;> simp
theorem Mx.pow_sq (x : Mx) (k : Nat) : (x.mul x).pow k = x.pow (2 * k) := by
  induction k with
  | zero => rfl
  | succ k ih =>
    show ((x.mul x).pow k).mul (x.mul x) = ((x.pow (2 * k)).mul x).mul x
    rw [ih, Mx.assoc]
theorem Mx.pow_comm (x : Mx) (k : Nat) : x.mul (x.pow k) = (x.pow k).mul x := by
  induction k with
  | zero => show x.mul .one = Mx.one.mul x; rw [Mx.one_mul, Mx.mul_one]
  | succ k ih =>
    show x.mul ((x.pow k).mul x) = ((x.pow k).mul x).mul x
    rw [← Mx.assoc, ih]
/-- entry by entry -/
structure Mx.cg (m : Int) (x y : Mx) : Prop where
  a : DM.cg m x.a y.a
  b : DM.cg m x.b y.b
  c : DM.cg m x.c y.c
  d : DM.cg m x.d y.d
theorem Mx.cg.refl {m : Int} {x : Mx} : x.cg m x := ⟨.refl, .refl, .refl, .refl⟩
theorem Mx.cg.trans {m : Int} {x y z : Mx} (h : x.cg m y) (k : y.cg m z) : x.cg m z := ⟨h.a.trans k.a, h.b.trans k.b, h.c.trans k.c, h.d.trans k.d⟩
theorem Mx.cg.mul {m : Int} {x y z t : Mx} (h : x.cg m y) (k : z.cg m t) : (x.mul z).cg m (y.mul t) :=
  ⟨(h.a.mul k.a).add (h.b.mul k.c), (h.a.mul k.b).add (h.b.mul k.d), (h.c.mul k.a).add (h.d.mul k.c), (h.c.mul k.b).add (h.d.mul k.d)⟩
theorem Mx.cg.pow {m : Int} {x y : Mx} (h : x.cg m y) (k : Nat) : (x.pow k).cg m (y.pow k) := by
  induction k with
  | zero => exact .refl
  | succ k ih => exact ih.mul h
def Mx.red (m : Int) (x : Mx) : Mx := ⟨x.a % m, x.b % m, x.c % m, x.d % m⟩
theorem Mx.red_cg {m : Int} {x : Mx} : (x.red m).cg m x := ⟨.red, .red, .red, .red⟩
/-- a row: each the last times a and the one ahead of it times b -/
def row (a b f0 f1 : Int) : Nat → Int
  | 0 => f0
  | 1 => f1
  | k + 2 => a * row a b f0 f1 (k + 1) + b * row a b f0 f1 k
theorem row_pow (a b f0 f1 : Int) : ∀ k j : Nat, ((Mx.mk a b 1 0).pow k).a * row a b f0 f1 (j + 1) + ((Mx.mk a b 1 0).pow k).b * row a b f0 f1 j = row a b f0 f1 (j + k + 1) ∧ ((Mx.mk a b 1 0).pow k).c * row a b f0 f1 (j + 1) + ((Mx.mk a b 1 0).pow k).d * row a b f0 f1 j = row a b f0 f1 (j + k)
  | 0, j => by simp [Mx.pow, Mx.one]
  | k + 1, j => by
    have ⟨h1, h2⟩ := row_pow a b f0 f1 k (j + 1)
    have e : row a b f0 f1 (j + 1 + 1) = a * row a b f0 f1 (j + 1) + b * row a b f0 f1 j := rfl
    have e1 : j + (k + 1) = j + 1 + k := by omega
    rw [e1]
    rw [e] at h1 h2
    rw [← h1, ← h2]
    simp only [Mx.pow, Mx.mul]
    constructor <;> grind
end DM

set_option Elab.async false
set_option linter.all false
set_option maxRecDepth 100000
set_option maxHeartbeats 4000000
namespace EVP
open PySem PySem.Spec PyProof.Rows L2 EV DM
abbrev cup (g s : Int) : O := .lst [.int g, .int s]
theorem fmod_pos {i j : Int} (h : 0 < j) : fMod i j = some (i % j) := by unfold fMod; simp [h]
theorem fdiv_pos {i j : Int} (h : 0 < j) (h2 : j < 1073741824) : fFdiv i j = some (i / j) := by unfold fFdiv; simp [h, h2]
theorem fmul_r {i j : Int} (h : EV.small64 j = true) : fMul i j = some (i * j) := by unfold fMul; simp [h]
theorem fmul_l {i j : Int} (h : EV.small64 i = true) : fMul i j = some (i * j) := by unfold fMul; simp [h]
theorem small_of {i : Int} (h0 : -18446744073709551616 < i) (h1 : i < 18446744073709551616) : EV.small64 i = true := by unfold EV.small64; simp; omega
abbrev OkM (m : Int) : Prop := 0 < m ∧ m ≤ 1000000000000
theorem OkM.small {m x : Int} (h : OkM m) : EV.small64 (x % m) = true := by
  have h1 := Int.emod_nonneg x (show m ≠ 0 by omega)
  have h2 := Int.emod_lt_of_pos x h.1
  exact small_of (by omega) (by omega)
theorem eqv_int {i j : Int} : PyData.eqv (.int i) (.int j) = decide (i = j) := by unfold PyData.eqv; by_cases h : i = j <;> simp [h]
theorem g_eq_int {i j : Int} {m : M} : gEq (.int i) (.int j) m = some (.ok (.bl (decide (i = j))) m) := by
  unfold gEq
  simp [toP, fuelP, eqv_int]
theorem g_ne_int {i j : Int} {m : M} : gNe (.int i) (.int j) m = some (.ok (.bl (!decide (i = j))) m) := by
  unfold gNe
  simp [toP, fuelP, eqv_int]
theorem callD_val {F : MF} {ds : List D} {m m' : M} {d : D} (hp : pureDs ds = true) (hd : pureD d = true) (h : F ds [] = some (.ok d m')) : callD F ds m = some (.ok d m) := by
  unfold callD callP outP
  rw [hp]
  simp only [h, hd]
/-! ### powers -/
abbrev pwC : MT := (mB (mOp (gB bGt) (mVar 1) (mC (.int 0))))
abbrev pwB : MS := (sSeq (sIf (mB (mOp gEq (mOp (gI fMod) (mVar 1) (mC (.int 2))) (mC (.int 1)))) (sSet 3 (mOp (gI fMod) (mOp (gI fMul) (mVar 3) (mVar 0)) (mVar 2))) sNil)
  (sSeq (sSet 0 (mOp (gI fMod) (mOp (gI fMul) (mVar 0) (mVar 0)) (mVar 2)))
  (sSet 1 (mOp (gI fFdiv) (mVar 1) (mC (.int 2))))))
abbrev pwE (n e m w : Int) : EV.Env := [some (.int n), some (.int e), some (.int m), some (.int w)]
theorem pw_step (n e m w : Int) (hm : OkM m) (he : 0 < e) (hn : EV.small64 n = true) (hw : EV.small64 w = true) (t : M) :
    pwB (pwE n e m w) t = some (.ok (.nx (pwE (n * n % m) (e / 2) m (if e % 2 = 1 then w * n % m else w))) t) := by
  have e1 : fMod e 2 = some (e % 2) := fmod_pos (by decide)
  have e2 : fMul w n = some (w * n) := fmul_l hw
  have e3 : fMod (w * n) m = some (w * n % m) := fmod_pos hm.1
  have e4 : fMul n n = some (n * n) := fmul_l hn
  have e5 : fMod (n * n) m = some (n * n % m) := fmod_pos hm.1
  have e6 : fFdiv e 2 = some (e / 2) := fdiv_pos (by decide) (by decide)
  by_cases h : e % 2 = 1
  · unfold pwB sSeq sIf mB mOp
    simp [mVar, mC, EV.bnd, gI, e1, e2, e3, e4, e5, e6, g_eq_int, h, sSet, pwE]
  · unfold pwB sSeq sIf mB mOp
    simp [mVar, mC, EV.bnd, gI, e1, e2, e3, e4, e5, e6, g_eq_int, h, sSet, pwE, sNil]
theorem pw_loop (m : Int) (hm : OkM m) (t : M) : ∀ (k j : Nat) (n w : Int) (e : Nat), e < 2 ^ k → EV.small64 n = true → EV.small64 w = true →
    ∃ n' w', whileLoop pwC pwB (k + 1 + j) (pwE n e m w) t = some (.ok (.nx (pwE n' 0 m w')) t) ∧ cg m w' (w * n ^ e) ∧ (e ≠ 0 ∨ w % m = w → w' % m = w')
  | 0, j, n, w, e, he, hn, hw => by
    have : e = 0 := by omega
    subst this
    refine ⟨n, w, ?_, by simp [cg], by simp⟩
    rw [show 0 + 1 + j = j + 1 by omega]
    unfold whileLoop
    simp [mB, mOp, mVar, mC, EV.bnd, gB, bGt]
  | k + 1, j, n, w, e, he, hn, hw => by
    by_cases h0 : e = 0
    · subst h0
      refine ⟨n, w, ?_, by simp [cg], by simp⟩
      rw [show k + 1 + 1 + j = (k + 1 + j) + 1 by omega]
      unfold whileLoop
      simp [mB, mOp, mVar, mC, EV.bnd, gB, bGt]
    · have hpos : (0 : Int) < e := by omega
      have hs := pw_step n e m w hm hpos hn hw t
      have hd : ((e : Int) / 2) = ((e / 2 : Nat) : Int) := by omega
      rw [hd] at hs
      have hw2 : EV.small64 (if (e : Int) % 2 = 1 then w * n % m else w) = true := by
        split
        · exact hm.small
        · exact hw
      obtain ⟨n', w', h1, h2, h3⟩ := pw_loop m hm t k j (n * n % m) (if (e : Int) % 2 = 1 then w * n % m else w) (e / 2) (by rw [Nat.pow_succ] at he; omega) hm.small hw2
      refine ⟨n', w', ?_, ?_, fun hh => h3 ?_⟩
      · rw [show k + 1 + 1 + j = (k + 1 + j) + 1 by omega]
        unfold whileLoop
        have hc : pwC (pwE n e m w) t = some (.ok true t) := by
          simp [mB, mOp, mVar, mC, EV.bnd, gB, bGt, pwE, hpos]
          omega
        rw [hc]
        simp only [EV.bnd]
        rw [hs]
        simp only [EV.bnd]
        exact h1
      · refine h2.trans ?_
        have hsq : cg m ((n * n % m) ^ (e / 2)) ((n * n) ^ (e / 2)) := cg.red.pow _
        have hp : (n * n) ^ (e / 2) = n ^ (2 * (e / 2)) := by rw [Int.pow_mul, Int.pow_succ, Int.pow_succ, Int.pow_zero, Int.one_mul]
        rw [hp] at hsq
        split
        · rename_i ho
          have : e = 2 * (e / 2) + 1 := by omega
          have hq : w * n ^ e = (w * n) * n ^ (2 * (e / 2)) := by
            rw [Int.mul_assoc, show n * n ^ (2 * (e / 2)) = n ^ (2 * (e / 2) + 1) by rw [Int.pow_succ, Int.mul_comm], ← this]
          rw [hq]
          exact cg.red.mul hsq
        · rename_i ho
          have : e = 2 * (e / 2) := by omega
          have hq : w * n ^ e = w * n ^ (2 * (e / 2)) := by rw [← this]
          rw [hq]
          exact cg.refl.mul hsq
      · by_cases ho : (e : Int) % 2 = 1
        · simp only [ho, if_true]
          exact .inr (Int.emod_emod_of_dvd _ (Int.dvd_refl m))
        · simp only [ho, if_false]
          exact .inl (by omega)
theorem power_val (n m : Int) (e : Nat) (hm : OkM m) (he : e < 2 ^ 200) (hn : EV.small64 n = true) (t : M) : F__power [.int n, .int e, .int m] t = some (.ok (.int (n ^ e % m)) t) := by
  have e1 : fMod 1 m = some (1 % m) := fmod_pos hm.1
  obtain ⟨n', w', h1, h2, h3⟩ := pw_loop m hm t 200 3799 n (1 % m) e he hn hm.small
  have hw : w' = n ^ e % m := by
    rw [← h3 (.inr (Int.emod_emod_of_dvd _ (Int.dvd_refl m)))]
    have : cg m (1 % m * n ^ e) (n ^ e) := by
      have := (cg.red (m := m) (a := 1)).mul (cg.refl (m := m) (a := n ^ e))
      rw [Int.one_mul] at this
      exact this
    exact h2.trans this
  unfold F__power
  refine (mDef_eq (x := some (.ok (.rt (.int w')) t)) ?_).trans (by rw [hw]; rfl)
  show B__power [some (.int n), some (.int e), some (.int m), none] t = _
  unfold B__power
  rw [seq_nx (e1 := pwE n e m (1 % m)) (m1 := t) (set_ok (d := .int (1 % m)) (by simp [mOp, mC, mVar, EV.bnd, gI, e1]))]
  rw [seq_nx (e1 := pwE n' 0 m w') (m1 := t) (by unfold sWhile; exact h1)]
  rfl
/-! ### squares of four numbers -/
abbrev mxD (x : Mx) : D := .tup [.int x.a, .int x.b, .int x.c, .int x.d]
structure SmX (x : Mx) : Prop where
  a : EV.small64 x.a = true
  b : EV.small64 x.b = true
  c : EV.small64 x.c = true
  d : EV.small64 x.d = true
theorem OkM.smx {m : Int} {x : Mx} (h : OkM m) : SmX (x.red m) := ⟨h.small, h.small, h.small, h.small⟩
theorem prod_val (x y : Mx) (m : Int) (hm : OkM m) (hx : SmX x) : ∃ t, F__product [mxD x, mxD y, .int m] [] = some (.ok (mxD ((x.mul y).red m)) t) := by
  refine ⟨?t, ?g⟩
  case g =>
    have a1 : ∀ z, fMul x.a z = some (x.a * z) := fun z => fmul_l hx.a
    have a2 : ∀ z, fMul x.b z = some (x.b * z) := fun z => fmul_l hx.b
    have a3 : ∀ z, fMul x.c z = some (x.c * z) := fun z => fmul_l hx.c
    have a4 : ∀ z, fMul x.d z = some (x.d * z) := fun z => fmul_l hx.d
    have a5 : ∀ z, fMod z m = some (z % m) := fun z => fmod_pos hm.1
    unfold F__product mDef B__product sSeq sPat mOp
    simp [mVar, mC, EV.bnd, gI, gAdd, a1, a2, a3, a4, a5, sSet, mxD, Pat.put, Pat.puts, asT, mTup, mCons, mNil, gif, lim, sRet, mB1, one, mLc, iSeq, srcD, wipeE, lcLoop, nxT, mYes, newL, gTuple, asL, lstO, mOp, Mx.mul, Mx.red]
    rfl
theorem prod_call (x y : Mx) (m : Int) (hm : OkM m) (hx : SmX x) (t : M) : callD F__product [mxD x, mxD y, .int m] t = some (.ok (mxD ((x.mul y).red m)) t) := by
  obtain ⟨t', h⟩ := prod_val x y m hm hx
  exact callD_val (by simp [pureDs, pureD, mxD]) (by simp [pureDs, pureD, mxD]) h
abbrev rwC : MT := (mB (mOp (gB bGt) (mVar 2) (mC (.int 0))))
abbrev rwB : MS := (sSeq (sIf (mB (mOp gEq (mOp (gI fMod) (mVar 2) (mC (.int 2))) (mC (.int 1)))) (sSet 4 (mCall F__product (mCons (mVar 4) (mCons (mVar 5) (mCons (mVar 3) mNil))))) sNil)
  (sSeq (sSet 5 (mCall F__product (mCons (mVar 5) (mCons (mVar 5) (mCons (mVar 3) mNil)))))
  (sSet 2 (mOp (gI fFdiv) (mVar 2) (mC (.int 2))))))
abbrev rwE (p q : D) (e m : Int) (x y : Mx) : EV.Env := [some p, some q, some (.int e), some (.int m), some (mxD x), some (mxD y)]
theorem rw_step (p q : D) (e m : Int) (x y : Mx) (hm : OkM m) (he : 0 < e) (hx : SmX x) (hy : SmX y) (t : M) :
    rwB (rwE p q e m x y) t = some (.ok (.nx (rwE p q (e / 2) m (if e % 2 = 1 then (x.mul y).red m else x) ((y.mul y).red m))) t) := by
  have e1 : fMod e 2 = some (e % 2) := fmod_pos (by decide)
  have e6 : fFdiv e 2 = some (e / 2) := fdiv_pos (by decide) (by decide)
  have p1 := prod_call x y m hm hx t
  have p2 := prod_call y y m hm hy t
  by_cases h : e % 2 = 1
  · unfold rwB sSeq sIf mB mOp
    simp [mVar, mC, EV.bnd, gI, e1, e6, g_eq_int, h, sSet, rwE, mCall, mCons, mNil, p1, p2]
  · unfold rwB sSeq sIf mB mOp
    simp [mVar, mC, EV.bnd, gI, e1, e6, g_eq_int, h, sSet, rwE, mCall, mCons, mNil, p1, p2, sNil]
theorem rw_loop (p q : D) (m : Int) (hm : OkM m) (t : M) : ∀ (k j : Nat) (x y : Mx) (e : Nat), e < 2 ^ k → SmX x → SmX y →
    ∃ x' y', whileLoop rwC rwB (k + 1 + j) (rwE p q e m x y) t = some (.ok (.nx (rwE p q 0 m x' y')) t) ∧ x'.cg m (x.mul (y.pow e)) ∧ SmX x'
  | 0, j, x, y, e, he, hx, hy => by
    have : e = 0 := by omega
    subst this
    refine ⟨x, y, ?_, by show x.cg m (x.mul .one); rw [Mx.mul_one]; exact .refl, hx⟩
    rw [show 0 + 1 + j = j + 1 by omega]
    unfold whileLoop
    simp [mB, mOp, mVar, mC, EV.bnd, gB, bGt]
  | k + 1, j, x, y, e, he, hx, hy => by
    by_cases h0 : e = 0
    · subst h0
      refine ⟨x, y, ?_, by show x.cg m (x.mul .one); rw [Mx.mul_one]; exact .refl, hx⟩
      rw [show k + 1 + 1 + j = (k + 1 + j) + 1 by omega]
      unfold whileLoop
      simp [mB, mOp, mVar, mC, EV.bnd, gB, bGt]
    · have hpos : (0 : Int) < e := by omega
      have hs := rw_step p q e m x y hm hpos hx hy t
      have hd : ((e : Int) / 2) = ((e / 2 : Nat) : Int) := by omega
      rw [hd] at hs
      have hw2 : SmX (if (e : Int) % 2 = 1 then (x.mul y).red m else x) := by
        split
        · exact hm.smx
        · exact hx
      obtain ⟨x', y', h1, h2, h3⟩ := rw_loop p q m hm t k j (if (e : Int) % 2 = 1 then (x.mul y).red m else x) ((y.mul y).red m) (e / 2) (by rw [Nat.pow_succ] at he; omega) hw2 hm.smx
      refine ⟨x', y', ?_, ?_, h3⟩
      · rw [show k + 1 + 1 + j = (k + 1 + j) + 1 by omega]
        unfold whileLoop
        have hc : rwC (rwE p q e m x y) t = some (.ok true t) := by
          simp [mB, mOp, mVar, mC, EV.bnd, gB, bGt, rwE, hpos]
          omega
        rw [hc]
        simp only [EV.bnd]
        rw [hs]
        simp only [EV.bnd]
        exact h1
      · refine h2.trans ?_
        have hsq : Mx.cg m (((y.mul y).red m).pow (e / 2)) ((y.mul y).pow (e / 2)) := Mx.red_cg.pow _
        rw [Mx.pow_sq] at hsq
        split
        · rename_i ho
          have he2 : e = 2 * (e / 2) + 1 := by omega
          have hq : x.mul (y.pow e) = (x.mul y).mul (y.pow (2 * (e / 2))) := by
            rw [Mx.assoc, Mx.pow_comm]
            show _ = x.mul (y.pow (2 * (e / 2) + 1))
            rw [← he2]
          rw [hq]
          exact Mx.red_cg.mul hsq
        · rename_i ho
          have he2 : e = 2 * (e / 2) := by omega
          have hq : x.mul (y.pow e) = x.mul (y.pow (2 * (e / 2))) := by rw [← he2]
          rw [hq]
          exact Mx.cg.refl.mul hsq
theorem row_val (a b f0 f1 m : Int) (e : Nat) (hm : OkM m) (he : e < 2 ^ 200) (ha : EV.small64 a = true) (hb : EV.small64 b = true) (t : M) :
    F__row_item [.tup [.int a, .int b], .tup [.int f0, .int f1], .int e, .int m] t = some (.ok (.int (row a b f0 f1 e % m)) t) := by
  have s1 : SmX Mx.one := ⟨rfl, rfl, rfl, rfl⟩
  have s2 : SmX ⟨a, b, 1, 0⟩ := ⟨ha, hb, rfl, rfl⟩
  obtain ⟨x', y', h1, h2, h3⟩ := rw_loop (.tup [.int a, .int b]) (.tup [.int f0, .int f1]) m hm t 200 3799 Mx.one ⟨a, b, 1, 0⟩ e he s1 s2
  rw [Mx.one_mul] at h2
  have hv : (x'.c * f1 + x'.d * f0) % m = row a b f0 f1 e % m := by
    have := (h2.c.mul (cg.refl (a := f1))).add (h2.d.mul (cg.refl (a := f0)))
    refine Eq.trans this ?_
    have r := (row_pow a b f0 f1 e 0).2
    have e0 : 0 + e = e := Nat.zero_add e
    rw [e0] at r
    rw [← r]
    rfl
  have b1 : fMul x'.c f1 = some (x'.c * f1) := fmul_l h3.c
  have b2 : fMul x'.d f0 = some (x'.d * f0) := fmul_l h3.d
  have b3 : fMod (x'.c * f1 + x'.d * f0) m = some ((x'.c * f1 + x'.d * f0) % m) := fmod_pos hm.1
  unfold F__row_item
  refine (mDef_eq (x := some (.ok (.rt (.int ((x'.c * f1 + x'.d * f0) % m))) t)) ?_).trans (by rw [hv]; rfl)
  show B__row_item [some (.tup [.int a, .int b]), some (.tup [.int f0, .int f1]), some (.int e), some (.int m), none, none] t = _
  unfold B__row_item
  rw [seq_nx (e1 := rwE (.tup [.int a, .int b]) (.tup [.int f0, .int f1]) e m Mx.one ⟨a, b, 1, 0⟩) (m1 := t) (par_ok (d := mxD Mx.one) (e := mxD ⟨a, b, 1, 0⟩) (cons_ok (m1 := t) rfl (cons_ok (m1 := t) rfl rfl)))]
  rw [seq_nx (e1 := rwE (.tup [.int a, .int b]) (.tup [.int f0, .int f1]) 0 m x' y') (m1 := t) (by unfold sWhile; exact h1)]
  unfold sRet mOp
  simp [mVar, mC, EV.bnd, gI, gIx, ixL, asT, gAdd, b1, b2, b3, oN, L2.atI, L2.ixN, rwE, mxD, mOp]
/-! ### checks -/
theorem is_int_val (v : Int) : F_is_int [.int v] [] = some (.ok (.bl true) []) := rfl
theorem is_within_val (v lo hi : Int) (h1 : lo ≤ v) (h2 : v ≤ hi) : F_is_within [.int v, .int lo, .int hi] [] = some (.ok (.bl true) []) := by
  have c : callD F_is_int [.int v] [] = some (.ok (.bl true) []) := callD_val rfl rfl (is_int_val v)
  unfold F_is_within mDef B_is_within
  simp [mAndV, mCall, mCons, mNil, mVar, EV.bnd, c, mChain, gB, bLe, h1, h2, sRet, trD]
theorem is_within_call (v lo hi : Int) (h1 : lo ≤ v) (h2 : v ≤ hi) (t : M) : callD F_is_within [.int v, .int lo, .int hi] t = some (.ok (.bl true) t) := callD_val rfl rfl (is_within_val v lo hi h1 h2)
theorem check_number_call (v lo hi : Int) (h1 : lo ≤ v) (h2 : v ≤ hi) (t : M) : callD F_check_number [.int v, .int lo, .int hi] t = some (.ok .non t) := by
  refine callD_val rfl rfl (m' := []) ?_
  have c := is_within_call v lo hi h1 h2 []
  unfold F_check_number mDef B_check_number
  simp [mCall, mCons, mNil, mVar, mC, EV.bnd, c, sIf, mNot, mTr, trD, sNil]
abbrev BIG30 : Int := 1000000000000000000000000000000
theorem check_sides_call (v : Int) (h1 : 3 ≤ v) (h2 : v ≤ BIG30) (t : M) : callD F__check_sides [.int v, .int BIG30] t = some (.ok .non t) := by
  refine callD_val rfl rfl (m' := []) ?_
  have c := is_within_call v 3 BIG30 h1 h2 []
  unfold F__check_sides mDef B__check_sides
  simp [mCall, mCons, mNil, mVar, mC, EV.bnd, c, sIf, mNot, mTr, trD, sNil]
theorem check_both_call (v m : Int) (h1 : 3 ≤ v) (h2 : v ≤ BIG30) (hm : OkM m) (t : M) : callD F__check_both [.int v, .int m] t = some (.ok .non t) := by
  refine callD_val rfl rfl (m' := []) ?_
  have c := check_sides_call v h1 h2 []
  have d := check_number_call m 1 1000000000000 (by omega) hm.2 []
  unfold F__check_both mDef B__check_both
  simp [mCall, mCons, mNil, mVar, mC, EV.bnd, c, d, sSeq, sExpr]
/-! ### counts of drums -/
/-- 1 for an even number of sides, else -1 -/
def sg (s : Nat) : Int := if s % 2 = 0 then 1 else -1
theorem sg_two (s : Nat) : (s % 2 = 0 ∧ sg s = 1) ∨ (s % 2 = 1 ∧ sg s = -1) := by
  unfold sg
  split <;> omega
abbrev OkS (s : Nat) : Prop := 3 ≤ s ∧ (s : Int) ≤ BIG30
theorem OkS.lt {s : Nat} (h : OkS s) : s < 2 ^ 200 := by
  have : (s : Int) ≤ 1000000000000000000000000000000 := h.2
  have e : (2 : Nat) ^ 200 = 1606938044258990275541962092341162602522202993782792835301376 := by decide
  rw [e]
  omega
theorem ring_call (s : Nat) (q m : Int) (hm : OkM m) (hs : OkS s) (hq : EV.small64 (q - 1) = true) (t : M) : callD F__ring_hues [.int s, .int q, .int m] t = some (.ok (.int ((q - 1) ^ s % m + (q - 1) * sg s)) t) := by
  refine callD_val rfl rfl (m' := []) ?_
  have c : callD F__power [.int (q - 1), .int s, .int m] [] = some (.ok (.int ((q - 1) ^ s % m)) []) := callD_val rfl rfl (power_val (q - 1) m s hm hs.lt hq [])
  have e1 : fMod s 2 = some ((s : Int) % 2) := fmod_pos (by decide)
  have e2 : ∀ z, fMul (q - 1) z = some ((q - 1) * z) := fun z => fmul_l hq
  have e3 : fSub q 1 = some (q - 1) := rfl
  rcases sg_two s with ⟨h, g⟩ | ⟨h, g⟩
  · have h' : (s : Int) % 2 = 0 := by omega
    unfold F__ring_hues mDef B__ring_hues
    simp [mCall, mCons, mNil, mVar, mC, EV.bnd, c, mOp, gI, gAdd, e1, e2, e3, mIf, mB, g_eq_int, h', g, sRet]
  · have h' : (s : Int) % 2 = 1 := by omega
    unfold F__ring_hues mDef B__ring_hues
    simp [mCall, mCons, mNil, mVar, mC, EV.bnd, c, mOp, gI, gAdd, e1, e2, e3, mIf, mB, g_eq_int, h', g, sRet, mUn, gNeg]
/-- all edge hues of a drum -/
def ehue (s : Nat) : Int := 2 ^ s + if s % 2 = 0 then 8 else -2
theorem edge_call (s : Nat) (m : Int) (hm : OkM m) (hs : OkS s) (t : M) : callD F_drum_edge_hues [.int s, .int m] t = some (.ok (.int (ehue s % m)) t) := by
  refine callD_val rfl rfl (m' := []) ?_
  have c := ring_call s 3 m hm hs rfl []
  have k := check_both_call s m (by have := hs.1; omega) hs.2 hm []
  have e1 : fMod s 2 = some ((s : Int) % 2) := fmod_pos (by decide)
  have e2 : ∀ z, fMod z m = some (z % m) := fun z => fmod_pos hm.1
  have hv : ∀ x : Int, x = (if s % 2 = 0 then 6 else 0) → ((3 - 1) ^ s % m + (3 - 1) * sg s + x) % m = ehue s % m := by
    intro x hx
    refine ((cg.red.add cg.refl).add cg.refl).trans (cg.of_eq ?_)
    unfold ehue
    subst hx
    rcases sg_two s with ⟨h, g⟩ | ⟨h, g⟩ <;> simp [h, g] <;> omega
  generalize (3 - 1 : Int) ^ s % m + (3 - 1) * sg s = R at c hv
  rcases sg_two s with ⟨h, g⟩ | ⟨h, g⟩
  · have h' : (s : Int) % 2 = 0 := by omega
    have := hv 6 (by simp [h])
    unfold F_drum_edge_hues mDef B_drum_edge_hues
    simp [mCall, mCons, mNil, mVar, mC, EV.bnd, c, k, mOp, gI, gAdd, e1, e2, mIf, mB, g_eq_int, h', sRet, sSeq, sExpr, sSet, this]
  · have h' : (s : Int) % 2 = 1 := by omega
    have := hv 0 (by simp [h])
    rw [Int.add_zero] at this
    unfold F_drum_edge_hues mDef B_drum_edge_hues
    simp [mCall, mCons, mNil, mVar, mC, EV.bnd, c, k, mOp, gI, gAdd, e1, e2, mIf, mB, g_eq_int, h', sRet, sSeq, sExpr, sSet, this]
/-- all pairings of a drum -/
def pairs (s : Nat) : Int := row 1 1 2 1 s + if s % 2 = 0 then 2 else 0
theorem pairs_call (s : Nat) (m : Int) (hm : OkM m) (hs : OkS s) (t : M) : callD F_drum_pairings [.int s, .int m] t = some (.ok (.int (pairs s % m)) t) := by
  refine callD_val rfl rfl (m' := []) ?_
  have c : callD F__row_item [.tup [.int 1, .int 1], .tup [.int 2, .int 1], .int s, .int m] [] = some (.ok (.int (row 1 1 2 1 s % m)) []) := callD_val rfl rfl (row_val 1 1 2 1 m s hm hs.lt rfl rfl [])
  have k := check_both_call s m (by have := hs.1; omega) hs.2 hm []
  have e1 : fMod s 2 = some ((s : Int) % 2) := fmod_pos (by decide)
  have e2 : ∀ z, fMod z m = some (z % m) := fun z => fmod_pos hm.1
  have hv : ∀ x : Int, x = (if s % 2 = 0 then 2 else 0) → (row 1 1 2 1 s % m + x) % m = pairs s % m := by
    intro x hx
    subst hx
    exact cg.red.add cg.refl
  generalize row 1 1 2 1 s % m = R at c hv
  rcases sg_two s with ⟨h, g⟩ | ⟨h, g⟩
  · have h' : (s : Int) % 2 = 0 := by omega
    have := hv 2 (by simp [h])
    unfold F_drum_pairings mDef B_drum_pairings
    simp [mCall, mCons, mNil, mVar, mC, mTup, gif, lim, EV.bnd, c, k, mOp, gI, gAdd, e1, e2, mIf, mB, g_eq_int, h', sRet, sSeq, sExpr, sSet, this]
  · have h' : (s : Int) % 2 = 1 := by omega
    have := hv 0 (by simp [h])
    rw [Int.add_zero] at this
    unfold F_drum_pairings mDef B_drum_pairings
    simp [mCall, mCons, mNil, mVar, mC, mTup, gif, lim, EV.bnd, c, k, mOp, gI, gAdd, e1, e2, mIf, mB, g_eq_int, h', sRet, sSeq, sExpr, sSet, this]
end EVP

set_option Elab.async false
set_option linter.all false
set_option maxRecDepth 100000
set_option maxHeartbeats 4000000
namespace EVP
open PySem PySem.Spec PyProof.Rows L2 EV DM
/-- all trees of a drum -/
def trees (s : Nat) : Int := s * (row 4 (-1) 1 2 s - 1)
theorem neg_one : mUn gNeg (mC (.int 1)) = mC (.int (-1)) := by
  funext env m
  rfl
theorem trees_tail (S m T : Int) (k : callD F__check_both [.int S, .int m] [] = some (.ok .non [])) (e2 : ∀ z, fMod z m = some (z % m)) (R : Int) (c : callD F__row_item [.tup [.int 4, .int (-1)], .tup [.int 1, .int 2], .int S, .int m] [] = some (.ok (.int R) [])) (hv : (S * (R - 1)) % m = T) (e3 : fMul S (R - 1) = some (S * (R - 1))) : F_drum_trees [.int S, .int m] [] = some (.ok (.int (T)) []) := by
  unfold F_drum_trees
  refine (mDef_eq (x := some (.ok (.rt (.int (T))) [])) ?_).trans rfl
  show B_drum_trees [some (.int S), some (.int m), none] [] = _
  unfold B_drum_trees
  rw [neg_one]
  have x1 : sExpr (mCall F__check_both (mCons (mVar 0) (mCons (mVar 1) mNil))) [some (.int S), some (.int m), none] [] = some (.ok (.nx [some (.int S), some (.int m), none]) []) := by
    unfold sExpr
    rw [call_okE (m1 := []) (d := .non) (m2 := []) (cons_ok (m1 := []) rfl (cons_ok (m1 := []) rfl rfl)) k]
    rfl
  rw [seq_nx x1]
  rw [seq_nx (e1 := [some (.int S), some (.int m), some (.int R)]) (m1 := []) (set_ok (call_okE (m1 := []) (cons_ok (m1 := []) rfl (cons_ok (m1 := []) rfl (cons_ok (m1 := []) rfl (cons_ok (m1 := []) rfl rfl)))) c))]
  unfold sRet
  rw [op_okE (x := .int (S * (R - 1))) (m1 := []) (y := .int m) (m2 := []) (z := .int (T)) (m3 := []) (op_okE (x := .int S) (m1 := []) (y := .int (R - 1)) (m2 := []) rfl (op_okE (x := .int R) (y := .int 1) rfl rfl rfl) (by unfold gI; simp only [e3])) rfl (by unfold gI; simp only [e2, hv])]
  rfl
theorem trees_call (s : Nat) (m : Int) (hm : OkM m) (hs : OkS s) (t : M) : callD F_drum_trees [.int s, .int m] t = some (.ok (.int (trees s % m)) t) := by
  refine callD_val rfl rfl (m' := []) ?_
  have c : callD F__row_item [.tup [.int 4, .int (-1)], .tup [.int 1, .int 2], .int s, .int m] [] = some (.ok (.int (row 4 (-1) 1 2 s % m)) []) := callD_val rfl rfl (row_val 4 (-1) 1 2 m s hm hs.lt (small_of (by omega) (by omega)) (small_of (by omega) (by omega)) [])
  have k := check_both_call s m (by have := hs.1; omega) hs.2 hm []
  have e2 : ∀ z, fMod z m = some (z % m) := fun z => fmod_pos hm.1
  have hb : EV.small64 (row 4 (-1) 1 2 s % m - 1) = true := by
    have h1 := Int.emod_nonneg (row 4 (-1) 1 2 s) (show m ≠ 0 by have := hm.1; omega)
    have h2 := Int.emod_lt_of_pos (row 4 (-1) 1 2 s) hm.1
    have h3 := hm.2
    exact small_of (by omega) (by omega)
  have hv : ((s : Int) * (row 4 (-1) 1 2 s % m - 1)) % m = trees s % m := by
    unfold trees
    exact cg.refl.mul (cg.red.sub cg.refl)
  generalize row 4 (-1) 1 2 s % m = R at c hv hb
  have e3 : fMul s (R - 1) = some (s * (R - 1)) := fmul_r hb
  have e4 : fSub R 1 = some (R - 1) := rfl
  exact trees_tail s m _ k e2 R c hv e3
/-- all face hues of a drum by so many hues -/
def fhue (s : Nat) (q : Int) : Int := q * ((q - 2) ^ s + (q - 2) * sg s) + q * (q - 1) * ((q - 3) ^ s + (q - 3) * sg s)
theorem ring_small (s : Nat) (q m : Int) (hm : OkM m) (h0 : -10 ≤ q) (h1 : q ≤ 1000000000000) : EV.small64 (q ^ s % m + q * sg s) = true := by
  have h1 := Int.emod_nonneg (q ^ s) (show m ≠ 0 by have := hm.1; omega)
  have h2 := Int.emod_lt_of_pos (q ^ s) hm.1
  have h3 := hm.2
  rcases sg_two s with ⟨h, g⟩ | ⟨h, g⟩ <;> rw [g] <;> exact small_of (by omega) (by omega)
theorem face_call (s : Nat) (q m : Int) (hm : OkM m) (hs : OkS s) (h0 : 0 ≤ q) (h1 : q ≤ 1000000000000) (t : M) : callD F_drum_face_hues [.int s, .int q, .int m] t = some (.ok (.int (fhue s q % m)) t) := by
  refine callD_val rfl rfl (m' := []) ?_
  have c1 := ring_call s (q - 1) m hm hs (small_of (by omega) (by omega)) []
  have c2 := ring_call s (q - 2) m hm hs (small_of (by omega) (by omega)) []
  have k1 := check_sides_call s (by have := hs.1; omega) hs.2 []
  have k2 := check_number_call q 0 1000000000000 h0 h1 []
  have k3 := check_number_call m 1 1000000000000 (by have := hm.1; omega) hm.2 []
  have e2 : ∀ z, fMod z m = some (z % m) := fun z => fmod_pos hm.1
  have hv : (q * ((q - 1 - 1) ^ s % m + (q - 1 - 1) * sg s) + q * (q - 1) * ((q - 2 - 1) ^ s % m + (q - 2 - 1) * sg s)) % m = fhue s q % m := by
    refine ((cg.refl.mul (cg.red.add cg.refl)).add (cg.refl.mul (cg.red.add cg.refl))).trans (cg.of_eq ?_)
    unfold fhue
    rw [show q - 1 - 1 = q - 2 by omega, show q - 2 - 1 = q - 3 by omega]
  have b2 := ring_small s (q - 2 - 1) m hm (by omega) (by omega)
  generalize (q - 1 - 1) ^ s % m + (q - 1 - 1) * sg s = R1 at c1 hv
  generalize (q - 2 - 1) ^ s % m + (q - 2 - 1) * sg s = R2 at c2 hv b2
  have hq : EV.small64 q = true := small_of (by omega) (by omega)
  have e3 : ∀ z, fMul q z = some (q * z) := fun z => fmul_l hq
  have e4 : fMul (q * (q - 1)) R2 = some (q * (q - 1) * R2) := fmul_r b2
  have e5 : fSub q 1 = some (q - 1) := rfl
  have e6 : fSub q 2 = some (q - 2) := rfl
  unfold F_drum_face_hues mDef B_drum_face_hues
  simp [mCall, mCons, mNil, mVar, mC, EV.bnd, c1, c2, k1, k2, k3, mOp, gI, gAdd, e2, e3, e4, e5, e6, sRet, sSeq, sExpr, sSet, hv]
theorem rounds_call (s : Nat) (hs : OkS s) (t : M) : callD F_drum_rounds [.int s] t = some (.ok (.int (s + if s % 2 = 0 then 2 else 0)) t) := by
  refine callD_val rfl rfl (m' := []) ?_
  have k1 := check_sides_call s (by have := hs.1; omega) hs.2 []
  have e1 : fMod s 2 = some ((s : Int) % 2) := fmod_pos (by decide)
  rcases sg_two s with ⟨h, g⟩ | ⟨h, g⟩
  · have h' : (s : Int) % 2 = 0 := by omega
    unfold F_drum_rounds mDef B_drum_rounds
    simp [mCall, mCons, mNil, mVar, mC, EV.bnd, k1, mOp, gI, gAdd, e1, mIf, mB, g_eq_int, h, h', sRet, sSeq, sExpr]
  · have h' : (s : Int) % 2 = 1 := by omega
    unfold F_drum_rounds mDef B_drum_rounds
    simp [mCall, mCons, mNil, mVar, mC, EV.bnd, k1, mOp, gI, gAdd, e1, mIf, mB, g_eq_int, h, h', sRet, sSeq, sExpr]
end EVP

set_option Elab.async false
set_option linter.all false
set_option maxRecDepth 100000
set_option maxHeartbeats 4000000
namespace EVP
open PySem PySem.Spec PyProof.Rows L2 EV DM
/-! ### steps, one by one -/
section
variable {env : EV.Env} {m m1 m2 : M} {f g : ME} {a b : Int}
theorem p_var {i : Nat} {d : D} (h : env[i]? = some (some d)) : mVar i env m = some (.ok d m) := by unfold mVar; rw [h]
theorem p_add (h : f env m = some (.ok (.int a) m1)) (h2 : g env m1 = some (.ok (.int b) m2)) : mOp gAdd f g env m = some (.ok (.int (a + b)) m2) := op_okE h h2 rfl
theorem p_sub (h : f env m = some (.ok (.int a) m1)) (h2 : g env m1 = some (.ok (.int b) m2)) : mOp (gI fSub) f g env m = some (.ok (.int (a - b)) m2) := op_okE h h2 rfl
theorem p_mulB (h : f env m = some (.ok (.int a) m1)) (h2 : g env m1 = some (.ok (.int b) m2)) (ha : bigB a = true) (hb : bigB b = true) : mOp (gI fMulB) f g env m = some (.ok (.int (a * b)) m2) := op_okE h h2 (by unfold gI fMulB; simp only [ha, hb]; rfl)
theorem p_mulL (h : f env m = some (.ok (.int a) m1)) (h2 : g env m1 = some (.ok (.int b) m2)) (ha : EV.small64 a = true) : mOp (gI fMul) f g env m = some (.ok (.int (a * b)) m2) := op_okE h h2 (by unfold gI; simp only [fmul_l ha])
theorem p_mulR (h : f env m = some (.ok (.int a) m1)) (h2 : g env m1 = some (.ok (.int b) m2)) (hb : EV.small64 b = true) : mOp (gI fMul) f g env m = some (.ok (.int (a * b)) m2) := op_okE h h2 (by unfold gI; simp only [fmul_r hb])
theorem p_mod (h : f env m = some (.ok (.int a) m1)) (h2 : g env m1 = some (.ok (.int b) m2)) (hb : 0 < b) : mOp (gI fMod) f g env m = some (.ok (.int (a % b)) m2) := op_okE h h2 (by unfold gI; simp only [fmod_pos hb])
theorem p_eq (h : f env m = some (.ok (.int a) m1)) (h2 : g env m1 = some (.ok (.int b) m2)) : mOp gEq f g env m = some (.ok (.bl (decide (a = b))) m2) := op_okE h h2 g_eq_int
theorem p_ne (h : f env m = some (.ok (.int a) m1)) (h2 : g env m1 = some (.ok (.int b) m2)) : mOp gNe f g env m = some (.ok (.bl (!decide (a = b))) m2) := op_okE h h2 g_ne_int
theorem p_ix {k : Nat} {xs : List D} {i : Int} {d : D} (h : f env m = some (.ok (.ref k) m1)) (h2 : g env m1 = some (.ok (.int i) m2)) (h3 : m2[k]? = some (.lst xs)) (h4 : L2.atI xs i = some d) : mOp gIx f g env m = some (.ok d m2) := op_okE h h2 (by unfold gIx; simp only [h3, lstO]; unfold ixL; simp only [h4]; rfl)
theorem p_b {x : Bool} (h : f env m = some (.ok (.bl x) m1)) : mB f env m = some (.ok x m1) := by unfold mB; rw [h]; rfl
theorem p_or {c d : MT} {y : Bool} (h : c env m = some (.ok false m1)) (h2 : d env m1 = some (.ok y m2)) : mOr c d env m = some (.ok y m2) := by unfold mOr; rw [h]; exact h2
theorem p_ev {x y : Int} (h : f env m = some (.ok (.int a) m1)) : mIf (mB (mOp gEq (mOp (gI fMod) f (mC (.int 2))) (mC (.int 0)))) (mC (.int x)) (mC (.int y)) env m = some (.ok (.int (if a % 2 = 0 then x else y)) m1) := by
  have e := p_b (p_eq (p_mod h (g := mC (.int 2)) (b := 2) (m2 := m1) rfl (by decide)) (b := 0) (m2 := m1) (g := mC (.int 0)) rfl)
  unfold mIf
  rw [e]
  by_cases hh : a % 2 = 0 <;> simp [EV.bnd, hh, mC]
theorem p_no {c : MT} {s : MS} (h : c env m = some (.ok false m1)) : sIf c s sNil env m = some (.ok (.nx env) m1) := by unfold sIf; rw [h]; rfl
theorem p_chk {s : MS} (h : f env m = some (.ok (.int a) m1)) (ha : a = 0) : sIf (mB (mOp gNe f (mC (.int 0)))) s sNil env m = some (.ok (.nx env) m1) := by
  subst ha
  exact p_no (p_b (p_ne h (b := 0) (m2 := m1) rfl))
theorem lc_step {nx : Nxt} {v k i : Nat} {elt : ME} {x d : D} {acc : List D} (hn : nx i m = some (some x)) (h : elt (env.set v (some x)) m = some (.ok d m)) : lcLoop nx (.n v) mYes elt env (k + 1) i m acc = lcLoop nx (.n v) mYes elt env k (i + 1) m (d :: acc) := by
  rw [lcLoop, hn]
  show EV.bnd (elt (env.set v (some x)) m) _ = _
  rw [h]
  rfl
theorem lc_end {nx : Nxt} {v k i : Nat} {elt : ME} {acc : List D} (hn : nx i m = some none) : lcLoop nx (.n v) mYes elt env (k + 1) i m acc = some (.ok acc m) := by
  rw [lcLoop, hn]
theorem lc_in {fi : MI} {n v : Nat} {nx : Nxt} {elt : ME} {ds : List D} (hi : fi env m = some (.ok (n, nx) m)) (hn : Nat.ble n lim = true) (h : lcLoop nx (.n v) mYes elt (wipeE env [v]) n 0 m [] = some (.ok ds m)) : mLc fi (.n v) [v] mYes elt env m = some (.ok (.ref m.length) (m ++ [.lst ds.reverse])) := by
  unfold mLc
  rw [hi]
  show gif (Nat.ble n lim) (EV.bnd (lcLoop nx (.n v) mYes elt (wipeE env [v]) n 0 m []) _) = _
  rw [hn, h]
  rfl
theorem lc2 {fi : MI} {v : Nat} {nx : Nxt} {elt : ME} {x0 x1 d0 d1 : D} (hi : fi env m = some (.ok (3, nx) m)) (n0 : nx 0 m = some (some x0)) (n1 : nx 1 m = some (some x1)) (n2 : nx 2 m = some none) (h0 : elt ((wipeE env [v]).set v (some x0)) m = some (.ok d0 m)) (h1 : elt ((wipeE env [v]).set v (some x1)) m = some (.ok d1 m)) : mLc fi (.n v) [v] mYes elt env m = some (.ok (.ref m.length) (m ++ [.lst [d0, d1]])) :=
  lc_in hi rfl (ds := [d1, d0]) (by rw [lc_step n0 h0, lc_step n1 h1, lc_end n2])
theorem lc3 {fi : MI} {v : Nat} {nx : Nxt} {elt : ME} {x0 x1 x2 d0 d1 d2 : D} (hi : fi env m = some (.ok (4, nx) m)) (n0 : nx 0 m = some (some x0)) (n1 : nx 1 m = some (some x1)) (n2 : nx 2 m = some (some x2)) (n3 : nx 3 m = some none) (h0 : elt ((wipeE env [v]).set v (some x0)) m = some (.ok d0 m)) (h1 : elt ((wipeE env [v]).set v (some x1)) m = some (.ok d1 m)) (h2 : elt ((wipeE env [v]).set v (some x2)) m = some (.ok d2 m)) : mLc fi (.n v) [v] mYes elt env m = some (.ok (.ref m.length) (m ++ [.lst [d0, d1, d2]])) :=
  lc_in hi rfl (ds := [d2, d1, d0]) (by rw [lc_step n0 h0, lc_step n1 h1, lc_step n2 h2, lc_end n3])
theorem lc4 {fi : MI} {v : Nat} {nx : Nxt} {elt : ME} {x0 x1 x2 x3 d0 d1 d2 d3 : D} (hi : fi env m = some (.ok (5, nx) m)) (n0 : nx 0 m = some (some x0)) (n1 : nx 1 m = some (some x1)) (n2 : nx 2 m = some (some x2)) (n3 : nx 3 m = some (some x3)) (n4 : nx 4 m = some none) (h0 : elt ((wipeE env [v]).set v (some x0)) m = some (.ok d0 m)) (h1 : elt ((wipeE env [v]).set v (some x1)) m = some (.ok d1 m)) (h2 : elt ((wipeE env [v]).set v (some x2)) m = some (.ok d2 m)) (h3 : elt ((wipeE env [v]).set v (some x3)) m = some (.ok d3 m)) : mLc fi (.n v) [v] mYes elt env m = some (.ok (.ref m.length) (m ++ [.lst [d0, d1, d2, d3]])) :=
  lc_in hi rfl (ds := [d3, d2, d1, d0]) (by rw [lc_step n0 h0, lc_step n1 h1, lc_step n2 h2, lc_step n3 h3, lc_end n4])
theorem lc5 {fi : MI} {v : Nat} {nx : Nxt} {elt : ME} {x0 x1 x2 x3 x4 d0 d1 d2 d3 d4 : D} (hi : fi env m = some (.ok (6, nx) m)) (n0 : nx 0 m = some (some x0)) (n1 : nx 1 m = some (some x1)) (n2 : nx 2 m = some (some x2)) (n3 : nx 3 m = some (some x3)) (n4 : nx 4 m = some (some x4)) (n5 : nx 5 m = some none) (h0 : elt ((wipeE env [v]).set v (some x0)) m = some (.ok d0 m)) (h1 : elt ((wipeE env [v]).set v (some x1)) m = some (.ok d1 m)) (h2 : elt ((wipeE env [v]).set v (some x2)) m = some (.ok d2 m)) (h3 : elt ((wipeE env [v]).set v (some x3)) m = some (.ok d3 m)) (h4 : elt ((wipeE env [v]).set v (some x4)) m = some (.ok d4 m)) : mLc fi (.n v) [v] mYes elt env m = some (.ok (.ref m.length) (m ++ [.lst [d0, d1, d2, d3, d4]])) :=
  lc_in hi rfl (ds := [d4, d3, d2, d1, d0]) (by rw [lc_step n0 h0, lc_step n1 h1, lc_step n2 h2, lc_step n3 h3, lc_step n4 h4, lc_end n5])
theorem for_step {nx : Nxt} {v k i : Nat} {bd : MS} {x : D} {env1 : EV.Env} (hn : nx i m = some (some x)) (h : bd (env.set v (some x)) m = some (.ok (.nx env1) m1)) : forLoop nx (.n v) bd (k + 1) i env m = forLoop nx (.n v) bd k (i + 1) env1 m1 := by
  rw [forLoop, hn]
  show EV.bnd (bd (env.set v (some x)) m) _ = _
  rw [h]
  rfl
theorem for_end {nx : Nxt} {v k i : Nat} {bd : MS} (hn : nx i m = some none) : forLoop nx (.n v) bd (k + 1) i env m = some (.ok (.nx env) m) := by
  rw [forLoop, hn]
theorem for_in {fi : MI} {n v : Nat} {nx : Nxt} {bd : MS} {r : Option (Rs Fl)} (hi : fi env m = some (.ok (n, nx) m1)) (h : forLoop nx (.n v) bd n 0 env m1 = r) : sFor fi (.n v) bd env m = r := by
  unfold sFor
  rw [hi]
  exact h
end
abbrev rg3 : MI := iRange1 (mCons (mC (.int 3)) mNil)
abbrev rg5 : MI := iRange1 (mCons (mC (.int 5)) mNil)
theorem rg3_ok (env : EV.Env) (m : M) : rg3 env m = some (.ok (4, nxR 0 3) m) := rfl
theorem rg5_ok (env : EV.Env) (m : M) : rg5 env m = some (.ok (6, nxR 0 5) m) := rfl
/-- bounds -/
def Bd (k : Nat) (a : Int) : Prop := a.natAbs ≤ 2 ^ k
theorem Bd.mul {i j : Nat} {a b : Int} (h : Bd i a) (h2 : Bd j b) : Bd (i + j) (a * b) := by
  unfold Bd at *
  rw [Int.natAbs_mul, Nat.pow_add]
  exact Nat.mul_le_mul h h2
theorem Bd.mono {i j : Nat} {a : Int} (h : Bd i a) (hj : i ≤ j) : Bd j a := Nat.le_trans h (Nat.pow_le_pow_right (by decide) hj)
theorem Bd.add {i j : Nat} {a b : Int} (h : Bd i a) (h2 : Bd j b) : Bd (i + j + 1) (a + b) := by
  have h := h.mono (Nat.le_add_right i j)
  have h2 := h2.mono (Nat.le_add_left j i)
  unfold Bd at *
  rw [Nat.pow_succ]
  have := Int.natAbs_add_le a b
  omega
theorem Bd.sub {i j : Nat} {a b : Int} (h : Bd i a) (h2 : Bd j b) : Bd (i + j + 1) (a - b) := by
  have h3 : Bd j (-b) := by unfold Bd at *; rw [Int.natAbs_neg]; exact h2
  exact h.add h3
theorem Bd.big {k : Nat} {a : Int} (h : Bd k a) (hk : k < 1000) : bigB a = true := by
  unfold bigB
  rw [Nat.blt_eq]
  exact Nat.lt_of_le_of_lt h (Nat.pow_lt_pow_right (by decide) hk)
theorem bd_c {a : Int} (h0 : -1024 ≤ a) (h1 : a ≤ 1024) : Bd 10 a := by unfold Bd; omega
theorem bd_mod {m x : Int} (hm : OkM m) : Bd 40 (x % m) := by
  have h1 := Int.emod_nonneg x (show m ≠ 0 by have := hm.1; omega)
  have h2 := Int.emod_lt_of_pos x hm.1
  have h3 := hm.2
  unfold Bd
  omega
abbrev Ok4 (s : Nat) : Prop := 3 ≤ s ∧ (s : Int) + 4 ≤ BIG30
theorem Ok4.ok {s : Nat} (h : Ok4 s) {i : Nat} (hi : i ≤ 4) : OkS (s + i) := by
  have h1 := h.1
  have h2 := h.2
  unfold OkS BIG30 at *
  unfold Ok4 BIG30 at h
  omega
theorem bd_s {s : Nat} (h : Ok4 s) {i : Nat} (hi : i ≤ 4) : Bd 100 (s + i) := by
  have h2 := h.2
  unfold Bd
  unfold Ok4 BIG30 at h
  omega
end EVP

set_option Elab.async false
set_option linter.all false
set_option maxRecDepth 100000
set_option maxHeartbeats 4000000
namespace EVP
open PySem PySem.Spec PyProof.Rows L2 EV DM
def u1 : MS := (sSet 3 (mLc (iRange1 (mCons (mC (.int 3)) mNil)) (.n 8) [8] mYes (mCall F__law_rest__drum_edge_hues (mCons (mOp gAdd (mVar 1) (mVar 8)) (mCons (mVar 2) mNil)))))
def u2 : MS := (sSet 4 (mLc (iRange1 (mCons (mC (.int 5)) mNil)) (.n 8) [8] mYes (mCall F__law_rest__drum_pairings (mCons (mOp gAdd (mVar 1) (mVar 8)) (mCons (mVar 2) mNil)))))
def u3 : MS := (sSet 5 (mLc (iRange1 (mCons (mC (.int 3)) mNil)) (.n 8) [8] mYes (mCall F__law_rest__drum_trees (mCons (mOp gAdd (mVar 1) (mVar 8)) (mCons (mVar 2) mNil)))))
def u4 : MS := (sIf (mOr (mB (mOp (gIn false) (mC .non) (mOp gAdd (mOp gAdd (mVar 3) (mVar 4)) (mVar 5)))) (mB (mOp gNe (mOp (gI fSub) (mCall F_drum_rounds (mCons (mVar 1) mNil)) (mVar 1)) (mIf (mB (mOp gEq (mOp (gI fMod) (mVar 1) (mC (.int 2))) (mC (.int 0)))) (mC (.int 2)) (mC (.int 0)))))) (sRet (mC (.bl false))) sNil)
def u5 : MS := (sSet 6 (mIf (mB (mOp gEq (mOp (gI fMod) (mVar 1) (mC (.int 2))) (mC (.int 0)))) (mC (.int 8)) (mUn gNeg (mC (.int 2)))))
def u6 : MS := (sIf (mB (mOp gNe (mOp (gI fMod) (mOp (gI fSub) (mOp (gI fSub) (mOp gIx (mVar 3) (mC (.int 2))) (mVar 6)) (mOp (gI fMulB) (mC (.int 4)) (mOp (gI fSub) (mOp gIx (mVar 3) (mC (.int 0))) (mVar 6)))) (mVar 2)) (mC (.int 0)))) (sRet (mC (.bl false))) sNil)
def u7 : MS := (sIf (mB (mOp gNe (mOp (gI fMod) (mOp (gI fSub) (mOp (gI fSub) (mOp gAdd (mOp gIx (mVar 3) (mC (.int 1))) (mOp gIx (mVar 3) (mC (.int 0)))) (mC (.int 6))) (mOp (gI fMulB) (mC (.int 3)) (mOp (gI fSub) (mOp gIx (mVar 3) (mC (.int 0))) (mVar 6)))) (mVar 2)) (mC (.int 0)))) (sRet (mC (.bl false))) sNil)
def u8 : MS := (sSet 7 (mLc (iRange1 (mCons (mC (.int 5)) mNil)) (.n 8) [8] mYes (mOp (gI fSub) (mOp gIx (mVar 4) (mVar 8)) (mIf (mB (mOp gEq (mOp (gI fMod) (mOp gAdd (mVar 1) (mVar 8)) (mC (.int 2))) (mC (.int 0)))) (mC (.int 2)) (mC (.int 0))))))
def u9 : MS := (sFor (iRange1 (mCons (mC (.int 3)) mNil)) (.n 8) (sIf (mB (mOp gNe (mOp (gI fMod) (mOp (gI fSub) (mOp (gI fSub) (mOp gIx (mVar 7) (mOp gAdd (mVar 8) (mC (.int 2)))) (mOp gIx (mVar 7) (mOp gAdd (mVar 8) (mC (.int 1))))) (mOp gIx (mVar 7) (mVar 8))) (mVar 2)) (mC (.int 0)))) (sRet (mC (.bl false))) sNil))
def u10 : MS := (sPatL [(.n 10), (.n 11), (.n 12)] (mLc (iRange1 (mCons (mC (.int 3)) mNil)) (.n 8) [8] mYes (mOp gAdd (mVar 1) (mVar 8))))
def u11 : MS := (sSet 9 (mOp gAdd (mOp (gI fSub) (mOp (gI fMulB) (mOp (gI fMulB) (mVar 12) (mVar 11)) (mOp gIx (mVar 5) (mC (.int 0)))) (mOp (gI fMulB) (mOp (gI fMulB) (mOp (gI fMulB) (mC (.int 4)) (mVar 12)) (mVar 10)) (mOp gIx (mVar 5) (mC (.int 1))))) (mOp (gI fMulB) (mOp (gI fMulB) (mVar 11) (mVar 10)) (mOp gIx (mVar 5) (mC (.int 2))))))
def u12 : MS := (sRet (mOp gEq (mOp (gI fMod) (mOp (gI fSub) (mVar 9) (mOp (gI fMulB) (mOp (gI fMulB) (mOp (gI fMulB) (mC (.int 2)) (mVar 10)) (mVar 11)) (mVar 12))) (mVar 2)) (mC (.int 0))))
theorem rest_val {F : MF} {S m x : Int} (c : ∀ t : M, callD F [.int S, .int m] t = some (.ok (.int x) t)) (h0 : 0 ≤ x) (h1 : x < m) : mDefR 4 (sSeq (sSet 3 (mCall F (mCons (mVar 1) (mCons (mVar 2) mNil)))) (sSeq (sIf (mOr (mNot (mTr (mIsi "int" (mVar 3)))) (mOr (mTr (mIsi "bool" (mVar 3))) (mNot (mB (mChain (gB bLe) (gB bLt) (mC (.int 0)) (mVar 3) (mVar 2)))))) (sRet (mC .non)) sNil)
  (sRet (mVar 3)))) [.int S, .int m] [] = some (.ok (.int x) []) := by
  unfold mDefR sSeq sSet sIf
  simp [mCall, mCons, mNil, mVar, mC, EV.bnd, c, mOr, mNot, mTr, mIsi, tyD, isTab, mB, mChain, gB, bLe, bLt, h0, h1, sRet, sNil, trD]
section
variable {s : Nat} {m : Int} (hm : OkM m) (hs : Ok4 s) (i : Nat) (hi : i ≤ 4) (j : Int) (hj : j = i) (t : M)
include hm hs hi hj
theorem rest_edge : callD F__law_rest__drum_edge_hues [.int (s + j), .int m] t = some (.ok (.int (ehue (s + i) % m)) t) := by
  subst hj
  refine callD_val rfl rfl (m' := []) (rest_val (fun t => ?_) (Int.emod_nonneg _ (by have := hm.1; omega)) (Int.emod_lt_of_pos _ hm.1))
  have := edge_call (s + i) m hm (hs.ok hi) t
  rw [Int.natCast_add] at this
  exact this
theorem rest_pairs : callD F__law_rest__drum_pairings [.int (s + j), .int m] t = some (.ok (.int (pairs (s + i) % m)) t) := by
  subst hj
  refine callD_val rfl rfl (m' := []) (rest_val (fun t => ?_) (Int.emod_nonneg _ (by have := hm.1; omega)) (Int.emod_lt_of_pos _ hm.1))
  have := pairs_call (s + i) m hm (hs.ok hi) t
  rw [Int.natCast_add] at this
  exact this
theorem rest_trees : callD F__law_rest__drum_trees [.int (s + j), .int m] t = some (.ok (.int (trees (s + i) % m)) t) := by
  subst hj
  refine callD_val rfl rfl (m' := []) (rest_val (fun t => ?_) (Int.emod_nonneg _ (by have := hm.1; omega)) (Int.emod_lt_of_pos _ hm.1))
  have := trees_call (s + i) m hm (hs.ok hi) t
  rw [Int.natCast_add] at this
  exact this
end
abbrev rE (s m : Int) (a b c d e f x y z w : Option D) : EV.Env := [some (.ref 0), some (.int s), some (.int m), a, b, c, d, e, f, x, y, z, w]
abbrev l3 (a b c : Int) : O := .lst [.int a, .int b, .int c]
abbrev l5 (a b c d e : Int) : O := .lst [.int a, .int b, .int c, .int d, .int e]
abbrev vr (k : Nat) : Option D := some (.ref k)
abbrev vi (k : Int) : Option D := some (.int k)
theorem u1_ok {s : Nat} {m : Int} (hm : OkM m) (hs : Ok4 s) (g c : Int) : u1 (rE s m none none none none none none none none none none) [cup g c] = some (.ok (.nx (rE s m (vr 1) none none none none none none none none none)) [cup g c, l3 (ehue (s + 0) % m) (ehue (s + 1) % m) (ehue (s + 2) % m)]) := by
  unfold u1
  exact set_ok (lc3 (rg3_ok _ _) (x0 := .int 0) (x1 := .int 1) (x2 := .int 2) rfl rfl rfl rfl (call_okE (cons_ok (p_add (p_var rfl) (p_var rfl)) (cons_ok (p_var rfl) rfl)) (rest_edge hm hs 0 (by decide) 0 rfl _)) (call_okE (cons_ok (p_add (p_var rfl) (p_var rfl)) (cons_ok (p_var rfl) rfl)) (rest_edge hm hs 1 (by decide) 1 rfl _)) (call_okE (cons_ok (p_add (p_var rfl) (p_var rfl)) (cons_ok (p_var rfl) rfl)) (rest_edge hm hs 2 (by decide) 2 rfl _)))
theorem u2_ok {s : Nat} {m : Int} (hm : OkM m) (hs : Ok4 s) (A B : O) : u2 (rE s m (vr 1) none none none none none none none none none) [A, B] = some (.ok (.nx (rE s m (vr 1) (vr 2) none none none none none none none none)) [A, B, l5 (pairs (s + 0) % m) (pairs (s + 1) % m) (pairs (s + 2) % m) (pairs (s + 3) % m) (pairs (s + 4) % m)]) := by
  unfold u2
  exact set_ok (lc5 (rg5_ok _ _) (x0 := .int 0) (x1 := .int 1) (x2 := .int 2) (x3 := .int 3) (x4 := .int 4) rfl rfl rfl rfl rfl rfl (call_okE (cons_ok (p_add (p_var rfl) (p_var rfl)) (cons_ok (p_var rfl) rfl)) (rest_pairs hm hs 0 (by decide) 0 rfl _)) (call_okE (cons_ok (p_add (p_var rfl) (p_var rfl)) (cons_ok (p_var rfl) rfl)) (rest_pairs hm hs 1 (by decide) 1 rfl _)) (call_okE (cons_ok (p_add (p_var rfl) (p_var rfl)) (cons_ok (p_var rfl) rfl)) (rest_pairs hm hs 2 (by decide) 2 rfl _)) (call_okE (cons_ok (p_add (p_var rfl) (p_var rfl)) (cons_ok (p_var rfl) rfl)) (rest_pairs hm hs 3 (by decide) 3 rfl _)) (call_okE (cons_ok (p_add (p_var rfl) (p_var rfl)) (cons_ok (p_var rfl) rfl)) (rest_pairs hm hs 4 (by decide) 4 rfl _)))
theorem u3_ok {s : Nat} {m : Int} (hm : OkM m) (hs : Ok4 s) (A B C : O) : u3 (rE s m (vr 1) (vr 2) none none none none none none none none) [A, B, C] = some (.ok (.nx (rE s m (vr 1) (vr 2) (vr 3) none none none none none none none)) [A, B, C, l3 (trees (s + 0) % m) (trees (s + 1) % m) (trees (s + 2) % m)]) := by
  unfold u3
  exact set_ok (lc3 (rg3_ok _ _) (x0 := .int 0) (x1 := .int 1) (x2 := .int 2) rfl rfl rfl rfl (call_okE (cons_ok (p_add (p_var rfl) (p_var rfl)) (cons_ok (p_var rfl) rfl)) (rest_trees hm hs 0 (by decide) 0 rfl _)) (call_okE (cons_ok (p_add (p_var rfl) (p_var rfl)) (cons_ok (p_var rfl) rfl)) (rest_trees hm hs 1 (by decide) 1 rfl _)) (call_okE (cons_ok (p_add (p_var rfl) (p_var rfl)) (cons_ok (p_var rfl) rfl)) (rest_trees hm hs 2 (by decide) 2 rfl _)))
abbrev hpR (A : O) (H0 H1 H2 P0 P1 P2 P3 P4 T0 T1 T2 : Int) : M := [A, l3 H0 H1 H2, l5 P0 P1 P2 P3 P4, l3 T0 T1 T2, .lst [.int H0, .int H1, .int H2, .int P0, .int P1, .int P2, .int P3, .int P4], .lst [.int H0, .int H1, .int H2, .int P0, .int P1, .int P2, .int P3, .int P4, .int T0, .int T1, .int T2]]
theorem u4_ok {s : Nat} {m : Int} (hs : Ok4 s) (A : O) (H0 H1 H2 P0 P1 P2 P3 P4 T0 T1 T2 : Int) : u4 (rE s m (vr 1) (vr 2) (vr 3) none none none none none none none) [A, l3 H0 H1 H2, l5 P0 P1 P2 P3 P4, l3 T0 T1 T2] = some (.ok (.nx (rE s m (vr 1) (vr 2) (vr 3) none none none none none none none)) (hpR A H0 H1 H2 P0 P1 P2 P3 P4 T0 T1 T2)) := by
  unfold u4
  refine p_no (m1 := hpR A H0 H1 H2 P0 P1 P2 P3 P4 T0 T1 T2) (p_or (m1 := hpR A H0 H1 H2 P0 P1 P2 P3 P4 T0 T1 T2) ?_ ?_)
  · refine p_b (op_okE (x := .non) (y := .ref 5) (m2 := hpR A H0 H1 H2 P0 P1 P2 P3 P4 T0 T1 T2) rfl rfl ?_)
    unfold gIn
    simp [dO, inP, toP, fuelP, seqO, lstO, PyData.eqv]
  · have e := p_b (p_ne (p_sub (call_okE (cons_ok (g := mNil) (ds := []) (p_var (env := rE s m (vr 1) (vr 2) (vr 3) none none none none none none none) (i := 1) rfl) rfl) (rounds_call s (by have := hs.ok (i := 0) (by decide); exact this) (hpR A H0 H1 H2 P0 P1 P2 P3 P4 T0 T1 T2))) (p_var (env := rE s m (vr 1) (vr 2) (vr 3) none none none none none none none) (i := 1) rfl)) (p_ev (x := 2) (y := 0) (p_var (env := rE s m (vr 1) (vr 2) (vr 3) none none none none none none none) (i := 1) rfl)))
    refine e.trans ?_
    have hv : ((s : Int) + (if s % 2 = 0 then 2 else 0) - s = if (s : Int) % 2 = 0 then 2 else 0) := by
      split <;> split <;> omega
    rw [decide_eq_true hv]
    rfl
theorem neg_two : mUn gNeg (mC (.int 2)) = mC (.int (-2)) := by
  funext env m
  rfl
theorem u5_ok {s m : Int} (M1 : M) : u5 (rE s m (vr 1) (vr 2) (vr 3) none none none none none none none) M1 = some (.ok (.nx (rE s m (vr 1) (vr 2) (vr 3) (vi (if s % 2 = 0 then 8 else -2)) none none none none none none)) M1) := by
  unfold u5
  rw [neg_two]
  exact set_ok (p_ev (p_var rfl))
theorem lu_ok {env : EV.Env} {M1 : M} {p s j : Int} {xs : List D} (h4 : env[4]? = some (vr 2)) (h1 : env[1]? = some (vi s)) (h8 : env[8]? = some (vi j)) (hp : M1[2]? = some (.lst xs)) (hi : L2.atI xs j = some (.int p)) : (mOp (gI fSub) (mOp gIx (mVar 4) (mVar 8)) (mIf (mB (mOp gEq (mOp (gI fMod) (mOp gAdd (mVar 1) (mVar 8)) (mC (.int 2))) (mC (.int 0)))) (mC (.int 2)) (mC (.int 0)))) env M1 = some (.ok (.int (p - if (s + j) % 2 = 0 then 2 else 0)) M1) :=
  p_sub (p_ix (p_var h4) (p_var h8) hp hi) (p_ev (p_add (p_var h1) (p_var h8)))
abbrev lu (s j p : Int) : Int := p - if (s + j) % 2 = 0 then 2 else 0
theorem right_tail (s m : Int) (A : O) (H0 H1 H2 P0 P1 P2 P3 P4 T0 T1 T2 ev : Int) (hm : 0 < m) (bs : Bd 100 s) (bs1 : Bd 100 (s + 1)) (bs2 : Bd 100 (s + 2)) (bev : Bd 10 ev) (bH : Bd 40 H0) (bT0 : Bd 40 T0) (bT1 : Bd 40 T1) (bT2 : Bd 40 T2)
    (k6 : (H2 - ev - 4 * (H0 - ev)) % m = 0) (k7 : (H1 + H0 - 6 - 3 * (H0 - ev)) % m = 0)
    (k90 : (lu s 2 P2 - lu s 1 P1 - lu s 0 P0) % m = 0) (k91 : (lu s 3 P3 - lu s 2 P2 - lu s 1 P1) % m = 0) (k92 : (lu s 4 P4 - lu s 3 P3 - lu s 2 P2) % m = 0)
    (k12 : ((s + 2) * (s + 1) * T0 - 4 * (s + 2) * (s + 0) * T1 + (s + 1) * (s + 0) * T2 - 2 * (s + 0) * (s + 1) * (s + 2)) % m = 0) :
    ∃ tl, (sSeq u6 (sSeq u7 (sSeq u8 (sSeq u9 (sSeq u10 (sSeq u11 u12)))))) (rE s m (vr 1) (vr 2) (vr 3) (vi ev) none none none none none none) (hpR A H0 H1 H2 P0 P1 P2 P3 P4 T0 T1 T2) = some (.ok (.rt (.bl true)) (A :: tl)) := by
  have b0 : bigB (H0 - ev) = true := (bH.sub bev).big (by decide)
  have b4 : bigB 4 = true := rfl
  have b3 : bigB 3 = true := rfl
  have b2 : bigB 2 = true := rfl
  have z0 : Bd 100 (s + 0) := by rw [Int.add_zero]; exact bs
  have c0 := (bs2.big (by decide))
  have c1 := (bs1.big (by decide))
  have c2 := (z0.big (by decide))
  have d1 : bigB ((s + 2) * (s + 1)) = true := (bs2.mul bs1).big (by decide)
  have d2 : bigB (4 * (s + 2)) = true := ((bd_c (a := 4) (by decide) (by decide)).mul bs2).big (by decide)
  have d3 : bigB (4 * (s + 2) * (s + 0)) = true := (((bd_c (a := 4) (by decide) (by decide)).mul bs2).mul z0).big (by decide)
  have d4 : bigB ((s + 1) * (s + 0)) = true := (bs1.mul z0).big (by decide)
  have d5 : bigB (2 * (s + 0)) = true := ((bd_c (a := 2) (by decide) (by decide)).mul z0).big (by decide)
  have d6 : bigB (2 * (s + 0) * (s + 1)) = true := (((bd_c (a := 2) (by decide) (by decide)).mul z0).mul bs1).big (by decide)
  have t0 := (bT0.big (by decide))
  have t1 := (bT1.big (by decide))
  have t2 := (bT2.big (by decide))
  refine ⟨[l3 H0 H1 H2, l5 P0 P1 P2 P3 P4, l3 T0 T1 T2, .lst [.int H0, .int H1, .int H2, .int P0, .int P1, .int P2, .int P3, .int P4], .lst [.int H0, .int H1, .int H2, .int P0, .int P1, .int P2, .int P3, .int P4, .int T0, .int T1, .int T2], l5 (lu s 0 P0) (lu s 1 P1) (lu s 2 P2) (lu s 3 P3) (lu s 4 P4), l3 (s + 0) (s + 1) (s + 2)], ?g⟩
  case g =>
    refine (seq_nx (e1 := rE s m (vr 1) (vr 2) (vr 3) (vi ev) none none none none none none) (m1 := hpR A H0 H1 H2 P0 P1 P2 P3 P4 T0 T1 T2) ?_).trans ?_
    · unfold u6
      exact p_chk (p_mod (p_sub (p_sub (p_ix (p_var rfl) rfl rfl rfl) (p_var rfl)) (p_mulB rfl (p_sub (p_ix (p_var rfl) rfl rfl rfl) (p_var rfl)) b4 b0)) (p_var rfl) hm) k6
    refine (seq_nx (e1 := rE s m (vr 1) (vr 2) (vr 3) (vi ev) none none none none none none) (m1 := hpR A H0 H1 H2 P0 P1 P2 P3 P4 T0 T1 T2) ?_).trans ?_
    · unfold u7
      exact p_chk (p_mod (p_sub (p_sub (p_add (p_ix (p_var rfl) rfl rfl rfl) (p_ix (p_var rfl) rfl rfl rfl)) (rfl : mC (.int 6) _ _ = some (.ok (.int 6) _))) (p_mulB rfl (p_sub (p_ix (p_var rfl) rfl rfl rfl) (p_var rfl)) b3 b0)) (p_var rfl) hm) k7
    refine (seq_nx (e1 := rE s m (vr 1) (vr 2) (vr 3) (vi ev) (vr 6) none none none none none) (m1 := hpR A H0 H1 H2 P0 P1 P2 P3 P4 T0 T1 T2 ++ [l5 (lu s 0 P0) (lu s 1 P1) (lu s 2 P2) (lu s 3 P3) (lu s 4 P4)]) ?_).trans ?_
    · unfold u8
      exact set_ok (lc5 (rg5_ok _ _) (x0 := .int 0) (x1 := .int 1) (x2 := .int 2) (x3 := .int 3) (x4 := .int 4) rfl rfl rfl rfl rfl rfl (lu_ok rfl rfl rfl rfl rfl) (lu_ok rfl rfl rfl rfl rfl) (lu_ok rfl rfl rfl rfl rfl) (lu_ok rfl rfl rfl rfl rfl) (lu_ok rfl rfl rfl rfl rfl))
    refine (seq_nx (e1 := rE s m (vr 1) (vr 2) (vr 3) (vi ev) (vr 6) (vi 2) none none none none) (m1 := hpR A H0 H1 H2 P0 P1 P2 P3 P4 T0 T1 T2 ++ [l5 (lu s 0 P0) (lu s 1 P1) (lu s 2 P2) (lu s 3 P3) (lu s 4 P4)]) ?_).trans ?_
    · unfold u9
      refine for_in (rg3_ok _ _) ?_
      generalize lu s 0 P0 = L0 at *
      generalize lu s 1 P1 = L1 at *
      generalize lu s 2 P2 = L2' at *
      generalize lu s 3 P3 = L3 at *
      generalize lu s 4 P4 = L4 at *
      refine (for_step (x := .int 0) (env1 := rE s m (vr 1) (vr 2) (vr 3) (vi ev) (vr 6) (vi 0) none none none none) rfl (p_chk (p_mod (p_sub (p_sub (p_ix (p_var rfl) (p_add (p_var rfl) rfl) rfl rfl) (p_ix (p_var rfl) (p_add (p_var rfl) rfl) rfl rfl)) (p_ix (p_var rfl) (p_var rfl) rfl rfl)) (p_var rfl) hm) k90)).trans ?_
      refine (for_step (x := .int 1) (env1 := rE s m (vr 1) (vr 2) (vr 3) (vi ev) (vr 6) (vi 1) none none none none) rfl (p_chk (p_mod (p_sub (p_sub (p_ix (p_var rfl) (p_add (p_var rfl) rfl) rfl rfl) (p_ix (p_var rfl) (p_add (p_var rfl) rfl) rfl rfl)) (p_ix (p_var rfl) (p_var rfl) rfl rfl)) (p_var rfl) hm) k91)).trans ?_
      refine (for_step (x := .int 2) (env1 := rE s m (vr 1) (vr 2) (vr 3) (vi ev) (vr 6) (vi 2) none none none none) rfl (p_chk (p_mod (p_sub (p_sub (p_ix (p_var rfl) (p_add (p_var rfl) rfl) rfl rfl) (p_ix (p_var rfl) (p_add (p_var rfl) rfl) rfl rfl)) (p_ix (p_var rfl) (p_var rfl) rfl rfl)) (p_var rfl) hm) k92)).trans ?_
      exact for_end rfl
    refine (seq_nx (e1 := rE s m (vr 1) (vr 2) (vr 3) (vi ev) (vr 6) (vi 2) none (vi (s + 0)) (vi (s + 1)) (vi (s + 2))) (m1 := hpR A H0 H1 H2 P0 P1 P2 P3 P4 T0 T1 T2 ++ [l5 (lu s 0 P0) (lu s 1 P1) (lu s 2 P2) (lu s 3 P3) (lu s 4 P4), l3 (s + 0) (s + 1) (s + 2)]) ?_).trans ?_
    · unfold u10 sPatL
      refine (bnd_ok (lc3 (rg3_ok _ _) (x0 := .int 0) (x1 := .int 1) (x2 := .int 2) rfl rfl rfl rfl (p_add (p_var rfl) (p_var rfl)) (p_add (p_var rfl) (p_var rfl)) (p_add (p_var rfl) (p_var rfl)))).trans ?_
      rfl
    refine (seq_nx (e1 := rE s m (vr 1) (vr 2) (vr 3) (vi ev) (vr 6) (vi 2) (vi ((s + 2) * (s + 1) * T0 - 4 * (s + 2) * (s + 0) * T1 + (s + 1) * (s + 0) * T2)) (vi (s + 0)) (vi (s + 1)) (vi (s + 2))) (m1 := hpR A H0 H1 H2 P0 P1 P2 P3 P4 T0 T1 T2 ++ [l5 (lu s 0 P0) (lu s 1 P1) (lu s 2 P2) (lu s 3 P3) (lu s 4 P4), l3 (s + 0) (s + 1) (s + 2)]) ?_).trans ?_
    · unfold u11
      exact set_ok (p_add (p_sub (p_mulB (p_mulB (p_var rfl) (p_var rfl) c0 c1) (p_ix (p_var rfl) rfl rfl rfl) d1 t0) (p_mulB (p_mulB (p_mulB rfl (p_var rfl) b4 c0) (p_var rfl) d2 c2) (p_ix (p_var rfl) rfl rfl rfl) d3 t1)) (p_mulB (p_mulB (p_var rfl) (p_var rfl) c1 c2) (p_ix (p_var rfl) rfl rfl rfl) d4 t2))
    unfold u12
    refine (bnd_ok (p_eq (p_mod (p_sub (p_var rfl) (p_mulB (p_mulB (p_mulB rfl (p_var rfl) b2 c2) (p_var rfl) d5 c1) (p_var rfl) d6 c0)) (p_var rfl) hm) rfl)).trans ?_
    rw [k12]
    rfl
/-! numbers -/
theorem pow2_2 (s : Nat) : (2 : Int) ^ (s + 2) = 4 * 2 ^ s := by
  rw [Int.pow_succ, Int.pow_succ]
  omega
theorem ehue_two (s : Nat) : ehue (s + 2) - (if (s : Int) % 2 = 0 then 8 else -2) - 4 * (ehue (s + 0) - if (s : Int) % 2 = 0 then 8 else -2) = 0 := by
  unfold ehue
  rw [pow2_2, Nat.add_zero]
  generalize (2 : Int) ^ s = x
  split <;> split <;> (try split) <;> omega
theorem ehue_one (s : Nat) : ehue (s + 1) + ehue (s + 0) - 6 - 3 * (ehue (s + 0) - if (s : Int) % 2 = 0 then 8 else -2) = 0 := by
  unfold ehue
  rw [Int.pow_succ, Nat.add_zero]
  generalize (2 : Int) ^ s = x
  split <;> split <;> (try split) <;> omega
theorem lu_three (s i : Nat) (a b c : Int) (ha : a = i + 2) (hb : b = i + 1) (hc : c = i) : lu s a (pairs (s + (i + 2))) - lu s b (pairs (s + (i + 1))) - lu s c (pairs (s + i)) = 0 := by
  subst ha hb hc
  unfold pairs
  have e : row 1 1 2 1 (s + (i + 2)) = 1 * row 1 1 2 1 (s + (i + 1)) + 1 * row 1 1 2 1 (s + i) := rfl
  rw [e]
  have h1 : ∀ k : Nat, ∀ z : Int, z = k → (if (s + k) % 2 = 0 then (2 : Int) else 0) = if ((s : Int) + z) % 2 = 0 then 2 else 0 := by
    intro k z hz
    subst hz
    split <;> split <;> omega
  rw [h1 (i + 2) (i + 2) (by omega), h1 (i + 1) (i + 1) (by omega), h1 i i rfl]
  unfold lu
  generalize (if ((s : Int) + (i + 2)) % 2 = 0 then (2 : Int) else 0) = x
  generalize (if ((s : Int) + (i + 1)) % 2 = 0 then (2 : Int) else 0) = y
  generalize (if ((s : Int) + i) % 2 = 0 then (2 : Int) else 0) = z
  omega
theorem trees_three (s : Nat) : ((s : Int) + 2) * (s + 1) * trees (s + 0) - 4 * (s + 2) * (s + 0) * trees (s + 1) + (s + 1) * (s + 0) * trees (s + 2) - 2 * (s + 0) * (s + 1) * (s + 2) = 0 := by
  unfold trees
  have e : row 4 (-1) 1 2 (s + 2) = 4 * row 4 (-1) 1 2 (s + 1) + (-1) * row 4 (-1) 1 2 s := rfl
  rw [e]
  rw [Nat.add_zero, Int.add_zero]
  rw [Int.natCast_add, Int.natCast_add]
  generalize (s : Int) = x
  generalize row 4 (-1) 1 2 (s + 1) = y
  generalize row 4 (-1) 1 2 s = z
  show (x + 2) * (x + 1) * (x * (z - 1)) - 4 * (x + 2) * x * ((x + 1) * (y - 1)) + (x + 1) * x * ((x + 2) * (4 * y + -1 * z - 1)) - 2 * x * (x + 1) * (x + 2) = 0
  grind
theorem cg_lu {s m a p : Int} : cg m (lu s a (p % m)) (lu s a p) := cg.red.sub cg.refl
theorem right_drum (s : Nat) (m g c : Int) (hm : OkM m) (hs : Ok4 s) : ∃ tl, F__law_right [.ref 0, .int s, .int m] [cup g c] = some (.ok (.bl true) (cup g c :: tl)) := by
  have bev : Bd 10 (if (s : Int) % 2 = 0 then 8 else -2) := by split <;> exact bd_c (by decide) (by decide)
  have b0 : Bd 100 (s : Int) := by have := bd_s hs (i := 0) (by decide); simpa using this
  have k6 : (ehue (s + 2) % m - (if (s : Int) % 2 = 0 then 8 else -2) - 4 * (ehue (s + 0) % m - if (s : Int) % 2 = 0 then 8 else -2)) % m = 0 :=
    cg.zero (((cg.red.sub cg.refl).sub (cg.refl.mul (cg.red.sub cg.refl))).trans (cg.of_eq (ehue_two s)))
  have k7 : (ehue (s + 1) % m + ehue (s + 0) % m - 6 - 3 * (ehue (s + 0) % m - if (s : Int) % 2 = 0 then 8 else -2)) % m = 0 :=
    cg.zero ((((cg.red.add cg.red).sub cg.refl).sub (cg.refl.mul (cg.red.sub cg.refl))).trans (cg.of_eq (ehue_one s)))
  have k9 : ∀ (i : Nat) (a b c : Int), a = i + 2 → b = i + 1 → c = i → (lu s a (pairs (s + (i + 2)) % m) - lu s b (pairs (s + (i + 1)) % m) - lu s c (pairs (s + i) % m)) % m = 0 := fun i a b c ha hb hc =>
    cg.zero (((cg_lu.sub cg_lu).sub cg_lu).trans (cg.of_eq (lu_three s i a b c ha hb hc)))
  have k12 : (((s : Int) + 2) * (s + 1) * (trees (s + 0) % m) - 4 * (s + 2) * (s + 0) * (trees (s + 1) % m) + (s + 1) * (s + 0) * (trees (s + 2) % m) - 2 * (s + 0) * (s + 1) * (s + 2)) % m = 0 :=
    cg.zero (((((cg.refl.mul cg.red).sub (cg.refl.mul cg.red)).add (cg.refl.mul cg.red)).sub cg.refl).trans (cg.of_eq (trees_three s)))
  obtain ⟨tl, e⟩ := right_tail s m (cup g c) (ehue (s + 0) % m) (ehue (s + 1) % m) (ehue (s + 2) % m) (pairs (s + 0) % m) (pairs (s + 1) % m) (pairs (s + 2) % m) (pairs (s + 3) % m) (pairs (s + 4) % m) (trees (s + 0) % m) (trees (s + 1) % m) (trees (s + 2) % m) (if (s : Int) % 2 = 0 then 8 else -2) hm.1 b0 (by have := bd_s hs (i := 1) (by decide); simpa using this) (by have := bd_s hs (i := 2) (by decide); simpa using this) bev (bd_mod hm) (bd_mod hm) (bd_mod hm) (bd_mod hm) k6 k7 (k9 0 2 1 0 rfl rfl rfl) (k9 1 3 2 1 rfl rfl rfl) (k9 2 4 3 2 rfl rfl rfl) k12
  refine ⟨tl, ?_⟩
  unfold F__law_right
  refine (mDef_eq (x := some (.ok (.rt (.bl true)) (cup g c :: tl))) ?_).trans rfl
  show (sSeq u1 (sSeq u2 (sSeq u3 (sSeq u4 (sSeq u5 (sSeq u6 (sSeq u7 (sSeq u8 (sSeq u9 (sSeq u10 (sSeq u11 u12))))))))))) (rE s m none none none none none none none none none none) [cup g c] = _
  refine (seq_nx (u1_ok hm hs g c)).trans ?_
  refine (seq_nx (u2_ok hm hs _ _)).trans ?_
  refine (seq_nx (u3_ok hm hs _ _ _)).trans ?_
  refine (seq_nx (u4_ok hs _ _ _ _ _ _ _ _ _ _ _ _)).trans ?_
  refine (seq_nx (u5_ok _)).trans ?_
  exact e
end EVP

set_option Elab.async false
set_option linter.all false
set_option maxRecDepth 100000
set_option maxHeartbeats 4000000
namespace EVP
open PySem PySem.Spec PyProof.Rows L2 EV DM
def v1 : MS := (sSet 3 (mCall F_drum_face_hues (mCons (mVar 1) (mCons (mC (.int 4)) (mCons (mVar 2) mNil)))))
def v2 : MS := (sIf (mB (mOp gNe (mOp (gI fMod) (mOp (gI fSub) (mVar 3) (mOp (gI fMul) (mC (.int 4)) (mCall F_drum_edge_hues (mCons (mVar 1) (mCons (mVar 2) mNil))))) (mVar 2)) (mC (.int 0)))) (sRet (mC (.bl false))) sNil)
def v3 : MS := (sPar 6 7 (mCons (mCallK F__law_roll (mCons (mVar 0) (mCons (mOp (gI fPow) (mC (.int 10)) (mC (.int 12))) mNil))) (mCons (mOp gAdd (mC (.int 1)) (mCallK F__law_roll (mCons (mVar 0) (mCons (mOp (gI fPow) (mC (.int 10)) (mC (.int 5))) mNil)))) mNil)))
def v4 : MS := (sSet 4 (mCall F_drum_face_hues (mCons (mVar 1) (mCons (mVar 6) (mCons (mOp (gI fMul) (mVar 7) (mC (.int 1000))) mNil)))))
def v5 : MS := (sIf (mB (mOp gNe (mOp (gI fMod) (mVar 4) (mVar 7)) (mCall F_drum_face_hues (mCons (mVar 1) (mCons (mVar 6) (mCons (mVar 7) mNil)))))) (sRet (mC (.bl false))) sNil)
def v6 : MS := (sIf (mB (mOp gNe (mOp (gI fMod) (mVar 4) (mC (.int 1000))) (mCall F_drum_face_hues (mCons (mVar 1) (mCons (mOp (gI fMod) (mVar 6) (mC (.int 1000))) (mCons (mC (.int 1000)) mNil)))))) (sRet (mC (.bl false))) sNil)
def v7 : MS := (sSet 5 (mIf (mB (mOp gEq (mOp (gI fMod) (mVar 1) (mC (.int 2))) (mC (.int 0)))) (mC (.int 6)) (mC (.int 0))))
def v8 : MS := (sRet (mOp gEq (mLc (iSeq (mTup (mCons (mC (.int 0)) (mCons (mC (.int 1)) (mCons (mC (.int 2)) (mCons (mC (.int 3)) mNil)))))) (.n 8) [8] mYes (mCall F_drum_face_hues (mCons (mVar 1) (mCons (mVar 8) (mCons (mC (.int 100)) mNil))))) (mLst (mCons (mC (.int 0)) (mCons (mC (.int 0)) (mCons (mC (.int 0)) (mCons (mVar 5) mNil)))))))
/-! ### a roll -/
theorem roll_ok (g c many : Int) (h0 : 0 < many) (h1 : many ≤ 1000000000000) : ∃ b g1 c1, 0 ≤ b ∧ b < many ∧ F__law_roll [.ref 0, .int many] [cup g c] = some (.ok (.int b) [cup g1 c1]) := by
  have eb : bigB many = true := Bd.big (k := 40) (by unfold Bd; omega) (by decide)
  have e1 : ∀ z, fMod z many = some (z % many) := fun z => fmod_pos h0
  have e2 : ∀ z, fFdivB z many = some (z / many) := fun z => by unfold fFdivB; simp [h0, eb]
  by_cases hg : 0 < g
  · refine ⟨g % many, g / many, c, Int.emod_nonneg _ (by omega), Int.emod_lt_of_pos _ h0, ?_⟩
    unfold F__law_roll mDef B__law_roll sSeq sIf mB mOp
    simp [mVar, mC, EV.bnd, gB, bGt, gIx, ixL, lstO, L2.atI, L2.ixN, oN, hg, mB1, one, mCons, mNil, gInt, gI, e1, e2, sSet, sPut, putD, sRet, sSeq, mOp]
  · have f1 : ∀ z, fMul z 30671 = some (z * 30671) := fun z => fmul_r (by decide)
    have f2 : ∀ z, fMod z 2147483549 = some (z % 2147483549) := fun z => fmod_pos (by decide)
    have f3 : ∀ z, fMod z 2147483587 = some (z % 2147483587) := fun z => fmod_pos (by decide)
    have f5 : ∀ z, fFdivB z 613 = some (z / 613) := fun z => by unfold fFdivB; simp [show bigB 613 = true from rfl]
    generalize hc1 : (c * 30671 + 8807) % 2147483549 = c1
    have f4 : fMul c1 (c1 + 101) = some (c1 * (c1 + 101)) := fmul_l (small_of (by omega) (by omega))
    refine ⟨c1 * (c1 + 101) % 2147483587 / 613 % many, g, c1, Int.emod_nonneg _ (by omega), Int.emod_lt_of_pos _ h0, ?_⟩
    unfold F__law_roll mDef B__law_roll sSeq sIf mB mOp
    simp [mVar, mC, EV.bnd, gB, bGt, gIx, ixL, lstO, L2.atI, L2.ixN, oN, hg, mB1, one, mCons, mNil, gInt, gI, e1, e2, f1, f2, f3, f4, f5, hc1, sSet, sPut, putD, sRet, sSeq, mOp, sNil, gAdd]
theorem callK_eq {F : MF} {k : Nat} {ds : List D} {m m' : M} {xs ys : List D} {d : D} (h : m[k]? = some (.lst xs)) (hp : (pureDs xs && pureDs ds) = true) (hF : F (.ref 0 :: ds) [.lst xs] = some (.ok d m')) (h0 : m'[0]? = some (.lst ys)) (hq : (pureDs ys && pureD d) = true) : callK F k ds m = some (.ok d (m.set k (.lst ys))) := by
  unfold callK
  rw [h]
  simp only
  rw [hp]
  simp only
  rw [hF]
  simp only
  rw [h0]
  simp only
  rw [hq]
theorem roll_K {k : Nat} {m : M} {g c many : Int} (h : m[k]? = some (cup g c)) (h0 : 0 < many) (h1 : many ≤ 1000000000000) : ∃ b g1 c1, 0 ≤ b ∧ b < many ∧ callK F__law_roll k [.int many] m = some (.ok (.int b) (m.set k (cup g1 c1))) := by
  obtain ⟨b, g1, c1, h2, h3, h4⟩ := roll_ok g c many h0 h1
  exact ⟨b, g1, c1, h2, h3, callK_eq (xs := [.int g, .int c]) (ys := [.int g1, .int c1]) h rfl h4 rfl rfl⟩
/-! ### face hues -/
abbrev vE (s m : Int) (a b c d e f : Option D) : EV.Env := [some (.ref 0), some (.int s), some (.int m), a, b, c, d, e, f]
theorem v1_ok {s : Nat} {m : Int} (hm : OkM m) (hs : Ok4 s) (A : O) : v1 (vE s m none none none none none none) [A] = some (.ok (.nx (vE s m (vi (fhue s 4 % m)) none none none none none)) [A]) := by
  unfold v1
  exact set_ok (call_okE (cons_ok (p_var rfl) (cons_ok rfl (cons_ok (p_var rfl) rfl))) (face_call s 4 m hm (hs.ok (i := 0) (by decide)) (by decide) (by decide) _))
theorem v2_ok {s : Nat} {m a : Int} (hm : OkM m) (hs : Ok4 s) (A : O) (k : (a - 4 * (ehue s % m)) % m = 0) : v2 (vE s m (vi a) none none none none none) [A] = some (.ok (.nx (vE s m (vi a) none none none none none)) [A]) := by
  unfold v2
  exact p_chk (p_mod (p_sub (p_var rfl) (p_mulL rfl (call_okE (cons_ok (p_var rfl) (cons_ok (p_var rfl) rfl)) (edge_call s m hm (hs.ok (i := 0) (by decide)) _)) rfl)) (p_var rfl) hm.1) k
theorem pow_c {i j : Nat} (z : Int) (h : fPow i j = some z) (env : EV.Env) (m : M) : mOp (gI fPow) (mC (.int i)) (mC (.int j)) env m = some (.ok (.int z) m) := op_okE (x := .int i) (y := .int j) rfl rfl (by unfold gI; simp only [h])
theorem v3_ok (s m a g c : Int) : ∃ q p g2 c2, 0 ≤ q ∧ q < 1000000000000 ∧ 0 ≤ p ∧ p < 100000 ∧ v3 (vE s m (vi a) none none none none none) [cup g c] = some (.ok (.nx (vE s m (vi a) none none (vi q) (vi (1 + p)) none)) [cup g2 c2]) := by
  obtain ⟨q, g1, c1, q0, q1, e1⟩ := roll_K (k := 0) (m := [cup g c]) (many := 1000000000000) rfl (by decide) (by decide)
  obtain ⟨p, g2, c2, p0, p1, e2⟩ := roll_K (k := 0) (m := [cup g1 c1]) (many := 100000) rfl (by decide) (by decide)
  refine ⟨q, p, g2, c2, q0, q1, p0, p1, ?_⟩
  unfold v3
  exact par_ok (d := .int q) (e := .int (1 + p)) (m1 := [cup g2 c2]) (cons_ok (m1 := [cup g1 c1]) (callK_okE (k := 0) (ds := [.int 1000000000000]) (m1 := [cup g c]) (cons_ok (m1 := [cup g c]) (p_var rfl) (cons_ok (m1 := [cup g c]) (pow_c (i := 10) (j := 12) 1000000000000 rfl _ _) rfl)) e1) (cons_ok (m1 := [cup g2 c2]) (p_add (m1 := [cup g1 c1]) rfl (callK_okE (k := 0) (ds := [.int 100000]) (m1 := [cup g1 c1]) (cons_ok (m1 := [cup g1 c1]) (p_var rfl) (cons_ok (m1 := [cup g1 c1]) (pow_c (i := 10) (j := 5) 100000 rfl _ _) rfl)) e2)) rfl))
theorem v4_ok {s : Nat} {m a q p : Int} (hs : Ok4 s) (q0 : 0 ≤ q) (q1 : q < 1000000000000) (p0 : 0 ≤ p) (p1 : p < 100000) (A : O) : v4 (vE s m (vi a) none none (vi q) (vi (1 + p)) none) [A] = some (.ok (.nx (vE s m (vi a) (vi (fhue s q % ((1 + p) * 1000))) none (vi q) (vi (1 + p)) none)) [A]) := by
  unfold v4
  exact set_ok (call_okE (cons_ok (p_var rfl) (cons_ok (p_var rfl) (cons_ok (p_mulR (p_var rfl) rfl rfl) rfl))) (face_call s q ((1 + p) * 1000) (by unfold OkM; omega) (hs.ok (i := 0) (by decide)) q0 (by omega) _))
theorem p_no_ne {env : EV.Env} {m m1 m2 : M} {f g : ME} {a b : Int} {t : MS} (h : f env m = some (.ok (.int a) m1)) (h2 : g env m1 = some (.ok (.int b) m2)) (hv : a = b) : sIf (mB (mOp gNe f g)) t sNil env m = some (.ok (.nx env) m2) := by
  subst hv
  have := p_b (p_ne h h2)
  simp only [decide_true, Bool.not_true] at this
  exact p_no this
theorem v5_ok {s : Nat} {m a q p : Int} (hs : Ok4 s) (q0 : 0 ≤ q) (q1 : q < 1000000000000) (p0 : 0 ≤ p) (p1 : p < 100000) (A : O) : v5 (vE s m (vi a) (vi (fhue s q % ((1 + p) * 1000))) none (vi q) (vi (1 + p)) none) [A] = some (.ok (.nx (vE s m (vi a) (vi (fhue s q % ((1 + p) * 1000))) none (vi q) (vi (1 + p)) none)) [A]) := by
  unfold v5
  exact p_no_ne (p_mod (p_var rfl) (p_var rfl) (by omega)) (call_okE (cons_ok (p_var rfl) (cons_ok (p_var rfl) (cons_ok (p_var rfl) rfl))) (face_call s q (1 + p) (by unfold OkM; omega) (hs.ok (i := 0) (by decide)) q0 (by omega) _)) (Int.emod_emod_of_dvd _ (Int.dvd_mul_right _ _))
theorem fhue_cg {s : Nat} {m a b : Int} (h : cg m a b) : cg m (fhue s a) (fhue s b) := by
  unfold fhue
  have h2 : cg m (a - 2) (b - 2) := h.sub .refl
  have h3 : cg m (a - 3) (b - 3) := h.sub .refl
  have h1 : cg m (a - 1) (b - 1) := h.sub .refl
  exact (h.mul ((h2.pow s).add (h2.mul .refl))).add ((h.mul h1).mul ((h3.pow s).add (h3.mul .refl)))
theorem v6_ok {s : Nat} {m a q p : Int} (hs : Ok4 s) (q0 : 0 ≤ q) (q1 : q < 1000000000000) (p0 : 0 ≤ p) (p1 : p < 100000) (A : O) : v6 (vE s m (vi a) (vi (fhue s q % ((1 + p) * 1000))) none (vi q) (vi (1 + p)) none) [A] = some (.ok (.nx (vE s m (vi a) (vi (fhue s q % ((1 + p) * 1000))) none (vi q) (vi (1 + p)) none)) [A]) := by
  unfold v6
  refine p_no_ne (p_mod (p_var rfl) rfl (b := 1000) (by decide)) (call_okE (cons_ok (p_var rfl) (cons_ok (p_mod (p_var rfl) rfl (b := 1000) (by decide)) (cons_ok rfl rfl))) (face_call s (q % 1000) 1000 (by unfold OkM; omega) (hs.ok (i := 0) (by decide)) (by omega) (by omega) _)) ?_
  rw [Int.emod_emod_of_dvd _ (Int.dvd_mul_left _ _)]
  exact (fhue_cg (m := 1000) (cg.red (m := 1000) (a := q))).symm
theorem v7_ok {s m : Int} {a b q p : Option D} (M1 : M) : v7 (vE s m a b none q p none) M1 = some (.ok (.nx (vE s m a b (vi (if s % 2 = 0 then 6 else 0)) q p none)) M1) := by
  unfold v7
  exact set_ok (p_ev (p_var rfl))
theorem toP_l4 {m : M} {k : Nat} {a b c d : Int} (h : m[k]? = some (.lst [.int a, .int b, .int c, .int d])) : toP m fuelP (.ref k) = some (.list [.int a, .int b, .int c, .int d]) := by
  show toP m (11 + 1) (.ref k) = _
  unfold toP
  simp only [h, lstO]
  rfl
theorem eqv_l4 {a b c d : Int} : PyData.eqv (.list [.int a, .int b, .int c, .int d]) (.list [.int a, .int b, .int c, .int d]) = true := by
  simp [PyData.eqv, PyData.eqvAll]
theorem v8_ok {s : Nat} (hs : Ok4 s) (m : Int) (A : O) (a b q p : Option D) (k0 : fhue s 0 % 100 = 0) (k1 : fhue s 1 % 100 = 0) (k2 : fhue s 2 % 100 = 0) (k3 : fhue s 3 % 100 = if (s : Int) % 2 = 0 then 6 else 0) : ∃ tl, v8 (vE s m a b (vi (if (s : Int) % 2 = 0 then 6 else 0)) q p none) [A] = some (.ok (.rt (.bl true)) (A :: tl)) := by
  have h : ∀ x : Int, 0 ≤ x → x ≤ 3 → ∀ t : M, callD F_drum_face_hues [.int s, .int x, .int 100] t = some (.ok (.int (fhue s x % 100)) t) := fun x x0 x1 t => face_call s x 100 (by unfold OkM; omega) (hs.ok (i := 0) (by decide)) x0 (by omega) t
  have h0 := h 0 (by decide) (by decide)
  have h1 := h 1 (by decide) (by decide)
  have h2 := h 2 (by decide) (by decide)
  have h3 := h 3 (by decide) (by decide)
  rw [k0] at h0
  rw [k1] at h1
  rw [k2] at h2
  rw [k3] at h3
  generalize (if (s : Int) % 2 = 0 then (6 : Int) else 0) = T at *
  refine ⟨[.lst [.int 0, .int 0, .int 0, .int T], .lst [.int 0, .int 0, .int 0, .int T]], ?_⟩
  unfold v8
  have e := lc4 (fi := iSeq (mTup (mCons (mC (.int 0)) (mCons (mC (.int 1)) (mCons (mC (.int 2)) (mCons (mC (.int 3)) mNil)))))) (v := 8) (env := vE s m a b (vi T) q p none) (m := [A]) (nx := nxT [.int 0, .int 1, .int 2, .int 3]) (elt := mCall F_drum_face_hues (mCons (mVar 1) (mCons (mVar 8) (mCons (mC (.int 100)) mNil)))) (x0 := .int 0) (x1 := .int 1) (x2 := .int 2) (x3 := .int 3) rfl rfl rfl rfl rfl rfl (call_okE (cons_ok (p_var rfl) (cons_ok (p_var rfl) (cons_ok rfl rfl))) (h0 _)) (call_okE (cons_ok (p_var rfl) (cons_ok (p_var rfl) (cons_ok rfl rfl))) (h1 _)) (call_okE (cons_ok (p_var rfl) (cons_ok (p_var rfl) (cons_ok rfl rfl))) (h2 _)) (call_okE (cons_ok (p_var rfl) (cons_ok (p_var rfl) (cons_ok rfl rfl))) (h3 _))
  refine bnd_ok (op_okE (z := .bl true) (m3 := [A, .lst [.int 0, .int 0, .int 0, .int T], .lst [.int 0, .int 0, .int 0, .int T]]) e (y := .ref 2) (m2 := [A, .lst [.int 0, .int 0, .int 0, .int T], .lst [.int 0, .int 0, .int 0, .int T]]) rfl ?_)
  unfold gEq
  rw [toP_l4 (k := 2) (a := 0) (b := 0) (c := 0) (d := T) rfl]
  rw [show toP [A, .lst [.int 0, .int 0, .int 0, .int T], .lst [.int 0, .int 0, .int 0, .int T]] fuelP (.ref [A].length) = some (.list [.int 0, .int 0, .int 0, .int T]) from toP_l4 (k := 1) rfl]
  simp only [eqv_l4]
/-! numbers -/
theorem ehue_sg (s : Nat) : ehue s = 2 ^ s + 5 * sg s + 3 := by
  unfold ehue
  rcases sg_two s with ⟨h, g⟩ | ⟨h, g⟩ <;> simp [h, g] <;> omega
theorem neg_pow (s : Nat) : (-1 : Int) ^ s = sg s := by
  induction s with
  | zero => rfl
  | succ s ih =>
    rw [Int.pow_succ, ih]
    rcases sg_two s with ⟨h, g⟩ | ⟨h, g⟩ <;> rcases sg_two (s + 1) with ⟨h', g'⟩ | ⟨h', g'⟩ <;> omega
theorem fhue_four (s : Nat) : fhue s 4 = 4 * ehue s := by
  rw [ehue_sg]
  unfold fhue
  rw [show (4 : Int) - 2 = 2 by decide, show (4 : Int) - 3 = 1 by decide, Int.one_pow]
  generalize (2 : Int) ^ s = x
  generalize sg s = y
  omega
theorem fhue_zero (s : Nat) : fhue s 0 = 0 := by
  unfold fhue
  simp
theorem fhue_one (s : Nat) : fhue s 1 = 0 := by
  unfold fhue
  rw [show (1 : Int) - 2 = -1 by decide, neg_pow]
  generalize sg s = y
  generalize ((1 : Int) - 3) ^ s = z
  omega
theorem fhue_two (s : Nat) (hs : 3 ≤ s) : fhue s 2 = 0 := by
  unfold fhue
  rw [show (2 : Int) - 3 = -1 by decide, neg_pow, show (2 : Int) - 2 = 0 by decide, Int.zero_pow (by omega)]
  generalize sg s = y
  omega
theorem fhue_three (s : Nat) (hs : 3 ≤ s) : fhue s 3 = if (s : Int) % 2 = 0 then 6 else 0 := by
  unfold fhue
  rw [show (3 : Int) - 2 = 1 by decide, Int.one_pow, show (3 : Int) - 3 = 0 by decide, Int.zero_pow (by omega)]
  rcases sg_two s with ⟨h, g⟩ | ⟨h, g⟩ <;> rw [g] <;> split <;> omega
theorem faces_drum (s : Nat) (m g c : Int) (hm : OkM m) (hs : Ok4 s) : ∃ g1 c1 tl, F__law_faces_right [.ref 0, .int s, .int m] [cup g c] = some (.ok (.bl true) (cup g1 c1 :: tl)) := by
  obtain ⟨q, p, g2, c2, q0, q1, p0, p1, e3⟩ := v3_ok s m (fhue s 4 % m) g c
  have k3 : fhue s 3 % 100 = if (s : Int) % 2 = 0 then 6 else 0 := by rw [fhue_three s hs.1]; split <;> rfl
  obtain ⟨tl, e8⟩ := v8_ok hs m (cup g2 c2) (vi (fhue s 4 % m)) (vi (fhue s q % ((1 + p) * 1000))) (vi q) (vi (1 + p)) (by rw [fhue_zero]; rfl) (by rw [fhue_one]; rfl) (by rw [fhue_two s hs.1]; rfl) k3
  refine ⟨g2, c2, tl, ?_⟩
  have k2 : (fhue s 4 % m - 4 * (ehue s % m)) % m = 0 := by
    have h : cg m (fhue s 4 % m - 4 * (ehue s % m)) (fhue s 4 - 4 * ehue s) := cg.red.sub (cg.refl.mul cg.red)
    refine cg.zero (h.trans (cg.of_eq ?_))
    rw [fhue_four]
    omega
  unfold F__law_faces_right
  refine (mDef_eq (x := some (.ok (.rt (.bl true)) (cup g2 c2 :: tl))) ?_).trans rfl
  show (sSeq v1 (sSeq v2 (sSeq v3 (sSeq v4 (sSeq v5 (sSeq v6 (sSeq v7 v8))))))) (vE s m none none none none none none) [cup g c] = _
  refine (seq_nx (v1_ok hm hs _)).trans ?_
  refine (seq_nx (v2_ok hm hs _ k2)).trans ?_
  refine (seq_nx e3).trans ?_
  refine (seq_nx (v4_ok hs q0 q1 p0 p1 _)).trans ?_
  refine (seq_nx (v5_ok hs q0 q1 p0 p1 _)).trans ?_
  refine (seq_nx (v6_ok hs q0 q1 p0 p1 _)).trans ?_
  refine (seq_nx (v7_ok _)).trans ?_
  exact e8
end EVP

set_option Elab.async false
set_option linter.all false
set_option maxRecDepth 100000
set_option maxHeartbeats 4000000
namespace EVP
open PySem PySem.Spec PyProof.Rows L2 EV DM
def wIter : MI := (iSeq (mSl (mOp gAddL (mVar 0) (mLst (mCons (mC (.int 0)) (mCons (mC (.int 1)) mNil)))) oNone (oSome (mC (.int 4)))))
def wb1 : MS := (sSet 2 (mCall F__law_drum (mCons (mVar 1) (mCons (mC (.int 9)) mNil))))
def wb2 : MS := (sSet 3 (mCall F__law_some (mCons (mVar 2) (mCons (mLst (mCons (mC (.int 3)) (mCons (mC (.int 4)) (mCons (mOp gAdd (mC (.int 3)) (mCallK F__law_roll (mCons (mVar 2) (mCons (mC (.int 100)) mNil)))) (mCons (mOp (gI fSub) (mOp (gI fSub) (mOp (gI fPow) (mC (.int 10)) (mC (.int 30))) (mC (.int 4))) (mCallK F__law_roll (mCons (mVar 2) (mCons (mOp (gI fPow) (mC (.int 10)) (mC (.int 9))) mNil)))) mNil))))) mNil))))
def wb3 : MS := (sSet 4 (mCall F__law_some (mCons (mVar 2) (mCons (mLst (mCons (mC (.int 1)) (mCons (mC (.int 2)) (mCons (mC (.int 7)) (mCons (mOp (gI fPow) (mC (.int 10)) (mC (.int 12))) (mCons (mOp gAdd (mC (.int 1)) (mCallK F__law_roll (mCons (mVar 2) (mCons (mOp (gI fPow) (mC (.int 10)) (mC (.int 12))) mNil)))) mNil)))))) mNil))))
def wb4 : MS := (sIf (mOr (mNot (mTr (mCallK F__law_right (mCons (mVar 2) (mCons (mVar 3) (mCons (mVar 4) mNil)))))) (mNot (mTr (mCallK F__law_faces_right (mCons (mVar 2) (mCons (mVar 3) (mCons (mVar 4) mNil))))))) (sRet (mC (.bl false))) sNil)
def wB : MS := sSeq wb1 (sSeq wb2 (sSeq wb3 wb4))
def w2 : MS := (sIf (mOr (mB (mOp gNe (mCall F_drum_rounds (mCons (mOp (gI fPow) (mC (.int 10)) (mC (.int 30))) mNil)) (mOp gAdd (mOp (gI fPow) (mC (.int 10)) (mC (.int 30))) (mC (.int 2))))) (mOr (mB (mOp gNe (mCall F_drum_edge_hues (mCons (mOp (gI fPow) (mC (.int 10)) (mC (.int 30))) (mCons (mC (.int 7)) mNil))) (mC (.int 3)))) (mB (mOp gNe (mCall F_drum_trees (mCons (mOp (gI fPow) (mC (.int 10)) (mC (.int 30))) (mCons (mC (.int 10)) mNil))) (mC (.int 0)))))) (sRet (mC (.bl false))) sNil)
def w3 : MS := (sIf (mB (mOp gNe (mLc (iSeq (mTup (mCons (mC (.int 3)) (mCons (mC (.int 4)) (mCons (mC (.int 5)) (mCons (mC (.int 6)) mNil)))))) (.n 5) [5] mYes (mCall F_drum_edge_hues (mCons (mVar 5) (mCons (mOp (gI fPow) (mC (.int 10)) (mC (.int 6))) mNil)))) (mLst (mCons (mC (.int 6)) (mCons (mC (.int 24)) (mCons (mC (.int 30)) (mCons (mC (.int 72)) mNil))))))) (sRet (mC (.bl false))) sNil)
def w4 : MS := (sIf (mB (mOp gNe (mLc (iSeq (mTup (mCons (mC (.int 3)) (mCons (mC (.int 4)) (mCons (mC (.int 5)) mNil))))) (.n 5) [5] mYes (mCall F_drum_pairings (mCons (mVar 5) (mCons (mC (.int 1000)) mNil)))) (mLst (mCons (mC (.int 4)) (mCons (mC (.int 9)) (mCons (mC (.int 11)) mNil)))))) (sRet (mC (.bl false))) sNil)
def w5 : MS := (sIf (mB (mOp gNe (mLc (iSeq (mTup (mCons (mC (.int 3)) (mCons (mC (.int 4)) mNil)))) (.n 5) [5] mYes (mCall F_drum_trees (mCons (mVar 5) (mCons (mC (.int 1000)) mNil)))) (mLst (mCons (mC (.int 75)) (mCons (mC (.int 384)) mNil))))) (sRet (mC (.bl false))) sNil)
def w6 : MS := (sRet (mAndV (mOp gEq (mCall F_drum_face_hues (mCons (mC (.int 4)) (mCons (mC (.int 3)) (mCons (mC (.int 100)) mNil)))) (mC (.int 6))) (mAndV (mOp gEq (mCall F_drum_face_hues (mCons (mC (.int 4)) (mCons (mC (.int 4)) (mCons (mC (.int 1000)) mNil)))) (mC (.int 96))) (mOp gEq (mCall F_drum_face_hues (mCons (mC (.int 5)) (mCons (mC (.int 3)) (mCons (mC (.int 10)) mNil)))) (mC (.int 0))))))
/-! ### one of some -/
theorem gcr_same (d : Int) (m : M) : gcr m.length (.int d) m = some (.ok (.int d) m) := by
  unfold gcr
  rw [List.take_length]
  cases belowM m.length m <;> rfl
theorem atI_ok (xs : List Int) (b : Int) (h0 : 0 ≤ b) (h1 : b < xs.length) : ∃ v ∈ xs, L2.atI (xs.map D.int) b = some (.int v) := by
  obtain ⟨j, rfl⟩ := Int.eq_ofNat_of_zero_le h0
  have hj : j < xs.length := by omega
  refine ⟨xs[j], List.getElem_mem hj, ?_⟩
  unfold L2.atI L2.ixN
  simp [hj]
theorem some_ok {P : Int → Prop} {m : M} {n k : Nat} {g c : Int} {xs : List Int} (hn : m[n]? = some (cup g c)) (hk : m[k]? = some (.lst (xs.map D.int))) (hne : n ≠ k) (h0 : 0 < xs.length) (h1 : xs.length ≤ 100) (hP : ∀ x ∈ xs, P x) : ∃ v g1 c1, P v ∧ callD F__law_some [.ref n, .ref k] m = some (.ok (.int v) (m.set n (cup g1 c1))) := by
  obtain ⟨b, g1, c1, b0, b1, e⟩ := roll_K hn (many := xs.length) (by omega) (by omega)
  obtain ⟨v, hv, ha⟩ := atI_ok xs b b0 b1
  refine ⟨v, g1, c1, hP v hv, ?_⟩
  have hlen : mB1 (one gLen2) (mCons (mVar 1) mNil) [some (.ref n), some (.ref k)] m = some (.ok (.int xs.length) m) := by
    unfold mB1
    rw [bnd_ok (cons_ok (g := mNil) (ds := []) (m2 := m) (p_var (d := .ref k) rfl) rfl)]
    show gLen2 (.ref k) m = _
    unfold gLen2
    simp only [hk]
    unfold gLen1
    simp [asL, hk, lstO]
  have hk' : (m.set n (cup g1 c1))[k]? = some (.lst (xs.map D.int)) := by rw [List.getElem?_set_ne hne]; exact hk
  have hb : B__law_some [some (.ref n), some (.ref k)] m = some (.ok (.rt (.int v)) (m.set n (cup g1 c1))) := by
    unfold B__law_some sRet
    exact bnd_ok (p_ix (p_var rfl) (callK_okE (cons_ok (p_var rfl) (cons_ok hlen rfl)) e) hk' ha)
  have hf : F__law_some [.ref n, .ref k] m = some (.ok (.int v) (m.set n (cup g1 c1))) := by
    unfold F__law_some
    exact (mDef_eq hb).trans rfl
  unfold callD
  show EV.bnd (F__law_some [.ref n, .ref k] m) (gcr m.length) = _
  rw [bnd_ok hf]
  have := gcr_same v (m.set n (cup g1 c1))
  rw [List.length_set] at this
  exact this
theorem drum_ok (c : Int) : ∃ g s, F__law_drum [.int c, .int 9] [] = some (.ok (.ref 0) [cup g s]) := by
  have e1 : fFdiv c 7 = some (c / 7) := fdiv_pos (by decide) (by decide)
  have e2 : fMul c 97 = some (c * 97) := fmul_r (by decide)
  have e3 : fMod (c * 97 + 9783) 2077504273 = some ((c * 97 + 9783) % 2077504273) := fmod_pos (by decide)
  have e4 : fPow 10 18 = some 1000000000000000000 := by rfl
  have e5 : fMul 61 9 = some 549 := by rfl
  have e6 : fMul 1087 9 = some 9783 := by rfl
  by_cases h : 1000000000000000000 ≤ c
  · refine ⟨c / 7 + 549, (c * 97 + 9783) % 2077504273 + 71, ?_⟩
    unfold F__law_drum mDef B__law_drum sSeq sSet mIf mB mOp
    simp [mVar, mC, EV.bnd, gB, bGe, gI, e1, e2, e3, e4, e5, e6, h, gAdd, sRet, mLst, mCons, mNil, mB1, one, gInt, newL, gif, lim]
  · refine ⟨0, (c * 97 + 9783) % 2077504273 + 71, ?_⟩
    unfold F__law_drum mDef B__law_drum sSeq sSet mIf mB mOp
    simp [mVar, mC, EV.bnd, gB, bGe, gI, e1, e2, e3, e4, e5, e6, h, gAdd, sRet, mLst, mCons, mNil, mB1, one, gInt, newL, gif, lim]
theorem drum_call (c : Int) (m : M) : ∃ g s, callD F__law_drum [.int c, .int 9] m = some (.ok (.ref m.length) (m ++ [cup g s])) := by
  obtain ⟨g, s, h⟩ := drum_ok c
  refine ⟨g, s, ?_⟩
  unfold callD callP
  rw [h]
  rfl
section
variable (M0 X : M) (o p q : O)
theorem set_at : (M0 ++ o :: X).set M0.length p = M0 ++ p :: X := by simp
theorem get_at : (M0 ++ o :: X)[M0.length]? = some o := by simp
theorem get_at1 : (M0 ++ o :: p :: X)[M0.length + 1]? = some p := by
  rw [List.getElem?_append_right (by omega), Nat.add_sub_cancel_left]
  rfl
theorem get_at2 : (M0 ++ o :: p :: q :: X)[M0.length + 2]? = some q := by
  rw [List.getElem?_append_right (by omega), Nat.add_sub_cancel_left]
  rfl
end
/-- a roll among the last things -/
theorem roll_at (M0 X : M) (g c many : Int) (h0 : 0 < many) (h1 : many ≤ 1000000000000) : ∃ b g1 c1, 0 ≤ b ∧ b < many ∧ callK F__law_roll M0.length [.int many] (M0 ++ cup g c :: X) = some (.ok (.int b) (M0 ++ cup g1 c1 :: X)) := by
  obtain ⟨b, g1, c1, h2, h3, h4⟩ := roll_K (get_at M0 X (cup g c)) h0 h1
  rw [set_at] at h4
  exact ⟨b, g1, c1, h2, h3, h4⟩
theorem lst_okE {fa : MA} {env : EV.Env} {m m1 : M} {ds : List D} (h : fa env m = some (.ok ds m1)) (hl : Nat.ble ds.length lim = true) : mLst fa env m = some (.ok (.ref m1.length) (m1 ++ [.lst ds])) := by
  unfold mLst
  rw [bnd_ok h, hl]
  rfl
abbrev wE (xs : List D) (a b c d : Option D) : EV.Env := [some (.lcon xs), a, b, c, d, none]
theorem wb1_ok (xs : List D) (z : Int) (b c d : Option D) (M0 : M) : ∃ g s, wb1 (wE xs (vi z) b c d) M0 = some (.ok (.nx (wE xs (vi z) (vr M0.length) c d)) (M0 ++ [cup g s])) := by
  obtain ⟨g, s, h⟩ := drum_call z M0
  refine ⟨g, s, ?_⟩
  unfold wb1
  exact set_ok (call_okE (cons_ok (p_var rfl) (cons_ok rfl rfl)) h)
theorem roll_in (xs : List D) (z : Int) (c d : Option D) (M0 X : M) (k cc many : Int) (h0 : 0 < many) (h1 : many ≤ 1000000000000) (f : ME) (hf : ∀ m : M, f (wE xs (vi z) (vr M0.length) c d) m = some (.ok (.int many) m)) : ∃ b g1 c1, 0 ≤ b ∧ b < many ∧ mCallK F__law_roll (mCons (mVar 2) (mCons f mNil)) (wE xs (vi z) (vr M0.length) c d) (M0 ++ cup k cc :: X) = some (.ok (.int b) (M0 ++ cup g1 c1 :: X)) := by
  obtain ⟨b, g1, c1, h2, h3, h4⟩ := roll_at M0 X k cc many h0 h1
  exact ⟨b, g1, c1, h2, h3, callK_okE (k := M0.length) (ds := [.int many]) (m1 := M0 ++ cup k cc :: X) (cons_ok (m1 := M0 ++ cup k cc :: X) (p_var rfl) (cons_ok (m1 := M0 ++ cup k cc :: X) (hf _) rfl)) h4⟩
theorem pow_30 (env : EV.Env) (m : M) : mOp (gI fPow) (mC (.int 10)) (mC (.int 30)) env m = some (.ok (.int BIG30) m) := pow_c (i := 10) (j := 30) BIG30 rfl env m
theorem pow_12 (env : EV.Env) (m : M) : mOp (gI fPow) (mC (.int 10)) (mC (.int 12)) env m = some (.ok (.int 1000000000000) m) := pow_c (i := 10) (j := 12) 1000000000000 rfl env m
theorem pow_9 (env : EV.Env) (m : M) : mOp (gI fPow) (mC (.int 10)) (mC (.int 9)) env m = some (.ok (.int 1000000000) m) := pow_c (i := 10) (j := 9) 1000000000 rfl env m
theorem pow_6 (env : EV.Env) (m : M) : mOp (gI fPow) (mC (.int 10)) (mC (.int 6)) env m = some (.ok (.int 1000000) m) := pow_c (i := 10) (j := 6) 1000000 rfl env m
theorem wb2_ok (xs : List D) (z : Int) (c d : Option D) (M0 : M) (g cc : Int) : ∃ v g1 c1 X, (3 ≤ v ∧ v + 4 ≤ BIG30) ∧ wb2 (wE xs (vi z) (vr M0.length) c d) (M0 ++ [cup g cc]) = some (.ok (.nx (wE xs (vi z) (vr M0.length) (vi v) d)) (M0 ++ [cup g1 c1, X])) := by
  obtain ⟨b1, g1, c1, p0, p1, e1⟩ := roll_in xs z c d M0 [] g cc 100 (by decide) (by decide) (mC (.int 100)) (fun _ => rfl)
  obtain ⟨b2, g2, c2, q0, q1, e2⟩ := roll_in xs z c d M0 [] g1 c1 1000000000 (by decide) (by decide) _ (pow_9 _)
  have i1 : mC (.int 3) (wE xs (vi z) (vr M0.length) c d) (M0 ++ [cup g cc]) = some (.ok (.int 3) (M0 ++ [cup g cc])) := rfl
  have i2 : mC (.int 4) (wE xs (vi z) (vr M0.length) c d) (M0 ++ [cup g cc]) = some (.ok (.int 4) (M0 ++ [cup g cc])) := rfl
  have i3 := p_add i1 e1
  have i4 := p_sub (p_sub (pow_30 (wE xs (vi z) (vr M0.length) c d) (M0 ++ [cup g1 c1])) (g := mC (.int 4)) (b := 4) (m2 := M0 ++ [cup g1 c1]) rfl) e2
  have i5 : mNil (wE xs (vi z) (vr M0.length) c d) (M0 ++ [cup g2 c2]) = some (.ok [] (M0 ++ [cup g2 c2])) := rfl
  have il := lst_okE (cons_ok i1 (cons_ok i2 (cons_ok i3 (cons_ok i4 i5)))) rfl
  obtain ⟨v, g3, c3, hv, e3⟩ := some_ok (P := fun v => 3 ≤ v ∧ v + 4 ≤ BIG30) (m := M0 ++ [cup g2 c2] ++ [.lst [.int 3, .int 4, .int (3 + b1), .int (BIG30 - 4 - b2)]]) (n := M0.length) (k := (M0 ++ [cup g2 c2]).length) (xs := [3, 4, 3 + b1, BIG30 - 4 - b2]) (g := g2) (c := c2) (by rw [List.append_assoc]; exact get_at _ _ _) (by simp) (by simp) (by simp) (by simp) (by
    intro x hx
    simp only [List.mem_cons, List.not_mem_nil, or_false] at hx
    unfold BIG30 at *
    rcases hx with rfl | rfl | rfl | rfl <;> omega)
  rw [List.append_assoc, show [cup g2 c2] ++ [O.lst [.int 3, .int 4, .int (3 + b1), .int (BIG30 - 4 - b2)]] = [cup g2 c2, .lst [.int 3, .int 4, .int (3 + b1), .int (BIG30 - 4 - b2)]] from rfl, set_at] at e3
  refine ⟨v, g3, c3, .lst [.int 3, .int 4, .int (3 + b1), .int (BIG30 - 4 - b2)], hv, ?_⟩
  unfold wb2
  rw [List.append_assoc, show [cup g2 c2] ++ [O.lst [.int 3, .int 4, .int (3 + b1), .int (BIG30 - 4 - b2)]] = [cup g2 c2, .lst [.int 3, .int 4, .int (3 + b1), .int (BIG30 - 4 - b2)]] from rfl] at il
  have i0 : mVar 2 (wE xs (vi z) (vr M0.length) c d) (M0 ++ [cup g cc]) = some (.ok (.ref M0.length) (M0 ++ [cup g cc])) := p_var rfl
  have i9 : mNil (wE xs (vi z) (vr M0.length) c d) (M0 ++ [cup g2 c2, .lst [.int 3, .int 4, .int (3 + b1), .int (BIG30 - 4 - b2)]]) = some (.ok [] (M0 ++ [cup g2 c2, .lst [.int 3, .int 4, .int (3 + b1), .int (BIG30 - 4 - b2)]])) := rfl
  have ia := cons_ok i0 (cons_ok il i9)
  exact set_ok (call_okE ia e3)
theorem wb3_ok (xs : List D) (z : Int) (c d : Option D) (M0 : M) (g cc : Int) (Y : O) : ∃ v g1 c1 X, OkM v ∧ wb3 (wE xs (vi z) (vr M0.length) c d) (M0 ++ [cup g cc, Y]) = some (.ok (.nx (wE xs (vi z) (vr M0.length) c (vi v))) (M0 ++ [cup g1 c1, Y, X])) := by
  obtain ⟨b1, g1, c1, p0, p1, e1⟩ := roll_in xs z c d M0 [Y] g cc 1000000000000 (by decide) (by decide) _ (pow_12 _)
  have i1 : mC (.int 1) (wE xs (vi z) (vr M0.length) c d) (M0 ++ [cup g cc, Y]) = some (.ok (.int 1) (M0 ++ [cup g cc, Y])) := rfl
  have i2 : mC (.int 2) (wE xs (vi z) (vr M0.length) c d) (M0 ++ [cup g cc, Y]) = some (.ok (.int 2) (M0 ++ [cup g cc, Y])) := rfl
  have i7 : mC (.int 7) (wE xs (vi z) (vr M0.length) c d) (M0 ++ [cup g cc, Y]) = some (.ok (.int 7) (M0 ++ [cup g cc, Y])) := rfl
  have i3 := p_add i1 e1
  have i4 := pow_12 (wE xs (vi z) (vr M0.length) c d) (M0 ++ [cup g cc, Y])
  have i5 : mNil (wE xs (vi z) (vr M0.length) c d) (M0 ++ [cup g1 c1, Y]) = some (.ok [] (M0 ++ [cup g1 c1, Y])) := rfl
  have il := lst_okE (cons_ok i1 (cons_ok i2 (cons_ok i7 (cons_ok i4 (cons_ok i3 i5))))) rfl
  obtain ⟨v, g3, c3, hv, e3⟩ := some_ok (P := OkM) (m := M0 ++ [cup g1 c1, Y] ++ [.lst [.int 1, .int 2, .int 7, .int 1000000000000, .int (1 + b1)]]) (n := M0.length) (k := (M0 ++ [cup g1 c1, Y]).length) (xs := [1, 2, 7, 1000000000000, 1 + b1]) (g := g1) (c := c1) (by rw [List.append_assoc]; exact get_at _ _ _) (by simp) (by simp) (by simp) (by simp) (by
    intro x hx
    simp only [List.mem_cons, List.not_mem_nil, or_false] at hx
    unfold OkM
    rcases hx with rfl | rfl | rfl | rfl | rfl <;> omega)
  rw [List.append_assoc, show [cup g1 c1, Y] ++ [O.lst [.int 1, .int 2, .int 7, .int 1000000000000, .int (1 + b1)]] = [cup g1 c1, Y, .lst [.int 1, .int 2, .int 7, .int 1000000000000, .int (1 + b1)]] from rfl, set_at] at e3
  refine ⟨v, g3, c3, .lst [.int 1, .int 2, .int 7, .int 1000000000000, .int (1 + b1)], hv, ?_⟩
  unfold wb3
  rw [List.append_assoc, show [cup g1 c1, Y] ++ [O.lst [.int 1, .int 2, .int 7, .int 1000000000000, .int (1 + b1)]] = [cup g1 c1, Y, .lst [.int 1, .int 2, .int 7, .int 1000000000000, .int (1 + b1)]] from rfl] at il
  have i0 : mVar 2 (wE xs (vi z) (vr M0.length) c d) (M0 ++ [cup g cc, Y]) = some (.ok (.ref M0.length) (M0 ++ [cup g cc, Y])) := p_var rfl
  have i9 : mNil (wE xs (vi z) (vr M0.length) c d) (M0 ++ [cup g1 c1, Y, .lst [.int 1, .int 2, .int 7, .int 1000000000000, .int (1 + b1)]]) = some (.ok [] (M0 ++ [cup g1 c1, Y, .lst [.int 1, .int 2, .int 7, .int 1000000000000, .int (1 + b1)]])) := rfl
  have ia := cons_ok i0 (cons_ok il i9)
  exact set_ok (call_okE ia e3)
theorem p_nt {env : EV.Env} {m m1 : M} {f : ME} (h : f env m = some (.ok (.bl true) m1)) : mNot (mTr f) env m = some (.ok false m1) := by
  have e : mTr f env m = some (.ok true m1) := by unfold mTr; rw [h]; rfl
  unfold mNot
  rw [e]
  rfl
theorem wb4_ok (xs : List D) (z : Int) (s : Nat) (m : Int) (hs : Ok4 s) (hm : OkM m) (M0 : M) (g cc : Int) (X Y : O) : ∃ g1 c1, wb4 (wE xs (vi z) (vr M0.length) (vi s) (vi m)) (M0 ++ [cup g cc, X, Y]) = some (.ok (.nx (wE xs (vi z) (vr M0.length) (vi s) (vi m))) (M0 ++ [cup g1 c1, X, Y])) := by
  obtain ⟨tl, e1⟩ := right_drum s m g cc hm hs
  obtain ⟨g2, c2, tl2, e2⟩ := faces_drum s m g cc hm hs
  have f1 : callK F__law_right M0.length [.int s, .int m] (M0 ++ [cup g cc, X, Y]) = some (.ok (.bl true) ((M0 ++ [cup g cc, X, Y]).set M0.length (cup g cc))) := callK_eq (xs := [.int g, .int cc]) (ys := [.int g, .int cc]) (get_at _ _ _) rfl e1 rfl rfl
  have f2 : callK F__law_faces_right M0.length [.int s, .int m] (M0 ++ [cup g cc, X, Y]) = some (.ok (.bl true) ((M0 ++ [cup g cc, X, Y]).set M0.length (cup g2 c2))) := callK_eq (xs := [.int g, .int cc]) (ys := [.int g2, .int c2]) (get_at _ _ _) rfl e2 rfl rfl
  rw [set_at] at f1 f2
  refine ⟨g2, c2, ?_⟩
  unfold wb4
  have ia : (mCons (mVar 2) (mCons (mVar 3) (mCons (mVar 4) mNil))) (wE xs (vi z) (vr M0.length) (vi s) (vi m)) (M0 ++ [cup g cc, X, Y]) = some (.ok [.ref M0.length, .int s, .int m] (M0 ++ [cup g cc, X, Y])) := rfl
  exact p_no (p_or (p_nt (callK_okE ia f1)) (p_nt (callK_okE ia f2)))
theorem turn_ok (xs : List D) (z : Int) (b c d : Option D) (M0 : M) : ∃ b' c' d' A X Y, wB (wE xs (vi z) b c d) M0 = some (.ok (.nx (wE xs (vi z) b' c' d')) (M0 ++ [A, X, Y])) := by
  obtain ⟨g1, c1, e1⟩ := wb1_ok xs z b c d M0
  obtain ⟨v, g2, c2, X, hv, e2⟩ := wb2_ok xs z c d M0 g1 c1
  obtain ⟨w, g3, c3, Y, hw, e3⟩ := wb3_ok xs z (vi v) d M0 g2 c2 X
  obtain ⟨s, rfl⟩ := Int.eq_ofNat_of_zero_le (show 0 ≤ v by omega)
  obtain ⟨g4, c4, e4⟩ := wb4_ok xs z s w (by have := hv.1; exact ⟨by omega, hv.2⟩) hw M0 g3 c3 X Y
  refine ⟨vr M0.length, vi s, vi w, cup g4 c4, X, Y, ?_⟩
  unfold wB
  refine (seq_nx e1).trans ?_
  refine (seq_nx e2).trans ?_
  refine (seq_nx e3).trans ?_
  exact e4
theorem loop_ok (xs : List D) (zs : List Int) : ∀ (rest : List Int) (i : Nat) (M0 : M) (a b c d : Option D), M0[2]? = some (.lst (zs.map D.int)) → zs.drop i = rest → ∃ M1 a' b' c' d', forLoop (nxL 2) (.n 1) wB (rest.length + 1) i (wE xs a b c d) M0 = some (.ok (.nx (wE xs a' b' c' d')) M1)
  | [], i, M0, a, b, c, d, h2, hr => by
    refine ⟨M0, a, b, c, d, for_end ?_⟩
    unfold nxL
    rw [h2]
    have : zs.length ≤ i := List.drop_eq_nil_iff.mp hr
    simp [lstO, this]
  | z :: rest, i, M0, a, b, c, d, h2, hr => by
    obtain ⟨b', c', d', A, X, Y, e⟩ := turn_ok xs z b c d M0
    have hz : zs[i]? = some z := by
      have := congrArg (fun l => l[0]?) hr
      simpa using this
    have hr' : zs.drop (i + 1) = rest := by
      have := congrArg List.tail hr
      simpa using this
    have hl : 2 < M0.length := (List.getElem?_eq_some_iff.mp h2).1
    obtain ⟨M1, a1, b1, c1, d1, e1⟩ := loop_ok xs zs rest (i + 1) (M0 ++ [A, X, Y]) (vi z) b' c' d' (by rw [List.getElem?_append_left hl]; exact h2) hr'
    refine ⟨M1, a1, b1, c1, d1, ?_⟩
    refine (for_step (x := .int z) (env1 := wE xs (vi z) b' c' d') (m1 := M0 ++ [A, X, Y]) ?_ e).trans e1
    unfold nxL
    rw [h2]
    simp [lstO, hz]
end EVP

set_option Elab.async false
set_option linter.all false
set_option maxRecDepth 100000
set_option maxHeartbeats 4000000
namespace EVP
open PySem PySem.Spec PyProof.Rows L2 EV DM
theorem iter_ok (ns : List Int) (hl : ns.length ≤ 63) (a b c d : Option D) : ∃ zs : List Int, wIter (wE (ns.map D.int) a b c d) [] = some (.ok (zs.length + 1, nxL 2) [.lst [.int 0, .int 1], .lst (ns.map D.int ++ [.int 0, .int 1]), .lst (zs.map D.int)]) := by
  have hc : cutD (ns.map D.int ++ [D.int 0, D.int 1]) none (some 4) = ((ns ++ [0, 1]).take 4).map D.int := by
    have e0 : ns.map D.int ++ [D.int 0, D.int 1] = (ns ++ [0, 1]).map D.int := by simp
    rw [e0]
    unfold EV.cutD
    have e := HT.sIx_nat ((ns ++ [0, 1]).map D.int).length ((ns ++ [0, 1]).map D.int).length 4
    rw [show ((4 : Nat) : Int) = 4 from rfl] at e
    rw [e, HT.sIx_none]
    simp [List.map_take]
  refine ⟨(ns ++ [0, 1]).take 4, ?_⟩
  have hlim : Nat.ble ((ns.map D.int).length + [D.int 0, D.int 1].length) lim = true := by
    apply Nat.ble_eq_true_of_le
    rw [List.length_map]
    show ns.length + 2 ≤ 1000000
    omega
  unfold wIter iSeq mSl
  rw [op_okE (x := .lcon (ns.map D.int)) (m1 := []) (y := .ref 0) (m2 := [.lst [.int 0, .int 1]]) (z := .ref 1) (m3 := [.lst [.int 0, .int 1], .lst (ns.map D.int ++ [.int 0, .int 1])]) rfl rfl (by
    show gif (Nat.ble ((ns.map D.int).length + [D.int 0, D.int 1].length) lim) (newL (ns.map D.int ++ [.int 0, .int 1]) [.lst [.int 0, .int 1]]) = _
    rw [hlim]
    rfl)]
  show EV.bnd (gSl (.ref 1) none (some 4) [.lst [.int 0, .int 1], .lst (ns.map D.int ++ [.int 0, .int 1])]) srcD = _
  unfold gSl
  show EV.bnd (newL (cutD (ns.map D.int ++ [.int 0, .int 1]) none (some 4)) _) srcD = _
  rw [hc]
  show some (Rs.ok ((((ns ++ [0, 1]).take 4).map D.int).length + 1, nxL 2) _) = _
  rw [List.length_map]
  rfl
/-! ### what stands by itself -/
theorem cA (t : M) : callD F_drum_rounds [.int BIG30] t = some (.ok (.int (BIG30 + 2)) t) := callD_val (m' := []) rfl rfl (by kernel_rfl)
theorem cB (t : M) : callD F_drum_edge_hues [.int BIG30, .int 7] t = some (.ok (.int 3) t) := callD_val (m' := []) rfl rfl (by kernel_rfl)
theorem cC (t : M) : callD F_drum_trees [.int BIG30, .int 10] t = some (.ok (.int 0) t) := callD_val (m' := []) rfl rfl (by kernel_rfl)
theorem cE3 (t : M) : callD F_drum_edge_hues [.int 3, .int 1000000] t = some (.ok (.int 6) t) := callD_val (m' := []) rfl rfl (by kernel_rfl)
theorem cE4 (t : M) : callD F_drum_edge_hues [.int 4, .int 1000000] t = some (.ok (.int 24) t) := callD_val (m' := []) rfl rfl (by kernel_rfl)
theorem cE5 (t : M) : callD F_drum_edge_hues [.int 5, .int 1000000] t = some (.ok (.int 30) t) := callD_val (m' := []) rfl rfl (by kernel_rfl)
theorem cE6 (t : M) : callD F_drum_edge_hues [.int 6, .int 1000000] t = some (.ok (.int 72) t) := callD_val (m' := []) rfl rfl (by kernel_rfl)
theorem cP3 (t : M) : callD F_drum_pairings [.int 3, .int 1000] t = some (.ok (.int 4) t) := callD_val (m' := []) rfl rfl (by kernel_rfl)
theorem cP4 (t : M) : callD F_drum_pairings [.int 4, .int 1000] t = some (.ok (.int 9) t) := callD_val (m' := []) rfl rfl (by kernel_rfl)
theorem cP5 (t : M) : callD F_drum_pairings [.int 5, .int 1000] t = some (.ok (.int 11) t) := callD_val (m' := []) rfl rfl (by kernel_rfl)
theorem cT3 (t : M) : callD F_drum_trees [.int 3, .int 1000] t = some (.ok (.int 75) t) := callD_val (m' := []) rfl rfl (by kernel_rfl)
theorem cT4 (t : M) : callD F_drum_trees [.int 4, .int 1000] t = some (.ok (.int 384) t) := callD_val (m' := []) rfl rfl (by kernel_rfl)
theorem cF1 (t : M) : callD F_drum_face_hues [.int 4, .int 3, .int 100] t = some (.ok (.int 6) t) := callD_val (m' := []) rfl rfl (by kernel_rfl)
theorem cF2 (t : M) : callD F_drum_face_hues [.int 4, .int 4, .int 1000] t = some (.ok (.int 96) t) := callD_val (m' := []) rfl rfl (by kernel_rfl)
theorem cF3 (t : M) : callD F_drum_face_hues [.int 5, .int 3, .int 10] t = some (.ok (.int 0) t) := callD_val (m' := []) rfl rfl (by kernel_rfl)
section
variable (env : EV.Env) (m : M)
theorem p_neb {f g : ME} {env : EV.Env} {m m1 m2 : M} {a b : Int} (h : f env m = some (.ok (.int a) m1)) (h2 : g env m1 = some (.ok (.int b) m2)) (hv : a = b) : mB (mOp gNe f g) env m = some (.ok false m2) := by
  subst hv
  have := p_b (p_ne h h2)
  simp only [decide_true, Bool.not_true] at this
  exact this
theorem w2_ok : w2 env m = some (.ok (.nx env) m) := by
  unfold w2
  have h1 := p_neb (call_okE (cons_ok (g := mNil) (ds := []) (m2 := m) (pow_30 env m) rfl) (cA m)) (p_add (pow_30 env m) (g := mC (.int 2)) (b := 2) (m2 := m) rfl) rfl
  have h2 := p_neb (call_okE (cons_ok (pow_30 env m) (cons_ok (f := mC (.int 7)) (g := mNil) (ds := []) (m1 := m) (m2 := m) (d := .int 7) rfl rfl)) (cB m)) (g := mC (.int 3)) (m2 := m) (b := 3) rfl rfl
  have h3 := p_neb (call_okE (cons_ok (pow_30 env m) (cons_ok (f := mC (.int 10)) (g := mNil) (ds := []) (m1 := m) (m2 := m) (d := .int 10) rfl rfl)) (cC m)) (g := mC (.int 0)) (m2 := m) (b := 0) rfl rfl
  exact p_no (p_or h1 (p_or h2 h3))
theorem toP_ints (m : M) (k : Nat) (xs : List Int) (h : m[k]? = some (.lst (xs.map D.int))) : toP m fuelP (.ref k) = some (.list (xs.map PyData.int)) := by
  show toP m (11 + 1) (.ref k) = _
  unfold toP
  simp only [h, lstO]
  have e : ∀ ys : List Int, seqO ((ys.map D.int).map (toP m 11)) = some (ys.map PyData.int) := by
    intro ys
    induction ys with
    | nil => rfl
    | cons y ys ih =>
      show seqO (some (PyData.int y) :: (ys.map D.int).map (toP m 11)) = _
      unfold seqO
      rw [ih]
      rfl
  rw [e]
theorem chk_lists {f : ME} {g : MA} {xs : List Int} {s : MS} (env : EV.Env) (m : M) (h : f env m = some (.ok (.ref m.length) (m ++ [.lst (xs.map D.int)]))) (h2 : g env (m ++ [.lst (xs.map D.int)]) = some (.ok (xs.map D.int) (m ++ [.lst (xs.map D.int)]))) (hl : Nat.ble (xs.map D.int).length lim = true) (he : PyData.eqv (.list (xs.map PyData.int)) (.list (xs.map PyData.int)) = true) : ∃ m2, sIf (mB (mOp gNe f (mLst g))) s sNil env m = some (.ok (.nx env) m2) := by
  refine ⟨m ++ [.lst (xs.map D.int)] ++ [.lst (xs.map D.int)], ?_⟩
  refine p_no (p_b (op_okE h (lst_okE h2 hl) ?_))
  unfold gNe
  have t1 := toP_ints (m ++ [.lst (xs.map D.int)] ++ [.lst (xs.map D.int)]) m.length xs (by simp)
  have t2 := toP_ints (m ++ [O.lst (xs.map D.int)] ++ [O.lst (xs.map D.int)]) (m ++ [O.lst (xs.map D.int)]).length xs (by
    rw [List.getElem?_append_right (Nat.le_refl _), Nat.sub_self]
    rfl)
  simp only [t1, t2, he]
  rfl
end
theorem w3_ok (xs : List D) (a b c d : Option D) (m : M) : ∃ m2, w3 (wE xs a b c d) m = some (.ok (.nx (wE xs a b c d)) m2) := by
  unfold w3
  refine chk_lists (xs := [6, 24, 30, 72]) _ m ?_ rfl rfl (by simp [PyData.eqv, PyData.eqvAll])
  exact lc4 (nx := nxT [.int 3, .int 4, .int 5, .int 6]) (x0 := .int 3) (x1 := .int 4) (x2 := .int 5) (x3 := .int 6) rfl rfl rfl rfl rfl rfl (call_okE (cons_ok (p_var rfl) (cons_ok (pow_6 _ _) rfl)) (cE3 m)) (call_okE (cons_ok (p_var rfl) (cons_ok (pow_6 _ _) rfl)) (cE4 m)) (call_okE (cons_ok (p_var rfl) (cons_ok (pow_6 _ _) rfl)) (cE5 m)) (call_okE (cons_ok (p_var rfl) (cons_ok (pow_6 _ _) rfl)) (cE6 m))
theorem w4_ok (xs : List D) (a b c d : Option D) (m : M) : ∃ m2, w4 (wE xs a b c d) m = some (.ok (.nx (wE xs a b c d)) m2) := by
  unfold w4
  refine chk_lists (xs := [4, 9, 11]) _ m ?_ rfl rfl (by simp [PyData.eqv, PyData.eqvAll])
  exact lc3 (nx := nxT [.int 3, .int 4, .int 5]) (x0 := .int 3) (x1 := .int 4) (x2 := .int 5) rfl rfl rfl rfl rfl (call_okE (cons_ok (p_var rfl) (cons_ok rfl rfl)) (cP3 m)) (call_okE (cons_ok (p_var rfl) (cons_ok rfl rfl)) (cP4 m)) (call_okE (cons_ok (p_var rfl) (cons_ok rfl rfl)) (cP5 m))
theorem w5_ok (xs : List D) (a b c d : Option D) (m : M) : ∃ m2, w5 (wE xs a b c d) m = some (.ok (.nx (wE xs a b c d)) m2) := by
  unfold w5
  refine chk_lists (xs := [75, 384]) _ m ?_ rfl rfl (by simp [PyData.eqv, PyData.eqvAll])
  exact lc2 (nx := nxT [.int 3, .int 4]) (x0 := .int 3) (x1 := .int 4) rfl rfl rfl rfl (call_okE (cons_ok (p_var rfl) (cons_ok rfl rfl)) (cT3 m)) (call_okE (cons_ok (p_var rfl) (cons_ok rfl rfl)) (cT4 m))
theorem p_eqt {f g : ME} {env : EV.Env} {m m1 m2 : M} {a b : Int} (h : f env m = some (.ok (.int a) m1)) (h2 : g env m1 = some (.ok (.int b) m2)) (hv : a = b) : mOp gEq f g env m = some (.ok (.bl true) m2) := by
  subst hv
  have := p_eq h h2
  simp only [decide_true] at this
  exact this
theorem p_and {f g : ME} {env : EV.Env} {m m1 : M} (h : f env m = some (.ok (.bl true) m1)) : mAndV f g env m = g env m1 := by
  unfold mAndV
  rw [h]
  rfl
theorem w6_ok (env : EV.Env) (m : M) : w6 env m = some (.ok (.rt (.bl true)) m) := by
  unfold w6 sRet
  have h1 : mOp gEq (mCall F_drum_face_hues (mCons (mC (.int 4)) (mCons (mC (.int 3)) (mCons (mC (.int 100)) mNil)))) (mC (.int 6)) env m = some (.ok (.bl true) m) := p_eqt (call_okE (m1 := m) (cons_ok (m1 := m) rfl (cons_ok (m1 := m) rfl (cons_ok (m1 := m) rfl rfl))) (cF1 m)) rfl rfl
  have h2 : mOp gEq (mCall F_drum_face_hues (mCons (mC (.int 4)) (mCons (mC (.int 4)) (mCons (mC (.int 1000)) mNil)))) (mC (.int 96)) env m = some (.ok (.bl true) m) := p_eqt (call_okE (m1 := m) (cons_ok (m1 := m) rfl (cons_ok (m1 := m) rfl (cons_ok (m1 := m) rfl rfl))) (cF2 m)) rfl rfl
  have h3 : mOp gEq (mCall F_drum_face_hues (mCons (mC (.int 5)) (mCons (mC (.int 3)) (mCons (mC (.int 10)) mNil)))) (mC (.int 0)) env m = some (.ok (.bl true) m) := p_eqt (call_okE (m1 := m) (cons_ok (m1 := m) rfl (cons_ok (m1 := m) rfl (cons_ok (m1 := m) rfl rfl))) (cF3 m)) rfl rfl
  rw [bnd_ok ((p_and h1).trans ((p_and h2).trans h3))]
theorem law_value (ns : List Int) (hl : ns.length ≤ 63) : ∃ m, F_law [.lcon (ns.map D.int)] [] = some (.ok (.bl true) m) := by
  obtain ⟨zs, hi⟩ := iter_ok ns hl none none none none
  obtain ⟨M1, a, b, c, d, hloop⟩ := loop_ok (ns.map D.int) zs zs 0 [.lst [.int 0, .int 1], .lst (ns.map D.int ++ [.int 0, .int 1]), .lst (zs.map D.int)] none none none none rfl rfl
  obtain ⟨M3, h3⟩ := w3_ok (ns.map D.int) a b c d M1
  obtain ⟨M4, h4⟩ := w4_ok (ns.map D.int) a b c d M3
  obtain ⟨M5, h5⟩ := w5_ok (ns.map D.int) a b c d M4
  refine ⟨M5, ?_⟩
  unfold F_law
  refine (mDef_eq (x := some (.ok (.rt (.bl true)) M5)) ?_).trans rfl
  show (sSeq (sFor wIter (.n 1) wB) (sSeq w2 (sSeq w3 (sSeq w4 (sSeq w5 w6))))) (wE (ns.map D.int) none none none none) [] = _
  refine (seq_nx (for_in hi hloop)).trans ?_
  refine (seq_nx (w2_ok _ _)).trans ?_
  refine (seq_nx h3).trans ?_
  refine (seq_nx h4).trans ?_
  refine (seq_nx h5).trans ?_
  exact w6_ok _ _
end EVP

set_option Elab.async false
set_option linter.all false
set_option maxRecDepth 100000
set_option maxHeartbeats 4000000
namespace EVP
open PySem PySem.Spec PyProof.Rows L2 EV
structure DefG (K : PySem.W.Frag) (x : Str) (st : Stmt) where
  f : Addr
  d : FuncData
  F : Fun K x x st f d
  a : PySem.W.nsIn K mainGlobals x = some (some (.ref f))
def def_mk {K : PySem.W.Frag} {h : Heap} (_ : K.In h) {x : Str} {st : Stmt} {f : Addr} {oc : Value} {od an : Option Addr} {sl : Array (Option Value)} {kV dc pm cd ct : Value} (a : PySem.W.nsIn K mainGlobals x = some (some (.ref f))) (l : K.lookup f = some ⟨oc, od, .func (PySem.W.fnOf x x (defArgs st) (defBody st) (defScope st) .none kV dc pm an cd ct), sl⟩) (c : PySem.W.codeIn K cd x = true) (k : PySem.W.keepIn K (.ref f) = true) : DefG K x st := ⟨f, _, fun_mk l c k, a⟩
theorem y_mk {K : PySem.W.Frag} {h : Heap} (_ : K.In h) {x : Str} {v : Value} (e : PySem.W.nsIn K mainGlobals x = some (some v)) : PySem.W.nsIn K mainGlobals x = some (some v) := e
theorem z_mk {K : PySem.W.Frag} {h : Heap} (_ : K.In h) {x : Str} (e : PySem.W.nsIn K mainGlobals x = some none) : PySem.W.nsIn K mainGlobals x = some none := e
theorem co_int {K : PySem.W.Frag} {h : Heap} {mg : Str → Option Value} (X : K.In h) (G : h.Ns mainGlobals mg) {x : Str} {i : Int} {t : Tok} (v : PySem.W.nsIn K mainGlobals x = some (some (.int i t))) : CoAt K mg x (.int i) := co_at (PySem.W.mg_of X G v) cov_int
theorem co_ref {K : PySem.W.Frag} {h : Heap} {mg : Str → Option Value} (X : K.In h) (G : h.Ns mainGlobals mg) {x : Str} {d : D} {p : Addr} (v : PySem.W.nsIn K mainGlobals x = some (some (.ref p))) (c : CoV K d (.ref p)) : CoAt K mg x d := co_at (PySem.W.mg_of X G v) c
theorem top_law {l : PySem.W.OpenLaw} {w : World} {K : PySem.W.Frag} {h : Heap} {mg : Str → Option Value} {fa : Addr} (X : K.In h) (G : h.Ns mainGlobals mg) (hfa : mg "law" = some (.ref fa))
    (D_is_int : DefG K "is_int" s_is_int)
    (D_is_within : DefG K "is_within" s_is_within)
    (D_check_number : DefG K "check_number" s_check_number)
    (D__check_sides : DefG K "_check_sides" s__check_sides)
    (D__check_both : DefG K "_check_both" s__check_both)
    (D_drum_rounds : DefG K "drum_rounds" s_drum_rounds)
    (D__power : DefG K "_power" s__power)
    (D__ring_hues : DefG K "_ring_hues" s__ring_hues)
    (D_drum_edge_hues : DefG K "drum_edge_hues" s_drum_edge_hues)
    (D_drum_face_hues : DefG K "drum_face_hues" s_drum_face_hues)
    (D__product : DefG K "_product" s__product)
    (D__row_item : DefG K "_row_item" s__row_item)
    (D_drum_pairings : DefG K "drum_pairings" s_drum_pairings)
    (D_drum_trees : DefG K "drum_trees" s_drum_trees)
    (D__law_drum : DefG K "_law_drum" s__law_drum)
    (D__law_roll : DefG K "_law_roll" s__law_roll)
    (D__law_some : DefG K "_law_some" s__law_some)
    (D__law_rest : DefG K "_law_rest" s__law_rest)
    (D__law_right : DefG K "_law_right" s__law_right)
    (D__law_faces_right : DefG K "_law_faces_right" s__law_faces_right)
    (D_law : DefG K "law" s_law)
    (z_bool : PySem.W.nsIn K mainGlobals "bool" = some none)
    (z_int : PySem.W.nsIn K mainGlobals "int" = some none)
    (z_isinstance : PySem.W.nsIn K mainGlobals "isinstance" = some none)
    (z_len : PySem.W.nsIn K mainGlobals "len" = some none)
    (z_range : PySem.W.nsIn K mainGlobals "range" = some none)
    (z_tuple : PySem.W.nsIn K mainGlobals "tuple" = some none)
    (C_LEAST_SIDES : CoAt K mg "LEAST_SIDES" c_LEAST_SIDES)
    (C_MOST_NUMBER : CoAt K mg "MOST_NUMBER" c_MOST_NUMBER)
    (C_MOST_SIDES : CoAt K mg "MOST_SIDES" c_MOST_SIDES)
    : ∃ fd : FuncData, (∀ (s : Shared) (u : Value), BindsTo s fd ⟨[u], []⟩ [("_law_script", u)]) ∧ ∀ base : Heap, K.In base → base.Ns mainGlobals mg → FnOk l.prog w K mg base CX0 8 fa fd ["_law_script"] (spF K (fun _ => 0) 1 F_law) := by
  have e := hfa.symm.trans (PySem.W.mg_of X G D_law.a)
  have ef : fa = D_law.f := by injection e with e; injection e
  subst ef
  let T : Top K mg := { f_is_int := D_is_int.f, d_is_int := D_is_int.d, F_is_int := D_is_int.F, g_is_int := PySem.W.mg_of X G D_is_int.a, f_is_within := D_is_within.f, d_is_within := D_is_within.d, F_is_within := D_is_within.F, g_is_within := PySem.W.mg_of X G D_is_within.a, f_check_number := D_check_number.f, d_check_number := D_check_number.d, F_check_number := D_check_number.F, g_check_number := PySem.W.mg_of X G D_check_number.a, f__check_sides := D__check_sides.f, d__check_sides := D__check_sides.d, F__check_sides := D__check_sides.F, g__check_sides := PySem.W.mg_of X G D__check_sides.a, f__check_both := D__check_both.f, d__check_both := D__check_both.d, F__check_both := D__check_both.F, g__check_both := PySem.W.mg_of X G D__check_both.a, f_drum_rounds := D_drum_rounds.f, d_drum_rounds := D_drum_rounds.d, F_drum_rounds := D_drum_rounds.F, g_drum_rounds := PySem.W.mg_of X G D_drum_rounds.a, f__power := D__power.f, d__power := D__power.d, F__power := D__power.F, g__power := PySem.W.mg_of X G D__power.a, f__ring_hues := D__ring_hues.f, d__ring_hues := D__ring_hues.d, F__ring_hues := D__ring_hues.F, g__ring_hues := PySem.W.mg_of X G D__ring_hues.a, f_drum_edge_hues := D_drum_edge_hues.f, d_drum_edge_hues := D_drum_edge_hues.d, F_drum_edge_hues := D_drum_edge_hues.F, g_drum_edge_hues := PySem.W.mg_of X G D_drum_edge_hues.a, f_drum_face_hues := D_drum_face_hues.f, d_drum_face_hues := D_drum_face_hues.d, F_drum_face_hues := D_drum_face_hues.F, g_drum_face_hues := PySem.W.mg_of X G D_drum_face_hues.a, f__product := D__product.f, d__product := D__product.d, F__product := D__product.F, g__product := PySem.W.mg_of X G D__product.a, f__row_item := D__row_item.f, d__row_item := D__row_item.d, F__row_item := D__row_item.F, g__row_item := PySem.W.mg_of X G D__row_item.a, f_drum_pairings := D_drum_pairings.f, d_drum_pairings := D_drum_pairings.d, F_drum_pairings := D_drum_pairings.F, g_drum_pairings := PySem.W.mg_of X G D_drum_pairings.a, f_drum_trees := D_drum_trees.f, d_drum_trees := D_drum_trees.d, F_drum_trees := D_drum_trees.F, g_drum_trees := PySem.W.mg_of X G D_drum_trees.a, f__law_drum := D__law_drum.f, d__law_drum := D__law_drum.d, F__law_drum := D__law_drum.F, g__law_drum := PySem.W.mg_of X G D__law_drum.a, f__law_roll := D__law_roll.f, d__law_roll := D__law_roll.d, F__law_roll := D__law_roll.F, g__law_roll := PySem.W.mg_of X G D__law_roll.a, f__law_some := D__law_some.f, d__law_some := D__law_some.d, F__law_some := D__law_some.F, g__law_some := PySem.W.mg_of X G D__law_some.a, f__law_rest := D__law_rest.f, d__law_rest := D__law_rest.d, F__law_rest := D__law_rest.F, g__law_rest := PySem.W.mg_of X G D__law_rest.a, f__law_right := D__law_right.f, d__law_right := D__law_right.d, F__law_right := D__law_right.F, g__law_right := PySem.W.mg_of X G D__law_right.a, f__law_faces_right := D__law_faces_right.f, d__law_faces_right := D__law_faces_right.d, F__law_faces_right := D__law_faces_right.F, g__law_faces_right := PySem.W.mg_of X G D__law_faces_right.a, f_law := D_law.f, d_law := D_law.d, F_law := D_law.F, g_law := PySem.W.mg_of X G D_law.a, n_bool := PySem.W.mg_none_of X G z_bool, n_int := PySem.W.mg_none_of X G z_int, n_isinstance := PySem.W.mg_none_of X G z_isinstance, n_len := PySem.W.mg_none_of X G z_len, n_range := PySem.W.mg_none_of X G z_range, n_tuple := PySem.W.mg_none_of X G z_tuple, c_LEAST_SIDES := C_LEAST_SIDES, c_MOST_NUMBER := C_MOST_NUMBER, c_MOST_SIDES := C_MOST_SIDES }
  refine ⟨D_law.d, fun s u => ?_, fun base _ _ => ok_law T⟩
  obtain ⟨oc, od, kV, doc, pm, an, cdv, ct, osl, ed, _, _⟩ := D_law.F.ex
  rw [ed]
  exact .of_eq rfl
theorem start_law {K : PySem.W.Frag} {H : Hp} {a : Addr} {ns : List Int} (hl : ns.length ≤ 63) (hO : Only H) (hS : SqL K H a (ns.map V.int)) : spF K (fun _ => 0) 1 F_law [.ref a] H (fun v _ => v = .bl true) fun _ _ _ => False := by
  obtain ⟨m, hm⟩ := law_value ns hl
  refine ⟨rfl, [], [], [.lcon (ns.map D.int)], HRel.nil, rds.cons ?_ rds.nil, ?_⟩
  · unfold rd
    refine ⟨a, ns.map V.int, rfl, ?_, rds.ints ns⟩
    rcases hS with (h | h) | h
    · rcases hO a with e | ⟨o, xs, e⟩
      · rw [e] at h; cases h
      · rw [e] at h; cases h
    · exact .inl ⟨by simp, h⟩
    · exact .inr h
  · rw [hm]
    exact fun ρ' H' e' hm' v rv => rd_bl rv
end EVP
open PySem PySem.W PyProof.Rows
set_option maxHeartbeats 0 in
theorem PySem.Challenge.cw_huesandrounds_k64_whole_drums_of_any_num_holds : PySem.Challenge.rw_huesandrounds_k64_whole_drums_of_any_num.Holds := by
  w_on; o_law; k_head; (case hw => w_witness2)
  k_fill
  refine L2.walk_ofK (l := PySem.Challenge.rw_huesandrounds_k64_whole_drums_of_any_num) (n := 63) (k := 8) (x := "_law_script") (CX := L2.CX0) (sp := fun K => EV.spF K (fun _ => 0) 1 EVP.F_law) rfl (by decide) rfl ⟨rfl, by decide, by decide⟩ (fun w h Y => PySem.W.kIn_of Y) ?F (fun _ _ a ns hl hO hS => EVP.start_law hl hO hS) (fun _ _ _ _ h => h)
  case F =>
    intro w mg fa h KX G hmg
    have D_is_int := EVP.def_mk KX (x := "is_int") (st := EVP.s_is_int) (by k_is) (by k_is) (by k_is) (by k_is)
    have D_is_within := EVP.def_mk KX (x := "is_within") (st := EVP.s_is_within) (by k_is) (by k_is) (by k_is) (by k_is)
    have D_check_number := EVP.def_mk KX (x := "check_number") (st := EVP.s_check_number) (by k_is) (by k_is) (by k_is) (by k_is)
    have D__check_sides := EVP.def_mk KX (x := "_check_sides") (st := EVP.s__check_sides) (by k_is) (by k_is) (by k_is) (by k_is)
    have D__check_both := EVP.def_mk KX (x := "_check_both") (st := EVP.s__check_both) (by k_is) (by k_is) (by k_is) (by k_is)
    have D_drum_rounds := EVP.def_mk KX (x := "drum_rounds") (st := EVP.s_drum_rounds) (by k_is) (by k_is) (by k_is) (by k_is)
    have D__power := EVP.def_mk KX (x := "_power") (st := EVP.s__power) (by k_is) (by k_is) (by k_is) (by k_is)
    have D__ring_hues := EVP.def_mk KX (x := "_ring_hues") (st := EVP.s__ring_hues) (by k_is) (by k_is) (by k_is) (by k_is)
    have D_drum_edge_hues := EVP.def_mk KX (x := "drum_edge_hues") (st := EVP.s_drum_edge_hues) (by k_is) (by k_is) (by k_is) (by k_is)
    have D_drum_face_hues := EVP.def_mk KX (x := "drum_face_hues") (st := EVP.s_drum_face_hues) (by k_is) (by k_is) (by k_is) (by k_is)
    have D__product := EVP.def_mk KX (x := "_product") (st := EVP.s__product) (by k_is) (by k_is) (by k_is) (by k_is)
    have D__row_item := EVP.def_mk KX (x := "_row_item") (st := EVP.s__row_item) (by k_is) (by k_is) (by k_is) (by k_is)
    have D_drum_pairings := EVP.def_mk KX (x := "drum_pairings") (st := EVP.s_drum_pairings) (by k_is) (by k_is) (by k_is) (by k_is)
    have D_drum_trees := EVP.def_mk KX (x := "drum_trees") (st := EVP.s_drum_trees) (by k_is) (by k_is) (by k_is) (by k_is)
    have D__law_drum := EVP.def_mk KX (x := "_law_drum") (st := EVP.s__law_drum) (by k_is) (by k_is) (by k_is) (by k_is)
    have D__law_roll := EVP.def_mk KX (x := "_law_roll") (st := EVP.s__law_roll) (by k_is) (by k_is) (by k_is) (by k_is)
    have D__law_some := EVP.def_mk KX (x := "_law_some") (st := EVP.s__law_some) (by k_is) (by k_is) (by k_is) (by k_is)
    have D__law_rest := EVP.def_mk KX (x := "_law_rest") (st := EVP.s__law_rest) (by k_is) (by k_is) (by k_is) (by k_is)
    have D__law_right := EVP.def_mk KX (x := "_law_right") (st := EVP.s__law_right) (by k_is) (by k_is) (by k_is) (by k_is)
    have D__law_faces_right := EVP.def_mk KX (x := "_law_faces_right") (st := EVP.s__law_faces_right) (by k_is) (by k_is) (by k_is) (by k_is)
    have D_law := EVP.def_mk KX (x := "law") (st := EVP.s_law) (by k_is) (by k_is) (by k_is) (by k_is)
    have z_bool := EVP.z_mk KX (x := "bool") (by k_is)
    have z_int := EVP.z_mk KX (x := "int") (by k_is)
    have z_isinstance := EVP.z_mk KX (x := "isinstance") (by k_is)
    have z_len := EVP.z_mk KX (x := "len") (by k_is)
    have z_range := EVP.z_mk KX (x := "range") (by k_is)
    have z_tuple := EVP.z_mk KX (x := "tuple") (by k_is)
    have C_LEAST_SIDES := EVP.co_int KX G (x := "LEAST_SIDES") (i := 3) (by k_is)
    have C_MOST_NUMBER := EVP.co_int KX G (x := "MOST_NUMBER") (i := 1000000000000) (by k_is)
    have C_MOST_SIDES := EVP.co_int KX G (x := "MOST_SIDES") (i := 1000000000000000000000000000000) (by k_is)
    exact EVP.top_law KX G hmg D_is_int D_is_within D_check_number D__check_sides D__check_both D_drum_rounds D__power D__ring_hues D_drum_edge_hues D_drum_face_hues D__product D__row_item D_drum_pairings D_drum_trees D__law_drum D__law_roll D__law_some D__law_rest D__law_right D__law_faces_right D_law z_bool z_int z_isinstance z_len z_range z_tuple C_LEAST_SIDES C_MOST_NUMBER C_MOST_SIDES
