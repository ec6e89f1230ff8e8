import PyProof.Rows.All
import Wide.All
import OpenK.AllK
import Wide.FinOn
import HandS.ForMost
import HandS.Evl
import HandS.Wide
import HandS.Gcd
import HandS.IsInst
import HandS.Conv
import HandS.TupAny
import PyProof.Rows.EqDataRows
import PyProof.ReprRoads
import HandS.Walk
import HandS.RevRange
import HandS.Zip
import HandS.NoneIn
import HandS.TupLe
import PyProof.FactsAll.list
import HandS.Style
import HandS.Star
import HandS.Deep
import HandS.Rev
import HandS.Codes
import PyProof.P3Eq
import PyProof.ReprBulk
import PyProof.ZipIter
import HandS.Iter
import HandS.Defaults
import HandS.WideBits
import HandS.List
import HandS.AnyAll
import PySem.Challenge.RW_wheretrue_k04_division_with_rest
set_option Elab.async false
set_option linter.all false
set_option maxRecDepth 100000
set_option maxHeartbeats 4000000
/-! A small machine over plain data, and that the program's own run follows it. -/
namespace Ip
open PySem L2
open Evl (Ex sz_of fresh_back)

/-! ### what a value stands for -/
mutual
def Rep (K : PySem.W.Frag) (H : Hp) : PyData → V → Prop
  | .none, v => v = .non
  | .bool b, v => v = .bl b
  | .int i, v => v = .int i
  | .str s, v => v = .str s
  | .list xs, v => ∃ a vs, v = .ref a ∧ SqL K H a vs ∧ RepL K H xs vs
  | .tuple xs, v => ∃ a vs, v = .ref a ∧ SqT K H a vs ∧ RepL K H xs vs
  | .dict kvs, v => ∃ a C dx fs c v0, v = .ref a ∧ H a = some (.ins C dx fs) ∧ PySem.W.nsIn K mainGlobals c = some (some (.ref C)) ∧ RepF K H kvs ((c, v0) :: fs)
def RepL (K : PySem.W.Frag) (H : Hp) : List PyData → List V → Prop
  | [], vs => vs = []
  | x :: xs, vs => ∃ v r, vs = v :: r ∧ Rep K H x v ∧ RepL K H xs r
/-- the fields of an instance, its class ahead of them -/
def RepF (K : PySem.W.Frag) (H : Hp) : List (PyData × PyData) → List (Str × V) → Prop
  | [], fs => fs = []
  | p :: r, fs => ∃ v fs', fs = v :: fs' ∧ RepP K H p v ∧ RepF K H r fs'
def RepP (K : PySem.W.Frag) (H : Hp) : PyData × PyData → Str × V → Prop
  | (k, d), v => k = .str v.1 ∧ Rep K H d v.2
end

variable {K : PySem.W.Frag} {H H' Hs Hs' : Hp}
mutual
theorem Rep.mono (e : Ex H H') : ∀ (d : PyData) (v : V), Rep K H d v → Rep K H' d v
  | .none, _, h => h
  | .bool _, _, h => h
  | .int _, _, h => h
  | .str _, _, h => h
  | .list xs, v, h => by
    obtain ⟨a, vs, e1, h1, h2⟩ := h
    exact ⟨a, vs, e1, Evl.ex_l e h1, RepL.mono e xs vs h2⟩
  | .tuple xs, v, h => by
    obtain ⟨a, vs, e1, h1, h2⟩ := h
    exact ⟨a, vs, e1, Evl.ex_t e h1, RepL.mono e xs vs h2⟩
  | .dict kvs, v, h => by
    obtain ⟨a, C, dx, fs, c, v0, e1, h1, h2, h3⟩ := h
    exact ⟨a, C, dx, fs, c, v0, e1, e a _ h1, h2, RepF.mono e kvs _ h3⟩
theorem RepL.mono (e : Ex H H') : ∀ (ds : List PyData) (vs : List V), RepL K H ds vs → RepL K H' ds vs
  | [], _, h => h
  | d :: ds, vs, h => by
    obtain ⟨v, r, e1, h1, h2⟩ := h
    exact ⟨v, r, e1, Rep.mono e d v h1, RepL.mono e ds r h2⟩
theorem RepF.mono (e : Ex H H') : ∀ (kvs : List (PyData × PyData)) (fs : List (Str × V)), RepF K H kvs fs → RepF K H' kvs fs
  | [], _, h => h
  | p :: r, fs, h => by
    obtain ⟨v, fs', e1, h1, h2⟩ := h
    exact ⟨v, fs', e1, RepP.mono e p v h1, RepF.mono e r fs' h2⟩
theorem RepP.mono (e : Ex H H') : ∀ (p : PyData × PyData) (v : Str × V), RepP K H p v → RepP K H' p v
  | (k, d), v, h => ⟨h.1, Rep.mono e d v.2 h.2⟩
end
theorem RepL.length : ∀ {ds : List PyData} {vs : List V}, RepL K H ds vs → ds.length = vs.length
  | [], vs, h => by cases (show vs = [] from h); rfl
  | d :: ds, vs, h => by
    obtain ⟨v, r, rfl, _, h2⟩ := h
    rw [List.length_cons, List.length_cons, RepL.length h2]
theorem RepL.get : ∀ {ds : List PyData} {vs : List V} {i : Nat} {d : PyData}, RepL K H ds vs → ds[i]? = some d → ∃ v, vs[i]? = some v ∧ Rep K H d v
  | [], vs, i, d, h, e => by simp at e
  | d0 :: ds, vs, 0, d, h, e => by
    obtain ⟨v, r, rfl, h1, _⟩ := h
    simp at e
    subst e
    exact ⟨v, rfl, h1⟩
  | d0 :: ds, vs, i + 1, d, h, e => by
    obtain ⟨v, r, rfl, _, h2⟩ := h
    simp at e
    obtain ⟨w, e1, e2⟩ := RepL.get h2 e
    exact ⟨w, by simpa using e1, e2⟩
theorem RepL.app : ∀ {ds es : List PyData} {vs ws : List V}, RepL K H ds vs → RepL K H es ws → RepL K H (ds ++ es) (vs ++ ws)
  | [], es, vs, ws, h, g => by cases (show vs = [] from h); exact g
  | d :: ds, es, vs, ws, h, g => by
    obtain ⟨v, r, rfl, h1, h2⟩ := h
    exact ⟨v, r ++ ws, rfl, h1, RepL.app h2 g⟩
theorem RepL.take : ∀ (n : Nat) {ds : List PyData} {vs : List V}, RepL K H ds vs → RepL K H (ds.take n) (vs.take n)
  | 0, _, _, _ => rfl
  | n + 1, [], vs, h => by cases (show vs = [] from h); rfl
  | n + 1, d :: ds, vs, h => by
    obtain ⟨v, r, rfl, h1, h2⟩ := h
    exact ⟨v, r.take n, rfl, h1, RepL.take n h2⟩
theorem RepL.drop : ∀ (n : Nat) {ds : List PyData} {vs : List V}, RepL K H ds vs → RepL K H (ds.drop n) (vs.drop n)
  | 0, _, _, h => h
  | n + 1, [], vs, h => by cases (show vs = [] from h); rfl
  | n + 1, d :: ds, vs, h => by
    obtain ⟨v, r, rfl, h1, h2⟩ := h
    exact RepL.drop n h2
theorem RepL.set {d : PyData} {v : V} (hv : Rep K H d v) : ∀ (i : Nat) {ds : List PyData} {vs : List V}, RepL K H ds vs → RepL K H (ds.set i d) (vs.set i v)
  | _, [], vs, h => by cases (show vs = [] from h); exact (show RepL K H [] [] from rfl)
  | 0, d0 :: ds, vs, h => by
    obtain ⟨w, r, rfl, h1, h2⟩ := h
    exact ⟨v, r, rfl, hv, h2⟩
  | i + 1, d0 :: ds, vs, h => by
    obtain ⟨w, r, rfl, h1, h2⟩ := h
    exact ⟨w, r.set i v, rfl, h1, RepL.set hv i h2⟩
theorem RepL.ints : ∀ (ns : List Int), RepL K H (ns.map .int) (ns.map V.int)
  | [] => rfl
  | n :: ns => ⟨.int n, ns.map V.int, rfl, rfl, RepL.ints ns⟩
theorem RepL.reverse : ∀ {ds : List PyData} {vs : List V}, RepL K H ds vs → RepL K H ds.reverse vs.reverse
  | [], vs, h => by cases (show vs = [] from h); rfl
  | d :: ds, vs, h => by
    obtain ⟨v, r, rfl, h1, h2⟩ := h
    rw [List.reverse_cons, List.reverse_cons]
    exact RepL.app (RepL.reverse h2) ⟨v, [], rfl, h1, rfl⟩

/-! ### slots and their states -/
inductive Slot where
  | un
  | val (d : PyData)
  | own (xs : List PyData)
  | io (xs : List PyData)
abbrev MEnv := List Slot
def Slot.mut : Slot → Option (List PyData)
  | .own xs => some xs
  | .io xs => some xs
  | _ => none
/-- a is the list of a slot that may change | that is the def's own -/
def MutAt (σ : L2.St) (env : MEnv) (a : Addr) : Prop := ∃ (i : Nat) (s : Slot) (xs : List PyData), env[i]? = some s ∧ s.mut = some xs ∧ σ[i]? = some (some (.ref a))
def LocAt (σ : L2.St) (env : MEnv) (a : Addr) : Prop := ∃ (i : Nat) (xs : List PyData), env[i]? = some (.own xs) ∧ σ[i]? = some (some (.ref a))
structure InvS (K : PySem.W.Frag) (Hs H : Hp) (σ : L2.St) (env : MEnv) : Prop where
  len : σ.length = env.length
  sh : Ex Hs H
  vals : ∀ (i : Nat) (d : PyData), env[i]? = some (.val d) → ∃ v, σ[i]? = some (some v) ∧ Rep K Hs d v
  muts : ∀ (i : Nat) (s : Slot) (xs : List PyData), env[i]? = some s → s.mut = some xs → ∃ p vs, σ[i]? = some (some (.ref p)) ∧ Hs p = none ∧ H p = some (.lst vs) ∧ RepL K Hs xs vs
  diff : ∀ (i j : Nat) (s t : Slot) (xs ys : List PyData) (p : Addr), env[i]? = some s → s.mut = some xs → env[j]? = some t → t.mut = some ys → σ[i]? = some (some (.ref p)) → σ[j]? = some (some (.ref p)) → i = j
structure Go (σ : L2.St) (env : MEnv) (Hs H : Hp) (σ' : L2.St) (env' : MEnv) (Hs' H' : Hp) : Prop where
  sh : Ex Hs Hs'
  kp : ∀ a o, H a = some o → ¬ MutAt σ env a → H' a = some o
  dm : ∀ a o, H a = some o → ∃ u, H' a = some u
  nw : ∀ a o, Hs' a = some o → Hs a = some o ∨ H a = none ∨ LocAt σ env a
  ow : ∀ a, MutAt σ' env' a → MutAt σ env a ∨ H a = none
  lo : ∀ a, LocAt σ' env' a → LocAt σ env a ∨ H a = none
  io : ∀ (i : Nat) (xs : List PyData), env[i]? = some (.io xs) → σ'[i]? = σ[i]? ∧ ∃ ys, env'[i]? = some (.io ys)
variable {σ σ' σ1 σ2 : L2.St} {env env' env1 env2 : MEnv} {H1 H2 Hs1 Hs2 : Hp}
theorem Go.refl : Go σ env Hs H σ env Hs H := ⟨Ex.refl _, fun _ _ h _ => h, fun _ o h => ⟨o, h⟩, fun _ _ h => .inl h, fun _ h => .inl h, fun _ h => .inl h, fun _ xs h => ⟨rfl, xs, h⟩⟩
theorem Go.none_back (g : Go σ env Hs H σ1 env1 Hs1 H1) {a : Addr} (h : H1 a = none) : H a = none := by
  cases q : H a with
  | none => rfl
  | some o =>
    obtain ⟨u, e⟩ := g.dm a o q
    rw [e] at h
    cases h
theorem Go.trans (g : Go σ env Hs H σ1 env1 Hs1 H1) (g' : Go σ1 env1 Hs1 H1 σ2 env2 Hs2 H2) : Go σ env Hs H σ2 env2 Hs2 H2 where
  sh := g.sh.trans g'.sh
  kp := fun a o h n => g'.kp a o (g.kp a o h n) fun m => by
    rcases g.ow a m with q | q
    · exact n q
    · rw [q] at h; cases h
  dm := fun a o h => by
    obtain ⟨u, e⟩ := g.dm a o h
    exact g'.dm a u e
  nw := fun a o h => by
    rcases g'.nw a o h with q | q | q
    · exact g.nw a o q
    · exact .inr (.inl (g.none_back q))
    · rcases g.lo a q with r | r
      · exact .inr (.inr r)
      · exact .inr (.inl r)
  ow := fun a h => by
    rcases g'.ow a h with q | q
    · exact g.ow a q
    · exact .inr (g.none_back q)
  lo := fun a h => by
    rcases g'.lo a h with q | q
    · exact g.lo a q
    · exact .inr (g.none_back q)
  io := fun i xs h => by
    obtain ⟨e1, ys, h1⟩ := g.io i xs h
    obtain ⟨e2, zs, h2⟩ := g'.io i ys h1
    exact ⟨e2.trans e1, zs, h2⟩
/-- in an expression: the slots' objects are none but those of before -/
structure GoE (σ : L2.St) (env : MEnv) (Hs H : Hp) (env' : MEnv) (Hs' H' : Hp) : Prop where
  sh : Ex Hs Hs'
  kp : ∀ a o, H a = some o → ¬ MutAt σ env a → H' a = some o
  dm : ∀ a o, H a = some o → ∃ u, H' a = some u
  nw : ∀ a o, Hs' a = some o → Hs a = some o ∨ H a = none ∨ LocAt σ env a
  ow : ∀ a, MutAt σ env' a → MutAt σ env a
  lo : ∀ a, LocAt σ env' a → LocAt σ env a
  io : ∀ (i : Nat) (xs : List PyData), env[i]? = some (.io xs) → ∃ ys, env'[i]? = some (.io ys)
theorem GoE.go (g : GoE σ env Hs H env' Hs' H') : Go σ env Hs H σ env' Hs' H' := ⟨g.sh, g.kp, g.dm, g.nw, fun a h => .inl (g.ow a h), fun a h => .inl (g.lo a h), fun i xs h => ⟨rfl, g.io i xs h⟩⟩
theorem GoE.refl : GoE σ env Hs H env Hs H := ⟨Ex.refl _, fun _ _ h _ => h, fun _ o h => ⟨o, h⟩, fun _ _ h => .inl h, fun _ h => h, fun _ h => h, fun _ xs h => ⟨xs, h⟩⟩
theorem GoE.none_back (g : GoE σ env Hs H env1 Hs1 H1) {a : Addr} (h : H1 a = none) : H a = none := g.go.none_back h
theorem GoE.trans (g : GoE σ env Hs H env1 Hs1 H1) (g' : GoE σ env1 Hs1 H1 env2 Hs2 H2) : GoE σ env Hs H env2 Hs2 H2 where
  sh := g.sh.trans g'.sh
  kp := fun a o h n => g'.kp a o (g.kp a o h n) fun m => n (g.ow a m)
  dm := (g.go.trans g'.go).dm
  nw := (g.go.trans g'.go).nw
  ow := fun a h => g.ow a (g'.ow a h)
  lo := fun a h => g.lo a (g'.lo a h)
  io := fun i xs h => by
    obtain ⟨ys, h1⟩ := g.io i xs h
    exact g'.io i ys h1
theorem InvS.mutAt_some (I : InvS K Hs H σ env) {a : Addr} (m : MutAt σ env a) : Hs a = none ∧ ∃ vs, H a = some (.lst vs) := by
  obtain ⟨i, s, xs, e1, e2, e3⟩ := m
  obtain ⟨p, vs, h1, h2, h3, _⟩ := I.muts i s xs e1 e2
  rw [h1] at e3
  cases e3
  exact ⟨h2, vs, h3⟩
theorem LocAt.mut {a : Addr} (h : LocAt σ env a) : MutAt σ env a := by
  obtain ⟨i, xs, e1, e2⟩ := h
  exact ⟨i, _, xs, e1, rfl, e2⟩
theorem ne_new {a b : Addr} {o : HO} (h : H a = some o) (n : H b = none) : a ≠ b := ne_of_none h n

/-- a new object that is shared from now on -/
theorem InvS.share (I : InvS K Hs H σ env) {p : Addr} (hp : H p = none) (o : HO) : InvS K (upd Hs p o) (upd H p o) σ env where
  len := I.len
  sh := fun a u h => by
    by_cases e : a = p
    · subst e
      rw [upd_same] at h ⊢
      exact h
    · rw [upd_ne e] at h ⊢
      exact I.sh a u h
  vals := fun i d h => by
    obtain ⟨v, h1, h2⟩ := I.vals i d h
    exact ⟨v, h1, Rep.mono (Ex.new (fresh_back I.sh hp)) d v h2⟩
  muts := fun i s xs h hm => by
    obtain ⟨q, vs, h1, h2, h3, h4⟩ := I.muts i s xs h hm
    have ne := ne_new h3 hp
    exact ⟨q, vs, h1, by rw [upd_ne ne]; exact h2, by rw [upd_ne ne]; exact h3, RepL.mono (Ex.new (fresh_back I.sh hp)) xs vs h4⟩
  diff := I.diff
theorem GoE.share (I : InvS K Hs H σ env) {p : Addr} (hp : H p = none) (o : HO) : GoE σ env Hs H env (upd Hs p o) (upd H p o) where
  sh := Ex.new (fresh_back I.sh hp)
  kp := fun a u h _ => by rw [upd_ne (ne_new h hp)]; exact h
  dm := fun a u h => ⟨u, by rw [upd_ne (ne_new h hp)]; exact h⟩
  nw := fun a u h => by
    by_cases e : a = p
    · exact .inr (.inl (e ▸ hp))
    · rw [upd_ne e] at h
      exact .inl h
  ow := fun _ h => h
  lo := fun _ h => h
  io := fun _ xs h => ⟨xs, h⟩
/-- a new object that nobody shares -/
theorem InvS.lay (I : InvS K Hs H σ env) {p : Addr} (hp : H p = none) (o : HO) : InvS K Hs (upd H p o) σ env where
  len := I.len
  sh := fun a u h => by rw [upd_ne (ne_new (I.sh a u h) hp)]; exact I.sh a u h
  vals := I.vals
  muts := fun i s xs h hm => by
    obtain ⟨q, vs, h1, h2, h3, h4⟩ := I.muts i s xs h hm
    exact ⟨q, vs, h1, h2, by rw [upd_ne (ne_new h3 hp)]; exact h3, h4⟩
  diff := I.diff
theorem GoE.lay {p : Addr} (hp : H p = none) (o : HO) : GoE σ env Hs H env Hs (upd H p o) where
  sh := Ex.refl _
  kp := fun a u h _ => by rw [upd_ne (ne_new h hp)]; exact h
  dm := fun a u h => ⟨u, by rw [upd_ne (ne_new h hp)]; exact h⟩
  nw := fun a u h => .inl h
  ow := fun _ h => h
  lo := fun _ h => h
  io := fun _ xs h => ⟨xs, h⟩
/-- an object that no slot holds is shared from now on -/
theorem InvS.shareOld (I : InvS K Hs H σ env) {p : Addr} {o : HO} (hp : H p = some o) (hn : Hs p = none) (hm : ¬ MutAt σ env p) : InvS K (upd Hs p o) H σ env where
  len := I.len
  sh := fun a u h => by
    by_cases e : a = p
    · subst e
      rw [upd_same] at h
      cases h
      exact hp
    · rw [upd_ne e] at h
      exact I.sh a u h
  vals := fun i d h => by
    obtain ⟨v, h1, h2⟩ := I.vals i d h
    exact ⟨v, h1, Rep.mono (Ex.new hn) d v h2⟩
  muts := fun i s xs h hmm => by
    obtain ⟨q, vs, h1, h2, h3, h4⟩ := I.muts i s xs h hmm
    have ne : q ≠ p := fun e => hm (e ▸ ⟨i, s, xs, h, hmm, h1⟩)
    exact ⟨q, vs, h1, by rw [upd_ne ne]; exact h2, h3, RepL.mono (Ex.new hn) xs vs h4⟩
  diff := I.diff

/-! ### what comes of an expression -/
def RepR (K : PySem.W.Frag) (H Hs' H' : Hp) : Slot → V → Prop
  | .val d, v => Rep K Hs' d v
  | .own xs, v => ∃ p vs, v = .ref p ∧ H p = none ∧ Hs' p = none ∧ H' p = some (.lst vs) ∧ RepL K Hs' xs vs
  | _, _ => False
/-- the list itself is to be read in H, what stands in it is shared -/
def Top (K : PySem.W.Frag) (Hs H : Hp) : PyData → V → Prop
  | .list xs, v => ∃ a vs, v = .ref a ∧ SqL K H a vs ∧ RepL K Hs xs vs
  | d, v => Rep K Hs d v
theorem Top.of (e : Ex Hs H) : ∀ {d : PyData} {v : V}, Rep K Hs d v → Top K Hs H d v
  | .none, _, h => h
  | .bool _, _, h => h
  | .int _, _, h => h
  | .str _, _, h => h
  | .list xs, v, h => by
    obtain ⟨a, vs, e1, h1, h2⟩ := h
    exact ⟨a, vs, e1, Evl.ex_l e h1, h2⟩
  | .tuple _, _, h => h
  | .dict _, _, h => h
theorem Top.rep (e : Ex Hs H) : ∀ {d : PyData} {v : V}, Top K Hs H d v → Rep K H d v
  | .none, _, h => h
  | .bool _, _, h => h
  | .int _, _, h => h
  | .str _, _, h => h
  | .list xs, v, h => by
    obtain ⟨a, vs, e1, h1, h2⟩ := h
    exact ⟨a, vs, e1, h1, RepL.mono e xs vs h2⟩
  | .tuple xs, v, h => Rep.mono e (.tuple xs) v h
  | .dict kvs, v, h => Rep.mono e (.dict kvs) v h

/-- the weakest reading -/
def W (X : Cx) (e : Expr) : TE := fun σ H Q => ∀ pins s, Inv X pins σ H s → wpAny (model X.prog X.w) X.A (eval e X.env) (EP X pins σ Q) X.xe s
theorem W.pe (X : Cx) (e : Expr) : PE X e (W X e) := ⟨fun pins s σ H Q I h => h pins s I⟩
theorem W.of {X : Cx} {e : Expr} {t : TE} (h : PE X e t) {σ : St} {H : Hp} {Q : VK} (ht : t σ H Q) : W X e σ H Q := fun pins s I => h.run pins s σ H Q I ht
def WT (X : Cx) (e : Expr) : TT := fun σ H Q => ∀ pins s, Inv X pins σ H s → wpAny (model X.prog X.w) X.A (isTrue e X.env (eval e X.env)) (TP X pins σ Q) X.xe s
theorem WT.pt (X : Cx) (e : Expr) : PT X e (WT X e) := ⟨fun pins s σ H Q I h => h pins s I⟩
theorem WT.of {X : Cx} {e : Expr} {t : TT} (h : PT X e t) {σ : St} {H : Hp} {Q : Bool → Hp → Prop} (ht : t σ H Q) : WT X e σ H Q := fun pins s I => h.run pins s σ H Q I ht
def WA (X : Cx) (es : List Expr) : TA := fun σ H Q => ∀ pos pins s, Inv X pins σ H s → wpAny (model X.prog X.w) X.A (spliced (backTo pos (starEach es X.env))) (AP X pins σ Q) X.xe s
theorem WA.pa (X : Cx) (es : List Expr) : PA X es (WA X es) := ⟨fun pos pins s σ H Q I h => h pos pins s I⟩
theorem WA.of {X : Cx} {es : List Expr} {t : TA} (h : PA X es t) {σ : St} {H : Hp} {Q : List V → Hp → Prop} (ht : t σ H Q) : WA X es σ H Q := fun pos pins s I => h.run pos pins s σ H Q I ht
def WS (X : Cx) (st : Stmt) : TS := fun D σ H => ∀ pins s, Inv X pins σ H s → wpAny (model X.prog X.w) X.A (exec st X.env) (SP X pins D) X.xe s
theorem WS.ps (X : Cx) (st : Stmt) : PS X st (WS X st) := ⟨fun pins s σ H D I h => h pins s I⟩
theorem WS.of {X : Cx} {st : Stmt} {t : TS} (h : PS X st t) {D : Ends} {σ : St} {H : Hp} (ht : t D σ H) : WS X st D σ H := fun pins s I => h.run pins s σ H D I ht
def WSs (X : Cx) (sts : List Stmt) : TS := fun D σ H => ∀ pins s, Inv X pins σ H s → wpAny (model X.prog X.w) X.A (execs sts X.env) (SP X pins D) X.xe s
theorem WSs.ps (X : Cx) (sts : List Stmt) : PSs X sts (WSs X sts) := ⟨fun pins s σ H D I h => h pins s I⟩
theorem WSs.of {X : Cx} {sts : List Stmt} {t : TS} (h : PSs X sts t) {D : Ends} {σ : St} {H : Hp} (ht : t D σ H) : WSs X sts D σ H := fun pins s I => h.run pins s σ H D I ht

abbrev EvF := MEnv → Option (Slot × MEnv)
/-- a fresh answer | plain data | data to be looked at on the spot | a list of plain data -/
structure SE (X : Cx) (e : Expr) (f : MEnv → Option (Slot × MEnv)) : Prop where
  run : ∀ (env : MEnv) (σ : L2.St) (Hs H : Hp) (r : Slot) (env' : MEnv), f env = some (r, env') → InvS X.K Hs H σ env → ∀ Q : VK, (∀ v Hs' H', GoE σ env Hs H env' Hs' H' → InvS X.K Hs' H' σ env' → RepR X.K H Hs' H' r v → Q v H') → W X e σ H Q
instance {X : Cx} {e : Expr} {f : MEnv → Option (Slot × MEnv)} : CoeFun (SE X e f) (fun _ => ∀ (env : MEnv) (σ : L2.St) (Hs H : Hp) (r : Slot) (env' : MEnv), f env = some (r, env') → InvS X.K Hs H σ env → ∀ Q : VK, (∀ v Hs' H', GoE σ env Hs H env' Hs' H' → InvS X.K Hs' H' σ env' → RepR X.K H Hs' H' r v → Q v H') → W X e σ H Q) := ⟨SE.run⟩
structure SV (X : Cx) (e : Expr) (f : MEnv → Option (PyData × MEnv)) : Prop where
  run : ∀ (env : MEnv) (σ : L2.St) (Hs H : Hp) (d : PyData) (env' : MEnv), f env = some (d, env') → InvS X.K Hs H σ env → ∀ Q : VK, (∀ v Hs' H', GoE σ env Hs H env' Hs' H' → InvS X.K Hs' H' σ env' → Rep X.K Hs' d v → Q v H') → W X e σ H Q
instance {X : Cx} {e : Expr} {f : MEnv → Option (PyData × MEnv)} : CoeFun (SV X e f) (fun _ => ∀ (env : MEnv) (σ : L2.St) (Hs H : Hp) (d : PyData) (env' : MEnv), f env = some (d, env') → InvS X.K Hs H σ env → ∀ Q : VK, (∀ v Hs' H', GoE σ env Hs H env' Hs' H' → InvS X.K Hs' H' σ env' → Rep X.K Hs' d v → Q v H') → W X e σ H Q) := ⟨SV.run⟩
structure SP' (X : Cx) (e : Expr) (f : MEnv → Option (PyData × MEnv)) : Prop where
  run : ∀ (env : MEnv) (σ : L2.St) (Hs H : Hp) (d : PyData) (env' : MEnv), f env = some (d, env') → InvS X.K Hs H σ env → ∀ Q : VK, (∀ v Hs' H', GoE σ env Hs H env' Hs' H' → InvS X.K Hs' H' σ env' → Top X.K Hs' H' d v → Q v H') → W X e σ H Q
instance {X : Cx} {e : Expr} {f : MEnv → Option (PyData × MEnv)} : CoeFun (SP' X e f) (fun _ => ∀ (env : MEnv) (σ : L2.St) (Hs H : Hp) (d : PyData) (env' : MEnv), f env = some (d, env') → InvS X.K Hs H σ env → ∀ Q : VK, (∀ v Hs' H', GoE σ env Hs H env' Hs' H' → InvS X.K Hs' H' σ env' → Top X.K Hs' H' d v → Q v H') → W X e σ H Q) := ⟨SP'.run⟩
structure SA (X : Cx) (es : List Expr) (f : MEnv → Option (List PyData × MEnv)) : Prop where
  run : ∀ (env : MEnv) (σ : L2.St) (Hs H : Hp) (ds : List PyData) (env' : MEnv), f env = some (ds, env') → InvS X.K Hs H σ env → ∀ Q : List V → Hp → Prop, (∀ vs Hs' H', GoE σ env Hs H env' Hs' H' → InvS X.K Hs' H' σ env' → RepL X.K Hs' ds vs → Q vs H') → WA X es σ H Q
instance {X : Cx} {es : List Expr} {f : MEnv → Option (List PyData × MEnv)} : CoeFun (SA X es f) (fun _ => ∀ (env : MEnv) (σ : L2.St) (Hs H : Hp) (ds : List PyData) (env' : MEnv), f env = some (ds, env') → InvS X.K Hs H σ env → ∀ Q : List V → Hp → Prop, (∀ vs Hs' H', GoE σ env Hs H env' Hs' H' → InvS X.K Hs' H' σ env' → RepL X.K Hs' ds vs → Q vs H') → WA X es σ H Q) := ⟨SA.run⟩
structure ST (X : Cx) (e : Expr) (f : MEnv → Option (Bool × MEnv)) : Prop where
  run : ∀ (env : MEnv) (σ : L2.St) (Hs H : Hp) (b : Bool) (env' : MEnv), f env = some (b, env') → InvS X.K Hs H σ env → ∀ Q : Bool → Hp → Prop, (∀ Hs' H', GoE σ env Hs H env' Hs' H' → InvS X.K Hs' H' σ env' → Q b H') → WT X e σ H Q
instance {X : Cx} {e : Expr} {f : MEnv → Option (Bool × MEnv)} : CoeFun (ST X e f) (fun _ => ∀ (env : MEnv) (σ : L2.St) (Hs H : Hp) (b : Bool) (env' : MEnv), f env = some (b, env') → InvS X.K Hs H σ env → ∀ Q : Bool → Hp → Prop, (∀ Hs' H', GoE σ env Hs H env' Hs' H' → InvS X.K Hs' H' σ env' → Q b H') → WT X e σ H Q) := ⟨ST.run⟩

/-- plain data out of a fresh answer -/
def Slot.dat : Slot → Option PyData
  | .val d => some d
  | .own xs => some (.list xs)
  | _ => none
def datF (f : MEnv → Option (Slot × MEnv)) : MEnv → Option (PyData × MEnv) := fun env => match f env with
  | some (r, env') => match r.dat with
    | some d => some (d, env')
    | none => none
  | none => none
theorem SE.v {X : Cx} {e : Expr} {f : MEnv → Option (Slot × MEnv)} (h : SE X e f) : SV X e (datF f) := by
  refine ⟨?_⟩
  intro env σ Hs H d env' hf I Q q
  unfold datF at hf
  split at hf
  · rename_i r e1 hr
    split at hf
    · rename_i d1 hd
      cases hf
      refine h env σ Hs H r env' hr I Q fun v Hs' H' g I' rr => ?_
      cases r with
      | val d2 =>
        cases hd
        exact q v Hs' H' g I' rr
      | own xs =>
        cases hd
        obtain ⟨p, vs, rfl, h1, h2, h3, h4⟩ := rr
        have nm : ¬ MutAt σ env' p := fun m => by
          obtain ⟨_, vs', hh⟩ := I.mutAt_some (g.ow p m)
          rw [h1] at hh
          cases hh
        refine q (.ref p) (upd Hs' p (.lst vs)) H' ?_ (I'.shareOld h3 h2 nm) ⟨p, vs, rfl, Evl.sq_of upd_same, RepL.mono (Ex.new h2) xs vs h4⟩
        refine ⟨g.sh.trans (Ex.new h2), g.kp, g.dm, fun a o ha => ?_, g.ow, g.lo, g.io⟩
        by_cases ea : a = p
        · exact .inr (.inl (ea ▸ h1))
        · rw [upd_ne ea] at ha
          exact g.nw a o ha
      | un => cases hd
      | io xs => cases hd
    · cases hf
  · cases hf
theorem SV.p {X : Cx} {e : Expr} {f : MEnv → Option (PyData × MEnv)} (h : SV X e f) : SP' X e f := .mk fun env σ Hs H d env' hf I Q q =>
  h env σ Hs H d env' hf I Q fun v Hs' H' g I' r => q v Hs' H' g I' (Top.of I'.sh r)
def valF (f : MEnv → Option (PyData × MEnv)) : MEnv → Option (Slot × MEnv) := fun env => (f env).map fun p => (.val p.1, p.2)
theorem SV.e {X : Cx} {e : Expr} {f : MEnv → Option (PyData × MEnv)} (h : SV X e f) : SE X e (valF f) := by
  refine ⟨?_⟩
  intro env σ Hs H r env' hf I Q q
  unfold valF at hf
  cases hd : f env with
  | none => rw [hd] at hf; cases hf
  | some p =>
    rw [hd] at hf
    cases hf
    exact h env σ Hs H p.1 p.2 hd I Q fun v Hs' H' g I' rr => q v Hs' H' g I' rr
end Ip

set_option Elab.async false
set_option linter.all false
set_option maxRecDepth 100000
set_option maxHeartbeats 4000000
namespace Ip
open PySem L2
open Evl (Ex sz_of fresh_back)
variable {X : Cx} {a b e : Expr} {pos : Pos}

/-! ### operands: what a name holds is looked at when the operation is done -/
inductive Lr where
  | dat (d : PyData)
  | slot (i : Nat)
def look (r : Lr) (env : MEnv) : Option PyData := match r with
  | .dat d => some d
  | .slot i => match env[i]? with
    | some (.val d) => some d
    | some (.own xs) => some (.list xs)
    | some (.io xs) => some (.list xs)
    | _ => none
def RepLr (K : PySem.W.Frag) (Hs : Hp) (σ : L2.St) : Lr → V → Prop
  | .dat d, v => Rep K Hs d v
  | .slot i, v => σ[i]? = some (some v)
structure SL (X : Cx) (e : Expr) (f : MEnv → Option (Lr × MEnv)) : Prop where
  run : ∀ (env : MEnv) (σ : L2.St) (Hs H : Hp) (r : Lr) (env' : MEnv), f env = some (r, env') → InvS X.K Hs H σ env → ∀ Q : VK, (∀ v Hs' H', GoE σ env Hs H env' Hs' H' → InvS X.K Hs' H' σ env' → RepLr X.K Hs' σ r v → Q v H') → W X e σ H Q
instance {X : Cx} {e : Expr} {f : MEnv → Option (Lr × MEnv)} : CoeFun (SL X e f) (fun _ => ∀ (env : MEnv) (σ : L2.St) (Hs H : Hp) (r : Lr) (env' : MEnv), f env = some (r, env') → InvS X.K Hs H σ env → ∀ Q : VK, (∀ v Hs' H', GoE σ env Hs H env' Hs' H' → InvS X.K Hs' H' σ env' → RepLr X.K Hs' σ r v → Q v H') → W X e σ H Q) := ⟨SL.run⟩
theorem RepLr.mono {K : PySem.W.Frag} {Hs Hs' : Hp} {σ : L2.St} (e : Ex Hs Hs') : ∀ {r : Lr} {v : V}, RepLr K Hs σ r v → RepLr K Hs' σ r v
  | .dat d, v, h => Rep.mono e d v h
  | .slot _, _, h => h
theorem RepLr.top {K : PySem.W.Frag} {Hs H : Hp} {σ : L2.St} {env : MEnv} (I : InvS K Hs H σ env) : ∀ {r : Lr} {v : V} {d : PyData}, RepLr K Hs σ r v → look r env = some d → Top K Hs H d v
  | .dat d0, v, d, h, e => by
    cases e
    exact Top.of I.sh h
  | .slot i, v, d, h, e => by
    unfold look at e
    simp only at e
    split at e
    · rename_i d0 h0
      cases e
      obtain ⟨w, h1, h2⟩ := I.vals i d h0
      rw [(show σ[i]? = some (some v) from h)] at h1
      cases h1
      exact Top.of I.sh h2
    · rename_i xs h0
      cases e
      obtain ⟨p, vs, h1, h2, h3, h4⟩ := I.muts i _ xs h0 rfl
      rw [(show σ[i]? = some (some v) from h)] at h1
      cases h1
      exact ⟨p, vs, rfl, Evl.sq_of h3, h4⟩
    · rename_i xs h0
      cases e
      obtain ⟨p, vs, h1, h2, h3, h4⟩ := I.muts i _ xs h0 rfl
      rw [(show σ[i]? = some (some v) from h)] at h1
      cases h1
      exact ⟨p, vs, rfl, Evl.sq_of h3, h4⟩
    · cases e
def datL (f : MEnv → Option (PyData × MEnv)) : MEnv → Option (Lr × MEnv) := fun env => match f env with
  | some (d, env') => some (.dat d, env')
  | none => none
theorem SV.l {f : MEnv → Option (PyData × MEnv)} (h : SV X e f) : SL X e (datL f) := by
  refine ⟨?_⟩
  intro env σ Hs H r env' hf I Q q
  unfold datL at hf
  split at hf
  · rename_i d e1 hd
    cases hf
    exact h env σ Hs H d env' hd I Q q
  · cases hf
/-- a name of the def, as an operand -/
def nameL (i : Nat) : MEnv → Option (Lr × MEnv) := fun env => match look (.slot i) env with
  | some _ => some (.slot i, env)
  | none => none
theorem sl_name {i : Nat} {x : Str} (h : PE X (.Name x pos) (tVar i)) : SL X (.Name x pos) (nameL i) := by
  refine ⟨?_⟩
  intro env σ Hs H r env' hf I Q q
  unfold nameL at hf
  split at hf
  · rename_i d hd
    cases hf
    refine W.of h ?_
    unfold look at hd
    simp only at hd
    split at hd
    · rename_i d0 h0
      obtain ⟨w, h1, h2⟩ := I.vals i d0 h0
      exact ⟨w, h1, q w Hs H GoE.refl I h1⟩
    · rename_i xs h0
      obtain ⟨p, vs, h1, h2, h3, h4⟩ := I.muts i _ xs h0 rfl
      exact ⟨.ref p, h1, q _ Hs H GoE.refl I h1⟩
    · rename_i xs h0
      obtain ⟨p, vs, h1, h2, h3, h4⟩ := I.muts i _ xs h0 rfl
      exact ⟨.ref p, h1, q _ Hs H GoE.refl I h1⟩
    · cases hd
  · cases hf
/-- a name as a value: a list of the def's own is shared from now on -/
def nameV (i : Nat) : MEnv → Option (PyData × MEnv) := fun env => match env[i]? with
  | some (.val d) => some (d, env)
  | some (.own xs) => some (.list xs, env.set i (.val (.list xs)))
  | _ => none
theorem getElem_set_cases {α : Type} {l : List α} {i j : Nat} {x y : α} (h : (l.set i x)[j]? = some y) : (i = j ∧ x = y) ∨ (i ≠ j ∧ l[j]? = some y) := by
  by_cases e : i = j
  · subst e
    rw [List.getElem?_set] at h
    rw [if_pos rfl] at h
    split at h
    · cases h; exact .inl ⟨rfl, rfl⟩
    · cases h
  · rw [List.getElem?_set_ne e] at h
    exact .inr ⟨e, h⟩
theorem freeze {K : PySem.W.Frag} {Hs H : Hp} {σ : L2.St} {env : MEnv} (I : InvS K Hs H σ env) {i : Nat} {xs : List PyData} (h : env[i]? = some (.own xs)) : ∃ p vs, σ[i]? = some (some (.ref p)) ∧ Rep K (upd Hs p (.lst vs)) (.list xs) (.ref p) ∧
    GoE σ env Hs H (env.set i (.val (.list xs))) (upd Hs p (.lst vs)) H ∧ InvS K (upd Hs p (.lst vs)) H σ (env.set i (.val (.list xs))) := by
  obtain ⟨p, vs, h1, h2, h3, h4⟩ := I.muts i _ xs h rfl
  have ex : Ex Hs (upd Hs p (.lst vs)) := Ex.new h2
  have r : Rep K (upd Hs p (.lst vs)) (.list xs) (.ref p) := ⟨p, vs, rfl, Evl.sq_of upd_same, RepL.mono ex xs vs h4⟩
  have mm : ∀ a, MutAt σ (env.set i (.val (.list xs))) a → MutAt σ env a ∧ a ≠ p := fun a m => by
    obtain ⟨j, s, ys, e1, e2, e3⟩ := m
    rcases getElem_set_cases e1 with ⟨_, e4⟩ | ⟨ne, e4⟩
    · rw [← e4] at e2; cases e2
    · refine ⟨⟨j, s, ys, e4, e2, e3⟩, fun ea => ?_⟩
      subst ea
      exact ne (I.diff i j _ s xs ys _ h rfl e4 e2 h1 e3)
  refine ⟨p, vs, h1, r, ⟨ex, fun a o ha _ => ha, fun a o ha => ⟨o, ha⟩, fun a o ha => ?_, fun a m => (mm a m).1, fun a m => ?_, fun j ys hj => ?_⟩, ?_⟩
  · by_cases ea : a = p
    · exact .inr (.inr ⟨i, xs, h, ea ▸ h1⟩)
    · rw [upd_ne ea] at ha
      exact .inl ha
  · obtain ⟨j, ys, e1, e3⟩ := m
    rcases getElem_set_cases e1 with ⟨_, e4⟩ | ⟨ne, e4⟩
    · cases e4
    · exact ⟨j, ys, e4, e3⟩
  · have ne : i ≠ j := fun z => by
      rw [← z, h] at hj
      cases hj
    exact ⟨ys, by rw [List.getElem?_set_ne ne]; exact hj⟩
  · refine ⟨by rw [List.length_set]; exact I.len, fun a o ha => ?_, fun j d hj => ?_, fun j s ys hj hm => ?_, fun j k s t ys zs q e1 e2 e3 e4 => ?_⟩
    · by_cases ea : a = p
      · subst ea
        rw [upd_same] at ha
        cases ha
        exact h3
      · rw [upd_ne ea] at ha
        exact I.sh a o ha
    · rcases getElem_set_cases hj with ⟨e4, e5⟩ | ⟨ne, e4⟩
      · cases e5
        exact ⟨.ref p, e4 ▸ h1, r⟩
      · obtain ⟨v, g1, g2⟩ := I.vals j d e4
        exact ⟨v, g1, Rep.mono ex d v g2⟩
    · have m1 := mm
      rcases getElem_set_cases hj with ⟨_, e4⟩ | ⟨ne, e4⟩
      · rw [← e4] at hm; cases hm
      · obtain ⟨q, ws, g1, g2, g3, g4⟩ := I.muts j s ys e4 hm
        have nq : q ≠ p := (mm q ⟨j, s, ys, hj, hm, g1⟩).2
        exact ⟨q, ws, g1, by rw [upd_ne nq]; exact g2, g3, RepL.mono ex ys ws g4⟩
    · rcases getElem_set_cases e1 with ⟨_, e5⟩ | ⟨_, e5⟩
      · rw [← e5] at e2; cases e2
      · rcases getElem_set_cases e3 with ⟨_, e6⟩ | ⟨_, e6⟩
        · rw [← e6] at e4; cases e4
        · exact I.diff j k s t ys zs q e5 e2 e6 e4
theorem sv_name {i : Nat} {x : Str} (h : PE X (.Name x pos) (tVar i)) : SV X (.Name x pos) (nameV i) := by
  refine ⟨?_⟩
  intro env σ Hs H d env' hf I Q q
  unfold nameV at hf
  split at hf
  · rename_i d0 h0
    cases hf
    obtain ⟨w, h1, h2⟩ := I.vals i d h0
    exact W.of h ⟨w, h1, q w Hs H GoE.refl I h2⟩
  · rename_i xs h0
    cases hf
    obtain ⟨p, vs, h1, r, g, I'⟩ := freeze I h0
    exact W.of h ⟨.ref p, h1, q _ _ H g I' r⟩
  · cases hf

/-! ### constants -/
def constD (d : PyData) : MEnv → Option (PyData × MEnv) := fun env => some (d, env)
theorem sv_c {d : PyData} {v : V} (h : PE X e (tC v)) (r : ∀ Hs, Rep X.K Hs d v) : SV X e (constD d) := by
  refine ⟨?_⟩
  intro env σ Hs H d' env' hf I Q q
  cases hf
  exact W.of h (q v Hs H GoE.refl I (r Hs))

/-! ### two operands -/
def op2 (fa fb : MEnv → Option (Lr × MEnv)) (g : PyData → PyData → Option Slot) : MEnv → Option (Slot × MEnv) := fun env => match fa env with
  | some (ra, e1) => match fb e1 with
    | some (rb, e2) => match look ra e2, look rb e2 with
      | some x, some y => match g x y with
        | some s => some (s, e2)
        | none => none
      | _, _ => none
    | none => none
  | none => none
/-- a two-place rule does what g tells -/
def R2ok (K : PySem.W.Frag) (r : R2) (g : PyData → PyData → Option Slot) : Prop := ∀ (Hs H : Hp) (σ : L2.St) (env : MEnv) (x y : PyData) (v u : V) (s : Slot), g x y = some s → InvS K Hs H σ env → Top K Hs H x v → Top K Hs H y u →
  ∀ Q : VK, (∀ z Hs' H', GoE σ env Hs H env Hs' H' → InvS K Hs' H' σ env → RepR K H Hs' H' s z → Q z H') → r v u H Q
theorem RepR.mono {K : PySem.W.Frag} {H0 H Hs' H' : Hp} (h : ∀ a, H a = none → H0 a = none) : ∀ {s : Slot} {v : V}, RepR K H Hs' H' s v → RepR K H0 Hs' H' s v
  | .val d, v, r => r
  | .own xs, v, r => by
    obtain ⟨p, vs, e, h1, h2⟩ := r
    exact ⟨p, vs, e, h p h1, h2⟩
theorem se_op2 {fa fb : MEnv → Option (Lr × MEnv)} {g : PyData → PyData → Option Slot} {r : R2} {ee : Expr} (ha : SL X a fa) (hb : SL X b fb) (hr : R2ok X.K r g) (h : PE X ee (tOp r (W X a) (W X b))) : SE X ee (op2 fa fb g) := by
  refine ⟨?_⟩
  intro env σ Hs H s env' hf I Q q
  unfold op2 at hf
  split at hf
  · rename_i ra e1 h1
    split at hf
    · rename_i rb e2 h2
      split at hf
      · rename_i x y hx hy
        split at hf
        · rename_i s0 hs
          cases hf
          refine W.of h ?_
          refine ha env σ Hs H ra e1 h1 I _ fun v Hs1 H1 g1 I1 r1 => ?_
          refine hb e1 σ Hs1 H1 rb env' h2 I1 _ fun u Hs2 H2 g2 I2 r2 => ?_
          refine hr Hs2 H2 σ env' x y v u s hs I2 (RepLr.top I2 (r1.mono g2.sh) hx) (RepLr.top I2 r2 hy) Q fun z Hs3 H3 g3 I3 r3 => ?_
          exact q z Hs3 H3 ((g1.trans g2).trans g3) I3 (RepR.mono (fun p hp => (g1.trans g2).none_back hp) r3)
        · cases hf
      · cases hf
    · cases hf
  · cases hf
theorem SE.congr {f g : MEnv → Option (Slot × MEnv)} (h : SE X e f) (k : ∀ env r, g env = some r → f env = some r) : SE X e g := .mk fun env σ Hs H r env' hf I Q q => h env σ Hs H r env' (k env _ hf) I Q q

/-! answers of rules -/
theorem ok_val {K : PySem.W.Frag} {Hs H : Hp} {σ : L2.St} {env : MEnv} (I : InvS K Hs H σ env) {s : Slot} {d : PyData} {v : V} (hs : s = .val d) (r : Rep K Hs d v) {Q : VK}
    (q : ∀ z Hs' H', GoE σ env Hs H env Hs' H' → InvS K Hs' H' σ env → RepR K H Hs' H' s z → Q z H') : Q v H := q v Hs H GoE.refl I (by rw [hs]; exact r)
theorem ok_newL {K : PySem.W.Frag} {Hs H : Hp} {σ : L2.St} {env : MEnv} (I : InvS K Hs H σ env) {s : Slot} {ds : List PyData} {vs : List V} (hs : s = .own ds) (r : RepL K Hs ds vs) {Q : VK}
    (q : ∀ z Hs' H', GoE σ env Hs H env Hs' H' → InvS K Hs' H' σ env → RepR K H Hs' H' s z → Q z H') : ∀ p, H p = none → Q (.ref p) (upd H p (.lst vs)) := fun p hp =>
  q (.ref p) Hs _ (GoE.lay hp _) (I.lay hp _) (by rw [hs]; exact ⟨p, vs, rfl, hp, fresh_back I.sh hp, upd_same, r⟩)
theorem ok_newT {K : PySem.W.Frag} {Hs H : Hp} {σ : L2.St} {env : MEnv} (I : InvS K Hs H σ env) {s : Slot} {ds : List PyData} {vs : List V} (hs : s = .val (.tuple ds)) (r : RepL K Hs ds vs) {Q : VK}
    (q : ∀ z Hs' H', GoE σ env Hs H env Hs' H' → InvS K Hs' H' σ env → RepR K H Hs' H' s z → Q z H') : ∀ p, H p = none → Q (.ref p) (upd H p (.tup vs)) := fun p hp =>
  q (.ref p) (upd Hs p (.tup vs)) _ (GoE.share I hp _) (I.share hp _) (by rw [hs]; exact ⟨p, vs, rfl, Evl.st_of upd_same, RepL.mono (Ex.new (fresh_back I.sh hp)) ds vs r⟩)

/-! ### arithmetic -/
def mulOk (i j : Int) : Bool := decide (i.natAbs.log2 + j.natAbs.log2 < 1000000) || decide (j.natAbs < 2 ^ 64) || decide (i.natAbs < 2 ^ 64)
def divOk (j : Int) : Bool := decide (j ≠ 0) && decide (j.natAbs.log2 < 9000)
def addD : PyData → PyData → Option Slot
  | .int i, .int j => some (.val (.int (i + j)))
  | .str x, .str y => if x.length + y.length ≤ 100000 then some (.val (.str (x ++ y))) else none
  | .list xs, .list ys => if xs.length + ys.length ≤ 100000 then some (.own (xs ++ ys)) else none
  | .tuple xs, .tuple ys => if xs.length + ys.length ≤ 100000 ∧ xs ≠ [] ∧ ys ≠ [] then some (.val (.tuple (xs ++ ys))) else none
  | _, _ => none
def subD : PyData → PyData → Option Slot
  | .int i, .int j => some (.val (.int (i - j)))
  | _, _ => none
def mulD : PyData → PyData → Option Slot
  | .int i, .int j => if mulOk i j = true then some (.val (.int (i * j))) else none
  | _, _ => none
def fdivD : PyData → PyData → Option Slot
  | .int i, .int j => if divOk j = true then some (.val (.int (i.fdiv j))) else none
  | _, _ => none
def modD : PyData → PyData → Option Slot
  | .int i, .int j => if j ≠ 0 then some (.val (.int (i.fmod j))) else none
  | _, _ => none
def powD : PyData → PyData → Option Slot
  | .int i, .int j => if 0 ≤ j ∧ j ≤ 1000 ∧ i.natAbs < 2 ^ 64 then some (.val (.int (i ^ j.toNat))) else none
  | _, _ => none
theorem OpR.or {f : Value → Value → Sem Value} {r r' : R2} (h : OpR X f r) (h' : OpR X f r') : OpR X f (fun x y H Q => r x y H Q ∨ r' x y H Q) := by
  intro pins s σ H x y v u Q I rx ry q
  rcases q with q | q
  · exact h pins s σ H x y v u Q I rx ry q
  · exact h' pins s σ H x y v u Q I rx ry q
theorem rep_int {K : PySem.W.Frag} {Hs H : Hp} {i : Int} {v : V} (h : Top K Hs H (.int i) v) : v = .int i := h
/-- list + list with any of them in the written part or shared -/
def rCatX (K : PySem.W.Frag) : R2 := fun x y H Q => ∃ l b xs zs, x = .ref l ∧ y = .ref b ∧ SqL K H l xs ∧ SqL K H b zs ∧ xs.length + zs.length ≤ sizeLine ∧ ∀ p, H p = none → Q (.ref p) (upd H p (.lst (xs ++ zs)))
theorem op_catX : OpR X (binaryOp .Add) (rCatX X.K) := by
  intro pins s σ H x y v u Q I rx ry h
  obtain ⟨l, m, xs, zs, rfl, rfl, hl, hm, hz, q⟩ := h
  cases rx
  cases ry
  obtain ⟨us, r1, ⟨⟨c1, d1, t1, s1⟩, n1, g1, k1, _, w1⟩, _⟩ := I.list hl
  obtain ⟨ws, r2, ⟨⟨c2, d2, t2, s2⟩, n2, g2, k2, _, w2⟩, _⟩ := I.list hm
  simp only at k1 w1 k2 w2
  subst k1 w1 k2 w2
  have small : us.toArray.size + ws.toArray.size ≤ sizeLine := by
    simp only [List.size_toArray]
    have l1 := r1.length
    have l2 := r2.length
    omega
  have cat := r1.append r2
  have len : (xs ++ zs).length ≤ sizeLine := List.length_append ▸ hz
  have end_ : EP X pins σ Q (.ref s.heap.objs.size) { s with heap := s.heap.push { cls := .type "list", data := .seq (us ++ ws).toArray } } :=
    ⟨V.ref _, _, I.lnew (t' := s.toks) cat len, rfl, q _ I.fresh⟩
  have both : us.toArray ++ ws.toArray = (us ++ ws).toArray := List.append_toArray ..
  rw [← both] at end_
  exact PySem.concat_meets ⟨_, g1, rfl⟩ ⟨_, g2, rfl⟩ PySem.noFill_list_add PySem.seq_list_add PySem.F.slot_list_add PySem.F.entry_list_add (PySem.F.args_list_add_2 _ _)
    (PyProof.Rows.list_addW l m us.toArray ws.toArray n1 n2 d1 d2 s1 s2 small) ⟨g1, g2, end_⟩
theorem ok_add : R2ok X.K (fun x y H Q => ((rI0 fun i j => .int (i + j)) x y H Q ∨ (∃ i j, x = .str i ∧ y = .str j ∧ i.length + j.length ≤ sizeLine ∧ Q (.str (i ++ j)) H)) ∨ (rCatX X.K x y H Q ∨ rCatT X.K x y H Q)) addD := by
  intro Hs H σ env x y v u s hs I hx hy Q q
  cases x <;> cases y <;> try (cases hs; done)
  · rename_i i j
    cases hs
    exact .inl (.inl ⟨i, j, hx, hy, ok_val I rfl (show Rep X.K Hs (.int (i + j)) (.int (i + j)) from rfl) q⟩)
  · rename_i i j
    unfold addD at hs
    simp only at hs
    split at hs
    · rename_i hc
      cases hs
      exact .inl (.inr ⟨i, j, hx, hy, sz_of hc, ok_val I rfl (show Rep X.K Hs (.str (i ++ j)) (.str (i ++ j)) from rfl) q⟩)
    · cases hs
  · rename_i xs ys
    unfold addD at hs
    simp only at hs
    split at hs
    · rename_i hc
      cases hs
      obtain ⟨l, vs, e1, h1, h2⟩ := hx
      obtain ⟨m, us, e2, h3, h4⟩ := hy
      exact .inr (.inl ⟨l, m, vs, us, e1, e2, h1, h3, sz_of (by rw [← RepL.length h2, ← RepL.length h4]; exact hc), ok_newL I rfl (RepL.app h2 h4) q⟩)
    · cases hs
  · rename_i xs ys
    unfold addD at hs
    simp only at hs
    split at hs
    · rename_i hc
      cases hs
      obtain ⟨hc, n1, n2⟩ := hc
      obtain ⟨l, vs, e1, h1, h2⟩ := hx
      obtain ⟨m, us, e2, h3, h4⟩ := hy
      have l1 := RepL.length h2
      have l2 := RepL.length h4
      have m1 : vs ≠ [] := fun e => n1 (List.eq_nil_of_length_eq_zero (by rw [l1, e]; rfl))
      have m2 : us ≠ [] := fun e => n2 (List.eq_nil_of_length_eq_zero (by rw [l2, e]; rfl))
      exact .inr (.inr ⟨l, m, vs, us, e1, e2, Evl.ex_t I.sh h1, Evl.ex_t I.sh h3, m1, sz_of (by rw [← l1, ← l2]; exact hc), fun e => absurd e m2, fun _ => ok_newT I rfl (RepL.app h2 h4) q⟩)
    · cases hs

theorem ok_sub : R2ok X.K (rI0 fun i j => .int (i - j)) subD := by
  intro Hs H σ env x y v u s hs I hx hy Q q
  cases x <;> cases y <;> try (cases hs; done)
  rename_i i j
  cases hs
  exact ⟨i, j, hx, hy, ok_val I rfl (show Rep X.K Hs (.int (i - j)) (.int (i - j)) from rfl) q⟩
theorem op_mulA : OpR X (binaryOp .Mult) (rI (fun i j => mulOk i j = true) fun i j => .int (i * j)) := opI fun i j _ _ _ _ _ hc q => by
  unfold mulOk at hc
  simp only [Bool.or_eq_true, decide_eq_true_eq] at hc
  rcases hc with (hc | hc) | hc
  · exact PyProof.Rows.mul_int q (CMulW.ok hc)
  · exact PyProof.Rows.mul_int q (CMul.ok (.inr (by omega)))
  · exact PyProof.Rows.mul_int q (CMul.ok (.inl (by omega)))
theorem ok_mul : R2ok X.K (rI (fun i j => mulOk i j = true) fun i j => .int (i * j)) mulD := by
  intro Hs H σ env x y v u s hs I hx hy Q q
  cases x <;> cases y <;> try (cases hs; done)
  rename_i i j
  unfold mulD at hs
  simp only at hs
  split at hs
  · rename_i hc
    cases hs
    exact ⟨i, j, hx, hy, hc, ok_val I rfl (show Rep X.K Hs (.int (i * j)) (.int (i * j)) from rfl) q⟩
  · cases hs
theorem repL_flat {K : PySem.W.Frag} {H : Hp} {ds : List PyData} {vs : List V} (h : RepL K H ds vs) : ∀ n : Nat, RepL K H (List.replicate n ds).flatten (List.replicate n vs).flatten
  | 0 => rfl
  | n + 1 => by
    rw [List.replicate_succ, List.replicate_succ, List.flatten_cons, List.flatten_cons]
    exact RepL.app h (repL_flat h n)
/-- a list made on the spot, times an int -/
def repF (fa : MEnv → Option (Slot × MEnv)) (fb : MEnv → Option (Lr × MEnv)) : MEnv → Option (Slot × MEnv) := fun env => match fa env with
  | some (.own xs, e1) => match fb e1 with
    | some (rb, e2) => match look rb e2 with
      | some (.int k) => if xs.length * k.toNat ≤ 100000 ∧ -(2 ^ 63) ≤ k ∧ k < 2 ^ 63 then some (.own (List.replicate k.toNat xs).flatten, e2) else none
      | _ => none
    | none => none
  | _ => none
theorem se_rep {fa : MEnv → Option (Slot × MEnv)} {fb : MEnv → Option (Lr × MEnv)} (ha : SE X a fa) (hb : SL X b fb) : SE X (.BinOp a .Mult b pos) (repF fa fb) := by
  refine ⟨?_⟩
  intro env σ Hs H s env' hf I Q q
  unfold repF at hf
  split at hf
  · rename_i xs e1 h1
    split at hf
    · rename_i rb e2 h2
      split at hf
      · rename_i k hk
        split at hf
        · rename_i hc
          cases hf
          refine W.of (pe_op op_rep (W.pe X a) (W.pe X b)) ?_
          refine ha env σ Hs H _ e1 h1 I _ fun v Hs1 H1 g1 I1 r1 => ?_
          obtain ⟨p, vs, rfl, n1, n2, n3, n4⟩ := r1
          refine hb e1 σ Hs1 H1 rb env' h2 I1 _ fun u Hs2 H2 g2 I2 r2 => ?_
          have hu := rep_int (RepLr.top I2 r2 hk)
          have nm : ¬ MutAt σ e1 p := fun m => by
            obtain ⟨_, vs', hh⟩ := I.mutAt_some (g1.ow p m)
            rw [n1] at hh
            cases hh
          have e3 := RepL.length n4
          refine ⟨p, k, vs, rfl, hu, g2.kp p _ n3 nm, hc.2.1, hc.2.2, sz_of (by rw [← e3]; exact hc.1), fun l hl => ?_⟩
          have g12 := g1.trans g2
          exact q (.ref l) Hs2 _ (g12.trans (GoE.lay hl _)) (I2.lay hl _) ⟨l, _, rfl, g12.none_back hl, fresh_back I2.sh hl, upd_same, repL_flat (RepL.mono g2.sh _ _ n4) k.toNat⟩
        · cases hf
      · cases hf
    · cases hf
  · cases hf
theorem op_fdivA : OpR X (binaryOp .FloorDiv) (rI (fun _ j => divOk j = true) fun i j => .int (i.fdiv j)) := opI fun i j _ _ _ _ _ hc q => by
  unfold divOk at hc
  simp only [Bool.and_eq_true, decide_eq_true_eq] at hc
  exact PyProof.Rows.floordiv_int hc.1 q (.inl (PyProof.noPylong_of_log2 hc.2))
theorem ok_fdiv : R2ok X.K (rI (fun _ j => divOk j = true) fun i j => .int (i.fdiv j)) fdivD := by
  intro Hs H σ env x y v u s hs I hx hy Q q
  cases x <;> cases y <;> try (cases hs; done)
  rename_i i j
  unfold fdivD at hs
  simp only at hs
  split at hs
  · rename_i hc
    cases hs
    exact ⟨i, j, hx, hy, hc, ok_val I rfl (show Rep X.K Hs (.int (i.fdiv j)) (.int (i.fdiv j)) from rfl) q⟩
  · cases hs
theorem ok_mod : R2ok X.K (rI (fun _ j => j ≠ 0) fun i j => .int (i.fmod j)) modD := by
  intro Hs H σ env x y v u s hs I hx hy Q q
  cases x <;> cases y <;> try (cases hs; done)
  rename_i i j
  unfold modD at hs
  simp only at hs
  split at hs
  · rename_i hc
    cases hs
    exact ⟨i, j, hx, hy, hc, ok_val I rfl (show Rep X.K Hs (.int (i.fmod j)) (.int (i.fmod j)) from rfl) q⟩
  · cases hs
theorem ok_pow : R2ok X.K (rI CPow fun i j => .int (i ^ j.toNat)) powD := by
  intro Hs H σ env x y v u s hs I hx hy Q q
  cases x <;> cases y <;> try (cases hs; done)
  rename_i i j
  unfold powD at hs
  simp only at hs
  split at hs
  · rename_i hc
    cases hs
    exact ⟨i, j, hx, hy, ⟨hc.1, by omega, hc.2.2⟩, ok_val I rfl (show Rep X.K Hs (.int (i ^ j.toNat)) (.int (i ^ j.toNat)) from rfl) q⟩
  · cases hs

/-! ### comparisons -/
mutual
theorem nd_of : ∀ d : PyData, d.canLay0 = true → d.hasDict = false
  | .none, _ => by simp only [PyData.hasDict]
  | .bool _, _ => by simp only [PyData.hasDict]
  | .int _, _ => by simp only [PyData.hasDict]
  | .str _, _ => by simp only [PyData.hasDict]
  | .list xs, h => by
    simp only [PyData.hasDict]
    exact ndL_of xs (by simpa only [PyData.canLay0] using h)
  | .tuple xs, h => by
    simp only [PyData.hasDict]
    exact ndL_of xs (by simpa only [PyData.canLay0] using h)
  | .dict _, h => by simp only [PyData.canLay0] at h; cases h
theorem ndL_of : ∀ ds : List PyData, PyData.canLayAll0 ds = true → PyData.hasDictAll ds = false
  | [], _ => rfl
  | d :: ds, h => by
    have h : d.canLay0 = true ∧ PyData.canLayAll0 ds = true := by simpa only [PyData.canLayAll0, Bool.and_eq_true] using h
    show (d.hasDict || PyData.hasDictAll ds) = false
    rw [nd_of d h.1, ndL_of ds h.2]
    rfl
end
theorem nd_shaped {d : PyData} (h : SeqAt.shaped d = true) : d.hasDict = false := nd_of d (SeqAt.canLay_of_shaped h)
mutual
theorem Rep.dp {K : PySem.W.Frag} {H : Hp} : ∀ (d : PyData) (v : V), Rep K H d v → d.hasDict = false → Dp K H v d
  | .none, _, h, _ => by cases (show _ = V.non from h); exact .non
  | .bool b, _, h, _ => by cases (show _ = V.bl b from h); exact .bl b
  | .int i, _, h, _ => by cases (show _ = V.int i from h); exact .int i
  | .str s, _, h, _ => by cases (show _ = V.str s from h); exact .str s
  | .list xs, _, h, n => by
    obtain ⟨a, vs, rfl, h1, h2⟩ := h
    exact .lst h1 (RepL.dp xs vs h2 (by simpa only [PyData.hasDict] using n))
  | .tuple xs, _, h, n => by
    obtain ⟨a, vs, rfl, h1, h2⟩ := h
    exact .tup h1 (RepL.dp xs vs h2 (by simpa only [PyData.hasDict] using n))
  | .dict _, _, h, n => by simp only [PyData.hasDict] at n; cases n
theorem RepL.dp {K : PySem.W.Frag} {H : Hp} : ∀ (ds : List PyData) (vs : List V), RepL K H ds vs → PyData.hasDictAll ds = false → DpAll K H vs ds
  | [], _, h, _ => by cases (show _ = [] from h); exact .nil
  | d :: ds, _, h, n => by
    obtain ⟨v, r, rfl, h1, h2⟩ := h
    have n : (d.hasDict || PyData.hasDictAll ds) = false := n
    rw [Bool.or_eq_false_iff] at n
    exact .cons (Rep.dp d v h1 n.1) (RepL.dp ds r h2 n.2)
end
def bV (b : Bool) : Option Slot := some (.val (.bool b))
def eqD (x y : PyData) : Option Slot := match x, y with
  | .str a, .str b => bV (decide (a = b))
  | _, _ => if SeqAt.shaped x = true ∧ SeqAt.shaped y = true then bV (PyData.eqv x y) else none
def neD (x y : PyData) : Option Slot := match x, y with
  | .str a, .str b => bV (!decide (a = b))
  | _, _ => if SeqAt.shaped x = true ∧ SeqAt.shaped y = true then bV (!PyData.eqv x y) else none
theorem dec_strV (a b : Str) : decide (V.str a = V.str b) = decide (a = b) := by
  by_cases h : a = b
  · subst h; simp
  · rw [decide_eq_false h, decide_eq_false (fun z => h (by injection z))]
def ltD : PyData → PyData → Option Slot
  | .int i, .int j => bV (decide (i < j))
  | _, _ => none
def leD : PyData → PyData → Option Slot
  | .int i, .int j => bV (decide (i ≤ j))
  | _, _ => none
def gtD : PyData → PyData → Option Slot
  | .int i, .int j => bV (decide (j < i))
  | _, _ => none
def geD : PyData → PyData → Option Slot
  | .int i, .int j => bV (decide (j ≤ i))
  | _, _ => none
theorem ok_eq : R2ok X.K (fun x y H Q => rEqD X.K x y H Q ∨ rEq x y H Q) eqD := by
  intro Hs H σ env x y v u s hs I hx hy Q q
  unfold eqD at hs
  split at hs
  · rename_i a b
    cases hs
    cases (show v = .str a from hx)
    cases (show u = .str b from hy)
    exact .inr ⟨rfl, by rw [dec_strV]; exact ok_val I rfl (show Rep X.K Hs (.bool _) (.bl _) from rfl) q⟩
  · split at hs
    · rename_i hc
      cases hs
      exact .inl ⟨x, y, Rep.dp x v (Top.rep I.sh hx) (nd_shaped hc.1), Rep.dp y u (Top.rep I.sh hy) (nd_shaped hc.2), hc.1, hc.2, ok_val I rfl (show Rep X.K Hs (.bool _) (.bl _) from rfl) q⟩
    · cases hs
theorem ok_ne : R2ok X.K (fun x y H Q => rNeD X.K x y H Q ∨ rNe x y H Q) neD := by
  intro Hs H σ env x y v u s hs I hx hy Q q
  unfold neD at hs
  split at hs
  · rename_i a b
    cases hs
    cases (show v = .str a from hx)
    cases (show u = .str b from hy)
    exact .inr ⟨rfl, by rw [dec_strV]; exact ok_val I rfl (show Rep X.K Hs (.bool _) (.bl _) from rfl) q⟩
  · split at hs
    · rename_i hc
      cases hs
      exact .inl ⟨x, y, Rep.dp x v (Top.rep I.sh hx) (nd_shaped hc.1), Rep.dp y u (Top.rep I.sh hy) (nd_shaped hc.2), hc.1, hc.2, ok_val I rfl (show Rep X.K Hs (.bool _) (.bl _) from rfl) q⟩
    · cases hs
theorem op_eqA (hu : X.A.units + 64 < cLine) : OpR X (compareOp .Eq) (fun x y H Q => rEqD X.K x y H Q ∨ rEq x y H Q) := OpR.or (op_eqD hu) op_eq
theorem op_neA (hu : X.A.units + 64 < cLine) : OpR X (compareOp .NotEq) (fun x y H Q => rNeD X.K x y H Q ∨ rNe x y H Q) := OpR.or (op_neD hu) op_ne
theorem ok_lt : R2ok X.K (rI0 fun i j => .bl (decide (i < j))) ltD := by
  intro Hs H σ env x y v u s hs I hx hy Q q
  cases x <;> cases y <;> try (cases hs; done)
  cases hs
  exact ⟨_, _, hx, hy, ok_val I rfl (show Rep X.K Hs (.bool _) (.bl _) from rfl) q⟩
theorem ok_le : R2ok X.K (rI0 fun i j => .bl (decide (i ≤ j))) leD := by
  intro Hs H σ env x y v u s hs I hx hy Q q
  cases x <;> cases y <;> try (cases hs; done)
  cases hs
  exact ⟨_, _, hx, hy, ok_val I rfl (show Rep X.K Hs (.bool _) (.bl _) from rfl) q⟩
theorem ok_gt : R2ok X.K (rI0 fun i j => .bl (decide (j < i))) gtD := by
  intro Hs H σ env x y v u s hs I hx hy Q q
  cases x <;> cases y <;> try (cases hs; done)
  cases hs
  exact ⟨_, _, hx, hy, ok_val I rfl (show Rep X.K Hs (.bool _) (.bl _) from rfl) q⟩
theorem ok_ge : R2ok X.K (rI0 fun i j => .bl (decide (j ≤ i))) geD := by
  intro Hs H σ env x y v u s hs I hx hy Q q
  cases x <;> cases y <;> try (cases hs; done)
  cases hs
  exact ⟨_, _, hx, hy, ok_val I rfl (show Rep X.K Hs (.bool _) (.bl _) from rfl) q⟩
/-- is None; is True, is False -/
def isNone : PyData → Bool
  | .none => true
  | _ => false
def isB : PyData → PyData → Option Bool
  | .bool a, .bool b => some (decide (a = b))
  | x, .none => some (isNone x)
  | _, _ => none
def isD (x y : PyData) : Option Slot := (isB x y).bind bV
def isnD (x y : PyData) : Option Slot := (isB x y).bind fun b => bV (!b)
theorem isNone_v {K : PySem.W.Frag} {Hs H : Hp} : ∀ {x : PyData} {v : V}, Top K Hs H x v → decide (v = .non) = isNone x
  | .none, v, h => by cases (show v = .non from h); rfl
  | .bool b, v, h => by cases (show v = .bl b from h); rfl
  | .int b, v, h => by cases (show v = .int b from h); rfl
  | .str b, v, h => by cases (show v = .str b from h); rfl
  | .list b, v, h => by obtain ⟨a, vs, rfl, _⟩ := h; rfl
  | .tuple b, v, h => by obtain ⟨a, vs, rfl, _⟩ := h; rfl
  | .dict b, v, h => by obtain ⟨a, C, dx, fs, c, v0, rfl, _⟩ := h; rfl
def rIsX : R2 := fun x y H Q => (y = .non ∧ Q (.bl (decide (x = .non))) H) ∨ (∃ a b, x = .bl a ∧ y = .bl b ∧ Q (.bl (decide (a = b))) H)
def rIsnX : R2 := fun x y H Q => (y = .non ∧ Q (.bl (!decide (x = .non))) H) ∨ (∃ a b, x = .bl a ∧ y = .bl b ∧ Q (.bl (!decide (a = b))) H)
theorem ok_is : R2ok X.K rIsX isD := by
  intro Hs H σ env x y v u s hs I hx hy Q q
  unfold isD isB at hs
  split at hs
  · rename_i a b
    cases hs
    exact .inr ⟨a, b, hx, hy, ok_val I rfl (show Rep X.K Hs (.bool _) (.bl _) from rfl) q⟩
  · cases hs
    exact .inl ⟨hy, by rw [isNone_v hx]; exact ok_val I rfl (show Rep X.K Hs (.bool _) (.bl _) from rfl) q⟩
  · cases hs
theorem ok_isn : R2ok X.K rIsnX isnD := by
  intro Hs H σ env x y v u s hs I hx hy Q q
  unfold isnD isB at hs
  split at hs
  · rename_i a b
    cases hs
    exact .inr ⟨a, b, hx, hy, ok_val I rfl (show Rep X.K Hs (.bool _) (.bl _) from rfl) q⟩
  · cases hs
    exact .inl ⟨hy, by rw [isNone_v hx]; exact ok_val I rfl (show Rep X.K Hs (.bool _) (.bl _) from rfl) q⟩
  · cases hs
end Ip

set_option Elab.async false
set_option linter.all false
set_option maxRecDepth 100000
set_option maxHeartbeats 4000000
namespace Ip
open PySem L2
open Evl (Ex sz_of fresh_back)
variable {X : Cx} {a b e : Expr} {pos : Pos}

/-! ### tests -/
def boolT (f : MEnv → Option (Slot × MEnv)) : MEnv → Option (Bool × MEnv) := fun env => match f env with
  | some (.val (.bool b), e1) => some (b, e1)
  | _ => none
theorem boolT_some {f : MEnv → Option (Slot × MEnv)} {env env' : MEnv} {b : Bool} (h : boolT f env = some (b, env')) : f env = some (.val (.bool b), env') := by
  unfold boolT at h
  split at h
  · rename_i b0 e1 h0
    cases h
    exact h0
  · cases h
/-- an expression that is plain in a test -/
theorem st_val {f : MEnv → Option (Slot × MEnv)} (h : SE X e f) (he : ∀ whole, isTrue e X.env whole = (do let v ← whole; standAt e.pos; holding [v] (truthy v))) : ST X e (boolT f) := by
  refine ⟨?_⟩
  intro env σ Hs H b env' hf I Q q
  refine WT.of (pt_val (W.pe X e) he) ?_
  exact h env σ Hs H _ env' (boolT_some hf) I _ fun v Hs' H' g I' r => ⟨b, r, q Hs' H' g I'⟩
/-- the reading of two operands and an operation -/
theorem rd_op2 {fa fb : MEnv → Option (Lr × MEnv)} {g : PyData → PyData → Option Slot} {r : R2} (ha : SL X a fa) (hb : SL X b fb) (hr : R2ok X.K r g) {env : MEnv} {σ : L2.St} {Hs H : Hp} {s : Slot} {env' : MEnv} (hf : op2 fa fb g env = some (s, env'))
    (I : InvS X.K Hs H σ env) (Q : VK) (q : ∀ v Hs' H', GoE σ env Hs H env' Hs' H' → InvS X.K Hs' H' σ env' → RepR X.K H Hs' H' s v → Q v H') : tOp r (W X a) (W X b) σ H Q := by
  unfold op2 at hf
  split at hf
  · rename_i ra e1 h1
    split at hf
    · rename_i rb e2 h2
      split at hf
      · rename_i x y hx hy
        split at hf
        · rename_i s0 hs
          cases hf
          refine ha env σ Hs H ra e1 h1 I _ fun v Hs1 H1 g1 I1 r1 => ?_
          refine hb e1 σ Hs1 H1 rb env' h2 I1 _ fun u Hs2 H2 g2 I2 r2 => ?_
          refine hr Hs2 H2 σ env' x y v u s hs I2 (RepLr.top I2 (r1.mono g2.sh) hx) (RepLr.top I2 r2 hy) Q fun z Hs3 H3 g3 I3 r3 => ?_
          exact q z Hs3 H3 ((g1.trans g2).trans g3) I3 (RepR.mono (fun p hp => (g1.trans g2).none_back hp) r3)
        · cases hf
      · cases hf
    · cases hf
  · cases hf
theorem st_cmp {op : CmpOp} {fa fb : MEnv → Option (Lr × MEnv)} {g : PyData → PyData → Option Slot} {r : R2} (ho : OpR X (compareOp op) r) (ha : SL X a fa) (hb : SL X b fb) (hr : R2ok X.K r g) (hm : behindInMarks op b = false) :
    ST X (.Compare a [op] [b] pos) (boolT (op2 fa fb g)) := by
  refine ⟨?_⟩
  intro env σ Hs H k env' hf I Q q
  refine WT.of (pt_cmpR ho (W.pe X a) (W.pe X b) hm) ?_
  exact rd_op2 ha hb hr (boolT_some hf) I _ fun v Hs' H' g I' r => ⟨k, r, q Hs' H' g I'⟩
theorem se_cmp {op : CmpOp} {fa fb : MEnv → Option (Lr × MEnv)} {g : PyData → PyData → Option Slot} {r : R2} (ho : OpR X (compareOp op) r) (ha : SL X a fa) (hb : SL X b fb) (hr : R2ok X.K r g) (hm : behindInMarks op b = false) :
    SE X (.Compare a [op] [b] pos) (op2 fa fb g) := se_op2 ha hb hr (pe_cmpR ho (W.pe X a) (W.pe X b) hm)
/-- not -/
def notT (f : MEnv → Option (Bool × MEnv)) : MEnv → Option (Bool × MEnv) := fun env => match f env with
  | some (b, e1) => some (!b, e1)
  | none => none
theorem st_not {f : MEnv → Option (Bool × MEnv)} (h : ST X a f) : ST X (.UnaryOp .Not a pos) (notT f) := by
  refine ⟨?_⟩
  intro env σ Hs H b env' hf I Q q
  unfold notT at hf
  split at hf
  · rename_i b0 e1 h0
    cases hf
    exact WT.of (pt_not (WT.pt X a)) (h env σ Hs H b0 env' h0 I _ q)
  · cases hf
def boolS (f : MEnv → Option (Bool × MEnv)) : MEnv → Option (Slot × MEnv) := fun env => match f env with
  | some (b, e1) => some (.val (.bool b), e1)
  | none => none
theorem rd_boolS {f : MEnv → Option (Bool × MEnv)} {env env' : MEnv} {r : Slot} (h : boolS f env = some (r, env')) : ∃ b, f env = some (b, env') ∧ r = .val (.bool b) := by
  unfold boolS at h
  split at h
  · rename_i b e1 h0
    cases h
    exact ⟨b, h0, rfl⟩
  · cases h
/-- not, as a value -/
theorem se_not {f : MEnv → Option (Slot × MEnv)} (h : SE X a f) : SE X (.UnaryOp .Not a pos) (boolS (notT (boolT f))) := by
  refine ⟨?_⟩
  intro env σ Hs H r env' hf I Q q
  obtain ⟨b, hb, rfl⟩ := rd_boolS hf
  unfold notT at hb
  split at hb
  · rename_i b0 e1 h0
    cases hb
    refine W.of (pe_not (W.pe X a)) ?_
    exact h env σ Hs H _ env' (boolT_some h0) I _ fun v Hs' H' g I' r => ⟨b0, r, q _ Hs' H' g I' rfl⟩
  · cases hb
/-! and, or -/
def andT (fa fb : MEnv → Option (Bool × MEnv)) : MEnv → Option (Bool × MEnv) := fun env => match fa env with
  | some (true, e1) => fb e1
  | some (false, e1) => some (false, e1)
  | none => none
def orT (fa fb : MEnv → Option (Bool × MEnv)) : MEnv → Option (Bool × MEnv) := fun env => match fa env with
  | some (false, e1) => fb e1
  | some (true, e1) => some (true, e1)
  | none => none
theorem pw_of {op : BoolOp} {es : List Expr} {t : TT} (h : PT X (.BoolOp op es pos) t) : PW X (.BoolOp op es pos) t := ⟨fun whole pins s σ H Q I ht => by
  have k := h.run pins s σ H Q I ht
  unfold PySem.isTrue at k ⊢
  exact k⟩
theorem st_one {op : BoolOp} {fa : MEnv → Option (Bool × MEnv)} (ha : ST X a fa) : ST X (.BoolOp op [a] pos) fa := by
  refine ⟨?_⟩
  intro env σ Hs H b env' hf I Q q
  cases op with
  | And => exact WT.of (pw_and1 (WT.pt X a)).pt (ha env σ Hs H b env' hf I Q q)
  | Or => exact WT.of (pw_or1 (WT.pt X a)).pt (ha env σ Hs H b env' hf I Q q)
theorem st_and {fa fb : MEnv → Option (Bool × MEnv)} {rest : List Expr} (ha : ST X a fa) (hb : ST X (.BoolOp .And (b :: rest) pos) fb) : ST X (.BoolOp .And (a :: b :: rest) pos) (andT fa fb) := by
  refine ⟨?_⟩
  intro env σ Hs H k env' hf I Q q
  refine WT.of (pw_and (WT.pt X a) (pw_of (WT.pt X _))).pt ?_
  unfold andT at hf
  split at hf
  · rename_i e1 h0
    refine ha env σ Hs H true e1 h0 I _ fun Hs1 H1 g1 I1 => ?_
    refine iteT ?_
    exact hb e1 σ Hs1 H1 k env' hf I1 Q fun Hs2 H2 g2 I2 => q Hs2 H2 (g1.trans g2) I2
  · rename_i e1 h0
    cases hf
    refine ha env σ Hs H false env' h0 I _ fun Hs1 H1 g1 I1 => ?_
    refine iteF ?_
    exact q Hs1 H1 g1 I1
  · cases hf
theorem st_or {fa fb : MEnv → Option (Bool × MEnv)} {rest : List Expr} (ha : ST X a fa) (hb : ST X (.BoolOp .Or (b :: rest) pos) fb) : ST X (.BoolOp .Or (a :: b :: rest) pos) (orT fa fb) := by
  refine ⟨?_⟩
  intro env σ Hs H k env' hf I Q q
  refine WT.of (pw_or (WT.pt X a) (pw_of (WT.pt X _))).pt ?_
  unfold orT at hf
  split at hf
  · rename_i e1 h0
    refine ha env σ Hs H false e1 h0 I _ fun Hs1 H1 g1 I1 => ?_
    refine iteF ?_
    exact hb e1 σ Hs1 H1 k env' hf I1 Q fun Hs2 H2 g2 I2 => q Hs2 H2 (g1.trans g2) I2
  · rename_i e1 h0
    cases hf
    refine ha env σ Hs H true env' h0 I _ fun Hs1 H1 g1 I1 => ?_
    refine iteT ?_
    exact q Hs1 H1 g1 I1
  · cases hf
/-- as values: all but the last are True or False -/
def andE (fa fb : MEnv → Option (Slot × MEnv)) : MEnv → Option (Slot × MEnv) := fun env => match fa env with
  | some (.val (.bool true), e1) => fb e1
  | some (.val (.bool false), e1) => some (.val (.bool false), e1)
  | _ => none
def orE (fa fb : MEnv → Option (Slot × MEnv)) : MEnv → Option (Slot × MEnv) := fun env => match fa env with
  | some (.val (.bool false), e1) => fb e1
  | some (.val (.bool true), e1) => some (.val (.bool true), e1)
  | _ => none
theorem se_one {op : BoolOp} {fa : MEnv → Option (Slot × MEnv)} (ha : SE X a fa) : SE X (.BoolOp op [a] pos) fa := .mk fun env σ Hs H r env' hf I Q q => W.of (pe_one (W.pe X a)) (ha env σ Hs H r env' hf I Q q)
theorem se_and {fa fb : MEnv → Option (Slot × MEnv)} {rest : List Expr} (ha : SE X a fa) (hb : SE X (.BoolOp .And (b :: rest) pos) fb) : SE X (.BoolOp .And (a :: b :: rest) pos) (andE fa fb) := by
  refine ⟨?_⟩
  intro env σ Hs H k env' hf I Q q
  refine W.of (pe_and (W.pe X a) (W.pe X _)) ?_
  unfold andE at hf
  split at hf
  · rename_i e1 h0
    refine ha env σ Hs H _ e1 h0 I _ fun v Hs1 H1 g1 I1 r1 => ⟨true, r1, ?_⟩
    refine iteT ?_
    exact hb e1 σ Hs1 H1 k env' hf I1 Q fun z Hs2 H2 g2 I2 r2 => q z Hs2 H2 (g1.trans g2) I2 (RepR.mono (fun p hp => g1.none_back hp) r2)
  · rename_i e1 h0
    cases hf
    refine ha env σ Hs H _ env' h0 I _ fun v Hs1 H1 g1 I1 r1 => ⟨false, r1, ?_⟩
    refine iteF ?_
    exact q _ Hs1 H1 g1 I1 rfl
  · cases hf
theorem se_or {fa fb : MEnv → Option (Slot × MEnv)} {rest : List Expr} (ha : SE X a fa) (hb : SE X (.BoolOp .Or (b :: rest) pos) fb) : SE X (.BoolOp .Or (a :: b :: rest) pos) (orE fa fb) := by
  refine ⟨?_⟩
  intro env σ Hs H k env' hf I Q q
  refine W.of (pe_or (W.pe X a) (W.pe X _)) ?_
  unfold orE at hf
  split at hf
  · rename_i e1 h0
    refine ha env σ Hs H _ e1 h0 I _ fun v Hs1 H1 g1 I1 r1 => ⟨false, r1, ?_⟩
    refine iteF ?_
    exact hb e1 σ Hs1 H1 k env' hf I1 Q fun z Hs2 H2 g2 I2 r2 => q z Hs2 H2 (g1.trans g2) I2 (RepR.mono (fun p hp => g1.none_back hp) r2)
  · rename_i e1 h0
    cases hf
    refine ha env σ Hs H _ env' h0 I _ fun v Hs1 H1 g1 I1 r1 => ⟨true, r1, ?_⟩
    refine iteT ?_
    exact q _ Hs1 H1 g1 I1 rfl
  · cases hf
/-- a if t else b -/
def ifE (ft : MEnv → Option (Bool × MEnv)) (fa fb : MEnv → Option (Slot × MEnv)) : MEnv → Option (Slot × MEnv) := fun env => match ft env with
  | some (true, e1) => fa e1
  | some (false, e1) => fb e1
  | none => none
theorem se_if {t : Expr} {ft : MEnv → Option (Bool × MEnv)} {fa fb : MEnv → Option (Slot × MEnv)} (ht : ST X t ft) (ha : SE X a fa) (hb : SE X b fb) : SE X (.IfExp t a b pos) (ifE ft fa fb) := by
  refine ⟨?_⟩
  intro env σ Hs H k env' hf I Q q
  refine W.of (pe_ifExp (WT.pt X t) (W.pe X a) (W.pe X b)) ?_
  unfold ifE at hf
  split at hf
  · rename_i e1 h0
    refine ht env σ Hs H _ e1 h0 I _ fun Hs1 H1 g1 I1 => ?_
    refine iteT ?_
    exact ha e1 σ Hs1 H1 k env' hf I1 Q fun z Hs2 H2 g2 I2 r2 => q z Hs2 H2 (g1.trans g2) I2 (RepR.mono (fun p hp => g1.none_back hp) r2)
  · rename_i e1 h0
    refine ht env σ Hs H _ e1 h0 I _ fun Hs1 H1 g1 I1 => ?_
    refine iteF ?_
    exact hb e1 σ Hs1 H1 k env' hf I1 Q fun z Hs2 H2 g2 I2 r2 => q z Hs2 H2 (g1.trans g2) I2 (RepR.mono (fun p hp => g1.none_back hp) r2)
  · cases hf

/-! ### one operand -/
def op1 (fa : MEnv → Option (Lr × MEnv)) (g : PyData → Option Slot) : MEnv → Option (Slot × MEnv) := fun env => match fa env with
  | some (ra, e1) => match look ra e1 with
    | some x => match g x with
      | some s => some (s, e1)
      | none => none
    | none => none
  | none => none
def R1ok (K : PySem.W.Frag) (r : V → Hp → VK → Prop) (g : PyData → Option Slot) : Prop := ∀ (Hs H : Hp) (σ : L2.St) (env : MEnv) (x : PyData) (v : V) (s : Slot), g x = some s → InvS K Hs H σ env → Top K Hs H x v →
  ∀ Q : VK, (∀ z Hs' H', GoE σ env Hs H env Hs' H' → InvS K Hs' H' σ env → RepR K H Hs' H' s z → Q z H') → r v H Q
theorem se_op1 {fa : MEnv → Option (Lr × MEnv)} {g : PyData → Option Slot} {r : V → Hp → VK → Prop} {ee : Expr} (ha : SL X a fa) (hr : R1ok X.K r g) (h : PE X ee (fun σ H Q => W X a σ H fun x H1 => r x H1 Q)) : SE X ee (op1 fa g) := by
  refine ⟨?_⟩
  intro env σ Hs H s env' hf I Q q
  unfold op1 at hf
  split at hf
  · rename_i ra e1 h1
    split at hf
    · rename_i x hx
      split at hf
      · rename_i s0 hs
        cases hf
        refine W.of h ?_
        refine ha env σ Hs H ra env' h1 I _ fun v Hs1 H1 g1 I1 r1 => ?_
        exact hr Hs1 H1 σ env' x v s hs I1 (RepLr.top I1 r1 hx) Q fun z Hs3 H3 g3 I3 r3 => q z Hs3 H3 (g1.trans g3) I3 (RepR.mono (fun p hp => g1.none_back hp) r3)
      · cases hf
    · cases hf
  · cases hf
def negD : PyData → Option Slot
  | .int i => some (.val (.int (-i)))
  | _ => none
theorem ok_neg {K : PySem.W.Frag} : R1ok K (rU fun i => .int (-i)) negD := by
  intro Hs H σ env x v s hs I hx Q q
  cases x <;> try (cases hs; done)
  cases hs
  exact ⟨_, hx, ok_val I rfl (show Rep K Hs (.int _) (.int _) from rfl) q⟩

/-! ### items and slices -/
theorem atI_rep {K : PySem.W.Frag} {H : Hp} {ds : List PyData} {vs : List V} (h : RepL K H ds vs) {i : Int} {d : PyData} (e : atI ds i = some d) : ∃ v, atI vs i = some v ∧ Rep K H d v := by
  unfold atI at e ⊢
  rw [← RepL.length h]
  cases hj : ixN ds.length i with
  | none => rw [hj] at e; cases e
  | some j =>
    rw [hj] at e
    obtain ⟨v, h1, h2⟩ := RepL.get h (show ds[j]? = some d from e)
    exact ⟨v, h1, h2⟩
def ixD : PyData → PyData → Option Slot
  | .list xs, .int i => (atI xs i).map .val
  | .tuple xs, .int i => (atI xs i).map .val
  | .str z, .int i => if z.length ≤ 100000 then (atI z.cps.toList i).map fun c => .val (.str ⟨#[c]⟩) else none
  | _, _ => none
theorem ok_ix : R2ok X.K (rIx X.K) ixD := by
  intro Hs H σ env x y v u s hs I hx hy Q q
  cases x <;> cases y <;> try (cases hs; done)
  · rename_i z i
    unfold ixD at hs
    simp only at hs
    split at hs
    · rename_i hz
      cases hc : atI z.cps.toList i with
      | none => rw [hc] at hs; cases hs
      | some c =>
        rw [hc] at hs
        cases hs
        exact .inr (.inr ⟨z, i, c, hx, hy, sz_of hz, hc, ok_val I rfl (show Rep X.K Hs (.str _) (.str _) from rfl) q⟩)
    · cases hs
  · rename_i xs i
    have hs : (atI xs i).map Slot.val = some s := hs
    cases hd : atI xs i with
    | none => rw [hd] at hs; cases hs
    | some d =>
      rw [hd] at hs
      cases hs
      obtain ⟨l, vs, e1, h1, h2⟩ := hx
      obtain ⟨w, e2, h3⟩ := atI_rep h2 hd
      exact .inl ⟨l, vs, i, w, e1, hy, h1, e2, ok_val I rfl h3 q⟩
  · rename_i xs i
    have hs : (atI xs i).map Slot.val = some s := hs
    cases hd : atI xs i with
    | none => rw [hd] at hs; cases hs
    | some d =>
      rw [hd] at hs
      cases hs
      obtain ⟨l, vs, e1, h1, h2⟩ := hx
      obtain ⟨w, e2, h3⟩ := atI_rep h2 hd
      exact .inr (.inl ⟨l, vs, i, w, e1, hy, Evl.ex_t I.sh h1, e2, ok_val I rfl h3 q⟩)
theorem se_ix {fa fb : MEnv → Option (Lr × MEnv)} (ha : SL X a fa) (hb : SL X b fb) (hp : PlainIx b) : SE X (.Subscript a b pos) (op2 fa fb ixD) := se_op2 ha hb ok_ix (pe_ix ix_seq (W.pe X a) (W.pe X b) hp)
/-- xs[lo:hi] -/
def cutD (xs : List PyData) (lo hi : Option Int) : List PyData := (xs.drop (HT.sIx xs.length 0 lo)).take (HT.sIx xs.length xs.length hi - HT.sIx xs.length 0 lo)
theorem cut_rep {K : PySem.W.Frag} {H : Hp} {ds : List PyData} {vs : List V} (h : RepL K H ds vs) (lo hi : Option Int) : RepL K H (cutD ds lo hi) (cutV vs lo hi) := by
  unfold cutD cutV
  rw [← RepL.length h]
  exact RepL.take _ (RepL.drop _ h)
structure SO (X : Cx) (e : Option Expr) (f : MEnv → Option (Option Int × MEnv)) : Prop where
  run : ∀ (env : MEnv) (σ : L2.St) (Hs H : Hp) (o : Option Int) (env' : MEnv), f env = some (o, env') → InvS X.K Hs H σ env → ∀ Q : Option Int → Hp → Prop, (∀ Hs' H', GoE σ env Hs H env' Hs' H' → InvS X.K Hs' H' σ env' → Q o H') → (match e with | none => tNoPart | some e => tPart (W X e)) σ H Q
instance {X : Cx} {e : Option Expr} {f : MEnv → Option (Option Int × MEnv)} : CoeFun (SO X e f) (fun _ => ∀ (env : MEnv) (σ : L2.St) (Hs H : Hp) (o : Option Int) (env' : MEnv), f env = some (o, env') → InvS X.K Hs H σ env → ∀ Q : Option Int → Hp → Prop, (∀ Hs' H', GoE σ env Hs H env' Hs' H' → InvS X.K Hs' H' σ env' → Q o H') → (match e with | none => tNoPart | some e => tPart (W X e)) σ H Q) := ⟨SO.run⟩
def intO (f : MEnv → Option (Lr × MEnv)) : MEnv → Option (Option Int × MEnv) := fun env => match f env with
  | some (r, e1) => match look r e1 with
    | some (.int i) => some (some i, e1)
    | _ => none
  | none => none
theorem so_none : SO X none (fun env => some (none, env)) := .mk fun env σ Hs H o env' hf I Q q => by
  cases hf
  exact q Hs H GoE.refl I
theorem so_some {f : MEnv → Option (Lr × MEnv)} (h : SL X e f) : SO X (some e) (intO f) := by
  refine ⟨?_⟩
  intro env σ Hs H o env' hf I Q q
  unfold intO at hf
  split at hf
  · rename_i r e1 h1
    split at hf
    · rename_i i hi
      cases hf
      exact h env σ Hs H r env' h1 I _ fun v Hs' H' g I' rr => ⟨i, rep_int (RepLr.top I' rr hi), q Hs' H' g I'⟩
    · cases hf
  · cases hf
theorem so_po (e : Option Expr) : PO X e (match e with | none => tNoPart | some e => tPart (W X e)) := by
  cases e with
  | none => exact po_none
  | some e => exact po_some (W.pe X e)
def slF (fa : MEnv → Option (Lr × MEnv)) (fl fh : MEnv → Option (Option Int × MEnv)) : MEnv → Option (Slot × MEnv) := fun env => match fa env with
  | some (ra, e1) => match fl e1 with
    | some (lo, e2) => match fh e2 with
      | some (hi, e3) => match look ra e3 with
        | some (.list xs) => some (.own (cutD xs lo hi), e3)
        | some (.tuple xs) => some (.val (.tuple (cutD xs lo hi)), e3)
        | _ => none
      | none => none
    | none => none
  | none => none
theorem cut_whole {xs : List PyData} {lo hi : Option Int} (h : HT.sIx xs.length 0 lo = 0 ∧ HT.sIx xs.length xs.length hi = xs.length) : cutD xs lo hi = xs := by
  unfold cutD
  rw [h.1, h.2]
  simp
theorem se_sl {fa : MEnv → Option (Lr × MEnv)} {fl fh : MEnv → Option (Option Int × MEnv)} {lo hi : Option Expr} {p2 : Pos} (ha : SL X a fa) (hl : SO X lo fl) (hh : SO X hi fh) : SE X (.Subscript a (.Slice lo hi none p2) pos) (slF fa fl fh) := by
  refine ⟨?_⟩
  intro env σ Hs H s env' hf I Q q
  unfold slF at hf
  split at hf
  · rename_i ra e1 h1
    split at hf
    · rename_i l e2 h2
      split at hf
      · rename_i h e3 h3
        refine W.of (pe_slice (SlR.or sl_list sl_tupA) (W.pe X a) (so_po lo) (so_po hi)) ?_
        refine ha env σ Hs H ra e1 h1 I _ fun v Hs1 H1 g1 I1 r1 => ?_
        refine hl e1 σ Hs1 H1 l e2 h2 I1 _ fun Hs2 H2 g2 I2 => ?_
        refine hh e2 σ Hs2 H2 h e3 h3 I2 _ fun Hs3 H3 g3 I3 => ?_
        have g := (g1.trans g2).trans g3
        have top : ∀ {d : PyData}, look ra e3 = some d → Top X.K Hs3 H3 d v := fun hd => RepLr.top I3 (r1.mono (g2.trans g3).sh) hd
        split at hf
        · rename_i xs hx
          cases hf
          obtain ⟨p, vs, e4, k1, k2⟩ := top hx
          exact .inl ⟨p, vs, e4, k1, ok_newL (s := .own (cutD xs l h)) I3 rfl (cut_rep k2 l h) fun z Hs' H' g' I' r' => q z Hs' H' (g.trans g') I' (RepR.mono (fun p hp => g.none_back hp) r')⟩
        · rename_i xs hx
          cases hf
          obtain ⟨p, vs, e4, k1, k2⟩ := top hx
          have hlen := RepL.length k2
          refine .inr ⟨p, vs, e4, Evl.ex_t I3.sh k1, fun hw => ?_, fun _ => ok_newT (s := .val (.tuple (cutD xs l h))) I3 rfl (cut_rep k2 l h) fun z Hs' H' g' I' r' => q z Hs' H' (g.trans g') I' (RepR.mono (fun p hp => g.none_back hp) r')⟩
          rw [← hlen] at hw
          exact q _ Hs3 H3 g I3 ⟨p, vs, rfl, k1, by rw [cut_whole hw]; exact k2⟩
        · cases hf
      · cases hf
    · cases hf
  · cases hf

/-! ### argument lists, displays -/
def plainE : Expr → Bool
  | .Starred _ _ => false
  | _ => true
theorem star_plain {e : Expr} {es : List Expr} {env : PySem.Env} (h : plainE e = true) : starEach (e :: es) env = (false, eval e env) :: starEach es env := by
  cases e <;> first | rfl | cases h
theorem star_any {env : PySem.Env} {pos : Pos} : ∀ {es : List Expr}, es.all plainE = true → (backTo pos (starEach es env)).any (·.1) = false
  | [], _ => rfl
  | e :: es, h => by
    rw [List.all_cons, Bool.and_eq_true] at h
    rw [star_plain h.1]
    exact star_any (es := es) h.2
def consA (fe : MEnv → Option (PyData × MEnv)) (fs : MEnv → Option (List PyData × MEnv)) : MEnv → Option (List PyData × MEnv) := fun env => match fe env with
  | some (d, e1) => match fs e1 with
    | some (ds, e2) => some (d :: ds, e2)
    | none => none
  | none => none
theorem sa_nil : SA X [] (fun env => some ([], env)) := .mk fun env σ Hs H ds env' hf I Q q => by
  cases hf
  exact WA.of pa_nil (q [] Hs H GoE.refl I rfl)
theorem sa_cons {es : List Expr} {fe : MEnv → Option (PyData × MEnv)} {fs : MEnv → Option (List PyData × MEnv)} (h : SV X e fe) (hs : SA X es fs) (hp : plainE e = true) : SA X (e :: es) (consA fe fs) := by
  refine ⟨?_⟩
  intro env σ Hs H ds env' hf I Q q
  unfold consA at hf
  split at hf
  · rename_i d e1 h1
    split at hf
    · rename_i ds2 e2 h2
      cases hf
      refine WA.of (pa_cons (W.pe X e) (WA.pa X es) (star_plain hp)) ?_
      refine h env σ Hs H d e1 h1 I _ fun v Hs1 H1 g1 I1 r1 => ?_
      exact hs e1 σ Hs1 H1 ds2 env' h2 I1 _ fun vs Hs2 H2 g2 I2 r2 => q (v :: vs) Hs2 H2 (g1.trans g2) I2 ⟨v, vs, rfl, Rep.mono g2.sh d v r1, r2⟩
    · cases hf
  · cases hf
def tupF (f : MEnv → Option (List PyData × MEnv)) : MEnv → Option (Slot × MEnv) := fun env => match f env with
  | some (ds, e1) => if ds.length ≤ 100000 then some (.val (.tuple ds), e1) else none
  | none => none
def lstF (f : MEnv → Option (List PyData × MEnv)) : MEnv → Option (Slot × MEnv) := fun env => match f env with
  | some (ds, e1) => if ds.length ≤ 100000 then some (.own ds, e1) else none
  | none => none
theorem se_tup {es : List Expr} {f : MEnv → Option (List PyData × MEnv)} {x1} (h : SA X es f) : SE X (.Tuple es x1 pos) (tupF f) := by
  refine ⟨?_⟩
  intro env σ Hs H s env' hf I Q q
  unfold tupF at hf
  split at hf
  · rename_i ds e1 h1
    split at hf
    · rename_i hz
      cases hf
      refine W.of (pe_tup (WA.pa X es)) ?_
      refine h env σ Hs H ds env' h1 I _ fun vs Hs1 H1 g1 I1 r1 => ⟨sz_of (by rw [← RepL.length r1]; exact hz), ?_⟩
      exact ok_newT (s := .val (.tuple ds)) I1 rfl r1 fun z Hs' H' g' I' r' => q z Hs' H' (g1.trans g') I' (RepR.mono (fun p hp => g1.none_back hp) r')
    · cases hf
  · cases hf
theorem se_lst {es : List Expr} {f : MEnv → Option (List PyData × MEnv)} (h : SA X es f) : SE X (.List es pos) (lstF f) := by
  refine ⟨?_⟩
  intro env σ Hs H s env' hf I Q q
  unfold lstF at hf
  split at hf
  · rename_i ds e1 h1
    split at hf
    · rename_i hz
      cases hf
      refine W.of (pe_lst (WA.pa X es)) ?_
      refine h env σ Hs H ds env' h1 I _ fun vs Hs1 H1 g1 I1 r1 => ⟨sz_of (by rw [← RepL.length r1]; exact hz), ?_⟩
      exact ok_newL (s := .own ds) I1 rfl r1 fun z Hs' H' g' I' r' => q z Hs' H' (g1.trans g') I' (RepR.mono (fun p hp => g1.none_back hp) r')
    · cases hf
  · cases hf
end Ip

set_option Elab.async false
set_option linter.all false
set_option maxRecDepth 100000
set_option maxHeartbeats 4000000
namespace Ip
open PySem L2
open Evl (Ex sz_of fresh_back)
variable {X : Cx} {a b e : Expr} {pos : Pos} {K : PySem.W.Frag} {Hs Hs' H H' : Hp} {σ : L2.St} {env env' : MEnv}

/-! ### a slot gets a value -/
theorem getElem?_set_some {α : Type} {l : List α} {i j : Nat} {x y : α} (h : (l.set i x)[j]? = some y) : (i = j ∧ x = y ∧ i < l.length) ∨ (i ≠ j ∧ l[j]? = some y) := by
  by_cases e : i = j
  · subst e
    rw [List.getElem?_set] at h
    rw [if_pos rfl] at h
    split at h
    · cases h
      exact .inl ⟨rfl, rfl, by assumption⟩
    · cases h
  · rw [List.getElem?_set_ne e] at h
    exact .inr ⟨e, h⟩
def setS (i : Nat) (s : Slot) (env : MEnv) : Option MEnv := match env[i]? with
  | some (.io _) => none
  | some _ => some (env.set i s)
  | none => none
theorem setS_some {i : Nat} {s : Slot} (h : setS i s env = some env') : env' = env.set i s ∧ i < env.length ∧ ∀ xs, env[i]? ≠ some (.io xs) := by
  unfold setS at h
  cases ht : env[i]? with
  | none => rw [ht] at h; cases h
  | some t =>
    rw [ht] at h
    have hi := (List.getElem?_eq_some_iff.mp ht).1
    cases t with
    | io xs => cases h
    | un => cases h; exact ⟨rfl, hi, fun xs e => by cases e⟩
    | val d => cases h; exact ⟨rfl, hi, fun xs e => by cases e⟩
    | own ys => cases h; exact ⟨rfl, hi, fun xs e => by cases e⟩
theorem st_set {i : Nat} {v : V} (h : i < σ.length) : (σ.set i (some v))[i]? = some (some v) := by
  rw [List.getElem?_set, if_pos rfl, if_pos h]
/-- the slot's new value is none of the lists that may change -/
theorem mut_set {i : Nat} {s : Slot} {v : V} {p : Addr} (hs : s.mut = none) (m : MutAt (σ.set i (some v)) (env.set i s) p) : MutAt σ env p := by
  obtain ⟨j, t, xs, e1, e2, e3⟩ := m
  rcases getElem?_set_some e1 with ⟨_, e4, _⟩ | ⟨ne, e4⟩
  · rw [← e4, hs] at e2
    cases e2
  · rw [List.getElem?_set_ne ne] at e3
    exact ⟨j, t, xs, e4, e2, e3⟩
theorem loc_set {i : Nat} {s : Slot} {v : V} {p : Addr} (hs : s.mut = none) (m : LocAt (σ.set i (some v)) (env.set i s) p) : LocAt σ env p := by
  obtain ⟨j, xs, e1, e3⟩ := m
  rcases getElem?_set_some e1 with ⟨_, e4, _⟩ | ⟨ne, e4⟩
  · rw [e4] at hs
    cases hs
  · rw [List.getElem?_set_ne ne] at e3
    exact ⟨j, xs, e4, e3⟩
theorem InvS.setV (I : InvS K Hs H σ env) {i : Nat} {d : PyData} {v : V} (hi : i < env.length) (r : Rep K Hs d v) : InvS K Hs H (σ.set i (some v)) (env.set i (.val d)) where
  len := by rw [List.length_set, List.length_set]; exact I.len
  sh := I.sh
  vals := fun j d' h => by
    rcases getElem?_set_some h with ⟨e1, e2, _⟩ | ⟨ne, e2⟩
    · cases e2
      subst e1
      exact ⟨v, st_set (by rw [I.len]; exact hi), r⟩
    · obtain ⟨w, h1, h2⟩ := I.vals j d' e2
      exact ⟨w, by rw [List.getElem?_set_ne ne]; exact h1, h2⟩
  muts := fun j s xs h hm => by
    rcases getElem?_set_some h with ⟨e1, e2, _⟩ | ⟨ne, e2⟩
    · rw [← e2] at hm
      cases hm
    · obtain ⟨p, vs, h1, h2⟩ := I.muts j s xs e2 hm
      exact ⟨p, vs, by rw [List.getElem?_set_ne ne]; exact h1, h2⟩
  diff := fun j k s t xs ys p h1 m1 h2 m2 g1 g2 => by
    rcases getElem?_set_some h1 with ⟨_, e2, _⟩ | ⟨ne, e2⟩
    · rw [← e2] at m1; cases m1
    · rcases getElem?_set_some h2 with ⟨_, e3, _⟩ | ⟨ne3, e3⟩
      · rw [← e3] at m2; cases m2
      · rw [List.getElem?_set_ne ne] at g1
        rw [List.getElem?_set_ne ne3] at g2
        exact I.diff j k s t xs ys p e2 m1 e3 m2 g1 g2
theorem io_set {i : Nat} {s : Slot} {v : V} (hn : ∀ xs, env[i]? ≠ some (.io xs)) (j : Nat) (xs : List PyData) (h : env[j]? = some (.io xs)) : (σ.set i (some v))[j]? = σ[j]? ∧ ∃ ys, (env.set i s)[j]? = some (.io ys) := by
  have ne : i ≠ j := fun z => hn xs (z ▸ h)
  exact ⟨List.getElem?_set_ne ne, xs, by rw [List.getElem?_set_ne ne]; exact h⟩
theorem Go.setV {i : Nat} {d : PyData} {v : V} (hn : ∀ xs, env[i]? ≠ some (.io xs)) : Go σ env Hs H (σ.set i (some v)) (env.set i (.val d)) Hs H := ⟨Ex.refl _, fun _ _ h _ => h, fun _ o h => ⟨o, h⟩, fun _ _ h => .inl h, fun _ h => .inl (mut_set rfl h), fun _ h => .inl (loc_set rfl h), io_set hn⟩
theorem InvS.setO (I : InvS K Hs H σ env) {i : Nat} {xs : List PyData} {vs : List V} {p : Addr} (hi : i < env.length) (hn : Hs p = none) (hp : H p = some (.lst vs)) (r : RepL K Hs xs vs) (nm : ¬ MutAt σ env p) : InvS K Hs H (σ.set i (some (.ref p))) (env.set i (.own xs)) where
  len := by rw [List.length_set, List.length_set]; exact I.len
  sh := I.sh
  vals := fun j d' h => by
    rcases getElem?_set_some h with ⟨e1, e2, _⟩ | ⟨ne, e2⟩
    · cases e2
    · obtain ⟨w, h1, h2⟩ := I.vals j d' e2
      exact ⟨w, by rw [List.getElem?_set_ne ne]; exact h1, h2⟩
  muts := fun j s ys h hm => by
    rcases getElem?_set_some h with ⟨e1, e2, _⟩ | ⟨ne, e2⟩
    · subst e2
      cases hm
      subst e1
      exact ⟨p, vs, st_set (by rw [I.len]; exact hi), hn, hp, r⟩
    · obtain ⟨q, ws, h1, h2⟩ := I.muts j s ys e2 hm
      exact ⟨q, ws, by rw [List.getElem?_set_ne ne]; exact h1, h2⟩
  diff := fun j k s t ys zs q h1 m1 h2 m2 g1 g2 => by
    rcases getElem?_set_some h1 with ⟨e1, e2, l1⟩ | ⟨ne, e2⟩
    · rcases getElem?_set_some h2 with ⟨e3, e4, _⟩ | ⟨ne3, e3⟩
      · rw [← e1, ← e3]
      · subst e1
        rw [st_set (by rw [I.len]; exact hi)] at g1
        cases g1
        rw [List.getElem?_set_ne ne3] at g2
        exact absurd ⟨k, t, zs, e3, m2, g2⟩ nm
    · rcases getElem?_set_some h2 with ⟨e3, e4, _⟩ | ⟨ne3, e3⟩
      · subst e3
        rw [st_set (by rw [I.len]; exact hi)] at g2
        cases g2
        rw [List.getElem?_set_ne ne] at g1
        exact absurd ⟨j, s, ys, e2, m1, g1⟩ nm
      · rw [List.getElem?_set_ne ne] at g1
        rw [List.getElem?_set_ne ne3] at g2
        exact I.diff j k s t ys zs q e2 m1 e3 m2 g1 g2
/-- from the start of the statement, where p was not yet -/
theorem Go.setO {σ0 : L2.St} {env0 : MEnv} {Hs0 H0 : Hp} (g : Go σ0 env0 Hs0 H0 σ env Hs H) {i : Nat} {xs : List PyData} {p : Addr} (h0 : H0 p = none) (hn : ∀ xs, env[i]? ≠ some (.io xs)) : Go σ0 env0 Hs0 H0 (σ.set i (some (.ref p))) (env.set i (.own xs)) Hs H where
  io := fun j ys h => by
    obtain ⟨e1, zs, h1⟩ := g.io j ys h
    obtain ⟨e2, h2⟩ := io_set (σ := σ) (s := .own xs) (v := .ref p) hn j zs h1
    exact ⟨e2.trans e1, h2⟩
  sh := g.sh
  kp := g.kp
  dm := g.dm
  nw := g.nw
  ow := fun a m => by
    obtain ⟨j, t, ys, e1, e2, e3⟩ := m
    rcases getElem?_set_some e1 with ⟨e4, _, _⟩ | ⟨ne, e4⟩
    · subst e4
      rw [List.getElem?_set, if_pos rfl] at e3
      split at e3
      · cases e3; exact .inr h0
      · cases e3
    · rw [List.getElem?_set_ne ne] at e3
      exact g.ow a ⟨j, t, ys, e4, e2, e3⟩
  lo := fun a m => by
    obtain ⟨j, ys, e1, e3⟩ := m
    rcases getElem?_set_some e1 with ⟨e4, _, _⟩ | ⟨ne, e4⟩
    · subst e4
      rw [List.getElem?_set, if_pos rfl] at e3
      split at e3
      · cases e3; exact .inr h0
      · cases e3
    · rw [List.getElem?_set_ne ne] at e3
      exact g.lo a ⟨j, ys, e4, e3⟩
/-- a slot's list changes -/
theorem InvS.change (I : InvS K Hs H σ env) {i : Nat} {s s' : Slot} {xs ys : List PyData} {vs : List V} {p : Addr} (h : env[i]? = some s) (hm : s.mut = some xs) (hm' : s'.mut = some ys) (hp : σ[i]? = some (some (.ref p))) (r : RepL K Hs ys vs) :
    InvS K Hs (upd H p (.lst vs)) σ (env.set i s') where
  len := by rw [List.length_set]; exact I.len
  sh := by
    obtain ⟨q, ws, h1, h2, _⟩ := I.muts i s xs h hm
    rw [h1] at hp
    cases hp
    exact Ex.mut I.sh h2
  vals := fun j d hj => by
    rcases getElem?_set_some hj with ⟨_, e2, _⟩ | ⟨ne, e2⟩
    · rw [e2] at hm'; cases hm'
    · exact I.vals j d e2
  muts := fun j t zs hj hmj => by
    rcases getElem?_set_some hj with ⟨e1, e2, _⟩ | ⟨ne, e2⟩
    · subst e1 e2
      rw [hm'] at hmj
      cases hmj
      obtain ⟨q, ws, h1, h2, _⟩ := I.muts i s xs h hm
      rw [h1] at hp
      cases hp
      exact ⟨p, vs, h1, h2, upd_same, r⟩
    · obtain ⟨q, ws, h1, h2, h3, h4⟩ := I.muts j t zs e2 hmj
      have nq : q ≠ p := fun e => ne (I.diff i j s t xs zs p h hm e2 hmj hp (e ▸ h1))
      exact ⟨q, ws, h1, h2, by rw [upd_ne nq]; exact h3, h4⟩
  diff := fun j k t u zs ws q hj mj hk mk g1 g2 => by
    have back : ∀ {j : Nat} {t : Slot} {zs : List PyData}, (env.set i s')[j]? = some t → t.mut = some zs → ∃ t' zs', env[j]? = some t' ∧ t'.mut = some zs' := fun {j t zs} hj mj => by
      rcases getElem?_set_some hj with ⟨e1, _, _⟩ | ⟨_, e2⟩
      · exact ⟨s, xs, e1 ▸ h, hm⟩
      · exact ⟨t, zs, e2, mj⟩
    obtain ⟨t1, z1, a1, a2⟩ := back hj mj
    obtain ⟨t2, z2, b1, b2⟩ := back hk mk
    exact I.diff j k t1 t2 z1 z2 q a1 a2 b1 b2 g1 g2
def Slot.put : Slot → List PyData → Slot
  | .own _, ys => .own ys
  | .io _, ys => .io ys
  | s, _ => s
theorem Slot.put_mut {s : Slot} {xs : List PyData} (h : s.mut = some xs) (ys : List PyData) : (s.put ys).mut = some ys := by
  cases s <;> first | rfl | cases h
theorem GoE.change (I : InvS K Hs H σ env) {i : Nat} {s : Slot} {xs ys : List PyData} {vs : List V} {p : Addr} (h : env[i]? = some s) (hm : s.mut = some xs) (hp : σ[i]? = some (some (.ref p))) :
    GoE σ env Hs H (env.set i (s.put ys)) Hs (upd H p (.lst vs)) where
  sh := Ex.refl _
  kp := fun a o ha nm => by
    have : a ≠ p := fun e => nm (e ▸ ⟨i, s, xs, h, hm, hp⟩)
    rw [upd_ne this]
    exact ha
  dm := fun a o ha => by
    by_cases e : a = p
    · exact ⟨_, by rw [e]; exact upd_same⟩
    · exact ⟨o, by rw [upd_ne e]; exact ha⟩
  nw := fun a o ha => .inl ha
  ow := fun a m => by
    obtain ⟨j, t, zs, e1, e2, e3⟩ := m
    rcases getElem?_set_some e1 with ⟨e4, _, _⟩ | ⟨_, e4⟩
    · exact ⟨j, s, xs, e4 ▸ h, hm, e3⟩
    · exact ⟨j, t, zs, e4, e2, e3⟩
  lo := fun a m => by
    obtain ⟨j, zs, e1, e3⟩ := m
    rcases getElem?_set_some e1 with ⟨e4, e5, _⟩ | ⟨_, e4⟩
    · subst e4
      cases s with
      | own us => exact ⟨i, us, h, e3⟩
      | io us => cases e5
      | un => cases hm
      | val d => cases hm
    · exact ⟨j, zs, e4, e3⟩
  io := fun j zs hj => by
    by_cases e : i = j
    · subst e
      rw [h] at hj
      cases hj
      exact ⟨ys, by rw [List.getElem?_set, if_pos rfl, if_pos (List.getElem?_eq_some_iff.mp h).1]; rfl⟩
    · exact ⟨zs, by rw [List.getElem?_set_ne e]; exact hj⟩

/-! ### targets -/
/-- as Go, no further lists among the slots -/
structure GoS (σ : L2.St) (env : MEnv) (Hs H : Hp) (σ' : L2.St) (env' : MEnv) (Hs' H' : Hp) : Prop where
  sh : Ex Hs Hs'
  kp : ∀ a o, H a = some o → ¬ MutAt σ env a → H' a = some o
  dm : ∀ a o, H a = some o → ∃ u, H' a = some u
  nw : ∀ a o, Hs' a = some o → Hs a = some o ∨ H a = none ∨ LocAt σ env a
  ow : ∀ a, MutAt σ' env' a → MutAt σ env a
  lo : ∀ a, LocAt σ' env' a → LocAt σ env a
  io : ∀ (i : Nat) (xs : List PyData), env[i]? = some (.io xs) → σ'[i]? = σ[i]? ∧ ∃ ys, env'[i]? = some (.io ys)
theorem GoS.go {σ' : L2.St} (g : GoS σ env Hs H σ' env' Hs' H') : Go σ env Hs H σ' env' Hs' H' := ⟨g.sh, g.kp, g.dm, g.nw, fun a h => .inl (g.ow a h), fun a h => .inl (g.lo a h), g.io⟩
theorem GoE.toS (g : GoE σ env Hs H env' Hs' H') : GoS σ env Hs H σ env' Hs' H' := ⟨g.sh, g.kp, g.dm, g.nw, g.ow, g.lo, fun i xs h => ⟨rfl, g.io i xs h⟩⟩
theorem GoS.toE (g : GoS σ env Hs H σ env' Hs' H') : GoE σ env Hs H env' Hs' H' := ⟨g.sh, g.kp, g.dm, g.nw, g.ow, g.lo, fun i xs h => (g.io i xs h).2⟩
theorem GoS.trans {σ1 σ2 : L2.St} {env1 env2 : MEnv} {Hs1 H1 Hs2 H2 : Hp} (g : GoS σ env Hs H σ1 env1 Hs1 H1) (g' : GoS σ1 env1 Hs1 H1 σ2 env2 Hs2 H2) : GoS σ env Hs H σ2 env2 Hs2 H2 where
  sh := g.sh.trans g'.sh
  kp := fun a o h n => g'.kp a o (g.kp a o h n) fun m => n (g.ow a m)
  dm := (g.go.trans g'.go).dm
  nw := (g.go.trans g'.go).nw
  ow := fun a h => g.ow a (g'.ow a h)
  lo := fun a h => g.lo a (g'.lo a h)
  io := (g.go.trans g'.go).io
theorem GoS.refl : GoS σ env Hs H σ env Hs H := GoE.refl.toS
theorem GoS.setV {i : Nat} {d : PyData} {v : V} (hn : ∀ xs, env[i]? ≠ some (.io xs)) : GoS σ env Hs H (σ.set i (some v)) (env.set i (.val d)) Hs H := ⟨Ex.refl _, fun _ _ h _ => h, fun _ o h => ⟨o, h⟩, fun _ _ h => .inl h, fun _ h => mut_set rfl h, fun _ h => loc_set rfl h, io_set hn⟩
/-- the slots but ix are as they were -/
def Off (ix : List Nat) (σ σ' : L2.St) : Prop := σ'.length = σ.length ∧ ∀ i, i ∉ ix → σ'[i]? = σ[i]?
theorem Off.refl {ix : List Nat} : Off ix σ σ := ⟨rfl, fun _ _ => rfl⟩
theorem Off.trans {ix jx : List Nat} {σ1 σ2 : L2.St} (a : Off ix σ σ1) (b : Off jx σ1 σ2) : Off (ix ++ jx) σ σ2 := ⟨b.1.trans a.1, fun i hi => by
  rw [List.mem_append, not_or] at hi
  rw [b.2 i hi.2, a.2 i hi.1]⟩
def WG (X : Cx) (tg : Expr) : TG := fun v σ H Q => ∀ pins s u, Inv X pins σ H s → RelV v u → wpAny (model X.prog X.w) X.A (assign tg X.env u) (fun _ s' => ∃ σ' H', Inv X pins σ' H' s' ∧ Q σ' H') X.xe s
theorem WG.pg (X : Cx) (tg : Expr) : PG X tg (WG X tg) := ⟨fun pins s σ H v u Q I r h => h pins s u I r⟩
theorem WG.of {tg : Expr} {g : TG} (h : PG X tg g) {v : V} {Q : L2.St → Hp → Prop} (ht : g v σ H Q) : WG X tg v σ H Q := fun pins s u I r => h.run pins s σ H v u Q I r ht
structure SG (X : Cx) (tg : Expr) (ix : List Nat) (f : PyData → MEnv → Option MEnv) : Prop where
  run : ∀ (env : MEnv) (σ : L2.St) (Hs H : Hp) (d : PyData) (v : V) (env' : MEnv), f d env = some env' → InvS X.K Hs H σ env → Rep X.K Hs d v → ∀ Q : L2.St → Hp → Prop, (∀ σ' Hs' H', GoS σ env Hs H σ' env' Hs' H' → InvS X.K Hs' H' σ' env' → Off ix σ σ' → Q σ' H') → WG X tg v σ H Q
instance {X : Cx} {tg : Expr} {ix : List Nat} {f : PyData → MEnv → Option MEnv} : CoeFun (SG X tg ix f) (fun _ => ∀ (env : MEnv) (σ : L2.St) (Hs H : Hp) (d : PyData) (v : V) (env' : MEnv), f d env = some env' → InvS X.K Hs H σ env → Rep X.K Hs d v → ∀ Q : L2.St → Hp → Prop, (∀ σ' Hs' H', GoS σ env Hs H σ' env' Hs' H' → InvS X.K Hs' H' σ' env' → Off ix σ σ' → Q σ' H') → WG X tg v σ H Q) := ⟨SG.run⟩
def nameG (i : Nat) (d : PyData) (env : MEnv) : Option MEnv := setS i (.val d) env
theorem sg_name {i : Nat} {x : Str} (h : PG X (.Name x pos) (gName i)) : SG X (.Name x pos) [i] (nameG i) := by
  refine ⟨?_⟩
  intro env σ Hs H d v env' hf I r Q q
  obtain ⟨rfl, hi, hn⟩ := setS_some hf
  exact WG.of h (q _ Hs H (GoS.setV hn) (I.setV hi r) ⟨List.length_set, fun j hj => List.getElem?_set_ne fun (q : i = j) => hj (List.mem_singleton.mpr q.symm)⟩)
def SGs (X : Cx) (ts : List Expr) (ix : List Nat) (f : List PyData → MEnv → Option MEnv) : Prop := ∃ t : TGs, PGs X ts t ∧ ∀ (env : MEnv) (σ : L2.St) (Hs H : Hp) (ds : List PyData) (vs : List V) (env' : MEnv), f ds env = some env' → InvS X.K Hs H σ env → RepL X.K Hs ds vs →
  ∀ Q : L2.St → Hp → Prop, (∀ σ' Hs' H', GoS σ env Hs H σ' env' Hs' H' → InvS X.K Hs' H' σ' env' → Off ix σ σ' → Q σ' H') → t vs σ H Q
def nilG (ds : List PyData) (env : MEnv) : Option MEnv := match ds with
  | [] => some env
  | _ => none
def consG (f : PyData → MEnv → Option MEnv) (fs : List PyData → MEnv → Option MEnv) (ds : List PyData) (env : MEnv) : Option MEnv := match ds with
  | d :: ds => match f d env with
    | some e1 => fs ds e1
    | none => none
  | [] => none
theorem sgs_nil : SGs X [] [] nilG := ⟨gNil, pgs_nil, fun env σ Hs H ds vs env' hf I r Q q => by
  cases ds with
  | nil =>
    cases hf
    cases (show vs = [] from r)
    exact ⟨rfl, q σ Hs H GoS.refl I Off.refl⟩
  | cons d ds => cases hf⟩
theorem sgs_cons {ts : List Expr} {ix jx : List Nat} {f : PyData → MEnv → Option MEnv} {fs : List PyData → MEnv → Option MEnv} (h : SG X e ix f) (hs : SGs X ts jx fs) (hq : (assignEach (e :: ts) X.env).map (·.2) = assign e X.env :: (assignEach ts X.env).map (·.2)) : SGs X (e :: ts) (ix ++ jx) (consG f fs) := by
  obtain ⟨t, pt, hs⟩ := hs
  refine ⟨gCons (WG X e) t, pgs_cons (WG.pg X e) pt hq, fun env σ Hs H ds vs env' hf I r Q q => ?_⟩
  cases ds with
  | nil => cases hf
  | cons d ds =>
    obtain ⟨v, vr, rfl, r1, r2⟩ := r
    unfold consG at hf
    simp only at hf
    split at hf
    · rename_i e1 h1
      refine ⟨v, vr, rfl, h env σ Hs H d v e1 h1 I r1 _ fun σ1 Hs1 H1 g1 I1 o1 => ?_⟩
      exact hs e1 σ1 Hs1 H1 ds vr env' hf I1 (RepL.mono g1.sh ds vr r2) Q fun σ2 Hs2 H2 g2 I2 o2 => q σ2 Hs2 H2 (g1.trans g2) I2 (o1.trans o2)
    · cases hf
def tupG (n : Nat) (fs : List PyData → MEnv → Option MEnv) (d : PyData) (env : MEnv) : Option MEnv := match d with
  | .tuple ds => if ds.length = n then fs ds env else none
  | .list ds => if ds.length = n then fs ds env else none
  | _ => none
theorem sg_tup {ts : List Expr} {k : Nat} {ix : List Nat} {fs : List PyData → MEnv → Option MEnv} (hc : X.calm = true) (h : SGs X ts ix fs) (hn : (assignEach ts X.env).length = ts.length) (hst : (assignEach ts X.env).findIdx? (·.1) = none) : SG X (.Tuple ts k pos) ix (tupG ts.length fs) := by
  refine ⟨?_⟩
  intro env σ Hs H d v env' hf I r Q q
  obtain ⟨t, pt, h⟩ := h
  unfold tupG at hf
  split at hf
  · rename_i ds
    split at hf
    · rename_i hl
      obtain ⟨a, vs, rfl, h1, h2⟩ := r
      refine WG.of (pg_tup hc pt hn hst) ⟨a, vs, rfl, Evl.ex_t I.sh h1, by rw [← RepL.length h2]; exact hl, ?_⟩
      exact h env σ Hs H ds vs env' hf I h2 Q q
    · cases hf
  · rename_i ds
    split at hf
    · rename_i hl
      obtain ⟨a, vs, rfl, h1, h2⟩ := r
      refine WG.of (pg_unl hc pt hn hst) ⟨a, vs, rfl, Evl.ex_l I.sh h1, by rw [← RepL.length h2]; exact hl, ?_⟩
      exact h env σ Hs H ds vs env' hf I h2 Q q
    · cases hf
  · cases hf

/-! ### what is walked -/
/-- J gives the plain data ds, one after another, while what is shared stays -/
def WalkD (K : PySem.W.Frag) (J : It) (Hs0 : Hp) (ds : List PyData) : Prop :=
  Walk J ds.length (fun H => ∃ Hs, Ex Hs0 Hs ∧ Ex Hs H) (fun i H x H' => ∃ d, ds[i]? = some d ∧ ∀ Hs, Ex Hs0 Hs → Ex Hs H → ∀ σ env, InvS K Hs H σ env → ∃ Hs', GoE σ env Hs H env Hs' H' ∧ InvS K Hs' H' σ env ∧ Rep K Hs' d x)
def WI (X : Cx) (tg iter : Expr) : TI := fun σ H R => ∀ pins s, Inv X pins σ H s → wpAny (model X.prog X.w) X.A (eval iter X.env) (fun v s1 => wpAny (model X.prog X.w) X.A (pyIter v) (PIE X pins σ tg R) X.xe s1) X.xe s
theorem WI.pi (X : Cx) (tg iter : Expr) : PI X tg iter (WI X tg iter) := ⟨fun pins s σ H R I h => h pins s I⟩
theorem WI.of {tg iter : Expr} {wi : TI} (h : PI X tg iter wi) {R : It → Hp → Prop} (ht : wi σ H R) : WI X tg iter σ H R := fun pins s I => h.run pins s σ H R I ht
structure SI (X : Cx) (tg iter : Expr) (f : MEnv → Option (List PyData × MEnv)) : Prop where
  run : ∀ (env : MEnv) (σ : L2.St) (Hs H : Hp) (ds : List PyData) (env' : MEnv), f env = some (ds, env') → InvS X.K Hs H σ env → ∀ R : It → Hp → Prop, (∀ J Hs' H', GoE σ env Hs H env' Hs' H' → InvS X.K Hs' H' σ env' → WalkD X.K J Hs' ds → R J H') → WI X tg iter σ H R
instance {X : Cx} {tg iter : Expr} {f : MEnv → Option (List PyData × MEnv)} : CoeFun (SI X tg iter f) (fun _ => ∀ (env : MEnv) (σ : L2.St) (Hs H : Hp) (ds : List PyData) (env' : MEnv), f env = some (ds, env') → InvS X.K Hs H σ env → ∀ R : It → Hp → Prop, (∀ J Hs' H', GoE σ env Hs H env' Hs' H' → InvS X.K Hs' H' σ env' → WalkD X.K J Hs' ds → R J H') → WI X tg iter σ H R) := ⟨SI.run⟩
theorem walk_lst {a : Addr} {ds : List PyData} {vs : List V} (h : SqL K Hs a vs) (r : RepL K Hs ds vs) : WalkD K (Itl K a) Hs ds := by
  unfold WalkD
  rw [RepL.length r]
  refine Walk.mono (walk_list (K := K) (a := a) (xs := vs)) (fun H ⟨Hx, h1, h2⟩ => Evl.ex_l (h1.trans h2) h) fun i H x H' hi hg y => ?_
  obtain ⟨rfl, e⟩ := y
  have hi' : i < ds.length := by rw [RepL.length r]; exact hi
  obtain ⟨w, h1, h2⟩ := RepL.get r (List.getElem?_eq_getElem hi')
  rw [e] at h1
  cases h1
  exact ⟨ds[i], List.getElem?_eq_getElem hi', fun Hx h3 h4 σ env I => ⟨Hx, GoE.refl, I, Rep.mono h3 _ _ h2⟩⟩
theorem walk_tp {a : Addr} {ds : List PyData} {vs : List V} (h : SqT K Hs a vs) (r : RepL K Hs ds vs) : WalkD K (Itt K a) Hs ds := by
  unfold WalkD
  rw [RepL.length r]
  refine Walk.mono (walk_tup (K := K) (a := a) (xs := vs)) (fun H ⟨Hx, h1, h2⟩ => Evl.ex_t (h1.trans h2) h) fun i H x H' hi hg y => ?_
  obtain ⟨rfl, e⟩ := y
  have hi' : i < ds.length := by rw [RepL.length r]; exact hi
  obtain ⟨w, h1, h2⟩ := RepL.get r (List.getElem?_eq_getElem hi')
  rw [e] at h1
  cases h1
  exact ⟨ds[i], List.getElem?_eq_getElem hi', fun Hx h3 h4 σ env I => ⟨Hx, GoE.refl, I, Rep.mono h3 _ _ h2⟩⟩
def seqI (f : MEnv → Option (PyData × MEnv)) : MEnv → Option (List PyData × MEnv) := fun env => match f env with
  | some (.list xs, e1) => some (xs, e1)
  | some (.tuple xs, e1) => some (xs, e1)
  | _ => none
theorem si_seq {tg : Expr} {f : MEnv → Option (PyData × MEnv)} (h : SV X e f) : SI X tg e (seqI f) := by
  refine ⟨?_⟩
  intro env σ Hs H ds env' hf I R q
  unfold seqI at hf
  split at hf
  · rename_i xs e1 h1
    cases hf
    refine WI.of (pi_list (W.pe X e)) ?_
    refine h env σ Hs H _ env' h1 I _ fun v Hs1 H1 g1 I1 r1 => ?_
    obtain ⟨a, vs, rfl, k1, k2⟩ := r1
    exact ⟨a, rfl, ⟨vs, Evl.ex_l I1.sh k1⟩, q _ Hs1 H1 g1 I1 (walk_lst k1 k2)⟩
  · rename_i xs e1 h1
    cases hf
    refine WI.of (pi_tup (W.pe X e)) ?_
    refine h env σ Hs H _ env' h1 I _ fun v Hs1 H1 g1 I1 r1 => ?_
    obtain ⟨a, vs, rfl, k1, k2⟩ := r1
    exact ⟨a, rfl, ⟨vs, Evl.ex_t I1.sh k1⟩, q _ Hs1 H1 g1 I1 (walk_tp k1 k2)⟩
  · cases hf
/-- the ints lo, lo + 1, .. -/
def intsFrom (lo : Int) (n : Nat) : List PyData := (List.range n).map fun i => .int (lo + (i : Nat))
theorem walk_rng (lo : Int) (n : Nat) : WalkD K (Itr lo n) Hs (intsFrom lo n) := by
  unfold WalkD
  have hl : (intsFrom lo n).length = n := by unfold intsFrom; simp
  rw [hl]
  refine Walk.mono (walk_range (lo := lo) (n := n)) (fun H _ => trivial) fun i H x H' hi hg y => ?_
  obtain ⟨rfl, rfl⟩ := y
  refine ⟨.int (lo + (i : Nat)), ?_, fun Hx h3 h4 σ env I => ⟨Hx, GoE.refl, I, rfl⟩⟩
  unfold intsFrom
  rw [List.getElem?_map, List.getElem?_range hi]
  rfl
def rng1I (f : MEnv → Option (List PyData × MEnv)) : MEnv → Option (List PyData × MEnv) := fun env => match f env with
  | some ([.int n], e1) => if -(2 ^ 62) ≤ n ∧ n < 2 ^ 62 then some (intsFrom 0 n.toNat, e1) else none
  | _ => none
def rng2I (f : MEnv → Option (List PyData × MEnv)) : MEnv → Option (List PyData × MEnv) := fun env => match f env with
  | some ([.int m, .int n], e1) => if -(2 ^ 62) ≤ m ∧ m < 2 ^ 62 ∧ -(2 ^ 62) ≤ n ∧ n < 2 ^ 62 then some (intsFrom m (n - m).toNat, e1) else none
  | _ => none
theorem si_rng1 {tg : Expr} {p : Pos} {f : MEnv → Option (List PyData × MEnv)} (hg : Gl X "range") (hm : X.mg "range" = none) (h : SA X [a] f) (hp : plainE a = true) : SI X tg (.Call (.Name "range" p) [a] [] pos) (rng1I f) := by
  refine ⟨?_⟩
  intro env σ Hs H ds env' hf I R q
  unfold rng1I at hf
  split at hf
  · rename_i n e1 h1
    split at hf
    · rename_i hc
      cases hf
      refine WI.of (pi_range1 hg hm (WA.pa X [a]) (star_plain hp)) ?_
      refine h env σ Hs H _ env' h1 I _ fun vs Hs1 H1 g1 I1 r1 => ?_
      obtain ⟨v, r, rfl, rfl, rfl⟩ := r1
      exact ⟨n, rfl, hc.1, hc.2, q _ Hs1 H1 g1 I1 (walk_rng 0 n.toNat)⟩
    · cases hf
  · cases hf
theorem si_rng2 {tg : Expr} {p : Pos} {f : MEnv → Option (List PyData × MEnv)} (hg : Gl X "range") (hm : X.mg "range" = none) (h : SA X [a, b] f) (hp : plainE a = true) (hp2 : plainE b = true) : SI X tg (.Call (.Name "range" p) [a, b] [] pos) (rng2I f) := by
  refine ⟨?_⟩
  intro env σ Hs H ds env' hf I R q
  unfold rng2I at hf
  split at hf
  · rename_i m n e1 h1
    split at hf
    · rename_i hc
      cases hf
      refine WI.of (pi_range2 hg hm (WA.pa X [a, b]) (by rw [star_plain hp, star_plain hp2]; rfl) (star_plain hp2)) ?_
      refine h env σ Hs H _ env' h1 I _ fun vs Hs1 H1 g1 I1 r1 => ?_
      obtain ⟨v, r, rfl, rfl, v2, r2, rfl, rfl, rfl⟩ := r1
      exact ⟨m, n, rfl, hc, q _ Hs1 H1 g1 I1 (walk_rng m (n - m).toNat)⟩
    · cases hf
  · cases hf
end Ip

set_option Elab.async false
set_option linter.all false
set_option maxRecDepth 100000
set_option maxHeartbeats 4000000
namespace Ip
open PySem L2
open Evl (Ex sz_of fresh_back)
variable {X : Cx} {a b e : Expr} {pos : Pos} {K : PySem.W.Frag} {Hs Hs' H H' : Hp} {σ : L2.St} {env env' : MEnv}

/-! ### the slots of a comprehension -/
def wipeE (env : MEnv) : List Nat → MEnv
  | [] => env
  | v :: vs => (wipeE env vs).set v .un
def backE (env ew : MEnv) : List Nat → MEnv
  | [] => ew
  | v :: vs => (backE env ew vs).set v (env.getD v .un)
def okW (env : MEnv) (vs : List Nat) : Bool := vs.all fun v => match env[v]? with
  | some s => s.mut.isNone
  | none => false
theorem wipeE_length (env : MEnv) : ∀ vs : List Nat, (wipeE env vs).length = env.length
  | [] => rfl
  | v :: vs => by unfold wipeE; rw [List.length_set, wipeE_length env vs]
theorem backE_length (env ew : MEnv) : ∀ vs : List Nat, (backE env ew vs).length = ew.length
  | [] => rfl
  | v :: vs => by unfold backE; rw [List.length_set, backE_length env ew vs]
theorem wipeE_out {i : Nat} : ∀ {vs : List Nat}, i ∉ vs → (wipeE env vs)[i]? = env[i]?
  | [], _ => rfl
  | v :: vs, h => by
    rw [List.mem_cons, not_or] at h
    unfold wipeE
    rw [List.getElem?_set_ne (fun q => h.1 q.symm), wipeE_out h.2]
theorem wipe_out {i : Nat} : ∀ {vs : List Nat}, i ∉ vs → (wipe σ vs)[i]? = σ[i]?
  | [], _ => rfl
  | v :: vs, h => by
    rw [List.mem_cons, not_or] at h
    unfold wipe
    rw [List.getElem?_set_ne (fun q => h.1 q.symm), wipe_out h.2]
theorem wipe_in {i : Nat} : ∀ {vs : List Nat}, i ∈ vs → i < σ.length → (wipe σ vs)[i]? = some none
  | v :: vs, h, hi => by
    unfold wipe
    by_cases e : v = i
    · subst e
      rw [List.getElem?_set, if_pos rfl, if_pos (by rw [wipe_length]; exact hi)]
    · rw [List.getElem?_set_ne e]
      rcases List.mem_cons.mp h with q | q
      · exact absurd q.symm e
      · exact wipe_in q hi
theorem wipeE_in {i : Nat} : ∀ {vs : List Nat}, i ∈ vs → i < env.length → (wipeE env vs)[i]? = some .un
  | v :: vs, h, hi => by
    unfold wipeE
    by_cases e : v = i
    · subst e
      rw [List.getElem?_set, if_pos rfl, if_pos (by rw [wipeE_length]; exact hi)]
    · rw [List.getElem?_set_ne e]
      rcases List.mem_cons.mp h with q | q
      · exact absurd q.symm e
      · exact wipeE_in q hi
theorem backE_out {ew : MEnv} {i : Nat} : ∀ {vs : List Nat}, i ∉ vs → (backE env ew vs)[i]? = ew[i]?
  | [], _ => rfl
  | v :: vs, h => by
    rw [List.mem_cons, not_or] at h
    unfold backE
    rw [List.getElem?_set_ne (fun q => h.1 q.symm), backE_out h.2]
theorem backE_in {ew : MEnv} {i : Nat} : ∀ {vs : List Nat}, i ∈ vs → i < ew.length → (backE env ew vs)[i]? = some (env.getD i .un)
  | v :: vs, h, hi => by
    unfold backE
    by_cases e : v = i
    · subst e
      rw [List.getElem?_set, if_pos rfl, if_pos (by rw [backE_length]; exact hi)]
    · rw [List.getElem?_set_ne e]
      rcases List.mem_cons.mp h with q | q
      · exact absurd q.symm e
      · exact backE_in q hi
theorem wipe_off {vs : List Nat} {σ2 : L2.St} (o : Off vs (wipe σ vs) σ2) : wipe σ2 vs = wipe σ vs := by
  apply List.ext_getElem?
  intro i
  by_cases hi : i ∈ vs
  · by_cases hl : i < σ.length
    · rw [wipe_in hi hl, wipe_in hi (by rw [o.1, wipe_length]; exact hl)]
    · have l2 : σ2.length = σ.length := by rw [o.1, wipe_length]
      rw [List.getElem?_eq_none (by rw [wipe_length, l2]; omega), List.getElem?_eq_none (by rw [wipe_length]; omega)]
  · rw [wipe_out hi, o.2 i hi]
theorem wipeE_some {i : Nat} {s : Slot} {vs : List Nat} (h : (wipeE env vs)[i]? = some s) (hs : s ≠ .un) : env[i]? = some s ∧ i ∉ vs := by
  by_cases hi : i ∈ vs
  · have hl : i < env.length := by
      have := (List.getElem?_eq_some_iff.mp h).1
      rw [wipeE_length] at this
      exact this
    rw [wipeE_in hi hl] at h
    cases h
    exact absurd rfl hs
  · rw [wipeE_out hi] at h
    exact ⟨h, hi⟩
theorem mut_ne {s : Slot} {xs : List PyData} (h : s.mut = some xs) : s ≠ .un := fun e => by rw [e] at h; cases h
theorem mut_wipe {vs : List Nat} {p : Addr} (m : MutAt (wipe σ vs) (wipeE env vs) p) : MutAt σ env p := by
  obtain ⟨i, s, xs, e1, e2, e3⟩ := m
  obtain ⟨h1, h2⟩ := wipeE_some e1 (mut_ne e2)
  exact ⟨i, s, xs, h1, e2, by rw [← wipe_out h2]; exact e3⟩
theorem loc_wipe {vs : List Nat} {p : Addr} (m : LocAt (wipe σ vs) (wipeE env vs) p) : LocAt σ env p := by
  obtain ⟨i, xs, e1, e3⟩ := m
  obtain ⟨h1, h2⟩ := wipeE_some e1 (fun z => by cases z)
  exact ⟨i, xs, h1, by rw [← wipe_out h2]; exact e3⟩
theorem InvS.wipe (I : InvS K Hs H σ env) (vs : List Nat) : InvS K Hs H (wipe σ vs) (wipeE env vs) where
  len := by rw [wipe_length, wipeE_length]; exact I.len
  sh := I.sh
  vals := fun i d h => by
    obtain ⟨h1, h2⟩ := wipeE_some h (fun z => by cases z)
    rw [wipe_out h2]
    exact I.vals i d h1
  muts := fun i s xs h hm => by
    obtain ⟨h1, h2⟩ := wipeE_some h (mut_ne hm)
    rw [wipe_out h2]
    exact I.muts i s xs h1 hm
  diff := fun i j s t xs ys p h1 m1 h2 m2 g1 g2 => by
    obtain ⟨k1, k2⟩ := wipeE_some h1 (mut_ne m1)
    obtain ⟨k3, k4⟩ := wipeE_some h2 (mut_ne m2)
    rw [wipe_out k2] at g1
    rw [wipe_out k4] at g2
    exact I.diff i j s t xs ys p k1 m1 k3 m2 g1 g2
theorem okW_io {vs : List Nat} (ok : okW env vs = true) {i : Nat} {xs : List PyData} (h : env[i]? = some (.io xs)) : i ∉ vs := fun hi => by
  have q := (List.all_eq_true.mp ok) i hi
  rw [h] at q
  cases q
theorem GoS.wipe {vs : List Nat} (ok : okW env vs = true) : GoS σ env Hs H (L2.wipe σ vs) (wipeE env vs) Hs H := ⟨Ex.refl _, fun _ _ h _ => h, fun _ o h => ⟨o, h⟩, fun _ _ h => .inl h, fun _ h => mut_wipe h, fun _ h => loc_wipe h, fun i xs h =>
  ⟨wipe_out (okW_io ok h), xs, by rw [wipeE_out (okW_io ok h)]; exact h⟩⟩
theorem back_some {ew : MEnv} {vs : List Nat} {i : Nat} {s : Slot} (ok : okW env vs = true) (h : (backE env ew vs)[i]? = some s) : (i ∈ vs ∧ env[i]? = some s ∧ s.mut = none) ∨ (i ∉ vs ∧ ew[i]? = some s) := by
  by_cases hi : i ∈ vs
  · have hl := (List.getElem?_eq_some_iff.mp h).1
    rw [backE_length] at hl
    rw [backE_in hi hl] at h
    have q := (List.all_eq_true.mp ok) i hi
    cases he : env[i]? with
    | none => rw [he] at q; cases q
    | some t =>
      rw [he] at q
      rw [List.getD_eq_getElem?_getD, he] at h
      cases h
      exact .inl ⟨hi, rfl, Option.isNone_iff_eq_none.mp q⟩
  · rw [backE_out hi] at h
    exact .inr ⟨hi, h⟩
/-- behind the block: the def's own slots as they were, the rest as the block left it -/
theorem block_end {ew : MEnv} {Hs1 H1 Hs2 H2 : Hp} {vs : List Nat} (I1 : InvS K Hs1 H1 σ env) (ok : okW env vs = true) (g : GoS (wipe σ vs) (wipeE env vs) Hs1 H1 (wipe σ vs) ew Hs2 H2) (I2 : InvS K Hs2 H2 (wipe σ vs) ew) :
    GoE σ env Hs1 H1 (backE env ew vs) Hs2 H2 ∧ InvS K Hs2 H2 σ (backE env ew vs) := by
  have mm : ∀ {i : Nat} {s : Slot} {xs : List PyData}, (backE env ew vs)[i]? = some s → s.mut = some xs → ew[i]? = some s ∧ i ∉ vs := fun {i s xs} h hm => by
    rcases back_some ok h with ⟨_, _, k⟩ | ⟨k, k2⟩
    · rw [k] at hm; cases hm
    · exact ⟨k2, k⟩
  have mb : ∀ a, MutAt σ (backE env ew vs) a → MutAt (L2.wipe σ vs) ew a := fun a ⟨i, s, xs, e1, e2, e3⟩ => by
    obtain ⟨k1, k2⟩ := mm e1 e2
    exact ⟨i, s, xs, k1, e2, by rw [wipe_out k2]; exact e3⟩
  have g0 := (GoS.wipe (σ := σ) (env := env) (Hs := Hs1) (H := H1) ok).trans g
  refine ⟨⟨g0.sh, g0.kp, g0.dm, g0.nw, fun a m => g0.ow a (mb a m), fun a ⟨i, xs, e1, e3⟩ => ?_, fun i xs h => ?_⟩, ?_⟩
  · obtain ⟨k1, k2⟩ := mm e1 (xs := xs) rfl
    exact g0.lo a ⟨i, xs, k1, by rw [wipe_out k2]; exact e3⟩
  · obtain ⟨_, ys, h1⟩ := g0.io i xs h
    exact ⟨ys, by rw [backE_out (okW_io ok h)]; exact h1⟩
  · refine ⟨by rw [backE_length, ← I2.len, wipe_length], I2.sh, fun i d h => ?_, fun i s xs h hm => ?_, fun i j s t xs ys p h1 m1 h2 m2 g1 g2 => ?_⟩
    · rcases back_some ok h with ⟨_, k, _⟩ | ⟨k, k2⟩
      · obtain ⟨v, e1, e2⟩ := I1.vals i d k
        exact ⟨v, e1, Rep.mono g0.sh d v e2⟩
      · obtain ⟨v, e1, e2⟩ := I2.vals i d k2
        exact ⟨v, by rw [← wipe_out (σ := σ) k]; exact e1, e2⟩
    · obtain ⟨k1, k2⟩ := mm h hm
      obtain ⟨p, ws, e1, e2⟩ := I2.muts i s xs k1 hm
      exact ⟨p, ws, by rw [← wipe_out (σ := σ) k2]; exact e1, e2⟩
    · obtain ⟨k1, k2⟩ := mm h1 m1
      obtain ⟨k3, k4⟩ := mm h2 m2
      exact I2.diff i j s t xs ys p k1 m1 k3 m2 (by rw [wipe_out k2]; exact g1) (by rw [wipe_out k4]; exact g2)
/-- a list that nobody holds may change -/
theorem InvS.priv (I : InvS K Hs H σ env) {p : Addr} (hn : Hs p = none) (nm : ¬ MutAt σ env p) (o : HO) : InvS K Hs (upd H p o) σ env where
  len := I.len
  sh := Ex.mut I.sh hn
  vals := I.vals
  muts := fun i s xs h hm => by
    obtain ⟨q, vs, h1, h2, h3, h4⟩ := I.muts i s xs h hm
    have ne : q ≠ p := fun z => nm (z ▸ ⟨i, s, xs, h, hm, h1⟩)
    exact ⟨q, vs, h1, h2, by rw [upd_ne ne]; exact h3, h4⟩
  diff := I.diff
theorem GoS.priv {σ' : L2.St} (g : GoS σ env Hs H σ' env' Hs' H') {p : Addr} (hp : H p = none) (o : HO) : GoS σ env Hs H σ' env' Hs' (upd H' p o) where
  sh := g.sh
  kp := fun a u h n => by rw [upd_ne (ne_new h hp)]; exact g.kp a u h n
  dm := fun a u h => by
    obtain ⟨w, e⟩ := g.dm a u h
    exact ⟨w, by rw [upd_ne (ne_new h hp)]; exact e⟩
  nw := g.nw
  ow := g.ow
  lo := g.lo
  io := g.io

def compLoop (fg : PyData → MEnv → Option MEnv) (ft : MEnv → Option (Bool × MEnv)) (fe : MEnv → Option (PyData × MEnv)) (vs : List Nat) : List PyData → List PyData → MEnv → Option (List PyData × MEnv)
  | [], acc, env => some (acc, env)
  | d :: ds, acc, env => match fg d env with
    | some e1 => match ft e1 with
      | some (true, e2) => match fe e2 with
        | some (x, e3) => if okW e3 vs = true then compLoop fg ft fe vs ds (acc ++ [x]) (wipeE e3 vs) else none
        | none => none
      | some (false, e2) => if okW e2 vs = true then compLoop fg ft fe vs ds acc (wipeE e2 vs) else none
      | none => none
    | none => none
def compF (fi : MEnv → Option (List PyData × MEnv)) (fg : PyData → MEnv → Option MEnv) (ft : MEnv → Option (Bool × MEnv)) (fe : MEnv → Option (PyData × MEnv)) (vs : List Nat) : MEnv → Option (Slot × MEnv) := fun env => match fi env with
  | some (ds, e1) => if okW e1 vs = true ∧ ds.length ≤ 100000 then match compLoop fg ft fe vs ds [] (wipeE e1 vs) with
      | some (acc, ew) => some (.own acc, backE e1 ew vs)
      | none => none
    else none
  | none => none
/-- the parts of a comprehension's turn, in the block's own context -/
structure CompOk (X : Cx) (scope : Scope) (tg elt : Expr) (ifs : List Expr) (ix : List Nat) (fg : PyData → MEnv → Option MEnv) (ft : MEnv → Option (Bool × MEnv)) (fe : MEnv → Option (PyData × MEnv)) where
  gk : TG
  tk : TT
  ek : TE
  pg : ∀ (s : Shared) (H : Hp) (C : Addr) (cl : List (Str × Addr)) (fp : List Addr), PG (X.blk s H scope (compEnvC scope cl C X.env) fp) tg gk
  pt : ∀ (s : Shared) (H : Hp) (C : Addr) (cl : List (Str × Addr)) (fp : List Addr), PTs (X.blk s H scope (compEnvC scope cl C X.env) fp) ifs tk
  pe : ∀ (s : Shared) (H : Hp) (C : Addr) (cl : List (Str × Addr)) (fp : List Addr), PE (X.blk s H scope (compEnvC scope cl C X.env) fp) elt ek
  sg : ∀ (env : MEnv) (σ : L2.St) (Hs H : Hp) (d : PyData) (v : V) (env' : MEnv), fg d env = some env' → InvS X.K Hs H σ env → Rep X.K Hs d v →
    ∀ Q : L2.St → Hp → Prop, (∀ σ' Hs' H', GoS σ env Hs H σ' env' Hs' H' → InvS X.K Hs' H' σ' env' → Off ix σ σ' → Q σ' H') → gk v σ H Q
  st : ∀ (env : MEnv) (σ : L2.St) (Hs H : Hp) (b : Bool) (env' : MEnv), ft env = some (b, env') → InvS X.K Hs H σ env →
    ∀ Q : Bool → Hp → Prop, (∀ Hs' H', GoE σ env Hs H env' Hs' H' → InvS X.K Hs' H' σ env' → Q b H') → tk σ H Q
  se : ∀ (env : MEnv) (σ : L2.St) (Hs H : Hp) (d : PyData) (env' : MEnv), fe env = some (d, env') → InvS X.K Hs H σ env →
    ∀ Q : VK, (∀ v Hs' H', GoE σ env Hs H env' Hs' H' → InvS X.K Hs' H' σ env' → Rep X.K Hs' d v → Q v H') → ek σ H Q
theorem rd_comp {scope : Scope} {tg iter elt : Expr} {ifs : List Expr} {vs : List Nat} {fi : MEnv → Option (List PyData × MEnv)} {fg : PyData → MEnv → Option MEnv} {ft : MEnv → Option (Bool × MEnv)} {fe : MEnv → Option (PyData × MEnv)}
    (hi : SI X tg iter fi) (C : CompOk X scope tg elt ifs vs fg ft fe) {r : Slot} (hf : compF fi fg ft fe vs env = some (r, env')) (I : InvS X.K Hs H σ env)
    (Q : VK) (q : ∀ v Hs' H', GoE σ env Hs H env' Hs' H' → InvS X.K Hs' H' σ env' → RepR X.K H Hs' H' r v → Q v H') : tLc (WI X tg iter) C.gk C.tk C.ek vs σ H Q := by
  unfold compF at hf
  split at hf
  · rename_i ds e1 h1
    split at hf
    · rename_i hc
      obtain ⟨ok, hz⟩ := hc
      split at hf
      · rename_i acc ew hl
        cases hf
        refine hi env σ Hs H ds e1 h1 I _ fun J Hs1 H1 g1 I1 wk => fun D hD => ?_
        have hD1 : Hs1 D = none := fresh_back I1.sh hD
        have Iw := I1.wipe vs
        -- what holds ahead of turn i
        refine lc_it wk (fun i H2 => ∃ acc2 ew2 Hs2 us, compLoop fg ft fe vs (ds.drop i) acc2 ew2 = some (acc, ew) ∧ GoS (wipe σ vs) (wipeE e1 vs) Hs1 H1 (wipe σ vs) ew2 Hs2 H2 ∧ InvS X.K Hs2 H2 (wipe σ vs) ew2 ∧
          H2 D = some (.lst us) ∧ Hs2 D = none ∧ RepL X.K Hs2 acc2 us ∧ acc2.length ≤ i) ?_ ?_ ?_ ?_
        · exact ⟨[], wipeE e1 vs, Hs1, [], hl, GoS.refl.priv hD _, Iw.lay hD _, upd_same, hD1, rfl, Nat.le_refl 0⟩
        · rintro i H2 _ ⟨acc2, ew2, Hs2, us, _, g2, I2, _⟩
          exact ⟨Hs2, g2.sh, I2.sh⟩
        · rintro i x H2 H3 hlt ⟨acc2, ew2, Hs2, us, k1, g2, I2, k2, k3, k4, k5⟩ ⟨d, hd, hy⟩
          obtain ⟨Hs3, g3, I3, r3⟩ := hy Hs2 g2.sh I2.sh _ _ I2
          have nm2 : ¬ MutAt (wipe σ vs) ew2 D := fun m => by
            obtain ⟨_, _, hh⟩ := Iw.mutAt_some (g2.ow D m)
            rw [hD] at hh
            cases hh
          have k3D : H3 D = some (.lst us) := g3.kp D _ k2 nm2
          have k3s : Hs3 D = none := by
            cases z : Hs3 D with
            | none => rfl
            | some o =>
              rcases g3.nw D o z with z1 | z1 | z1
              · rw [k3] at z1; cases z1
              · rw [k2] at z1; cases z1
              · exact absurd z1.mut nm2
          have ed : ds.drop i = d :: ds.drop (i + 1) := by
            rw [List.drop_eq_getElem_cons hlt]
            rw [List.getElem?_eq_getElem hlt] at hd
            cases hd
            rfl
          rw [ed] at k1
          unfold compLoop at k1
          split at k1
          · rename_i e2 h2
            refine C.sg ew2 (wipe σ vs) Hs3 H3 d x e2 h2 I3 r3 _ fun σ4 Hs4 H4 g4 I4 o4 => ⟨wipe_off o4, ?_⟩
            have nm3 : ¬ MutAt (wipe σ vs) ew2 D := fun m => nm2 (g3.ow D m)
            have k4D : H4 D = some (.lst us) := g4.kp D _ k3D nm3
            have nm4 : ¬ MutAt σ4 e2 D := fun m => nm3 (g4.ow D m)
            have back : ∀ {σ' : L2.St} {e' : MEnv} {Hp1 H5 Hp2 H6 : Hp} {e'' : MEnv} {σ'' : L2.St}, GoS σ' e' Hp1 H5 σ'' e'' Hp2 H6 → Hp1 D = none → H5 D = some (.lst us) → ¬ MutAt σ' e' D → Hp2 D = none := fun g n1 n2 n3 => by
              rename_i Hp2 _ _ _
              cases z : Hp2 D with
              | none => rfl
              | some o =>
                rcases g.nw D o z with z1 | z1 | z1
                · rw [n1] at z1; cases z1
                · rw [n2] at z1; cases z1
                · exact absurd z1.mut n3
            have k4s : Hs4 D = none := back g4 k3s k3D nm3
            split at k1
            · rename_i e3 h3
              refine C.st e2 σ4 Hs4 H4 true e3 h3 I4 _ fun Hs5 H5 g5 I5 => ?_
              have k5D : H5 D = some (.lst us) := g5.kp D _ k4D nm4
              have nm5 : ¬ MutAt σ4 e3 D := fun m => nm4 (g5.ow D m)
              have k5s : Hs5 D = none := back g5.toS k4s k4D nm4
              split at k1
              · rename_i y e4 h4
                split at k1
                rotate_left
                · cases k1
                rename_i okw
                rw [if_pos rfl]
                refine C.se e3 σ4 Hs5 H5 y e4 h4 I5 _ fun z Hs6 H6 g6 I6 r6 => ?_
                have k6D : H6 D = some (.lst us) := g6.kp D _ k5D nm5
                have nm6 : ¬ MutAt σ4 e4 D := fun m => nm5 (g6.ow D m)
                have k6s : Hs6 D = none := back g6.toS k5s k5D nm5
                have g36 := (g4.trans g5.toS).trans g6.toS
                have l6 : us.length < sizeLine := by
                  rw [← RepL.length k4]
                  exact Evl.sz_lt (by omega)
                refine ⟨us, k6D, l6, acc2 ++ [y], wipeE e4 vs, Hs6, us ++ [z], k1, ?_, ?_, upd_same, k6s, RepL.app (RepL.mono (g3.sh.trans g36.sh) _ _ k4) ⟨z, [], rfl, r6, rfl⟩, by rw [List.length_append]; exact Nat.succ_le_succ k5⟩
                · have g7 := ((g2.trans g3.toS).trans g36).trans (GoS.wipe okw)
                  rw [wipe_off o4] at g7
                  exact g7.priv hD _
                · have I7 := I6.wipe vs
                  rw [wipe_off o4] at I7
                  refine I7.priv k6s (fun m => nm6 ?_) _
                  rw [← wipe_off o4] at m
                  exact mut_wipe m
              · cases k1
            · rename_i e3 h3
              refine C.st e2 σ4 Hs4 H4 false e3 h3 I4 _ fun Hs5 H5 g5 I5 => ?_
              have k5D : H5 D = some (.lst us) := g5.kp D _ k4D nm4
              have k5s : Hs5 D = none := back g5.toS k4s k4D nm4
              split at k1
              rotate_left
              · cases k1
              rename_i okw
              rw [if_neg Bool.false_ne_true]
              have g35 := g4.trans g5.toS
              refine ⟨acc2, wipeE e3 vs, Hs5, us, k1, ?_, ?_, k5D, k5s, RepL.mono (g3.sh.trans g35.sh) _ _ k4, by omega⟩
              · have g7 := ((g2.trans g3.toS).trans g35).trans (GoS.wipe okw)
                rw [wipe_off o4] at g7
                exact g7
              · have I7 := I5.wipe vs
                rw [wipe_off o4] at I7
                exact I7
            · cases k1
          · cases k1
        · rintro H2 ⟨acc2, ew2, Hs2, us, k1, g2, I2, k2, k3, k4, k5⟩
          rw [List.drop_eq_nil_of_le (Nat.le_refl _)] at k1
          unfold compLoop at k1
          cases k1
          obtain ⟨gE, IE⟩ := block_end I1 ok g2 I2
          exact q (.ref D) Hs2 H2 (g1.trans gE) IE ⟨D, us, rfl, g1.none_back hD, k3, k2, k4⟩
      · cases hf
    · cases hf
  · cases hf
end Ip

set_option Elab.async false
set_option linter.all false
set_option maxRecDepth 100000
set_option maxHeartbeats 4000000
namespace Ip
open PySem L2
open Evl (Ex sz_of fresh_back)
variable {X : Cx} {a b e : Expr} {pos : Pos} {K : PySem.W.Frag} {Hs Hs' H H' : Hp} {σ : L2.St} {env env' : MEnv}

/-! ### where a statement leads -/
inductive Out where
  | nx (env : MEnv)
  | rt (r : Slot) (env : MEnv)
  | bk (env : MEnv)
  | ct (env : MEnv)
def RepQ (K : PySem.W.Frag) (σ : L2.St) (env : MEnv) (H Hs' H' : Hp) : Slot → V → Prop
  | .val d, v => Rep K Hs' d v
  | .own xs, v => ∃ p vs, v = .ref p ∧ (H p = none ∨ LocAt σ env p) ∧ Hs' p = none ∧ H' p = some (.lst vs) ∧ RepL K Hs' xs vs
  | _, _ => False
theorem RepR.q {s : Slot} {v : V} (r : RepR K H Hs' H' s v) : RepQ K σ env H Hs' H' s v := by
  cases s with
  | val d => exact r
  | own xs =>
    obtain ⟨p, vs, e, h, k⟩ := r
    exact ⟨p, vs, e, .inl h, k⟩
  | un => exact r
  | io xs => exact r
theorem RepQ.back {σ0 : L2.St} {env0 : MEnv} {Hs0 H0 Hs2 H2 : Hp} (g : Go σ0 env0 Hs0 H0 σ env Hs H) {s : Slot} {v : V} (r : RepQ K σ env H Hs2 H2 s v) : RepQ K σ0 env0 H0 Hs2 H2 s v := by
  cases s with
  | val d => exact r
  | own xs =>
    obtain ⟨p, vs, e, h, k⟩ := r
    refine ⟨p, vs, e, ?_, k⟩
    rcases h with h | h
    · exact .inl (g.none_back h)
    · rcases g.lo p h with q | q
      · exact .inr q
      · exact .inl q
  | un => exact r
  | io xs => exact r
def EndsOk (K : PySem.W.Frag) (σ : L2.St) (env : MEnv) (Hs H : Hp) (o : Out) (D : Ends) : Prop := match o with
  | .nx e => ∀ σ' Hs' H', Go σ env Hs H σ' e Hs' H' → InvS K Hs' H' σ' e → D.nx σ' H'
  | .bk e => ∀ σ' Hs' H', Go σ env Hs H σ' e Hs' H' → InvS K Hs' H' σ' e → D.bk σ' H'
  | .ct e => ∀ σ' Hs' H', Go σ env Hs H σ' e Hs' H' → InvS K Hs' H' σ' e → D.ct σ' H'
  | .rt r e => ∀ v σ' Hs' H', Go σ env Hs H σ' e Hs' H' → InvS K Hs' H' σ' e → RepQ K σ env H Hs' H' r v → D.rt v H'
theorem EndsOk.step {σ0 : L2.St} {env0 : MEnv} {Hs0 H0 : Hp} (g : Go σ0 env0 Hs0 H0 σ env Hs H) {o : Out} {D : Ends} (h : EndsOk K σ0 env0 Hs0 H0 o D) : EndsOk K σ env Hs H o D := by
  cases o with
  | nx e => exact fun σ' Hs' H' g' I' => h σ' Hs' H' (g.trans g') I'
  | bk e => exact fun σ' Hs' H' g' I' => h σ' Hs' H' (g.trans g') I'
  | ct e => exact fun σ' Hs' H' g' I' => h σ' Hs' H' (g.trans g') I'
  | rt r e => exact fun v σ' Hs' H' g' I' r' => h v σ' Hs' H' (g.trans g') I' (r'.back g)
structure SS (X : Cx) (st : Stmt) (f : MEnv → Option Out) : Prop where
  run : ∀ (env : MEnv) (σ : L2.St) (Hs H : Hp) (o : Out), f env = some o → InvS X.K Hs H σ env → ∀ D : Ends, EndsOk X.K σ env Hs H o D → WS X st D σ H
instance {X : Cx} {st : Stmt} {f : MEnv → Option Out} : CoeFun (SS X st f) (fun _ => ∀ (env : MEnv) (σ : L2.St) (Hs H : Hp) (o : Out), f env = some o → InvS X.K Hs H σ env → ∀ D : Ends, EndsOk X.K σ env Hs H o D → WS X st D σ H) := ⟨SS.run⟩
structure SB (X : Cx) (sts : List Stmt) (f : MEnv → Option Out) : Prop where
  run : ∀ (env : MEnv) (σ : L2.St) (Hs H : Hp) (o : Out), f env = some o → InvS X.K Hs H σ env → ∀ D : Ends, EndsOk X.K σ env Hs H o D → WSs X sts D σ H
instance {X : Cx} {sts : List Stmt} {f : MEnv → Option Out} : CoeFun (SB X sts f) (fun _ => ∀ (env : MEnv) (σ : L2.St) (Hs H : Hp) (o : Out), f env = some o → InvS X.K Hs H σ env → ∀ D : Ends, EndsOk X.K σ env Hs H o D → WSs X sts D σ H) := ⟨SB.run⟩
def nilB (env : MEnv) : Option Out := some (.nx env)
def seqB (f fs : MEnv → Option Out) : MEnv → Option Out := fun env => match f env with
  | some (.nx e1) => fs e1
  | some (.rt r e1) => some (.rt r e1)
  | some (.bk e1) => some (.bk e1)
  | some (.ct e1) => some (.ct e1)
  | none => none
theorem sb_nil : SB X [] nilB := .mk fun env σ Hs H o hf I D h => by
  cases hf
  exact WSs.of pss_nil (h σ Hs H Go.refl I)
theorem sb_cons {st : Stmt} {sts : List Stmt} {f fs : MEnv → Option Out} (h : SS X st f) (hs : SB X sts fs) : SB X (st :: sts) (seqB f fs) := by
  refine ⟨?_⟩
  intro env σ Hs H o hf I D q
  refine WSs.of (pss_cons (WS.ps X st) (WSs.ps X sts)) ?_
  unfold seqB at hf
  split at hf
  · rename_i e1 h1
    exact h env σ Hs H _ h1 I _ fun σ1 Hs1 H1 g1 I1 => hs e1 σ1 Hs1 H1 o hf I1 D (q.step g1)
  · rename_i r e1 h1
    cases hf
    exact h env σ Hs H _ h1 I _ q
  · rename_i e1 h1
    cases hf
    exact h env σ Hs H _ h1 I _ q
  · rename_i e1 h1
    cases hf
    exact h env σ Hs H _ h1 I _ q
  · cases hf

/-! ### plain statements -/
theorem ss_pass : SS X (.Pass pos) nilB := .mk fun env σ Hs H o hf I D h => by
  cases hf
  exact WS.of ps_pass (h σ Hs H Go.refl I)
theorem ss_break : SS X (.Break pos) (fun env => some (.bk env)) := .mk fun env σ Hs H o hf I D h => by
  cases hf
  exact WS.of ps_break (h σ Hs H Go.refl I)
theorem ss_cont : SS X (.Continue pos) (fun env => some (.ct env)) := .mk fun env σ Hs H o hf I D h => by
  cases hf
  exact WS.of ps_continue (h σ Hs H Go.refl I)
def retB (f : MEnv → Option (Slot × MEnv)) : MEnv → Option Out := fun env => match f env with
  | some (r, e1) => some (.rt r e1)
  | none => none
theorem ss_ret {f : MEnv → Option (Slot × MEnv)} (h : SE X e f) : SS X (.Return (some e) pos) (retB f) := by
  refine ⟨?_⟩
  intro env σ Hs H o hf I D q
  unfold retB at hf
  split at hf
  · rename_i r e1 h1
    cases hf
    exact WS.of (ps_ret (W.pe X e)) (h env σ Hs H r e1 h1 I _ fun v Hs' H' g I' rr => q v σ Hs' H' g.go I' rr.q)
  · cases hf
theorem ss_retN : SS X (.Return none pos) (fun env => some (.rt (.val .none) env)) := .mk fun env σ Hs H o hf I D h => by
  cases hf
  exact WS.of ps_retN (h .non σ Hs H Go.refl I rfl)
/-- return of a name: a list of the def's own goes to the caller as it is -/
def retNm (i : Nat) : MEnv → Option Out := fun env => match env[i]? with
  | some (.val d) => some (.rt (.val d) env)
  | some (.own xs) => some (.rt (.own xs) env)
  | _ => none
theorem ss_retNm {i : Nat} {x : Str} {p2 : Pos} (h : PE X (.Name x pos) (tVar i)) : SS X (.Return (some (.Name x pos)) p2) (retNm i) := by
  refine ⟨?_⟩
  intro env σ Hs H o hf I D q
  unfold retNm at hf
  split at hf
  · rename_i d hd
    cases hf
    obtain ⟨v, h1, h2⟩ := I.vals i d hd
    exact WS.of (ps_ret h) ⟨v, h1, q v σ Hs H Go.refl I h2⟩
  · rename_i xs hx
    cases hf
    obtain ⟨p, vs, h1, h2, h3, h4⟩ := I.muts i _ xs hx rfl
    exact WS.of (ps_ret h) ⟨.ref p, h1, q _ σ Hs H Go.refl I ⟨p, vs, rfl, .inr ⟨i, xs, hx, h1⟩, h2, h3, h4⟩⟩
  · cases hf
def ifB (ft : MEnv → Option (Bool × MEnv)) (fa fb : MEnv → Option Out) : MEnv → Option Out := fun env => match ft env with
  | some (true, e1) => fa e1
  | some (false, e1) => fb e1
  | none => none
theorem ss_if {t : Expr} {sa sb : List Stmt} {ft : MEnv → Option (Bool × MEnv)} {fa fb : MEnv → Option Out} (ht : ST X t ft) (ha : SB X sa fa) (hb : SB X sb fb) : SS X (.If t sa sb pos) (ifB ft fa fb) := by
  refine ⟨?_⟩
  intro env σ Hs H o hf I D q
  refine WS.of (ps_if (WT.pt X t) (WSs.ps X sa) (WSs.ps X sb)) ?_
  unfold ifB at hf
  split at hf
  · rename_i e1 h1
    refine ht env σ Hs H _ e1 h1 I _ fun Hs1 H1 g1 I1 => iteT ?_
    exact ha e1 σ Hs1 H1 o hf I1 D (q.step g1.go)
  · rename_i e1 h1
    refine ht env σ Hs H _ e1 h1 I _ fun Hs1 H1 g1 I1 => iteF ?_
    exact hb e1 σ Hs1 H1 o hf I1 D (q.step g1.go)
  · cases hf

/-! ### assignments -/
def asgB (i : Nat) (f : MEnv → Option (Slot × MEnv)) : MEnv → Option Out := fun env => match f env with
  | some (r, e1) => match setS i r e1 with
    | some e2 => some (.nx e2)
    | none => none
  | none => none
theorem rd_asg {te : TE} {i : Nat} {f : MEnv → Option (Slot × MEnv)} {o : Out} (h : ∀ (r : Slot) (e1 : MEnv), f env = some (r, e1) → ∀ Q : VK, (∀ v Hs' H', GoE σ env Hs H e1 Hs' H' → InvS K Hs' H' σ e1 → RepR K H Hs' H' r v → Q v H') → te σ H Q)
    (hf : asgB i f env = some o) (I : InvS K Hs H σ env) {D : Ends} (q : EndsOk K σ env Hs H o D) : tAsg te (gName i) D σ H := by
  unfold asgB at hf
  split at hf
  · rename_i r e1 h1
    split at hf
    · rename_i e2 h2
      cases hf
      obtain ⟨rfl, hi, hn⟩ := setS_some h2
      refine h r e1 h1 _ fun v Hs' H' g I' rr => ?_
      cases r with
      | val d => exact q _ Hs' H' (g.go.trans (Go.setV hn)) (I'.setV hi rr)
      | own xs =>
        obtain ⟨p, vs, rfl, n1, n2, n3, n4⟩ := rr
        have nm : ¬ MutAt σ e1 p := fun m => by
          obtain ⟨_, vs', hh⟩ := I.mutAt_some (g.ow p m)
          rw [n1] at hh
          cases hh
        exact q _ Hs' H' (Go.setO g.go n1 hn) (I'.setO hi n2 n3 n4 nm)
      | un => exact False.elim rr
      | io xs => exact False.elim rr
    · cases hf
  · cases hf
theorem ss_asg {i : Nat} {x : Str} {p2 : Pos} {f : MEnv → Option (Slot × MEnv)} (h : SE X e f) (hp : PS X (.Assign [.Name x p2] e pos) (tAsg (W X e) (gName i))) : SS X (.Assign [.Name x p2] e pos) (asgB i f) := by
  refine ⟨?_⟩
  intro env σ Hs H o hf I D q
  exact WS.of hp (rd_asg (fun r e1 h1 Q k => h env σ Hs H r e1 h1 I Q k) hf I q)
theorem each_cons {t : Expr} {ts : List Expr} {en : PySem.Env} (h : plainE t = true) : assignEach (t :: ts) en = (false, assign t en) :: assignEach ts en := by
  cases t <;> first | rfl | cases h
theorem each_one {t : Expr} {en : PySem.Env} (h : plainE t = true) : (assignEach [t] en).map (·.2) = [assign t en] := by
  rw [each_cons h]
  rfl
def plainIx : Expr → Bool
  | .Slice _ _ _ _ => false
  | _ => true
theorem plainIx_sub {j : Expr} (h : plainIx j = true) : PlainIx j := by
  intro o i
  cases j <;> first | rfl | cases h
theorem plainIx_asg {o j : Expr} {p : Pos} {en : PySem.Env} (h : plainIx j = true) : ∀ v, assign (.Subscript o j p) en v = (do
    let ov ← holding [v] (eval o en)
    let iv ← holding [v, ov] (eval j en)
    standAt p
    holding [v, ov, iv] (setItem ov iv v)
    release [v, ov, iv] []) := by
  intro v
  cases j <;> first | rfl | cases h
/-- to any target -/
def tgtB (f : MEnv → Option (PyData × MEnv)) (g : PyData → MEnv → Option MEnv) : MEnv → Option Out := fun env => match f env with
  | some (d, e1) => match g d e1 with
    | some e2 => some (.nx e2)
    | none => none
  | none => none
theorem ss_tgt {tg : Expr} {ix : List Nat} {f : MEnv → Option (PyData × MEnv)} {g : PyData → MEnv → Option MEnv} (h : SV X e f) (hg : SG X tg ix g) (hs : swapsWithSole [tg] e pos.line X.env = pure false) (hw : swappedStores [tg] e X.env = pure none)
    (hp : plainE tg = true) : SS X (.Assign [tg] e pos) (tgtB f g) := by
  refine ⟨?_⟩
  intro env σ Hs H o hf I D q
  unfold tgtB at hf
  split at hf
  · rename_i d e1 h1
    split at hf
    · rename_i e2 h2
      cases hf
      refine WS.of (ps_asg (W.pe X e) (WG.pg X tg) hs hw (each_one hp)) ?_
      refine h env σ Hs H d e1 h1 I _ fun v Hs1 H1 g1 I1 r1 => ?_
      exact hg e1 σ Hs1 H1 d v e2 h2 I1 r1 _ fun σ2 Hs2 H2 g2 I2 _ => q σ2 Hs2 H2 (g1.go.trans g2.go) I2
    · cases hf
  · cases hf
/-- name op= e, for ints -/
def augB (i : Nat) (f : MEnv → Option (Lr × MEnv)) (g : Int → Int → Int) : MEnv → Option Out := fun env => match env[i]? with
  | some (.val (.int a)) => match f env with
    | some (r, e1) => match look r e1 with
      | some (.int b) => match setS i (.val (.int (g a b))) e1 with
        | some e2 => some (.nx e2)
        | none => none
      | _ => none
    | none => none
  | _ => none
theorem ss_aug {i : Nat} {x : Str} {p2 : Pos} {op : Operator} {g : Int → Int → Int} {f : MEnv → Option (Lr × MEnv)} (h : SL X e f) (hp : PS X (.AugAssign (.Name x p2) op e pos) (tAug i (W X e) (ipI g))) : SS X (.AugAssign (.Name x p2) op e pos) (augB i f g) := by
  refine ⟨?_⟩
  intro env σ Hs H o hf I D q
  unfold augB at hf
  split at hf
  · rename_i a0 ha
    split at hf
    · rename_i r e1 h1
      split at hf
      · rename_i b0 hb
        split at hf
        · rename_i e2 h2
          cases hf
          obtain ⟨rfl, hi, hn⟩ := setS_some h2
          obtain ⟨v, k1, k2⟩ := I.vals i _ ha
          cases (show v = .int a0 from k2)
          refine WS.of hp ⟨.int a0, k1, ?_⟩
          refine h env σ Hs H r e1 h1 I _ fun u Hs1 H1 g1 I1 r1 => ?_
          have hu := rep_int (RepLr.top I1 r1 hb)
          exact ⟨a0, b0, rfl, hu, q _ Hs1 H1 (g1.go.trans (Go.setV hn)) (I1.setV hi rfl)⟩
        · cases hf
      · cases hf
    · cases hf
  · cases hf

/-! ### methods that change a list of the def's -/
def appB (i : Nat) (f : MEnv → Option (PyData × MEnv)) : MEnv → Option Out := fun env => match env[i]? with
  | some s0 => match s0.mut with
    | some _ => match f env with
      | some (d, e1) => match e1[i]? with
        | some s => match s.mut with
          | some xs => if xs.length < 100000 then some (.nx (e1.set i (s.put (xs ++ [d])))) else none
          | none => none
        | none => none
      | none => none
    | none => none
  | none => none
theorem ss_app {i : Nat} {x : Str} {px pa p2 : Pos} {f : MEnv → Option (PyData × MEnv)} (hx : PE X (.Name x px) (tVar i)) (h : SV X e f) (hp : plainE e = true) (hline : (pa.endLine == p2.line) = true) :
    SS X (.Expr (.Call (.Attribute (.Name x px) "append" pa) [e] [] p2) pos) (appB i f) := by
  refine ⟨?_⟩
  intro env σ Hs H o hf I D q
  unfold appB at hf
  split at hf
  · rename_i s0 h0
    split at hf
    · rename_i xs0 m0
      split at hf
      · rename_i d e1 h1
        split at hf
        · rename_i s hs
          split at hf
          · rename_i xs hm
            split at hf
            · rename_i hz
              cases hf
              obtain ⟨p, vs0, k1, k2, k3, k4⟩ := I.muts i s0 xs0 h0 m0
              have pe := pe_bm (X := X) PySem.F.plainAttrs_list PySem.F.slot_list_append PySem.F.type_list_append mt_append hx (pa_cons (W.pe X e) pa_nil (star_plain hp)) (apos := pa) (cpos := p2) (by rfl) (by rw [star_plain hp]; rfl) hline (star_plain hp) rfl
              refine WS.of (ps_expr pe) ?_
              refine ⟨.ref p, k1, .inl ⟨rfl, vs0, Evl.sq_of k3⟩, ?_⟩
              refine h env σ Hs H d e1 h1 I _ fun v Hs1 H1 g1 I1 r1 => ?_
              obtain ⟨p', vs, j1, j2, j3, j4⟩ := I1.muts i s xs hs hm
              rw [k1] at j1
              cases j1
              refine ⟨p, vs, v, rfl, rfl, j3, Evl.sz_lt (by rw [← RepL.length j4]; exact hz), ?_⟩
              have r2 : RepL X.K Hs1 (xs ++ [d]) (vs ++ [v]) := RepL.app j4 ⟨v, [], rfl, r1, rfl⟩
              exact q σ Hs1 _ (g1.trans (GoE.change I1 hs hm k1)).go (I1.change hs hm (Slot.put_mut hm _) k1 r2)
            · cases hf
          · cases hf
        · cases hf
      · cases hf
    · cases hf
  · cases hf
/-- xs[j] = e -/
def setB (i : Nat) (f : MEnv → Option (PyData × MEnv)) (fj : MEnv → Option (Lr × MEnv)) : MEnv → Option Out := fun env => match f env with
  | some (d, e1) => match e1[i]? with
    | some s0 => match s0.mut with
      | some _ => match fj e1 with
        | some (rj, e2) => match look rj e2, e2[i]? with
          | some (.int j), some s => match s.mut with
            | some xs => match ixN xs.length j with
              | some k => some (.nx (e2.set i (s.put (xs.set k d))))
              | none => none
            | none => none
          | _, _ => none
        | none => none
      | none => none
    | none => none
  | none => none
theorem ss_set {i : Nat} {x : Str} {px p2 : Pos} {j : Expr} {f : MEnv → Option (PyData × MEnv)} {fj : MEnv → Option (Lr × MEnv)} (hx : PE X (.Name x px) (tVar i)) (h : SV X e f) (hj : SL X j fj) (hs : swapsWithSole [.Subscript (.Name x px) j p2] e pos.line X.env = pure false)
    (hw : swappedStores [.Subscript (.Name x px) j p2] e X.env = pure none) (hp : plainIx j = true) : SS X (.Assign [.Subscript (.Name x px) j p2] e pos) (setB i f fj) := by
  refine ⟨?_⟩
  intro env σ Hs H o hf I D q
  unfold setB at hf
  split at hf
  · rename_i d e1 h1
    split at hf
    · rename_i s0 h0
      split at hf
      · rename_i xs0 m0
        split at hf
        · rename_i rj e2 h2
          split at hf
          · rename_i jj s hjj hsl
            split at hf
            · rename_i xs hm
              split at hf
              · rename_i k hk
                cases hf
                refine WS.of (ps_asg (W.pe X e) (pg_sub hx (W.pe X j) set_list (plainIx_asg hp)) hs hw (each_one rfl)) ?_
                refine h env σ Hs H d e1 h1 I _ fun v Hs1 H1 g1 I1 r1 => ?_
                obtain ⟨p, vs0, k1, k2, k3, k4⟩ := I1.muts i s0 xs0 h0 m0
                refine ⟨.ref p, k1, ?_⟩
                refine hj e1 σ Hs1 H1 rj e2 h2 I1 _ fun u Hs2 H2 g2 I2 r2 => ?_
                have hu := rep_int (RepLr.top I2 r2 hjj)
                obtain ⟨p', vs, j1, j2, j3, j4⟩ := I2.muts i s xs hsl hm
                rw [k1] at j1
                cases j1
                refine ⟨p, vs, jj, k, rfl, hu, j3, by rw [← RepL.length j4]; exact hk, ?_⟩
                have r3 : RepL X.K Hs2 (xs.set k d) (vs.set k v) := RepL.set (Rep.mono g2.sh d v r1) k j4
                exact q σ Hs2 _ ((g1.trans g2).trans (GoE.change I2 hsl hm k1)).go (I2.change hsl hm (Slot.put_mut hm _) k1 r3)
              · cases hf
            · cases hf
          · cases hf
        · cases hf
      · cases hf
    · cases hf
  · cases hf

/-! ### loops -/
def forLoop (fg : PyData → MEnv → Option MEnv) (fb : MEnv → Option Out) : List PyData → MEnv → Option Out
  | [], env => some (.nx env)
  | d :: ds, env => match fg d env with
    | some e1 => match fb e1 with
      | some (.nx e2) => forLoop fg fb ds e2
      | some (.ct e2) => forLoop fg fb ds e2
      | some (.bk e2) => some (.nx e2)
      | some (.rt r e2) => some (.rt r e2)
      | none => none
    | none => none
def forB (fi : MEnv → Option (List PyData × MEnv)) (fg : PyData → MEnv → Option MEnv) (fb : MEnv → Option Out) : MEnv → Option Out := fun env => match fi env with
  | some (ds, e1) => forLoop fg fb ds e1
  | none => none
theorem ss_for {tg iter : Expr} {body : List Stmt} {ix : List Nat} {fi : MEnv → Option (List PyData × MEnv)} {fg : PyData → MEnv → Option MEnv} {fb : MEnv → Option Out} (hi : SI X tg iter fi) (hg : SG X tg ix fg) (hb : SB X body fb)
    (hp : PassesOwn (model X.prog X.w) X.A X.env X.xe) (hc : X.calm = true) (hs : ∀ x, foldedSetIterable iter X.env x = pure x) : SS X (.For tg iter body [] pos) (forB fi fg fb) := by
  refine ⟨?_⟩
  intro env σ Hs H o hf I D q
  unfold forB at hf
  split at hf
  · rename_i ds e1 h1
    refine WS.of (ps_for hp hc (WI.pi X tg iter) (WG.pg X tg) (WSs.ps X body) hs) ?_
    refine hi env σ Hs H ds e1 h1 I _ fun J Hs1 H1 g1 I1 wk => ?_
    refine for_it wk (fun i σ2 H2 => ∃ e2 Hs2, forLoop fg fb (ds.drop i) e2 = some o ∧ Go σ e1 Hs1 H1 σ2 e2 Hs2 H2 ∧ InvS X.K Hs2 H2 σ2 e2) ?_ ?_ ?_ ?_
    · exact ⟨e1, Hs1, hf, Go.refl, I1⟩
    · rintro i σ2 H2 _ ⟨e2, Hs2, _, g2, I2⟩
      exact ⟨Hs2, g2.sh, I2.sh⟩
    · rintro i x σ2 H2 H3 hlt ⟨e2, Hs2, k1, g2, I2⟩ ⟨d, hd, hy⟩
      obtain ⟨Hs3, g3, I3, r3⟩ := hy Hs2 g2.sh I2.sh _ _ I2
      have ed : ds.drop i = d :: ds.drop (i + 1) := by
        rw [List.drop_eq_getElem_cons hlt]
        rw [List.getElem?_eq_getElem hlt] at hd
        cases hd
        rfl
      rw [ed] at k1
      unfold forLoop at k1
      split at k1
      · rename_i e3 h3
        refine hg e2 σ2 Hs3 H3 d x e3 h3 I3 r3 _ fun σ4 Hs4 H4 g4 I4 _ => ?_
        have g14 := (g2.trans g3.go).trans g4.go
        have q4 := (q.step g1.go).step g14
        split at k1
        · rename_i e4 h4
          exact hb e3 σ4 Hs4 H4 _ h4 I4 _ fun σ5 Hs5 H5 g5 I5 => ⟨e4, Hs5, k1, g14.trans g5, I5⟩
        · rename_i e4 h4
          exact hb e3 σ4 Hs4 H4 _ h4 I4 _ fun σ5 Hs5 H5 g5 I5 => ⟨e4, Hs5, k1, g14.trans g5, I5⟩
        · rename_i e4 h4
          cases k1
          exact hb e3 σ4 Hs4 H4 _ h4 I4 _ q4
        · rename_i r e4 h4
          cases k1
          exact hb e3 σ4 Hs4 H4 _ h4 I4 _ q4
        · cases k1
      · cases k1
    · rintro σ2 H2 ⟨e2, Hs2, k1, g2, I2⟩
      rw [List.drop_eq_nil_of_le (Nat.le_refl _)] at k1
      unfold forLoop at k1
      cases k1
      exact q σ2 Hs2 H2 (g1.go.trans g2) I2
  · cases hf
def whileLoop (ft : MEnv → Option (Bool × MEnv)) (fb : MEnv → Option Out) : Nat → MEnv → Option Out
  | 0, _ => none
  | n + 1, env => match ft env with
    | some (false, e1) => some (.nx e1)
    | some (true, e1) => match fb e1 with
      | some (.nx e2) => whileLoop ft fb n e2
      | some (.ct e2) => whileLoop ft fb n e2
      | some (.bk e2) => some (.nx e2)
      | some (.rt r e2) => some (.rt r e2)
      | none => none
    | none => none
theorem ss_while {t : Expr} {body : List Stmt} {ft : MEnv → Option (Bool × MEnv)} {fb : MEnv → Option Out} (n : Nat) (ht : ST X t ft) (hb : SB X body fb) (hp : PassesOwn (model X.prog X.w) X.A X.env X.xe) : SS X (.While t body [] pos) (whileLoop ft fb n) := by
  refine ⟨?_⟩
  intro env σ Hs H o hf I D q
  refine WS.of (ps_while hp (WT.pt X t) (WSs.ps X body)) ?_
  refine ⟨fun m σ2 H2 => ∃ e2 Hs2, whileLoop ft fb m e2 = some o ∧ Go σ env Hs H σ2 e2 Hs2 H2 ∧ InvS X.K Hs2 H2 σ2 e2, ⟨n, env, Hs, hf, Go.refl, I⟩, ?_⟩
  rintro m σ2 H2 ⟨e2, Hs2, k1, g2, I2⟩
  cases m with
  | zero => cases k1
  | succ m =>
    unfold whileLoop at k1
    split at k1
    · rename_i e3 h3
      cases k1
      exact ht e2 σ2 Hs2 H2 false e3 h3 I2 _ fun Hs3 H3 g3 I3 => iteF (q σ2 Hs3 H3 (g2.trans g3.go) I3)
    · rename_i e3 h3
      refine ht e2 σ2 Hs2 H2 true e3 h3 I2 _ fun Hs3 H3 g3 I3 => iteT ?_
      have g23 := g2.trans g3.go
      have q3 := q.step g23
      refine ⟨fun σ5 H5 => ∃ e5 Hs5, whileLoop ft fb m e5 = some o ∧ Go σ env Hs H σ5 e5 Hs5 H5 ∧ InvS X.K Hs5 H5 σ5 e5, fun σ5 H5 h5 => ⟨m, Nat.lt_succ_self m, h5⟩, ?_⟩
      split at k1
      · rename_i e4 h4
        exact hb e3 σ2 Hs3 H3 _ h4 I3 _ fun σ5 Hs5 H5 g5 I5 => ⟨e4, Hs5, k1, g23.trans g5, I5⟩
      · rename_i e4 h4
        exact hb e3 σ2 Hs3 H3 _ h4 I3 _ fun σ5 Hs5 H5 g5 I5 => ⟨e4, Hs5, k1, g23.trans g5, I5⟩
      · rename_i e4 h4
        cases k1
        exact hb e3 σ2 Hs3 H3 _ h4 I3 _ q3
      · rename_i r e4 h4
        cases k1
        exact hb e3 σ2 Hs3 H3 _ h4 I3 _ q3
      · cases k1
    · cases k1
end Ip

set_option Elab.async false
set_option linter.all false
set_option maxRecDepth 100000
set_option maxHeartbeats 4000000
namespace Ip
open PySem L2
open Evl (Ex sz_of fresh_back)
variable {X : Cx} {a b e : Expr} {pos : Pos} {K : PySem.W.Frag} {Hs Hs' H H' : Hp} {σ : L2.St} {env env' : MEnv}

/-! ### built-in functions -/
theorem se_b1 {id : String} {r : List V → Hp → VK → Prop} {x : Str} {p : Pos} {fa : MEnv → Option (Lr × MEnv)} {g : PyData → Option Slot} (hc : CallR X (.builtin id) r) (hg : Gl X x) (hm : X.mg x = none) (hv : bootBuiltins x = some (.builtin id)) (ha : SL X a fa)
    (hr : R1ok X.K (fun v H Q => r [v] H Q) g) (hp : plainE a = true) (hn : x ≠ "__name__") (hd : (x == ("__debug__" : Str)) = false) : SE X (.Call (.Name x p) [a] [] pos) (op1 fa g) :=
  se_op1 ha hr (show PE X _ (tCB r (tCons (W X a) tNil)) from pe_callB hc hg hm hv (pa_cons (W.pe X a) pa_nil (star_plain hp)) hn hd (star_plain hp) rfl)
theorem se_t1 {T : String} {r : List V → Hp → VK → Prop} {x : Str} {p : Pos} {fa : MEnv → Option (Lr × MEnv)} {g : PyData → Option Slot} (hc : CallR X (.type T) r) (hg : Gl X x) (hm : X.mg x = none) (hv : bootBuiltins x = some (.type T)) (ha : SL X a fa)
    (hr : R1ok X.K (fun v H Q => r [v] H Q) g) (hp : plainE a = true) (hn : x ≠ "__name__") (hd : (x == ("__debug__" : Str)) = false) : SE X (.Call (.Name x p) [a] [] pos) (op1 fa g) :=
  se_op1 ha hr (show PE X _ (tCB r (tCons (W X a) tNil)) from pe_callTy hc hg hm hv (pa_cons (W.pe X a) pa_nil (star_plain hp)) hn hd (star_plain hp) rfl)
theorem se_b2 {id : String} {r : List V → Hp → VK → Prop} {x : Str} {p : Pos} {fa fb : MEnv → Option (Lr × MEnv)} {g : PyData → PyData → Option Slot} (hc : CallR X (.builtin id) r) (hg : Gl X x) (hm : X.mg x = none) (hv : bootBuiltins x = some (.builtin id)) (ha : SL X a fa)
    (hb : SL X b fb) (hr : R2ok X.K (fun v u H Q => r [v, u] H Q) g) (hp : plainE a = true) (hp2 : plainE b = true) (hn : x ≠ "__name__") (hd : (x == ("__debug__" : Str)) = false) : SE X (.Call (.Name x p) [a, b] [] pos) (op2 fa fb g) :=
  se_op2 ha hb hr (show PE X _ (tCB r (tCons (W X a) (tCons (W X b) tNil))) from pe_callB hc hg hm hv (pa_cons (W.pe X a) (pa_cons (W.pe X b) pa_nil (star_plain hp2)) (star_plain hp)) hn hd (star_plain hp) (by rw [star_plain hp2]; rfl))
/-- an imported built-in function of two operands -/
theorem se_f2 {id : String} {r : List V → Hp → VK → Prop} {x : Str} {p : Pos} {fa fb : MEnv → Option (Lr × MEnv)} {g : PyData → PyData → Option Slot} (hc : CallR X (.builtin id) r) (hg : Gl X x) (hm : X.mg x = some (.builtin id)) (ha : SL X a fa)
    (hb : SL X b fb) (hr : R2ok X.K (fun v u H Q => r [v, u] H Q) g) (hp : plainE a = true) (hp2 : plainE b = true) (hd : (x == ("__debug__" : Str)) = false) : SE X (.Call (.Name x p) [a, b] [] pos) (op2 fa fb g) :=
  se_op2 ha hb hr (show PE X _ (tCB r (tCons (W X a) (tCons (W X b) tNil))) from pe_callBfun hc hg hm (pa_cons (W.pe X a) (pa_cons (W.pe X b) pa_nil (star_plain hp2)) (star_plain hp)) hd (star_plain hp) (by rw [star_plain hp2]; rfl))

def lenD : PyData → Option Slot
  | .list xs => some (.val (.int xs.length))
  | .tuple xs => some (.val (.int xs.length))
  | .str z => if z.length ≤ 100000 then some (.val (.int z.length)) else none
  | _ => none
theorem ok_len : R1ok X.K (fun v H Q => (∃ p ys, [v] = [V.ref p] ∧ (SqL X.K H p ys ∨ SqT X.K H p ys) ∧ Q (.int ys.length) H) ∨ (∃ z, [v] = [V.str z] ∧ z.length ≤ sizeLine ∧ Q (.int z.length) H)) lenD := by
  intro Hs H σ env x v s hs I hx Q q
  cases x <;> try (cases hs; done)
  · rename_i z
    unfold lenD at hs
    simp only at hs
    split at hs
    · rename_i hz
      cases hs
      exact .inr ⟨z, by rw [(show v = V.str z from hx)], sz_of hz, ok_val I rfl (show Rep X.K Hs (.int _) (.int _) from rfl) q⟩
    · cases hs
  · rename_i xs
    cases hs
    obtain ⟨p, vs, rfl, h1, h2⟩ := hx
    exact .inl ⟨p, vs, rfl, .inl h1, ok_val I rfl (show Rep X.K Hs (.int _) (.int _) by rw [RepL.length h2]; rfl) q⟩
  · rename_i xs
    cases hs
    obtain ⟨p, vs, rfl, h1, h2⟩ := hx
    exact .inl ⟨p, vs, rfl, .inr (Evl.ex_t I.sh h1), ok_val I rfl (show Rep X.K Hs (.int _) (.int _) by rw [RepL.length h2]; rfl) q⟩
def intD : PyData → Option Slot
  | .int i => some (.val (.int i))
  | .bool b => some (.val (.int (if b then 1 else 0)))
  | _ => none
theorem ok_int : R1ok X.K (fun v H Q => (∃ i, [v] = [V.int i] ∧ Q (.int i) H) ∨ ∃ k, [v] = [V.bl k] ∧ Q (.int (if k then 1 else 0)) H) intD := by
  intro Hs H σ env x v s hs I hx Q q
  cases x <;> try (cases hs; done)
  · rename_i b
    cases hs
    exact .inr ⟨b, by rw [(show v = V.bl b from hx)], ok_val I rfl (show Rep X.K Hs (.int _) (.int _) from rfl) q⟩
  · rename_i i
    cases hs
    exact .inl ⟨i, by rw [(show v = V.int i from hx)], ok_val I rfl (show Rep X.K Hs (.int _) (.int _) from rfl) q⟩
def absD : PyData → Option Slot
  | .int i => some (.val (.int (if i < 0 then -i else i)))
  | _ => none
theorem ok_abs : R1ok X.K (fun v H Q => ∃ i, [v] = [V.int i] ∧ Q (.int (if i < 0 then -i else i)) H) absD := by
  intro Hs H σ env x v s hs I hx Q q
  cases x <;> try (cases hs; done)
  rename_i i
  cases hs
  exact ⟨i, by rw [(show v = V.int i from hx)], ok_val I rfl (show Rep X.K Hs (.int _) (.int _) from rfl) q⟩
/-- str(n) of an int -/
def strD : PyData → Option Slot
  | .int i => if i.natAbs.log2 < 1920 then some (.val (.str (toString i))) else none
  | _ => none
theorem ok_str : R1ok X.K (fun v H Q => ∃ i, [v] = [V.int i] ∧ i.natAbs.log2 < 1920 ∧ Q (.str (toString i)) H) strD := by
  intro Hs H σ env x v s hs I hx Q q
  cases x <;> try (cases hs; done)
  rename_i i
  unfold strD at hs
  simp only at hs
  split at hs
  · rename_i hz
    cases hs
    exact ⟨i, by rw [(show v = V.int i from hx)], hz, ok_val I rfl (show Rep X.K Hs (.str _) (.str _) from rfl) q⟩
  · cases hs
/-- list(xs) -/
def listD : PyData → Option Slot
  | .list xs => some (.own xs)
  | .tuple xs => some (.own xs)
  | _ => none
theorem ok_list : R1ok X.K (fun v H Q => ∃ p ys, [v] = [V.ref p] ∧ (SqL X.K H p ys ∨ SqT X.K H p ys) ∧ ∀ l, H l = none → Q (.ref l) (upd H l (.lst ys))) listD := by
  intro Hs H σ env x v s hs I hx Q q
  cases x <;> try (cases hs; done)
  · rename_i xs
    cases hs
    obtain ⟨p, vs, rfl, h1, h2⟩ := hx
    exact ⟨p, vs, rfl, .inl h1, ok_newL (s := .own xs) I rfl h2 q⟩
  · rename_i xs
    cases hs
    obtain ⟨p, vs, rfl, h1, h2⟩ := hx
    exact ⟨p, vs, rfl, .inr (Evl.ex_t I.sh h1), ok_newL (s := .own xs) I rfl h2 q⟩
/-! lists of truths, of ints -/
def boolsOf : List PyData → Option (List Bool)
  | [] => some []
  | .bool b :: r => (boolsOf r).map (b :: ·)
  | _ :: _ => none
def intsOf : List PyData → Option (List Int)
  | [] => some []
  | .int i :: r => (intsOf r).map (i :: ·)
  | _ :: _ => none
theorem boolsOf_rep : ∀ {ds : List PyData} {bs : List Bool} {vs : List V}, boolsOf ds = some bs → RepL K H ds vs → vs = bs.map V.bl
  | [], bs, vs, h, r => by
    cases h
    exact r
  | .bool b :: ds, bs, vs, h, r => by
    obtain ⟨v, w, rfl, h1, h2⟩ := r
    have h : (boolsOf ds).map (b :: ·) = some bs := h
    cases hd : boolsOf ds with
    | none => rw [hd] at h; cases h
    | some cs =>
      rw [hd] at h
      cases h
      rw [boolsOf_rep hd h2, (show v = V.bl b from h1)]
      rfl
  | .none :: _, _, _, h, _ => by cases h
  | .int _ :: _, _, _, h, _ => by cases h
  | .str _ :: _, _, _, h, _ => by cases h
  | .list _ :: _, _, _, h, _ => by cases h
  | .tuple _ :: _, _, _, h, _ => by cases h
  | .dict _ :: _, _, _, h, _ => by cases h
theorem intsOf_rep : ∀ {ds : List PyData} {bs : List Int} {vs : List V}, intsOf ds = some bs → RepL K H ds vs → vs = bs.map V.int
  | [], bs, vs, h, r => by
    cases h
    exact r
  | .int b :: ds, bs, vs, h, r => by
    obtain ⟨v, w, rfl, h1, h2⟩ := r
    have h : (intsOf ds).map (b :: ·) = some bs := h
    cases hd : intsOf ds with
    | none => rw [hd] at h; cases h
    | some cs =>
      rw [hd] at h
      cases h
      rw [intsOf_rep hd h2, (show v = V.int b from h1)]
      rfl
  | .none :: _, _, _, h, _ => by cases h
  | .bool _ :: _, _, _, h, _ => by cases h
  | .str _ :: _, _, _, h, _ => by cases h
  | .list _ :: _, _, _, h, _ => by cases h
  | .tuple _ :: _, _, _, h, _ => by cases h
  | .dict _ :: _, _, _, h, _ => by cases h
def allD : PyData → Option Slot
  | .list xs => (boolsOf xs).map fun bs => .val (.bool (bs.all id))
  | _ => none
def anyD : PyData → Option Slot
  | .list xs => (boolsOf xs).map fun bs => .val (.bool (bs.any id))
  | _ => none
def sumD : PyData → Option Slot
  | .list xs => (intsOf xs).map fun ns => .val (.int ns.sum)
  | _ => none
theorem ok_all : R1ok X.K (fun v H Q => rAll X.K [v] H Q) allD := by
  intro Hs H σ env x v s hs I hx Q q
  cases x <;> try (cases hs; done)
  rename_i xs
  have hs : (boolsOf xs).map (fun bs => Slot.val (.bool (bs.all id))) = some s := hs
  cases hd : boolsOf xs with
  | none => rw [hd] at hs; cases hs
  | some bs =>
    rw [hd] at hs
    cases hs
    obtain ⟨p, vs, rfl, h1, h2⟩ := hx
    exact ⟨p, bs, rfl, by rw [← boolsOf_rep hd h2]; exact h1, ok_val I rfl (show Rep X.K Hs (.bool _) (.bl _) from rfl) q⟩
theorem ok_any : R1ok X.K (fun v H Q => rAny X.K [v] H Q) anyD := by
  intro Hs H σ env x v s hs I hx Q q
  cases x <;> try (cases hs; done)
  rename_i xs
  have hs : (boolsOf xs).map (fun bs => Slot.val (.bool (bs.any id))) = some s := hs
  cases hd : boolsOf xs with
  | none => rw [hd] at hs; cases hs
  | some bs =>
    rw [hd] at hs
    cases hs
    obtain ⟨p, vs, rfl, h1, h2⟩ := hx
    exact ⟨p, bs, rfl, by rw [← boolsOf_rep hd h2]; exact h1, ok_val I rfl (show Rep X.K Hs (.bool _) (.bl _) from rfl) q⟩
theorem ok_sum : R1ok X.K (fun v H Q => rSum X.K [v] H Q) sumD := by
  intro Hs H σ env x v s hs I hx Q q
  cases x <;> try (cases hs; done)
  rename_i xs
  have hs : (intsOf xs).map (fun ns => Slot.val (.int ns.sum)) = some s := hs
  cases hd : intsOf xs with
  | none => rw [hd] at hs; cases hs
  | some bs =>
    rw [hd] at hs
    cases hs
    obtain ⟨p, vs, rfl, h1, h2⟩ := hx
    exact ⟨p, bs, rfl, by rw [← intsOf_rep hd h2]; exact h1, ok_val I rfl (show Rep X.K Hs (.int _) (.int _) from rfl) q⟩
/-! of two ints -/
def gcdD : PyData → PyData → Option Slot
  | .int i, .int j => some (.val (.int ((Nat.gcd i.natAbs j.natAbs : Nat) : Int)))
  | _, _ => none
def max2D : PyData → PyData → Option Slot
  | .int i, .int j => some (.val (.int (if j > i then j else i)))
  | _, _ => none
def min2D : PyData → PyData → Option Slot
  | .int i, .int j => some (.val (.int (if j < i then j else i)))
  | _, _ => none
theorem ok_gcd : R2ok X.K (fun v u H Q => rGcd [v, u] H Q) gcdD := by
  intro Hs H σ env x y v u s hs I hx hy Q q
  cases x <;> cases y <;> try (cases hs; done)
  rename_i i j
  cases hs
  exact ⟨i, j, by rw [(show v = V.int i from hx), (show u = V.int j from hy)], ok_val I rfl (show Rep X.K Hs (.int _) (.int _) from rfl) q⟩
theorem ok_max2 : R2ok X.K (fun v u H Q => ∃ i j, [v, u] = [V.int i, V.int j] ∧ Q (.int (if j > i then j else i)) H) max2D := by
  intro Hs H σ env x y v u s hs I hx hy Q q
  cases x <;> cases y <;> try (cases hs; done)
  rename_i i j
  cases hs
  exact ⟨i, j, by rw [(show v = V.int i from hx), (show u = V.int j from hy)], ok_val I rfl (show Rep X.K Hs (.int _) (.int _) from rfl) q⟩
theorem ok_min2 : R2ok X.K (fun v u H Q => ∃ i j, [v, u] = [V.int i, V.int j] ∧ Q (.int (if j < i then j else i)) H) min2D := by
  intro Hs H σ env x y v u s hs I hx hy Q q
  cases x <;> cases y <;> try (cases hs; done)
  rename_i i j
  cases hs
  exact ⟨i, j, by rw [(show v = V.int i from hx), (show u = V.int j from hy)], ok_val I rfl (show Rep X.K Hs (.int _) (.int _) from rfl) q⟩

/-! ### isinstance of a built-in class -/
def tyOf : PyData → String
  | .none => "NoneType"
  | .bool _ => "bool"
  | .int _ => "int"
  | .str _ => "str"
  | .list _ => "list"
  | .tuple _ => "tuple"
  | .dict _ => "dict"
inductive Ty where
  | int | bool | str | list | tuple
def Ty.nm : Ty → String
  | .int => "int"
  | .bool => "bool"
  | .str => "str"
  | .list => "list"
  | .tuple => "tuple"
def isaB : Ty → PyData → Bool
  | .int, .int _ => true
  | .int, .bool _ => true
  | .bool, .bool _ => true
  | .str, .str _ => true
  | .list, .list _ => true
  | .tuple, .tuple _ => true
  | _, _ => false
theorem isa_kit : ∀ (T : Ty) (d : PyData), kitB (tyOf d) T.nm = some (isaB T d)
  | .int, .none => (by decide +kernel : kitB "NoneType" "int" = some false)
  | .int, .bool _ => (by decide +kernel : kitB "bool" "int" = some true)
  | .int, .int _ => (by decide +kernel : kitB "int" "int" = some true)
  | .int, .str _ => (by decide +kernel : kitB "str" "int" = some false)
  | .int, .list _ => (by decide +kernel : kitB "list" "int" = some false)
  | .int, .tuple _ => (by decide +kernel : kitB "tuple" "int" = some false)
  | .int, .dict _ => (by decide +kernel : kitB "dict" "int" = some false)
  | .bool, .none => (by decide +kernel : kitB "NoneType" "bool" = some false)
  | .bool, .bool _ => (by decide +kernel : kitB "bool" "bool" = some true)
  | .bool, .int _ => (by decide +kernel : kitB "int" "bool" = some false)
  | .bool, .str _ => (by decide +kernel : kitB "str" "bool" = some false)
  | .bool, .list _ => (by decide +kernel : kitB "list" "bool" = some false)
  | .bool, .tuple _ => (by decide +kernel : kitB "tuple" "bool" = some false)
  | .bool, .dict _ => (by decide +kernel : kitB "dict" "bool" = some false)
  | .str, .none => (by decide +kernel : kitB "NoneType" "str" = some false)
  | .str, .bool _ => (by decide +kernel : kitB "bool" "str" = some false)
  | .str, .int _ => (by decide +kernel : kitB "int" "str" = some false)
  | .str, .str _ => (by decide +kernel : kitB "str" "str" = some true)
  | .str, .list _ => (by decide +kernel : kitB "list" "str" = some false)
  | .str, .tuple _ => (by decide +kernel : kitB "tuple" "str" = some false)
  | .str, .dict _ => (by decide +kernel : kitB "dict" "str" = some false)
  | .list, .none => (by decide +kernel : kitB "NoneType" "list" = some false)
  | .list, .bool _ => (by decide +kernel : kitB "bool" "list" = some false)
  | .list, .int _ => (by decide +kernel : kitB "int" "list" = some false)
  | .list, .str _ => (by decide +kernel : kitB "str" "list" = some false)
  | .list, .list _ => (by decide +kernel : kitB "list" "list" = some true)
  | .list, .tuple _ => (by decide +kernel : kitB "tuple" "list" = some false)
  | .list, .dict _ => (by decide +kernel : kitB "dict" "list" = some false)
  | .tuple, .none => (by decide +kernel : kitB "NoneType" "tuple" = some false)
  | .tuple, .bool _ => (by decide +kernel : kitB "bool" "tuple" = some false)
  | .tuple, .int _ => (by decide +kernel : kitB "int" "tuple" = some false)
  | .tuple, .str _ => (by decide +kernel : kitB "str" "tuple" = some false)
  | .tuple, .list _ => (by decide +kernel : kitB "list" "tuple" = some false)
  | .tuple, .tuple _ => (by decide +kernel : kitB "tuple" "tuple" = some true)
  | .tuple, .dict _ => (by decide +kernel : kitB "dict" "tuple" = some false)
def isDic : PyData → Bool
  | .dict _ => true
  | _ => false
theorem top_ty (sh : Ex Hs H) : ∀ {d : PyData} {v : V}, isDic d = false → Top K Hs H d v → TyX K H v (.type (tyOf d))
  | .none, v, _, h => by cases (show v = .non from h); exact .base .non
  | .bool b, v, _, h => by cases (show v = .bl b from h); exact .base (.bl b)
  | .int b, v, _, h => by cases (show v = .int b from h); exact .base (.int b)
  | .str b, v, _, h => by cases (show v = .str b from h); exact .base (.str b)
  | .list xs, v, _, h => by
    obtain ⟨a, vs, rfl, h1, _⟩ := h
    rcases h1 with (h1 | ⟨o, h1⟩) | ⟨o, its, n, hk, hc, _⟩
    · exact .base (.lst h1)
    · exact .base (.frz h1)
    · exact .kList hk hc
  | .tuple xs, v, _, h => by
    obtain ⟨a, vs, rfl, h1, _⟩ := h
    have h1 := Evl.ex_t sh h1
    rcases h1 with (h1 | ⟨o, h1⟩) | ⟨o, its, n, hk, hc, _⟩
    · exact .base (.tup h1)
    · exact .fTuple h1
    · exact .kTuple hk hc
  | .dict _, v, n, h => by cases n
def isaD (T : Ty) (d : PyData) : Option Slot := if isDic d = true then none else some (.val (.bool (isaB T d)))
theorem se_isa {T : Ty} {x n : Str} {p p2 : Pos} {fa : MEnv → Option (Lr × MEnv)} (hx : x = "isinstance") (hg : Gl X x) (hm : X.mg x = none) (ha : SL X a fa) (hp : plainE a = true) (hgT : Gl X n) (hmT : X.mg n = none) (hb : bootBuiltins n = some (.type T.nm)) (hn : n ≠ "__name__") (hdb : (n == ("__debug__" : Str)) = false) :
    SE X (.Call (.Name x p) [a, .Name n p2] [] pos) (op1 fa (isaD T)) := by
  subst hx
  have pT : PE X (.Name n p2) (tC (.ty T.nm)) := pe_bltn hgT hmT hb rfl hn hdb
  refine se_op1 (r := fun v H Q => rIsi X.K [v, .ty T.nm] H Q) ha ?_ (show PE X _ (tCB (rIsi X.K) (tCons (W X a) (tCons (tC (.ty T.nm)) tNil))) from pe_callB call_isi hg hm (by decide +kernel) (pa_cons (W.pe X a) (pa_cons pT pa_nil) (star_plain hp)) (by decide) (by decide) (star_plain hp) rfl)
  intro Hs H σ env d v s hs I hx Q q
  unfold isaD at hs
  split at hs
  · cases hs
  rename_i hnd
  cases hs
  exact ⟨v, _, _, _, isaB T d, rfl, .ty T.nm, top_ty I.sh (by simpa using hnd) hx, kit_ty (isa_kit T d), ok_val I rfl (show Rep X.K Hs (.bool _) (.bl _) from rfl) q⟩

/-! ### the promise of a def -/
def argOk : Slot → Bool
  | .val _ => true
  | .io _ => true
  | _ => false
abbrev Run := List Slot → Option (Slot × List Slot)
def spF (K : PySem.W.Frag) (n : Nat) (run : Run) : Sp := fun vs H Q _ => ∃ (args : List Slot) (Hs : Hp) (r : Slot) (args' : List Slot), args.length = n ∧ args.all argOk = true ∧ run args = some (r, args') ∧ InvS K Hs H (vs.map some) args ∧
  ∀ v Hs' H', Go (vs.map some) args Hs H (vs.map some) args' Hs' H' → InvS K Hs' H' (vs.map some) args' → RepR K H Hs' H' r v → Q v H'
/-- a call with plain data alone -/
def callF (n : Nat) (run : Run) (fs : MEnv → Option (List PyData × MEnv)) : MEnv → Option (Slot × MEnv) := fun env => match fs env with
  | some (ds, e1) => if ds.length = n then match run (ds.map .val) with
      | some (r, _) => some (r, e1)
      | none => none
    else none
  | none => none
theorem map_val_some {ds : List PyData} {i : Nat} {s : Slot} (h : (ds.map Slot.val)[i]? = some s) : ∃ d, ds[i]? = some d ∧ s = .val d := by
  rw [List.getElem?_map] at h
  cases hd : ds[i]? with
  | none => rw [hd] at h; cases h
  | some d =>
    rw [hd] at h
    cases h
    exact ⟨d, rfl, rfl⟩
theorem rd_call {n : Nat} {run : Run} {es : List Expr} {fs : MEnv → Option (List PyData × MEnv)} (ha : SA X es fs) {r : Slot} (hf : callF n run fs env = some (r, env')) (I : InvS X.K Hs H σ env) (Q : VK)
    (q : ∀ v Hs' H', GoE σ env Hs H env' Hs' H' → InvS X.K Hs' H' σ env' → RepR X.K H Hs' H' r v → Q v H') (E : XK) : tCall (spF X.K n run) [] E (WA X es) σ H Q := by
  unfold callF at hf
  split at hf
  · rename_i ds e1 h1
    split at hf
    · rename_i hl
      split at hf
      · rename_i r0 args' hr
        cases hf
        refine ha env σ Hs H ds env' h1 I _ fun vs Hs1 H1 g1 I1 r1 => ?_
        rw [List.append_nil]
        have nomut : ∀ a, ¬ MutAt (vs.map some) (ds.map .val) a := fun a ⟨i, s, xs, e1, e2, _⟩ => by
          obtain ⟨d, _, rfl⟩ := map_val_some e1
          cases e2
        have noloc : ∀ a, ¬ LocAt (vs.map some) (ds.map .val) a := fun a m => nomut a m.mut
        refine ⟨ds.map .val, Hs1, r, args', by rw [List.length_map]; exact hl, by simp [argOk], hr, ⟨by rw [List.length_map, List.length_map, RepL.length r1], I1.sh, fun i d h => ?_, fun i s xs h hm => ?_, fun i j s t xs ys p h1 m1 _ _ _ _ => ?_⟩, fun v Hs' H' g I' rr => ?_⟩
        · obtain ⟨d', hd, e⟩ := map_val_some h
          cases e
          obtain ⟨w, k1, k2⟩ := RepL.get r1 hd
          exact ⟨w, by rw [List.getElem?_map, k1]; rfl, k2⟩
        · obtain ⟨d', _, rfl⟩ := map_val_some h
          cases hm
        · obtain ⟨d', _, rfl⟩ := map_val_some h1
          cases m1
        · have back : ∀ p o, H1 p = some o → Hs1 p = none → Hs' p = none := fun p o hp hn => by
            cases z : Hs' p with
            | none => rfl
            | some u =>
              rcases g.nw p u z with z1 | z1 | z1
              · rw [hn] at z1; cases z1
              · rw [hp] at z1; cases z1
              · exact absurd z1 (noloc p)
          have ge : GoE σ env' Hs1 H1 env' Hs' H' := ⟨g.sh, fun a o h _ => g.kp a o h (nomut a), g.dm, fun a o h => (g.nw a o h).elim .inl fun z => z.elim (fun z => .inr (.inl z)) fun z => absurd z (noloc a), fun _ h => h, fun _ h => h, fun _ xs h => ⟨xs, h⟩⟩
          refine q v Hs' H' (g1.trans ge) ⟨I1.len, I'.sh, fun i d h => ?_, fun i s xs h hm => ?_, I1.diff⟩ (RepR.mono (fun p hp => g1.none_back hp) rr)
          · obtain ⟨w, k1, k2⟩ := I1.vals i d h
            exact ⟨w, k1, Rep.mono g.sh d w k2⟩
          · obtain ⟨p, us, k1, k2, k3, k4⟩ := I1.muts i s xs h hm
            exact ⟨p, us, k1, back p _ k3 k2, g.kp p _ k3 (nomut p), RepL.mono g.sh xs us k4⟩
      · cases hf
    · cases hf
  · cases hf

/-! ### a def keeps the promise -/
def ioB : Slot → Slot → Slot
  | .io _, e => e
  | a, _ => a
def runB (N n : Nat) (fB : MEnv → Option Out) : Run := fun args => match fB (args ++ List.replicate (N - n) .un) with
  | some (.rt r e) => if args.length ≤ e.length then some (r, List.zipWith ioB args e) else none
  | some (.nx e) => if args.length ≤ e.length then some (.val .none, List.zipWith ioB args e) else none
  | _ => none
theorem start_eq {N : List Str} {vs : List V} : start N vs = vs.map some ++ List.replicate (N.length - vs.length) none := rfl
theorem app_un {args : List Slot} {m i : Nat} {s : Slot} (h : (args ++ List.replicate m Slot.un)[i]? = some s) (hs : s ≠ .un) : args[i]? = some s ∧ i < args.length := by
  by_cases hi : i < args.length
  · rw [List.getElem?_append_left hi] at h
    exact ⟨h, hi⟩
  · rw [List.getElem?_append_right (by omega), List.getElem?_replicate] at h
    split at h
    · cases h; exact absurd rfl hs
    · cases h
theorem app_left {vs : List V} {m i : Nat} (h : i < vs.length) : (vs.map some ++ List.replicate m (none : Option V))[i]? = (vs.map some)[i]? := List.getElem?_append_left (by rw [List.length_map]; exact h)
theorem fn_body {N : List Str} {n : Nat} {fB : MEnv → Option Out} {sts : List Stmt} {vs : List V} {Q : VK} {E : XK} (hX : X.N = N) (hb : SB X sts fB) (hn : n ≤ N.length) (h : spF X.K n (runB N.length n fB) vs H Q E) :
    WSs X sts { nx := fun _ H' => Q .non H', rt := Q } (start N vs) H := by
  obtain ⟨args, Hs, r, args', hl, hok, hr, I, post⟩ := h
  have lv : vs.length = args.length := by have := I.len; rwa [List.length_map] at this
  rw [start_eq, lv, hl]
  have slotOf : ∀ {i : Nat} {s : Slot}, args[i]? = some s → (∃ d, s = .val d) ∨ ∃ xs, s = .io xs := fun {i s} e => by
    have k := (List.all_eq_true.mp hok) s (List.mem_of_getElem? e)
    cases s with
    | val d => exact .inl ⟨d, rfl⟩
    | io xs => exact .inr ⟨xs, rfl⟩
    | un => cases k
    | own xs => cases k
  have same : ∀ i, i < args.length → (vs.map some ++ List.replicate (N.length - n) (none : Option V))[i]? = (vs.map some)[i]? := fun i hi => app_left (by rw [lv]; exact hi)
  have mm : ∀ a, MutAt (vs.map some ++ List.replicate (N.length - n) none) (args ++ List.replicate (N.length - n) .un) a ↔ MutAt (vs.map some) args a := fun a => by
    constructor
    · rintro ⟨i, s, xs, e1, e2, e3⟩
      obtain ⟨k1, k2⟩ := app_un e1 (mut_ne e2)
      exact ⟨i, s, xs, k1, e2, by rw [← same i k2]; exact e3⟩
    · rintro ⟨i, s, xs, e1, e2, e3⟩
      have k2 := (List.getElem?_eq_some_iff.mp e1).1
      exact ⟨i, s, xs, by rw [List.getElem?_append_left k2]; exact e1, e2, by rw [same i k2]; exact e3⟩
  have noloc0 : ∀ a, ¬ LocAt (vs.map some) args a := fun a ⟨i, xs, e1, _⟩ => by
    rcases slotOf e1 with ⟨d, z⟩ | ⟨ys, z⟩ <;> cases z
  have noloc : ∀ a, ¬ LocAt (vs.map some ++ List.replicate (N.length - n) none) (args ++ List.replicate (N.length - n) .un) a := fun a ⟨i, xs, e1, e3⟩ => by
    obtain ⟨k1, k2⟩ := app_un e1 (fun z => by cases z)
    exact noloc0 a ⟨i, xs, k1, by rw [← same i k2]; exact e3⟩
  have I0 : InvS X.K Hs H (vs.map some ++ List.replicate (N.length - n) none) (args ++ List.replicate (N.length - n) .un) := by
    refine ⟨by rw [List.length_append, List.length_append, List.length_map, List.length_replicate, List.length_replicate, lv], I.sh, fun i d e => ?_, fun i s xs e em => ?_, fun i j s t xs ys p e1 m1 e2 m2 g1 g2 => ?_⟩
    · obtain ⟨k1, k2⟩ := app_un e (fun z => by cases z)
      rw [same i k2]
      exact I.vals i d k1
    · obtain ⟨k1, k2⟩ := app_un e (mut_ne em)
      rw [same i k2]
      exact I.muts i s xs k1 em
    · obtain ⟨k1, k2⟩ := app_un e1 (mut_ne m1)
      obtain ⟨k3, k4⟩ := app_un e2 (mut_ne m2)
      rw [same i k2] at g1
      rw [same j k4] at g2
      exact I.diff i j s t xs ys p k1 m1 k3 m2 g1 g2
  -- what holds where the def ends
  have fin : ∀ (e : MEnv) (σ' : L2.St) (Hs' H' : Hp), args.length ≤ e.length → Go (vs.map some ++ List.replicate (N.length - n) none) (args ++ List.replicate (N.length - n) .un) Hs H σ' e Hs' H' → InvS X.K Hs' H' σ' e →
      Go (vs.map some) args Hs H (vs.map some) (List.zipWith ioB args e) Hs' H' ∧ InvS X.K Hs' H' (vs.map some) (List.zipWith ioB args e) := fun e σ' Hs' H' l2 g I' => by
    have ioOf : ∀ {i : Nat} {xs : List PyData}, args[i]? = some (.io xs) → ∃ ys, e[i]? = some (.io ys) ∧ σ'[i]? = (vs.map some)[i]? := fun {i xs} h => by
      have k2 := (List.getElem?_eq_some_iff.mp h).1
      obtain ⟨j1, ys, j2⟩ := g.io i xs (by rw [List.getElem?_append_left k2]; exact h)
      exact ⟨ys, j2, by rw [j1, same i k2]⟩
    have back : ∀ {i : Nat} {s : Slot}, (List.zipWith ioB args e)[i]? = some s → (∃ d, s = .val d ∧ args[i]? = some (.val d)) ∨ ∃ xs ys, s = .io ys ∧ args[i]? = some (.io xs) ∧ e[i]? = some (.io ys) ∧ σ'[i]? = (vs.map some)[i]? := fun {i s} h => by
      rw [List.getElem?_zipWith] at h
      split at h
      · rename_i a0 b0 ha hb0
        cases h
        rcases slotOf ha with ⟨d, rfl⟩ | ⟨xs, rfl⟩
        · exact .inl ⟨d, rfl, ha⟩
        · obtain ⟨ys, j1, j2⟩ := ioOf ha
          rw [hb0] at j1
          cases j1
          exact .inr ⟨xs, ys, rfl, ha, hb0, j2⟩
      · cases h
    have mback : ∀ a, MutAt (vs.map some) (List.zipWith ioB args e) a → MutAt (vs.map some) args a := fun a ⟨i, s, xs, e1, e2, e3⟩ => by
      rcases back e1 with ⟨d, rfl, _⟩ | ⟨zs, ys, rfl, h1, _⟩
      · cases e2
      · exact ⟨i, _, zs, h1, rfl, e3⟩
    refine ⟨⟨g.sh, fun a o h nm => g.kp a o h fun m => nm ((mm a).mp m), g.dm, fun a o h => ?_, fun a m => .inl (mback a m), fun a ⟨i, xs, e1, e3⟩ => ?_, fun i xs h => ⟨rfl, ?_⟩⟩, ⟨?_, I'.sh, fun i d h => ?_, fun i s xs h hm => ?_, fun i j s t xs ys p h1 m1 h2 m2 g1 g2 => ?_⟩⟩
    · rcases g.nw a o h with z | z | z
      · exact .inl z
      · exact .inr (.inl z)
      · exact absurd z (noloc a)
    · rcases back e1 with ⟨d, z, _⟩ | ⟨zs, ys, z, _⟩ <;> cases z
    · obtain ⟨ys, j1, _⟩ := ioOf h
      exact ⟨ys, by rw [List.getElem?_zipWith, h, j1]; rfl⟩
    · have l1 := I'.len
      rw [List.length_map, List.length_zipWith, lv]
      omega
    · rcases back h with ⟨d', z, h1⟩ | ⟨zs, ys, z, _⟩
      · cases z
        obtain ⟨v, k1, k2⟩ := I.vals i d h1
        exact ⟨v, k1, Rep.mono g.sh d v k2⟩
      · cases z
    · rcases back h with ⟨d', rfl, h1⟩ | ⟨zs, ys, rfl, h1, h2, h3⟩
      · cases hm
      · cases hm
        obtain ⟨p, us, k1, k2⟩ := I'.muts i _ _ h2 rfl
        exact ⟨p, us, by rw [← h3]; exact k1, k2⟩
    · rcases back h1 with ⟨d', rfl, _⟩ | ⟨zs, us, rfl, k1, _⟩
      · cases m1
      · rcases back h2 with ⟨d', rfl, _⟩ | ⟨ws, ts, rfl, k2, _⟩
        · cases m2
        · exact I.diff i j _ _ zs ws p k1 rfl k2 rfl g1 g2
  unfold runB at hr
  split at hr
  · rename_i r0 e0 h0
    split at hr
    · rename_i l2
      cases hr
      refine hb _ _ Hs H _ h0 I0 _ fun v σ' Hs' H' g I' rr => ?_
      obtain ⟨g2, I2⟩ := fin e0 σ' Hs' H' l2 g I'
      refine post v Hs' H' g2 I2 ?_
      cases r with
      | val d => exact rr
      | own xs =>
        obtain ⟨p, us, e1, h1, h2⟩ := rr
        exact ⟨p, us, e1, h1.elim id fun z => absurd z (noloc p), h2⟩
      | un => exact rr
      | io xs => exact rr
    · cases hr
  · rename_i e0 h0
    split at hr
    · rename_i l2
      cases hr
      refine hb _ _ Hs H _ h0 I0 _ fun σ' Hs' H' g I' => ?_
      obtain ⟨g2, I2⟩ := fin e0 σ' Hs' H' l2 g I'
      exact post .non Hs' H' g2 I2 rfl
    · cases hr
  · cases hr
end Ip

set_option Elab.async false
set_option linter.all false
set_option maxRecDepth 100000
set_option maxHeartbeats 4000000
namespace Ip
open PySem L2
open Evl (Ex sz_of fresh_back)
variable {X : Cx} {a b e : Expr} {pos : Pos} {K : PySem.W.Frag} {Hs Hs' H H' : Hp} {σ : L2.St} {env env' : MEnv}

/-! ### comprehensions, put together -/
def WTs (X : Cx) (ifs : List Expr) : TT := fun σ H Q => ∀ pins s, Inv X pins σ H s →
  wpAny (model X.prog X.w) X.A (forIn ifs true fun c r => if r = true then do let ok ← PySem.isTrue c X.env (eval c X.env); pure (ForInStep.yield ok) else pure (ForInStep.yield r)) (TP X pins σ Q) X.xe s
structure STs (X : Cx) (ifs : List Expr) (f : MEnv → Option (Bool × MEnv)) : Prop where
  run : ∀ (env : MEnv) (σ : L2.St) (Hs H : Hp) (b : Bool) (env' : MEnv), f env = some (b, env') → InvS X.K Hs H σ env → ∀ Q : Bool → Hp → Prop, (∀ Hs' H', GoE σ env Hs H env' Hs' H' → InvS X.K Hs' H' σ env' → Q b H') → WTs X ifs σ H Q
instance {X : Cx} {ifs : List Expr} {f : MEnv → Option (Bool × MEnv)} : CoeFun (STs X ifs f) (fun _ => ∀ (env : MEnv) (σ : L2.St) (Hs H : Hp) (b : Bool) (env' : MEnv), f env = some (b, env') → InvS X.K Hs H σ env → ∀ Q : Bool → Hp → Prop, (∀ Hs' H', GoE σ env Hs H env' Hs' H' → InvS X.K Hs' H' σ env' → Q b H') → WTs X ifs σ H Q) := ⟨STs.run⟩
def yesT (env : MEnv) : Option (Bool × MEnv) := some (true, env)
theorem sts_nil : STs X [] yesT := .mk fun env σ Hs H b env' hf I Q q => by
  cases hf
  exact fun pins s I0 => pts_nil.run pins s σ H Q I0 (q Hs H GoE.refl I)
theorem sts_one {c : Expr} {f : MEnv → Option (Bool × MEnv)} (h : ST X c f) : STs X [c] f := .mk fun env σ Hs H b env' hf I Q q => fun pins s I0 => (pts_one (WT.pt X c)).run pins s σ H Q I0 (h env σ Hs H b env' hf I Q q)
abbrev Bk (X : Cx) (scope : Scope) (s : Shared) (H : Hp) (C : Addr) (cl : List (Str × Addr)) (fp : List Addr) : Cx := X.blk s H scope (compEnvC scope cl C X.env) fp
def compOk {scope : Scope} {tg elt : Expr} {ifs : List Expr} {ix : List Nat} {fg : PyData → MEnv → Option MEnv} {ft : MEnv → Option (Bool × MEnv)} {fe : MEnv → Option (PyData × MEnv)}
    (hg : ∀ s H C cl fp, SG (Bk X scope s H C cl fp) tg ix fg) (ht : ∀ s H C cl fp, STs (Bk X scope s H C cl fp) ifs ft) (he : ∀ s H C cl fp, SV (Bk X scope s H C cl fp) elt fe) : CompOk X scope tg elt ifs ix fg ft fe where
  gk := fun v σ H Q => ∀ s H0 C cl fp, WG (Bk X scope s H0 C cl fp) tg v σ H Q
  tk := fun σ H Q => ∀ s H0 C cl fp, WTs (Bk X scope s H0 C cl fp) ifs σ H Q
  ek := fun σ H Q => ∀ s H0 C cl fp, W (Bk X scope s H0 C cl fp) elt σ H Q
  pg := fun s H0 C cl fp => ⟨fun pins s1 σ H v u Q I r h => h s H0 C cl fp pins s1 u I r⟩
  pt := fun s H0 C cl fp => ⟨fun pins s1 σ H Q I h => h s H0 C cl fp pins s1 I⟩
  pe := fun s H0 C cl fp => ⟨fun pins s1 σ H Q I h => h s H0 C cl fp pins s1 I⟩
  sg := fun env σ Hs H d v env' hf I r Q q s H0 C cl fp => hg s H0 C cl fp env σ Hs H d v env' hf I r Q q
  st := fun env σ Hs H b env' hf I Q q s H0 C cl fp => ht s H0 C cl fp env σ Hs H b env' hf I Q q
  se := fun env σ Hs H d env' hf I Q q s H0 C cl fp => he s H0 C cl fp env σ Hs H d env' hf I Q q
theorem se_comp {scope : Scope} {tg iter elt : Expr} {ifs : List Expr} {own : List (Str × Nat)} {fi : MEnv → Option (List PyData × MEnv)} {fg : PyData → MEnv → Option MEnv} {ft : MEnv → Option (Bool × MEnv)} {fe : MEnv → Option (PyData × MEnv)}
    (hc : X.calm = true) (hN : X.N.Nodup) (ok : BlkOk X.N X.env.scope scope own) (hi : SI X tg iter fi) (hg : ∀ s H C cl fp, SG (Bk X scope s H C cl fp) tg (own.map (·.2)) fg) (ht : ∀ s H C cl fp, STs (Bk X scope s H C cl fp) ifs ft) (he : ∀ s H C cl fp, SV (Bk X scope s H C cl fp) elt fe)
    (hs : ∀ x, foldedSetIterable iter X.env x = pure x) : SE X (.ListComp elt [⟨tg, iter, ifs, 0⟩] scope pos) (compF fi fg ft fe (own.map (·.2))) := by
  refine ⟨?_⟩
  intro env σ Hs H r env' hf I Q q
  have C := compOk (X := X) hg ht he
  exact W.of (pe_lc hc hN (WI.pi X tg iter) ok C.pg C.pt C.pe hs) (rd_comp hi C hf I Q q)
/-- name = [..], on one line -/
theorem ss_asgC {scope : Scope} {tg iter elt : Expr} {ifs : List Expr} {own : List (Str × Nat)} {fi : MEnv → Option (List PyData × MEnv)} {fg : PyData → MEnv → Option MEnv} {ft : MEnv → Option (Bool × MEnv)} {fe : MEnv → Option (PyData × MEnv)} {i : Nat} {y : Str} {py spos : Pos}
    (hc : X.calm = true) (hN : X.N.Nodup) (hy : X.N[i]? = some y) (hyl : X.env.scope.names.lookup y = some .local) (hsw : swapsWith (.ListComp elt [⟨tg, iter, ifs, 0⟩] scope pos) (some (.Name y py)) spos.line X.env = pure true)
    (ok : BlkOk X.N X.env.scope scope own) (hi : SI X tg iter fi) (hg : ∀ s H C cl fp, SG (Bk X scope s H C cl fp) tg (own.map (·.2)) fg) (ht : ∀ s H C cl fp, STs (Bk X scope s H C cl fp) ifs ft) (he : ∀ s H C cl fp, SV (Bk X scope s H C cl fp) elt fe)
    (hs : ∀ x, foldedSetIterable iter X.env x = pure x) : SS X (.Assign [.Name y py] (.ListComp elt [⟨tg, iter, ifs, 0⟩] scope pos) spos) (asgB i (compF fi fg ft fe (own.map (·.2)))) := by
  refine ⟨?_⟩
  intro env σ Hs H o hf I D q
  have C := compOk (X := X) hg ht he
  refine WS.of (ps_setLc hc hN hy hyl hsw (WI.pi X tg iter) ok C.pg C.pt C.pe hs) ?_
  exact rd_asg (fun r e1 h1 Q k => rd_comp hi C h1 I Q k) hf I q

/-! ### own defs -/
/-- f, a def of the text, keeps the promise at some level that there is room for -/
structure Own (P : Program) (w : World) (K : PySem.W.Frag) (mg : Str → Option Value) (base : Heap) (k : Nat) (x : Str) (n : Nat) (run : Run) where
  f : Addr
  fd : FuncData
  ps : List Str
  ok : FnOk P w K mg base CX0 k f fd ps (spF K n run)
  at_ : mg x = some (.ref f)
  kp : PySem.W.keepIn K (.ref f) = true
  bi : Binds K fd ps []
theorem se_call {k n : Nat} {run : Run} {x : Str} {p : Pos} {es : List Expr} {fs : MEnv → Option (List PyData × MEnv)} (o : Own X.prog X.w X.K X.mg X.base k x n run) (hr : Room k X.A) (hg : Gl X x) (ha : SA X (e :: es) fs) (hp : (e :: es).all plainE = true) (hd : (x == ("__debug__" : Str)) = false) :
    SE X (.Call (.Name x p) (e :: es) [] pos) (callF n run fs) := by
  refine ⟨?_⟩
  intro env σ Hs H r env' hf I Q q
  rw [List.all_cons, Bool.and_eq_true] at hp
  exact W.of (pe_call o.ok hr hg o.at_ o.kp o.bi .nil (pass0 (X := X)) (WA.pa X (e :: es)) hd (star_plain hp.1) (star_any hp.2)) (rd_call ha hf I Q q E0)
end Ip

set_option Elab.async false
set_option linter.all false
set_option maxRecDepth 100000
set_option maxHeartbeats 4000000
namespace Ip
open PySem L2
open Evl (Ex sz_of fresh_back)
variable {K : PySem.W.Frag} {H : Hp}
theorem spF_len {n : Nat} {run : Ip.Run} {vs : List V} {Q : VK} {E : XK} (h : spF K n run vs H Q E) : vs.length = n := by
  obtain ⟨args, Hs, r, args', hl, _, _, I, _⟩ := h
  have := I.len
  rw [List.length_map] at this
  rw [this, hl]
section
variable {X : Cx}
theorem op_addA : OpR X (binaryOp .Add) (fun x y H Q => ((rI0 fun i j => .int (i + j)) x y H Q ∨ (∃ i j, x = .str i ∧ y = .str j ∧ i.length + j.length ≤ sizeLine ∧ Q (.str (i ++ j)) H)) ∨ (rCatX X.K x y H Q ∨ rCatT X.K x y H Q)) :=
  Ip.OpR.or (Ip.OpR.or op_add op_add_str) (Ip.OpR.or op_catX op_catT)
theorem op_isA : OpR X (compareOp .Is) rIsX := Ip.OpR.or op_isN op_is_bl
theorem op_isnA : OpR X (compareOp .IsNot) rIsnX := Ip.OpR.or op_notN op_isnot_bl
theorem call_lenA : CallR X (.builtin "len") (fun xs H Q => (∃ p ys, xs = [.ref p] ∧ (SqL X.K H p ys ∨ SqT X.K H p ys) ∧ Q (.int ys.length) H) ∨ (∃ z, xs = [.str z] ∧ z.length ≤ sizeLine ∧ Q (.int z.length) H)) := CallR.or call_len_seq call_len_str
end
section
variable {X : Cx} {a b : Expr} {pos : Pos}
theorem se_bin {op : Operator} {fa fb : MEnv → Option (Lr × MEnv)} {g : PyData → PyData → Option Slot} {r : R2} (ha : SL X a fa) (hb : SL X b fb) (ho : OpR X (binaryOp op) r) (hr : R2ok X.K r g) : SE X (.BinOp a op b pos) (op2 fa fb g) :=
  se_op2 ha hb hr (pe_op ho (W.pe X a) (W.pe X b))
theorem se_neg {fa : MEnv → Option (Lr × MEnv)} (ha : SL X a fa) : SE X (.UnaryOp .USub a pos) (op1 fa negD) := se_op1 ha ok_neg (pe_un un_neg (W.pe X a))
end
theorem bt_len : bootBuiltins "len" = some (.builtin "len") := PySem.boot_len
theorem bt_abs : bootBuiltins "abs" = some (.builtin "abs") := by decide +kernel
theorem bt_all : bootBuiltins "all" = some (.builtin "all") := by decide +kernel
theorem bt_any : bootBuiltins "any" = some (.builtin "any") := by decide +kernel
theorem bt_sum : bootBuiltins "sum" = some (.builtin "sum") := by decide +kernel
theorem bt_max : bootBuiltins "max" = some (.builtin "max") := by decide +kernel
theorem bt_min : bootBuiltins "min" = some (.builtin "min") := by decide +kernel
theorem bt_int : bootBuiltins "int" = some (.type "int") := by decide +kernel
theorem bt_bool : bootBuiltins "bool" = some (.type "bool") := by decide +kernel
theorem bt_str : bootBuiltins "str" = some (.type "str") := by decide +kernel
theorem bt_list : bootBuiltins "list" = some (.type "list") := by decide +kernel
theorem bt_tuple : bootBuiltins "tuple" = some (.type "tuple") := by decide +kernel
/-! ### the facts of a context, by computation on closed terms -/
structure CtxF (X : Cx) (N : List Str) (sc : Scope) (fl : Bool) : Prop where
  hN : X.N = N
  hsc : X.env.scope = sc
  nd : N.Nodup
  calm : X.calm = true
  fn : fl = true → ∀ x, X.fn x = true
  own : PassesOwn (model X.prog X.w) X.A X.env X.xe
def visB (sc : Scope) (x : Str) : Bool := match sc.names.lookup x with
  | some .local => true
  | some .cell => true
  | some .free => true
  | _ => false
def gloB (sc : Scope) (x : Str) : Bool := match sc.names.lookup x with
  | some .globalImplicit => true
  | _ => false
/-- may be stored: a local, or a cell of the def's own -/
def locB (sc : Scope) (fl : Bool) (x : Str) : Bool := match sc.names.lookup x with
  | some .local => true
  | some .cell => fl
  | _ => false
section
variable {X : Cx} {N : List Str} {sc : Scope} {fl : Bool} {x : Str} {pos : Pos}
theorem pvc (c : CtxF X N sc fl) (i : Nat) (h : (decide (N[i]? = some x) && visB sc x && !(x == ("__debug__" : Str)) && !(x == ("__classdict__" : Str))) = true) : PE X (.Name x pos) (tVar i) := by
  simp only [Bool.and_eq_true, Bool.not_eq_true', decide_eq_true_eq] at h
  obtain ⟨⟨⟨h1, h2⟩, h3⟩, h4⟩ := h
  refine pe_var (by rw [c.hN]; exact h1) ?_ h3 h4
  unfold Vis
  rw [c.hsc]
  unfold visB at h2
  split at h2
  · exact .inl (by assumption)
  · exact .inr (.inl (by assumption))
  · exact .inr (.inr (by assumption))
  · cases h2
theorem glc (c : CtxF X N sc fl) (h : gloB sc x = true) : Gl X x := by
  unfold gloB at h
  split at h
  · show X.env.scope.names.lookup x = some .globalImplicit
    rw [c.hsc]
    assumption
  · cases h
theorem loc_of (c : CtxF X N sc fl) (h : locB sc fl x = true) : L2.Loc X.env.scope x ∧ (X.fn x = true ∨ X.env.scope.names.lookup x = some .local) := by
  unfold L2.Loc
  rw [c.hsc]
  unfold locB at h
  split at h
  · exact ⟨.inl (by assumption), .inr (by assumption)⟩
  · exact ⟨.inr (by assumption), .inl (c.fn h x)⟩
  · cases h
theorem tgc (c : CtxF X N sc fl) (i : Nat) (h : (decide (N[i]? = some x) && locB sc fl x) = true) : PG X (.Name x pos) (gName i) := by
  simp only [Bool.and_eq_true, decide_eq_true_eq] at h
  obtain ⟨h1, h2⟩ := h
  obtain ⟨k1, k2⟩ := loc_of c h2
  exact pg_name (by rw [c.hN]; exact c.nd) (by rw [c.hN]; exact h1) k1 k2
theorem psc (c : CtxF X N sc fl) (i : Nat) {e : Expr} {p2 : Pos} (h : (decide (N[i]? = some x) && locB sc fl x) = true) (hs : swapsWith e (some (.Name x p2)) pos.line X.env = pure false) : PS X (.Assign [.Name x p2] e pos) (tAsg (W X e) (gName i)) := by
  simp only [Bool.and_eq_true, decide_eq_true_eq] at h
  obtain ⟨h1, h2⟩ := h
  obtain ⟨k1, k2⟩ := loc_of c h2
  exact ps_set (by rw [c.hN]; exact c.nd) (by rw [c.hN]; exact h1) k1 (W.pe X e) hs k2
theorem pauc (c : CtxF X N sc fl) (i : Nat) {e : Expr} {p2 : Pos} {op : Operator} {g : Int → Int → Int} (h : (decide (N[i]? = some x) && locB sc fl x) = true) (ho : PIp X op (ipI g)) : PS X (.AugAssign (.Name x p2) op e pos) (tAug i (W X e) (ipI g)) := by
  simp only [Bool.and_eq_true, decide_eq_true_eq] at h
  obtain ⟨h1, h2⟩ := h
  obtain ⟨k1, k2⟩ := loc_of c h2
  exact ps_aug (by rw [c.hN]; exact c.nd) (by rw [c.hN]; exact h1) k1 (W.pe X e) ho k2
theorem CtxF.blk (c : CtxF X N sc fl) (scope : Scope) (s : Shared) (H : Hp) (C : Addr) (cl : List (Str × Addr)) (fp : List Addr) : CtxF (Bk X scope s H C cl fp) N (relS scope sc) false where
  hN := c.hN
  hsc := by
    show PySem.relabel scope X.env = relS scope sc
    rw [← c.hsc]
    rfl
  nd := c.nd
  calm := c.calm
  fn := fun h => by cases h
  own := PassesOwn.never
theorem bkc (c : CtxF X N sc fl) {scope : Scope} {own : List (Str × Nat)} (h : blkC N sc scope own = true) : BlkOk X.N X.env.scope scope own := by
  rw [c.hN, c.hsc]
  exact blkOk_by h
end
section
variable {X : Cx} {N : List Str} {sc : Scope} {fl : Bool} {scope : Scope} {tg iter elt : Expr} {ifs : List Expr} {fi : MEnv → Option (List PyData × MEnv)} {fg : PyData → MEnv → Option MEnv} {ft : MEnv → Option (Bool × MEnv)} {fe : MEnv → Option (PyData × MEnv)} {pos spos py : Pos} {y : Str}
theorem se_compC (own : List (Str × Nat)) (c : CtxF X N sc fl) (hb : blkC N sc scope own = true) (hi : SI X tg iter fi) (hg : ∀ s H C cl fp, CtxF (Bk X scope s H C cl fp) N (relS scope sc) false → SG (Bk X scope s H C cl fp) tg (own.map (·.2)) fg)
    (ht : ∀ s H C cl fp, CtxF (Bk X scope s H C cl fp) N (relS scope sc) false → STs (Bk X scope s H C cl fp) ifs ft) (he : ∀ s H C cl fp, CtxF (Bk X scope s H C cl fp) N (relS scope sc) false → SV (Bk X scope s H C cl fp) elt fe)
    (hs : ∀ x, foldedSetIterable iter X.env x = pure x) : SE X (.ListComp elt [⟨tg, iter, ifs, 0⟩] scope pos) (compF fi fg ft fe (own.map (·.2))) :=
  se_comp c.calm (by rw [c.hN]; exact c.nd) (bkc c hb) hi (fun s H C cl fp => hg s H C cl fp (c.blk scope s H C cl fp)) (fun s H C cl fp => ht s H C cl fp (c.blk scope s H C cl fp)) (fun s H C cl fp => he s H C cl fp (c.blk scope s H C cl fp)) hs
/-- what the store of a comprehension asks, by computation -/
def swC (N : List Str) (sc scope : Scope) (i : Nat) (y : Str) (py pos : Pos) : Bool := decide (N[i]? = some y) && decide (sc.names.lookup y = some .local) && (match sc.kind with | .function => true | _ => false) && (py.line == pos.line) && !(scope.names.any fun (n, k) => n == y && (k == .local || k == .cell))
theorem ss_asgCC (own : List (Str × Nat)) (i : Nat) (c : CtxF X N sc fl) (hw : swC N sc scope i y py pos = true) (hb : blkC N sc scope own = true) (hi : SI X tg iter fi) (hg : ∀ s H C cl fp, CtxF (Bk X scope s H C cl fp) N (relS scope sc) false → SG (Bk X scope s H C cl fp) tg (own.map (·.2)) fg)
    (ht : ∀ s H C cl fp, CtxF (Bk X scope s H C cl fp) N (relS scope sc) false → STs (Bk X scope s H C cl fp) ifs ft) (he : ∀ s H C cl fp, CtxF (Bk X scope s H C cl fp) N (relS scope sc) false → SV (Bk X scope s H C cl fp) elt fe)
    (hs : ∀ x, foldedSetIterable iter X.env x = pure x) : SS X (.Assign [.Name y py] (.ListComp elt [⟨tg, iter, ifs, 0⟩] scope pos) spos) (asgB i (compF fi fg ft fe (own.map (·.2)))) := by
  unfold swC at hw
  simp only [Bool.and_eq_true, decide_eq_true_eq, Bool.not_eq_true'] at hw
  obtain ⟨⟨⟨⟨h1, h2⟩, h3⟩, h4⟩, h5⟩ := hw
  have h3' : X.env.scope.kind = .function := by
    rw [c.hsc]
    split at h3
    · assumption
    · cases h3
  have h2' : X.env.scope.names.lookup y = some .local := by rw [c.hsc]; exact h2
  exact ss_asgC c.calm (by rw [c.hN]; exact c.nd) (by rw [c.hN]; exact h1) h2' (sw_true h3' h2' h4 h5) (bkc c hb) hi (fun s H C cl fp => hg s H C cl fp (c.blk scope s H C cl fp)) (fun s H C cl fp => ht s H C cl fp (c.blk scope s H C cl fp))
    (fun s H C cl fp => he s H C cl fp (c.blk scope s H C cl fp)) hs
end
/-- the end: what the machine says of law(script) is what is claimed -/
theorem law_endN {n : Nat} (run : Ip.Run) (main : ∀ ns : List Int, ns.length ≤ n → ∃ args', run [.val (.list (ns.map .int))] = some (.val (.bool true), args')) {a : Addr} {ns : List Int} {E : XK} (hS : SqL K H a (ns.map V.int)) (hl : ns.length ≤ n) :
    spF K 1 run [.ref a] H (fun v _ => v = .bl true) E := by
  obtain ⟨args', hm⟩ := main ns hl
  refine ⟨[.val (.list (ns.map .int))], H, .val (.bool true), args', rfl, rfl, hm, ⟨rfl, Ex.refl H, fun i d h => ?_, fun i s xs h hm => ?_, fun i j s t xs ys p h1 m1 _ _ _ _ => ?_⟩, fun v Hs' H' _ _ r => r⟩
  · cases i with
    | zero =>
      cases h
      exact ⟨.ref a, rfl, a, _, rfl, hS, RepL.ints ns⟩
    | succ i => cases i <;> cases h
  · cases i with
    | zero => cases h; cases hm
    | succ i => cases i <;> cases h
  · cases i with
    | zero => cases h1; cases m1
    | succ i => cases i <;> cases h1
end Ip

set_option Elab.async false
set_option linter.all false
set_option maxRecDepth 100000
set_option maxHeartbeats 4000000
/-! The law's own level: nothing is being shown when it is called, so repr works there. -/
namespace Ip
open PySem L2 PyProof.Rows
open Evl (Ex sz_of fresh_back)

/-- the promise of a def where no guard is set -/
structure FnG (P : Program) (w : World) (K : PySem.W.Frag) (mg : Str → Option Value) (base : Heap) (k : Nat) (f : Addr) (fd : FuncData) (ps : List Str) (sp : Sp) : Prop where
  cnt : ∀ a h q x, sp a h q x → a.length = ps.length
  go : ∀ {B : Around} {up : List PySem.Env} {t : Shared} {h : Hp} {ar : Args} {cs : List Value} {a : List V} {q : VK} {x : XK},
    B.guards = some [] → Room k B → Env0 P w K mg base B up t h → BindsTo t fd ar (ps.zip cs) → Vals a cs → sp a h q x →
    codeAny (model P w) B (.call (.ref f) ar) (CR CX0 up P w h t q x) t

section
variable {P : Program} {w : World} {K : PySem.W.Frag} {mg : Str → Option Value} {base : Heap}
theorem fun_ok {nm qn : Str} {st : Stmt} {f : Addr} {fd : FuncData} {N ps : List Str} {k : Nat} {sp : Sp} (F : Fun K nm qn st f fd) (S : FnScope N ps (defScope st))
    (cnt : ∀ a h q x, sp a h q x → a.length = ps.length)
    (body : ∀ (cd : Value) (B : Around) (up : List PySem.Env) (t : Shared) (h : Hp) (a : List V) (q : VK) (x : XK),
      (B.deeper (envOfC qn (defScope st) t.heap.objs.size f cd)).guards = some [] → Room k (B.deeper (envOfC qn (defScope st) t.heap.objs.size f cd)) → sp a h q x →
      ∃ r, PSs (cxOf CX0 P w K mg base N qn (defScope st) f cd B up t h x).nox (defBody st) r ∧ r { nx := fun _ h1 => q .non h1, rt := q } (start N a) h) :
    FnG P w K mg base (k + 1) f fd ps sp := by
  obtain ⟨oc, od, kV, doc, pm, an, cd, ct, osl, rfl, at_, code⟩ := F.ex
  refine ⟨cnt, ?_⟩
  intro B up t h ar cs a q x nog room e0 bnd va hs
  have la := cnt _ _ _ _ hs
  have inK := e0.mod.kin.keeps fun b o e => (e0.bs b o e).1
  have nolim := e0.mod.nolimit.keeps fun b o e => (e0.bs b o e).1
  have kinds : ∀ y ∈ ps.zip cs, (defScope st).names.lookup y.1 = some .local ∨ ((defScope st).names.lookup y.1 = some .cell ∧
      ((cellsFrom (t.heap.objs.size + 1) (defScope st).names []).lookup y.1).isSome = true) := by
    rintro ⟨n, v⟩ hy
    cases S.par n (List.of_mem_zip hy).1 with
    | inl z => exact .inl z
    | inr z => exact .inr ⟨z, PySem.W.cellsFrom_some _ _ _ (.inl z)⟩
  apply codeAny_call_function room.depth (inK _ _ at_) rfl S.co S.gen rfl (PySem.W.codeRec_of inK code)
  apply bnd
  apply wpAny_newFunctionEnv_cells S.kind kinds
  intro en hen t1 inC
  cases hen
  refine ⟨nolim.keeps inC.toInCall.keep, codeAny_func ?_⟩
  obtain ⟨r, pr, hq⟩ := body cd B up t h a q x nog (room.deeper _) hs
  have I := inv_start (CX := CX0) (E := x) S room.hd e0 la va inC
  refine wpAny_mono (pr.nox.run [] t1 (start N a) h _ I hq) ?_ (fun _ _ z => z)
  intro fl t2 z
  cases fl with
  | next =>
    obtain ⟨_, h2, J, z⟩ := z
    exact ⟨.non, h2, J.os, J.bare, J.base, J.hok, rfl, z⟩
  | ret u =>
    obtain ⟨v, _, h2, J, rv, z⟩ := z
    exact ⟨v, h2, J.os, J.bare, J.base, J.hok, rv, z⟩
  | brk => exact z.elim fun _ z => z.elim fun _ z => z.2.elim
  | cont => exact z.elim fun _ z => z.elim fun _ z => z.2.elim
end
/-- a heap that tracks at most the object at a -/
def oneAt (a : Addr) (u : Option HO) : Hp := fun b => if b = a then u else none
theorem oneAt_at {a : Addr} {u : Option HO} : oneAt a u a = u := if_pos rfl
theorem oneAt_ne {a b : Addr} {u : Option HO} (n : b ≠ a) : oneAt a u b = none := if_neg n
/-- the call of the law where no guard is set -/
theorem law_go {P : Program} {w : World} {K : PySem.W.Frag} {mg mb : Str → Option Value} {k : Nat} {fa a : Addr} {fd : FuncData} {nm : Str} {sp : Sp} {t : Shared} {us : List Value} {ns : List Int}
    (inK : K.In t.heap) (nsG : t.heap.Ns mainGlobals mg) (nsB : t.heap.Ns builtinsNs mb) (boot : ∀ y : Str, y ≠ "__name__" → mb y = bootBuiltins y) (lim : t.heap.NoLimit) (gens : t.gens = #[])
    (obj : t.heap.get? a = some { cls := .type "list", data := .seq us.toArray }) (its : IntsAre us ns) (short : ns.length ≤ sizeLine) (room : Room k callerA)
    (F : ∀ base : Heap, K.In base → base.Ns mainGlobals mg → FnG P w K mg base k fa fd [nm] sp) (bnd : ∀ (s : Shared) (u : Value), BindsTo s fd ⟨[u], []⟩ [(nm, u)])
    (want : ∀ H : Hp, Only H → SqL K H a (ns.map V.int) → sp [.ref a] H (fun v _ => v = .bl true) E0) :
    codeAny (model P w) callerA (.call (.ref fa) ⟨[.ref a], []⟩) (fun r s' => r = .ok (.ret (.bool true)) ∧ OldK t.heap s'.heap ∧ s'.os = t.os ∧ AllBare s'.gens) t := by
  have vals := vals_ints its
  have size := its.length
  have main : ∀ u : Option HO, (∀ o, u = some o → K.lookup a = none ∧ ∃ ob, o = .frz ob (.lst (ns.map V.int))) → HOk P w (oneAt a u) t.heap → SqL K (oneAt a u) a (ns.map V.int) →
      codeAny (model P w) callerA (.call (.ref fa) ⟨[.ref a], []⟩) (fun r s' => r = .ok (.ret (.bool true)) ∧ OldK t.heap s'.heap ∧ s'.os = t.os ∧ AllBare s'.gens) t := by
    intro u hu ok sq
    have only : Only (oneAt a u) := fun b => by
      by_cases e : b = a
      · cases hc : u with
        | none => exact .inl (by rw [e, oneAt_at])
        | some o => exact .inr (by rw [e, oneAt_at]; obtain ⟨_, ob, rfl⟩ := hu o hc; exact ⟨ob, _, rfl⟩)
      · exact .inl (oneAt_ne e)
    have free : ∀ {b : Addr} {o : Obj}, t.heap.get? b = some o → (b = a → u = none) → (hidT t.heap (oneAt a u)).get? b = some o := fun {b o} e n => hidT_get e (by
      by_cases z : b = a
      · rw [z, oneAt_at, n z]
      · exact oneAt_ne z)
    have dict : ∀ {b : Addr} {m : Str → Option Value}, t.heap.Ns b m → (hidT t.heap (oneAt a u)).Ns b m := by
      rintro b m ⟨o, es, ep, e, d, r⟩
      refine ⟨o, es, ep, free e (fun z => ?_), d, r⟩
      rw [z, obj] at e
      cases e
      cases (show Data.seq us.toArray _ = Data.dict es ep from d)
    have kin : K.In (hidT t.heap (oneAt a u)) := fun b o e => free (inK b o e) fun z => by
      cases hc : u with
      | none => rfl
      | some q => rw [z, (hu q hc).1] at e; cases e
    obtain ⟨mc, l1, l2⟩ := lim
    have env : Env0 P w K mg (hidT t.heap (oneAt a u)) callerA [] t (oneAt a u) := {
      frames := rfl, mod := ⟨kin, dict nsG, ⟨mb, dict nsB, boot⟩, ⟨mc, dict l1, l2⟩⟩, bs := fun b o e => of_hidT e, bsz := Nat.le_of_eq (hidT_size _ _),
      funs := trivial, frf := fun b z => (List.not_mem_nil z).elim, hok := ok, bare := .of_eq gens }
    refine codeAny_mono ((F _ kin (dict nsG)).go (cs := [.ref a]) (a := [.ref a]) rfl room env (bnd t (.ref a)) (.cons rfl .nil) (want _ only sq)) ?_
    intro r t2 z
    match r, z with
    | .ok (.ret x), ⟨v, H2, os, bare, un, ok2, rv, e⟩ =>
      cases (show v = .bl true from e)
      cases (show x = Value.bool true from rv)
      refine ⟨rfl, .of_keep ?_, os, bare⟩
      intro b o hb
      by_cases z : b = a
      · cases hc : u with
        | none => exact un.keep b o hb (by rw [z, oneAt_at, hc]) (fun m => (List.not_mem_nil m).elim) (by simp)
        | some q =>
          obtain ⟨_, ob, rfl⟩ := hu q hc
          have fz := un.frzs b ob (.lst (ns.map V.int)) (by rw [z, oneAt_at, hc])
          obtain ⟨g1, _⟩ := ok b (.frz ob (.lst (ns.map V.int))) (by rw [z, oneAt_at, hc])
          obtain ⟨g2, _⟩ := ok2 b _ fz
          rw [hb] at g1
          cases g1
          exact g2
      · exact un.keep b o hb (oneAt_ne z) (fun m => (List.not_mem_nil m).elim) (by simp)
    | .ok .next, z => exact False.elim z
    | .ok .brk, z => exact False.elim z
    | .ok .cont, z => exact False.elim z
    | .error e, z => exact False.elim z
  cases own : K.lookup a with
  | some o =>
    have e := inK a o own
    rw [obj] at e
    cases e
    refine main none (fun _ z => nomatch z) (fun b o z => ?_) (.inr ⟨_, us.toArray, _, own, rfl, rfl, rfl, by simpa [size] using short, by simpa using vals⟩)
    unfold oneAt at z
    split at z <;> cases z
  | none =>
    refine main (some (.frz ⟨.type "list", none, .seq us.toArray, #[]⟩ (.lst (ns.map V.int)))) (fun o z => ?_) (fun b o z => ?_) (.inl (.inr ⟨_, oneAt_at⟩))
    · cases z
      exact ⟨own, _, rfl⟩
    · unfold oneAt at z
      split at z
      · rename_i hb
        cases z
        rw [hb]
        exact ⟨obj, by simpa using short, us, _, vals, obj⟩
      · cases z
/-- the end of a law -/
theorem walk_go {l : PySem.W.OpenLaw} {n k : Nat} {q : Program} {loose : List Str} {XP : (Str → Option Value) → Heap → Prop} {YP : World → Heap → Prop} {d : DefRec} {K : Params → PySem.W.Frag} {run : Ip.Run} {x : Str}
    (most : l.most = some n) (small : n ≤ sizeLine) (nodef : d.params.defaults = []) (room : Room k callerA) (hY : ∀ (w : World) (h : Heap), YP w h → (K w.params).In h)
    (F : ∀ (w : World) (mg : Str → Option Value) (fa : Addr) (h : Heap), (K w.params).In h → h.Ns mainGlobals mg → mg d.name = some (.ref fa) →
      ∃ fd : FuncData, (∀ (s : Shared) (u : Value), BindsTo s fd ⟨[u], []⟩ [(x, u)]) ∧ ∀ base : Heap, (K w.params).In base → base.Ns mainGlobals mg → FnG l.prog w (K w.params) mg base k fa fd [x] (spF (K w.params) 1 run))
    (main : ∀ ns : List Int, ns.length ≤ n → ∃ args', run [.val (.list (ns.map .int))] = some (.val (.bool true), args')) :
    PySem.W.WalkO q loose XP YP l.row.toRowW d [] (fun f vs => PySem.call f vs) :=
  Att.attach_call most nodef fun w _ s mg _ fa _ _ _ _ a us ns G Y _ _ _ at_ obj its short gens =>
    let ⟨_, b, f⟩ := F w mg fa _ (hY w _ Y) G.T.g at_
    law_go (hY w _ Y) G.T.g G.T.b G.T.builtins G.T.nolimit gens obj its (Nat.le_trans short small) room f b fun H _ sq => law_endN run main sq short
end Ip

set_option Elab.async false
set_option linter.all false
set_option maxRecDepth 100000
set_option maxHeartbeats 4000000
namespace Ip
open PySem L2
open Evl (Ex sz_of fresh_back)
variable {X : Cx} {a b e o : Expr} {pos : Pos} {K : PySem.W.Frag} {Hs Hs' H H' : Hp} {σ : L2.St} {env env' : MEnv}

/-! ### texts: split and join -/
def splitF (fo fe : MEnv → Option (PyData × MEnv)) : MEnv → Option (Slot × MEnv) := fun env => match fo env with
  | some (.str x, e1) => match fe e1 with
    | some (.str y, e2) => if (y.length == 0) = false ∧ x.length + 2 ≤ 100000 then some (.own ((Txt.split x y).map .str), e2) else none
    | _ => none
  | _ => none
theorem repL_strs : ∀ (ys : List Str), RepL K H (ys.map .str) (ys.map V.str)
  | [] => rfl
  | y :: ys => ⟨.str y, ys.map V.str, rfl, rfl, repL_strs ys⟩
theorem se_split {apos : Pos} {fo fe : MEnv → Option (PyData × MEnv)} (ho : SV X o fo) (he : SV X e fe) (hp : plainE e = true) (hbase : attributeBase o "split" X.env (eval o X.env) = eval o X.env) (hline : (apos.endLine == pos.line) = true) :
    SE X (.Call (.Attribute o "split" apos) [e] [] pos) (splitF fo fe) := by
  refine ⟨?_⟩
  intro env σ Hs H r env' hf I Q q
  unfold splitF at hf
  split at hf
  · rename_i x e1 h1
    split at hf
    · rename_i y e2 h2
      split at hf
      · rename_i hc
        cases hf
        refine W.of (pe_split (W.pe X o) (W.pe X e) (by rw [star_plain hp]; rfl) hbase hline) ?_
        refine ho env σ Hs H _ e1 h1 I _ fun v Hs1 H1 g1 I1 r1 => ?_
        cases (show v = .str x from r1)
        refine ⟨⟨x, rfl⟩, ?_⟩
        refine he e1 σ Hs1 H1 _ env' h2 I1 _ fun u Hs2 H2 g2 I2 r2 => ?_
        cases (show u = .str y from r2)
        have g := g1.trans g2
        exact ⟨x, y, rfl, rfl, hc.1, sz_of hc.2, ok_newL I2 rfl (repL_strs _) fun z Hs' H' g' I' r' => q z Hs' H' (g.trans g') I' (RepR.mono (fun p hp => g.none_back hp) r')⟩
      · cases hf
    · cases hf
  · cases hf
def strsOf : List PyData → Option (List Str)
  | [] => some []
  | .str s :: r => (strsOf r).map (s :: ·)
  | _ :: _ => none
theorem strsOf_map : ∀ ys : List Str, strsOf (ys.map .str) = some ys
  | [] => rfl
  | y :: ys => by
    show (strsOf (ys.map .str)).map (y :: ·) = _
    rw [strsOf_map ys]
    rfl
theorem strsOf_rep : ∀ {ds : List PyData} {bs : List Str} {vs : List V}, strsOf ds = some bs → RepL K H ds vs → vs = bs.map V.str
  | [], bs, vs, h, r => by
    cases h
    exact r
  | .str b :: ds, bs, vs, h, r => by
    obtain ⟨v, w, rfl, h1, h2⟩ := r
    have h : (strsOf ds).map (b :: ·) = some bs := h
    cases hd : strsOf ds with
    | none => rw [hd] at h; cases h
    | some cs =>
      rw [hd] at h
      cases h
      rw [strsOf_rep hd h2, (show v = V.str b from h1)]
      rfl
  | .none :: _, _, _, h, _ => by cases h
  | .bool _ :: _, _, _, h, _ => by cases h
  | .int _ :: _, _, _, h, _ => by cases h
  | .list _ :: _, _, _, h, _ => by cases h
  | .tuple _ :: _, _, _, h, _ => by cases h
  | .dict _ :: _, _, _, h, _ => by cases h
def joinF (fo fe : MEnv → Option (PyData × MEnv)) : MEnv → Option (Slot × MEnv) := fun env => match fo env with
  | some (.str x, e1) => match fe e1 with
    | some (.list ds, e2) => match strsOf ds with
      | some ys => if (ys.map (·.length)).sum + ys.length * x.length ≤ 100000 then some (.val (.str (Txt.join x ys)), e2) else none
      | none => none
    | _ => none
  | _ => none
theorem se_join {apos : Pos} {fo fe : MEnv → Option (PyData × MEnv)} (ho : SV X o fo) (he : SV X e fe) (hp : plainE e = true) (hbase : attributeBase o "join" X.env (eval o X.env) = eval o X.env) (hline : (apos.endLine == pos.line) = true) :
    SE X (.Call (.Attribute o "join" apos) [e] [] pos) (joinF fo fe) := by
  refine ⟨?_⟩
  intro env σ Hs H r env' hf I Q q
  unfold joinF at hf
  split at hf
  · rename_i x e1 h1
    split at hf
    · rename_i ds e2 h2
      split at hf
      · rename_i ys hy
        split at hf
        · rename_i hc
          cases hf
          refine W.of (pe_join (W.pe X o) (W.pe X e) (by rw [star_plain hp]; rfl) hbase hline) ?_
          refine ho env σ Hs H _ e1 h1 I _ fun v Hs1 H1 g1 I1 r1 => ?_
          cases (show v = .str x from r1)
          refine ⟨⟨x, rfl⟩, ?_⟩
          refine he e1 σ Hs1 H1 _ env' h2 I1 _ fun u Hs2 H2 g2 I2 r2 => ?_
          obtain ⟨p, vs, rfl, k1, k2⟩ := r2
          cases strsOf_rep hy k2
          exact ⟨x, p, ys, rfl, rfl, .inl (Evl.ex_l I2.sh k1), by omega, q _ Hs2 H2 (g1.trans g2) I2 rfl⟩
        · cases hf
      · cases hf
    · cases hf
  · cases hf
end Ip

set_option Elab.async false
set_option linter.all false
set_option maxRecDepth 100000
set_option maxHeartbeats 4000000
namespace Ip
open PySem L2
open Evl (Ex sz_of fresh_back)
variable {X : Cx} {a b e o : Expr} {pos : Pos} {K : PySem.W.Frag} {Hs Hs' H H' : Hp} {σ : L2.St} {env env' : MEnv}
/-! ### repr, where nothing is being shown -/
def rRepr (K : PySem.W.Frag) : List V → Hp → VK → Prop := fun xs H Q => ∃ x d, xs = [x] ∧ Dp K H x d ∧ d.showable = true ∧ d.hasDict = false ∧ d.depth ≤ 100 ∧ d.shown.length ≤ sizeLine ∧ Q (.str d.shown) H
theorem cr_repr (hG : X.A.guards = some []) (hu : X.A.units + 200 < cLine) : CallR X (.builtin "repr") (rRepr X.K) := by
  intro pins s σ H xs us Q I r h
  obtain ⟨x, d, rfl, hd, h1, h2, h3, h4, q⟩ := h
  cases r with
  | cons r1 r2 =>
    cases r2
    rename_i u
    have fin : ∀ {h' : Heap} {t tk : Nat}, (∀ b o, s.heap.get? b = some o → h'.get? b = some o) → EP X pins σ Q (.str d.shown t) { s with heap := h', toks := tk } := fun k => ⟨.str d.shown, H, I.kept k, ⟨_, rfl⟩, q⟩
    have here : ∀ {t tk : Nat}, EP X pins σ Q (.str d.shown t) { s with toks := tk } := fun {t tk} => ⟨.str d.shown, H, I.tok _, ⟨_, rfl⟩, q⟩
    obtain ⟨as, rd⟩ := Dp.reads I d x u hd r1
    cases d with
    | none =>
      cases rd
      exact PySem.P.repr_of_none here
    | bool b =>
      cases rd
      exact PySem.P.repr_of_bool here
    | int i =>
      cases rd
      exact PySem.P.repr_of_int (by simpa [PyData.showable] using h1) here
    | str z =>
      cases rd
      exact PySem.P.repr_of_str here h4
    | list ds =>
      obtain ⟨p, rfl⟩ : ∃ p, u = .ref p := by cases rd; exact ⟨_, rfl⟩
      exact PySem.repr_of_reads' rd h1 (PyData.noDict_hsm h2) hG (by omega) (fun _ _ e => e) (fun h' t tk k => fin k) h4
    | tuple ds =>
      obtain ⟨p, rfl⟩ : ∃ p, u = .ref p := by cases rd; exact ⟨_, rfl⟩
      exact PySem.repr_of_reads' rd h1 (PyData.noDict_hsm h2) hG (by omega) (fun _ _ e => e) (fun h' t tk k => fin k) h4
    | dict kvs => cases hd
def reprOk (d : PyData) : Bool := d.showable && !d.hasDict && decide (d.depth ≤ 100) && decide (d.shown.length ≤ 100000)
def reprD (d : PyData) : Option Slot := if reprOk d = true then some (.val (.str d.shown)) else none
theorem ok_repr : R1ok X.K (fun v H Q => rRepr X.K [v] H Q) reprD := by
  intro Hs H σ env x v s hs I hx Q q
  unfold reprD at hs
  split at hs
  · rename_i hc
    cases hs
    unfold reprOk at hc
    simp only [Bool.and_eq_true, decide_eq_true_eq, Bool.not_eq_true'] at hc
    obtain ⟨⟨⟨h1, h2⟩, h3⟩, h4⟩ := hc
    exact ⟨v, x, rfl, Rep.dp x v (Top.rep I.sh hx) h2, h1, h2, h3, sz_of h4, ok_val I rfl (show Rep X.K Hs (.str _) (.str _) from rfl) q⟩
  · cases hs
theorem bt_repr : bootBuiltins "repr" = some (.builtin "repr") := by decide +kernel
end Ip
namespace Ip
open PySem L2
open Evl (Ex sz_of fresh_back)
variable {X : Cx} {a b e o : Expr} {pos : Pos} {K : PySem.W.Frag} {Hs Hs' H H' : Hp} {σ : L2.St} {env env' : MEnv}
/-! ### calls of own defs where nothing is being shown -/
theorem run_go {k : Nat} {f : Addr} {fd : FuncData} {ps : List Str} {sp : Sp} {pins : List (Addr × Obj)} {s : Shared} {Q : VK} {us : List Value} {vs : List V} (F : FnG X.prog X.w X.K X.mg X.base k f fd ps sp)
    (hG : X.A.guards = some []) (hr : Room k X.A) (hb : Binds X.K fd ps []) (I : Inv X pins σ H s) (r : Vals vs us) (h : sp vs H Q E0) : wpAny (model X.prog X.w) X.A (call (.ref f) us) (EP X pins σ Q) X.xe s := by
  have len : us.length = ps.length := by rw [← r.length]; exact F.cnt _ _ _ _ h
  have bnd := hb s us I.kIn (by simpa using len)
  rw [List.append_nil] at bnd
  apply wpAny_call
  refine codeAny_mono (F.go hG hr I.env0 bnd r h) ?_
  intro fl t z
  match fl, z with
  | .ok (.ret u), z => exact I.after z
  | .ok .next, z => exact z.elim
  | .ok .brk, z => exact z.elim
  | .ok .cont, z => exact z.elim
  | .error _, z => exact z.elim
theorem pe_go {k : Nat} {f : Addr} {fd : FuncData} {ps : List Str} {sp : Sp} {x : Str} {p : Pos} {es : List Expr} {t : TA} (F : FnG X.prog X.w X.K X.mg X.base k f fd ps sp) (hG : X.A.guards = some []) (hr : Room k X.A) (hg : Gl X x)
    (hm : X.mg x = some (.ref f)) (hk : PySem.W.keepIn X.K (.ref f) = true) (hb : Binds X.K fd ps []) (ha : PA X (e :: es) t) (hd : (x == ("__debug__" : Str)) = false) (h0 : starEach (e :: es) X.env = (false, eval e X.env) :: starEach es X.env)
    (hs : (backTo pos (starEach es X.env)).any (·.1) = false) : PE X (.Call (.Name x p) (e :: es) [] pos) (tCall sp [] E0 t) :=
  .mk fun pins s σ H Q I h => wpAny_Call_Name_kw (ld_glob I hg hm (PySem.W.callWith_K (h₀ := X.base) I.ok.mod.kin hk (thn (ha.run pos pins s σ H _ I h) fun _ _ ⟨_, _, J, r, q⟩ => ⟨J.kIn, run_go F hG hr hb J r (by simpa using q)⟩) h0 hs) hd)
/-- f, a def of the text, keeps the promise -/
structure OwnG (P : Program) (w : World) (K : PySem.W.Frag) (mg : Str → Option Value) (base : Heap) (k : Nat) (x : Str) (n : Nat) (run : Run) where
  f : Addr
  fd : FuncData
  ps : List Str
  ok : FnG P w K mg base k f fd ps (spF K n run)
  at_ : mg x = some (.ref f)
  kp : PySem.W.keepIn K (.ref f) = true
  bi : Binds K fd ps []
theorem se_go {k n : Nat} {run : Run} {x : Str} {p : Pos} {es : List Expr} {fs : MEnv → Option (List PyData × MEnv)} (o : OwnG X.prog X.w X.K X.mg X.base k x n run) (hG : X.A.guards = some []) (hr : Room k X.A) (hg : Gl X x) (ha : SA X (e :: es) fs)
    (hp : (e :: es).all plainE = true) (hd : (x == ("__debug__" : Str)) = false) : SE X (.Call (.Name x p) (e :: es) [] pos) (callF n run fs) := by
  refine ⟨?_⟩
  intro env σ Hs H r env' hf I Q q
  rw [List.all_cons, Bool.and_eq_true] at hp
  exact W.of (pe_go o.ok hG hr hg o.at_ o.kp o.bi (WA.pa X (e :: es)) hd (star_plain hp.1) (star_any hp.2)) (rd_call ha hf I Q q E0)
/-- a def that calls itself, by how often it may yet do so -/
theorem FnG.none {P : Program} {w : World} {mg : Str → Option Value} {base : Heap} {k n : Nat} {f : Addr} {fd : FuncData} {ps : List Str} : FnG P w K mg base k f fd ps (spF K n fun _ => Option.none) :=
by
  constructor
  · intro _ _ _ _ h
    obtain ⟨_, _, _, _, _, _, z, _⟩ := h
    cases z
  · intro _ _ _ _ _ _ _ _ _ _ _ _ _ _ h
    obtain ⟨_, _, _, _, _, _, z, _⟩ := h
    cases z
theorem FnG.mono {P : Program} {w : World} {mg : Str → Option Value} {base : Heap} {j k : Nat} {f : Addr} {fd : FuncData} {ps : List Str} {sp : Sp} (F : FnG P w K mg base j f fd ps sp) (h : j ≤ k) : FnG P w K mg base k f fd ps sp :=
  ⟨F.cnt, fun g r e b v z => F.go g (r.mono h) e b v z⟩
end Ip

set_option Elab.async false
set_option linter.all false
set_option maxRecDepth 100000
set_option maxHeartbeats 4000000
namespace Ip
open PySem L2
open Evl (Ex sz_of fresh_back)
variable {X : Cx} {a b e o : Expr} {pos : Pos} {K : PySem.W.Frag} {H0 Hs Hs' H H' : Hp} {σ : L2.St} {env env' : MEnv}
/-! ### lists that are handed in and changed by the called one -/
inductive Arg where
  | v (d : PyData)
  | io (i : Nat)
  | nw (xs : List PyData)
def ArgRep (K : PySem.W.Frag) (H0 Hs H : Hp) (σ : L2.St) (env : MEnv) : Arg → V → Prop
  | .v d, v => Rep K Hs d v
  | .io i, v => σ[i]? = some (some v)
  | .nw xs, v => ∃ p vs, v = .ref p ∧ H0 p = none ∧ H p = some (.lst vs) ∧ Hs p = none ∧ RepL K Hs xs vs ∧ ¬ MutAt σ env p
structure ArgsRep (K : PySem.W.Frag) (H0 Hs H : Hp) (σ : L2.St) (env : MEnv) (as : List Arg) (vs : List V) : Prop where
  len : as.length = vs.length
  at_ : ∀ (j : Nat) (a : Arg) (v : V), as[j]? = some a → vs[j]? = some v → ArgRep K H0 Hs H σ env a v
  nd : ∀ (j k : Nat) (xs ys : List PyData) (p : Addr), as[j]? = some (.nw xs) → as[k]? = some (.nw ys) → vs[j]? = some (.ref p) → vs[k]? = some (.ref p) → j = k
theorem ArgRep.mono {H1 Hs1 H2 Hs2 : Hp} {e1 e2 : MEnv} (g : GoE σ e1 Hs1 H1 e2 Hs2 H2) : ∀ {a : Arg} {v : V}, ArgRep K H0 Hs1 H1 σ e1 a v → ArgRep K H0 Hs2 H2 σ e2 a v
  | .v d, v, h => Rep.mono g.sh d v h
  | .io i, v, h => h
  | .nw xs, v, ⟨p, vs, e, h0, h1, h2, h3, h4⟩ => ⟨p, vs, e, h0, g.kp p _ h1 h4, by
      cases z : Hs2 p with
      | none => rfl
      | some u =>
        rcases g.nw p u z with z1 | z1 | z1
        · rw [h2] at z1; cases z1
        · rw [h1] at z1; cases z1
        · exact absurd z1.mut h4, RepL.mono g.sh xs vs h3, fun m => h4 (g.ow p m)⟩
theorem ArgRep.back {H1 : Hp} (n : ∀ p, H1 p = none → H0 p = none) : ∀ {a : Arg} {v : V}, ArgRep K H1 Hs H σ env a v → ArgRep K H0 Hs H σ env a v
  | .v d, v, h => h
  | .io i, v, h => h
  | .nw xs, v, ⟨p, vs, e, h0, h⟩ => ⟨p, vs, e, n p h0, h⟩
structure SX (X : Cx) (es : List Expr) (f : MEnv → Option (List Arg × MEnv)) : Prop where
  run : ∀ (env : MEnv) (σ : L2.St) (Hs H : Hp) (as : List Arg) (env' : MEnv), f env = some (as, env') → InvS X.K Hs H σ env → ∀ Q : List V → Hp → Prop,
    (∀ vs Hs' H', GoE σ env Hs H env' Hs' H' → InvS X.K Hs' H' σ env' → ArgsRep X.K H Hs' H' σ env' as vs → Q vs H') → WA X es σ H Q
theorem sx_nil : SX X [] (fun env => some ([], env)) := .mk fun env σ Hs H as env' hf I Q q => by
  cases hf
  exact WA.of pa_nil (q [] Hs H GoE.refl I ⟨rfl, fun j a v h => by simp at h, fun j k xs ys p h => by simp at h⟩)
/-- an argument and then the others -/
theorem args_cons {H1 Hs1 H2 Hs2 : Hp} {e1 e2 : MEnv} {a : Arg} {v : V} {as : List Arg} {vs : List V} (n : ∀ p, H1 p = none → H0 p = none) (g : GoE σ e1 Hs1 H1 e2 Hs2 H2) (ha : ArgRep K H0 Hs1 H1 σ e1 a v) (hs : ArgsRep K H1 Hs2 H2 σ e2 as vs) :
    ArgsRep K H0 Hs2 H2 σ e2 (a :: as) (v :: vs) where
  len := by rw [List.length_cons, List.length_cons, hs.len]
  at_ := fun j b w hb hw => by
    cases j with
    | zero =>
      simp at hb hw
      subst hb hw
      exact ha.mono g
    | succ j =>
      simp at hb hw
      exact (hs.at_ j b w hb hw).back n
  nd := fun j k xs ys p h1 h2 h3 h4 => by
    have key : ∀ (us ws : List PyData) (m : Nat), a = .nw us → v = .ref p → as[m]? = some (.nw ws) → vs[m]? = some (.ref p) → False := fun us ws m e1 e2 g2 g4 => by
      subst e1 e2
      obtain ⟨_, _, e, _, h, _⟩ := ha
      cases e
      obtain ⟨_, _, e, h', _⟩ := hs.at_ m _ _ g2 g4
      cases e
      rw [h] at h'
      cases h'
    cases j with
    | zero =>
      cases k with
      | zero => rfl
      | succ k =>
        simp at h1 h2 h3 h4
        exact (key _ _ _ h1 h3 h2 h4).elim
    | succ j =>
      cases k with
      | zero =>
        simp at h1 h2 h3 h4
        exact (key _ _ _ h2 h4 h1 h3).elim
      | succ k =>
        simp at h1 h2 h3 h4
        rw [hs.nd j k xs ys p h1 h2 h3 h4]
def consX (fe : MEnv → Option (Arg × MEnv)) (fs : MEnv → Option (List Arg × MEnv)) : MEnv → Option (List Arg × MEnv) := fun env => match fe env with
  | some (d, e1) => match fs e1 with
    | some (ds, e2) => some (d :: ds, e2)
    | none => none
  | none => none
theorem consX_some {fe : MEnv → Option (Arg × MEnv)} {fs : MEnv → Option (List Arg × MEnv)} {as : List Arg} (h : consX fe fs env = some (as, env')) : ∃ a e1 r, fe env = some (a, e1) ∧ fs e1 = some (r, env') ∧ as = a :: r := by
  unfold consX at h
  split at h
  · rename_i d e1 h1
    split at h
    · rename_i ds e2 h2
      cases h
      exact ⟨d, e1, ds, h1, h2, rfl⟩
    · cases h
  · cases h
def argV (fe : MEnv → Option (PyData × MEnv)) : MEnv → Option (Arg × MEnv) := fun env => match fe env with
  | some (d, e1) => some (.v d, e1)
  | none => none
def argI (i : Nat) : MEnv → Option (Arg × MEnv) := fun env => some (.io i, env)
def argN (fe : MEnv → Option (Slot × MEnv)) : MEnv → Option (Arg × MEnv) := fun env => match fe env with
  | some (.own xs, e1) => some (.nw xs, e1)
  | _ => none
theorem sx_v {es : List Expr} {fe : MEnv → Option (PyData × MEnv)} {fs : MEnv → Option (List Arg × MEnv)} (h : SV X e fe) (hs : SX X es fs) (hp : plainE e = true) : SX X (e :: es) (consX (argV fe) fs) := by
  refine ⟨?_⟩
  intro env σ Hs H as env' hf I Q q
  obtain ⟨a, e1, r, h1, h2, rfl⟩ := consX_some hf
  unfold argV at h1
  split at h1
  · rename_i d e1' h0
    cases h1
    refine WA.of (pa_cons (W.pe X e) (WA.pa X es) (star_plain hp)) ?_
    refine h env σ Hs H d e1 h0 I _ fun v Hs1 H1 g1 I1 r1 => ?_
    exact hs.run e1 σ Hs1 H1 r env' h2 I1 _ fun vs Hs2 H2 g2 I2 r2 => q (v :: vs) Hs2 H2 (g1.trans g2) I2 (args_cons (fun p hp => g1.none_back hp) g2 (a := .v d) r1 r2)
  · cases h1
def ioA (i : Nat) (fs : MEnv → Option (List Arg × MEnv)) : MEnv → Option (List Arg × MEnv) := fun env => if (env.getD i .un).mut.isSome = true then consX (argI i) fs env else none
theorem sx_io {i : Nat} {x : Str} {p : Pos} {es : List Expr} {fs : MEnv → Option (List Arg × MEnv)} (hx : PE X (.Name x p) (tVar i)) (hs : SX X es fs) : SX X (.Name x p :: es) (ioA i fs) := by
  refine ⟨?_⟩
  intro env σ Hs H as env' hf I Q q
  unfold ioA at hf
  split at hf
  · rename_i hm
    obtain ⟨a, e1, r, h1, h2, rfl⟩ := consX_some hf
    cases h1
    obtain ⟨xs, hxs⟩ := Option.isSome_iff_exists.mp hm
    have hg : env[i]? = some (env.getD i .un) := by
      rw [List.getD_eq_getElem?_getD] at hxs ⊢
      cases z : env[i]? with
      | none => rw [z] at hxs; cases hxs
      | some s => rfl
    obtain ⟨p1, vs1, k1, k2, k3, k4⟩ := I.muts i _ xs hg hxs
    refine WA.of (pa_cons hx (WA.pa X es) (star_plain rfl)) ?_
    refine ⟨.ref p1, k1, ?_⟩
    exact hs.run env σ Hs H r env' h2 I _ fun vs Hs2 H2 g2 I2 r2 => q (.ref p1 :: vs) Hs2 H2 g2 I2 (args_cons (fun p hp => hp) g2 (a := .io i) k1 r2)
  · cases hf
theorem sx_nw {es : List Expr} {fe : MEnv → Option (Slot × MEnv)} {fs : MEnv → Option (List Arg × MEnv)} (h : SE X e fe) (hs : SX X es fs) (hp : plainE e = true) : SX X (e :: es) (consX (argN fe) fs) := by
  refine ⟨?_⟩
  intro env σ Hs H as env' hf I Q q
  obtain ⟨a, e1, r, h1, h2, rfl⟩ := consX_some hf
  unfold argN at h1
  split at h1
  · rename_i xs e1' h0
    cases h1
    refine WA.of (pa_cons (W.pe X e) (WA.pa X es) (star_plain hp)) ?_
    refine h env σ Hs H _ e1 h0 I _ fun v Hs1 H1 g1 I1 r1 => ?_
    obtain ⟨p, vs0, rfl, k1, k2, k3, k4⟩ := r1
    have nm : ¬ MutAt σ e1 p := fun m => by
      obtain ⟨_, _, hh⟩ := I.mutAt_some (g1.ow p m)
      rw [k1] at hh
      cases hh
    exact hs.run e1 σ Hs1 H1 r env' h2 I1 _ fun vs Hs2 H2 g2 I2 r2 => q (.ref p :: vs) Hs2 H2 (g1.trans g2) I2 (args_cons (fun p hp => g1.none_back hp) g2 (a := .nw xs) ⟨p, vs0, rfl, k1, k3, k2, k4, nm⟩ r2)
  · cases h1
def argS (env : MEnv) : Arg → Option Slot
  | .v d => some (.val d)
  | .io i => (env.getD i .un).mut.map .io
  | .nw xs => some (.io xs)
def argsS (env : MEnv) : List Arg → Option (List Slot)
  | [] => some []
  | a :: as => match argS env a with
    | some s => (argsS env as).map (s :: ·)
    | none => none
def ioIx : List Arg → List Nat
  | [] => []
  | .io i :: as => i :: ioIx as
  | _ :: as => ioIx as
def putB : List Arg → List Slot → MEnv → MEnv
  | .io i :: as, .io ys :: ss, env => (putB as ss env).set i ((env.getD i .un).put ys)
  | _ :: as, _ :: ss, env => putB as ss env
  | _, _, env => env
def callX (n : Nat) (run : Run) (fs : MEnv → Option (List Arg × MEnv)) : MEnv → Option (Slot × MEnv) := fun env => match fs env with
  | some (as, e1) => match argsS e1 as with
    | some ss => if ss.length = n ∧ (ioIx as).Nodup then match run ss with
        | some (r, ss') => some (r, putB as ss' e1)
        | none => none
      else none
    | none => none
  | none => none
theorem argsS_len : ∀ {as : List Arg} {ss : List Slot}, argsS env as = some ss → ss.length = as.length
  | [], ss, h => by cases h; rfl
  | a :: as, ss, h => by
    unfold argsS at h
    split at h
    · rename_i s hs
      cases hr : argsS env as with
      | none => rw [hr] at h; cases h
      | some r =>
        rw [hr] at h
        cases h
        rw [List.length_cons, List.length_cons, argsS_len hr]
    · cases h
theorem argsS_get : ∀ {as : List Arg} {ss : List Slot} {j : Nat} {s : Slot}, argsS env as = some ss → ss[j]? = some s → ∃ a, as[j]? = some a ∧ argS env a = some s
  | [], ss, j, s, h, e => by cases h; simp at e
  | a :: as, ss, j, s, h, e => by
    unfold argsS at h
    split at h
    · rename_i s0 hs
      cases hr : argsS env as with
      | none => rw [hr] at h; cases h
      | some r =>
        rw [hr] at h
        cases h
        cases j with
        | zero =>
          simp at e
          subst e
          exact ⟨a, rfl, hs⟩
        | succ j =>
          simp at e
          obtain ⟨a', h1, h2⟩ := argsS_get hr e
          exact ⟨a', by simpa using h1, h2⟩
    · cases h
theorem ioIx_mem : ∀ {as : List Arg} {i : Nat}, i ∈ ioIx as ↔ ∃ j : Nat, as[j]? = some (Arg.io i)
  | [], i => by simp [ioIx]
  | a :: as, i => by
    have ih := ioIx_mem (as := as) (i := i)
    have tail : (∃ j : Nat, (a :: as)[j]? = some (Arg.io i)) ↔ a = Arg.io i ∨ ∃ j : Nat, as[j]? = some (Arg.io i) := by
      constructor
      · rintro ⟨j, h⟩
        cases j with
        | zero => exact .inl (by simpa using h)
        | succ j => exact .inr ⟨j, by simpa using h⟩
      · rintro (h | ⟨j, h⟩)
        · exact ⟨0, by simpa using h⟩
        · exact ⟨j + 1, by simpa using h⟩
    rw [tail]
    cases a with
    | v d => simp [ioIx, ih]
    | io k => simp [ioIx, ih, eq_comm]
    | nw xs => simp [ioIx, ih]
theorem io_once : ∀ {as : List Arg} {i j k : Nat}, (ioIx as).Nodup → as[j]? = some (.io i) → as[k]? = some (.io i) → j = k
  | [], i, j, k, _, h, _ => by simp at h
  | a :: as, i, j, k, nd, h1, h2 => by
    have nd2 : (ioIx as).Nodup := by
      cases a with
      | v d => exact nd
      | io m => exact (List.nodup_cons.mp nd).2
      | nw xs => exact nd
    have out : ∀ {j : Nat}, a = .io i → as[j]? = some (.io i) → False := fun {j} e h => by
      subst e
      exact (List.nodup_cons.mp nd).1 (ioIx_mem.mpr ⟨j, h⟩)
    cases j with
    | zero =>
      cases k with
      | zero => rfl
      | succ k =>
        simp at h1 h2
        exact (out h1 h2).elim
    | succ j =>
      cases k with
      | zero =>
        simp at h1 h2
        exact (out h2 h1).elim
      | succ k =>
        simp at h1 h2
        rw [io_once nd2 h1 h2]
theorem putB_out {i : Nat} : ∀ {as : List Arg} {ss : List Slot}, i ∉ ioIx as → (putB as ss env)[i]? = env[i]?
  | [], ss, _ => by cases ss <;> rfl
  | a :: as, [], _ => by cases a <;> rfl
  | .v d :: as, s :: ss, h => putB_out (as := as) (ss := ss) h
  | .nw d :: as, s :: ss, h => putB_out (as := as) (ss := ss) h
  | .io k :: as, s :: ss, h => by
    have h' : i ≠ k ∧ i ∉ ioIx as := by simpa [ioIx, List.mem_cons, not_or] using h
    have ih := putB_out (as := as) (ss := ss) h'.2
    cases s with
    | io ys =>
      show ((putB as ss env).set k _)[i]? = _
      rw [List.getElem?_set_ne (fun e => h'.1 e.symm), ih]
    | un => exact ih
    | val d => exact ih
    | own xs => exact ih
theorem putB_length : ∀ {as : List Arg} {ss : List Slot}, (putB as ss env).length = env.length
  | [], ss => by cases ss <;> rfl
  | a :: as, [] => by cases a <;> rfl
  | .v d :: as, s :: ss => putB_length (as := as) (ss := ss)
  | .nw d :: as, s :: ss => putB_length (as := as) (ss := ss)
  | .io k :: as, s :: ss => by
    have ih := putB_length (as := as) (ss := ss)
    cases s with
    | io ys =>
      show ((putB as ss env).set k _).length = _
      rw [List.length_set, ih]
    | un => exact ih
    | val d => exact ih
    | own xs => exact ih
theorem putB_in {i : Nat} (hi : i < env.length) : ∀ {as : List Arg} {ss : List Slot} {j : Nat} {ys : List PyData}, (ioIx as).Nodup → as[j]? = some (.io i) → ss[j]? = some (.io ys) → (putB as ss env)[i]? = some ((env.getD i .un).put ys)
  | [], ss, j, ys, _, h, _ => by simp at h
  | a :: as, [], j, ys, _, _, h => by simp at h
  | a :: as, s :: ss, j, ys, nd, h1, h2 => by
    have nd2 : (ioIx as).Nodup := by
      cases a with
      | v d => exact nd
      | io m => exact (List.nodup_cons.mp nd).2
      | nw xs => exact nd
    cases j with
    | zero =>
      simp at h1 h2
      subst h1 h2
      show ((putB as ss env).set i _)[i]? = _
      rw [List.getElem?_set, if_pos rfl, if_pos (by rw [putB_length]; exact hi)]
    | succ j =>
      simp at h1 h2
      have ih := putB_in hi (as := as) (ss := ss) nd2 h1 h2
      cases a with
      | v d => exact ih
      | nw d => exact ih
      | io k =>
        have ne : k ≠ i := fun e => by
          subst e
          exact (List.nodup_cons.mp nd).1 (ioIx_mem.mpr ⟨j, h1⟩)
        cases s with
        | io zs =>
          show ((putB as ss env).set k _)[i]? = _
          rw [List.getElem?_set_ne ne, ih]
        | un => exact ih
        | val d => exact ih
        | own xs => exact ih
end Ip

set_option Elab.async false
set_option linter.all false
set_option maxRecDepth 100000
set_option maxHeartbeats 4000000
namespace Ip
open PySem L2
open Evl (Ex sz_of fresh_back)
variable {X : Cx} {a b e o : Expr} {pos : Pos} {K : PySem.W.Frag} {H0 Hs Hs' H H' : Hp} {σ : L2.St} {env env' : MEnv}
theorem map_some_get {vs : List V} {j : Nat} {v : V} : (vs.map some)[j]? = some (some v) ↔ vs[j]? = some v := by
  rw [List.getElem?_map]
  cases vs[j]? <;> simp
/-- what the called one is handed -/
theorem argS_cases {a : Arg} {s : Slot} (h : argS env a = some s) : (∃ d, a = .v d ∧ s = .val d) ∨ (∃ i t xs, a = .io i ∧ env[i]? = some t ∧ t.mut = some xs ∧ s = .io xs) ∨ (∃ xs, a = .nw xs ∧ s = .io xs) := by
  cases a with
  | v d => cases h; exact .inl ⟨d, rfl, rfl⟩
  | nw xs => cases h; exact .inr (.inr ⟨xs, rfl, rfl⟩)
  | io i =>
    have h : (env.getD i .un).mut.map Slot.io = some s := h
    cases hm : (env.getD i .un).mut with
    | none => rw [hm] at h; cases h
    | some xs =>
      rw [hm] at h
      cases h
      refine .inr (.inl ⟨i, env.getD i .un, xs, rfl, ?_, hm, rfl⟩)
      rw [List.getD_eq_getElem?_getD] at hm ⊢
      cases z : env[i]? with
      | none => rw [z] at hm; cases hm
      | some t => rfl
theorem callX_inv (I : InvS K Hs H σ env) {as : List Arg} {vs : List V} {ss : List Slot} (r : ArgsRep K H0 Hs H σ env as vs) (hs : argsS env as = some ss) (nd : (ioIx as).Nodup) : InvS K Hs H (vs.map some) ss ∧
    ∀ (j : Nat) (s : Slot) (xs : List PyData) (p : Addr), ss[j]? = some s → s.mut = some xs → vs[j]? = some (.ref p) → (∃ i, as[j]? = some (.io i) ∧ σ[i]? = some (some (.ref p)) ∧ ∃ t, env[i]? = some t ∧ t.mut = some xs) ∨ (∃ us, as[j]? = some (.nw us) ∧ H0 p = none ∧ ¬ MutAt σ env p) := by
  have len : vs.length = ss.length := by rw [argsS_len hs, r.len]
  have spot : ∀ (j : Nat) (s : Slot) (xs : List PyData) (p : Addr), ss[j]? = some s → s.mut = some xs → vs[j]? = some (.ref p) → (∃ i, as[j]? = some (.io i) ∧ σ[i]? = some (some (.ref p)) ∧ ∃ t, env[i]? = some t ∧ t.mut = some xs) ∨ (∃ us, as[j]? = some (.nw us) ∧ H0 p = none ∧ ¬ MutAt σ env p) := fun j s xs p h1 h2 h3 => by
    obtain ⟨a, ha, hsa⟩ := argsS_get hs h1
    have q := r.at_ j a _ ha h3
    rcases argS_cases hsa with ⟨d, rfl, rfl⟩ | ⟨i, t, ys, rfl, k1, k2, rfl⟩ | ⟨ys, rfl, rfl⟩
    · cases h2
    · cases h2
      exact .inl ⟨i, ha, q, t, k1, k2⟩
    · cases h2
      obtain ⟨p', us, e, k1, _, _, _, k2⟩ := q
      cases e
      exact .inr ⟨_, ha, k1, k2⟩
  refine ⟨⟨by rw [List.length_map]; exact len, I.sh, fun j d h => ?_, fun j s xs h hm => ?_, fun j k s t xs ys p h1 m1 h2 m2 g1 g2 => ?_⟩, spot⟩
  · obtain ⟨a, ha, hsa⟩ := argsS_get hs h
    have hj : j < vs.length := by rw [← r.len]; exact (List.getElem?_eq_some_iff.mp ha).1
    have q := r.at_ j a _ ha (List.getElem?_eq_getElem hj)
    rcases argS_cases hsa with ⟨d', rfl, e⟩ | ⟨_, _, _, _, _, _, e⟩ | ⟨_, _, e⟩
    · cases e
      exact ⟨vs[j], map_some_get.mpr (List.getElem?_eq_getElem hj), q⟩
    · cases e
    · cases e
  · obtain ⟨a, ha, hsa⟩ := argsS_get hs h
    have hj : j < vs.length := by rw [← r.len]; exact (List.getElem?_eq_some_iff.mp ha).1
    have hv := List.getElem?_eq_getElem hj
    have q := r.at_ j a _ ha hv
    rcases argS_cases hsa with ⟨d', rfl, rfl⟩ | ⟨i, t, ys, rfl, k1, k2, rfl⟩ | ⟨ys, rfl, rfl⟩
    · cases hm
    · cases hm
      obtain ⟨p, us, j1, j2, j3, j4⟩ := I.muts i t _ k1 k2
      have q : σ[i]? = some (some vs[j]) := q
      rw [j1] at q
      have e : vs[j] = V.ref p := by injection q with q; injection q with q; exact q.symm
      exact ⟨p, us, map_some_get.mpr (by rw [hv, e]), j2, j3, j4⟩
    · cases hm
      obtain ⟨p, us, e, _, j3, j2, j4, _⟩ := q
      exact ⟨p, us, map_some_get.mpr (by rw [hv, e]), j2, j3, j4⟩
  · have g1 := map_some_get.mp g1
    have g2 := map_some_get.mp g2
    rcases spot j s xs p h1 m1 g1 with ⟨i, a1, a2, t1, a3, a4⟩ | ⟨us, a1, _, a2⟩
    · rcases spot k t ys p h2 m2 g2 with ⟨i', b1, b2, t2, b3, b4⟩ | ⟨ws, b1, _, b2⟩
      · have := I.diff i i' t1 t2 _ _ p a3 a4 b3 b4 a2 b2
        subst this
        exact io_once nd a1 b1
      · exact absurd ⟨i, t1, _, a3, a4, a2⟩ b2
    · rcases spot k t ys p h2 m2 g2 with ⟨i', b1, b2, t2, b3, b4⟩ | ⟨ws, b1, _, b2⟩
      · exact absurd ⟨i', t2, _, b3, b4, b2⟩ a2
      · exact r.nd j k _ _ p a1 b1 g1 g2
theorem put_own {s : Slot} {xs ys : List PyData} (h : s.put ys = .own xs) : ∃ zs, s = .own zs := by
  cases s with
  | own zs => exact ⟨zs, rfl⟩
  | _ => cases h
theorem put_val {s : Slot} {us ys : List PyData} (hm : s.mut = some us) (d : PyData) : s.put ys ≠ .val d := by
  intro h
  cases s
  · cases hm
  · cases hm
  · cases h
  · cases h
/-- behind the call -/
theorem callX_end {Hsa Ha Hs1 H1 : Hp} {e0 e1 : MEnv} (g0 : GoE σ e0 Hsa Ha e1 Hs1 H1) (I0 : InvS K Hsa Ha σ e0) (I : InvS K Hs1 H1 σ e1) {as : List Arg} {vs : List V} {ss ss' : List Slot} (r : ArgsRep K Ha Hs1 H1 σ e1 as vs) (hs : argsS e1 as = some ss) (nd : (ioIx as).Nodup)
    (g : Go (vs.map some) ss Hs1 H1 (vs.map some) ss' Hs' H') (I' : InvS K Hs' H' (vs.map some) ss') : GoE σ e0 Hsa Ha (putB as ss' e1) Hs' H' ∧ InvS K Hs' H' σ (putB as ss' e1) := by
  obtain ⟨IS, spot⟩ := callX_inv I r hs nd
  have noloc : ∀ p, ¬ LocAt (vs.map some) ss p := fun p ⟨j, xs, h1, _⟩ => by
    obtain ⟨a, _, hsa⟩ := argsS_get hs h1
    rcases argS_cases hsa with ⟨_, _, e⟩ | ⟨_, _, _, _, _, _, e⟩ | ⟨_, _, e⟩ <;> cases e
  have mutOf : ∀ p, MutAt (vs.map some) ss p → (∃ i t xs, i ∈ ioIx as ∧ e1[i]? = some t ∧ t.mut = some xs ∧ σ[i]? = some (some (.ref p))) ∨ (Ha p = none ∧ ¬ MutAt σ e1 p) := fun p ⟨j, s, xs, h1, h2, h3⟩ => by
    rcases spot j s xs p h1 h2 (map_some_get.mp h3) with ⟨i, a1, a2, t1, a3, a4⟩ | ⟨us, _, a1, a2⟩
    · exact .inl ⟨i, t1, xs, ioIx_mem.mpr ⟨j, a1⟩, a3, a4, a2⟩
    · exact .inr ⟨a1, a2⟩
  -- the slot of an io argument, behind the call
  have inn : ∀ i, i ∈ ioIx as → ∃ (j : Nat) (t : Slot) (xs ys : List PyData), as[j]? = some (Arg.io i) ∧ e1[i]? = some t ∧ t.mut = some xs ∧ ss'[j]? = some (Slot.io ys) ∧ (putB as ss' e1)[i]? = some (t.put ys) ∧ ∃ v, vs[j]? = some v ∧ σ[i]? = some (some v) := fun i hi => by
    obtain ⟨j, hj⟩ := ioIx_mem.mp hi
    have hjl : j < ss.length := by rw [argsS_len hs]; exact (List.getElem?_eq_some_iff.mp hj).1
    have hjv : j < vs.length := by rw [← r.len]; exact (List.getElem?_eq_some_iff.mp hj).1
    obtain ⟨a, ha, hsa⟩ := argsS_get hs (List.getElem?_eq_getElem hjl)
    rw [hj] at ha
    cases ha
    rcases argS_cases hsa with ⟨_, e, _⟩ | ⟨i', t, xs, e, k1, k2, k3⟩ | ⟨_, e, _⟩
    · cases e
    · cases e
      have hio : ss[j]? = some (.io xs) := by rw [List.getElem?_eq_getElem hjl, k3]
      obtain ⟨_, ys, hys⟩ := g.io j xs hio
      have hl : i < e1.length := (List.getElem?_eq_some_iff.mp k1).1
      refine ⟨j, t, xs, ys, hj, k1, k2, hys, ?_, vs[j], List.getElem?_eq_getElem hjv, r.at_ j _ _ hj (List.getElem?_eq_getElem hjv)⟩
      rw [putB_in hl nd hj hys, List.getD_eq_getElem?_getD, k1]
      rfl
    · cases e
  have out : ∀ i, i ∉ ioIx as → (putB as ss' e1)[i]? = e1[i]? := fun i hi => putB_out hi
  have getm : ∀ {i : Nat} {s : Slot} {xs : List PyData}, (putB as ss' e1)[i]? = some s → s.mut = some xs → ∃ t zs, e1[i]? = some t ∧ t.mut = some zs ∧ (s = .own xs → t = .own zs) := fun {i s xs} h hm => by
    by_cases hi : i ∈ ioIx as
    · obtain ⟨j, t, zs, ys, _, k1, k2, _, k3, _⟩ := inn i hi
      rw [k3] at h
      cases h
      refine ⟨t, zs, k1, k2, fun e => ?_⟩
      obtain ⟨ws, rfl⟩ := put_own e
      cases k2
      rfl
    · rw [out i hi] at h
      refine ⟨s, xs, h, hm, fun e => e⟩
  refine ⟨⟨g0.sh.trans g.sh, fun p u h n => ?_, fun p u h => ?_, fun p u h => ?_, fun p m => ?_, fun p m => ?_, fun i xs h => ?_⟩, ⟨by rw [putB_length]; exact I.len, I'.sh, fun i d h => ?_, fun i s xs h hm => ?_, fun i j s t xs ys p h1 m1 h2 m2 g1 g2 => ?_⟩⟩
  · refine g.kp p u (g0.kp p u h n) fun m => ?_
    rcases mutOf p m with ⟨i, t, xs, _, k1, k2, k3⟩ | ⟨k1, _⟩
    · exact n (g0.ow p ⟨i, t, xs, k1, k2, k3⟩)
    · rw [h] at k1
      cases k1
  · obtain ⟨w, hw⟩ := g0.dm p u h
    exact g.dm p w hw
  · rcases g.nw p u h with z | z | z
    · exact g0.nw p u z
    · exact .inr (.inl (g0.none_back z))
    · exact absurd z (noloc p)
  · obtain ⟨i, s, xs, k1, k2, k3⟩ := m
    obtain ⟨t, zs, k4, k5, _⟩ := getm k1 k2
    exact g0.ow p ⟨i, t, zs, k4, k5, k3⟩
  · obtain ⟨i, xs, k1, k3⟩ := m
    obtain ⟨t, zs, k4, k5, k6⟩ := getm k1 (xs := xs) rfl
    have := k6 rfl
    subst this
    exact g0.lo p ⟨i, zs, k4, k3⟩
  · obtain ⟨ys, hy⟩ := g0.io i xs h
    by_cases hi : i ∈ ioIx as
    · obtain ⟨j, t, zs, ws, _, k1, k2, _, k3, _⟩ := inn i hi
      rw [hy] at k1
      cases k1
      exact ⟨ws, k3⟩
    · exact ⟨ys, by rw [out i hi]; exact hy⟩
  · by_cases hi : i ∈ ioIx as
    · obtain ⟨j, t, zs, ws, _, k1, k2, _, k3, _⟩ := inn i hi
      rw [k3] at h
      injection h with h
      exact absurd h (put_val k2 d)
    · rw [out i hi] at h
      obtain ⟨v, h1, h2⟩ := I.vals i d h
      exact ⟨v, h1, Rep.mono g.sh d v h2⟩
  · by_cases hi : i ∈ ioIx as
    · obtain ⟨j, t, zs, ws, _, k1, k2, k4, k3, v, k5, k6⟩ := inn i hi
      rw [k3] at h
      cases h
      rw [Slot.put_mut k2] at hm
      cases hm
      obtain ⟨p, us, j1, j2, j3, j4⟩ := I'.muts j _ _ k4 rfl
      have e := map_some_get.mp j1
      rw [k5] at e
      cases e
      exact ⟨p, us, k6, j2, j3, j4⟩
    · rw [out i hi] at h
      obtain ⟨p, us, j1, j2, j3, j4⟩ := I.muts i s xs h hm
      have nm : ¬ MutAt (vs.map some) ss p := fun m => by
        rcases mutOf p m with ⟨i', t, zs, a1, k1, k2, k3⟩ | ⟨_, k2⟩
        · have := I.diff i i' s t _ _ p h hm k1 k2 j1 k3
          subst this
          exact hi a1
        · exact k2 ⟨i, s, xs, h, hm, j1⟩
      refine ⟨p, us, j1, ?_, g.kp p _ j3 nm, RepL.mono g.sh xs us j4⟩
      cases z : Hs' p with
      | none => rfl
      | some u =>
        rcases g.nw p u z with z1 | z1 | z1
        · rw [j2] at z1; cases z1
        · rw [j3] at z1; cases z1
        · exact absurd z1 (noloc p)
  · obtain ⟨t1, z1, a1, a2, _⟩ := getm h1 m1
    obtain ⟨t2, z2, b1, b2, _⟩ := getm h2 m2
    exact I.diff i j t1 t2 z1 z2 p a1 a2 b1 b2 g1 g2
theorem argOk_all {as : List Arg} {ss : List Slot} (hs : argsS env as = some ss) : ss.all argOk = true := by
  rw [List.all_eq_true]
  intro s hsm
  obtain ⟨j, hj⟩ := List.getElem?_of_mem hsm
  obtain ⟨a, _, hsa⟩ := argsS_get hs hj
  rcases argS_cases hsa with ⟨_, _, e⟩ | ⟨_, _, _, _, _, _, e⟩ | ⟨_, _, e⟩ <;> subst e <;> rfl
theorem rd_callX {n : Nat} {run : Run} {es : List Expr} {fs : MEnv → Option (List Arg × MEnv)} (ha : SX X es fs) {r : Slot} (hf : callX n run fs env = some (r, env')) (I : InvS X.K Hs H σ env) (Q : VK)
    (q : ∀ v Hs' H', GoE σ env Hs H env' Hs' H' → InvS X.K Hs' H' σ env' → RepR X.K H Hs' H' r v → Q v H') (E : XK) : tCall (spF X.K n run) [] E (WA X es) σ H Q := by
  unfold callX at hf
  split at hf
  · rename_i as e1 h1
    split at hf
    · rename_i ss hss
      split at hf
      · rename_i hc
        split at hf
        · rename_i r0 ss' hr
          cases hf
          refine ha.run env σ Hs H as e1 h1 I _ fun vs Hs1 H1 g1 I1 r1 => ?_
          rw [List.append_nil]
          refine ⟨ss, Hs1, r, ss', hc.1, argOk_all hss, hr, (callX_inv I1 r1 hss hc.2).1, fun v Hs' H' g I' rr => ?_⟩
          obtain ⟨ge, ie⟩ := callX_end g1 I I1 r1 hss hc.2 g I'
          exact q v Hs' H' ge ie (RepR.mono (fun p hp => g1.none_back hp) rr)
        · cases hf
      · cases hf
    · cases hf
  · cases hf
theorem se_goX {k n : Nat} {run : Run} {x : Str} {p : Pos} {es : List Expr} {fs : MEnv → Option (List Arg × MEnv)} (o : OwnG X.prog X.w X.K X.mg X.base k x n run) (hG : X.A.guards = some []) (hr : Room k X.A) (hg : Gl X x) (ha : SX X (e :: es) fs)
    (hp : (e :: es).all plainE = true) (hd : (x == ("__debug__" : Str)) = false) : SE X (.Call (.Name x p) (e :: es) [] pos) (callX n run fs) := by
  refine ⟨?_⟩
  intro env σ Hs H r env' hf I Q q
  rw [List.all_cons, Bool.and_eq_true] at hp
  exact W.of (pe_go o.ok hG hr hg o.at_ o.kp o.bi (WA.pa X (e :: es)) hd (star_plain hp.1) (star_any hp.2)) (rd_callX ha hf I Q q E0)
end Ip

set_option Elab.async false
set_option linter.all false
set_option maxRecDepth 100000
set_option maxHeartbeats 4000000
namespace Ip
open PySem L2
open Evl (Ex sz_of fresh_back)
variable {X : Cx} {a b e o : Expr} {pos : Pos} {K : PySem.W.Frag} {H0 Hs Hs' H H' : Hp} {σ : L2.St} {env env' : MEnv}
/-! ### xs.pop() -/
def popF (i : Nat) : MEnv → Option (Slot × MEnv) := fun env => match env[i]? with
  | some s => match s.mut with
    | some xs => match xs[xs.length - 1]? with
      | some d => some (.val d, env.set i (s.put xs.dropLast))
      | none => none
    | none => none
  | none => none
theorem repL_init : ∀ {ds : List PyData} {vs : List V}, RepL K H ds vs → RepL K H ds.dropLast vs.dropLast := fun {ds vs} h => by
  rw [List.dropLast_eq_take, List.dropLast_eq_take, ← RepL.length h]
  exact RepL.take _ h
theorem se_pop {i : Nat} {x : Str} {px pa : Pos} (hx : PE X (.Name x px) (tVar i)) (hline : (pa.endLine == pos.line) = true) : SE X (.Call (.Attribute (.Name x px) "pop" pa) [] [] pos) (popF i) := by
  refine ⟨?_⟩
  intro env σ Hs H r env' hf I Q q
  unfold popF at hf
  split at hf
  · rename_i s hs
    split at hf
    · rename_i xs hm
      split at hf
      · rename_i d hd
        cases hf
        obtain ⟨p, vs, k1, k2, k3, k4⟩ := I.muts i s xs hs hm
        refine W.of (pe_bm0 (X := X) PySem.F.plainAttrs_list PySem.F.slot_list_pop PySem.F.type_list_pop mt_pop hx rfl hline) ?_
        obtain ⟨v, h1, h2⟩ := RepL.get k4 hd
        refine ⟨.ref p, k1, .inl ⟨rfl, vs, Evl.sq_of k3⟩, p, vs, v, rfl, rfl, k3, by rw [← RepL.length k4]; exact h1, ?_⟩
        have r2 := repL_init k4
        exact q v Hs _ (GoE.change I hs hm k1) (I.change hs hm (Slot.put_mut hm _) k1 r2) h2
      · cases hf
    · cases hf
  · cases hf
/-- an expression for itself -/
def exprB (f : MEnv → Option (Slot × MEnv)) : MEnv → Option Out := fun env => match f env with
  | some (_, e1) => some (.nx e1)
  | none => none
theorem ss_expr {f : MEnv → Option (Slot × MEnv)} (h : SE X e f) (hs : swapsWith e none pos.line X.env = pure false) : SS X (.Expr e pos) (exprB f) := by
  refine ⟨?_⟩
  intro env σ Hs H o hf I D q
  unfold exprB at hf
  split at hf
  · rename_i r e1 h1
    cases hf
    refine WS.of (ps_expr (W.pe X e) hs) ?_
    exact h env σ Hs H r e1 h1 I _ fun v Hs1 H1 g1 I1 _ => q σ Hs1 H1 g1.go I1
  · cases hf
/-! ### in, not in -/
def flatD : PyData → Bool
  | .none => true
  | .bool _ => true
  | .int _ => true
  | .str _ => true
  | _ => false
theorem flat_rep : ∀ {d : PyData} {v : V}, flatD d = true → Rep K H d v → flatV v = true
  | .none, v, _, h => by cases (show v = .non from h); rfl
  | .bool _, v, _, h => by cases (show v = .bl _ from h); rfl
  | .int _, v, _, h => by cases (show v = .int _ from h); rfl
  | .str _, v, _, h => by cases (show v = .str _ from h); rfl
  | .list _, _, h, _ => by cases h
  | .tuple _, _, h, _ => by cases h
  | .dict _, _, h, _ => by cases h
theorem flat_eq : ∀ {c d : PyData} {u v : V}, flatD c = true → flatD d = true → Rep K H c u → Rep K H d v → eqV u v = PyData.eqv c d := by
  intro c d u v hc hd hu hv
  cases c <;> first | (cases hc; done) | skip
  all_goals cases d <;> first | (cases hd; done) | skip
  all_goals
    simp only [Rep] at hu hv
    subst hu hv
    first | rfl | simp [eqV, PyData.eqv]
theorem flats_rep {ds : List PyData} {vs : List V} (h : RepL K H ds vs) (hf : ds.all flatD = true) : vs.all flatV = true := by
  rw [List.all_eq_true] at hf ⊢
  intro v hv
  obtain ⟨j, hj⟩ := List.getElem?_of_mem hv
  have hl : j < ds.length := by rw [RepL.length h]; exact (List.getElem?_eq_some_iff.mp hj).1
  obtain ⟨w, e1, e2⟩ := RepL.get h (List.getElem?_eq_getElem hl)
  rw [hj] at e1
  cases e1
  exact flat_rep (hf _ (List.getElem_mem hl)) e2
theorem in_rep {x : PyData} {u : V} (hx : flatD x = true) (hu : Rep K H x u) : ∀ {ds : List PyData} {vs : List V}, RepL K H ds vs → ds.all flatD = true → inV u vs = ds.any fun z => PyData.eqv z x
  | [], vs, h, _ => by cases (show vs = [] from h); rfl
  | d :: ds, vs, h, hf => by
    obtain ⟨v, r, rfl, h1, h2⟩ := h
    rw [List.all_cons, Bool.and_eq_true] at hf
    have ih := in_rep hx hu h2 hf.2
    unfold inV at ih ⊢
    rw [List.any_cons, List.any_cons, ih, flat_eq hf.1 hx h1 hu]
def inD (neg : Bool) (x : PyData) : PyData → Option Slot
  | .list ds => if flatD x = true ∧ ds.all flatD = true then bV (if neg then !ds.any (fun z => PyData.eqv z x) else ds.any fun z => PyData.eqv z x) else none
  | .tuple ds => if flatD x = true ∧ ds.all flatD = true then bV (if neg then !ds.any (fun z => PyData.eqv z x) else ds.any fun z => PyData.eqv z x) else none
  | _ => none
theorem ok_in {neg : Bool} : R2ok X.K (rIn X.K neg) (inD neg) := by
  intro Hs H σ env x y v u s hs I hx hy Q q
  have rx := Top.rep I.sh hx
  cases y <;> try (cases hs; done)
  · rename_i ds
    unfold inD at hs
    simp only at hs
    split at hs
    · rename_i hc
      cases hs
      obtain ⟨p, vs, rfl, h1, h2⟩ := hy
      have h2' := RepL.mono I.sh ds vs h2
      exact ⟨p, vs, rfl, .inl h1, flat_rep hc.1 rx, flats_rep h2 hc.2, by rw [in_rep hc.1 rx h2' hc.2]; exact ok_val I rfl (show Rep X.K Hs (.bool _) (.bl _) from rfl) q⟩
    · cases hs
  · rename_i ds
    unfold inD at hs
    simp only at hs
    split at hs
    · rename_i hc
      cases hs
      obtain ⟨p, vs, rfl, h1, h2⟩ := hy
      have h2' := RepL.mono I.sh ds vs h2
      exact ⟨p, vs, rfl, .inr (Evl.ex_t I.sh h1), flat_rep hc.1 rx, flats_rep h2 hc.2, by rw [in_rep hc.1 rx h2' hc.2]; exact ok_val I rfl (show Rep X.K Hs (.bool _) (.bl _) from rfl) q⟩
    · cases hs
/-! ### max, min of a list of ints -/
def maxI (n : Int) (ns : List Int) : Int := ns.foldl max n
def minI (n : Int) (ns : List Int) : Int := ns.foldl min n
theorem maxI_ge : ∀ (ns : List Int) (n : Int), n ≤ maxI n ns ∧ ∀ y ∈ ns, y ≤ maxI n ns
  | [], n => ⟨Int.le_refl _, fun y h => by cases h⟩
  | m :: ns, n => by
    obtain ⟨h1, h2⟩ := maxI_ge ns (max n m)
    have e : maxI n (m :: ns) = maxI (max n m) ns := rfl
    rw [e]
    refine ⟨by omega, fun y hy => ?_⟩
    rcases List.mem_cons.mp hy with rfl | h
    · omega
    · exact h2 y h
theorem minI_le : ∀ (ns : List Int) (n : Int), minI n ns ≤ n ∧ ∀ y ∈ ns, minI n ns ≤ y
  | [], n => ⟨Int.le_refl _, fun y h => by cases h⟩
  | m :: ns, n => by
    obtain ⟨h1, h2⟩ := minI_le ns (min n m)
    have e : minI n (m :: ns) = minI (min n m) ns := rfl
    rw [e]
    refine ⟨by omega, fun y hy => ?_⟩
    rcases List.mem_cons.mp hy with rfl | h
    · omega
    · exact h2 y h
theorem maxI_mem : ∀ (ns : List Int) (n : Int), maxI n ns ∈ n :: ns
  | [], n => List.mem_cons_self
  | m :: ns, n => by
    have e : maxI n (m :: ns) = maxI (max n m) ns := rfl
    have h := maxI_mem ns (max n m)
    rw [e]
    rcases List.mem_cons.mp h with h | h
    · rw [h]
      by_cases c : n ≤ m
      · rw [show max n m = m by omega]; simp
      · rw [show max n m = n by omega]; simp
    · exact List.mem_cons_of_mem _ (List.mem_cons_of_mem _ h)
theorem minI_mem : ∀ (ns : List Int) (n : Int), minI n ns ∈ n :: ns
  | [], n => List.mem_cons_self
  | m :: ns, n => by
    have e : minI n (m :: ns) = minI (min n m) ns := rfl
    have h := minI_mem ns (min n m)
    rw [e]
    rcases List.mem_cons.mp h with h | h
    · rw [h]
      by_cases c : n ≤ m
      · rw [show min n m = n by omega]; simp
      · rw [show min n m = m by omega]; simp
    · exact List.mem_cons_of_mem _ (List.mem_cons_of_mem _ h)
def maxD : PyData → Option Slot
  | .list xs => match intsOf xs with
    | some (n :: ns) => some (.val (.int (maxI n ns)))
    | _ => none
  | _ => none
def minD : PyData → Option Slot
  | .list xs => match intsOf xs with
    | some (n :: ns) => some (.val (.int (minI n ns)))
    | _ => none
  | _ => none
theorem ok_max : R1ok X.K (fun v H Q => rMax X.K [v] H Q) maxD := by
  intro Hs H σ env x v s hs I hx Q q
  cases x <;> try (cases hs; done)
  rename_i xs
  unfold maxD at hs
  simp only at hs
  split at hs
  · rename_i n ns hi
    cases hs
    obtain ⟨p, vs, rfl, h1, h2⟩ := hx
    refine ⟨p, n :: ns, rfl, by rw [← intsOf_rep hi h2]; exact h1, by simp, fun m hm hle => ?_⟩
    have e : m = maxI n ns := by
      have h3 := hle _ (maxI_mem ns n)
      obtain ⟨h4, h5⟩ := maxI_ge ns n
      rcases List.mem_cons.mp hm with rfl | h
      · omega
      · have := h5 m h; omega
    rw [e]
    exact ok_val I rfl (show Rep X.K Hs (.int _) (.int _) from rfl) q
  · cases hs
theorem ok_min : R1ok X.K (fun v H Q => rMin X.K [v] H Q) minD := by
  intro Hs H σ env x v s hs I hx Q q
  cases x <;> try (cases hs; done)
  rename_i xs
  unfold minD at hs
  simp only at hs
  split at hs
  · rename_i n ns hi
    cases hs
    obtain ⟨p, vs, rfl, h1, h2⟩ := hx
    refine ⟨p, n :: ns, rfl, by rw [← intsOf_rep hi h2]; exact h1, by simp, fun m hm hle => ?_⟩
    have e : m = minI n ns := by
      have h3 := hle _ (minI_mem ns n)
      obtain ⟨h4, h5⟩ := minI_le ns n
      rcases List.mem_cons.mp hm with rfl | h
      · omega
      · have := h5 m h; omega
    rw [e]
    exact ok_val I rfl (show Rep X.K Hs (.int _) (.int _) from rfl) q
  · cases hs
/-! ### a display of a dict, and one of its values -/
def baseV : PyData → V
  | .bool b => .bl b
  | .int i => .int i
  | .str s => .str s
  | _ => .non
def isBase : PyData → Bool
  | .none => true
  | .bool _ => true
  | .int _ => true
  | .str _ => true
  | _ => false
theorem base_rep : ∀ {d : PyData}, isBase d = true → Rep K H d (baseV d)
  | .none, _ => rfl
  | .bool _, _ => rfl
  | .int _, _ => rfl
  | .str _, _ => rfl
  | .list _, h => by cases h
  | .tuple _, h => by cases h
  | .dict _, h => by cases h
def keyD : PyData → Option Key
  | .int i => some (.inl i)
  | .str s => some (.inr s)
  | _ => none
def dictD (kvs : List (Key × PyData)) (d : PyData) : Option Slot := match keyD d with
  | some k => ((kvs.find? fun kv => decide (kv.1 = k)).map fun kv => .val kv.2)
  | none => none
def dictF (kvs : List (Key × PyData)) (fe : MEnv → Option (Lr × MEnv)) : MEnv → Option (Slot × MEnv) := op1 fe (dictD kvs)
theorem find_map {κ α β : Type} [DecidableEq κ] (f : α → β) (k : κ) : ∀ kvs : List (κ × α), ((kvs.map fun kv => (kv.1, f kv.2)).find? fun kv => decide (kv.1 = k)) = (kvs.find? fun kv => decide (kv.1 = k)).map fun kv => (kv.1, f kv.2)
  | [] => rfl
  | kv :: kvs => by
    rw [List.map_cons, List.find?_cons, List.find?_cons]
    by_cases h : kv.1 = k
    · simp [h]
    · simp [h, find_map f k kvs]
theorem se_dictix {keys : List (Option Expr)} {values : List Expr} {trs : List (TE × TE)} {p2 : Pos} {fe : MEnv → Option (Lr × MEnv)} (kvs : List (Key × PyData)) (hu : X.A.units + 1 < cLine) (h : PPs X p2 keys values trs) (hall : keys.all (·.isSome) = true) (hl : keys.length = values.length)
    (h0 : keys ≠ []) (h15 : keys.length ≤ 15) (htr : ∀ σ H Q, Q (kvs.map fun kv => (kV kv.1, baseV kv.2)) H → tPairs trs σ H Q) (hk15 : kvs.length ≤ 15) (hm : mergeK [] (kvs.map fun kv => (kv.1, baseV kv.2)) = kvs.map fun kv => (kv.1, baseV kv.2))
    (hb : kvs.all (fun kv => isBase kv.2) = true) (he : SL X e fe) (hp : plainIx e = true) : SE X (.Subscript (.Dict keys values p2) e pos) (dictF kvs fe) := by
  refine ⟨?_⟩
  intro env σ Hs H r env' hf I Q q
  unfold dictF op1 at hf
  split at hf
  · rename_i ra e1 h1
    split at hf
    · rename_i x hx
      split at hf
      · rename_i s hs
        cases hf
        unfold dictD at hs
        split at hs
        · rename_i k hk
          have NS : NoSl e := by
            intro o i
            cases e <;> first | rfl | cases hp
          refine W.of (pe_dget hu (pe_disp h hall hl h0 h15) (W.pe X e) NS) ?_
          intro p hp1
          refine htr _ _ _ ?_
          refine ⟨upd_same, kvs.map fun kv => (kv.1, baseV kv.2), by rw [List.map_map]; rfl, by rw [List.length_map]; exact hk15, ?_⟩
          have I1 := I.lay hp1 (.dK (mergeK [] (kvs.map fun kv => (kv.1, baseV kv.2))))
          have g1 : GoE σ env Hs H env Hs (upd H p (.dK (mergeK [] (kvs.map fun kv => (kv.1, baseV kv.2))))) := GoE.lay hp1 _
          have eu : upd (upd H p (.dK [])) p (.dK (mergeK [] (kvs.map fun kv => (kv.1, baseV kv.2)))) = upd H p (.dK (mergeK [] (kvs.map fun kv => (kv.1, baseV kv.2)))) := by
            funext b
            by_cases e : b = p
            · subst e; rw [upd_same, upd_same]
            · rw [upd_ne e, upd_ne e, upd_ne e]
          rw [eu]
          refine he env σ Hs _ ra env' h1 I1 _ fun v Hs2 H2 g2 I2 r2 => ?_
          have hv := RepLr.top I2 r2 hx
          have nm : ¬ MutAt σ env p := fun m => by
            obtain ⟨_, _, hh⟩ := I.mutAt_some m
            rw [hp1] at hh
            cases hh
          have hd2 : H2 p = some (.dK (mergeK [] (kvs.map fun kv => (kv.1, baseV kv.2)))) := g2.kp p _ upd_same nm
          cases hfnd : kvs.find? fun kv => decide (kv.1 = k) with
          | none => rw [hfnd] at hs; cases hs
          | some kv =>
            rw [hfnd] at hs
            cases hs
            have hbv : isBase kv.2 = true := List.all_eq_true.mp hb kv (List.mem_of_find?_eq_some hfnd)
            refine ⟨p, baseV kv.2, rfl, ?_, q _ Hs2 H2 (g1.trans g2) I2 (base_rep hbv)⟩
            have kv_ : v = kV k := by
              cases x <;> first | (cases hk; done) | skip
              · cases hk; exact hv
              · cases hk; exact hv
            rw [kv_]
            have := DGet.k (k := k) hd2
            unfold valV at this
            rw [hm, find_map baseV k kvs, hfnd] at this
            exact this
        · cases hs
      · cases hf
    · cases hf
  · cases hf
/-! ### xs[::-1] -/
def revD : PyData → Option Slot
  | .list xs => some (.own xs.reverse)
  | _ => none
theorem se_rev {k : Nat} {p1 p2 p3 : Pos} {fa : MEnv → Option (Lr × MEnv)} (ha : SL X a fa) : SE X (.Subscript a (.Slice none none (some (.UnaryOp .USub (.Constant (.int 1) k p1) p2)) p3) pos) (op1 fa revD) := by
  refine se_op1 (r := fun v H Q => ∃ p xs, v = .ref p ∧ SqL X.K H p xs ∧ ∀ q, H q = none → Q (.ref q) (upd H q (.lst xs.reverse))) ha ?_ (pe_revL (W.pe X a))
  intro Hs H σ env x v s hs I hx Q q
  cases x <;> try (cases hs; done)
  cases hs
  obtain ⟨p, vs, rfl, h1, h2⟩ := hx
  exact ⟨p, vs, rfl, h1, ok_newL I rfl (RepL.reverse h2) q⟩
end Ip
namespace Ip
open PySem L2
theorem rm200 {k : Nat} {A : Around} (r : Room k A) : A.units + 200 < cLine := by have := r.un; omega
theorem rm1 {k : Nat} {A : Around} (r : Room k A) : A.units + 1 < cLine := by have := r.un; omega
end Ip
namespace Ip
open PySem L2
def cellB (sc : Scope) (y : Str) : Bool := match sc.names.lookup y with
  | some .cell => true
  | _ => false
/-- a comprehension stored in a cell -/
theorem swCell {X : Cx} {N : List Str} {sc : Scope} {fl : Bool} (c : CtxF X N sc fl) {elt : Expr} {gs : List Comprehension} {scope : Scope} {pos py : Pos} {y : Str} {l : Nat} (h : cellB sc y = true) : swapsWith (.ListComp elt gs scope pos) (some (.Name y py)) l X.env = pure false := by
  have k : X.env.kindOf y = some .cell := by
    show X.env.scope.names.lookup y = some .cell
    rw [c.hsc]
    unfold cellB at h
    split at h
    · assumption
    · cases h
  unfold swapsWith
  simp only [k]
  have e : (some NameKind.cell == some NameKind.local) = false := by decide
  rw [e]
  simp
end Ip

set_option Elab.async false
set_option linter.all false
set_option maxRecDepth 100000
set_option maxHeartbeats 4000000
namespace Ip
open PySem L2
open Evl (Ex sz_of fresh_back)
variable {X : Cx} {a b e o : Expr} {pos : Pos} {K : PySem.W.Frag} {H0 Hs Hs' H H' : Hp} {σ : L2.St} {env env' : MEnv}
/-! ### xs.extend(e), e a new list -/
def extB (i : Nat) (f : MEnv → Option (Slot × MEnv)) : MEnv → Option Out := fun env => match env[i]? with
  | some s0 => match s0.mut with
    | some _ => match f env with
      | some (.own ys, e1) => match e1[i]? with
        | some s => match s.mut with
          | some xs => if xs.length + ys.length ≤ 100000 then some (.nx (e1.set i (s.put (xs ++ ys)))) else none
          | none => none
        | none => none
      | _ => none
    | none => none
  | none => none
theorem ss_ext {i : Nat} {x : Str} {px pa p2 : Pos} {f : MEnv → Option (Slot × MEnv)} (hx : PE X (.Name x px) (tVar i)) (h : SE X e f) (hp : plainE e = true) (hline : (pa.endLine == p2.line) = true) :
    SS X (.Expr (.Call (.Attribute (.Name x px) "extend" pa) [e] [] p2) pos) (extB i f) := by
  refine ⟨?_⟩
  intro env σ Hs H o hf I D q
  unfold extB at hf
  split at hf
  · rename_i s0 h0
    split at hf
    · rename_i xs0 m0
      split at hf
      · rename_i ys e1 h1
        split at hf
        · rename_i s hs
          split at hf
          · rename_i xs hm
            split at hf
            · rename_i hz
              cases hf
              obtain ⟨p, vs0, k1, k2, k3, k4⟩ := I.muts i s0 xs0 h0 m0
              have pe := pe_bm (X := X) PySem.F.plainAttrs_list PySem.F.slot_list_extend PySem.F.type_list_extend mt_extend hx (pa_cons (W.pe X e) pa_nil (star_plain hp)) (apos := pa) (cpos := p2) (by rfl) (by rw [star_plain hp]; rfl) hline (star_plain hp) rfl
              refine WS.of (ps_expr pe) ?_
              refine ⟨.ref p, k1, .inl ⟨rfl, vs0, Evl.sq_of k3⟩, ?_⟩
              refine h env σ Hs H _ e1 h1 I _ fun v Hs1 H1 g1 I1 r1 => ?_
              obtain ⟨p2, us, rfl, n1, n2, n3, n4⟩ := r1
              obtain ⟨p', vs, j1, j2, j3, j4⟩ := I1.muts i s xs hs hm
              rw [k1] at j1
              cases j1
              refine ⟨p, p2, vs, us, rfl, rfl, j3, n3, sz_of (by rw [← RepL.length j4, ← RepL.length n4]; exact hz), ?_⟩
              have r2 : RepL X.K Hs1 (xs ++ ys) (vs ++ us) := RepL.app j4 n4
              exact q σ Hs1 _ (g1.trans (GoE.change I1 hs hm k1)).go (I1.change hs hm (Slot.put_mut hm _) k1 r2)
            · cases hf
          · cases hf
        · cases hf
      · cases hf
    · cases hf
  · cases hf
/-! ### a starred list among the items of a display -/
def consS (fe : MEnv → Option (PyData × MEnv)) (fs : MEnv → Option (List PyData × MEnv)) : MEnv → Option (List PyData × MEnv) := fun env => match fe env with
  | some (.list xs, e1) => match fs e1 with
    | some (ds, e2) => some (xs ++ ds, e2)
    | none => none
  | some (.tuple xs, e1) => match fs e1 with
    | some (ds, e2) => some (xs ++ ds, e2)
    | none => none
  | _ => none
theorem sa_star {es : List Expr} {p : Pos} {fe : MEnv → Option (PyData × MEnv)} {fs : MEnv → Option (List PyData × MEnv)} (h : SV X e fe) (hs : SA X es fs) : SA X (.Starred e p :: es) (consS fe fs) := by
  refine ⟨?_⟩
  intro env σ Hs H ds env' hf I Q q
  unfold consS at hf
  split at hf
  · rename_i xs e1 h1
    split at hf
    · rename_i ds2 e2 h2
      cases hf
      refine WA.of (StX.pa_star (W.pe X e) (WA.pa X es)) ?_
      refine h env σ Hs H _ e1 h1 I _ fun v Hs1 H1 g1 I1 r1 => ?_
      obtain ⟨a, us, rfl, k1, k2⟩ := r1
      refine ⟨a, us, rfl, .inr (Evl.ex_l I1.sh k1), ?_⟩
      exact hs e1 σ Hs1 H1 ds2 env' h2 I1 _ fun vs Hs2 H2 g2 I2 r2 => q (us ++ vs) Hs2 H2 (g1.trans g2) I2 (RepL.app (RepL.mono g2.sh _ _ k2) r2)
    · cases hf
  · rename_i xs e1 h1
    split at hf
    · rename_i ds2 e2 h2
      cases hf
      refine WA.of (StX.pa_star (W.pe X e) (WA.pa X es)) ?_
      refine h env σ Hs H _ e1 h1 I _ fun v Hs1 H1 g1 I1 r1 => ?_
      obtain ⟨a, us, rfl, k1, k2⟩ := r1
      refine ⟨a, us, rfl, .inl (Evl.ex_t I1.sh k1), ?_⟩
      exact hs e1 σ Hs1 H1 ds2 env' h2 I1 _ fun vs Hs2 H2 g2 I2 r2 => q (us ++ vs) Hs2 H2 (g1.trans g2) I2 (RepL.app (RepL.mono g2.sh _ _ k2) r2)
    · cases hf
  · cases hf
end Ip

set_option Elab.async false
set_option linter.all false
set_option maxRecDepth 100000
set_option maxHeartbeats 4000000
namespace Ip
open PySem L2
open Evl (Ex sz_of fresh_back)
variable {X : Cx} {a b e o : Expr} {pos : Pos} {K : PySem.W.Frag} {H0 Hs Hs' H H' : Hp} {σ : L2.St} {env env' : MEnv}
/-! ### own defs without arguments -/
theorem pe_go0 {k : Nat} {f : Addr} {fd : FuncData} {ps : List Str} {sp : Sp} {x : Str} {p : Pos} (F : FnG X.prog X.w X.K X.mg X.base k f fd ps sp) (hG : X.A.guards = some []) (hr : Room k X.A) (hg : Gl X x)
    (hm : X.mg x = some (.ref f)) (hk : PySem.W.keepIn X.K (.ref f) = true) (hb : Binds X.K fd ps []) (hd : (x == ("__debug__" : Str)) = false) : PE X (.Call (.Name x p) [] [] pos) (fun σ H Q => sp [] H Q E0) :=
  .mk fun pins s σ H Q I h => wpAny_Call_Name_kw (ld_glob I hg hm (PySem.W.callWith_K0 I.kIn hk (run_go F hG hr hb I .nil h)) hd)
theorem se_go0 {k : Nat} {run : Run} {x : Str} {p : Pos} (o : OwnG X.prog X.w X.K X.mg X.base k x 0 run) (hG : X.A.guards = some []) (hr : Room k X.A) (hg : Gl X x)
    (hd : (x == ("__debug__" : Str)) = false) : SE X (.Call (.Name x p) [] [] pos) (callF 0 run (fun env => some ([], env))) := by
  refine ⟨?_⟩
  intro env σ Hs H r env' hf I Q q
  refine W.of (pe_go0 o.ok hG hr hg o.at_ o.kp o.bi hd) ?_
  unfold callF at hf
  simp only [List.length_nil, if_true, List.map_nil] at hf
  split at hf
  · rename_i r0 args' hr
    cases hf
    refine ⟨[], Hs, r, args', rfl, rfl, hr, ⟨rfl, I.sh, fun i d h => (by cases h), fun i s xs h hm => (by cases h), fun i j s t xs ys p h1 m1 _ _ _ _ => (by cases h1)⟩, fun v Hs' H' g I' rr => ?_⟩
    have nomut : ∀ a, ¬ MutAt [] [] a := fun a ⟨i, s, xs, e1, e2, _⟩ => (by cases e1)
    have noloc : ∀ a, ¬ LocAt [] [] a := fun a m => nomut a m.mut
    have back : ∀ p o, H p = some o → Hs p = none → Hs' p = none := fun p o hp hn => by
      cases z : Hs' p with
      | none => rfl
      | some u =>
        rcases g.nw p u z with z1 | z1 | z1
        · rw [hn] at z1; cases z1
        · rw [hp] at z1; cases z1
        · exact absurd z1 (noloc p)
    have ge : GoE σ env Hs H env Hs' H' := ⟨g.sh, fun a o h _ => g.kp a o h (nomut a), g.dm, fun a o h => (g.nw a o h).elim .inl fun z => z.elim (fun z => .inr (.inl z)) fun z => absurd z (noloc a), fun _ h => h, fun _ h => h, fun _ xs h => ⟨xs, h⟩⟩
    refine q v Hs' H' ge ⟨I.len, I'.sh, fun i d h => ?_, fun i s xs h hm => ?_, I.diff⟩ rr
    · obtain ⟨w, k1, k2⟩ := I.vals i d h
      exact ⟨w, k1, Rep.mono g.sh d w k2⟩
    · obtain ⟨p, us, k1, k2, k3, k4⟩ := I.muts i s xs h hm
      exact ⟨p, us, k1, back p _ k3 k2, g.kp p _ k3 (nomut p), RepL.mono g.sh xs us k4⟩
  · cases hf
/-! ### in, not in of lists of data -/
def inA (neg : Bool) (x : PyData) : PyData → Option Slot
  | .list ds => if SeqAt.shaped x = true ∧ SeqAt.shaped (.list ds) = true then bV (if neg then !ds.any (fun z => PyData.eqv z x) else ds.any fun z => PyData.eqv z x) else none
  | _ => none
theorem ok_inA : R2ok X.K (rInD X.K) (inA false) := by
  intro Hs H σ env x y v u s hs I hx hy Q q
  cases y <;> try (cases hs; done)
  rename_i ds
  unfold inA at hs
  simp only at hs
  split at hs
  · rename_i hc
    cases hs
    exact ⟨x, ds, Rep.dp x v (Top.rep I.sh hx) (nd_shaped hc.1), Rep.dp _ u (Top.rep I.sh hy) (nd_shaped hc.2), hc.1, hc.2, ok_val I rfl (show Rep X.K Hs (.bool _) (.bl _) from rfl) q⟩
  · cases hs
theorem ok_ninA : R2ok X.K (rNotInD X.K) (inA true) := by
  intro Hs H σ env x y v u s hs I hx hy Q q
  cases y <;> try (cases hs; done)
  rename_i ds
  unfold inA at hs
  simp only at hs
  split at hs
  · rename_i hc
    cases hs
    exact ⟨x, ds, Rep.dp x v (Top.rep I.sh hx) (nd_shaped hc.1), Rep.dp _ u (Top.rep I.sh hy) (nd_shaped hc.2), hc.1, hc.2, ok_val I rfl (show Rep X.K Hs (.bool _) (.bl _) from rfl) q⟩
  · cases hs
/-! ### reversed, enumerate, zip -/
theorem walk_rvL {a : Addr} {ds : List PyData} {vs : List V} (h : SqL K Hs a vs) (r : RepL K Hs ds vs) : WalkD K (Itv K a vs.length) Hs ds.reverse := by
  unfold WalkD
  rw [List.length_reverse, RepL.length r]
  refine Walk.mono (walk_rev (K := K) (a := a) (xs := vs)) (fun H ⟨Hx, h1, h2⟩ => Evl.ex_l (h1.trans h2) h) fun i H x H' hi hg y => ?_
  obtain ⟨rfl, e⟩ := y
  have hl := RepL.length r
  have hi' : vs.length - 1 - i < ds.length := by omega
  obtain ⟨w, h1, h2⟩ := RepL.get r (List.getElem?_eq_getElem hi')
  rw [e] at h1
  cases h1
  refine ⟨ds[vs.length - 1 - i], ?_, fun Hx h3 h4 σ env I => ⟨Hx, GoE.refl, I, Rep.mono h3 _ _ h2⟩⟩
  rw [List.getElem?_reverse (by omega), List.getElem?_eq_some_iff]
  exact ⟨by omega, by simp only [hl]⟩
theorem walk_rvT {a : Addr} {ds : List PyData} {vs : List V} (h : SqT K Hs a vs) (r : RepL K Hs ds vs) : WalkD K (RT.ItvT K a vs.length) Hs ds.reverse := by
  have w : Walk (RT.ItvT K a vs.length) vs.length (fun H => SqT K H a vs) (fun i H x H' => H' = H ∧ vs[vs.length - 1 - i]? = some x) :=
    ⟨fun i _ hi q => ⟨hi, vs, vs[vs.length - 1 - i]'(by omega), q, by simp [show vs.length - 1 - i < vs.length by omega]⟩, fun _ _ => Nat.le_refl _, fun _ _ _ _ _ q y => ⟨y.1, y.2 vs q⟩⟩
  unfold WalkD
  rw [List.length_reverse, RepL.length r]
  refine Walk.mono w (fun H ⟨Hx, h1, h2⟩ => Evl.ex_t (h1.trans h2) h) fun i H x H' hi hg y => ?_
  obtain ⟨rfl, e⟩ := y
  have hl := RepL.length r
  have hi' : vs.length - 1 - i < ds.length := by omega
  obtain ⟨w, h1, h2⟩ := RepL.get r (List.getElem?_eq_getElem hi')
  rw [e] at h1
  cases h1
  refine ⟨ds[vs.length - 1 - i], ?_, fun Hx h3 h4 σ env I => ⟨Hx, GoE.refl, I, Rep.mono h3 _ _ h2⟩⟩
  rw [List.getElem?_reverse (by omega), List.getElem?_eq_some_iff]
  exact ⟨by omega, by simp only [hl]⟩
def revI (f : MEnv → Option (PyData × MEnv)) : MEnv → Option (List PyData × MEnv) := fun env => match f env with
  | some (.list xs, e1) => some (xs.reverse, e1)
  | some (.tuple xs, e1) => some (xs.reverse, e1)
  | _ => none
theorem si_rev {tg : Expr} {p : Pos} {f : MEnv → Option (PyData × MEnv)} (hg : Gl X "reversed") (hm : X.mg "reversed" = none) (h : SV X e f) (hs : plainE e = true) : SI X tg (.Call (.Name "reversed" p) [e] [] pos) (revI f) := by
  refine ⟨?_⟩
  intro env σ Hs H ds env' hf I R q
  unfold revI at hf
  split at hf
  · rename_i xs e1 h1
    cases hf
    refine WI.of (RT.pi_revA hg hm (W.pe X e) (star_plain hs)) ?_
    refine h env σ Hs H _ env' h1 I _ fun v Hs1 H1 g1 I1 r1 => ?_
    obtain ⟨a, vs, rfl, k1, k2⟩ := r1
    exact ⟨a, vs, rfl, .inl ⟨Evl.ex_l I1.sh k1, q _ Hs1 H1 g1 I1 (walk_rvL k1 k2)⟩⟩
  · rename_i xs e1 h1
    cases hf
    refine WI.of (RT.pi_revA hg hm (W.pe X e) (star_plain hs)) ?_
    refine h env σ Hs H _ env' h1 I _ fun v Hs1 H1 g1 I1 r1 => ?_
    obtain ⟨a, vs, rfl, k1, k2⟩ := r1
    exact ⟨a, vs, rfl, .inr ⟨Evl.ex_t I1.sh k1, q _ Hs1 H1 g1 I1 (walk_rvT k1 k2)⟩⟩
  · cases hf
/-- new pairs -/
theorem pair_new {T : Addr} {x y : V} {c d : PyData} (hT : H T = none) (rc : Rep K Hs c x) (rd : Rep K Hs d y) (I : InvS K Hs H σ env) :
    GoE σ env Hs H env (upd Hs T (.tup [x, y])) (upd H T (.tup [x, y])) ∧ InvS K (upd Hs T (.tup [x, y])) (upd H T (.tup [x, y])) σ env ∧ Rep K (upd Hs T (.tup [x, y])) (.tuple [c, d]) (.ref T) := by
  have ex : Ex Hs (upd Hs T (.tup [x, y])) := Ex.new (fresh_back I.sh hT)
  exact ⟨GoE.share I hT _, I.share hT _, T, [x, y], rfl, .inl (.inl upd_same), x, [y], rfl, Rep.mono ex c x rc, y, [], rfl, Rep.mono ex d y rd, rfl⟩
def enumL : Nat → List PyData → List PyData
  | _, [] => []
  | i, d :: ds => .tuple [.int (i : Int), d] :: enumL (i + 1) ds
theorem enumL_len : ∀ (ds : List PyData) (i : Nat), (enumL i ds).length = ds.length
  | [], _ => rfl
  | d :: ds, i => congrArg (· + 1) (enumL_len ds (i + 1))
theorem enumL_get : ∀ (ds : List PyData) (j i : Nat) (d : PyData), ds[i]? = some d → (enumL j ds)[i]? = some (.tuple [.int ((j + i : Nat) : Int), d])
  | [], _, _, _, h => by simp at h
  | c :: ds, j, 0, d, h => by cases h; rfl
  | c :: ds, j, i + 1, d, h => by
    have := enumL_get ds (j + 1) i d h
    rw [show j + (i + 1) = j + 1 + i by omega]
    exact this
theorem walk_en {a : Addr} {ds : List PyData} {vs : List V} (h : SqL K Hs a vs) (r : RepL K Hs ds vs) : WalkD K (Ite K a) Hs (enumL 0 ds) := by
  unfold WalkD
  rw [enumL_len, RepL.length r]
  refine Walk.mono (walk_enum (K := K) (a := a) (xs := vs)) (fun H ⟨Hx, h1, h2⟩ => Evl.ex_l (h1.trans h2) h) fun i H v H' hi hg y => ?_
  obtain ⟨T, x, z, rfl, hT, rfl, e1, e2⟩ := y
  cases e1
  have hi' : i < ds.length := by rw [RepL.length r]; exact hi
  obtain ⟨w, h1, h2⟩ := RepL.get r (List.getElem?_eq_getElem hi')
  have e2 : vs[i]? = some z := e2
  rw [e2] at h1
  cases h1
  refine ⟨.tuple [.int ((0 + i : Nat) : Int), ds[i]], enumL_get ds 0 i _ (List.getElem?_eq_getElem hi'), fun Hx h3 h4 σ env I => ?_⟩
  have hh := pair_new (c := .int ((0 + i : Nat) : Int)) (x := .int (i : Nat)) hT (show V.int (i : Nat) = V.int _ by rw [Nat.zero_add]) (Rep.mono h3 _ _ h2) I
  exact ⟨_, hh⟩
def enumI (f : MEnv → Option (PyData × MEnv)) : MEnv → Option (List PyData × MEnv) := fun env => match f env with
  | some (.list xs, e1) => some (enumL 0 xs, e1)
  | _ => none
theorem si_enum {elts : List Expr} {kk : Nat} {tpos p : Pos} {f : MEnv → Option (PyData × MEnv)} (hg : Gl X "enumerate") (hm : X.mg "enumerate" = none) (h : SV X e f) (hs : plainE e = true) : SI X (.Tuple elts kk tpos) (.Call (.Name "enumerate" p) [e] [] pos) (enumI f) := by
  refine ⟨?_⟩
  intro env σ Hs H ds env' hf I R q
  unfold enumI at hf
  split at hf
  · rename_i xs e1 h1
    cases hf
    refine WI.of (pi_enum hg hm (pa_cons (W.pe X e) pa_nil (star_plain hs)) (star_plain hs)) ?_
    refine h env σ Hs H _ env' h1 I _ fun v Hs1 H1 g1 I1 r1 => ?_
    obtain ⟨a, vs, rfl, k1, k2⟩ := r1
    exact ⟨a, vs, rfl, Evl.ex_l I1.sh k1, q _ Hs1 H1 g1 I1 (walk_en k1 k2)⟩
  · cases hf
def zipL : List PyData → List PyData → List PyData
  | c :: cs, d :: ds => .tuple [c, d] :: zipL cs ds
  | _, _ => []
theorem zipL_len : ∀ (cs ds : List PyData), (zipL cs ds).length = min cs.length ds.length
  | [], _ => by simp [zipL]
  | _ :: _, [] => by simp [zipL]
  | c :: cs, d :: ds => by simp [zipL, zipL_len cs ds, Nat.succ_min_succ]
theorem zipL_get : ∀ (cs ds : List PyData) (i : Nat) (c d : PyData), cs[i]? = some c → ds[i]? = some d → (zipL cs ds)[i]? = some (.tuple [c, d])
  | [], _, _, _, _, h, _ => by simp at h
  | _ :: _, [], _, _, _, _, h => by simp at h
  | c :: cs, d :: ds, 0, _, _, h1, h2 => by cases h1; cases h2; rfl
  | c :: cs, d :: ds, i + 1, x, y, h1, h2 => zipL_get cs ds i x y h1 h2
theorem walk_zp {a b : Addr} {cs ds : List PyData} {xs ys : List V} (ha : SqL K Hs a xs) (hb : SqL K Hs b ys) (ra : RepL K Hs cs xs) (rb : RepL K Hs ds ys) : WalkD K (Itz K a b) Hs (zipL cs ds) := by
  unfold WalkD
  rw [zipL_len, RepL.length ra, RepL.length rb]
  refine Walk.mono (walk_zip (K := K) (a := a) (b := b) (xs := xs) (ys := ys) rfl) (fun H ⟨Hx, h1, h2⟩ => ⟨Evl.ex_l (h1.trans h2) ha, Evl.ex_l (h1.trans h2) hb⟩) fun i H v H' hi hg y => ?_
  obtain ⟨T, x, z, rfl, hT, rfl, e1, e2⟩ := y
  have la := RepL.length ra
  have lb := RepL.length rb
  have i1 : i < cs.length := by omega
  have i2 : i < ds.length := by omega
  obtain ⟨w, h1, h2⟩ := RepL.get ra (List.getElem?_eq_getElem i1)
  obtain ⟨w', h1', h2'⟩ := RepL.get rb (List.getElem?_eq_getElem i2)
  have e1 : xs[i]? = some x := e1
  have e2 : ys[i]? = some z := e2
  rw [e1] at h1
  rw [e2] at h1'
  cases h1
  cases h1'
  exact ⟨.tuple [cs[i], ds[i]], zipL_get cs ds i _ _ (List.getElem?_eq_getElem i1) (List.getElem?_eq_getElem i2), fun Hx h3 h4 σ env I => ⟨_, pair_new hT (Rep.mono h3 _ _ h2) (Rep.mono h3 _ _ h2') I⟩⟩
def zipI (f : MEnv → Option (List PyData × MEnv)) : MEnv → Option (List PyData × MEnv) := fun env => match f env with
  | some ([.list xs, .list ys], e1) => some (zipL xs ys, e1)
  | _ => none
theorem si_zip {elts : List Expr} {kk : Nat} {tpos p : Pos} {f : MEnv → Option (List PyData × MEnv)} (hg : Gl X "zip") (hm : X.mg "zip" = none) (h : SA X [a, b] f) (hp : plainE a = true) (hp2 : plainE b = true) : SI X (.Tuple elts kk tpos) (.Call (.Name "zip" p) [a, b] [] pos) (zipI f) := by
  refine ⟨?_⟩
  intro env σ Hs H ds env' hf I R q
  unfold zipI at hf
  split at hf
  · rename_i xs ys e1 h1
    cases hf
    refine WI.of (RZ.pi_zipA hg hm (WA.pa X [a, b]) (by rw [star_plain hp]) (star_any (by simp [hp2]))) ?_
    refine h env σ Hs H _ env' h1 I _ fun vs Hs1 H1 g1 I1 r1 => ?_
    obtain ⟨v, r, rfl, ⟨p1, us, rfl, k1, k2⟩, w, r', rfl, ⟨p2, ws, rfl, k3, k4⟩, r0⟩ := r1
    cases (show r' = [] from r0)
    exact ⟨p1, p2, us, ws, rfl, .inl ⟨Evl.ex_l I1.sh k1, Evl.ex_l I1.sh k3, q _ Hs1 H1 g1 I1 (walk_zp k1 k3 k2 k4)⟩⟩
  · cases hf
/-! ### a, b = x, y -/
section
variable {N : List Str} {sc : Scope} {fl : Bool}
def starB : Expr → Bool
  | .Starred .. => true
  | _ => false
def funB (sc : Scope) : Bool := (if sc.kind.isAnnotationScope then ScopeKind.function else sc.kind) == .function
def parSc (sc : Scope) (x y : Str) : Bool := (sc.names.lookup x == some .local) && ((sc.names.lookup y == some .local) && (funB sc && !(x == y)))
theorem sw2 (c : CtxF X N sc fl) {x y : Str} {px py pt pt2 : Pos} {kt k2} (h : parSc sc x y = true) (hl : (py.line == px.line) = true) (ha : starB a = false) (hb : starB b = false)
    (hf : [a, b].all (foldedForSure 8) = false) (hk : [a, b].all (constantsAlone 8) = false) :
    swappedStores [.Tuple [.Name x px, .Name y py] kt pt] (.Tuple [a, b] k2 pt2) X.env = pure (some [x, y]) := by
  unfold parSc at h
  simp only [Bool.and_eq_true, Bool.not_eq_true'] at h
  obtain ⟨h1, h2, h3, h4⟩ := h
  have k1 : (X.env.kindOf x == some .local) = true := by unfold Env.kindOf; rw [c.hsc]; exact h1
  have k2' : (X.env.kindOf y == some .local) = true := by unfold Env.kindOf; rw [c.hsc]; exact h2
  have k3 : (X.env.blockKind == .function) = true := by unfold Env.blockKind; rw [c.hsc]; exact h3
  have k3' : (X.env.blockKind != .function) = false := by simp only [bne, k3]; rfl
  unfold swappedStores
  have e1 : ([a, b].any fun | .Starred .. => true | _ => false) = false := by
    simp only [List.any_cons, List.any_nil, Bool.or_false]
    have g : ∀ e, starB e = false → (match e with | .Starred .. => true | _ => false) = false := by
      intro e he; cases e <;> first | rfl | cases he
    rw [g a ha, g b hb]; rfl
  have e2 : (y == x) = false := by
    rw [Bool.eq_false_iff] at h4 ⊢
    intro z; apply h4; rw [eq_of_beq z]; exact beq_self_eq_true _
  simp only [List.length_cons, List.length_nil, k3']
  rw [if_neg (by decide)]
  refine Eq.trans (if_neg ?_) ?_
  · intro z
    have z' : ([a, b].any fun | .Starred .. => true | _ => false) = true := z
    rw [e1] at z'
    cases z'
  have fm : (List.filterMap (fun x_1 : Expr => match x_1 with
      | Expr.Name id pos => if (X.env.kindOf id == some NameKind.local && pos.line == (Option.map (fun x : Expr => x.pos.line) [Expr.Name x px, Expr.Name y py].head?).getD 0) = true then some id else none
      | x => none) [Expr.Name x px, Expr.Name y py]) = [x, y] := by
    simp [List.filterMap_cons, k1, k2', Expr.pos, hl]
    rw [eq_of_beq k1, eq_of_beq k2', eq_of_beq hl]
    simp
  have ed : [x, y].eraseDups = [x, y] := by
    simp [List.eraseDups_cons, e2]
  generalize hF : (List.filterMap _ [Expr.Name x px, Expr.Name y py]) = F
  have hF2 : F = [x, y] := hF.symm.trans fm
  subst hF2
  rw [ed, hf, hk]
  rfl
def parB (i j : Nat) (fs : MEnv → Option (List PyData × MEnv)) : MEnv → Option Out := fun env => match fs env with
  | some ([c, d], e1) => match setS i (.val c) e1 with
    | some e2 => match setS j (.val d) e2 with
      | some e3 => some (.nx e3)
      | none => none
    | none => none
  | _ => none
theorem ss_par (c : CtxF X N sc fl) (i j : Nat) {x y : Str} {px py pt pt2 : Pos} {kt k2} {f : MEnv → Option (List PyData × MEnv)} (h : SA X [a, b] f) (hN : (decide (N[i]? = some x) && decide (N[j]? = some y) && parSc sc x y) = true) (hl : (py.line == px.line) = true) (ha : starB a = false) (hb : starB b = false)
    (hf : [a, b].all (foldedForSure 8) = false) (hk : [a, b].all (constantsAlone 8) = false)
    (hs : swapsWithSole [.Tuple [.Name x px, .Name y py] kt pt] (.Tuple [a, b] k2 pt2) pos.line X.env = pure false) :
    SS X (.Assign [.Tuple [.Name x px, .Name y py] kt pt] (.Tuple [a, b] k2 pt2) pos) (parB i j f) := by
  refine ⟨?_⟩
  intro env σ Hs H o hf' I D q
  simp only [Bool.and_eq_true, decide_eq_true_eq] at hN
  obtain ⟨⟨n1, n2⟩, hp⟩ := hN
  have hw := sw2 (pt := pt) (pt2 := pt2) (kt := kt) (k2 := k2) c hp hl ha hb hf hk
  have hp' := hp
  unfold parSc at hp'
  simp only [Bool.and_eq_true, Bool.not_eq_true'] at hp'
  obtain ⟨h1, h2, _, h4⟩ := hp'
  have hij : i ≠ j := fun z => by
    rw [z] at n1
    rw [n1] at n2
    cases n2
    rw [beq_self_eq_true] at h4
    cases h4
  unfold parB at hf'
  split at hf'
  · rename_i cc dd e1 k1
    split at hf'
    · rename_i e2 k2'
      split at hf'
      · rename_i e3 k3
        cases hf'
        obtain ⟨rfl, hi, hn⟩ := setS_some k2'
        obtain ⟨rfl, hj, hm⟩ := setS_some k3
        refine WS.of (ps_par c.calm (by rw [c.hN]; exact c.nd) (by rw [c.hN]; exact n1) (by rw [c.hN]; exact n2) hij (by rw [c.hsc]; exact eq_of_beq h1) (by rw [c.hsc]; exact eq_of_beq h2) (WA.pa X [a, b]) hw hs) ?_
        refine h env σ Hs H _ e1 k1 I _ fun vs Hs1 H1 g1 I1 r1 => ?_
        obtain ⟨v, r, rfl, r2, w, r', rfl, r3, r0⟩ := r1
        cases (show r' = [] from r0)
        have I2 := I1.setV hi r2
        exact ⟨v, w, rfl, q _ Hs1 H1 ((g1.go.trans (Go.setV hn)).trans (Go.setV hm)) (I2.setV hj r3)⟩
      · cases hf'
    · cases hf'
  · cases hf'
end
/-! ### xs[i] op= e -/
theorem get_listN : PGet X (fun x y H Q => ∃ (p : Addr) (xs : List V) (i : Int) (v : V), x = .ref p ∧ y = .int i ∧ SqL X.K H p xs ∧ 0 ≤ i ∧ xs[i.toNat]? = some v ∧ Q v H) := by
  intro pins s σ H o i ov iv Q I ro ri h
  obtain ⟨p, xs, k, v, rfl, rfl, hq, h0, he, q⟩ := h
  cases ro
  obtain ⟨t, rfl⟩ := ri
  obtain ⟨its, r, pl, hz⟩ := I.list hq
  obtain ⟨w, ew, rw'⟩ := r.get he
  have hl := r.length
  have hn := line63
  have hlt : k.toNat < xs.length := (List.getElem?_eq_some_iff.mp he).1
  exact wpAny_getItem_list pl.isList h0 (by omega) (by simpa using ew) ⟨v, H, I, rw', q⟩
def augSB (i : Nat) (fj f : MEnv → Option (Lr × MEnv)) (g : Int → Int → Int) : MEnv → Option Out := fun env => match env[i]? with
  | some s0 => match s0.mut with
    | some _ => match fj env with
      | some (rj, e1) => match look rj e1, e1[i]? with
        | some (.int j), some s1 => match s1.mut with
          | some xs1 => match xs1[j.toNat]? with
            | some (.int a0) => match f e1 with
              | some (r, e2) => match look r e2, e2[i]? with
                | some (.int b0), some s => match s.mut with
                  | some xs => if 0 ≤ j ∧ j.toNat < xs.length then some (.nx (e2.set i (s.put (xs.set j.toNat (.int (g a0 b0)))))) else none
                  | none => none
                | _, _ => none
              | none => none
            | _ => none
          | none => none
        | _, _ => none
      | none => none
    | none => none
  | none => none
theorem ss_augS {i : Nat} {x : Str} {px p2 : Pos} {j : Expr} {op : Operator} {g : Int → Int → Int} {f fj : MEnv → Option (Lr × MEnv)} (hx : PE X (.Name x px) (tVar i)) (hj : SL X j fj) (h : SL X e f) (ho : PIp X op (ipI g))
    (ha : ∀ ov iv new, augStore j ov iv new = (do holding [new, ov, iv] (setItem ov iv new); release [new, ov, iv] []; pure .next)) : SS X (.AugAssign (.Subscript (.Name x px) j p2) op e pos) (augSB i fj f g) := by
  refine ⟨?_⟩
  intro env σ Hs H o hf I D q
  unfold augSB at hf
  split at hf
  · rename_i s0 h0
    split at hf
    · rename_i xs0 m0
      split at hf
      · rename_i rj e1 k1
        split at hf
        · rename_i jj s1 hjj hs1
          split at hf
          · rename_i xs1 m1
            split at hf
            · rename_i a0 ha0
              split at hf
              · rename_i r e2 k2
                split at hf
                · rename_i b0 s hb0 hs2
                  split at hf
                  · rename_i xs m2
                    split at hf
                    · rename_i hc
                      cases hf
                      refine WS.of (ps_augS hx (W.pe X j) get_listN (W.pe X e) ho set_list ha) ?_
                      obtain ⟨p, vs0, q1, q2, q3, q4⟩ := I.muts i s0 xs0 h0 m0
                      refine ⟨.ref p, q1, ?_⟩
                      refine hj env σ Hs H rj e1 k1 I _ fun u Hs1 H1 g1 I1 r1 => ?_
                      have hu := rep_int (RepLr.top I1 r1 hjj)
                      obtain ⟨p', vs1, j1, j2, j3, j4⟩ := I1.muts i s1 xs1 hs1 m1
                      rw [q1] at j1
                      cases j1
                      obtain ⟨va, w1, w2⟩ := RepL.get j4 ha0
                      cases (show va = .int a0 from w2)
                      refine ⟨p, vs1, jj, .int a0, rfl, hu, .inl (.inl j3), hc.1, w1, ?_⟩
                      refine h e1 σ Hs1 H1 r e2 k2 I1 _ fun u2 Hs2 H2 g2 I2 r2 => ?_
                      have hu2 := rep_int (RepLr.top I2 r2 hb0)
                      refine ⟨a0, b0, rfl, hu2, ?_⟩
                      obtain ⟨p', vs, t1, t2, t3, t4⟩ := I2.muts i s xs hs2 m2
                      rw [q1] at t1
                      cases t1
                      have hix : ixN vs.length jj = some jj.toNat := by
                        unfold ixN
                        have := RepL.length t4
                        rw [if_pos hc.1, if_pos (by omega)]
                      refine ⟨p, vs, jj, jj.toNat, rfl, hu, t3, hix, ?_⟩
                      have r3 : RepL X.K Hs2 (xs.set jj.toNat (.int (g a0 b0))) (vs.set jj.toNat (.int (g a0 b0))) := RepL.set (show Rep X.K Hs2 (.int (g a0 b0)) (.int (g a0 b0)) from rfl) jj.toNat t4
                      exact q σ Hs2 _ ((g1.trans g2).trans (GoE.change I2 hs2 m2 q1)).go (I2.change hs2 m2 (Slot.put_mut m2 _) q1 r3)
                    · cases hf
                  · cases hf
                · cases hf
              · cases hf
            · cases hf
          · cases hf
        · cases hf
      · cases hf
    · cases hf
  · cases hf
end Ip

set_option Elab.async false
set_option linter.all false
set_option maxRecDepth 100000
set_option maxHeartbeats 4000000
namespace Ip
open PySem L2
open Evl (Ex sz_of fresh_back)
variable {X : Cx} {a b e : Expr} {pos : Pos} {K : PySem.W.Frag} {Hs Hs' H H' : Hp} {σ : L2.St} {env env' : MEnv}

/-! ### a dict of the module: D[e] -/
def kdD (kvs : List (Str × PyData)) : PyData → Option Slot
  | .str x => (kvs.lookup x).map .val
  | _ => none
def KdOk (K : PySem.W.Frag) (w : World) (p : Addr) (kvs : List (Str × PyData)) : Prop := ∀ x d, kvs.lookup x = some d → ∃ v, KDct K w p x v ∧ ∀ Hs, Rep K Hs d v
theorem se_kdict {n : Str} {p1 : Pos} {p : Addr} {kvs : List (Str × PyData)} {fe : MEnv → Option (Lr × MEnv)} (hg : Gl X n) (hm : X.mg n = some (.ref p)) (kd : KdOk X.K X.w p kvs) (he : SL X e fe) (hp : PlainIx e) (hd : (n == ("__debug__" : Str)) = false) :
    SE X (.Subscript (.Name n p1) e pos) (op1 fe (kdD kvs)) := by
  refine ⟨?_⟩
  intro env σ Hs H r env' hf I Q q
  unfold op1 at hf
  split at hf
  · rename_i ra e1 h1
    split at hf
    · rename_i x hx
      split at hf
      · rename_i s hs
        cases hf
        cases x <;> try (cases hs; done)
        rename_i z
        have hs : (kvs.lookup z).map Slot.val = some r := hs
        cases hl : kvs.lookup z with
        | none => rw [hl] at hs; cases hs
        | some d =>
          rw [hl] at hs
          cases hs
          obtain ⟨v, k1, k2⟩ := kd z d hl
          refine W.of (pe_ix ix_kdict (pe_glob (v := .ref p) hg hm rfl hd) (W.pe X e) hp) ?_
          refine he env σ Hs H ra env' h1 I _ fun u Hs1 H1 g1 I1 r1 => ?_
          have hu : u = .str z := RepLr.top I1 r1 hx
          exact ⟨p, z, v, rfl, hu, k1, q v Hs1 H1 g1 I1 (k2 Hs1)⟩
      · cases hf
    · cases hf
  · cases hf

inductive KdL (K : PySem.W.Frag) (a : Addr) : List (Str × PyData) → Prop
  | nil : KdL K a []
  | cons {k : Str} {d : PyData} {u : Value} {v : V} {r : List (Str × PyData)} (x : PySem.W.nsIn K a k = some (some u)) (rv : RelV v u) (rep : ∀ Hs, Rep K Hs d v) (t : KdL K a r) : KdL K a ((k, d) :: r)
theorem KdOk.of {w : World} {a : Addr} {es : Array DictEntry} {n : Nat} {kvs : List (Str × PyData)} (hl : K.lookup a = some ⟨.type "dict", none, .dict es n, #[]⟩) (hk : PySem.W.KeysLit w.params es.toList) (h : KdL K a kvs) : KdOk K w a kvs := by
  induction h with
  | nil => intro x d e; cases e
  | @cons k d0 u v r x rv rep t ih =>
    intro y d e
    rw [List.lookup_cons] at e
    by_cases hy : y = k
    · subst hy
      rw [beq_self_eq_true] at e
      cases e
      exact ⟨v, ⟨es, n, u, hl, hk, x, rv⟩, rep⟩
    · rw [beq_eq_false_iff_ne.mpr hy] at e
      exact ih y d e
theorem krep_tup {b : Addr} {od : Option Addr} {its : Array Value} {n : Nat} {sl : Array (Option Value)} {vs : List V} {ds : List PyData} (hl : K.lookup b = some ⟨.type "tuple", od, .seq its n, sl⟩) (hz : its.size ≤ sizeLine) (hv : Vals vs its.toList) (h : ∀ Hs, RepL K Hs ds vs) : ∀ Hs, Rep K Hs (.tuple ds) (.ref b) :=
  fun Hs => ⟨b, vs, rfl, .inr ⟨_, its, n, hl, rfl, rfl, hz, hv⟩, h Hs⟩

/-! ### a display of a dict whose values are expressions, and one of its values -/
inductive SPr (X : Cx) (p2 : Pos) : List (Option Expr) → List Expr → List (TE × TE) → List (Key × (MEnv → Option (PyData × MEnv))) → Prop
  | nil : SPr X p2 [] [] [] []
  | cons {k v : Expr} {ks : List (Option Expr)} {vs : List Expr} {trs : List (TE × TE)} {kfs : List (Key × (MEnv → Option (PyData × MEnv)))} {key : Key} {f : MEnv → Option (PyData × MEnv)} (hk : PE X k (tC (kV key))) (hv : SV X v f) (r : SPr X p2 ks vs trs kfs) :
      SPr X p2 (some k :: ks) (v :: vs) ((tC (kV key), W X v) :: trs) ((key, f) :: kfs)
theorem SPr.pps {p2 : Pos} {ks : List (Option Expr)} {vs : List Expr} {trs : List (TE × TE)} {kfs : List (Key × (MEnv → Option (PyData × MEnv)))} (h : SPr X p2 ks vs trs kfs) : PPs X p2 ks vs trs := by
  induction h with
  | nil => exact pps_nil
  | cons hk hv r ih => exact pps_cons hk (W.pe X _) ih
def pairsF : List (Key × (MEnv → Option (PyData × MEnv))) → MEnv → Option (List (Key × PyData) × MEnv)
  | [], env => some ([], env)
  | (k, f) :: r, env => match f env with
    | some (d, e1) => match pairsF r e1 with
      | some (kds, e2) => some ((k, d) :: kds, e2)
      | none => none
    | none => none
/-- the same keys, values that stand for the data -/
inductive RepK (K : PySem.W.Frag) (H : Hp) : List (Key × PyData) → List (Key × V) → Prop
  | nil : RepK K H [] []
  | cons {k : Key} {d : PyData} {v : V} {kds : List (Key × PyData)} {kvs : List (Key × V)} (h : Rep K H d v) (r : RepK K H kds kvs) : RepK K H ((k, d) :: kds) ((k, v) :: kvs)
theorem RepK.find {K : PySem.W.Frag} {H : Hp} {kds : List (Key × PyData)} {kvs : List (Key × V)} (h : RepK K H kds kvs) (k : Key) {kd : Key × PyData} (hk : (kds.find? fun kv => decide (kv.1 = k)) = some kd) : ∃ v, valV kvs k = some v ∧ Rep K H kd.2 v := by
  induction h with
  | nil => cases hk
  | @cons k0 d v kds kvs h r ih =>
    by_cases e : k0 = k
    · rw [List.find?_cons] at hk
      simp only [e, decide_true] at hk
      cases hk
      exact ⟨v, valV_pos e, h⟩
    · rw [List.find?_cons] at hk
      simp only [e, decide_false] at hk
      obtain ⟨u, h1, h2⟩ := ih hk
      exact ⟨u, by rw [valV_neg e]; exact h1, h2⟩
theorem RepK.keys {K : PySem.W.Frag} {H : Hp} {kds : List (Key × PyData)} {kvs : List (Key × V)} (h : RepK K H kds kvs) : kvs.map (·.1) = kds.map (·.1) := by
  induction h with
  | nil => rfl
  | cons h r ih => rw [List.map_cons, List.map_cons, ih]
theorem valV_notin {k : Key} : ∀ {kvs : List (Key × V)}, k ∉ kvs.map (·.1) → valV kvs k = none
  | [], _ => rfl
  | p :: r, h => by
    rw [List.map_cons, List.mem_cons] at h
    rw [valV_neg fun e => h (.inl e.symm)]
    exact valV_notin fun m => h (.inr m)
theorem mergeK_app : ∀ (more kvs : List (Key × V)), (more.map (·.1)).Nodup → (∀ k ∈ more.map (·.1), k ∉ kvs.map (·.1)) → mergeK kvs more = kvs ++ more
  | [], kvs, _, _ => by unfold mergeK; simp
  | p :: r, kvs, hn, hd => by
    rw [List.map_cons, List.nodup_cons] at hn
    have h1 : putK kvs p.1 p.2 = kvs ++ [p] := putK_new p.2 (valV_notin (hd p.1 (by simp)))
    show mergeK (putK kvs p.1 p.2) r = _
    rw [h1, mergeK_app r _ hn.2]
    · simp
    · intro k hk m
      rw [List.map_append, List.mem_append] at m
      rcases m with m | m
      · exact hd k (by rw [List.map_cons]; exact List.mem_cons_of_mem _ hk) m
      · have e : k = p.1 := by simpa using m
        exact hn.1 (e ▸ hk)
theorem RepK.mono {K : PySem.W.Frag} {H H' : Hp} (e : Ex H H') {kds : List (Key × PyData)} {kvs : List (Key × V)} (h : RepK K H kds kvs) : RepK K H' kds kvs := by
  induction h with
  | nil => exact .nil
  | cons h r ih => exact .cons (Rep.mono e _ _ h) ih
theorem SPr.run {p2 : Pos} {ks : List (Option Expr)} {vs : List Expr} {trs : List (TE × TE)} {kfs : List (Key × (MEnv → Option (PyData × MEnv)))} (h : SPr X p2 ks vs trs kfs) :
    ∀ (env : MEnv) (σ : L2.St) (Hs H : Hp) (kds : List (Key × PyData)) (env' : MEnv), pairsF kfs env = some (kds, env') → InvS X.K Hs H σ env → ∀ Q : List (V × V) → Hp → Prop,
      (∀ kvs Hs' H', GoE σ env Hs H env' Hs' H' → InvS X.K Hs' H' σ env' → RepK X.K Hs' kds kvs → Q (kvs.map fun kv => (kV kv.1, kv.2)) H') → tPairs trs σ H Q := by
  induction h with
  | nil =>
    intro env σ Hs H kds env' hf I Q q
    cases hf
    exact q [] Hs H GoE.refl I .nil
  | @cons k v ks vs trs kfs key f hk hv r ih =>
    intro env σ Hs H kds env' hf I Q q
    unfold pairsF at hf
    split at hf
    · rename_i d e1 h1
      split at hf
      · rename_i kds1 e2 h2
        cases hf
        show W X v σ H _
        refine hv env σ Hs H d e1 h1 I _ fun u Hs1 H1 g1 I1 r1 => ?_
        refine ih e1 σ Hs1 H1 kds1 env' h2 I1 _ fun kvs Hs2 H2 g2 I2 r2 => ?_
        exact q ((key, u) :: kvs) Hs2 H2 (g1.trans g2) I2 (.cons (Rep.mono g2.sh d u r1) r2)
      · cases hf
    · cases hf
/-- an object that is neither shared nor a slot's may be another one -/
theorem _root_.Ip.InvS.over (I : InvS K Hs H σ env) {p : Addr} {o : HO} (hp : Hs p = none) (hm : ¬ MutAt σ env p) : InvS K Hs (upd H p o) σ env where
  len := I.len
  sh := fun a u h => by
    have ne : a ≠ p := fun e => by subst e; rw [hp] at h; cases h
    rw [upd_ne ne]
    exact I.sh a u h
  vals := I.vals
  muts := fun i s xs h hmm => by
    obtain ⟨q, vs, h1, h2, h3, h4⟩ := I.muts i s xs h hmm
    have ne : q ≠ p := fun e => hm (e ▸ ⟨i, s, xs, h, hmm, h1⟩)
    exact ⟨q, vs, h1, h2, by rw [upd_ne ne]; exact h3, h4⟩
  diff := I.diff
theorem _root_.Ip.GoE.over {p : Addr} {o o' : HO} (g : GoE σ env Hs (upd H p o) env' Hs' H') (hp : H p = none) : GoE σ env Hs H env' Hs' (upd H' p o') where
  sh := g.sh
  kp := fun a u h n => by
    have ne : a ≠ p := fun e => by subst e; rw [hp] at h; cases h
    rw [upd_ne ne]
    exact g.kp a u (by rw [upd_ne ne]; exact h) n
  dm := fun a u h => by
    have ne : a ≠ p := fun e => by subst e; rw [hp] at h; cases h
    rw [upd_ne ne]
    exact g.dm a u (by rw [upd_ne ne]; exact h)
  nw := fun a u h => by
    rcases g.nw a u h with z | z | z
    · exact .inl z
    · by_cases e : a = p
      · subst e; rw [upd_same] at z; cases z
      · rw [upd_ne e] at z; exact .inr (.inl z)
    · exact .inr (.inr z)
  ow := g.ow
  lo := g.lo
  io := g.io
def dictXF (kfs : List (Key × (MEnv → Option (PyData × MEnv)))) (fe : MEnv → Option (Lr × MEnv)) : MEnv → Option (Slot × MEnv) := fun env => match pairsF kfs env with
  | some (kds, e1) => op1 fe (dictD kds) e1
  | none => none
theorem pairsF_keys : ∀ (kfs : List (Key × (MEnv → Option (PyData × MEnv)))) (env : MEnv) (kds : List (Key × PyData)) (env' : MEnv), pairsF kfs env = some (kds, env') → kds.map (·.1) = kfs.map (·.1)
  | [], env, kds, env', h => by cases h; rfl
  | (k, f) :: r, env, kds, env', h => by
    unfold pairsF at h
    split at h
    · split at h
      · rename_i h2
        cases h
        rw [List.map_cons, List.map_cons, pairsF_keys r _ _ _ h2]
      · cases h
    · cases h
theorem se_dictX {keys : List (Option Expr)} {values : List Expr} {trs : List (TE × TE)} {p2 : Pos} {fe : MEnv → Option (Lr × MEnv)} {kfs : List (Key × (MEnv → Option (PyData × MEnv)))} (hu : X.A.units + 1 < cLine) (h : SPr X p2 keys values trs kfs) (hall : keys.all (·.isSome) = true) (hl : keys.length = values.length)
    (h0 : keys ≠ []) (h15 : keys.length ≤ 15) (hk15 : kfs.length ≤ 15) (hnd : (kfs.map (·.1)).Nodup) (he : SL X e fe) (hp : plainIx e = true) : SE X (.Subscript (.Dict keys values p2) e pos) (dictXF kfs fe) := by
  refine ⟨?_⟩
  intro env σ Hs H r env' hf I Q q
  unfold dictXF at hf
  split at hf
  · rename_i kds e0 h00
    unfold op1 at hf
    split at hf
    · rename_i ra e1 h1
      split at hf
      · rename_i x hx
        split at hf
        · rename_i s hs
          cases hf
          unfold dictD at hs
          split at hs
          · rename_i k hk
            have NS : NoSl e := by
              intro o i
              cases e <;> first | rfl | cases hp
            refine W.of (pe_dget hu (pe_disp h.pps hall hl h0 h15) (W.pe X e) NS) ?_
            intro p hp1
            have I0 := I.lay hp1 (.dK [])
            have g0 : GoE σ env Hs H env Hs (upd H p (.dK [])) := GoE.lay hp1 _
            have nm0 : ¬ MutAt σ env p := fun m => by
              obtain ⟨_, _, hh⟩ := I.mutAt_some m
              rw [hp1] at hh
              cases hh
            refine h.run env σ Hs _ kds e0 h00 I0 _ fun kvs Hs1 H1 g1 I1 r1 => ?_
            have hp2 : H1 p = some (.dK []) := g1.kp p _ upd_same nm0
            have hk1 := pairsF_keys _ _ _ _ h00
            have hkv : kvs.map (·.1) = kfs.map (·.1) := by rw [r1.keys, hk1]
            have hlen : kvs.length = kfs.length := by
              have := congrArg List.length hkv
              simpa using this
            refine ⟨hp2, kvs, rfl, by omega, ?_⟩
            have hm : mergeK [] kvs = kvs := by
              rw [mergeK_app kvs [] (by rw [hkv]; exact hnd) (by simp), List.nil_append]
            rw [hm]
            have nm1 : ¬ MutAt σ e0 p := fun m => nm0 (g1.ow p m)
            have hs1 : Hs1 p = none := by
              cases hh : Hs1 p with
              | none => rfl
              | some o =>
                rcases g1.nw p o hh with z | z | z
                · rw [I.sh p o z] at hp1; cases hp1
                · rw [upd_same] at z; cases z
                · exact absurd z.mut nm0
            have gt : GoE σ env Hs H e0 Hs1 (upd H1 p (.dK kvs)) := GoE.over g1 hp1
            refine he e0 σ Hs1 _ ra env' h1 (I1.over hs1 nm1) _ fun v Hs2 H2 g2 I2 r2 => ?_
            have hv := RepLr.top I2 r2 hx
            have hd2 : H2 p = some (.dK kvs) := g2.kp p _ upd_same nm1
            cases hfnd : kds.find? fun kv => decide (kv.1 = k) with
            | none => rw [hfnd] at hs; cases hs
            | some kv =>
              rw [hfnd] at hs
              cases hs
              obtain ⟨u, hu1, hu2⟩ := r1.find k hfnd
              have kv_ : v = kV k := by
                cases x <;> first | (cases hk; done) | skip
                · cases hk; exact hv
                · cases hk; exact hv
              refine ⟨p, u, rfl, ?_, q u Hs2 H2 (gt.trans g2) I2 (Rep.mono g2.sh _ u hu2)⟩
              rw [kv_]
              have := DGet.k (k := k) hd2
              rw [hu1] at this
              exact this
          · cases hs
        · cases hf
      · cases hf
    · cases hf
  · cases hf
end Ip

set_option Elab.async false
set_option linter.all false
set_option maxRecDepth 100000
set_option maxHeartbeats 4000000
/-! instances of own classes whose fields are set once, when they are made -/
namespace Ip
open PySem L2
open Evl (Ex sz_of fresh_back)
variable {X : Cx} {a b e o : Expr} {pos : Pos} {K : PySem.W.Frag} {Hs Hs' H H' : Hp} {σ : L2.St} {env env' : MEnv}
theorem call_tail {n : Nat} {run : Run} {ds : List PyData} {vs : List V} {Hs0 H0 Hs1 H1 : Hp} {env0 : MEnv} {r : Slot} {args' : List Slot} (hl : ds.length = n) (hr : run (ds.map .val) = some (r, args')) (g1 : GoE σ env0 Hs0 H0 env' Hs1 H1) (I1 : InvS K Hs1 H1 σ env') (r1 : RepL K Hs1 ds vs) {Q : VK}
    (q : ∀ v Hs' H', GoE σ env0 Hs0 H0 env' Hs' H' → InvS K Hs' H' σ env' → RepR K H0 Hs' H' r v → Q v H') (E : XK) : spF K n run vs H1 Q E := by
  have nomut : ∀ a, ¬ MutAt (vs.map some) (ds.map .val) a := fun a ⟨i, s, xs, e1, e2, _⟩ => by
    obtain ⟨d, _, rfl⟩ := map_val_some e1
    cases e2
  have noloc : ∀ a, ¬ LocAt (vs.map some) (ds.map .val) a := fun a m => nomut a m.mut
  refine ⟨ds.map .val, Hs1, r, args', by rw [List.length_map]; exact hl, by simp [argOk], hr, ⟨by rw [List.length_map, List.length_map, RepL.length r1], I1.sh, fun i d h => ?_, fun i s xs h hm => ?_, fun i j s t xs ys p h1 m1 _ _ _ _ => ?_⟩, fun v Hs' H' g I' rr => ?_⟩
  · obtain ⟨d', hd, e⟩ := map_val_some h
    cases e
    obtain ⟨w, k1, k2⟩ := RepL.get r1 hd
    exact ⟨w, by rw [List.getElem?_map, k1]; rfl, k2⟩
  · obtain ⟨d', _, rfl⟩ := map_val_some h
    cases hm
  · obtain ⟨d', _, rfl⟩ := map_val_some h1
    cases m1
  · have back : ∀ p o, H1 p = some o → Hs1 p = none → Hs' p = none := fun p o hp hn => by
      cases z : Hs' p with
      | none => rfl
      | some u =>
        rcases g.nw p u z with z1 | z1 | z1
        · rw [hn] at z1; cases z1
        · rw [hp] at z1; cases z1
        · exact absurd z1 (noloc p)
    have ge : GoE σ env' Hs1 H1 env' Hs' H' := ⟨g.sh, fun a o h _ => g.kp a o h (nomut a), g.dm, fun a o h => (g.nw a o h).elim .inl fun z => z.elim (fun z => .inr (.inl z)) fun z => absurd z (noloc a), fun _ h => h, fun _ h => h, fun _ xs h => ⟨xs, h⟩⟩
    refine q v Hs' H' (g1.trans ge) ⟨I1.len, I'.sh, fun i d h => ?_, fun i s xs h hm => ?_, I1.diff⟩ (RepR.mono (fun p hp => g1.none_back hp) rr)
    · obtain ⟨w, k1, k2⟩ := I1.vals i d h
      exact ⟨w, k1, Rep.mono g.sh d w k2⟩
    · obtain ⟨p, us, k1, k2, k3, k4⟩ := I1.muts i s xs h hm
      exact ⟨p, us, k1, back p _ k3 k2, g.kp p _ k3 (nomut p), RepL.mono g.sh xs us k4⟩
def kvLook (f : Str) : List (PyData × PyData) → Option PyData
  | (.str x, d) :: r => if x = f then some d else kvLook f r
  | _ => none
theorem RepF.look {f : Str} : ∀ {kvs : List (PyData × PyData)} {fs : List (Str × V)} {d : PyData}, RepF K H kvs fs → kvLook f kvs = some d → ∃ v, fs.lookup f = some v ∧ Rep K H d v
  | [], fs, d, h, e => by cases e
  | (k, d0) :: r, fs, d, h, e => by
    obtain ⟨v, fs', rfl, ⟨h1, h2⟩, h3⟩ := h
    rw [h1] at e
    have e : (if v.1 = f then some d0 else kvLook f r) = some d := e
    obtain ⟨x, w⟩ := v
    by_cases hx : x = f
    · rw [if_pos hx] at e
      cases e
      refine ⟨w, ?_, h2⟩
      rw [List.lookup_cons, hx, beq_self_eq_true]
    · rw [if_neg hx] at e
      obtain ⟨u, g1, g2⟩ := RepF.look h3 e
      refine ⟨u, ?_, g2⟩
      rw [List.lookup_cons, beq_eq_false_iff_ne.mpr (fun z => hx z.symm)]
      exact g1
def kvKeys : List (PyData × PyData) → List PyData
  | [] => []
  | (k, _) :: r => k :: kvKeys r
theorem mem_keys {k d : PyData} : ∀ {r : List (PyData × PyData)}, (k, d) ∈ r → k ∈ kvKeys r
  | p :: r, h => by
    obtain ⟨k0, x⟩ := p
    rcases List.mem_cons.mp h with w | w
    · cases w; exact List.mem_cons_self
    · exact List.mem_cons_of_mem _ (mem_keys w)
theorem RepF.none {f : Str} : ∀ {kvs : List (PyData × PyData)} {fs : List (Str × V)}, RepF K H kvs fs → (∀ d, (PyData.str f, d) ∉ kvs) → fs.lookup f = none
  | [], fs, h, e => by cases (show fs = [] from h); rfl
  | (k, d0) :: r, fs, h, e => by
    obtain ⟨v, fs', rfl, ⟨h1, h2⟩, h3⟩ := h
    obtain ⟨x, w⟩ := v
    have hx : x ≠ f := fun z => e d0 (by rw [h1, ← z]; exact List.mem_cons_self)
    rw [List.lookup_cons, beq_eq_false_iff_ne.mpr (fun z => hx z.symm)]
    exact RepF.none h3 fun d m => e d (List.mem_cons_of_mem _ m)
/-! ### o.f -/
def fldD (n f : Str) : PyData → Option Slot
  | .dict ((.str c, _) :: r) => if c = n then (kvLook f r).map .val else none
  | _ => none
theorem se_fld {n f : Str} {C : Addr} {fe : MEnv → Option (Lr × MEnv)} (z : PySem.W.nsIn X.K mainGlobals n = some (some (.ref C))) (c : Cls X.K C) (na : NoAttr X.K C f) (he : SL X e fe) (hb : attributeBase e f X.env (eval e X.env) = eval e X.env) : SE X (.Attribute e f pos) (op1 fe (fldD n f)) := by
  refine se_op1 (r := fun v H Q => ∃ a C dx fs w, v = .ref a ∧ H a = some (.ins C dx fs) ∧ Cls X.K C ∧ NoAttr X.K C f ∧ fs.lookup f = some w ∧ Q w H) he ?_ (pe_fld (W.pe X e) hb)
  intro Hs H σ env x v s hs I hx Q q
  cases x <;> try (cases hs; done)
  rename_i kvs
  cases kvs with
  | nil => cases hs
  | cons p r =>
    obtain ⟨k, d0⟩ := p
    cases k <;> try (cases hs; done)
    rename_i cn
    replace hs : (if cn = n then (kvLook f r).map Slot.val else none) = some s := hs
    split at hs
    · rename_i hc
      subst hc
      cases hk : kvLook f r with
      | none => rw [hk] at hs; cases hs
      | some d =>
        rw [hk] at hs
        cases hs
        obtain ⟨a, C', dx, fs, c', v0, rfl, h1, h2, v, fs', e1, ⟨e2, _⟩, h3⟩ := (show Rep X.K Hs _ v from hx)
        cases e1
        cases e2
        rw [z] at h2
        cases h2
        obtain ⟨w, l1, l2⟩ := RepF.look h3 hk
        exact ⟨a, C, dx, fs, w, rfl, I.sh a _ h1, c, na, l1, q w Hs H GoE.refl I l2⟩
    · cases hs
/-! ### o.m(e, ..) -/
def instB (n m : Str) : PyData → Bool
  | .dict ((.str c, _) :: r) => decide (c = n) && (kvKeys r).all fun k => match k with | .str x => !decide (x = m) | _ => true
  | _ => false
def consI (n m : Str) (fo : MEnv → Option (PyData × MEnv)) (fs : MEnv → Option (List PyData × MEnv)) : MEnv → Option (List PyData × MEnv) := fun env => match fo env with
  | some (d, e1) => if instB n m d = true then match fs e1 with
      | some (ds, e2) => some (d :: ds, e2)
      | none => none
    else none
  | none => none
theorem pe_goM {k : Nat} {f C : Addr} {m : Str} {fd : FuncData} {ps : List Str} {sp : Sp} {apos : Pos} {es : List Expr} {ta : TE} {t : TA} {pl : Sem Bool} (he : PE X o ta) (c : Cls X.K C) (hm : Meth X.K C m f) (F : FnG X.prog X.w X.K X.mg X.base k f fd ps sp) (hG : X.A.guards = some []) (hr : Room k X.A)
    (hb : Binds X.K fd ps []) (ha : PA X (e :: es) t) (hst : starEach (e :: es) X.env = (false, eval e X.env) :: starEach es X.env) (hpl : (backTo pos (starEach es X.env)).any (·.1) = false)
    (ht : eval (.Call (.Attribute o m apos) (e :: es) [] pos) X.env = (do
      let ov ← eval o X.env
      standAt apos.atName
      let (f, first) ← holding [ov] (getMethod ov m pl)
      callWith pos f first (backTo pos (starEach (e :: es) X.env)) (backToKw pos (keywordEach [] X.env)))) :
    PE X (.Call (.Attribute o m apos) (e :: es) [] pos) (tMeth C m sp [] E0 ta t) := by
  refine ⟨fun pins s σ H Q I h => ?_⟩
  refine PySem.W.methodCall_KW (pl := pl) (thn (he.run pins s σ H _ I h) fun u s1 ⟨x, H1, I1, rx, a, dx, fs, ex, ea, l, q⟩ => ?_) ht
  subst ex
  obtain rfl : u = Value.ref a := rx
  refine getmeth_ok I1 ea c hm l ?_
  refine PySem.W.callWith_K (first := [.ref a]) (h₀ := X.base) I.ok.mod.kin hm.kp (thn (ha.run pos pins s1 σ H1 _ I1 q) fun us s2 ⟨vs, H2, I2, r, q2⟩ => ⟨I2.kIn, ?_⟩) hst hpl
  exact run_go F hG hr hb I2 (us := .ref a :: us) (vs := .ref a :: vs) (.cons rfl r) (by simpa using q2)
theorem se_meth {k n : Nat} {f C : Addr} {cn m : Str} {fd : FuncData} {ps : List Str} {run : Run} {apos : Pos} {es : List Expr} {fo : MEnv → Option (PyData × MEnv)} {fs : MEnv → Option (List PyData × MEnv)} {pl : Sem Bool} (z : PySem.W.nsIn X.K mainGlobals cn = some (some (.ref C))) (c : Cls X.K C) (hm : Meth X.K C m f)
    (F : FnG X.prog X.w X.K X.mg X.base k f fd ps (spF X.K n run)) (hG : X.A.guards = some []) (hr : Room k X.A) (hb : Binds X.K fd ps []) (ho : SV X o fo) (ha : SA X (e :: es) fs) (hp : (e :: es).all plainE = true)
    (ht : eval (.Call (.Attribute o m apos) (e :: es) [] pos) X.env = (do
      let ov ← eval o X.env
      standAt apos.atName
      let (f, first) ← holding [ov] (getMethod ov m pl)
      callWith pos f first (backTo pos (starEach (e :: es) X.env)) (backToKw pos (keywordEach [] X.env)))) :
    SE X (.Call (.Attribute o m apos) (e :: es) [] pos) (callF n run (consI cn m fo fs)) := by
  refine ⟨?_⟩
  intro env σ Hs H r env' hf I Q q
  rw [List.all_cons, Bool.and_eq_true] at hp
  refine W.of (pe_goM (W.pe X o) c hm F hG hr hb (WA.pa X (e :: es)) (star_plain hp.1) (star_any hp.2) ht) ?_
  unfold callF consI at hf
  split at hf
  · rename_i ds e1 h1
    split at hf
    · rename_i hl
      split at hf
      · rename_i r0 args' hr0
        cases hf
        split at h1
        · rename_i d e0 h0
          split at h1
          · rename_i hi
            split at h1
            · rename_i ds1 e2 h2
              cases h1
              refine ho env σ Hs H d e0 h0 I _ fun v Hs1 H1 g1 I1 r1 => ?_
              cases d <;> try (cases hi; done)
              rename_i kvs
              cases kvs with
              | nil => cases hi
              | cons p rr =>
                obtain ⟨kk, d0⟩ := p
                cases kk <;> try (cases hi; done)
                rename_i cn'
                have hi : (decide (cn' = cn) && (kvKeys rr).all fun k => match k with | .str x => !decide (x = m) | _ => true) = true := hi
                rw [Bool.and_eq_true] at hi
                have hcn := of_decide_eq_true hi.1
                subst hcn
                have r1' := r1
                obtain ⟨a, C', dx, fs', c', v0, rfl, a1, a2, v, fs'', e1, ⟨e2, _⟩, a3⟩ := r1'
                cases e1
                cases e2
                rw [z] at a2
                cases a2
                refine ⟨a, dx, fs', rfl, I1.sh a _ a1, RepF.none a3 (fun d mm => ?_), ?_⟩
                · have : PyData.str m ∈ kvKeys rr := mem_keys mm
                  have h3 := List.all_eq_true.mp hi.2 _ this
                  simp at h3
                · refine ha e0 σ Hs1 H1 ds1 env' h2 I1 _ fun vs Hs2 H2 g2 I2 r2 => ?_
                  rw [List.append_nil]
                  exact call_tail hl hr0 (g1.trans g2) I2 ⟨.ref a, vs, rfl, Rep.mono g2.sh _ _ r1, r2⟩ q E0
            · cases h1
          · cases h1
        · cases h1
      · cases hf
    · cases hf
  · cases hf
/-! ### C(e), whose __init__ stores the one argument -/
def spInit (C : Addr) (f : Str) : Sp := fun vs H Q _ => ∃ x dx y, vs = [.ref x, y] ∧ H x = some (.ins C dx []) ∧ Q .non (upd H x (.ins C dx [(f, y)]))
def mkD (n f : Str) : PyData → Option Slot := fun d => some (.val (.dict [(.str n, .none), (.str f, d)]))
def mkF (n f : Str) (fs : MEnv → Option (List PyData × MEnv)) : MEnv → Option (Slot × MEnv) := fun env => match fs env with
  | some ([d], e1) => some (.val (.dict [(.str n, .none), (.str f, d)]), e1)
  | _ => none
theorem se_make1 {k : Nat} {fi C : Addr} {x n f : Str} {fd : FuncData} {ps : List Str} {p : Pos} {fs : MEnv → Option (List PyData × MEnv)} (z : PySem.W.nsIn X.K mainGlobals n = some (some (.ref C))) (M : Mk X.K C fi) (F : FnOk X.prog X.w X.K X.mg X.base CX0 k fi fd ps (spInit C f)) (hr : Room (k + 1) X.A) (hg : Gl X x) (hm : X.mg x = some (.ref C))
    (hb : Binds X.K fd ps []) (ha : SA X [e] fs) (hp : plainE e = true) (hdb : (x == ("__debug__" : Str)) = false) : SE X (.Call (.Name x p) [e] [] pos) (mkF n f fs) := by
  refine ⟨?_⟩
  intro env σ Hs H r env' hf I Q q
  refine W.of (pe_make (E := E0) M F hr hg hm hb .nil pass0 (WA.pa X [e]) hdb (star_plain hp) rfl) ?_
  unfold mkF at hf
  split at hf
  · rename_i d e1 h1
    cases hf
    refine ha env σ Hs H [d] env' h1 I _ fun vs Hs1 H1 g1 I1 r1 => ?_
    obtain ⟨v, vs', rfl, r1, r2⟩ := r1
    cases (show vs' = [] from r2)
    intro a dx ha1 hdx hne
    refine ⟨a, dx, v, rfl, upd_same, rfl, ?_⟩
    have e1 : upd (upd (upd H1 dx (.own a)) a (.ins C dx [])) a (.ins C dx [(f, v)]) = upd (upd H1 dx (.own a)) a (.ins C dx [(f, v)]) := by
      funext b
      by_cases e : b = a
      · subst e; rw [upd_same, upd_same]
      · rw [upd_ne e, upd_ne e, upd_ne e]
    rw [e1]
    have I2 := I1.lay hdx (.own a)
    have ha2 : upd H1 dx (HO.own a) a = none := by rw [upd_ne (Ne.symm hne)]; exact ha1
    have I3 := I2.share ha2 (.ins C dx [(f, v)])
    have g2 : GoE σ env' Hs1 H1 env' Hs1 (upd H1 dx (.own a)) := GoE.lay hdx _
    have g3 := GoE.share I2 ha2 (.ins C dx [(f, v)])
    have hHs : Hs1 a = none := fresh_back I1.sh ha1
    refine q (.ref a) _ _ ((g1.trans g2).trans g3) I3 ?_
    exact ⟨a, C, dx, [(f, v)], n, .non, rfl, upd_same, z, (n, .non), _, rfl, ⟨rfl, rfl⟩, (f, v), _, rfl, ⟨rfl, Rep.mono (Ex.new hHs) d v r1⟩, rfl⟩
  · cases hf

/-! ### what is known of a class of the text -/
structure OwnM (P : Program) (w : World) (K : PySem.W.Frag) (mg : Str → Option Value) (base : Heap) (k : Nat) (cn m : Str) (n : Nat) (run : Run) where
  C : Addr
  f : Addr
  fd : FuncData
  ps : List Str
  z : PySem.W.nsIn K mainGlobals cn = some (some (.ref C))
  c : Cls K C
  hm : Meth K C m f
  ok : FnG P w K mg base k f fd ps (spF K n run)
  bi : Binds K fd ps []
structure OwnC (P : Program) (w : World) (K : PySem.W.Frag) (mg : Str → Option Value) (base : Heap) (cn f : Str) where
  C : Addr
  fi : Addr
  fd : FuncData
  ps : List Str
  z : PySem.W.nsIn K mainGlobals cn = some (some (.ref C))
  M : Mk K C fi
  F : FnOk P w K mg base CX0 1 fi fd ps (spInit C f)
  at_ : mg cn = some (.ref C)
  bi : Binds K fd ps []
structure OwnF (K : PySem.W.Frag) (cn f : Str) where
  C : Addr
  z : PySem.W.nsIn K mainGlobals cn = some (some (.ref C))
  c : Cls K C
  na : NoAttr K C f
def clsBody : Stmt → List Stmt
  | .ClassDef (body := b) .. => b
  | _ => []
end Ip

set_option Elab.async false
set_option linter.all false
set_option maxRecDepth 100000
set_option maxHeartbeats 4000000
/-! what the machine of plain data does, in general -/
namespace Ip
open PySem L2

/-! ### loops -/
theorem for_ind {fg : PyData → MEnv → Option MEnv} {fb : MEnv → Option Out} (P : Nat → MEnv → Prop) : ∀ (ds : List PyData) (k : Nat) (env : MEnv), P k env →
    (∀ i d env, ds[i]? = some d → P (k + i) env → ∃ e1 e2, fg d env = some e1 ∧ fb e1 = some (.nx e2) ∧ P (k + i + 1) e2) → ∃ e, forLoop fg fb ds env = some (.nx e) ∧ P (k + ds.length) e
  | [], k, env, h0, _ => ⟨env, rfl, h0⟩
  | d :: ds, k, env, h0, hs => by
    obtain ⟨e1, e2, h1, h2, h3⟩ := hs 0 d env rfl h0
    obtain ⟨e, h4, h5⟩ := for_ind P ds (k + 1) e2 h3 (fun i d' env' hd hp => by
      obtain ⟨a1, a2, b1, b2, b3⟩ := hs (i + 1) d' env' (by simpa using hd) (by rw [show k + (i + 1) = k + 1 + i by omega]; exact hp)
      exact ⟨a1, a2, b1, b2, by rw [show k + 1 + i + 1 = k + (i + 1) + 1 by omega]; exact b3⟩)
    refine ⟨e, ?_, by rw [List.length_cons, show k + (ds.length + 1) = k + 1 + ds.length by omega]; exact h5⟩
    unfold forLoop
    rw [h1]
    simp only [h2]
    exact h4
/-- a comprehension whose element is worked out by f, the rest staying as it is -/
theorem comp_map {fe : MEnv → Option (PyData × MEnv)} {j : Nat} {env : MEnv} (f : PyData → PyData) (hj : env[j]? = some .un) : ∀ (ds acc : List PyData), (∀ d ∈ ds, fe (env.set j (.val d)) = some (f d, env.set j (.val d))) →
    compLoop (nameG j) yesT fe [j] ds acc env = some (acc ++ ds.map f, env)
  | [], acc, _ => by simp [compLoop]
  | d :: ds, acc, h => by
    have hl : j < env.length := (List.getElem?_eq_some_iff.mp hj).1
    have back : (env.set j (.val d)).set j .un = env := by
      rw [List.set_set]
      apply List.ext_getElem?
      intro i
      by_cases e : j = i
      · subst e
        rw [List.getElem?_set, if_pos rfl, if_pos hl, hj]
      · rw [List.getElem?_set_ne e]
    have hset : nameG j d env = some (env.set j (.val d)) := by
      unfold nameG setS
      rw [hj]
    have hok : okW (env.set j (.val d)) [j] = true := by
      unfold okW
      simp [List.getElem?_set, hl, Slot.mut]
    unfold compLoop
    rw [hset]
    simp only [yesT]
    rw [h d List.mem_cons_self]
    simp only [hok, if_true]
    show compLoop _ _ _ _ _ _ ((env.set j (.val d)).set j .un) = _
    rw [back, comp_map f hj ds (acc ++ [f d]) (fun d' hd => h d' (List.mem_cons_of_mem _ hd))]
    simp
theorem comp_all {fi : MEnv → Option (List PyData × MEnv)} {fe : MEnv → Option (PyData × MEnv)} {j : Nat} {env env1 : MEnv} {ds : List PyData} (f : PyData → PyData) (hi : fi env = some (ds, env1)) (hj : env1[j]? = some .un) (hz : ds.length ≤ 100000)
    (h : ∀ d ∈ ds, fe (env1.set j (.val d)) = some (f d, env1.set j (.val d))) : compF fi (nameG j) yesT fe [j] env = some (.own (ds.map f), env1) := by
  have hl : j < env1.length := (List.getElem?_eq_some_iff.mp hj).1
  have hw : wipeE env1 [j] = env1 := by
    show env1.set j .un = env1
    apply List.ext_getElem?
    intro i
    by_cases e : j = i
    · subst e
      rw [List.getElem?_set, if_pos rfl, if_pos hl, hj]
    · rw [List.getElem?_set_ne e]
  have hok : okW env1 [j] = true := by
    unfold okW
    simp [hj, Slot.mut]
  have hb : backE env1 env1 [j] = env1 := by
    show env1.set j (env1.getD j .un) = env1
    rw [List.getD_eq_getElem?_getD, hj]
    exact hw
  unfold compF
  rw [hi]
  simp only [hok, hz, and_self, if_true]
  rw [hw, comp_map f hj ds [] h]
  simp [hb]
theorem intsFrom_get {lo : Int} {n i : Nat} {d : PyData} (h : (intsFrom lo n)[i]? = some d) : d = .int (lo + (i : Nat)) ∧ i < n := by
  unfold intsFrom at h
  rw [List.getElem?_map] at h
  by_cases hi : i < n
  · rw [List.getElem?_range hi] at h
    cases h
    exact ⟨rfl, hi⟩
  · rw [List.getElem?_eq_none (by simp; omega)] at h
    cases h
theorem intsFrom_len (lo : Int) (n : Nat) : (intsFrom lo n).length = n := by unfold intsFrom; simp

theorem run_rt {N n : Nat} {fB : MEnv → Option Out} {args : List Slot} {r : Slot} {e : MEnv} (h : fB (args ++ List.replicate (N - n) .un) = some (.rt r e)) (hl : args.length ≤ e.length) : ∃ o, runB N n fB args = some (r, o) := by
  refine ⟨List.zipWith ioB args e, ?_⟩
  unfold runB
  rw [h]
  simp only
  rw [if_pos hl]
theorem rng1_of {fs : MEnv → Option (List PyData × MEnv)} {env env1 : MEnv} {n : Int} (h : fs env = some ([.int n], env1)) (hn : -(2 ^ 62) ≤ n ∧ n < 2 ^ 62) : rng1I fs env = some (intsFrom 0 n.toNat, env1) := by
  unfold rng1I
  rw [h]
  exact if_pos hn
theorem rng2_of {fs : MEnv → Option (List PyData × MEnv)} {env env1 : MEnv} {m n : Int} (h : fs env = some ([.int m, .int n], env1)) (hn : -(2 ^ 62) ≤ m ∧ m < 2 ^ 62 ∧ -(2 ^ 62) ≤ n ∧ n < 2 ^ 62) : rng2I fs env = some (intsFrom m (n - m).toNat, env1) := by
  unfold rng2I
  rw [h]
  exact if_pos hn
/-! ### what is asked of plain data -/
theorem shaped_int (i : Int) : SeqAt.shaped (.int i) = true := rfl
theorem shaped_none : SeqAt.shaped .none = true := rfl
theorem shaped_bool (b : Bool) : SeqAt.shaped (.bool b) = true := rfl
theorem eqv_int (i j : Int) : PyData.eqv (.int i) (.int j) = decide (i = j) := by
  show (i == j) = decide (i = j)
  rw [Bool.beq_eq_decide_eq]
theorem eqv_bool (a b : Bool) : PyData.eqv (.bool a) (.bool b) = (a == b) := rfl
theorem mulOk_r {i j : Int} (h : j.natAbs < 2 ^ 64) : mulOk i j = true := by
  unfold mulOk
  simp only [Bool.or_eq_true, decide_eq_true_eq]
  exact .inl (.inr h)
theorem mulOk_l {i j : Int} (h : i.natAbs < 2 ^ 64) : mulOk i j = true := by
  unfold mulOk
  simp only [Bool.or_eq_true, decide_eq_true_eq]
  exact .inr h
theorem log2_lt {n k : Nat} (h : n < 2 ^ k) (hk : 0 < k) : n.log2 < k := by
  by_cases h0 : n = 0
  · subst h0; simpa using hk
  · exact (Nat.log2_lt h0).mpr h
theorem divOk_of {j : Int} (h0 : j ≠ 0) (h : j.natAbs < 2 ^ 9000) : divOk j = true := by
  unfold divOk
  simp only [Bool.and_eq_true, decide_eq_true_eq]
  exact ⟨h0, log2_lt h (by decide)⟩
theorem atI_of {α : Type} {xs : List α} {i : Int} (h0 : 0 ≤ i) (h1 : i < xs.length) : atI xs i = xs[i.toNat]? := by
  unfold atI ixN
  rw [if_pos h0, if_pos h1]
  rfl
theorem ixN_of {n : Nat} {i : Int} (h0 : 0 ≤ i) (h1 : i < n) : ixN n i = some i.toNat := by
  unfold ixN
  rw [if_pos h0, if_pos h1]
end Ip

set_option Elab.async false
set_option linter.all false
set_option maxRecDepth 100000
set_option maxHeartbeats 4000000
/-! what is asked of plain data, in general: for the proofs of laws -/
namespace Lw
open PySem L2 Ip
theorem seq_nx {f g : MEnv → Option Out} {env e1 : MEnv} (h : f env = some (.nx e1)) : seqB f g env = g e1 := by
  unfold seqB
  rw [h]
def nio : Slot → Bool
  | .io _ => false
  | _ => true
theorem setS_zero {x s : Slot} {l : MEnv} (h : nio x = true) : setS 0 s (x :: l) = some (s :: l) := by
  cases x <;> first | rfl | cases h
theorem setS_succ {x s : Slot} {l : MEnv} {i : Nat} : setS (i + 1) s (x :: l) = (setS i s l).map (List.cons x) := by
  unfold setS
  rw [List.getElem?_cons_succ]
  cases l[i]? with
  | none => rfl
  | some t => cases t <;> rfl
theorem setS_zv {d : PyData} {s : Slot} {l : MEnv} : setS 0 s (.val d :: l) = some (s :: l) := rfl
theorem setS_zo {d : List PyData} {s : Slot} {l : MEnv} : setS 0 s (.own d :: l) = some (s :: l) := rfl
theorem setS_zu {s : Slot} {l : MEnv} : setS 0 s (.un :: l) = some (s :: l) := rfl
theorem nio_val {d : PyData} : nio (.val d) = true := rfl
theorem nio_own {d : List PyData} : nio (.own d) = true := rfl
theorem nio_un : nio .un = true := rfl
/-! equal data -/
mutual
def plain : PyData → Bool
  | .dict _ => false
  | .list xs => plainL xs
  | .tuple xs => plainL xs
  | .str s => PyData.strOk s
  | _ => true
def plainL : List PyData → Bool
  | [] => true
  | x :: xs => plain x && plainL xs
end
mutual
theorem plain_canLay : ∀ d : PyData, plain d = true → d.canLay0 = true
  | .none, _ => rfl
  | .bool _, _ => rfl
  | .int _, _ => rfl
  | .str _, h => h
  | .list xs, h => by
    simp only [PyData.canLay0]
    exact plainL_canLay xs h
  | .tuple xs, h => by
    simp only [PyData.canLay0]
    exact plainL_canLay xs h
  | .dict _, h => by cases h
theorem plainL_canLay : ∀ ds : List PyData, plainL ds = true → PyData.canLayAll0 ds = true
  | [], _ => rfl
  | d :: ds, h => by
    have h : (plain d && plainL ds) = true := h
    rw [Bool.and_eq_true] at h
    show (d.canLay0 && PyData.canLayAll0 ds) = true
    rw [plain_canLay d h.1, plainL_canLay ds h.2]
    rfl
end
theorem eqv_self {d : PyData} (h : plain d = true) : PyData.eqv d d = true := SeqAt.eqv_refl d (plain_canLay d h)
theorem shaped_of {d : PyData} (h : plain d = true) (hd : d.depth ≤ 64) : SeqAt.shaped d = true := by
  unfold SeqAt.shaped
  rw [plain_canLay d h]
  simpa using hd
theorem ne_self {d : PyData} (h : plain d = true) (hd : d.depth ≤ 64) : neD d d = some (.val (.bool false)) := by
  unfold neD
  split
  · simp [bV]
  · rw [if_pos ⟨shaped_of h hd, shaped_of h hd⟩, eqv_self h]
    rfl
theorem eq_self' {d : PyData} (h : plain d = true) (hd : d.depth ≤ 64) : eqD d d = some (.val (.bool true)) := by
  unfold eqD
  split
  · simp [bV]
  · rw [if_pos ⟨shaped_of h hd, shaped_of h hd⟩, eqv_self h]
    rfl
theorem plainL_of {ds : List PyData} (h : ∀ d ∈ ds, plain d = true) : plainL ds = true := by
  induction ds with
  | nil => rfl
  | cons d ds ih =>
    show (plain d && plainL ds) = true
    rw [h d List.mem_cons_self, ih fun x hx => h x (List.mem_cons_of_mem _ hx)]
    rfl
theorem depthAll_of {ds : List PyData} {n : Nat} (h : ∀ d ∈ ds, d.depth ≤ n) : PyData.depthAll ds ≤ n := by
  induction ds with
  | nil => exact Nat.zero_le _
  | cons d ds ih =>
    show max d.depth (PyData.depthAll ds) ≤ n
    have h1 := h d List.mem_cons_self
    have h2 := ih fun x hx => h x (List.mem_cons_of_mem _ hx)
    omega
/-! texts -/
def S (l : List Nat) : Str := ⟨l.toArray⟩
theorem S_tl (a : List Nat) : (S a).cps.toList = a := rfl
theorem S_app (a b : List Nat) : S a ++ S b = S (a ++ b) := TL.ext_tl (by rw [TL.tl_append]; rfl)
theorem S_len (a : List Nat) : (S a).length = a.length := by
  rw [TL.len_tl]
  rfl
theorem str_S (x : Str) : x = S x.cps.toList := (TL.mk_tl x).symm
theorem split_S {a b : List Nat} (hb : b ≠ []) (hk : b.all (· < 256) = true) : Txt.split (S a) (S b) = (TL.spl b 0 [] a).map S := SX.split_S hb hk
theorem join_S (a : List Nat) (ys : List (List Nat)) : Txt.join (S a) (ys.map S) = S (TL.joinL a ys) := SX.join_S a ys
theorem eqv_str (a b : Str) : PyData.eqv (.str a) (.str b) = decide (a = b) := by
  show (a == b) = decide (a = b)
  rw [Bool.beq_eq_decide_eq]
theorem shaped_str {a : Str} (h : PyData.strOk a = true) : SeqAt.shaped (.str a) = true := by
  unfold SeqAt.shaped
  rw [show (PyData.str a).canLay0 = PyData.strOk a from rfl, h]
  rfl
theorem S_inj {a b : List Nat} : S a = S b ↔ a = b := by
  constructor
  · intro h
    have := congrArg (fun x : Str => x.cps.toList) h
    simpa [S] using this
  · intro h; rw [h]
/-- a walk over a list whose turns are told by P -/
theorem for_run {fg : PyData → MEnv → Option MEnv} {fb : MEnv → Option Out} (P : List PyData → MEnv → Prop) : ∀ (ds : List PyData) (env : MEnv), P ds env →
    (∀ d r env, P (d :: r) env → ∃ e1 e2, fg d env = some e1 ∧ fb e1 = some (.nx e2) ∧ P r e2) → ∃ e, forLoop fg fb ds env = some (.nx e) ∧ P [] e
  | [], env, h0, _ => ⟨env, rfl, h0⟩
  | d :: ds, env, h0, hs => by
    obtain ⟨e1, e2, h1, h2, h3⟩ := hs d ds env h0
    obtain ⟨e, h4, h5⟩ := for_run P ds e2 h3 hs
    refine ⟨e, ?_, h5⟩
    unfold forLoop
    rw [h1]
    simp only [h2]
    exact h4
/-- a comprehension, what its elements are being known -/
theorem comp_fun {fi : MEnv → Option (List PyData × MEnv)} {fe : MEnv → Option (PyData × MEnv)} {j : Nat} {env env1 : MEnv} {s : Slot} {ds : List PyData} (f : PyData → PyData) (hi : fi env = some (ds, env1)) (hj : env1[j]? = some s) (hs : s.mut = none) (hz : ds.length ≤ 100000)
    (h : ∀ d ∈ ds, fe (env1.set j (.val d)) = some (f d, env1.set j (.val d))) : compF fi (nameG j) yesT fe [j] env = some (.own (ds.map f), env1) := by
  have hl : j < env1.length := (List.getElem?_eq_some_iff.mp hj).1
  have hok : okW env1 [j] = true := by
    unfold okW
    simp [hj, hs]
  have e0 : (env1.set j .un)[j]? = some .un := by rw [List.getElem?_set, if_pos rfl, if_pos hl]
  have hm := Ip.comp_map (fe := fe) (j := j) (env := env1.set j .un) f e0 ds [] (fun d hd => by
    rw [List.set_set]
    exact h d hd)
  have hb : backE env1 (env1.set j .un) [j] = env1 := by
    show (env1.set j .un).set j (env1.getD j .un) = env1
    rw [List.set_set, List.getD_eq_getElem?_getD, hj]
    apply List.ext_getElem?
    intro i
    by_cases e : j = i
    · subst e
      rw [List.getElem?_set, if_pos rfl, if_pos hl, hj]
      rfl
    · rw [List.getElem?_set_ne e]
  unfold compF
  rw [hi]
  simp only [hok, hz, and_self, if_true]
  show (match compLoop (nameG j) yesT fe [j] ds [] (env1.set j .un) with
    | some (acc, ew) => some (Slot.own acc, backE env1 ew [j])
    | none => none) = _
  rw [hm]
  simp [hb]
/-- a comprehension, of whose elements something is known -/
theorem comp_ex {fi : MEnv → Option (List PyData × MEnv)} {fe : MEnv → Option (PyData × MEnv)} {j : Nat} {env env1 : MEnv} {s : Slot} {ds : List PyData} (R : PyData → PyData → Prop) (hi : fi env = some (ds, env1)) (hj : env1[j]? = some s) (hs : s.mut = none) (hz : ds.length ≤ 100000)
    (h : ∀ d ∈ ds, ∃ x, R d x ∧ fe (env1.set j (.val d)) = some (x, env1.set j (.val d))) : ∃ f : PyData → PyData, (∀ d ∈ ds, R d (f d)) ∧ compF fi (nameG j) yesT fe [j] env = some (.own (ds.map f), env1) := by
  classical
  let f : PyData → PyData := fun d => if h : ∃ x, R d x ∧ fe (env1.set j (.val d)) = some (x, env1.set j (.val d)) then h.choose else .none
  have hf : ∀ d ∈ ds, R d (f d) ∧ fe (env1.set j (.val d)) = some (f d, env1.set j (.val d)) := fun d hd => by
    have h1 := h d hd
    show R d (if h : _ then _ else _) ∧ _ = some (if h : _ then _ else _, _)
    rw [dif_pos h1]
    exact h1.choose_spec
  exact ⟨f, fun d hd => (hf d hd).1, comp_fun f hi hj hs hz fun d hd => (hf d hd).2⟩
theorem ints_succ (lo : Int) (n : Nat) : Ip.intsFrom lo (n + 1) = .int lo :: Ip.intsFrom (lo + 1) n := by
  unfold Ip.intsFrom
  rw [List.range_succ_eq_map, List.map_cons, List.map_map]
  congr 1
  · simp
  · apply List.map_congr_left
    intro i _
    simp only [Function.comp_apply]
    congr 1
    omega
theorem ix_str {L : List Nat} {k : Nat} {i : Int} (hi : i = (k : Int)) (hl : L.length ≤ 100000) (hk : k < L.length) : ixD (.str (S L)) (.int i) = some (.val (.str (S [L[k]]))) := by
  have h : atI L i = some L[k] := by
    rw [atI_of (by omega) (by omega), show i.toNat = k by omega, List.getElem?_eq_getElem hk]
  unfold ixD
  simp only [S_len]
  rw [if_pos hl, S_tl, h]
  rfl
theorem all_true : ∀ ds : List PyData, allD (.list (ds.map fun _ => .bool true)) = some (.val (.bool true)) := fun ds => by
  have h : boolsOf (ds.map fun _ => PyData.bool true) = some (ds.map fun _ => true) := by
    induction ds with
    | nil => rfl
    | cons d ds ih =>
      show (boolsOf (ds.map fun _ => PyData.bool true)).map (true :: ·) = _
      rw [ih]
      rfl
  unfold allD
  simp only [h]
  simp
/-- (over a plain Int, so that no cast is counted down) -/
theorem rng1_nat {fs : MEnv → Option (List PyData × MEnv)} {env env1 : MEnv} {c : Int} {n : Nat} (h : fs env = some ([.int c], env1)) (hc : c = (n : Int)) (hn : n ≤ 100000) : rng1I fs env = some (Ip.intsFrom 0 n, env1) := by
  rw [rng1_of h (by omega)]
  have : c.toNat = n := by omega
  rw [this]
theorem comp_gen {fi : MEnv → Option (List PyData × MEnv)} {fg : PyData → MEnv → Option MEnv} {ft : MEnv → Option (Bool × MEnv)} {fe : MEnv → Option (PyData × MEnv)} {vs : List Nat} {env env1 ew ewi e2 : MEnv} {ds acc : List PyData} (hi : fi env = some (ds, env1)) (hok : okW env1 vs = true) (hz : ds.length ≤ 100000)
    (hw : wipeE env1 vs = ewi) (hl : compLoop fg ft fe vs ds [] ewi = some (acc, ew)) (hb : backE env1 ew vs = e2) : compF fi fg ft fe vs env = some (.own acc, e2) := by
  unfold compF
  rw [hi]
  simp only [hok, hz, and_self, if_true, hw, hl, hb]
theorem rng_many {many : Nat} {M : Int} {x0 x2 x3 x4 x5 : Slot} (hM : M = (many : Int)) (h : many ≤ 100000) : rng1I (consA (nameV 1) ((fun env => some ([], env)))) [x0, .val (.int M), x2, x3, x4, x5] = some (Ip.intsFrom 0 many, [x0, .val (.int M), x2, x3, x4, x5]) :=
  rng1_nat (c := M) (by simp [consA, nameV]) hM h
end Lw

set_option Elab.async false
set_option linter.all false
set_option maxRecDepth 100000
set_option maxHeartbeats 4000000
/-! zip_longest of two lists with a fill value, in a walk -/
namespace Zl
open PySem PyProof.Rows L2 Ip
abbrev T : String := "itertools.zip_longest"
theorem own : Manifest.owners.lookup (String.ofList (['t', 's', 'e', 'g', 'n', 'o', 'l', '_', 'p', 'i', 'z', '.', 's', 'l', 'o', 'o', 't', 'r', 'e', 't', 'i']).reverse) = some Manifest.sig_itertools_zip_longest := by kernel_rfl
theorem slotN : Slot T "__next__" "itertools.zip_longest.__next__" := .of (owner := T) (n := "__next__") (by rw [typeLookup_type, builtinLookup_eq_fast]; kernel_rfl) (by decide +kernel) (by decide +kernel) (by decide +kernel) (by first | exact .inl (by decide +kernel) | exact .inr (by decide +kernel)) (by rw [isSubtype_type]; kernel_rfl)
theorem slotI : Slot T "__iter__" "itertools.zip_longest.__iter__" := .of (owner := T) (n := "__iter__") (by rw [typeLookup_type, builtinLookup_eq_fast]; kernel_rfl) (by decide +kernel) (by decide +kernel) (by decide +kernel) (by first | exact .inl (by decide +kernel) | exact .inr (by decide +kernel)) (by rw [isSubtype_type]; kernel_rfl)
theorem slot0 : Slot T "__init__" "object.__init__" := .of (owner := "object") (n := "__init__") (by rw [typeLookup_type, builtinLookup_eq_fast]; kernel_rfl) (by decide +kernel) (by decide +kernel) (by decide +kernel) (by first | exact .inl (by decide +kernel) | exact .inr (by decide +kernel)) (by rw [isSubtype_type]; kernel_rfl)
theorem entN : entryFor table "itertools.zip_longest.__next__" = some Builtin.«itertools.zip_longest.__next__» := entryFor_of_tree (by kernel_rfl)
theorem entW : entryFor table "itertools.zip_longest.__new__" = some Builtin.«itertools.zip_longest.__new__» := entryFor_of_tree (by kernel_rfl)
theorem argN (a : Value) : argsOk "itertools.zip_longest.__next__" ⟨[a], []⟩ := by unfold argsOk; rw [signature?_of (id := "itertools.zip_longest.__next__") (n := ['_', '_', 't', 'x', 'e', 'n', '_', '_']) (o := ['t', 's', 'e', 'g', 'n', 'o', 'l', '_', 'p', 'i', 'z', '.', 's', 'l', 'o', 'o', 't', 'r', 'e', 't', 'i']) (by kernel_rfl) own]; kernel_rfl
theorem argI (a : Value) : argsOk "itertools.zip_longest.__iter__" ⟨[a], []⟩ := by unfold argsOk; rw [signature?_of (id := "itertools.zip_longest.__iter__") (n := ['_', '_', 'r', 'e', 't', 'i', '_', '_']) (o := ['t', 's', 'e', 'g', 'n', 'o', 'l', '_', 'p', 'i', 'z', '.', 's', 'l', 'o', 'o', 't', 'r', 'e', 't', 'i']) (by kernel_rfl) own]; kernel_rfl
theorem entI : entryFor table "itertools.zip_longest.__iter__" = some Builtin.«dict_keyiterator.__iter__» := entryFor_alias (id' := "dict_keyiterator.__iter__") (by kernel_rfl) (by first | rfl | decide +kernel | (unfold String.splitOn; simp +decide [String.splitOnAux])) (by decide +kernel) (by kernel_rfl)
end Zl

set_option Elab.async false
set_option linter.all false
set_option maxRecDepth 100000
set_option maxHeartbeats 4000000
namespace Zl
open PySem PyProof.Rows L2 Ip
theorem mroT : mroOf (.type T) = pure [.type T, .type "object"] := by rw [mroOf_type]; kernel_rfl
theorem newT : typeLookup (.type T) "__new__" = pure (some (.builtin "itertools.zip_longest.__new__")) := by rw [typeLookup_type, builtinLookup_eq_fast]; kernel_rfl
theorem called : TypeCalled T "itertools.zip_longest.__new__" "object.__init__" := ⟨by decide +kernel, by decide +kernel, ⟨_, _, mroT⟩, madeBy_type mroT newT (by decide +kernel), by decide +kernel, by rw [isSubtype_type]; kernel_rfl, slot0⟩
theorem chT (a b v : Value) : checkTypeCall T ⟨[a, b], [("fillvalue", v)]⟩ = pure () := by kernel_rfl
theorem chN (a b v : Value) : checkBuiltinCall "itertools.zip_longest.__new__" ⟨[.type T, a, b], [("fillvalue", v)]⟩ = pure () := by kernel_rfl
theorem arg0 (a b c v : Value) : argsOk "object.__init__" ⟨[a, b, c], [("fillvalue", v)]⟩ := by unfold argsOk; rw [signature?_of (id := "object.__init__") (n := ['_', '_', 't', 'i', 'n', 'i', '_', '_']) (o := ['t', 'c', 'e', 'j', 'b', 'o']) (by kernel_rfl) F.owner_object]; kernel_rfl
section
variable {prog : Program} {w : World} {A : Around} {E : Value → Shared → Prop} {s : Shared}
theorem initK {newId : String} {self : Value} {rest : List Value} {kw : List (Str × Value)} {Q : Fin → Shared → Prop} (hl : typeLookup (.type T) "__init__" = pure (some (.builtin "object.__init__"))) (hm : Bind.madeBy (.type T) = pure (some newId)) (hne : (some newId != some "object.__new__") = true) (hT : s.TypeIs self T) (hq : Q (.done (.ret .none)) s) :
    wpAny (model prog w) A (Builtin.«object.__init__» ⟨self :: rest, kw⟩) Q E s := by
  cases rest with
  | nil => cases kw with
    | nil => exact wpAny_pure hq
    | cons k ks =>
      repeat (any_goals (first | assumption | wp_step))
  | cons a rest =>
    repeat (any_goals (first | assumption | wp_step))
end
end Zl

set_option Elab.async false
set_option linter.all false
set_option maxRecDepth 100000
set_option maxHeartbeats 4000000
namespace Zl
open PySem PyProof.Rows L2 Ip
section
variable {prog : Program} {w : World} {A : Around} {E : Value → Shared → Prop} {s : Shared}
theorem ctK {newId : String} {Bn : Builtin} {args : List Value} {kw : List (Str × Value)} {Q : Value → Shared → Prop} (ft : TypeCalled T newId "object.__init__") (hne : (some newId != some "object.__new__") = true) (hct : checkTypeCall T ⟨args, kw⟩ = pure ()) (hcn : checkBuiltinCall newId ⟨.type T :: args, kw⟩ = pure ())
    (entryN : entryFor table newId = some Bn) (hok : ∀ obj, argsOk "object.__init__" ⟨obj :: args, kw⟩) (hN : wpAny (model prog w) A.in1.in1 (Bn ⟨.type T :: args, kw⟩) (fun fin s' => ∃ obj, fin = .done (.ret obj) ∧ s'.TypeIs obj T ∧ Q obj s') E s) : wpAny (model prog w) A (call (.type T) args kw) Q E s := by
  obtain ⟨c, tl, hmro⟩ := ft.mro
  have hmade := ft.made
  have hsub := ft.sub
  refine wpAny_call (codeAny_of_tree ?_)
  show wpAny _ _ (callAny (.type T) _) _ _ _
  refine wpAny_pure ⟨Code.quiet_builtin _ (by decide +kernel), codeAny_builtin F.entry_type_call ?_⟩
  rw [Around.under_plain (weight_type_call_type T args kw) (units_type_call_type T args kw)]
  have h1 := ft.notType
  have h2 := ft.canCreate
  repeat (any_goals (first | assumption | wp_step))
  refine codeAny_call_builtin ft.plain entryN (wpAny_of_eq hcn ?_)
  refine wpAny_mono hN (fun fin s1 hf => ?_) (fun _ _ x => x)
  obtain ⟨obj, rfl, hT, hq⟩ := hf
  have hli := ft.init.lookup
  have hbi := ft.init.bind obj
  show wpAny _ _ _ _ _ _
  repeat (any_goals (first | assumption | wp_step))
  refine codeAny_mono (R := fun r s' => r = .ok (.ret .none) ∧ s' = s1) (codeAny_call_builtin ft.init.plain F.entry_object_init (ft.init.check _ _ _ _ _ _ _ _ hT (hok obj) (initK hli hmade hne hT (newId := newId) ⟨rfl, rfl⟩))) fun r s2 hr => ?_
  obtain ⟨rfl, rfl⟩ := hr
  repeat (any_goals (first | assumption | wp_step))
end
end Zl

set_option Elab.async false
set_option linter.all false
set_option maxRecDepth 100000
set_option maxHeartbeats 4000000
namespace Zl
open PySem PyProof.Rows L2 Ip
abbrev I1 (h : Heap) (a : Addr) : Heap := h.push { cls := .type "list_iterator", data := .fields #[.ref a, .int 0 0] }
abbrev I2 (h : Heap) (a b : Addr) : Heap := (I1 h a).push { cls := .type "list_iterator", data := .fields #[.ref b, .int 0 0] }
abbrev I3 (h : Heap) (a b : Addr) : Heap := (I2 h a b).push { cls := .type "tuple", data := .seq #[.ref h.objs.size, .ref (I1 h a).objs.size] }
abbrev I4 (h : Heap) (a b : Addr) : Heap := (I3 h a b).push { cls := .type "tuple", data := .seq #[.none, .none] }
abbrev I5 (h : Heap) (a b : Addr) (v : Value) : Heap := (I4 h a b).push { cls := .type T, data := .fields #[.none, .bool false, v, rawInt 2, .ref (I2 h a b).objs.size, .ref (I3 h a b).objs.size] }
theorem subT : isSubtype (.type T) (.type T) = pure true := by rw [isSubtype_type]; kernel_rfl
theorem subT2 : isSubtype (.type T) (.type ("itertools." ++ "zip_longest")) = pure true := by rw [isSubtype_type]; kernel_rfl
theorem noDict : typeHasDict (.type T) = false := by decide +kernel
section
variable {prog : Program} {w : World} {A : Around} {E : Value → Shared → Prop}
theorem newZ {l1 l2 : Addr} {xs ys : Array Value} {v : Value} {hp : Heap} {g d tk os} {Q : Fin → Shared → Prop} (hl1 : (Shared.heap ⟨hp, g, d, tk, os⟩).IsList l1 xs) (hl2 : (Shared.heap ⟨hp, g, d, tk, os⟩).IsList l2 ys) (h : Q (.done (.ret (.ref (I4 hp l1 l2).objs.size))) ⟨I5 hp l1 l2 v, g, d, tk, os⟩) :
    wpAny (model prog w) A (Builtin.«itertools.zip_longest.__new__» ⟨[.type T, .ref l1, .ref l2], [("fillvalue", v)]⟩) Q E ⟨hp, g, d, tk, os⟩ := by
  have hsub := subT2
  have hnd := noDict
  have hL2 : Heap.IsList (Shared.heap ⟨hp.push { cls := .type "list_iterator", data := .fields #[.ref l1, .int 0 0] }, g, d, tk, os⟩) l2 ys := Heap.IsList.push hl2 _
  wp_walk using wpAny_pyIter_list hl1, wpAny_pyIter_list hL2
  exact h
end
end Zl

set_option Elab.async false
set_option linter.all false
set_option maxRecDepth 100000
set_option maxHeartbeats 4000000
namespace Zl
open PySem PyProof.Rows L2 Ip
abbrev IsZ (h : Heap) (z TI TO : Addr) (f0 v r : Value) : Prop := h.get? z = some { cls := .type T, dict := none, data := .fields #[f0, .bool false, v, r, .ref TI, .ref TO], slots := #[] }
abbrev Live (h : Heap) (a : Addr) : Prop := ∃ o, h.get? a = some o ∧ ∀ v, o.data ≠ .cell v
def itv (a : Addr) (m i : Nat) : Value := if i ≤ m then .ref a else .none
def alive (m n i : Nat) : Int := (if i ≤ m then 1 else 0) + (if i ≤ n then 1 else 0)
theorem live_of_iter {h : Heap} {it l : Addr} {i : Nat} (e : h.IsListIter it l i) : Live h it := by
  obtain ⟨o, e1, _, e2⟩ := e
  exact ⟨o, e1, fun v q => by rw [e2] at q; cases q⟩
theorem Live.keep {h h' : Heap} {a : Addr} (x : Live h a) (k : ∀ o, h.get? a = some o → h'.get? a = some o) : Live h' a := let ⟨o, e, q⟩ := x; ⟨o, k o e, q⟩
section
variable {prog : Program} {w : World} {A : Around} {E : Value → Shared → Prop} {s : Shared}
theorem stopE {α : Type} {Q : α → Shared → Prop} (hh : A.handled = none) (h : ∀ h' e, s.heap.objs.size ≤ h'.objs.size → (∀ b o, s.heap.get? b = some o → h'.get? b = some o) → (∃ o, h'.get? e = some o ∧ o.cls = .type "StopIteration") → E (.ref e) { s with heap := h' }) :
    wpAny (model prog w) A (newExc (.type "StopIteration") [] >>= fun x => (raiseNew x : Sem α)) Q E s := by
  simp only [newExc, newTuple]
  refine wpAny_bind (wpAny_bind (wpAny_newObj_type (wpAny_bind (m := firstArgMember _ _) (wpAny_of_eq (a := Value.none) (by simp only [firstArgMember]; rfl) (wpAny_newObj_type ?_ (by size_fits)))) (by size_fits)))
  exact wpAny_raiseNew_none hh (h _ _ (by simp only [Heap.size_push]; omega) (fun b o q => Heap.get?_push_of_some _ (Heap.get?_push_of_some _ q)) ⟨_, Heap.get?_push_size _ rfl, rfl⟩)
theorem listEnd {it l : Addr} {i : Nat} {xs : Array Value} {Q : Option Value → Shared → Prop} (hh : A.handled = none) (hit : s.heap.IsListIter it l i) (hl : s.heap.IsList l xs) (hx : xs[i]? = none)
    (hQ : ∀ h', Live h' it → s.heap.objs.size ≤ h'.objs.size → Heap.ExtBut it s.heap h' → Q none { s with heap := h' }) : wpAny (model prog w) A (pyNext (.ref it)) Q E s := by
  have ⟨o, ho, hc, hd⟩ := hit
  have ⟨o2, ho2, _, _, hd2⟩ := hl
  unfold pyNext
  refine wpAny_bind (wpAny_attempt (wpAny_callSpecial?_slot (name := Str.ofString "__next__") hit.typeIs slot_listiter_next (wpAny_call_entry slot_listiter_next hit.typeIs entry_listiter_next (wpAny_bind (m := field (.ref it) 0) (wpAny_field ho hd (x := .ref l) rfl ?_)) (args_listiter_next _))))
  simp only [show (Value.ref l == Value.none) = false from rfl]
  rw [if_neg (show ¬ (false = true) from Bool.false_ne_true)]
  refine wpAny_bind (m := field (.ref it) 1) (wpAny_field ho hd (x := .int i 0) rfl (wpAny_bind (m := seqItems? (.ref l)) (wpAny_seqItems ho2 hd2 ?_)))
  simp only [Int.toNat_natCast, hx]
  refine wpAny_bind (wpAny_rule (wpAny_bind (wpAny_setField ho hd (by simp) (stopE (by first | exact hh | (show A.in1.handled = none; exact hh)) fun h' e sz k he => ?_))))
  obtain ⟨oe, he, ce⟩ := he
  refine wpAny_bind (wpAny_isInstance (T := "StopIteration") (b := true) ⟨oe, he, ce⟩ isSubtype_stop (wpAny_pure (hQ h' ?_ (Nat.le_trans (Nat.le_of_eq (Heap.SameBut.update s.heap it _).1.symm) sz) fun b ob hb q => k _ _ ((Heap.SameBut.update ..).extBut b ob hb q))))
  exact ⟨_, k _ _ (Heap.get?_update_self _ ho (Obj.isFreed_of_fields (Obj.data_mapFields hd _))), fun v q => by rw [Obj.data_mapFields hd] at q; cases q⟩
end
end Zl

set_option Elab.async false
set_option linter.all false
set_option maxRecDepth 100000
set_option maxHeartbeats 4000000
namespace Zl
open PySem PyProof.Rows L2 Ip
section
variable {prog : Program} {w : World} {A : Around} {E : Value → Shared → Prop} {s : Shared}
theorem intF {z TI TO : Addr} {f0 v : Value} {n : Int} {Q : Int → Shared → Prop} (hz : IsZ s.heap z TI TO f0 v (rawInt n)) (h : Q n s) : wpAny (model prog w) A (Builtin.Itertools.itIntField (.ref z) 3) Q E s := by
  unfold Builtin.Itertools.itIntField
  exact wpAny_bind (wpAny_field hz rfl (x := rawInt n) rfl (wpAny_pure h))
theorem poolI {p : Addr} {a b : Value} {Q : Array Value → Shared → Prop} (hp : IsPair s.heap p a b) (h : Q #[a, b] s) : wpAny (model prog w) A (Builtin.Itertools.itPoolItems (.ref p)) Q E s := by
  unfold Builtin.Itertools.itPoolItems
  exact wpAny_bind (wpAny_seqItems hp rfl (wpAny_pure h))
theorem freeF {z TI TO : Addr} {v r : Value} {Q : Bool → Shared → Prop} (hz : IsZ s.heap z TI TO .none v r) (h : Q true s) : wpAny (model prog w) A (Builtin.Itertools.itOwnedIsFree (.ref z)) Q E s := by
  unfold Builtin.Itertools.itOwnedIsFree
  exact wpAny_bind (wpAny_field hz rfl (x := .none) rfl (wpAny_pure h))
/-- what a column of it hands on -/
structure DrawOk (prog : Program) (w : World) (D : Value → Nat → Sem (Option Value)) : Prop where
  gone : ∀ {A : Around} {E : Value → Shared → Prop} {s : Shared} {z TI TO : Addr} {a b f0 v r : Value} {k : Nat} {Q : Option Value → Shared → Prop}, IsZ s.heap z TI TO f0 v r → IsPair s.heap TI a b → (#[a, b] : Array Value).getD k .none = .none → Q (some v) s → wpAny (model prog w) A (D (.ref z) k) Q E s
  item : ∀ {A : Around} {E : Value → Shared → Prop} {s : Shared} {z TI TO it l : Addr} {a b f0 v r x : Value} {k i : Nat} {xs : Array Value} {Q : Option Value → Shared → Prop}, IsZ s.heap z TI TO f0 v r → IsPair s.heap TI a b → (#[a, b] : Array Value).getD k .none = .ref it → s.heap.IsListIter it l i → s.heap.IsList l xs → xs[i]? = some x →
    (∀ h', h'.IsListIter it l (i + 1) → Heap.SameBut it s.heap h' → Q (some x) { s with heap := h' }) → wpAny (model prog w) A (D (.ref z) k) Q E s
  last : ∀ {A : Around} {E : Value → Shared → Prop} {s : Shared} {z TI TO it l : Addr} {a b f0 v : Value} {n : Int} {k i : Nat} {xs : Array Value} {Q : Option Value → Shared → Prop}, A.handled = none → it ≠ z → it ≠ TI → TI ≠ z → IsZ s.heap z TI TO f0 v (rawInt n) → IsPair s.heap TI a b → (#[a, b] : Array Value).getD k .none = .ref it → s.heap.IsListIter it l i → s.heap.IsList l xs → xs[i]? = none → n ≠ 1 →
    (∀ h', s.heap.objs.size ≤ h'.objs.size → IsZ h' z TI TO f0 v (rawInt (n - 1)) → h'.get? TI = some { cls := .type "tuple", data := .seq ((#[a, b] : Array Value).setIfInBounds k .none) } → Live h' it → (∀ c o, c ≠ z → c ≠ TI → c ≠ it → s.heap.get? c = some o → h'.get? c = some o) → Q (some v) { s with heap := h' }) → wpAny (model prog w) A (D (.ref z) k) Q E s
  stop : ∀ {A : Around} {E : Value → Shared → Prop} {s : Shared} {z TI TO it l : Addr} {a b f0 v : Value} {k i : Nat} {xs : Array Value} {Q : Option Value → Shared → Prop}, A.handled = none → it ≠ z → it ≠ TI → TI ≠ z → IsZ s.heap z TI TO f0 v (rawInt 1) → IsPair s.heap TI a b → (#[a, b] : Array Value).getD k .none = .ref it → s.heap.IsListIter it l i → s.heap.IsList l xs → xs[i]? = none →
    (∀ h', IsZ h' z TI TO f0 v (rawInt 0) → (∀ c o, c ≠ z → c ≠ it → s.heap.get? c = some o → h'.get? c = some o) → Q none { s with heap := h' }) → wpAny (model prog w) A (D (.ref z) k) Q E s
theorem getD_set {a b x : Value} {k : Nat} (h : (#[a, b] : Array Value).getD k .none = x) : (#[a, b] : Array Value).setIfInBounds k x = #[a, b] := by
  match k, h with
  | 0, h => subst h; rfl
  | 1, h => subst h; rfl
  | n + 2, h => rfl
/-- a column at turn i -/
theorem col {D : Value → Nat → Sem (Option Value)} (dr : DrawOk prog w D) {z TI TO it l : Addr} {a b f0 v : Value} {al : Int} {k m i : Nat} {xs : Array Value} {Q : Option Value → Shared → Prop} (hh : A.handled = none) (d1 : it ≠ z) (d2 : it ≠ TI) (d3 : TI ≠ z) (hz : IsZ s.heap z TI TO f0 v (rawInt al)) (hT : IsPair s.heap TI a b) (hk : (#[a, b] : Array Value).getD k .none = itv it m i)
    (hi : i ≤ m → s.heap.IsListIter it l i) (hv : Live s.heap it) (hl : s.heap.IsList l xs) (hm : xs.size = m) (hal : i = m → al ≠ 1)
    (hQ : ∀ h', s.heap.objs.size ≤ h'.objs.size → IsZ h' z TI TO f0 v (rawInt (al - if i = m then 1 else 0)) → h'.get? TI = some { cls := .type "tuple", data := .seq ((#[a, b] : Array Value).setIfInBounds k (itv it m (i + 1))) } → (i + 1 ≤ m → h'.IsListIter it l (i + 1)) → Live h' it → (∀ c o, c ≠ z → c ≠ TI → c ≠ it → s.heap.get? c = some o → h'.get? c = some o) → Q (some (xs.getD i v)) { s with heap := h' }) : wpAny (model prog w) A (D (.ref z) k) Q E s := by
  rcases Nat.lt_trichotomy i m with g | g | g
  · have e1 : itv it m i = .ref it := if_pos (by omega)
    have e2 : itv it m (i + 1) = .ref it := if_pos (by omega)
    have hb : i < xs.size := by omega
    rw [e1] at hk
    refine dr.item hz hT hk (hi (by omega)) hl (Array.getElem?_eq_getElem hb) fun h' a1 a2 => ?_
    have e3 : xs[i] = xs.getD i v := by simp [Array.getD, hb]
    rw [e3]
    refine hQ h' (Nat.le_of_eq a2.1.symm) ?_ ?_ (fun _ => a1) (live_of_iter a1) fun c o _ _ c3 e => a2.extBut _ _ c3 e
    · rw [if_neg (by omega), Int.sub_zero]
      exact a2.extBut _ _ d1.symm hz
    · rw [e2, getD_set hk]
      exact a2.extBut _ _ d2.symm hT
  · have e1 : itv it m i = .ref it := if_pos (by omega)
    have e2 : itv it m (i + 1) = .none := if_neg (by omega)
    rw [e1] at hk
    refine dr.last hh d1 d2 d3 hz hT hk (hi (by omega)) hl (Array.getElem?_eq_none (by omega)) (hal g) fun h' a0 a1 a2 a3 a4 => ?_
    have e3 : xs.getD i v = v := by
      have : ¬ i < xs.size := by omega
      simp [Array.getD, this]
    have := hQ h' a0 (by rw [if_pos g]; exact a1) (by rw [e2]; exact a2) (fun q => absurd q (by omega)) a3 a4
    rw [e3] at this
    exact this
  · have e1 : itv it m i = .none := if_neg (by omega)
    have e2 : itv it m (i + 1) = .none := if_neg (by omega)
    rw [e1] at hk
    refine dr.gone hz hT hk ?_
    have e3 : xs.getD i v = v := by
      have : ¬ i < xs.size := by omega
      simp [Array.getD, this]
    have := hQ s.heap (Nat.le_refl _) (by rw [if_neg (by omega), Int.sub_zero]; exact hz) (by rw [e2, getD_set hk]; exact hT) (fun q => absurd q (by omega)) hv fun _ _ _ _ _ e => e
    rw [e3] at this
    exact this
theorem with_draw {D : Value → Nat → Sem (Option Value)} {k : Nat} {z : Value} {P : Option Value → Shared → Prop} (g : DrawOk prog w D → wpAny (model prog w) A (D z k) P E s) (h : DrawOk prog w D) : wpAny (model prog w) A (D z k) P E s := g h
structure Ap (z TI TO i1 i2 l1 l2 : Nat) : Prop where
  a : l1 < i1
  b : l2 < i1
  c : i1 < i2
  d : i2 < TI
  e : TI < TO
  f : TO < z
structure ZSt (h : Heap) (z TI TO i1 i2 l1 l2 : Addr) (v : Value) (m n i : Nat) (f0 : Value) : Prop where
  z : IsZ h z TI TO f0 v (rawInt (alive m n i))
  p : IsPair h TI (itv i1 m i) (itv i2 n i)
  o : ∃ c d, IsPair h TO c d
  t1 : i ≤ m → h.IsListIter i1 l1 i
  t2 : i ≤ n → h.IsListIter i2 l2 i
  v1 : Live h i1
  v2 : Live h i2
end
end Zl

set_option Elab.async false
set_option linter.all false
set_option maxRecDepth 100000
set_option maxHeartbeats 4000000
namespace Zl
open PySem PyProof.Rows L2 Ip
section
variable {prog : Program} {w : World} {A : Around} {E : Value → Shared → Prop} {s : Shared}
theorem al_step (m n i : Nat) : (alive m n i - if i = m then 1 else 0) - (if i = n then 1 else 0) = alive m n (i + 1) := by
  have h1 : ∀ m : Nat, (if i ≤ m then (1 : Int) else 0) - (if i = m then 1 else 0) = if i + 1 ≤ m then 1 else 0 := by
    intro m
    rcases Nat.lt_trichotomy i m with q | q | q
    · rw [if_pos (by omega), if_neg (by omega), if_pos (by omega)]; rfl
    · rw [if_pos (by omega), if_pos (by omega), if_neg (by omega)]; rfl
    · rw [if_neg (by omega), if_neg (by omega), if_neg (by omega)]; rfl
  have a := h1 m
  have b := h1 n
  unfold alive
  omega
theorem lt_of {m n i : Nat} (hi : i ≤ max m n) (cA : ¬ (i = m ∧ alive m n i = 1)) (cB : ¬ (i = n ∧ (alive m n i - if i = m then 1 else 0) = 1)) : i < max m n := by
  rcases Nat.lt_or_ge i (max m n) with q | q
  · exact q
  · exfalso
    unfold alive at cA cB
    rcases Nat.lt_trichotomy m n with r | r | r
    · exact cB ⟨by omega, by rw [if_neg (show ¬ i ≤ m by omega), if_pos (show i ≤ n by omega), if_neg (show ¬ i = m by omega)]; rfl⟩
    · exact cB ⟨by omega, by rw [if_pos (show i ≤ m by omega), if_pos (show i ≤ n by omega), if_pos (show i = m by omega)]; rfl⟩
    · exact cA ⟨by omega, by rw [if_pos (show i ≤ m by omega), if_neg (show ¬ i ≤ n by omega)]; rfl⟩
theorem tail {z TI TO : Addr} {v a b r : Value} {Q : Fin → Shared → Prop} (hz5 : IsZ s.heap z TI TO .ellipsis v r) (hTO5 : IsPair s.heap TO a b)
    (hQ : ∀ h8, IsZ h8 z TI TO (rawInt (s.heap.objs.size : Nat)) v r → (∀ c o, c ≠ z → s.heap.get? c = some o → h8.get? c = some o) → IsPair h8 s.heap.objs.size a b → Q (.done (.ret (.ref s.heap.objs.size))) { s with heap := h8 }) :
    wpAny (model prog w) A (do
      let x ← Builtin.Itertools.itPoolItems (.ref TO)
      let y ← newTuple x.toList
      Builtin.Itertools.itOwnedHandOut (.ref z) y
      ret y) Q E s := by
  have zlt : z < s.heap.objs.size := Heap.lt_size hz5
  refine wpAny_bind (poolI hTO5 ?_)
  refine wpAny_bind (wpAny_newTuple ?_)
  show wpAny _ _ (Builtin.Itertools.itOwnedHandOut (.ref z) (.ref s.heap.objs.size) >>= _) _ _ _
  refine wpAny_bind ?_
  unfold Builtin.Itertools.itOwnedHandOut
  have hz6 : IsZ (s.heap.push { cls := .type "tuple", data := .seq #[a, b] }) z TI TO .ellipsis v r := Heap.get?_push_of_some _ hz5
  refine wpAny_bind (wpAny_setField_rec hz6 (by simp) fun h7 hz7 hs7 => ?_)
  refine wpAny_setField_rec hz7 (by simp) fun h8 hz8 hs8 => ?_
  exact wpAny_pure (hQ h8 hz8 (fun c o c1 e => hs8.extBut _ _ c1 (hs7.extBut _ _ c1 (Heap.get?_push_of_some _ e))) (hs8.extBut _ _ (Nat.ne_of_gt zlt) (hs7.extBut _ _ (Nat.ne_of_gt zlt) (Heap.get?_push_size _ rfl))))
theorem next {z TI TO i1 i2 l1 l2 : Addr} {v : Value} {m n i : Nat} {xs ys : Array Value} {Q : Fin → Shared → Prop} (hh : A.handled = none) (D : Ap z TI TO i1 i2 l1 l2) (st : ZSt s.heap z TI TO i1 i2 l1 l2 v m n i .none)
    (hl1 : s.heap.IsList l1 xs) (hl2 : s.heap.IsList l2 ys) (hm : xs.size = m) (hn : ys.size = n) (hi : i ≤ max m n)
    (hQ : i < max m n → ∀ h' (t : Addr), ZSt h' z TI TO i1 i2 l1 l2 v m n (i + 1) (rawInt (t : Nat)) → IsPair h' t (xs.getD i v) (ys.getD i v) → s.heap.objs.size ≤ t → z < t → (∀ c o, c ≠ z → c ≠ TI → c ≠ TO → c ≠ i1 → c ≠ i2 → s.heap.get? c = some o → h'.get? c = some o) → Q (.done (.ret (.ref t))) { s with heap := h' })
    (hE : i = max m n → ∀ h' e, (∀ c o, c ≠ z → c ≠ TI → c ≠ TO → c ≠ i1 → c ≠ i2 → s.heap.get? c = some o → h'.get? c = some o) → (∃ o, h'.get? e = some o ∧ o.cls = .type "StopIteration") → E (.ref e) { s with heap := h' }) :
    wpAny (model prog w) A (Builtin.«itertools.zip_longest.__next__» ⟨[.ref z], []⟩) Q E s := by
  obtain ⟨hp0, g, dr0, tk, os⟩ := s
  obtain ⟨Da, Db, Dc, Dd, De, Df⟩ := D
  obtain ⟨hz, hTI, ⟨c0, d0, hTO⟩, t1, t2, v1, v2⟩ := st
  show wpAny _ _ (Builtin.Itertools.itIntField (.ref z) 3 >>= _) _ _ _
  refine wpAny_bind (intF hz ?_)
  have hne : alive m n i ≠ 0 := by unfold alive; split <;> split <;> omega
  have h0 : (alive m n i == 0) = false := beq_eq_false_iff_ne.mpr hne
  simp only [h0]
  show wpAny _ _ (field (.ref z) 4 >>= _) _ _ _
  refine wpAny_bind (wpAny_field hz rfl (x := .ref TI) rfl ?_)
  refine wpAny_bind (poolI hTI ?_)
  refine wpAny_bind (freeF hz ?_)
  simp only [if_true]
  refine wpAny_bind (wpAny_rule ?_)
  refine wpAny_bind (wpAny_field hz rfl (x := .ref TO) rfl ?_)
  refine wpAny_bind (wpAny_setField_rec hz (by simp) fun h1 hz1 hs1 => ?_)
  replace hz1 : IsZ h1 z TI TO .ellipsis v (rawInt (alive m n i)) := hz1
  have k1 : ∀ c o, c ≠ z → hp0.get? c = some o → h1.get? c = some o := fun c o q e => hs1.extBut _ _ q e
  have hTI1 := k1 _ _ (show @Ne Nat TI z by omega) hTI
  have hTO1 := k1 _ _ (show @Ne Nat TO z by omega) hTO
  have t11 : i ≤ m → h1.IsListIter i1 l1 i := fun q => (t1 q).at fun o e => k1 _ o (show @Ne Nat i1 z by omega) e
  have t21 : i ≤ n → h1.IsListIter i2 l2 i := fun q => (t2 q).at fun o e => k1 _ o (show @Ne Nat i2 z by omega) e
  have v11 : Live h1 i1 := v1.keep fun o e => k1 _ o (show @Ne Nat i1 z by omega) e
  have v21 : Live h1 i2 := v2.keep fun o e => k1 _ o (show @Ne Nat i2 z by omega) e
  have hl11 : h1.IsList l1 xs := hl1.at fun o e => k1 _ o (show @Ne Nat l1 z by omega) e
  have hl21 : h1.IsList l2 ys := hl2.at fun o e => k1 _ o (show @Ne Nat l2 z by omega) e
  refine wpAny_bind ?_
  simp only [show List.range (#[itv i1 m i, itv i2 n i] : Array Value).size = [0, 1] from rfl, List.forIn_cons, List.forIn_nil]
  refine wpAny_bind (wpAny_bind (wpAny_onRaise ?_))
  refine with_draw (fun dr => ?_) ?_
  · by_cases cA : i = m ∧ alive m n i = 1
    · obtain ⟨im, al⟩ := cA
      have hn' : n < m := by
        unfold alive at al
        rw [if_pos (by omega)] at al
        rcases Nat.lt_or_ge n i with q | q
        · omega
        · rw [if_pos q] at al; omega
      have hmax : i = max m n := by omega
      rw [al] at hz1
      refine dr.stop hh (show @Ne Nat i1 z by omega) (show @Ne Nat i1 TI by omega) (show @Ne Nat TI z by omega) hz1 hTI1 (k := 0) (show _ = Value.ref i1 from if_pos (by omega)) (t11 (by omega)) hl11 (Array.getElem?_eq_none (by omega)) fun h2 hz2 k2 => ?_
      refine wpAny_bind (wpAny_setField_rec hz2 (by simp) fun h3 hz3 hs3 => ?_)
      refine wpAny_bind (stopE hh fun h4 e _ k4 he => ?_)
      exact hE hmax h4 e (fun c o c1 c2 c3 c4 c5 q => k4 _ _ (hs3.extBut _ _ c1 (k2 _ _ c1 c4 (k1 _ _ c1 q)))) he
    · refine col dr hh (show @Ne Nat i1 z by omega) (show @Ne Nat i1 TI by omega) (show @Ne Nat TI z by omega) hz1 hTI1 (k := 0) rfl t11 v11 hl11 hm (fun q q' => cA ⟨q, q'⟩) fun h2 sz2 hz2 hTI2 t12 v12 k2 => ?_
      replace hTI2 : IsPair h2 TI (itv i1 m (i + 1)) (itv i2 n i) := hTI2
      have hTO2 : IsPair h2 TO c0 d0 := k2 _ _ (show @Ne Nat TO z by omega) (show @Ne Nat TO TI by omega) (show @Ne Nat TO i1 by omega) hTO1
      refine wpAny_bind (poolI hTO2 ?_)
      refine wpAny_bind (wpAny_updateSeq_pair hTO2 fun h3 hTO3 hs3 => ?_)
      replace hTO3 : IsPair h3 TO (xs.getD i v) d0 := hTO3
      refine wpAny_bind (wpAny_letGo (wpAny_pure ?_))
      have k3 : ∀ c o, c ≠ z → c ≠ TI → c ≠ TO → c ≠ i1 → h1.get? c = some o → h3.get? c = some o := fun c o c1 c2 c3 c4 q => hs3.extBut _ _ c3 (k2 _ _ c1 c2 c4 q)
      have hz3 := hs3.extBut _ _ (show @Ne Nat z TO by omega) hz2
      have hTI3 := hs3.extBut _ _ (show @Ne Nat TI TO by omega) hTI2
      have t13 : i + 1 ≤ m → h3.IsListIter i1 l1 (i + 1) := fun q => (t12 q).at fun o e => hs3.extBut _ o (show @Ne Nat i1 TO by omega) e
      have v13 : Live h3 i1 := v12.keep fun o e => hs3.extBut _ o (show @Ne Nat i1 TO by omega) e
      have t23 : i ≤ n → h3.IsListIter i2 l2 i := fun q => (t21 q).at fun o e => k3 _ o (show @Ne Nat i2 z by omega) (show @Ne Nat i2 TI by omega) (show @Ne Nat i2 TO by omega) (show @Ne Nat i2 i1 by omega) e
      have v23 : Live h3 i2 := v21.keep fun o e => k3 _ o (show @Ne Nat i2 z by omega) (show @Ne Nat i2 TI by omega) (show @Ne Nat i2 TO by omega) (show @Ne Nat i2 i1 by omega) e
      have hl23 : h3.IsList l2 ys := hl21.at fun o e => k3 _ o (show @Ne Nat l2 z by omega) (show @Ne Nat l2 TI by omega) (show @Ne Nat l2 TO by omega) (show @Ne Nat l2 i1 by omega) e
      refine wpAny_bind (wpAny_bind (wpAny_onRaise ?_))
      by_cases cB : i = n ∧ (alive m n i - if i = m then 1 else 0) = 1
      · obtain ⟨en, al⟩ := cB
        have hmax : i = max m n := by
          unfold alive at al
          rw [if_pos (show i ≤ n by omega)] at al
          rcases Nat.lt_trichotomy i m with q | q | q
          · rw [if_pos (show i ≤ m by omega), if_neg (show ¬ i = m by omega)] at al; omega
          · omega
          · omega
        rw [al] at hz3
        refine dr.stop hh (show @Ne Nat i2 z by omega) (show @Ne Nat i2 TI by omega) (show @Ne Nat TI z by omega) hz3 hTI3 (k := 1) (show _ = Value.ref i2 from if_pos (by omega)) (t23 (by omega)) hl23 (Array.getElem?_eq_none (by omega)) fun h4 hz4 k4 => ?_
        refine wpAny_bind (wpAny_setField_rec hz4 (by simp) fun h5 hz5 hs5 => ?_)
        refine wpAny_bind (stopE hh fun h6 e _ k6 he => ?_)
        exact hE hmax h6 e (fun c o c1 c2 c3 c4 c5 q => k6 _ _ (hs5.extBut _ _ c1 (k4 _ _ c1 c5 (k3 _ _ c1 c2 c3 c4 (k1 _ _ c1 q))))) he
      · refine col dr hh (show @Ne Nat i2 z by omega) (show @Ne Nat i2 TI by omega) (show @Ne Nat TI z by omega) hz3 hTI3 (k := 1) rfl t23 v23 hl23 hn (fun q q' => cB ⟨q, q'⟩) fun h4 sz4 hz4 hTI4 t24 v24 k4 => ?_
        replace hTI4 : IsPair h4 TI (itv i1 m (i + 1)) (itv i2 n (i + 1)) := hTI4
        have hTO4 : IsPair h4 TO (xs.getD i v) d0 := k4 _ _ (show @Ne Nat TO z by omega) (show @Ne Nat TO TI by omega) (show @Ne Nat TO i2 by omega) hTO3
        refine wpAny_bind (poolI hTO4 ?_)
        refine wpAny_bind (wpAny_updateSeq_pair hTO4 fun h5 hTO5 hs5 => ?_)
        replace hTO5 : IsPair h5 TO (xs.getD i v) (ys.getD i v) := hTO5
        refine wpAny_bind (wpAny_letGo (wpAny_pure (wpAny_pure ?_)))
        have hlt := lt_of hi cA cB
        have hal : (alive m n i - if i = m then 1 else 0) - (if i = n then 1 else 0) = alive m n (i + 1) := al_step m n i
        rw [hal] at hz4
        have k5 : ∀ c o, c ≠ z → c ≠ TI → c ≠ TO → c ≠ i1 → c ≠ i2 → hp0.get? c = some o → h5.get? c = some o := fun c o c1 c2 c3 c4 c5 q => hs5.extBut _ _ c3 (k4 _ _ c1 c2 c5 (k3 _ _ c1 c2 c3 c4 (k1 _ _ c1 q)))
        have hz5 : IsZ h5 z TI TO .ellipsis v (rawInt (alive m n (i + 1))) := hs5.extBut _ _ (show @Ne Nat z TO by omega) hz4
        have hTI5 : IsPair h5 TI (itv i1 m (i + 1)) (itv i2 n (i + 1)) := hs5.extBut _ _ (show @Ne Nat TI TO by omega) hTI4
        have t15 : i + 1 ≤ m → h5.IsListIter i1 l1 (i + 1) := fun q => (t13 q).at fun o e => hs5.extBut _ o (show @Ne Nat i1 TO by omega) (k4 _ o (show @Ne Nat i1 z by omega) (show @Ne Nat i1 TI by omega) (show @Ne Nat i1 i2 by omega) e)
        have v15 : Live h5 i1 := v13.keep fun o e => hs5.extBut _ o (show @Ne Nat i1 TO by omega) (k4 _ o (show @Ne Nat i1 z by omega) (show @Ne Nat i1 TI by omega) (show @Ne Nat i1 i2 by omega) e)
        have t25 : i + 1 ≤ n → h5.IsListIter i2 l2 (i + 1) := fun q => (t24 q).at fun o e => hs5.extBut _ o (show @Ne Nat i2 TO by omega) e
        have v25 : Live h5 i2 := v24.keep fun o e => hs5.extBut _ o (show @Ne Nat i2 TO by omega) e
        refine tail (s := { heap := h5, gens := g, drawn := dr0, toks := tk, os := os }) hz5 hTO5 fun h8 hz8 k8 hp8 => ?_
        replace hz8 : IsZ h8 z TI TO (rawInt h5.objs.size) v (rawInt (alive m n (i + 1))) := hz8
        replace k8 : ∀ c o, c ≠ z → h5.get? c = some o → h8.get? c = some o := k8
        have zlt : z < h5.objs.size := Heap.lt_size hz5
        refine hQ hlt h8 h5.objs.size ⟨hz8, k8 _ _ (show @Ne Nat TI z by omega) hTI5, ⟨_, _, k8 _ _ (show @Ne Nat TO z by omega) hTO5⟩, fun q => (t15 q).at fun o e => k8 _ o (show @Ne Nat i1 z by omega) e, fun q => (t25 q).at fun o e => k8 _ o (show @Ne Nat i2 z by omega) e, v15.keep fun o e => k8 _ o (show @Ne Nat i1 z by omega) e, v25.keep fun o e => k8 _ o (show @Ne Nat i2 z by omega) e⟩ ?_ ?_ zlt fun c o c1 c2 c3 c4 c5 q => k8 _ _ c1 (k5 c o c1 c2 c3 c4 c5 q)
        · exact hp8
        · have e1 : h1.objs.size = hp0.objs.size := hs1.1
          have e3 : h3.objs.size = h2.objs.size := hs3.1
          have e5 : h5.objs.size = h4.objs.size := hs5.1
          have sz2 : h1.objs.size ≤ h2.objs.size := sz2
          have sz4 : h3.objs.size ≤ h4.objs.size := sz4
          show hp0.objs.size ≤ h5.objs.size
          rw [e5, ← e1]
          exact Nat.le_trans sz2 (by rw [← e3]; exact sz4)
  · refine ⟨?_, ?_, ?_, ?_⟩
    · intro A E s z TI TO a b f0 v r k Q hz hTI hk hq
      show wpAny _ _ (field (.ref z) 4 >>= _) _ _ _
      refine wpAny_bind (wpAny_field hz rfl (x := .ref TI) rfl ?_)
      refine wpAny_bind (poolI hTI ?_)
      refine wpAny_bind (wpAny_field hz rfl (x := v) rfl ?_)
      simp only [hk]
      exact wpAny_pure hq
    · intro A E s z TI TO it l a b f0 v r x k i xs Q hz hTI hk hit hl hx hq
      show wpAny _ _ (field (.ref z) 4 >>= _) _ _ _
      refine wpAny_bind (wpAny_field hz rfl (x := .ref TI) rfl ?_)
      refine wpAny_bind (poolI hTI ?_)
      refine wpAny_bind (wpAny_field hz rfl (x := v) rfl ?_)
      simp only [hk]
      simp only [show (Value.ref it == Value.none) = false from rfl]
      refine wpAny_bind (wpAny_onRaise ?_)
      refine wpAny_pyNext_list_item hit hl hx fun h' a1 a2 => ?_
      exact wpAny_pure (hq h' a1 a2)
    · intro A E s z TI TO it l a b f0 v n k i xs Q hh d1 d2 d3 hz hTI hk hit hl hx hn hq
      show wpAny _ _ (field (.ref z) 4 >>= _) _ _ _
      refine wpAny_bind (wpAny_field hz rfl (x := .ref TI) rfl ?_)
      refine wpAny_bind (poolI hTI ?_)
      refine wpAny_bind (wpAny_field hz rfl (x := v) rfl ?_)
      simp only [hk]
      simp only [show (Value.ref it == Value.none) = false from rfl]
      refine wpAny_bind (wpAny_onRaise ?_)
      refine listEnd hh hit hl hx fun h1 lv szE a1 => ?_
      have hz1 : IsZ h1 z TI TO f0 v (rawInt n) := a1 _ _ d1.symm hz
      have hT1 : IsPair h1 TI a b := a1 _ _ d2.symm hTI
      refine wpAny_bind (poolI hT1 ?_)
      simp only [hk]
      simp only [show (Value.ref it == Value.none) = false from rfl]
      rw [if_neg (show ¬ (false = true) from Bool.false_ne_true)]
      refine wpAny_bind (intF hz1 ?_)
      refine wpAny_bind (wpAny_setField_rec hz1 (by simp) fun h2 hz2 hs2 => ?_)
      replace hz2 : IsZ h2 z TI TO f0 v (rawInt (n - 1)) := hz2
      rw [if_neg (show ¬ ((n == 1) = true) from fun e => hn (by simpa using e))]
      refine wpAny_bind (wpAny_rule ?_)
      have hT2 : IsPair h2 TI a b := hs2.extBut _ _ d3 hT1
      refine wpAny_bind (wpAny_updateSeq_pair hT2 fun h3 hT3 hs3 => ?_)
      refine wpAny_bind (wpAny_letGo (wpAny_pure ?_))
      exact hq h3 (by rw [hs3.1]; show s.heap.objs.size ≤ h2.objs.size; rw [hs2.1]; exact szE) (hs3.extBut _ _ d3.symm hz2) hT3 (lv.keep fun o e => hs3.extBut _ _ d2 (hs2.extBut _ _ d1 e)) fun c o c1 c2 c3 e => hs3.extBut _ _ c2 (hs2.extBut _ _ c1 (a1 _ _ c3 e))
    · intro A E s z TI TO it l a b f0 v k i xs Q hh d1 d2 d3 hz hTI hk hit hl hx hq
      show wpAny _ _ (field (.ref z) 4 >>= _) _ _ _
      refine wpAny_bind (wpAny_field hz rfl (x := .ref TI) rfl ?_)
      refine wpAny_bind (poolI hTI ?_)
      refine wpAny_bind (wpAny_field hz rfl (x := v) rfl ?_)
      simp only [hk]
      simp only [show (Value.ref it == Value.none) = false from rfl]
      refine wpAny_bind (wpAny_onRaise ?_)
      refine listEnd hh hit hl hx fun h1 lv szE a1 => ?_
      have hz1 : IsZ h1 z TI TO f0 v (rawInt 1) := a1 _ _ d1.symm hz
      have hT1 : IsPair h1 TI a b := a1 _ _ d2.symm hTI
      refine wpAny_bind (poolI hT1 ?_)
      simp only [hk]
      simp only [show (Value.ref it == Value.none) = false from rfl]
      rw [if_neg (show ¬ (false = true) from Bool.false_ne_true)]
      refine wpAny_bind (intF hz1 ?_)
      refine wpAny_bind (wpAny_setField_rec hz1 (by simp) fun h2 hz2 hs2 => ?_)
      replace hz2 : IsZ h2 z TI TO f0 v (rawInt 0) := hz2
      rw [if_pos (show (((1 : Int) == 1) = true) from rfl)]
      exact wpAny_pure (hq h2 hz2 fun c o c1 c2 e => hs2.extBut _ _ c1 (a1 _ _ c2 e))
end
end Zl

set_option Elab.async false
set_option linter.all false
set_option maxRecDepth 100000
set_option maxHeartbeats 4000000
namespace Zl
open PySem PyProof.Rows L2 Ip
section
variable {prog : Program} {w : World} {A : Around} {E : Value → Shared → Prop} {s : Shared}
theorem pyNextZ {z TI TO i1 i2 l1 l2 : Addr} {v : Value} {m n i : Nat} {xs ys : Array Value} {Q : Option Value → Shared → Prop} (hh : A.handled = none) (D : Ap z TI TO i1 i2 l1 l2) (st : ZSt s.heap z TI TO i1 i2 l1 l2 v m n i .none)
    (hl1 : s.heap.IsList l1 xs) (hl2 : s.heap.IsList l2 ys) (hm : xs.size = m) (hn : ys.size = n) (hi : i ≤ max m n)
    (hQ : i < max m n → ∀ h' (t : Addr), ZSt h' z TI TO i1 i2 l1 l2 v m n (i + 1) (rawInt (t : Nat)) → IsPair h' t (xs.getD i v) (ys.getD i v) → s.heap.objs.size ≤ t → z < t → (∀ c o, c ≠ z → c ≠ TI → c ≠ TO → c ≠ i1 → c ≠ i2 → s.heap.get? c = some o → h'.get? c = some o) → Q (some (.ref t)) { s with heap := h' })
    (hE : i = max m n → ∀ h', (∀ c o, c ≠ z → c ≠ TI → c ≠ TO → c ≠ i1 → c ≠ i2 → s.heap.get? c = some o → h'.get? c = some o) → Q none { s with heap := h' }) :
    wpAny (model prog w) A (pyNext (.ref z)) Q E s := by
  have hT : s.TypeIs (.ref z) T := ⟨_, st.z, rfl⟩
  unfold pyNext
  refine wpAny_bind (wpAny_attempt (wpAny_callSpecial?_slot (name := Str.ofString "__next__") hT slotN (wpAny_call_entry slotN hT entN (next (by first | exact hh | (show A.in1.handled = none; exact hh)) D st hl1 hl2 hm hn hi (fun q h' t a1 a2 a3 a4 a5 => ?_) (fun q h' e a1 he => ?_)) (argN _))))
  · exact ⟨_, rfl, wpAny_pure (hQ q h' t a1 a2 a3 a4 a5)⟩
  · obtain ⟨o, ho, hc⟩ := he
    exact wpAny_bind (wpAny_isInstance (T := "StopIteration") (b := true) ⟨o, ho, hc⟩ isSubtype_stop (wpAny_pure (hE q h' a1)))
theorem goZ {elts : List Expr} {x1} {pos : Pos} {z TI TO t : Addr} {v r : Value} {Q : Unit → Shared → Prop} (hz : IsZ s.heap z TI TO (rawInt (t : Nat)) v r)
    (hQ : ∀ h', IsZ h' z TI TO .none v r → Heap.SameBut z s.heap h' → Q () { s with heap := h' }) : wpAny (model prog w) A (letOwnedTupleGo (.Tuple elts x1 pos) (.ref z) (.ref t)) Q E s := by
  unfold letOwnedTupleGo
  refine wpAny_bind (wpAny_load hz ?_)
  have hc : (["enumerate", "zip", "dict_itemiterator", "dict_reverseitemiterator", "odict_iterator", "itertools.zip_longest", "itertools.pairwise"].contains T && (#[rawInt (t : Nat), .bool false, v, r, .ref TI, .ref TO] : Array Value)[0]? == some (rawInt (t : Nat))) = true := by
    rw [Bool.and_eq_true]
    exact ⟨by decide, by simp⟩
  refine (show wpAny (model prog w) A (if _ then _ else _) Q E s from ?_)
  rw [if_pos hc]
  exact wpAny_bind (wpAny_rule (show wpAny _ _ (setField (.ref z) 0 .none) Q E s from wpAny_setField_rec hz (by simp) fun h' hz' hs' => hQ h' hz' hs'))
theorem iterZ {z TI TO : Addr} {f0 v r : Value} {Q : Value → Shared → Prop} (hz : IsZ s.heap z TI TO f0 v r) (h : Q (.ref z) s) : wpAny (model prog w) A (pyIter (.ref z)) Q E s := by
  have hT : s.TypeIs (.ref z) T := ⟨_, hz, rfl⟩
  refine wpAny_pyIter_slot hT slotI (wpAny_call_entry slotI hT entI ?_ (argI _))
  exact wpAny_pure ⟨_, rfl, T, _, hT, slotN.lookup, h⟩
end
end Zl

set_option Elab.async false
set_option linter.all false
set_option maxRecDepth 100000
set_option maxHeartbeats 4000000
namespace Zl
open PySem PyProof.Rows L2 Ip
/-- the lists at a and b, of m and n items, filled up with f, the items in new pairs -/
def Itl (K : PySem.W.Frag) (a b : Addr) (m n : Nat) (f : V) : It :=
  ⟨fun i H => ∃ xs ys : List V, SqL K H a xs ∧ SqL K H b ys ∧ xs.length = m ∧ ys.length = n ∧ i < max m n,
    fun i H v H' => ∃ t, v = .ref t ∧ H t = none ∧ ∃ x y, H' = upd H t (.tup [x, y]) ∧ (∀ xs, SqL K H a xs → x = xs.getD i f) ∧ ∀ ys, SqL K H b ys → y = ys.getD i f,
    fun i H => ∃ xs ys : List V, SqL K H a xs ∧ SqL K H b ys ∧ xs.length = m ∧ ys.length = n ∧ i = max m n⟩
theorem relD {xs : List V} {its : List Value} {f : V} {u : Value} (h : Vals xs its) (hf : RelV f u) (i : Nat) : RelV (xs.getD i f) (its.toArray.getD i u) := by
  have hl := h.length
  by_cases c : i < xs.length
  · obtain ⟨w, h1, h2⟩ := h.get (List.getElem?_eq_getElem c)
    have c2 : i < its.length := by omega
    have e1 : xs.getD i f = xs[i] := by simp [List.getD, c]
    have e2 : its.toArray.getD i u = its[i] := by simp [Array.getD, c2]
    rw [List.getElem?_eq_getElem c2] at h1
    cases h1
    rw [e1, e2]
    exact h2
  · have c2 : ¬ i < its.length := by omega
    have e1 : xs.getD i f = f := by simp [List.getD, c]
    have e2 : its.toArray.getD i u = u := by simp [Array.getD, c2]
    rw [e1, e2]
    exact hf
theorem turnZ {P : Program} {w : World} {K : PySem.W.Frag} {elts : List Expr} {kk : Nat} {tpos : Pos} {a b z TI TO i1 i2 : Addr} {m n : Nat} {f : V} {u : Value} (D : Ap z TI TO i1 i2 a b) (hf : RelV f u) :
    Turn P w K (.Tuple elts kk tpos) (Itl K a b m n f) [z, TI, TO, i1, i2] z (fun i h => ZSt h z TI TO i1 i2 a b u m n i .none) where
  mem := by simp
  obj := fun i h st c hc => by
    obtain ⟨hz, hTI, ⟨x, y, hTO⟩, t1, t2, ⟨o1, e1, q1⟩, ⟨o2, e2, q2⟩⟩ := st
    have e' : c = z ∨ c = TI ∨ c = TO ∨ c = i1 ∨ c = i2 := by simpa using hc
    rcases e' with q | q | q | q | q
    · rw [q]; exact ⟨_, hz, fun v q => nomatch q⟩
    · rw [q]; exact ⟨_, hTI, fun v q => nomatch q⟩
    · rw [q]; exact ⟨_, hTO, fun v q => nomatch q⟩
    · rw [q]; exact ⟨o1, e1, q1⟩
    · rw [q]; exact ⟨o2, e2, q2⟩
  keep := fun i h h' st k => by
    obtain ⟨hz, hTI, ⟨x, y, hTO⟩, t1, t2, v1, v2⟩ := st
    exact ⟨k z (by simp) _ hz, k TI (by simp) _ hTI, ⟨x, y, k TO (by simp) _ hTO⟩, fun q => (t1 q).at fun o q => k i1 (by simp) o q, fun q => (t2 q).at fun o q => k i2 (by simp) o q, v1.keep fun o q => k i1 (by simp) o q, v2.keep fun o q => k i2 (by simp) o q⟩
  item := by
    intro X hP hw hK hc i pins s σ H E I hfp st hg
    subst hP hw hK
    obtain ⟨xs, ys, hqx, hqy, lx, ly, hi⟩ := hg
    obtain ⟨its, rv, p, _⟩ := I.list hqx
    obtain ⟨its2, rv2, p2, _⟩ := I.list hqy
    have h1 := rv.length
    have h2 := rv2.length
    have hzl : z < s.heap.objs.size := Heap.lt_size st.z
    refine pyNextZ (I.ok.hd hc) D st p.isList p2.isList (by simp; omega) (by simp; omega) (Nat.le_of_lt hi) (fun _ h' t st' hT ht zt hk => ?_) (fun q => absurd q (Nat.ne_of_lt hi))
    refine ⟨_, rfl, goZ (s := { s with heap := h' }) st'.z fun h'' z'' sb => ?_⟩
    have hT2 : h''.get? t = some { cls := .type "tuple", data := .seq #[its.toArray.getD i u, its2.toArray.getD i u] } := (sb.2 _ (Nat.ne_of_gt zt)).trans hT
    have new : ObjOk X.prog X.w (upd H t (.tup [xs.getD i f, ys.getD i f])) h'' t (.tup [xs.getD i f, ys.getD i f]) :=
      ⟨by show 2 ≤ sizeLine; decide, [its.toArray.getD i u, its2.toArray.getD i u], .cons (relD rv hf i) (.cons (relD rv2 hf i) .nil), ⟨_, hT2, rfl, _, rfl⟩⟩
    have I1 : Inv X pins σ (upd H t (.tup [xs.getD i f, ys.getD i f])) { s with heap := h'' } :=
      I.turnedNew (t' := s.toks) (ch := [z, TI, TO, i1, i2]) (fun c o hb q => (sb.2 c (fun q' => hb (by simp [q']))).trans (hk c o (fun q' => hb (by simp [q'])) (fun q' => hb (by simp [q'])) (fun q' => hb (by simp [q'])) (fun q' => hb (by simp [q'])) (fun q' => hb (by simp [q'])) q)) hfp ht new
    obtain ⟨hz', hTI', ⟨x0, y0, hTO'⟩, t1', t2', v1', v2'⟩ := st'
    obtain ⟨Da, Db, Dc, Dd, De, Df⟩ := D
    have n1 : @Ne Nat TI z := by omega
    have n2 : @Ne Nat TO z := by omega
    have n3 : @Ne Nat i1 z := by omega
    have n4 : @Ne Nat i2 z := by omega
    refine ⟨.ref t, _, I1, rfl, ⟨t, rfl, I.hok.fresh ht, _, _, rfl, fun l hl => by rw [I.list_inj hl hqx], fun l hl => by rw [I.list_inj hl hqy]⟩, ⟨z'', (sb.2 _ n1).trans hTI', ⟨x0, y0, (sb.2 _ n2).trans hTO'⟩, fun q => (t1' q).at fun o q => (sb.2 _ n3).trans q, fun q => (t2' q).at fun o q => (sb.2 _ n4).trans q, v1'.keep fun o q => (sb.2 _ n3).trans q, v2'.keep fun o q => (sb.2 _ n4).trans q⟩, fun c hcm => ?_⟩
    have hlt : @LT.lt Nat _ c t := by
      have zt : @LT.lt Nat _ z t := zt
      have e' : c = z ∨ c = TI ∨ c = TO ∨ c = i1 ∨ c = i2 := by simpa using hcm
      rcases e' with q | q | q | q | q <;> (rw [q]; omega)
    rw [upd_ne (Nat.ne_of_lt hlt)]
    exact (hfp c hcm).1
  done := by
    intro X hP hw hK hc i pins s σ H E I hfp st hg
    subst hP hw hK
    obtain ⟨xs, ys, hqx, hqy, lx, ly, hi⟩ := hg
    obtain ⟨its, rv, p, _⟩ := I.list hqx
    obtain ⟨its2, rv2, p2, _⟩ := I.list hqy
    have h1 := rv.length
    have h2 := rv2.length
    refine pyNextZ (I.ok.hd hc) D st p.isList p2.isList (by simp; omega) (by simp; omega) (Nat.le_of_eq hi) (fun q => absurd hi (Nat.ne_of_lt q)) (fun _ h' hk => ?_)
    exact ⟨rfl, I.turnedL (t' := s.toks) (ch := [z, TI, TO, i1, i2]) (fun c o hb q => hk c o (fun q' => hb (by simp [q'])) (fun q' => hb (by simp [q'])) (fun q' => hb (by simp [q'])) (fun q' => hb (by simp [q'])) (fun q' => hb (by simp [q'])) q) hfp⟩
  self := fun A i s Q E st h => iterZ st.z h
end Zl

set_option Elab.async false
set_option linter.all false
set_option maxRecDepth 100000
set_option maxHeartbeats 4000000
namespace Zl
open PySem PyProof.Rows L2 Ip
section
variable {M : Model} {A : Around} {E : Value → Shared → Prop} {s : Shared}
theorem callWith_tk {pos : Pos} {args : List (Bool × Sem Value)} {kws : List (Option Str × Sem Value)} {Q : Value → Shared → Prop} (hp : args.any (·.1) = false) (hk : kws.any (·.1.isNone) = false)
    (h : wpAny M A (evalArgs (.type T) true args kws) (fun a s1 => wpAny M A (call (.type T) a.pos a.kw) Q E s1) E s) : wpAny M A (callWith pos (.type T) [] args kws) Q E s := by
  unfold callWith
  refine wpAny_bind (wpAny_holding (wpAny_mono h (fun a s1 h1 => wpAny_bind (wpAny_standAt ?_)) fun _ _ q => q))
  simp only [hp, hk, Bool.or_false]
  exact wpAny_bind (wpAny_pure (wpAny_bind (wpAny_mono h1 (fun r s2 hr => wpAny_bind (wpAny_holding (wpAny_point (wpAny_pure hr)))) fun _ _ q => q)))
end
section
variable {prog : Program} {w : World} {A : Around} {E : Value → Shared → Prop} {s : Shared}
theorem call_z {l1 l2 : Addr} {xs ys : Array Value} {v : Value} {Q : Value → Shared → Prop} (hl1 : s.heap.IsList l1 xs) (hl2 : s.heap.IsList l2 ys)
    (h : ∀ h', ZSt h' (s.heap.objs.size + 4) (s.heap.objs.size + 2) (s.heap.objs.size + 3) s.heap.objs.size (s.heap.objs.size + 1) l1 l2 v xs.size ys.size 0 .none → (∀ c o, s.heap.get? c = some o → h'.get? c = some o) → Q (.ref (s.heap.objs.size + 4)) { s with heap := h' }) :
    wpAny (model prog w) A (call (.type T) [.ref l1, .ref l2] [("fillvalue", v)]) Q E s := by
  obtain ⟨hp, g, d, tk, os⟩ := s
  refine ctK called (by decide) (chT _ _ _) (chN _ _ _) entW (fun obj => arg0 obj _ _ _) (newZ hl1 hl2 ?_)
  have z1 : (I1 hp l1).objs.size = hp.objs.size + 1 := Heap.size_push ..
  have z2 : (I2 hp l1 l2).objs.size = hp.objs.size + 2 := by rw [Heap.size_push, z1]
  have z3 : (I3 hp l1 l2).objs.size = hp.objs.size + 3 := by rw [Heap.size_push, z2]
  have z4 : (I4 hp l1 l2).objs.size = hp.objs.size + 4 := by rw [Heap.size_push, z3]
  have g5 : (I5 hp l1 l2 v).get? (I4 hp l1 l2).objs.size = some _ := Heap.get?_push_size _ rfl
  have g4 : (I5 hp l1 l2 v).get? (I3 hp l1 l2).objs.size = some _ := Heap.get?_push_of_some _ (Heap.get?_push_size _ rfl)
  have g3 : (I5 hp l1 l2 v).get? (I2 hp l1 l2).objs.size = some _ := Heap.get?_push_of_some _ (Heap.get?_push_of_some _ (Heap.get?_push_size _ rfl))
  have g2 : (I5 hp l1 l2 v).get? (I1 hp l1).objs.size = some _ := Heap.get?_push_of_some _ (Heap.get?_push_of_some _ (Heap.get?_push_of_some _ (Heap.get?_push_size _ rfl)))
  have g1 : (I5 hp l1 l2 v).get? hp.objs.size = some _ := Heap.get?_push_of_some _ (Heap.get?_push_of_some _ (Heap.get?_push_of_some _ (Heap.get?_push_of_some _ (Heap.get?_push_size _ rfl))))
  rw [z2, z3, z4] at g5
  rw [z1, z2] at g3
  rw [z3] at g4
  rw [z1] at g2
  have q1 : (I5 hp l1 l2 v).IsListIter hp.objs.size l1 0 := ⟨_, g1, rfl, rfl⟩
  have q2 : (I5 hp l1 l2 v).IsListIter (hp.objs.size + 1) l2 0 := ⟨_, g2, rfl, rfl⟩
  refine ⟨_, rfl, ?_, ?_⟩
  · exact ⟨_, (congrArg (I5 hp l1 l2 v).get? z4).trans g5, rfl⟩
  · rw [z4]
    exact h _ ⟨g5, g3, ⟨_, _, g4⟩, fun _ => q1, fun _ => q2, live_of_iter q1, live_of_iter q2⟩ fun c o x => Heap.get?_push_of_some _ (Heap.get?_push_of_some _ (Heap.get?_push_of_some _ (Heap.get?_push_of_some _ (Heap.get?_push_of_some _ x))))
end
def iZl (K : PySem.W.Frag) (ta : TA) (f : V) : TI := fun σ H R => ta σ H fun vs H1 => ∃ a b xs ys, vs = [.ref a, .ref b] ∧ SqL K H1 a xs ∧ SqL K H1 b ys ∧ R (Itl K a b xs.length ys.length f) H1
theorem pi_zl {X : Cx} {e e2 : Expr} {ta : TA} {x : Str} {i : Int} {j} {p pos tpos cpos kpos : Pos} {elts : List Expr} {kk : Nat} (hg : Gl X x) (hm : X.mg x = some (.type T)) (hd : (x == ("__debug__" : Str)) = false) (ha : PA X [e, e2] ta)
    (hs : starEach [e, e2] X.env = (false, eval e X.env) :: starEach [e2] X.env) (hpl : (backTo pos (starEach [e2] X.env)).any (·.1) = false) :
    PI X (.Tuple elts kk tpos) (.Call (.Name x p) [e, e2] [⟨some "fillvalue", .Constant (.int i) j cpos, kpos⟩] pos) (iZl X.K ta (.int i)) := by
  refine ⟨fun pins s σ H R I h => ?_⟩
  refine wpAny_Call_Name_kw (ld_glob I hg hm (callWith_tk (by rw [hs]; show (false || (backTo pos (starEach [e2] X.env)).any (·.1)) = false; rw [hpl]; rfl) rfl ?_) hd)
  have hr := ha.run pos pins s σ H _ I h
  rw [hs] at hr ⊢
  refine evalArgs_kw rfl (thn hr fun us s1 ⟨vs, H1, I1, r1, q1⟩ => ?_)
  obtain ⟨a, b, xs, ys, rfl, hqx, hqy, q⟩ := q1
  cases r1 with
  | cons r rr =>
    cases rr with
    | cons r' rr =>
      cases rr
      cases r
      cases r'
      refine wpAny_evalAll_cons (wpAny_bind (wpAny_Constant_int (wpAny_bind (wpAny_standAt (wpAny_pure (wpAny_evalAll_nil ?_))))))
      obtain ⟨its, rv, p1, _⟩ := Inv.list I1 hqx
      obtain ⟨its2, rv2, p2, _⟩ := Inv.list I1 hqy
      have la := p1.lt
      have lb := p2.lt
      have lx := rv.length
      have ly := rv2.length
      refine (call_z (s := { s1 with toks := s1.toks + 1 }) (v := .int i s1.toks) p1.isList p2.isList fun h' hz hk => iterZ hz.z ?_)
      have I2 : Inv X pins σ H1 { s1 with heap := h', toks := s1.toks + 1 } := I1.kept (t' := s1.toks + 1) hk
      have e1 : its.toArray.size = xs.length := by simp [lx]
      have e2 : its2.toArray.size = ys.length := by simp [ly]
      rw [e1, e2] at hz
      refine ⟨s1.heap.objs.size + 4, [s1.heap.objs.size + 4, s1.heap.objs.size + 2, s1.heap.objs.size + 3, s1.heap.objs.size, s1.heap.objs.size + 1], _, _, H1, rfl, I2, turnZ (f := .int i) (u := .int i s1.toks) ⟨la, lb, Nat.lt_succ_self _, Nat.lt_succ_self _, Nat.lt_succ_self _, Nat.lt_succ_self _⟩ ⟨_, rfl⟩, hz, fun c hcm => ?_, q⟩
      have hle : @LE.le Nat _ s1.heap.objs.size c := by
        have e' : c = s1.heap.objs.size + 4 ∨ c = s1.heap.objs.size + 2 ∨ c = s1.heap.objs.size + 3 ∨ c = s1.heap.objs.size ∨ c = s1.heap.objs.size + 1 := by simpa using hcm
        rcases e' with k | k | k | k | k <;> (rw [k]; omega)
      exact I1.fpOk hle (I1.hok.fresh hle)
end Zl

set_option Elab.async false
set_option linter.all false
set_option maxRecDepth 100000
set_option maxHeartbeats 4000000
namespace Ip
open PySem L2
open Evl (Ex sz_of fresh_back)
variable {X : Cx} {a b e o : Expr} {pos : Pos} {K : PySem.W.Frag} {H0 Hs Hs' H H' : Hp} {σ : L2.St} {env env' : MEnv}
/-! ### zip_longest with a whole number as fill value -/
def zlL (f : PyData) : List PyData → List PyData → List PyData
  | [], [] => []
  | c :: cs, [] => .tuple [c, f] :: zlL f cs []
  | [], d :: ds => .tuple [f, d] :: zlL f [] ds
  | c :: cs, d :: ds => .tuple [c, d] :: zlL f cs ds
theorem zlL_len (f : PyData) : ∀ (cs ds : List PyData), (zlL f cs ds).length = max cs.length ds.length
  | [], [] => by simp [zlL]
  | c :: cs, [] => by simp [zlL, zlL_len f cs []]
  | [], d :: ds => by simp [zlL, zlL_len f [] ds]
  | c :: cs, d :: ds => by simp [zlL, zlL_len f cs ds]
theorem zlL_get (f : PyData) : ∀ (cs ds : List PyData) (i : Nat), i < max cs.length ds.length → (zlL f cs ds)[i]? = some (.tuple [cs.getD i f, ds.getD i f])
  | [], [], i, h => by simp at h
  | c :: cs, [], 0, h => by simp [zlL]
  | c :: cs, [], i + 1, h => by
    have := zlL_get f cs [] i (by simp at h ⊢; omega)
    simpa [zlL] using this
  | [], d :: ds, 0, h => by simp [zlL]
  | [], d :: ds, i + 1, h => by
    have := zlL_get f [] ds i (by simp at h ⊢; omega)
    simpa [zlL] using this
  | c :: cs, d :: ds, 0, h => by simp [zlL]
  | c :: cs, d :: ds, i + 1, h => by
    have := zlL_get f cs ds i (by simp at h ⊢; omega)
    simpa [zlL] using this
theorem RepL.getD {ds : List PyData} {xs : List V} {d : PyData} {v : V} (h : RepL K Hs ds xs) (hd : Rep K Hs d v) (i : Nat) : Rep K Hs (ds.getD i d) (xs.getD i v) := by
  have hl := RepL.length h
  by_cases c : i < ds.length
  · obtain ⟨w, h1, h2⟩ := RepL.get h (List.getElem?_eq_getElem c)
    have c2 : i < xs.length := by omega
    have e1 : ds.getD i d = ds[i] := by simp [List.getD, c]
    have e2 : xs.getD i v = xs[i] := by simp [List.getD, c2]
    rw [List.getElem?_eq_getElem c2] at h1
    cases h1
    rw [e1, e2]
    exact h2
  · have c2 : ¬ i < xs.length := by omega
    have e1 : ds.getD i d = d := by simp [List.getD, c]
    have e2 : xs.getD i v = v := by simp [List.getD, c2]
    rw [e1, e2]
    exact hd
theorem walk_zl {a b : Addr} {cs ds : List PyData} {xs ys : List V} {k : Int} (ha : SqL K Hs a xs) (hb : SqL K Hs b ys) (ra : RepL K Hs cs xs) (rb : RepL K Hs ds ys) : WalkD K (Zl.Itl K a b xs.length ys.length (.int k)) Hs (zlL (.int k) cs ds) := by
  unfold WalkD
  have la := RepL.length ra
  have lb := RepL.length rb
  rw [zlL_len, la, lb]
  refine ⟨fun i H hi g => ?_, fun H g => ?_, fun i H v H' hi g y => ?_⟩
  · obtain ⟨Hx, h1, h2⟩ := g
    exact ⟨xs, ys, Evl.ex_l (h1.trans h2) ha, Evl.ex_l (h1.trans h2) hb, rfl, rfl, hi⟩
  · obtain ⟨Hx, h1, h2⟩ := g
    exact ⟨xs, ys, Evl.ex_l (h1.trans h2) ha, Evl.ex_l (h1.trans h2) hb, rfl, rfl, rfl⟩
  · obtain ⟨Hx, h1, h2⟩ := g
    obtain ⟨t, rfl, hT, x, z, rfl, e1, e2⟩ := y
    have e1 := e1 xs (Evl.ex_l (h1.trans h2) ha)
    have e2 := e2 ys (Evl.ex_l (h1.trans h2) hb)
    subst e1 e2
    exact ⟨.tuple [cs.getD i (.int k), ds.getD i (.int k)], zlL_get _ cs ds i (by omega), fun Hx h3 h4 σ env I => ⟨_, pair_new hT (Rep.mono h3 _ _ (RepL.getD ra (show Rep K Hs (.int k) (.int k) from rfl) i)) (Rep.mono h3 _ _ (RepL.getD rb (show Rep K Hs (.int k) (.int k) from rfl) i)) I⟩⟩
def zlI (k : Int) (f : MEnv → Option (List PyData × MEnv)) : MEnv → Option (List PyData × MEnv) := fun env => match f env with
  | some ([.list xs, .list ys], e1) => some (zlL (.int k) xs ys, e1)
  | _ => none
theorem si_zl {elts : List Expr} {kk : Nat} {tpos p cpos kpos : Pos} {j} {k : Int} {x : Str} {f : MEnv → Option (List PyData × MEnv)} (hg : Gl X x) (hm : X.mg x = some (.type Zl.T)) (hd : (x == ("__debug__" : Str)) = false) (h : SA X [a, b] f) (hp : plainE a = true) (hp2 : plainE b = true) : SI X (.Tuple elts kk tpos) (.Call (.Name x p) [a, b] [⟨some "fillvalue", .Constant (.int k) j cpos, kpos⟩] pos) (zlI k f) := by
  refine ⟨?_⟩
  intro env σ Hs H ds env' hf I R q
  unfold zlI at hf
  split at hf
  · rename_i xs ys e1 h1
    cases hf
    refine WI.of (Zl.pi_zl hg hm hd (WA.pa X [a, b]) (by rw [star_plain hp]) (star_any (by simp [hp2]))) ?_
    refine h env σ Hs H _ env' h1 I _ fun vs Hs1 H1 g1 I1 r1 => ?_
    obtain ⟨v, r, rfl, ⟨p1, us, rfl, k1, k2⟩, w, r', rfl, ⟨p2, ws, rfl, k3, k4⟩, r0⟩ := r1
    cases (show r' = [] from r0)
    exact ⟨p1, p2, us, ws, rfl, Evl.ex_l I1.sh k1, Evl.ex_l I1.sh k3, q _ Hs1 H1 g1 I1 (walk_zl k1 k3 k2 k4)⟩
  · cases hf
end Ip

set_option Elab.async false
set_option linter.all false
set_option maxRecDepth 100000
set_option maxHeartbeats 4000000
/-! keywords for own calls; reversed(range(..)); range of three -/
namespace Ip
open PySem L2
open PyProof.Rows hiding St
open Evl (Ex sz_of fresh_back)
variable {X : Cx} {a b e o : Expr} {pos : Pos} {K : PySem.W.Frag} {Hs Hs' H H' : Hp} {σ : L2.St} {env env' : MEnv}
def WK (X : Cx) (kws : List Keyword) : TA := fun σ H Q => ∀ pos pins s, Inv X pins σ H s → wpAny (model X.prog X.w) X.A (evalAll ((backToKw pos (keywordEach kws X.env)).map (·.2))) (AP X pins σ Q) X.xe s
theorem WK.pk (X : Cx) (kws : List Keyword) : PK X kws (WK X kws) := ⟨fun pos pins s σ H Q I h => h pos pins s I⟩
theorem WK.of {X : Cx} {kws : List Keyword} {t : TA} (h : PK X kws t) {σ : St} {H : Hp} {Q : List V → Hp → Prop} (ht : t σ H Q) : WK X kws σ H Q := fun pos pins s I => h.run pos pins s σ H Q I ht
structure SK (X : Cx) (kws : List Keyword) (f : MEnv → Option (List PyData × MEnv)) : Prop where
  run : ∀ (env : MEnv) (σ : L2.St) (Hs H : Hp) (ds : List PyData) (env' : MEnv), f env = some (ds, env') → InvS X.K Hs H σ env → ∀ Q : List V → Hp → Prop, (∀ vs Hs' H', GoE σ env Hs H env' Hs' H' → InvS X.K Hs' H' σ env' → RepL X.K Hs' ds vs → Q vs H') → WK X kws σ H Q
theorem sk_nil : SK X [] (fun env => some ([], env)) := .mk fun env σ Hs H ds env' hf I Q q => by
  cases hf
  exact WK.of pk_nil (q [] Hs H GoE.refl I rfl)
theorem sk_cons {nm : Option Str} {kpos : Pos} {kws : List Keyword} {fe : MEnv → Option (PyData × MEnv)} {fs : MEnv → Option (List PyData × MEnv)} (h : SV X e fe) (hs : SK X kws fs) : SK X (⟨nm, e, kpos⟩ :: kws) (consA fe fs) := by
  refine ⟨?_⟩
  intro env σ Hs H ds env' hf I Q q
  unfold consA at hf
  split at hf
  · rename_i d e1 h1
    split at hf
    · rename_i ds2 e2 h2
      cases hf
      refine WK.of (pk_cons (W.pe X e) (WK.pk X kws)) ?_
      refine h env σ Hs H d e1 h1 I _ fun v Hs1 H1 g1 I1 r1 => ?_
      exact hs.run e1 σ Hs1 H1 ds2 env' h2 I1 _ fun vs Hs2 H2 g2 I2 r2 => q (v :: vs) Hs2 H2 (g1.trans g2) I2 ⟨v, vs, rfl, Rep.mono g2.sh d v r1, r2⟩
    · cases hf
  · cases hf
/-- positional arguments, then keywords -/
def appA (m : Nat) (fs gs : MEnv → Option (List PyData × MEnv)) : MEnv → Option (List PyData × MEnv) := fun env => match fs env with
  | some (ds, e1) => if ds.length = m then match gs e1 with
      | some (es, e2) => some (ds ++ es, e2)
      | none => none
    else none
  | none => none
/-- what a call with plain data asks -/
theorem sp_call {n : Nat} {run : Run} {ds : List PyData} {r : Slot} {args' : List Slot} {vs : List V} {Hs1 H1 Hs0 H0 : Hp} {env0 : MEnv} (hl : ds.length = n) (hr : run (ds.map .val) = some (r, args')) (g1 : GoE σ env0 Hs0 H0 env' Hs1 H1) (I1 : InvS K Hs1 H1 σ env') (r1 : RepL K Hs1 ds vs) {Q : VK}
    (q : ∀ v Hs' H', GoE σ env0 Hs0 H0 env' Hs' H' → InvS K Hs' H' σ env' → RepR K H0 Hs' H' r v → Q v H') (E : XK) : spF K n run vs H1 Q E := by
  have nomut : ∀ a, ¬ MutAt (vs.map some) (ds.map .val) a := fun a ⟨i, s, xs, e1, e2, _⟩ => by
    obtain ⟨d, _, rfl⟩ := map_val_some e1
    cases e2
  have noloc : ∀ a, ¬ LocAt (vs.map some) (ds.map .val) a := fun a m => nomut a m.mut
  refine ⟨ds.map .val, Hs1, r, args', by rw [List.length_map]; exact hl, by simp [argOk], hr, ⟨by rw [List.length_map, List.length_map, RepL.length r1], I1.sh, fun i d h => ?_, fun i s xs h hm => ?_, fun i j s t xs ys p h1 m1 _ _ _ _ => ?_⟩, fun v Hs' H' g I' rr => ?_⟩
  · obtain ⟨d', hd, e⟩ := map_val_some h
    cases e
    obtain ⟨w, k1, k2⟩ := RepL.get r1 hd
    exact ⟨w, by rw [List.getElem?_map, k1]; rfl, k2⟩
  · obtain ⟨d', _, rfl⟩ := map_val_some h
    cases hm
  · obtain ⟨d', _, rfl⟩ := map_val_some h1
    cases m1
  · have back : ∀ p o, H1 p = some o → Hs1 p = none → Hs' p = none := fun p o hp hn => by
      cases z : Hs' p with
      | none => rfl
      | some u =>
        rcases g.nw p u z with z1 | z1 | z1
        · rw [hn] at z1; cases z1
        · rw [hp] at z1; cases z1
        · exact absurd z1 (noloc p)
    have ge : GoE σ env' Hs1 H1 env' Hs' H' := ⟨g.sh, fun a o h _ => g.kp a o h (nomut a), g.dm, fun a o h => (g.nw a o h).elim .inl fun z => z.elim (fun z => .inr (.inl z)) fun z => absurd z (noloc a), fun _ h => h, fun _ h => h, fun _ xs h => ⟨xs, h⟩⟩
    refine q v Hs' H' (g1.trans ge) ⟨I1.len, I'.sh, fun i d h => ?_, fun i s xs h hm => ?_, I1.diff⟩ (RepR.mono (fun p hp => g1.none_back hp) rr)
    · obtain ⟨w, k1, k2⟩ := I1.vals i d h
      exact ⟨w, k1, Rep.mono g.sh d w k2⟩
    · obtain ⟨p, us, k1, k2, k3, k4⟩ := I1.muts i s xs h hm
      exact ⟨p, us, k1, back p _ k3 k2, g.kp p _ k3 (nomut p), RepL.mono g.sh xs us k4⟩
def kwG (m n : Nat) (us ws : List Value) : List Value := if us.length = m ∧ ws.length = n then us ++ ws else []
def kwV (m n : Nat) (vs zs : List V) : List V := if vs.length = m ∧ zs.length = n then vs ++ zs else []
theorem kw_rel {m n : Nat} {vs : List V} {us : List Value} {zs : List V} {ws : List Value} (h : Vals vs us) (g : Vals zs ws) : Vals (kwV m n vs zs) (kwG m n us ws) := by
  unfold kwV kwG
  rw [h.length, g.length]
  split
  · exact h.append g
  · exact .nil
theorem kw_to {m n : Nat} {us ws : List Value} {ps ks : List Str} {s : Shared} {fd : FuncData} (hl : (kwG m n us ws).length = ps.length) (h : ∀ us ws : List Value, us.length = m → ws.length = n → BindsTo s fd ⟨us, ks.zip ws⟩ (ps.zip (us ++ ws))) (h0 : ps.length ≠ 0) : BindsTo s fd ⟨us, ks.zip ws⟩ (ps.zip (kwG m n us ws)) := by
  unfold kwG at *
  split
  · rename_i c
    exact h us ws c.1 c.2
  · rename_i c
    rw [if_neg c] at hl
    exact absurd hl.symm h0
theorem fun_kbinds {x qual : Str} {st : Stmt} {f : Addr} {fd : FuncData} {ps ks : List Str} {m n : Nat} (F : Fun K x qual st f fd) (h0 : ps.length ≠ 0)
    (h : ∀ (kV doc pm : Value) (an : Option Addr) (cdv ct : Value) (us ws : List Value), us.length = m → ws.length = n → bindArgs (PySem.W.fnOf x qual (defArgs st) (defBody st) (defScope st) .none kV doc pm an cdv ct) ⟨us, ks.zip ws⟩ = pure (ps.zip (us ++ ws))) : KBinds K fd ps ks (kwG m n) (kwV m n) := by
  obtain ⟨oc, od, kV, doc, pm, an, cdv, ct, osl, rfl, lk, hcd⟩ := F.ex
  exact ⟨fun s us ws _ hl => kw_to hl (fun us ws h1 h2 => .of_eq (h kV doc pm an cdv ct us ws h1 h2)) h0, fun h g => kw_rel h g⟩
theorem run_goK {k : Nat} {f : Addr} {fd : FuncData} {ps ks : List Str} {g : List Value → List Value → List Value} {gV : List V → List V → List V} {sp : Sp} {pins : List (Addr × Obj)} {s : Shared} {Q : VK} {us ws : List Value} {vs zs : List V} (F : FnG X.prog X.w X.K X.mg X.base k f fd ps sp)
    (hG : X.A.guards = some []) (hr : Room k X.A) (hb : KBinds X.K fd ps ks g gV) (I : Inv X pins σ H s) (r : Vals vs us) (rz : Vals zs ws) (h : sp (gV vs zs) H Q E0) : wpAny (model X.prog X.w) X.A (call (.ref f) us (ks.zip ws)) (EP X pins σ Q) X.xe s := by
  have r2 := hb.rel r rz
  have len : (g us ws).length = ps.length := by rw [← r2.length]; exact F.cnt _ _ _ _ h
  apply wpAny_call
  refine codeAny_mono (F.go hG hr I.env0 (hb.to s us ws I.kIn len) r2 h) ?_
  intro fl t z
  match fl, z with
  | .ok (.ret u), z => exact I.after z
  | .ok .next, z => exact z.elim
  | .ok .brk, z => exact z.elim
  | .ok .cont, z => exact z.elim
  | .error _, z => exact z.elim
theorem pe_goK {k : Nat} {f : Addr} {fd : FuncData} {ps ks : List Str} {g : List Value → List Value → List Value} {gV : List V → List V → List V} {sp : Sp} {x : Str} {p : Pos} {es : List Expr} {kws : List Keyword} {t tk : TA} (F : FnG X.prog X.w X.K X.mg X.base k f fd ps sp) (hG : X.A.guards = some []) (hr : Room k X.A) (hg : Gl X x)
    (hm : X.mg x = some (.ref f)) (hk : PySem.W.keepIn X.K (.ref f) = true) (hb : KBinds X.K fd ps ks g gV) (ha : PA X (e :: es) t) (hkw : PK X kws tk) (hall : (backToKw pos (keywordEach kws X.env)).all (·.1.isSome) = true) (hks : (backToKw pos (keywordEach kws X.env)).filterMap (·.1) = ks)
    (hd : (x == ("__debug__" : Str)) = false) (h0 : starEach (e :: es) X.env = (false, eval e X.env) :: starEach es X.env) (hpl : ((backTo pos (starEach (e :: es) X.env)).any (·.1) || (backToKw pos (keywordEach kws X.env)).any (·.1.isNone)) = false) : PE X (.Call (.Name x p) (e :: es) kws pos) (tCallK sp gV E0 t tk) := by
  refine ⟨fun pins s σ H Q I h => ?_⟩
  refine wpAny_Call_Name_kw (ld_glob I hg hm ?_ hd)
  refine PySem.W.callWith_KW (h₀ := X.base) I.ok.mod.kin hk hall (thn (ha.run pos pins s σ H _ I h) fun us s1 ⟨vs, H1, I1, r, q⟩ => ?_) hpl h0
  refine thn (hkw.run pos pins s1 σ H1 _ I1 q) fun ws s2 ⟨zs, H2, I2, rz, q2⟩ => ⟨I2.kIn, ?_⟩
  rw [hks]
  exact run_goK F hG hr hb I2 r rz q2
/-- f, a def of the text with parameters that only keywords name, keeps the promise -/
structure OwnK (P : Program) (w : World) (K : PySem.W.Frag) (mg : Str → Option Value) (base : Heap) (k : Nat) (x : Str) (m n : Nat) (ks : List Str) (run : Run) where
  f : Addr
  fd : FuncData
  ps : List Str
  ok : FnG P w K mg base k f fd ps (spF K (m + n) run)
  at_ : mg x = some (.ref f)
  kp : PySem.W.keepIn K (.ref f) = true
  kb : KBinds K fd ps ks (kwG m n) (kwV m n)
theorem se_goK {k m n : Nat} {ks : List Str} {run : Run} {x : Str} {p : Pos} {es : List Expr} {kws : List Keyword} {fs gs : MEnv → Option (List PyData × MEnv)} (o : OwnK X.prog X.w X.K X.mg X.base k x m n ks run) (hG : X.A.guards = some []) (hr : Room k X.A) (hg : Gl X x) (ha : SA X (e :: es) fs) (hkw : SK X kws gs)
    (hp : (e :: es).all plainE = true) (hall : (backToKw pos (keywordEach kws X.env)).all (·.1.isSome) = true) (hks : (backToKw pos (keywordEach kws X.env)).filterMap (·.1) = ks) (hno : (backToKw pos (keywordEach kws X.env)).any (·.1.isNone) = false) (hd : (x == ("__debug__" : Str)) = false) : SE X (.Call (.Name x p) (e :: es) kws pos) (callF (m + n) run (appA m fs gs)) := by
  refine ⟨?_⟩
  intro env σ Hs H r env' hf I Q q
  have hp2 := hp
  rw [List.all_cons, Bool.and_eq_true] at hp
  refine W.of (pe_goK o.ok hG hr hg o.at_ o.kp o.kb (WA.pa X (e :: es)) (WK.pk X kws) hall hks hd (star_plain hp.1) (by rw [star_any hp2, hno]; rfl)) ?_
  unfold callF at hf
  split at hf
  · rename_i ds e1 h1
    split at hf
    · rename_i hl
      split at hf
      · rename_i r0 args' hr
        cases hf
        unfold appA at h1
        split at h1
        · rename_i d1 e2 h2
          split at h1
          · rename_i hm
            split at h1
            · rename_i d2 e3 h3
              cases h1
              refine ha env σ Hs H d1 e2 h2 I _ fun vs Hs1 H1 g1 I1 r1 => ?_
              refine hkw.run e2 σ Hs1 H1 d2 env' h3 I1 _ fun zs Hs2 H2 g2 I2 r2 => ?_
              have lv : vs.length = m := by rw [← RepL.length r1]; exact hm
              have lz : zs.length = n := by
                rw [← RepL.length r2]
                rw [List.length_append] at hl
                omega
              show spF X.K (m + n) run (kwV m n vs zs) H2 Q E0
              unfold kwV
              rw [if_pos ⟨lv, lz⟩]
              exact sp_call hl hr (g1.trans g2) I2 (RepL.app (RepL.mono g2.sh d1 vs r1) r2) q E0
            · cases h1
          · cases h1
        · cases h1
      · cases hf
    · cases hf
  · cases hf
/-! ### ranges from their end -/
theorem walk_down (lo : Int) (n : Nat) : WalkD K (Itc (lo + (n : Int) - 1) (-1) n) Hs (intsFrom lo n).reverse := by
  unfold WalkD
  have hl : (intsFrom lo n).reverse.length = n := by unfold intsFrom; simp
  rw [hl]
  refine Walk.mono (walk_rangeC (lo := lo + (n : Int) - 1) (c := -1) (n := n)) (fun H _ => trivial) fun i H x H' hi hg y => ?_
  obtain ⟨rfl, rfl⟩ := y
  refine ⟨.int (lo + (n : Int) - 1 + (i : Nat) * (-1)), ?_, fun Hx h3 h4 σ env I => ⟨Hx, GoE.refl, I, rfl⟩⟩
  have hi' : n - 1 - i < n := by omega
  rw [List.getElem?_reverse (by unfold intsFrom; simp; exact hi)]
  unfold intsFrom
  rw [List.length_map, List.length_range, List.getElem?_map, List.getElem?_range hi']
  show some (PyData.int (lo + ((n - 1 - i : Nat) : Int))) = _
  congr 2
  omega
def rrng1I (f : MEnv → Option (Lr × MEnv)) : MEnv → Option (List PyData × MEnv) := fun env => match f env with
  | some (r, e1) => match look r e1 with
    | some (.int n) => if -(2 ^ 62) ≤ n ∧ n < 2 ^ 62 then some ((intsFrom 0 n.toNat).reverse, e1) else none
    | _ => none
  | none => none
theorem si_rrng1 {tg : Expr} {p p2 pos2 : Pos} {f : MEnv → Option (Lr × MEnv)} (hg : Gl X "reversed") (hm : X.mg "reversed" = none) (hg2 : Gl X "range") (hm2 : X.mg "range" = none) (h : SL X a f) (hp : plainE a = true) :
    SI X tg (.Call (.Name "reversed" p) [.Call (.Name "range" p2) [a] [] pos2] [] pos) (rrng1I f) := by
  refine ⟨?_⟩
  intro env σ Hs H ds env' hf I R q
  unfold rrng1I at hf
  split at hf
  · rename_i r e1 h1
    split at hf
    · rename_i n hl
      split at hf
      · rename_i hc
        cases hf
        refine WI.of (pi_revR hg hm (prg_1 hg2 hm2 (W.pe X a) (star_plain hp)) rfl) ?_
        refine h.run env σ Hs H r env' h1 I _ fun v Hs1 H1 g1 I1 r1 => ?_
        refine ⟨n, rep_int (RepLr.top I1 r1 hl), by decide, by decide, hc.1, hc.2, ?_⟩
        rw [Int.sub_zero]
        exact q _ Hs1 H1 g1 I1 (walk_down 0 n.toNat)
      · cases hf
    · cases hf
  · cases hf
end Ip

set_option Elab.async false
set_option linter.all false
set_option maxRecDepth 100000
set_option maxHeartbeats 4000000
namespace Lw
open PySem L2 Ip
abbrev fuel : Nat := 100000
abbrev recN : Nat := 30
def KD_FITTING : List (Str × PyData) := [("<", .tuple [.int (-1)]), ("<=", .tuple [.int (-1), .int (0)]), ("=", .tuple [.int (0)]), ("!=", .tuple [.int (-1), .int (1)]), (">=", .tuple [.int (0), .int (1)]), (">", .tuple [.int (1)])]
def b_fits : MEnv → Option Out := seqB (retB (op2 (nameL 1) (datL (datF (op1 (nameL 0) (kdD KD_FITTING)))) (inD false))) (nilB)
def r_fits : Ip.Run := runB 2 2 b_fits
def b_f_law_same : MEnv → Option Out := seqB (ifB (boolT (valF (nameV 1))) (seqB (retB (op2 (nameL 0) (datL (constD (.bool true))) isD)) (nilB)) (nilB)) (seqB (retB (op2 (nameL 0) (datL (constD (.bool false))) isD)) (nilB))
def r_f_law_same : Ip.Run := runB 2 2 b_f_law_same
def b_f_law_fits : MEnv → Option Out := seqB (retB (dictXF [(.inr "<", datF (op2 (nameL 1) (datL (constD (.int 0))) ltD)), (.inr "<=", datF (op2 (nameL 1) (datL (constD (.int 0))) leD)), (.inr "=", datF (op2 (nameL 1) (datL (constD (.int 0))) eqD)), (.inr "!=", datF (op2 (nameL 1) (datL (constD (.int 0))) neD)), (.inr ">=", datF (op2 (nameL 1) (datL (constD (.int 0))) geD)), (.inr ">", datF (op2 (nameL 1) (datL (constD (.int 0))) gtD))] (nameL 0))) (nilB)
def r_f_law_fits : Ip.Run := runB 2 2 b_f_law_fits
def b_sign_of_whole : MEnv → Option Out := seqB (ifB (boolT (op2 (nameL 0) (datL (constD (.int 0))) eqD)) (seqB (retB (valF (constD (.int 0)))) (nilB)) (nilB)) (seqB (retB (ifE (boolT (op2 (nameL 0) (datL (constD (.int 0))) gtD)) (valF (constD (.int 1))) (op1 (datL (constD (.int 1))) negD))) (nilB))
def r_sign_of_whole : Ip.Run := runB 1 1 b_sign_of_whole
def b_number : MEnv → Option Out := seqB (asgB 2 (op2 (nameL 0) (nameL 1) gcdD)) (seqB (ifB (boolT (op2 (nameL 1) (datL (constD (.int 0))) ltD)) (seqB (asgB 2 (op1 (nameL 2) negD)) (nilB)) (nilB)) (seqB (retB (tupF (consA (datF (op2 (nameL 0) (nameL 2) fdivD)) (consA (datF (op2 (nameL 1) (nameL 2) fdivD)) ((fun env => some ([], env))))))) (nilB)))
def r_number : Ip.Run := runB 3 2 b_number
def b_plus : MEnv → Option Out := seqB (retB (callF 2 r_number (consA (datF (op2 (datL (datF (op2 (datL (datF (op2 (nameL 0) (datL (constD (.int 0))) ixD))) (datL (datF (op2 (nameL 1) (datL (constD (.int 1))) ixD))) mulD))) (datL (datF (op2 (datL (datF (op2 (nameL 1) (datL (constD (.int 0))) ixD))) (datL (datF (op2 (nameL 0) (datL (constD (.int 1))) ixD))) mulD))) addD)) (consA (datF (op2 (datL (datF (op2 (nameL 0) (datL (constD (.int 1))) ixD))) (datL (datF (op2 (nameL 1) (datL (constD (.int 1))) ixD))) mulD)) ((fun env => some ([], env))))))) (nilB)
def r_plus : Ip.Run := runB 2 2 b_plus
def b_times : MEnv → Option Out := seqB (retB (callF 2 r_number (consA (datF (op2 (datL (datF (op2 (nameL 0) (datL (constD (.int 0))) ixD))) (datL (datF (op2 (nameL 1) (datL (constD (.int 0))) ixD))) mulD)) (consA (datF (op2 (datL (datF (op2 (nameL 0) (datL (constD (.int 1))) ixD))) (datL (datF (op2 (nameL 1) (datL (constD (.int 1))) ixD))) mulD)) ((fun env => some ([], env))))))) (nilB)
def r_times : Ip.Run := runB 2 2 b_times
def b_total : MEnv → Option Out := seqB (asgB 1 (tupF (consA (constD (.int 0)) (consA (constD (.int 1)) ((fun env => some ([], env))))))) (seqB (forB (seqI (nameV 0)) (nameG 2) (seqB (asgB 1 (callF 2 r_plus (consA (nameV 1) (consA (nameV 2) ((fun env => some ([], env))))))) (nilB))) (seqB (retNm 1) (nilB)))
def r_total : Ip.Run := runB 3 1 b_total
def b_scaled_value : MEnv → Option Out := seqB (tgtB (nameV 1) (tupG 2 (consG (nameG 2) (consG (nameG 3) (nilG))))) (seqB (asgB 4 (valF (constD (.int 0)))) (seqB (asgB 5 (valF (constD (.int 1)))) (seqB (forB (revI (nameV 0)) (nameG 6) (seqB (asgB 4 (op2 (datL (datF (op2 (nameL 4) (nameL 2) mulD))) (datL (datF (op2 (nameL 6) (nameL 5) mulD))) addD)) (seqB (asgB 5 (op2 (nameL 5) (nameL 3) mulD)) (nilB)))) (seqB (retNm 4) (nilB)))))
def r_scaled_value : Ip.Run := runB 7 2 b_scaled_value
def b_value_at : MEnv → Option Out := seqB (asgB 2 (valF (constD (.int 1)))) (seqB (forB (seqI (nameV 0)) (nameG 3) (seqB (asgB 2 (op2 (nameL 2) (datL (datF (op2 (nameL 1) (datL (constD (.int 1))) ixD))) mulD)) (nilB))) (seqB (retB (callF 2 r_number (consA (datF (op2 (datL (datF (callF 2 r_scaled_value (consA (nameV 0) (consA (nameV 1) ((fun env => some ([], env)))))))) (datL (datF (op2 (nameL 1) (datL (constD (.int 1))) ixD))) mulD)) (consA (nameV 2) ((fun env => some ([], env))))))) (nilB)))
def r_value_at : Ip.Run := runB 4 2 b_value_at
def b_f_sum_at : MEnv → Option Out := seqB (tgtB (nameV 0) (tupG 3 (consG (nameG 3) (consG (nameG 4) (consG (nameG 5) (nilG)))))) (seqB (asgB 6 (compF (zipI (consA (nameV 3) (consA (nameV 1) ((fun env => some ([], env)))))) (tupG 2 (consG (nameG 7) (consG (nameG 8) (nilG)))) (yesT) (datF (callF 2 r_times (consA (datF (callF 2 r_value_at (consA (nameV 7) (consA (nameV 2) ((fun env => some ([], env))))))) (consA (nameV 8) ((fun env => some ([], env))))))) [7, 8])) (seqB (retB (callF 2 r_plus (consA (datF (callF 1 r_total (consA (nameV 6) ((fun env => some ([], env)))))) (consA (datF (callF 2 r_value_at (consA (nameV 4) (consA (nameV 2) ((fun env => some ([], env))))))) ((fun env => some ([], env))))))) (nilB)))
def r_f_sum_at : Ip.Run := runB 9 3 b_f_sum_at
def b_fulfilled_at : MEnv → Option Out := seqB (retB (op1 (datL (datF (compF (seqI (nameV 0)) (nameG 3) (yesT) (datF (callF 2 r_fits (consA (datF (op2 (nameL 3) (datL (constD (.int 2))) ixD)) (consA (datF (callF 1 r_sign_of_whole (consA (datF (op2 (datL (datF (callF 3 r_f_sum_at (consA (nameV 3) (consA (nameV 1) (consA (nameV 2) ((fun env => some ([], env))))))))) (datL (constD (.int 0))) ixD)) ((fun env => some ([], env)))))) ((fun env => some ([], env))))))) [3]))) allD)) (nilB)
def r_fulfilled_at : Ip.Run := runB 4 3 b_fulfilled_at
def b_f_law_pool : MEnv → Option Out := seqB (asgB 1 (lstF ((fun env => some ([], env))))) (seqB (asgB 2 (valF (constD (.int 17)))) (seqB (forB (rng1I (consA (datF (op2 (datL (datF (op1 (nameL 0) lenD))) (datL (constD (.int 63))) min2D)) ((fun env => some ([], env))))) (nameG 3) (seqB (asgB 4 (op2 (nameL 0) (nameL 3) ixD)) (seqB (asgB 2 (op2 (datL (datF (op1 (datL (datF (op2 (datL (datF (op2 (datL (datF (op2 (nameL 2) (datL (constD (.int 69621))) mulD))) (datL (datF (op2 (nameL 4) (datL (constD (.int 48271))) mulD))) addD))) (nameL 3) addD))) intD))) (datL (constD (.int 2147483647))) modD)) (seqB (ifB (boolT (op2 (nameL 4) (datL (datF (op2 (datL (constD (.int 10))) (datL (constD (.int 18))) powD))) geD)) (seqB (forB (rng1I (consA (constD (.int 60)) ((fun env => some ([], env))))) (nameG 5) (seqB (appB 1 (datF (op2 (datL (datF (op1 (nameL 4) intD))) (datL (constD (.int 60))) modD))) (seqB (asgB 4 (op2 (nameL 4) (datL (constD (.int 60))) fdivD)) (nilB)))) (nilB)) (seqB (asgB 6 (op2 (datL (datF (op1 (datL (datF (op2 (datL (datF (op2 (datL (datF (op2 (nameL 4) (datL (constD (.int 48271))) mulD))) (datL (datF (op2 (nameL 3) (datL (constD (.int 69621))) mulD))) addD))) (datL (constD (.int 7))) addD))) intD))) (datL (constD (.int 2147483647))) modD)) (seqB (asgB 7 (op2 (datL (datF (op1 (datL (datF (op2 (datL (datF (op2 (datL (datF (op2 (nameL 6) (datL (constD (.int 16807))) mulD))) (datL (datF (op2 (nameL 4) (datL (constD (.int 31))) mulD))) addD))) (nameL 3) addD))) intD))) (datL (constD (.int 1000003))) modD)) (seqB (asgB 1 (op2 (nameL 1) (datL (datF (lstF (consA (datF (op2 (datL (datF (op1 (datL (datF (op2 (nameL 6) (datL (constD (.int 11))) fdivD))) intD))) (datL (constD (.int 60))) modD)) (consA (datF (op2 (datL (datF (op1 (nameL 7) intD))) (datL (constD (.int 60))) modD)) ((fun env => some ([], env)))))))) addD)) (nilB))))) (nilB))))) (seqB (forB (rng1I (consA (constD (.int 300)) ((fun env => some ([], env))))) (nameG 5) (seqB (asgB 2 (op2 (datL (datF (op1 (datL (datF (op2 (datL (datF (op2 (nameL 2) (datL (constD (.int 48271))) mulD))) (datL (constD (.int 11))) addD))) intD))) (datL (constD (.int 2147483647))) modD)) (seqB (appB 1 (datF (op2 (datL (datF (op1 (datL (datF (op2 (nameL 2) (datL (constD (.int 97))) fdivD))) intD))) (datL (constD (.int 60))) modD))) (nilB)))) (seqB (retNm 1) (nilB)))))
def r_f_law_pool : Ip.Run := runB 8 1 b_f_law_pool
def b_f_law_stream : MEnv → Option Out := seqB (retB (op2 (datL (datF (lstF (consA (constD (.int 0)) ((fun env => some ([], env))))))) (datL (datF (callF 1 r_f_law_pool (consA (nameV 0) ((fun env => some ([], env))))))) addD)) (nilB)
def r_f_law_stream : Ip.Run := runB 1 1 b_f_law_stream
def b_f_law_pick : MEnv → Option Out := seqB (setB 0 (datF (op2 (datL (constD (.int 1))) (datL (datF (op2 (datL (datF (op1 (datL (datF (op2 (nameL 0) (datL (constD (.int 0))) ixD))) intD))) (datL (datF (op2 (datL (datF (op1 (nameL 0) lenD))) (datL (constD (.int 1))) subD))) modD))) addD)) (datL (constD (.int 0)))) (seqB (retB (op2 (datL (datF (op1 (datL (datF (op2 (nameL 0) (datL (datF (op2 (nameL 0) (datL (constD (.int 0))) ixD))) ixD))) intD))) (nameL 1) modD)) (nilB))
def r_f_law_pick : Ip.Run := runB 2 2 b_f_law_pick
def b_f_law_trim : MEnv → Option Out := seqB (asgB 1 (op1 (nameL 0) lenD)) (seqB (forB (rng1I (consA (datF (op1 (nameL 0) lenD)) ((fun env => some ([], env))))) (nameG 2) (seqB (ifB (boolT (op2 (datL (datF (op2 (nameL 0) (datL (datF (op2 (nameL 1) (datL (constD (.int 1))) subD))) ixD))) (datL (constD (.int 0))) neD)) (seqB ((fun env => some (.bk env))) (nilB)) (nilB)) (seqB (asgB 1 (op2 (nameL 1) (datL (constD (.int 1))) subD)) (nilB)))) (seqB (retB (slF (nameL 0) ((fun env => some (none, env))) (intO (nameL 1)))) (nilB)))
def r_f_law_trim : Ip.Run := runB 3 1 b_f_law_trim
def b_f_law_poly : MEnv → Option Out := seqB (asgB 2 (op2 (datL (constD (.int 1))) (datL (datF (callX 2 r_f_law_pick (ioA 0 (consX (argV (datF (op2 (nameL 1) (datL (constD (.int 1))) addD))) ((fun env => some ([], env)))))))) addD)) (seqB (ifB (boolT (op2 (datL (datF (callX 2 r_f_law_pick (ioA 0 (consX (argV (constD (.int 20))) ((fun env => some ([], env)))))))) (datL (constD (.int 0))) eqD)) (seqB (retB (callF 1 r_f_law_trim (consA (datF (compF (rng1I (consA (nameV 2) ((fun env => some ([], env))))) (nameG 3) (yesT) (datF (op2 (datL (datF (callX 2 r_f_law_pick (ioA 0 (consX (argV (constD (.int 39))) ((fun env => some ([], env)))))))) (datL (constD (.int 19))) subD)) [3])) ((fun env => some ([], env)))))) (nilB)) (nilB)) (seqB (retB (callF 1 r_f_law_trim (consA (datF (compF (rng1I (consA (nameV 2) ((fun env => some ([], env))))) (nameG 3) (yesT) (datF (op2 (datL (datF (lstF (consA (constD (.int 0)) (consA (constD (.int 1)) (consA (datF (op1 (datL (constD (.int 1))) negD)) (consA (constD (.int 2)) (consA (constD (.int 1)) (consA (datF (op1 (datL (constD (.int 2))) negD)) (consA (constD (.int 3)) (consA (constD (.int 0)) (consA (datF (op1 (datL (constD (.int 1))) negD)) (consA (datF (op1 (datL (constD (.int 3))) negD)) ((fun env => some ([], env)))))))))))))))) (datL (datF (callX 2 r_f_law_pick (ioA 0 (consX (argV (constD (.int 10))) ((fun env => some ([], env)))))))) ixD)) [3])) ((fun env => some ([], env)))))) (nilB)))
def r_f_law_poly : Ip.Run := runB 4 2 b_f_law_poly
def b_f_law_rows : MEnv → Option Out := seqB (asgB 3 (lstF ((fun env => some ([], env))))) (seqB (forB (rng1I (consA (datF (op2 (datL (constD (.int 1))) (datL (datF (callX 2 r_f_law_pick (ioA 0 (consX (argV (nameV 2)) ((fun env => some ([], env)))))))) addD)) ((fun env => some ([], env))))) (nameG 4) (seqB (asgB 5 (op2 (datL (datF (lstF (consA (constD (.str "<=")) (consA (constD (.str "<")) (consA (constD (.str "<=")) (consA (constD (.str "=")) (consA (constD (.str "<")) ((fun env => some ([], env))))))))))) (datL (datF (callX 2 r_f_law_pick (ioA 0 (consX (argV (constD (.int 5))) ((fun env => some ([], env)))))))) ixD)) (seqB (asgB 6 (compF (rng1I (consA (nameV 1) ((fun env => some ([], env))))) (nameG 7) (yesT) (datF (callX 2 r_f_law_poly (ioA 0 (consX (argV (datF (op2 (datL (datF (lstF (consA (constD (.int 1)) (consA (constD (.int 2)) (consA (constD (.int 0)) (consA (constD (.int 1)) ((fun env => some ([], env)))))))))) (datL (datF (callX 2 r_f_law_pick (ioA 0 (consX (argV (constD (.int 4))) ((fun env => some ([], env)))))))) ixD))) ((fun env => some ([], env))))))) [7])) (seqB (appB 3 (datF (tupF (consA (nameV 6) (consA (datF (callX 2 r_f_law_poly (ioA 0 (consX (argV (constD (.int 2))) ((fun env => some ([], env))))))) (consA (nameV 5) ((fun env => some ([], env))))))))) (nilB))))) (seqB (retNm 3) (nilB)))
def r_f_law_rows : Ip.Run := runB 8 3 b_f_law_rows
def b_f_law_less_poly : MEnv → Option Out := seqB (asgB 2 (lstF ((fun env => some ([], env))))) (seqB (forB (rng1I (consA (datF (op2 (datL (datF (op1 (nameL 0) lenD))) (datL (datF (op1 (nameL 1) lenD))) max2D)) ((fun env => some ([], env))))) (nameG 3) (seqB (asgB 4 (valF (constD (.int 0)))) (seqB (ifB (boolT (op2 (nameL 3) (datL (datF (op1 (nameL 0) lenD))) ltD)) (seqB (asgB 4 (op2 (nameL 4) (datL (datF (op2 (nameL 0) (nameL 3) ixD))) addD)) (nilB)) (nilB)) (seqB (ifB (boolT (op2 (nameL 3) (datL (datF (op1 (nameL 1) lenD))) ltD)) (seqB (asgB 4 (op2 (nameL 4) (datL (datF (op2 (nameL 1) (nameL 3) ixD))) subD)) (nilB)) (nilB)) (seqB (appB 2 (nameV 4)) (nilB)))))) (seqB (retB (callF 1 r_f_law_trim (consA (nameV 2) ((fun env => some ([], env)))))) (nilB)))
def r_f_law_less_poly : Ip.Run := runB 5 2 b_f_law_less_poly
def b_f_law_lowest : MEnv → Option Out := seqB (ifB (boolT (op2 (nameL 1) (datL (constD (.int 0))) ltD)) (seqB (parB 0 1 (consA (datF (op1 (nameL 0) negD)) (consA (datF (op1 (nameL 1) negD)) ((fun env => some ([], env)))))) (nilB)) (nilB)) (seqB (parB 2 3 (consA (datF (op1 (nameL 0) absD)) (consA (nameV 1) ((fun env => some ([], env)))))) (seqB (forB (rng1I (consA (constD (.int 5000)) ((fun env => some ([], env))))) (nameG 4) (seqB (ifB (boolT (op2 (nameL 3) (datL (constD (.int 0))) eqD)) (seqB ((fun env => some (.bk env))) (nilB)) (nilB)) (seqB (parB 2 3 (consA (nameV 3) (consA (datF (op2 (datL (datF (op1 (nameL 2) intD))) (nameL 3) modD)) ((fun env => some ([], env)))))) (nilB)))) (seqB (retB (tupF (consA (datF (op2 (nameL 0) (nameL 2) fdivD)) (consA (datF (op2 (nameL 1) (nameL 2) fdivD)) ((fun env => some ([], env))))))) (nilB))))
def r_f_law_lowest : Ip.Run := runB 5 2 b_f_law_lowest
def b_f_law_number : MEnv → Option Out := seqB (retB (callF 2 r_f_law_lowest (consA (datF (op2 (datL (datF (callX 2 r_f_law_pick (ioA 0 (consX (argV (constD (.int 41))) ((fun env => some ([], env)))))))) (datL (constD (.int 20))) subD)) (consA (datF (op2 (datL (datF (lstF (consA (constD (.int 1)) (consA (constD (.int 1)) (consA (constD (.int 2)) (consA (constD (.int 3)) (consA (constD (.int 1)) (consA (constD (.int 7)) ((fun env => some ([], env)))))))))))) (datL (datF (callX 2 r_f_law_pick (ioA 0 (consX (argV (constD (.int 6))) ((fun env => some ([], env)))))))) ixD)) ((fun env => some ([], env))))))) (nilB)
def r_f_law_number : Ip.Run := runB 1 1 b_f_law_number
def b_f_law_add : MEnv → Option Out := seqB (retB (callF 2 r_f_law_lowest (consA (datF (op2 (datL (datF (op2 (datL (datF (op2 (nameL 0) (datL (constD (.int 0))) ixD))) (datL (datF (op2 (nameL 1) (datL (constD (.int 1))) ixD))) mulD))) (datL (datF (op2 (datL (datF (op2 (nameL 1) (datL (constD (.int 0))) ixD))) (datL (datF (op2 (nameL 0) (datL (constD (.int 1))) ixD))) mulD))) addD)) (consA (datF (op2 (datL (datF (op2 (nameL 0) (datL (constD (.int 1))) ixD))) (datL (datF (op2 (nameL 1) (datL (constD (.int 1))) ixD))) mulD)) ((fun env => some ([], env))))))) (nilB)
def r_f_law_add : Ip.Run := runB 2 2 b_f_law_add
def b_f_law_mul : MEnv → Option Out := seqB (retB (callF 2 r_f_law_lowest (consA (datF (op2 (datL (datF (op2 (nameL 0) (datL (constD (.int 0))) ixD))) (datL (datF (op2 (nameL 1) (datL (constD (.int 0))) ixD))) mulD)) (consA (datF (op2 (datL (datF (op2 (nameL 0) (datL (constD (.int 1))) ixD))) (datL (datF (op2 (nameL 1) (datL (constD (.int 1))) ixD))) mulD)) ((fun env => some ([], env))))))) (nilB)
def r_f_law_mul : Ip.Run := runB 2 2 b_f_law_mul
def b_f_law_value : MEnv → Option Out := seqB (asgB 2 (tupF (consA (constD (.int 0)) (consA (constD (.int 1)) ((fun env => some ([], env))))))) (seqB (forB (rng1I (consA (datF (op1 (nameL 0) lenD)) ((fun env => some ([], env))))) (nameG 3) (seqB (asgB 2 (callF 2 r_f_law_add (consA (datF (callF 2 r_f_law_mul (consA (nameV 2) (consA (nameV 1) ((fun env => some ([], env))))))) (consA (datF (tupF (consA (datF (op2 (nameL 0) (datL (datF (op2 (datL (datF (op2 (datL (datF (op1 (nameL 0) lenD))) (datL (constD (.int 1))) subD))) (nameL 3) subD))) ixD)) (consA (constD (.int 1)) ((fun env => some ([], env))))))) ((fun env => some ([], env))))))) (nilB))) (seqB (retNm 2) (nilB)))
def r_f_law_value : Ip.Run := runB 4 2 b_f_law_value
def b_f_law_div : MEnv → Option Out := seqB (retB (callF 2 r_f_law_lowest (consA (datF (op2 (datL (datF (op2 (nameL 0) (datL (constD (.int 0))) ixD))) (datL (datF (op2 (nameL 1) (datL (constD (.int 1))) ixD))) mulD)) (consA (datF (op2 (datL (datF (op2 (nameL 0) (datL (constD (.int 1))) ixD))) (datL (datF (op2 (nameL 1) (datL (constD (.int 0))) ixD))) mulD)) ((fun env => some ([], env))))))) (nilB)
def r_f_law_div : Ip.Run := runB 2 2 b_f_law_div
def b_f_law_row_value : MEnv → Option Out := seqB (asgB 3 (callF 2 r_f_law_value (consA (datF (op2 (nameL 0) (datL (constD (.int 1))) ixD)) (consA (nameV 2) ((fun env => some ([], env))))))) (seqB (forB (rng1I (consA (datF (op1 (nameL 1) lenD)) ((fun env => some ([], env))))) (nameG 4) (seqB (asgB 3 (callF 2 r_f_law_add (consA (nameV 3) (consA (datF (callF 2 r_f_law_mul (consA (datF (callF 2 r_f_law_value (consA (datF (op2 (datL (datF (op2 (nameL 0) (datL (constD (.int 0))) ixD))) (nameL 4) ixD)) (consA (nameV 2) ((fun env => some ([], env))))))) (consA (datF (op2 (nameL 1) (nameL 4) ixD)) ((fun env => some ([], env))))))) ((fun env => some ([], env))))))) (nilB))) (seqB (retNm 3) (nilB)))
def r_f_law_row_value : Ip.Run := runB 5 3 b_f_law_row_value
def b_f_law_fulfilled : MEnv → Option Out := seqB (retB (op1 (datL (datF (compF (seqI (nameV 0)) (nameG 3) (yesT) (datF (callF 2 r_f_law_fits (consA (datF (op2 (nameL 3) (datL (constD (.int 2))) ixD)) (consA (datF (op2 (datL (datF (callF 3 r_f_law_row_value (consA (nameV 3) (consA (nameV 1) (consA (nameV 2) ((fun env => some ([], env))))))))) (datL (constD (.int 0))) ixD)) ((fun env => some ([], env))))))) [3]))) allD)) (nilB)
def r_f_law_fulfilled : Ip.Run := runB 4 3 b_f_law_fulfilled
def b_f_law_sign : MEnv → Option Out := seqB (asgB 2 (op2 (datL (datF (callF 2 r_f_law_value (consA (nameV 0) (consA (nameV 1) ((fun env => some ([], env)))))))) (datL (constD (.int 0))) ixD)) (seqB (retB (op2 (datL (datF (op1 (datL (datF (op2 (nameL 2) (datL (constD (.int 0))) gtD))) intD))) (datL (datF (op1 (datL (datF (op2 (nameL 2) (datL (constD (.int 0))) ltD))) intD))) subD)) (nilB))
def r_f_law_sign : Ip.Run := runB 3 2 b_f_law_sign
def b_sign_of_value : MEnv → Option Out := seqB (retB (callF 1 r_sign_of_whole (consA (datF (callF 2 r_scaled_value (consA (nameV 0) (consA (nameV 1) ((fun env => some ([], env))))))) ((fun env => some ([], env)))))) (nilB)
def r_sign_of_value : Ip.Run := runB 2 2 b_sign_of_value
def b_m_Point_sign_of : MEnv → Option Out := seqB (retB (callF 2 r_sign_of_value (consA (nameV 1) (consA (datF (op1 (nameL 0) (fldD "Point" "t"))) ((fun env => some ([], env))))))) (nilB)
def r_m_Point_sign_of : Ip.Run := runB 2 2 b_m_Point_sign_of
def b_f_signs_by : MEnv → Option Out := seqB (retB (compF (seqI (nameV 0)) (nameG 3) (yesT) (datF (callF 2 r_m_Point_sign_of (consI "Point" "sign_of" (nameV 2) (consA (datF (op2 (datL (datF (op2 (nameL 3) (datL (constD (.int 0))) ixD))) (nameL 1) ixD)) ((fun env => some ([], env))))))) [3])) (nilB)
def r_f_signs_by : Ip.Run := runB 4 3 b_f_signs_by
def b_signs_at : MEnv → Option Out := seqB (retB (callF 3 r_f_signs_by (consA (nameV 0) (consA (nameV 1) (consA (datF (mkF "Point" "t" (consA (nameV 2) ((fun env => some ([], env)))))) ((fun env => some ([], env)))))))) (nilB)
def r_signs_at : Ip.Run := runB 3 3 b_signs_at
def b_f_left_out : MEnv → Option Out := seqB (tgtB (nameV 0) (tupG 3 (consG (nameG 2) (consG (nameG 3) (consG (nameG 4) (nilG)))))) (seqB (asgB 5 (op2 (datL (datF (slF (nameL 2) ((fun env => some (none, env))) (intO (nameL 1))))) (datL (datF (slF (nameL 2) (intO (datL (datF (op2 (nameL 1) (datL (constD (.int 1))) addD)))) ((fun env => some (none, env)))))) addD)) (seqB (retB (tupF (consA (datF (compF (seqI (nameV 5)) (nameG 6) (yesT) (datF (op1 (nameL 6) listD)) [6])) (consA (datF (op1 (nameL 3) listD)) (consA (nameV 4) ((fun env => some ([], env)))))))) (nilB)))
def r_f_left_out : Ip.Run := runB 7 2 b_f_left_out
def b_trimmed : MEnv → Option Out := seqB (asgB 1 (op1 (nameL 0) lenD)) (seqB (whileLoop (andT (boolT (op2 (nameL 1) (datL (constD (.int 0))) gtD)) (boolT (op2 (datL (datF (op2 (nameL 0) (datL (datF (op2 (nameL 1) (datL (constD (.int 1))) subD))) ixD))) (datL (constD (.int 0))) eqD))) (seqB (augB 1 (datL (constD (.int 1))) (fun i j => i - j)) (nilB)) fuel) (seqB (retB (slF (nameL 0) ((fun env => some (none, env))) (intO (nameL 1)))) (nilB)))
def r_trimmed : Ip.Run := runB 2 1 b_trimmed
def b_subtract : MEnv → Option Out := seqB (retB (callF 1 r_trimmed (consA (datF (compF (zlI (0) (consA (nameV 0) (consA (nameV 1) ((fun env => some ([], env)))))) (tupG 2 (consG (nameG 2) (consG (nameG 3) (nilG)))) (yesT) (datF (op2 (nameL 2) (nameL 3) subD)) [2, 3])) ((fun env => some ([], env)))))) (nilB)
def r_subtract : Ip.Run := runB 4 2 b_subtract
def b_multiply : MEnv → Option Out := seqB (ifB (orT (boolT (op2 (nameL 0) (datL (datF (lstF ((fun env => some ([], env)))))) eqD)) (boolT (op2 (nameL 1) (datL (datF (lstF ((fun env => some ([], env)))))) eqD))) (seqB (retB (lstF ((fun env => some ([], env))))) (nilB)) (nilB)) (seqB (asgB 2 (repF (lstF (consA (constD (.int 0)) ((fun env => some ([], env))))) (datL (datF (op2 (datL (datF (op2 (datL (datF (op1 (nameL 0) lenD))) (datL (datF (op1 (nameL 1) lenD))) addD))) (datL (constD (.int 1))) subD))))) (seqB (forB (enumI (nameV 0)) (tupG 2 (consG (nameG 3) (consG (nameG 4) (nilG)))) (seqB (forB (enumI (nameV 1)) (tupG 2 (consG (nameG 5) (consG (nameG 6) (nilG)))) (seqB (augSB 2 (datL (datF (op2 (nameL 3) (nameL 5) addD))) (datL (datF (op2 (nameL 4) (nameL 6) mulD))) (fun i j => i + j)) (nilB))) (nilB))) (seqB (retNm 2) (nilB))))
def r_multiply : Ip.Run := runB 7 2 b_multiply
def b_content : MEnv → Option Out := seqB (asgB 1 (valF (constD (.int 0)))) (seqB (forB (seqI (nameV 0)) (nameG 2) (seqB (asgB 1 (op2 (nameL 1) (nameL 2) gcdD)) (nilB))) (seqB (retNm 1) (nilB)))
def r_content : Ip.Run := runB 3 1 b_content
def b_f_joined : MEnv → Option Out := seqB (asgB 6 (lstF (consS (datF (slF (datL (datF (op2 (nameL 0) (datL (constD (.int 0))) ixD))) ((fun env => some (none, env))) (intO (nameL 4)))) (consS (datF (slF (datL (datF (op2 (nameL 0) (datL (constD (.int 0))) ixD))) (intO (datL (datF (op2 (nameL 4) (datL (constD (.int 1))) addD)))) ((fun env => some (none, env))))) (consA (datF (op2 (nameL 0) (datL (constD (.int 1))) ixD)) ((fun env => some ([], env)))))))) (seqB (asgB 7 (lstF (consS (datF (slF (datL (datF (op2 (nameL 2) (datL (constD (.int 0))) ixD))) ((fun env => some (none, env))) (intO (nameL 4)))) (consS (datF (slF (datL (datF (op2 (nameL 2) (datL (constD (.int 0))) ixD))) (intO (datL (datF (op2 (nameL 4) (datL (constD (.int 1))) addD)))) ((fun env => some (none, env))))) (consA (datF (op2 (nameL 2) (datL (constD (.int 1))) ixD)) ((fun env => some ([], env)))))))) (seqB (asgB 8 (compF (zipI (consA (nameV 6) (consA (nameV 7) ((fun env => some ([], env)))))) (tupG 2 (consG (nameG 10) (consG (nameG 11) (nilG)))) (yesT) (datF (callF 2 r_subtract (consA (datF (callF 2 r_multiply (consA (nameV 10) (consA (nameV 1) ((fun env => some ([], env))))))) (consA (datF (callF 2 r_multiply (consA (nameV 11) (consA (nameV 3) ((fun env => some ([], env))))))) ((fun env => some ([], env))))))) [10, 11])) (seqB (asgB 9 (callF 1 r_content (consA (datF (compF (seqI (nameV 8)) (nameG 12) (yesT) (datF (callF 1 r_content (consA (nameV 12) ((fun env => some ([], env)))))) [12])) ((fun env => some ([], env)))))) (seqB (asgB 8 (compF (seqI (nameV 8)) (nameG 12) (yesT) (datF (compF (seqI (nameV 12)) (nameG 13) (yesT) (datF (op2 (nameL 13) (nameL 9) fdivD)) [13])) [12])) (seqB (retB (tupF (consA (datF (slF (nameL 8) ((fun env => some (none, env))) (intO (datL (datF (op1 (datL (constD (.int 1))) negD)))))) (consA (datF (op2 (nameL 8) (datL (datF (op1 (datL (constD (.int 1))) negD))) ixD)) (consA (nameV 5) ((fun env => some ([], env)))))))) (nilB))))))
def r_f_joined : Ip.Run := runB 14 6 b_f_joined
def b_f_with_one_used_up : MEnv → Option Out := seqB (asgB 4 (op2 (nameL 0) (nameL 3) ixD)) (seqB (asgB 5 (op2 (nameL 2) (nameL 3) ixD)) (seqB (asgB 6 (compF (seqI (datF (op2 (datL (datF (op2 (nameL 4) (datL (constD (.int 0))) ixD))) (nameL 1) ixD))) (nameG 11) (yesT) (datF (op2 (nameL 11) (nameL 5) mulD)) [11])) (seqB (asgB 7 (lstF ((fun env => some ([], env))))) (seqB (forB (enumI (nameV 0)) (tupG 2 (consG (nameG 8) (consG (nameG 9) (nilG)))) (seqB (ifB (andT (boolT (op2 (nameL 8) (nameL 3) neD)) (boolT (op2 (datL (datF (op2 (nameL 2) (nameL 8) ixD))) (datL (constD (.int 0))) eqD))) (seqB (appB 7 (datF (callF 2 r_f_left_out (consA (nameV 9) (consA (nameV 1) ((fun env => some ([], env)))))))) (nilB)) (seqB (ifB (boolT (op2 (nameL 8) (nameL 3) neD)) (seqB (asgB 10 (compF (seqI (datF (op2 (datL (datF (op2 (nameL 9) (datL (constD (.int 0))) ixD))) (nameL 1) ixD))) (nameG 11) (yesT) (datF (op2 (nameL 11) (nameL 5) mulD)) [11])) (seqB (appB 7 (datF (callF 6 r_f_joined (consA (nameV 9) (consA (nameV 6) (consA (nameV 4) (consA (nameV 10) (consA (nameV 1) (consA (datF (op2 (nameL 9) (datL (constD (.int 2))) ixD)) ((fun env => some ([], env)))))))))))) (nilB))) (nilB)) (nilB))) (nilB))) (seqB (retNm 7) (nilB))))))
def r_f_with_one_used_up : Ip.Run := runB 12 4 b_f_with_one_used_up
def b_f_with_pairs : MEnv → Option Out := seqB (asgB 4 (compF (zipI (consA (nameV 0) (consA (nameV 2) ((fun env => some ([], env)))))) (tupG 2 (consG (nameG 9) (consG (nameG 3) (nilG)))) (boolT (op2 (nameL 3) (datL (constD (.int 0))) eqD)) (datF (callF 2 r_f_left_out (consA (nameV 9) (consA (nameV 1) ((fun env => some ([], env))))))) [9, 3])) (seqB (asgB 5 (compF (zipI (consA (nameV 0) (consA (nameV 2) ((fun env => some ([], env)))))) (tupG 2 (consG (nameG 9) (consG (nameG 3) (nilG)))) (boolT (op2 (nameL 3) (datL (constD (.int 1))) eqD)) (nameV 9) [9, 3])) (seqB (asgB 6 (compF (zipI (consA (nameV 0) (consA (nameV 2) ((fun env => some ([], env)))))) (tupG 2 (consG (nameG 9) (consG (nameG 3) (nilG)))) (boolT (op2 (nameL 3) (datL (datF (op1 (datL (constD (.int 1))) negD))) eqD)) (nameV 9) [9, 3])) (seqB (forB (seqI (nameV 5)) (nameG 7) (seqB (forB (seqI (nameV 6)) (nameG 8) (seqB (asgB 3 (ifE (boolT (op2 (datL (constD (.str "<"))) (datL (datF (tupF (consA (datF (op2 (nameL 7) (datL (constD (.int 2))) ixD)) (consA (datF (op2 (nameL 8) (datL (constD (.int 2))) ixD)) ((fun env => some ([], env)))))))) (inD false))) (valF (constD (.str "<"))) (valF (constD (.str "<="))))) (seqB (appB 4 (datF (callF 6 r_f_joined (consA (nameV 8) (consA (datF (op2 (datL (datF (op2 (nameL 7) (datL (constD (.int 0))) ixD))) (nameL 1) ixD)) (consA (nameV 7) (consA (datF (op2 (datL (datF (op2 (nameL 8) (datL (constD (.int 0))) ixD))) (nameL 1) ixD)) (consA (nameV 1) (consA (nameV 3) ((fun env => some ([], env)))))))))))) (nilB)))) (nilB))) (seqB (retNm 4) (nilB)))))
def r_f_with_pairs : Ip.Run := runB 10 3 b_f_with_pairs
def b_taken_out : MEnv → Option Out := seqB (forB (enumI (nameV 0)) (tupG 2 (consG (nameG 3) (consG (nameG 4) (nilG)))) (seqB (ifB (andT (boolT (op2 (datL (datF (op2 (nameL 4) (datL (constD (.int 2))) ixD))) (datL (constD (.str "="))) eqD)) (boolT (op2 (datL (datF (op2 (nameL 2) (nameL 3) ixD))) (datL (constD (.int 0))) neD))) (seqB (retB (callF 4 r_f_with_one_used_up (consA (nameV 0) (consA (nameV 1) (consA (nameV 2) (consA (nameV 3) ((fun env => some ([], env))))))))) (nilB)) (nilB)) (nilB))) (seqB (retB (callF 3 r_f_with_pairs (consA (nameV 0) (consA (nameV 1) (consA (nameV 2) ((fun env => some ([], env)))))))) (nilB))
def r_taken_out : Ip.Run := runB 5 3 b_taken_out
def b_f_stages : MEnv → Option Out := seqB (asgB 3 (lstF (consA (nameV 1) ((fun env => some ([], env)))))) (seqB (forB (rrng1I (nameL 0)) (nameG 4) (seqB (appB 3 (datF (callF (2 + 1) r_taken_out (appA 2 (consA (datF (op2 (nameL 3) (datL (datF (op1 (datL (constD (.int 1))) negD))) ixD)) (consA (nameV 4) ((fun env => some ([], env))))) (consA (datF (callF 3 r_f_signs_by (consA (datF (op2 (nameL 3) (datL (datF (op1 (datL (constD (.int 1))) negD))) ixD)) (consA (nameV 4) (consA (nameV 2) ((fun env => some ([], env)))))))) ((fun env => some ([], env)))))))) (nilB))) (seqB (retNm 3) (nilB)))
def r_f_stages : Ip.Run := runB 5 3 b_f_stages
def b_f_all_fit : MEnv → Option Out := seqB (retB (op1 (datL (datF (compF (seqI (nameV 0)) (tupG 3 (consG (nameG 2) (consG (nameG 3) (consG (nameG 4) (nilG))))) (yesT) (datF (callF 2 r_fits (consA (nameV 4) (consA (datF (callF 2 r_m_Point_sign_of (consI "Point" "sign_of" (nameV 1) (consA (nameV 3) ((fun env => some ([], env))))))) ((fun env => some ([], env))))))) [2, 3, 4]))) allD)) (nilB)
def r_f_all_fit : Ip.Run := runB 5 2 b_f_all_fit
def b_block_by : MEnv → Option Out := seqB (retB (callF 2 r_f_all_fit (consA (datF (op2 (datL (datF (callF 3 r_f_stages (consA (nameV 0) (consA (nameV 1) (consA (nameV 2) ((fun env => some ([], env))))))))) (datL (datF (op1 (datL (constD (.int 1))) negD))) ixD)) (consA (nameV 2) ((fun env => some ([], env))))))) (nilB)
def r_block_by : Ip.Run := runB 3 3 b_block_by
def b_f_value_of_size : MEnv → Option Out := seqB (asgB 3 (callF 2 r_scaled_value (consA (datF (lstF (consS (nameV 0) (consS (datF (repF (lstF (consA (constD (.int 0)) ((fun env => some ([], env))))) (datL (datF (op2 (nameL 1) (datL (datF (op1 (nameL 0) lenD))) subD))))) ((fun env => some ([], env))))))) (consA (nameV 2) ((fun env => some ([], env))))))) (seqB (retB (ifE (boolT (op2 (nameL 3) (datL (constD (.int 0))) neD)) (lstF (consA (nameV 3) ((fun env => some ([], env))))) (lstF ((fun env => some ([], env)))))) (nilB))
def r_f_value_of_size : Ip.Run := runB 4 3 b_f_value_of_size
def b_f_row_at : MEnv → Option Out := seqB (tgtB (nameV 0) (tupG 3 (consG (nameG 2) (consG (nameG 3) (consG (nameG 4) (nilG)))))) (seqB (asgB 5 (lstF (consS (nameV 2) (consA (nameV 3) ((fun env => some ([], env))))))) (seqB (asgB 6 (op1 (datL (datF (compF (seqI (nameV 5)) (nameG 8) (yesT) (datF (op1 (nameL 8) lenD)) [8]))) maxD)) (seqB (asgB 7 (compF (seqI (nameV 5)) (nameG 8) (yesT) (datF (callF 3 r_f_value_of_size (consA (nameV 8) (consA (nameV 6) (consA (nameV 1) ((fun env => some ([], env)))))))) [8])) (seqB (retB (tupF (consA (datF (slF (nameL 7) ((fun env => some (none, env))) (intO (datL (datF (op1 (datL (constD (.int 1))) negD)))))) (consA (datF (op2 (nameL 7) (datL (datF (op1 (datL (constD (.int 1))) negD))) ixD)) (consA (nameV 4) ((fun env => some ([], env)))))))) (nilB)))))
def r_f_row_at : Ip.Run := runB 9 2 b_f_row_at
def b_block_at : MEnv → Option Out := seqB (retB (callF 3 r_block_by (consA (nameV 0) (consA (datF (compF (seqI (nameV 1)) (nameG 3) (yesT) (datF (callF 2 r_f_row_at (consA (nameV 3) (consA (nameV 2) ((fun env => some ([], env))))))) [3])) (consA (datF (mkF "Point" "t" (consA (nameV 2) ((fun env => some ([], env)))))) ((fun env => some ([], env)))))))) (nilB)
def r_block_at : Ip.Run := runB 4 3 b_block_at
def b_f_law_sub : MEnv → Option Out := seqB (retB (callF 2 r_f_law_add (consA (nameV 0) (consA (datF (tupF (consA (datF (op1 (datL (datF (op2 (nameL 1) (datL (constD (.int 0))) ixD))) negD)) (consA (datF (op2 (nameL 1) (datL (constD (.int 1))) ixD)) ((fun env => some ([], env))))))) ((fun env => some ([], env))))))) (nilB)
def r_f_law_sub : Ip.Run := runB 2 2 b_f_law_sub
def b_f_law_row_less : MEnv → Option Out := seqB (retB (tupF (consA (datF (compF (rng1I (consA (datF (op1 (nameL 0) lenD)) ((fun env => some ([], env))))) (nameG 5) (yesT) (datF (callF 2 r_f_law_sub (consA (datF (callF 2 r_f_law_mul (consA (datF (op2 (nameL 0) (nameL 5) ixD)) (consA (nameV 1) ((fun env => some ([], env))))))) (consA (datF (callF 2 r_f_law_mul (consA (datF (op2 (nameL 2) (nameL 5) ixD)) (consA (nameV 3) ((fun env => some ([], env))))))) ((fun env => some ([], env))))))) [5])) (consA (nameV 4) ((fun env => some ([], env))))))) (nilB)
def r_f_law_row_less : Ip.Run := runB 6 5 b_f_law_row_less
def b_f_law_taken : MEnv → Option Out := seqB (forB (rng1I (consA (datF (op1 (nameL 0) lenD)) ((fun env => some ([], env))))) (nameG 1) (seqB (tgtB (datF (op2 (nameL 0) (nameL 1) ixD)) (tupG 2 (consG (nameG 2) (consG (nameG 3) (nilG))))) (seqB (ifB (andT (boolT (op2 (nameL 3) (datL (constD (.str "="))) eqD)) (boolT (op2 (datL (datF (op2 (nameL 2) (datL (constD (.int 0))) ixD))) (datL (datF (tupF (consA (constD (.int 0)) (consA (constD (.int 1)) ((fun env => some ([], env)))))))) neD))) (seqB (asgB 4 (op2 (nameL 2) (datL (constD (.int 0))) ixD)) (seqB (ifB (boolT (op2 (datL (datF (op2 (nameL 4) (datL (constD (.int 0))) ixD))) (datL (constD (.int 0))) ltD)) (seqB (asgB 4 (tupF (consA (datF (op1 (datL (datF (op2 (nameL 4) (datL (constD (.int 0))) ixD))) negD)) (consA (datF (op2 (nameL 4) (datL (constD (.int 1))) ixD)) ((fun env => some ([], env))))))) (seqB (asgB 2 (compF (seqI (nameV 2)) (nameG 5) (yesT) (datF (tupF (consA (datF (op1 (datL (datF (op2 (nameL 5) (datL (constD (.int 0))) ixD))) negD)) (consA (datF (op2 (nameL 5) (datL (constD (.int 1))) ixD)) ((fun env => some ([], env))))))) [5])) (nilB))) (nilB)) (seqB (asgB 6 (lstF ((fun env => some ([], env))))) (seqB (forB (rng1I (consA (datF (op1 (nameL 0) lenD)) ((fun env => some ([], env))))) (nameG 7) (seqB (ifB (boolT (op2 (nameL 7) (nameL 1) neD)) (seqB (appB 6 (datF (callF 5 r_f_law_row_less (consA (datF (op2 (datL (datF (op2 (nameL 0) (nameL 7) ixD))) (datL (constD (.int 0))) ixD)) (consA (nameV 4) (consA (nameV 2) (consA (datF (op2 (datL (datF (op2 (datL (datF (op2 (nameL 0) (nameL 7) ixD))) (datL (constD (.int 0))) ixD))) (datL (constD (.int 0))) ixD)) (consA (datF (op2 (datL (datF (op2 (nameL 0) (nameL 7) ixD))) (datL (constD (.int 1))) ixD)) ((fun env => some ([], env))))))))))) (nilB)) (nilB)) (nilB))) (seqB (retB (compF (seqI (nameV 6)) (tupG 2 (consG (nameG 11) (consG (nameG 8) (nilG)))) (yesT) (datF (tupF (consA (datF (slF (nameL 11) (intO (datL (constD (.int 1)))) ((fun env => some (none, env))))) (consA (nameV 8) ((fun env => some ([], env))))))) [11, 8])) (nilB)))))) (nilB)) (nilB)))) (seqB (asgB 6 (compF (seqI (nameV 0)) (tupG 2 (consG (nameG 11) (consG (nameG 3) (nilG)))) (boolT (op2 (datL (datF (op2 (nameL 11) (datL (constD (.int 0))) ixD))) (datL (datF (tupF (consA (constD (.int 0)) (consA (constD (.int 1)) ((fun env => some ([], env)))))))) eqD)) (datF (tupF (consA (datF (slF (nameL 11) (intO (datL (constD (.int 1)))) ((fun env => some (none, env))))) (consA (nameV 3) ((fun env => some ([], env))))))) [11, 3])) (seqB (forB (seqI (nameV 0)) (tupG 2 (consG (nameG 9) (consG (nameG 5) (nilG)))) (seqB (forB (seqI (nameV 0)) (tupG 2 (consG (nameG 10) (consG (nameG 8) (nilG)))) (seqB (ifB (andT (boolT (op2 (datL (datF (op2 (datL (datF (op2 (nameL 9) (datL (constD (.int 0))) ixD))) (datL (constD (.int 0))) ixD))) (datL (constD (.int 0))) gtD)) (boolT (op2 (datL (datF (op2 (datL (datF (op2 (nameL 10) (datL (constD (.int 0))) ixD))) (datL (constD (.int 0))) ixD))) (datL (constD (.int 0))) ltD))) (seqB (asgB 3 (valF (constD (.str "<=")))) (seqB (ifB (orT (boolT (op2 (nameL 5) (datL (constD (.str "<"))) eqD)) (boolT (op2 (nameL 8) (datL (constD (.str "<"))) eqD))) (seqB (asgB 3 (valF (constD (.str "<")))) (nilB)) (nilB)) (seqB (appB 6 (datF (tupF (consA (datF (slF (datL (datF (op2 (datL (datF (callF 5 r_f_law_row_less (consA (nameV 10) (consA (datF (op2 (nameL 9) (datL (constD (.int 0))) ixD)) (consA (nameV 9) (consA (datF (op2 (nameL 10) (datL (constD (.int 0))) ixD)) (consA (nameV 3) ((fun env => some ([], env))))))))))) (datL (constD (.int 0))) ixD))) (intO (datL (constD (.int 1)))) ((fun env => some (none, env))))) (consA (nameV 3) ((fun env => some ([], env)))))))) (nilB)))) (nilB)) (nilB))) (nilB))) (seqB (retNm 6) (nilB))))
def r_f_law_taken : Ip.Run := runB 12 1 b_f_law_taken
def b_f_law_numeric : MEnv → Option Out := seqB (asgB 2 (lstF ((fun env => some ([], env))))) (seqB (forB (seqI (nameV 0)) (tupG 3 (consG (nameG 3) (consG (nameG 4) (consG (nameG 5) (nilG))))) (seqB (appB 2 (datF (tupF (consA (datF (op2 (datL (datF (compF (seqI (nameV 3)) (nameG 6) (yesT) (datF (callF 2 r_f_law_value (consA (nameV 6) (consA (nameV 1) ((fun env => some ([], env))))))) [6]))) (datL (datF (lstF (consA (datF (callF 2 r_f_law_value (consA (nameV 4) (consA (nameV 1) ((fun env => some ([], env))))))) ((fun env => some ([], env))))))) addD)) (consA (nameV 5) ((fun env => some ([], env)))))))) (nilB))) (seqB (retNm 2) (nilB)))
def r_f_law_numeric : Ip.Run := runB 7 2 b_f_law_numeric
def b_f_law_block : MEnv → Option Out := seqB (asgB 3 (callF 2 r_f_law_numeric (consA (nameV 1) (consA (nameV 2) ((fun env => some ([], env))))))) (seqB (forB (rng1I (consA (nameV 0) ((fun env => some ([], env))))) (nameG 4) (seqB (asgB 3 (callF 1 r_f_law_taken (consA (nameV 3) ((fun env => some ([], env)))))) (nilB))) (seqB (retB (op1 (datL (datF (compF (seqI (nameV 3)) (tupG 2 (consG (nameG 5) (consG (nameG 6) (nilG)))) (yesT) (datF (callF 2 r_f_law_fits (consA (nameV 6) (consA (datF (op2 (datL (datF (op2 (nameL 5) (datL (constD (.int 0))) ixD))) (datL (constD (.int 0))) ixD)) ((fun env => some ([], env))))))) [5, 6]))) allD)) (nilB)))
def r_f_law_block : Ip.Run := runB 7 3 b_f_law_block
def b_f_is_atom : MEnv → Option Out := seqB (retB (op2 (datL (datF (op2 (nameL 0) (datL (constD (.int 0))) ixD))) (datL (datF (tupF (consA (constD (.str "sign")) (consA (constD (.str "some")) ((fun env => some ([], env)))))))) (inD false))) (nilB)
def r_f_is_atom : Ip.Run := runB 1 1 b_f_is_atom
def b_f_copied_row : MEnv → Option Out := seqB (tgtB (nameV 0) (tupG 3 (consG (nameG 1) (consG (nameG 2) (consG (nameG 3) (nilG)))))) (seqB (retB (tupF (consA (datF (compF (seqI (nameV 1)) (nameG 4) (yesT) (datF (op1 (nameL 4) listD)) [4])) (consA (datF (op1 (nameL 2) listD)) (consA (nameV 3) ((fun env => some ([], env)))))))) (nilB))
def r_f_copied_row : Ip.Run := runB 5 1 b_f_copied_row
def b_copied (r_copied : Ip.Run) : MEnv → Option Out := seqB (asgB 1 (op2 (nameL 0) (datL (constD (.int 0))) ixD)) (seqB (ifB (boolT (op2 (nameL 1) (datL (constD (.str "sign"))) eqD)) (seqB (retB (tupF (consA (nameV 1) (consA (datF (op1 (datL (datF (op2 (nameL 0) (datL (constD (.int 1))) ixD))) listD)) (consA (datF (op2 (nameL 0) (datL (constD (.int 2))) ixD)) ((fun env => some ([], env)))))))) (nilB)) (nilB)) (seqB (ifB (boolT (op2 (nameL 1) (datL (constD (.str "some"))) eqD)) (seqB (retB (tupF (consA (nameV 1) (consA (datF (op2 (nameL 0) (datL (constD (.int 1))) ixD)) (consA (datF (compF (seqI (datF (op2 (nameL 0) (datL (constD (.int 2))) ixD))) (nameG 2) (yesT) (datF (callF 1 r_f_copied_row (consA (nameV 2) ((fun env => some ([], env)))))) [2])) ((fun env => some ([], env)))))))) (nilB)) (nilB)) (seqB (retB (tupF (consA (nameV 1) (consS (datF (compF (seqI (datF (slF (nameL 0) (intO (datL (constD (.int 1)))) ((fun env => some (none, env)))))) (nameG 3) (yesT) (datF (callF 1 r_copied (consA (nameV 3) ((fun env => some ([], env)))))) [3])) ((fun env => some ([], env))))))) (nilB))))
def r_copied : Nat → Ip.Run
  | 0 => fun _ => none
  | n + 1 => runB 4 1 (b_copied (r_copied n))
def b_atoms_of (r_atoms_of : Ip.Run) : MEnv → Option Out := seqB (ifB (boolT (callF 1 r_f_is_atom (consA (nameV 0) ((fun env => some ([], env)))))) (seqB (retB (lstF (consA (datF (callF 1 (r_copied recN) (consA (nameV 0) ((fun env => some ([], env)))))) ((fun env => some ([], env)))))) (nilB)) (nilB)) (seqB (asgB 1 (lstF ((fun env => some ([], env))))) (seqB (forB (seqI (datF (slF (nameL 0) (intO (datL (constD (.int 1)))) ((fun env => some (none, env)))))) (nameG 2) (seqB (extB 1 (callF 1 r_atoms_of (consA (nameV 2) ((fun env => some ([], env)))))) (nilB))) (seqB (retNm 1) (nilB))))
def r_atoms_of : Nat → Ip.Run
  | 0 => fun _ => none
  | n + 1 => runB 3 1 (b_atoms_of (r_atoms_of n))
def b_a_joined_formulas : MEnv → Option Out := seqB (asgB 3 (op2 (nameL 0) (datL (constD (.str "or"))) eqD)) (seqB (ifB (orT (boolT (op2 (nameL 1) (nameL 3) eqD)) (boolT (op2 (nameL 2) (nameL 3) eqD))) (seqB (retNm 3) (nilB)) (nilB)) (seqB (ifB (orT (boolT (op2 (nameL 1) (datL (constD .none)) isD)) (boolT (op2 (nameL 2) (datL (constD .none)) isD))) (seqB (retB (valF (constD .none))) (nilB)) (nilB)) (seqB (retB (boolS (notT (boolT (valF (nameV 3)))))) (nilB))))
def r_a_joined_formulas : Ip.Run := runB 4 3 b_a_joined_formulas
def b_size_of (r_size_of : Ip.Run) : MEnv → Option Out := seqB (ifB (boolT (callF 1 r_f_is_atom (consA (nameV 0) ((fun env => some ([], env)))))) (seqB (retB (ifE (boolT (op2 (datL (datF (op2 (nameL 0) (datL (constD (.int 0))) ixD))) (datL (constD (.str "sign"))) eqD)) (tupF (consA (constD (.int 1)) (consA (constD (.int 0)) (consA (constD (.int 0)) ((fun env => some ([], env))))))) (tupF (consA (constD (.int 0)) (consA (constD (.int 1)) (consA (constD (.int 0)) ((fun env => some ([], env))))))))) (nilB)) (nilB)) (seqB (asgB 1 (compF (seqI (datF (slF (nameL 0) (intO (datL (constD (.int 1)))) ((fun env => some (none, env)))))) (nameG 4) (yesT) (datF (callF 1 r_size_of (consA (nameV 4) ((fun env => some ([], env)))))) [4])) (seqB (asgB 2 (op1 (datL (datF (compF (seqI (nameV 1)) (nameG 5) (yesT) (datF (op2 (nameL 5) (datL (constD (.int 0))) ixD)) [5]))) sumD)) (seqB (asgB 3 (op1 (datL (datF (compF (seqI (nameV 1)) (nameG 5) (yesT) (datF (op2 (nameL 5) (datL (constD (.int 1))) ixD)) [5]))) sumD)) (seqB (retB (tupF (consA (nameV 2) (consA (nameV 3) (consA (datF (op2 (datL (constD (.int 1))) (datL (datF (op1 (datL (datF (compF (seqI (nameV 1)) (nameG 5) (yesT) (datF (op2 (nameL 5) (datL (constD (.int 2))) ixD)) [5]))) maxD))) addD)) ((fun env => some ([], env)))))))) (nilB)))))
def r_size_of : Nat → Ip.Run
  | 0 => fun _ => none
  | n + 1 => runB 6 1 (b_size_of (r_size_of n))
def b_f_atom_count : MEnv → Option Out := seqB (tgtB (datF (callF 1 (r_size_of recN) (consA (nameV 0) ((fun env => some ([], env)))))) (tupG 3 (consG (nameG 1) (consG (nameG 2) (consG (nameG 3) (nilG)))))) (seqB (retB (op2 (nameL 1) (nameL 2) addD)) (nilB))
def r_f_atom_count : Ip.Run := runB 4 1 b_f_atom_count
def b_truth_by (r_truth_by : Ip.Run) : MEnv → Option Out := seqB (ifB (boolT (callF 1 r_f_is_atom (consA (nameV 0) ((fun env => some ([], env)))))) (seqB (retB (op2 (nameL 1) (datL (constD (.int 0))) ixD)) (nilB)) (nilB)) (seqB (ifB (boolT (op2 (datL (datF (op2 (nameL 0) (datL (constD (.int 0))) ixD))) (datL (constD (.str "not"))) eqD)) (seqB (asgB 2 (callF 2 r_truth_by (consA (datF (op2 (nameL 0) (datL (constD (.int 1))) ixD)) (consA (nameV 1) ((fun env => some ([], env))))))) (seqB (retB (ifE (boolT (op2 (nameL 2) (datL (constD .none)) isD)) (valF (constD .none)) (boolS (notT (boolT (valF (nameV 2))))))) (nilB))) (nilB)) (seqB (asgB 3 (callF 1 r_f_atom_count (consA (datF (op2 (nameL 0) (datL (constD (.int 1))) ixD)) ((fun env => some ([], env)))))) (seqB (asgB 4 (callF 2 r_truth_by (consA (datF (op2 (nameL 0) (datL (constD (.int 1))) ixD)) (consA (datF (slF (nameL 1) ((fun env => some (none, env))) (intO (nameL 3)))) ((fun env => some ([], env))))))) (seqB (asgB 5 (callF 2 r_truth_by (consA (datF (op2 (nameL 0) (datL (constD (.int 2))) ixD)) (consA (datF (slF (nameL 1) (intO (nameL 3)) ((fun env => some (none, env))))) ((fun env => some ([], env))))))) (seqB (retB (callF 3 r_a_joined_formulas (consA (datF (op2 (nameL 0) (datL (constD (.int 0))) ixD)) (consA (nameV 4) (consA (nameV 5) ((fun env => some ([], env)))))))) (nilB))))))
def r_truth_by : Nat → Ip.Run
  | 0 => fun _ => none
  | n + 1 => runB 6 2 (b_truth_by (r_truth_by n))
def b_f_atom_by : MEnv → Option Out := seqB (tgtB (nameV 0) (tupG 3 (consG (nameG 2) (consG (nameG 3) (consG (nameG 4) (nilG)))))) (seqB (ifB (boolT (op2 (nameL 2) (datL (constD (.str "sign"))) eqD)) (seqB (retB (callF 2 r_fits (consA (nameV 4) (consA (datF (callF 2 r_m_Point_sign_of (consI "Point" "sign_of" (nameV 1) (consA (nameV 3) ((fun env => some ([], env))))))) ((fun env => some ([], env))))))) (nilB)) (nilB)) (seqB (retB (callF 3 r_block_by (consA (nameV 3) (consA (nameV 4) (consA (nameV 1) ((fun env => some ([], env)))))))) (nilB)))
def r_f_atom_by : Ip.Run := runB 5 2 b_f_atom_by
def b_truth_by_place : MEnv → Option Out := seqB (retB (callF 2 (r_truth_by recN) (consA (nameV 0) (consA (datF (compF (seqI (datF (callF 1 (r_atoms_of recN) (consA (nameV 0) ((fun env => some ([], env))))))) (nameG 2) (yesT) (datF (callF 2 r_f_atom_by (consA (nameV 2) (consA (nameV 1) ((fun env => some ([], env))))))) [2])) ((fun env => some ([], env))))))) (nilB)
def r_truth_by_place : Ip.Run := runB 3 2 b_truth_by_place
def b_truth_at : MEnv → Option Out := seqB (retB (callF 2 r_truth_by_place (consA (nameV 0) (consA (datF (mkF "Point" "t" (consA (nameV 1) ((fun env => some ([], env)))))) ((fun env => some ([], env))))))) (nilB)
def r_truth_at : Ip.Run := runB 2 2 b_truth_at
def b_f_law_atom : MEnv → Option Out := seqB (ifB (andT (boolT (op2 (datL (datF (op2 (nameL 1) (datL (constD (.int 0))) ixD))) (datL (constD (.int 0))) gtD)) (boolT (op2 (datL (datF (callX 2 r_f_law_pick (ioA 0 (consX (argV (constD (.int 5))) ((fun env => some ([], env)))))))) (datL (constD (.int 3))) ltD))) (seqB (setB 1 (datF (op2 (datL (datF (op2 (nameL 1) (datL (constD (.int 0))) ixD))) (datL (constD (.int 1))) subD)) (datL (constD (.int 0)))) (seqB (asgB 2 (op2 (datL (constD (.int 1))) (datL (datF (op2 (datL (datF (callX 2 r_f_law_pick (ioA 0 (consX (argV (constD (.int 4))) ((fun env => some ([], env)))))))) (datL (constD (.int 3))) fdivD))) addD)) (seqB (asgB 3 (valF (constD (.int 3)))) (seqB (ifB (andT (boolT (op2 (nameL 2) (datL (constD (.int 1))) eqD)) (boolT (op2 (datL (datF (callX 2 r_f_law_pick (ioA 0 (consX (argV (constD (.int 5))) ((fun env => some ([], env)))))))) (datL (constD (.int 0))) eqD))) (seqB (asgB 3 (valF (constD (.int 5)))) (nilB)) (nilB)) (seqB (asgB 4 (callX 3 r_f_law_rows (ioA 0 (consX (argV (nameV 2)) (consX (argV (nameV 3)) ((fun env => some ([], env)))))))) (seqB (ifB (orT (boolT (op2 (nameL 3) (datL (constD (.int 5))) eqD)) (orT (boolT (op2 (nameL 2) (datL (constD (.int 2))) eqD)) (boolT (op2 (datL (datF (op2 (nameL 1) (datL (constD (.int 0))) ixD))) (datL (constD (.int 0))) gtD)))) (seqB (asgB 5 (lstF ((fun env => some ([], env))))) (seqB (forB (seqI (nameV 4)) (tupG 3 (consG (nameG 6) (consG (nameG 7) (consG (nameG 8) (nilG))))) (seqB (appB 5 (datF (tupF (consA (datF (compF (seqI (nameV 6)) (nameG 9) (yesT) (datF (callF 1 r_f_law_trim (consA (datF (slF (nameL 9) ((fun env => some (none, env))) (intO (datL (constD (.int 2)))))) ((fun env => some ([], env)))))) [9])) (consA (datF (callF 1 r_f_law_trim (consA (datF (slF (nameL 7) ((fun env => some (none, env))) (intO (datL (constD (.int 2)))))) ((fun env => some ([], env)))))) (consA (nameV 8) ((fun env => some ([], env))))))))) (nilB))) (seqB (asgB 4 (valF (nameV 5))) (nilB)))) (nilB)) (seqB (retB (tupF (consA (constD (.str "some")) (consA (nameV 2) (consA (nameV 4) ((fun env => some ([], env)))))))) (nilB)))))))) (nilB)) (seqB (asgB 3 (op2 (datL (datF (lstF (consA (constD (.int 2)) (consA (constD (.int 2)) (consA (constD (.int 2)) (consA (constD (.int 4)) ((fun env => some ([], env)))))))))) (datL (datF (callX 2 r_f_law_pick (ioA 0 (consX (argV (constD (.int 4))) ((fun env => some ([], env)))))))) ixD)) (seqB (retB (tupF (consA (constD (.str "sign")) (consA (datF (callX 2 r_f_law_poly (ioA 0 (consX (argV (nameV 3)) ((fun env => some ([], env))))))) (consA (datF (op2 (datL (datF (lstF (consA (constD (.str "<")) (consA (constD (.str "<=")) (consA (constD (.str "=")) (consA (constD (.str "!=")) (consA (constD (.str ">=")) (consA (constD (.str ">")) ((fun env => some ([], env)))))))))))) (datL (datF (callX 2 r_f_law_pick (ioA 0 (consX (argV (constD (.int 6))) ((fun env => some ([], env)))))))) ixD)) ((fun env => some ([], env)))))))) (nilB)))
def r_f_law_atom : Ip.Run := runB 10 2 b_f_law_atom
def b_f_law_formula : MEnv → Option Out := seqB (asgB 2 (lstF (consA (nameV 1) ((fun env => some ([], env)))))) (seqB (asgB 3 (callX 2 r_f_law_atom (ioA 0 (ioA 2 ((fun env => some ([], env))))))) (seqB (forB (rng1I (consA (datF (op2 (datL (datF (lstF (consA (constD (.int 0)) (consA (constD (.int 1)) (consA (constD (.int 1)) (consA (constD (.int 2)) (consA (constD (.int 0)) ((fun env => some ([], env))))))))))) (datL (datF (callX 2 r_f_law_pick (ioA 0 (consX (argV (constD (.int 5))) ((fun env => some ([], env)))))))) ixD)) ((fun env => some ([], env))))) (nameG 4) (seqB (asgB 5 (callX 2 r_f_law_atom (ioA 0 (ioA 2 ((fun env => some ([], env))))))) (seqB (asgB 3 (op2 (datL (datF (lstF (consA (datF (tupF (consA (constD (.str "and")) (consA (nameV 3) (consA (nameV 5) ((fun env => some ([], env)))))))) (consA (datF (tupF (consA (constD (.str "or")) (consA (nameV 3) (consA (nameV 5) ((fun env => some ([], env)))))))) (consA (datF (tupF (consA (constD (.str "and")) (consA (nameV 5) (consA (nameV 3) ((fun env => some ([], env)))))))) ((fun env => some ([], env))))))))) (datL (datF (callX 2 r_f_law_pick (ioA 0 (consX (argV (constD (.int 3))) ((fun env => some ([], env)))))))) ixD)) (seqB (ifB (boolT (op2 (datL (datF (callX 2 r_f_law_pick (ioA 0 (consX (argV (constD (.int 3))) ((fun env => some ([], env)))))))) (datL (constD (.int 0))) eqD)) (seqB (asgB 3 (tupF (consA (constD (.str "not")) (consA (nameV 3) ((fun env => some ([], env))))))) (nilB)) (nilB)) (nilB))))) (seqB (ifB (boolT (op2 (datL (datF (callX 2 r_f_law_pick (ioA 0 (consX (argV (constD (.int 6))) ((fun env => some ([], env)))))))) (datL (constD (.int 0))) eqD)) (seqB (asgB 3 (tupF (consA (constD (.str "not")) (consA (nameV 3) ((fun env => some ([], env))))))) (nilB)) (nilB)) (seqB (retNm 3) (nilB)))))
def r_f_law_formula : Ip.Run := runB 6 2 b_f_law_formula
def b_f_law_truth (r_f_law_truth : Ip.Run) : MEnv → Option Out := seqB (ifB (boolT (op2 (datL (datF (op2 (nameL 0) (datL (constD (.int 0))) ixD))) (datL (constD (.str "sign"))) eqD)) (seqB (retB (callF 2 r_f_law_fits (consA (datF (op2 (nameL 0) (datL (constD (.int 2))) ixD)) (consA (datF (callF 2 r_f_law_sign (consA (datF (op2 (nameL 0) (datL (constD (.int 1))) ixD)) (consA (nameV 1) ((fun env => some ([], env))))))) ((fun env => some ([], env))))))) (nilB)) (nilB)) (seqB (ifB (boolT (op2 (datL (datF (op2 (nameL 0) (datL (constD (.int 0))) ixD))) (datL (constD (.str "some"))) eqD)) (seqB (retB (callF 3 r_f_law_block (consA (datF (op2 (nameL 0) (datL (constD (.int 1))) ixD)) (consA (datF (op2 (nameL 0) (datL (constD (.int 2))) ixD)) (consA (nameV 1) ((fun env => some ([], env)))))))) (nilB)) (nilB)) (seqB (ifB (boolT (op2 (datL (datF (op2 (nameL 0) (datL (constD (.int 0))) ixD))) (datL (constD (.str "not"))) eqD)) (seqB (retB (boolS (notT (boolT (callF 2 r_f_law_truth (consA (datF (op2 (nameL 0) (datL (constD (.int 1))) ixD)) (consA (nameV 1) ((fun env => some ([], env)))))))))) (nilB)) (nilB)) (seqB (asgB 2 (callF 2 r_f_law_truth (consA (datF (op2 (nameL 0) (datL (constD (.int 1))) ixD)) (consA (nameV 1) ((fun env => some ([], env))))))) (seqB (asgB 3 (callF 2 r_f_law_truth (consA (datF (op2 (nameL 0) (datL (constD (.int 2))) ixD)) (consA (nameV 1) ((fun env => some ([], env))))))) (seqB (ifB (boolT (op2 (datL (datF (op2 (nameL 0) (datL (constD (.int 0))) ixD))) (datL (constD (.str "and"))) eqD)) (seqB (retB (andE (valF (nameV 2)) (valF (nameV 3)))) (nilB)) (nilB)) (seqB (retB (orE (valF (nameV 2)) (valF (nameV 3)))) (nilB)))))))
def r_f_law_truth : Nat → Ip.Run
  | 0 => fun _ => none
  | n + 1 => runB 4 2 (b_f_law_truth (r_f_law_truth n))
end Lw

set_option Elab.async false
set_option linter.all false
set_option maxRecDepth 100000
set_option maxHeartbeats 4000000
namespace Lw
open PySem L2 Ip
/-! ### words that simp may use -/
theorem add_ii (a b : Int) : addD (.int a) (.int b) = some (.val (.int (a + b))) := rfl
theorem sub_ii (a b : Int) : subD (.int a) (.int b) = some (.val (.int (a - b))) := rfl
theorem mul_ii {a b : Int} (h : mulOk a b = true) : mulD (.int a) (.int b) = some (.val (.int (a * b))) := by
  unfold mulD
  simp [h]
theorem fdiv_ii {a b : Int} (h : divOk b = true) : fdivD (.int a) (.int b) = some (.val (.int (a.fdiv b))) := by
  unfold fdivD
  simp [h]
theorem mod_ii {a b : Int} (h : b ≠ 0) : modD (.int a) (.int b) = some (.val (.int (a.fmod b))) := by
  unfold modD
  simp [h]
theorem eq_ii (a b : Int) : eqD (.int a) (.int b) = some (.val (.bool (decide (a = b)))) := by
  simp [eqD, bV, shaped_int, eqv_int]
theorem ne_ii (a b : Int) : neD (.int a) (.int b) = some (.val (.bool (!decide (a = b)))) := by
  simp [neD, bV, shaped_int, eqv_int]
theorem lt_ii (a b : Int) : ltD (.int a) (.int b) = some (.val (.bool (decide (a < b)))) := rfl
theorem le_ii (a b : Int) : leD (.int a) (.int b) = some (.val (.bool (decide (a ≤ b)))) := rfl
theorem gt_ii (a b : Int) : gtD (.int a) (.int b) = some (.val (.bool (decide (b < a)))) := rfl
theorem ge_ii (a b : Int) : geD (.int a) (.int b) = some (.val (.bool (decide (b ≤ a)))) := rfl
theorem neg_i (a : Int) : negD (.int a) = some (.val (.int (-a))) := rfl
theorem int_i (a : Int) : intD (.int a) = some (.val (.int a)) := rfl
theorem int_b (b : Bool) : intD (.bool b) = some (.val (.int (if b then 1 else 0))) := rfl
theorem abs_i (a : Int) : absD (.int a) = some (.val (.int (if a < 0 then -a else a))) := rfl
theorem t2_0 (a b : PyData) : ixD (.tuple [a, b]) (.int 0) = some (.val a) := rfl
theorem t2_1 (a b : PyData) : ixD (.tuple [a, b]) (.int 1) = some (.val b) := rfl
theorem t3_0 (a b c : PyData) : ixD (.tuple [a, b, c]) (.int 0) = some (.val a) := rfl
theorem t3_1 (a b c : PyData) : ixD (.tuple [a, b, c]) (.int 1) = some (.val b) := rfl
theorem t3_2 (a b c : PyData) : ixD (.tuple [a, b, c]) (.int 2) = some (.val c) := rfl
/-! ### loops -/
theorem for_nx {fg : PyData → MEnv → Option MEnv} {fb : MEnv → Option Out} {d : PyData} {ds : List PyData} {env e1 e2 : MEnv} (h1 : fg d env = some e1) (h2 : fb e1 = some (.nx e2)) : forLoop fg fb (d :: ds) env = forLoop fg fb ds e2 := by
  conv => lhs; unfold forLoop
  rw [h1]
  simp only [h2]
theorem for_bk {fg : PyData → MEnv → Option MEnv} {fb : MEnv → Option Out} {d : PyData} {ds : List PyData} {env e1 e2 : MEnv} (h1 : fg d env = some e1) (h2 : fb e1 = some (.bk e2)) : forLoop fg fb (d :: ds) env = some (.nx e2) := by
  conv => lhs; unfold forLoop
  rw [h1]
  simp only [h2]
theorem forB_of {fi : MEnv → Option (List PyData × MEnv)} {fg : PyData → MEnv → Option MEnv} {fb : MEnv → Option Out} {env e1 : MEnv} {ds : List PyData} {o : Option Out} (h : fi env = some (ds, e1)) (h1 : forLoop fg fb ds e1 = o) : forB fi fg fb env = o := by
  unfold forB
  rw [h]
  exact h1
theorem if_t {ft : MEnv → Option (Bool × MEnv)} {fa fb : MEnv → Option Out} {env e1 : MEnv} (h : ft env = some (true, e1)) : ifB ft fa fb env = fa e1 := by
  unfold ifB
  rw [h]
theorem if_f {ft : MEnv → Option (Bool × MEnv)} {fa fb : MEnv → Option Out} {env e1 : MEnv} (h : ft env = some (false, e1)) : ifB ft fa fb env = fb e1 := by
  unfold ifB
  rw [h]
theorem seq_rt {f g : MEnv → Option Out} {env e1 : MEnv} {r : Slot} (h : f env = some (.rt r e1)) : seqB f g env = some (.rt r e1) := by
  unfold seqB
  rw [h]
theorem ret_of {f : MEnv → Option (Slot × MEnv)} {env e1 : MEnv} {r : Slot} (h : f env = some (r, e1)) : retB f env = some (.rt r e1) := by
  unfold retB
  rw [h]
theorem call1_of {run : Ip.Run} {f : MEnv → Option (PyData × MEnv)} {env e1 o : MEnv} {d : PyData} {r : Slot} (h : f env = some (d, e1)) (g : run [.val d] = some (r, o)) : callF 1 run (consA f (fun env => some ([], env))) env = some (r, e1) := by
  simp [callF, consA, h, g]
theorem dat_of {f : MEnv → Option (Slot × MEnv)} {env e1 : MEnv} {r : Slot} {d : PyData} (h : f env = some (r, e1)) (hd : r.dat = some d) : datF f env = some (d, e1) := by
  unfold datF
  rw [h]
  simp only [hd]
theorem run_io {N n : Nat} {fB : MEnv → Option Out} {args : List Slot} {r : Slot} {e : MEnv} (h : fB (args ++ List.replicate (N - n) .un) = some (.rt r e)) (hl : args.length ≤ e.length) : runB N n fB args = some (r, List.zipWith ioB args e) := by
  unfold runB
  rw [h]
  simp only
  rw [if_pos hl]
/-! ### lists of whole numbers, into which simp does not look -/
def iv (ns : List Int) : List PyData := ns.map .int
def il (ns : List Int) : Int := (ns.length : Int)
theorem il_nat (ns : List Int) : il ns = (ns.length : Int) := rfl
theorem iv_app (a b : List Int) : iv a ++ iv b = iv (a ++ b) := (List.map_append ..).symm
theorem iv_snoc (a : List Int) (x : Int) : iv a ++ [.int x] = iv (a ++ [x]) := by
  unfold iv
  rw [List.map_append]
  rfl
theorem iv_len (ns : List Int) : (iv ns).length = ns.length := List.length_map ..
theorem len_iv (ns : List Int) : lenD (.list (iv ns)) = some (.val (.int (il ns))) := by
  show some (Slot.val (.int (((iv ns).length : Nat) : Int))) = _
  rw [iv_len]
  rfl
theorem ix_iv {ns : List Int} {i x : Int} (h : atI ns i = some x) : ixD (.list (iv ns)) (.int i) = some (.val (.int x)) := by
  show (atI (iv ns) i).map Slot.val = _
  unfold atI iv at *
  rw [List.length_map]
  cases hk : ixN ns.length i with
  | none => rw [hk] at h; cases h
  | some k =>
    rw [hk] at h
    have h : ns[k]? = some x := h
    show ((ns.map PyData.int)[k]?).map Slot.val = _
    rw [List.getElem?_map, h]
    rfl
theorem ix_iv0 {ns : List Int} {i x : Int} (k : Nat) (hi : i = k) (h : ns[k]? = some x) : ixD (.list (iv ns)) (.int i) = some (.val (.int x)) := by
  refine ix_iv ?_
  have hk : k < ns.length := (List.getElem?_eq_some_iff.mp h).1
  rw [atI_of (by omega) (by omega), show i.toNat = k by omega]
  exact h
/-! ### numbers -/
abbrev gI (a b : Int) : Int := ((Nat.gcd a.natAbs b.natAbs : Nat) : Int)
abbrev nN (n d : Int) : Int := (if d < 0 then -n else n) / gI n d
abbrev nD (n d : Int) : Int := (if d < 0 then -d else d) / gI n d
def qd (q : Rat) : Int := (q.den : Int)
def nm (q : Rat) : PyData := .tuple [.int q.num, .int (qd q)]
theorem nN_rat {n d : Int} (hd : d ≠ 0) : nN n d = (Rat.divInt n d).num := by
  rw [Rat.num_divInt]
  have e : (d.gcd n) = Nat.gcd n.natAbs d.natAbs := by
    show Nat.gcd d.natAbs n.natAbs = _
    exact Nat.gcd_comm _ _
  rw [e]
  by_cases h : d < 0
  · rw [Int.sign_eq_neg_one_of_neg h]
    show (if d < 0 then -n else n) / _ = _
    rw [if_pos h]
    congr 1
    omega
  · rw [Int.sign_eq_one_of_pos (by omega)]
    show (if d < 0 then -n else n) / _ = _
    rw [if_neg h]
    congr 1
    omega
theorem nD_rat {n d : Int} (hd : d ≠ 0) : nD n d = qd (Rat.divInt n d) := by
  unfold qd
  rw [Rat.den_divInt, if_neg hd]
  have e : (d.gcd n) = Nat.gcd n.natAbs d.natAbs := by
    show Nat.gcd d.natAbs n.natAbs = _
    exact Nat.gcd_comm _ _
  rw [e, Int.natCast_ediv]
  show (if d < 0 then -d else d) / _ = _
  congr 1
  split <;> omega
theorem nT_rat {n d : Int} (hd : d ≠ 0) : PyData.tuple [.int (nN n d), .int (nD n d)] = nm (Rat.divInt n d) := by
  rw [nN_rat hd, nD_rat hd]
  rfl
theorem qd_pos (q : Rat) : 0 < qd q := by
  have := q.den_nz
  unfold qd
  omega
theorem divInt_q (q : Rat) : Rat.divInt q.num (qd q) = q := Rat.num_divInt_den q
theorem cast_ne {i : Int} (h : i ≠ 0) : ((i : Int) : Rat) ≠ 0 := fun e => h (Rat.intCast_inj.mp (e.trans Rat.intCast_zero.symm))
theorem qd_ne (q : Rat) : ((qd q : Int) : Rat) ≠ 0 := cast_ne (by have := qd_pos q; omega)
theorem q_eq (q : Rat) : q * (qd q : Int) = (q.num : Int) := by
  have h1 := qd_ne q
  conv => lhs; lhs; rw [← divInt_q q, Rat.divInt_eq_div]
  grind
theorem add_q (p q : Rat) : Rat.divInt (p.num * qd q + q.num * qd p) (qd p * qd q) = p + q := by
  have h1 := qd_pos p
  have h2 := qd_pos q
  rw [← Rat.divInt_add_divInt _ _ (by omega) (by omega), divInt_q, divInt_q]
theorem mul_q (p q : Rat) : Rat.divInt (p.num * q.num) (qd p * qd q) = p * q := by
  rw [← Rat.divInt_mul_divInt, divInt_q, divInt_q]
theorem sub_q (p q : Rat) : Rat.divInt (p.num * qd q - q.num * qd p) (qd p * qd q) = p - q := by
  have h1 := qd_ne p
  have h2 := qd_ne q
  have h3 := q_eq p
  have h4 := q_eq q
  rw [Rat.divInt_eq_div, Rat.intCast_sub, Rat.intCast_mul, Rat.intCast_mul, Rat.intCast_mul]
  grind
theorem div_q (p q : Rat) (h : q ≠ 0) : Rat.divInt (p.num * qd q) (qd p * q.num) = p / q := by
  have h1 := qd_ne p
  have h2 := qd_ne q
  have h3 := q_eq p
  have h4 := q_eq q
  have h5 : ((q.num : Int) : Rat) ≠ 0 := cast_ne fun e => h (Rat.num_eq_zero.mp e)
  rw [Rat.divInt_eq_div, Rat.intCast_mul, Rat.intCast_mul]
  grind
theorem rat_bd {n d : Int} (hd : d ≠ 0) : (Rat.divInt n d).num.natAbs ≤ n.natAbs ∧ (qd (Rat.divInt n d)).natAbs ≤ d.natAbs := by
  rw [← nN_rat hd, ← nD_rat hd]
  constructor
  · show ((if d < 0 then -n else n) / gI n d).natAbs ≤ _
    have := Int.natAbs_ediv_le_natAbs (if d < 0 then -n else n) (gI n d)
    split at this <;> split <;> omega
  · show ((if d < 0 then -d else d) / gI n d).natAbs ≤ _
    have := Int.natAbs_ediv_le_natAbs (if d < 0 then -d else d) (gI n d)
    split at this <;> split <;> omega
theorem gI_pos {n d : Int} (hd : d ≠ 0) : 0 < gI n d := by
  have h : 0 < Nat.gcd n.natAbs d.natAbs := Nat.gcd_pos_of_pos_right _ (by omega)
  show (0 : Int) < ((Nat.gcd n.natAbs d.natAbs : Nat) : Int)
  omega
theorem gI_le {n d : Int} (hd : d ≠ 0) : (gI n d).natAbs ≤ d.natAbs := by
  have h := Nat.gcd_le_right n.natAbs (show 0 < d.natAbs by omega)
  show ((Nat.gcd n.natAbs d.natAbs : Nat) : Int).natAbs ≤ _
  omega
theorem gI_dvd_l (n d : Int) : ∃ k, n = gI n d * k := by
  have h : ((Nat.gcd n.natAbs d.natAbs : Nat) : Int) ∣ n := Int.ofNat_dvd_left.mpr (Nat.gcd_dvd_left _ _)
  exact h
theorem gI_dvd_r (n d : Int) : ∃ k, d = gI n d * k := by
  have h : ((Nat.gcd n.natAbs d.natAbs : Nat) : Int) ∣ d := Int.ofNat_dvd_left.mpr (Nat.gcd_dvd_right _ _)
  exact h
theorem fdiv_pos {n g k : Int} (hg : 0 < g) (h : n = g * k) : n.fdiv g = k := by
  rw [h]
  exact Int.mul_fdiv_cancel_left k (by omega)
theorem fdiv_neg {n g k : Int} (hg : 0 < g) (h : n = g * k) : n.fdiv (-g) = -k := by
  rw [h, show g * k = (-g) * (-k) by rw [Int.neg_mul_neg]]
  exact Int.mul_fdiv_cancel_left (-k) (by omega)
theorem ediv_pos' {n g k : Int} (hg : 0 < g) (h : n = g * k) : n / g = k := by
  rw [h]
  exact Int.mul_ediv_cancel_left k (by omega)
theorem up_pow {x m n : Nat} (hx : x < 2 ^ m) (h : m ≤ n) : x < 2 ^ n := Nat.lt_of_lt_of_le hx (Nat.pow_le_pow_right (by decide) h)
theorem divOk_pow {i : Int} {m : Nat} (h0 : i ≠ 0) (h : i.natAbs < 2 ^ m) (hm : m ≤ 9000) : divOk i = true := divOk_of h0 (up_pow h hm)
theorem gcd_ii (a b : Int) : gcdD (.int a) (.int b) = some (.val (.int (gI a b))) := rfl
theorem number_eval {n d : Int} {m : Nat} (hd : d ≠ 0) (hb : d.natAbs < 2 ^ m) (hm : m ≤ 8000) : ∃ o, r_number [.val (.int n), .val (.int d)] = some (.val (nm (Rat.divInt n d)), o) := by
  rw [← nT_rat hd]
  have hp := gI_pos (n := n) hd
  have hle := gI_le (n := n) hd
  obtain ⟨k, hk⟩ := gI_dvd_l n d
  obtain ⟨l, hl⟩ := gI_dvd_r n d
  have ok1 : divOk (gI n d) = true := divOk_pow (m := m) (by omega) (by omega) (by omega)
  have ok2 : divOk (-gI n d) = true := divOk_pow (m := m) (by omega) (by omega) (by omega)
  by_cases h : d < 0
  · have e1 : nN n d = -k := by
      show (if d < 0 then -n else n) / gI n d = -k
      rw [if_pos h]
      exact ediv_pos' hp (by rw [Int.mul_neg, ← hk])
    have e2 : nD n d = -l := by
      show (if d < 0 then -d else d) / gI n d = -l
      rw [if_pos h]
      exact ediv_pos' hp (by rw [Int.mul_neg, ← hl])
    refine run_rt (e := [.val (.int n), .val (.int d), .val (.int (-gI n d))]) ?_ (by simp)
    have f1 := fdiv_neg hp hk
    have f2 := fdiv_neg hp hl
    rw [e1, e2]
    simp [b_number, seqB, ifB, asgB, retB, exprB, op1, op2, look, nameL, nameV, datL, datF, valF, constD, boolT, consA, tupF, lstF, setS_zv, setS_zo, setS_zu, setS_succ, Slot.dat, Slot.mut, Slot.put, nilB, callF, notT, andT, orT, andE, orE, ifE, boolS, tgtB, tupG, consG, nilG, nameG, retNm, appB, augB, callX, ioA, consX, argI, argV, argN, argsS, argS, ioIx, putB, popF, setB, fdivD, ltD, bV, gcdD, negD, nilB, h, ok1, ok2, f1, f2]
  · have e1 : nN n d = k := by
      show (if d < 0 then -n else n) / gI n d = k
      rw [if_neg h]
      exact ediv_pos' hp hk
    have e2 : nD n d = l := by
      show (if d < 0 then -d else d) / gI n d = l
      rw [if_neg h]
      exact ediv_pos' hp hl
    refine run_rt (e := [.val (.int n), .val (.int d), .val (.int (gI n d))]) ?_ (by simp)
    have f1 := fdiv_pos hp hk
    have f2 := fdiv_pos hp hl
    rw [e1, e2]
    simp [b_number, seqB, ifB, asgB, retB, exprB, op1, op2, look, nameL, nameV, datL, datF, valF, constD, boolT, consA, tupF, lstF, setS_zv, setS_zo, setS_zu, setS_succ, Slot.dat, Slot.mut, Slot.put, nilB, callF, notT, andT, orT, andE, orE, ifE, boolS, tgtB, tupG, consG, nilG, nameG, retNm, appB, augB, callX, ioA, consX, argI, argV, argN, argsS, argS, ioIx, putB, popF, setB, fdivD, ltD, bV, gcdD, negD, nilB, h, ok1, ok2, f1, f2]
/-! ### the law's own way to lowest terms -/
def gB : MEnv → Option Out := (seqB (ifB (boolT (op2 (nameL 3) (datL (constD (.int 0))) eqD)) (seqB ((fun env => some (.bk env))) (nilB)) (nilB)) (seqB (parB 2 3 (consA (nameV 3) (consA (datF (op2 (datL (datF (op1 (nameL 2) intD))) (nameL 3) modD)) ((fun env => some ([], env)))))) (nilB)))
theorem gB_turn {x y : Int} {a b k : Slot} (hy : y ≠ 0) : gB [a, b, .val (.int x), .val (.int y), k] = some (.nx [a, b, .val (.int y), .val (.int (x.fmod y)), k]) := by
  simp [gB, seqB, ifB, asgB, retB, exprB, op1, op2, look, nameL, nameV, datL, datF, valF, constD, boolT, consA, tupF, lstF, setS_zv, setS_zo, setS_zu, setS_succ, Slot.dat, Slot.mut, Slot.put, nilB, callF, notT, andT, orT, andE, orE, ifE, boolS, tgtB, tupG, consG, nilG, nameG, retNm, appB, augB, callX, ioA, consX, argI, argV, argN, argsS, argS, ioIx, putB, popF, setB, parB, int_i, mod_ii hy, eq_ii, hy]
theorem gB_stop {x : Int} {a b k : Slot} : gB [a, b, .val (.int x), .val (.int 0), k] = some (.bk [a, b, .val (.int x), .val (.int 0), k]) := by
  simp [gB, seqB, ifB, asgB, retB, exprB, op1, op2, look, nameL, nameV, datL, datF, valF, constD, boolT, consA, tupF, lstF, setS_zv, setS_zo, setS_zu, setS_succ, Slot.dat, Slot.mut, Slot.put, nilB, callF, notT, andT, orT, andE, orE, ifE, boolS, tgtB, tupG, consG, nilG, nameG, retNm, appB, augB, callX, ioA, consX, argI, argV, argN, argsS, argS, ioIx, putB, popF, setB, eq_ii]
theorem fmod_nat (x y : Nat) : ((x : Int)).fmod (y : Int) = ((x % y : Nat) : Int) := by
  rw [Int.fmod_eq_emod_of_nonneg _ (by omega)]
  rfl
theorem gB_loop {a b : Slot} : ∀ (n : Nat) (lo : Int) (j : Nat) (x y : Nat) (s : Slot), nio s = true → n ≤ j → (y ≤ x ∨ n + 1 ≤ j) → x * y < 2 ^ n →
    ∃ e1 e2, forLoop (nameG 4) gB (Ip.intsFrom lo j) [a, b, .val (.int x), .val (.int y), s] = some (.nx [a, b, .val (.int (Nat.gcd x y)), e1, e2])
  | n, lo, 0, x, y, s, hs, hn, ho, hb => by
    have hn0 : n = 0 := by omega
    subst hn0
    have hy : y ≤ x := by omega
    have hy0 : y = 0 := by
      rcases Nat.eq_zero_or_pos y with h | h
      · exact h
      · have : 1 ≤ x * y := Nat.mul_pos (by omega) h
        omega
    subst hy0
    exact ⟨.val (.int 0), s, by simp [forLoop, Ip.intsFrom, Nat.gcd_zero_right]⟩
  | n, lo, j + 1, x, y, s, hs, hn, ho, hb => by
    have hset : nameG 4 (.int lo) [a, b, .val (.int x), .val (.int y), s] = some [a, b, .val (.int x), .val (.int y), .val (.int lo)] := by
      simp [nameG, setS_zero hs, setS_succ]
    rw [ints_succ]
    by_cases hy0 : y = 0
    · subst hy0
      refine ⟨.val (.int 0), .val (.int lo), ?_⟩
      unfold forLoop
      rw [hset]
      simp only
      rw [show ((0 : Nat) : Int) = 0 from rfl, gB_stop]
      simp [Nat.gcd_zero_right]
    · have hyp : 0 < y := Nat.pos_of_ne_zero hy0
      have step : forLoop (nameG 4) gB (.int lo :: Ip.intsFrom (lo + 1) j) [a, b, .val (.int x), .val (.int y), s] = forLoop (nameG 4) gB (Ip.intsFrom (lo + 1) j) [a, b, .val (.int y), .val (.int ((x % y : Nat) : Int)), .val (.int lo)] := by
        conv => lhs; unfold forLoop
        rw [hset]
        simp only
        rw [gB_turn (by omega), fmod_nat]
      have hg : Nat.gcd y (x % y) = Nat.gcd x y := by
        rw [Nat.gcd_comm y, ← Nat.gcd_rec, Nat.gcd_comm]
      rw [step, ← hg]
      have hlt : x % y < y := Nat.mod_lt _ hyp
      by_cases hyx : y ≤ x
      · have h2 : 2 * (x % y) ≤ x := by
          have h1 := Nat.div_add_mod x y
          have h3 : 1 ≤ x / y := Nat.div_pos hyx hyp
          have h4 : y * 1 ≤ y * (x / y) := Nat.mul_le_mul (Nat.le_refl y) h3
          omega
        cases n with
        | zero =>
          have : 1 ≤ x * y := Nat.mul_pos (by omega) hyp
          simp at hb
          omega
        | succ m =>
          refine gB_loop m (lo + 1) j y (x % y) _ rfl (by omega) (.inl (by omega)) ?_
          have h5 : 2 * (y * (x % y)) ≤ x * y := by
            rw [Nat.mul_left_comm, Nat.mul_comm x y]
            exact Nat.mul_le_mul (Nat.le_refl y) h2
          rw [Nat.pow_succ] at hb
          omega
      · have hm : x % y = x := Nat.mod_eq_of_lt (by omega)
        refine gB_loop n (lo + 1) j y (x % y) _ rfl (by omega) (.inl (by omega)) ?_
        rw [hm, Nat.mul_comm]
        exact hb
theorem mul_lt_pow {x y m n : Nat} (hx : x < 2 ^ m) (hy : y < 2 ^ n) : x * y < 2 ^ (m + n) := by
  rw [Nat.pow_add]
  exact Nat.mul_lt_mul_of_lt_of_le hx (Nat.le_of_lt hy) (Nat.pow_pos (by decide))
theorem lowest_eval {n d : Int} {m k : Nat} (hd : d ≠ 0) (hn : n.natAbs < 2 ^ m) (hb : d.natAbs < 2 ^ k) (hm : m + k ≤ 4900) : ∃ o, r_f_law_lowest [.val (.int n), .val (.int d)] = some (.val (nm (Rat.divInt n d)), o) := by
  rw [← nT_rat hd]
  have hp := gI_pos (n := n) hd
  have hle := gI_le (n := n) hd
  obtain ⟨a, ha⟩ := gI_dvd_l n d
  obtain ⟨b, hb'⟩ := gI_dvd_r n d
  have ok1 : divOk (gI n d) = true := divOk_pow (m := k) (by omega) (by omega) (by omega)
  have habs : ∀ i : Int, (if i < 0 then -i else i) = ((i.natAbs : Nat) : Int) := fun i => by split <;> omega
  -- from the numbers with a divisor above 0
  have main : ∀ n' d' : Int, 0 < d' → n'.natAbs = n.natAbs → d'.natAbs = d.natAbs → ∀ e0, e0 = [Slot.val (.int n'), .val (.int d'), .un, .un, .un] → ∃ e1 e2, seqB (parB 2 3 (consA (datF (op1 (nameL 0) absD)) (consA (nameV 1) ((fun env => some ([], env)))))) (seqB (forB (rng1I (consA (constD (.int 5000)) ((fun env => some ([], env))))) (nameG 4) gB) (seqB (retB (tupF (consA (datF (op2 (nameL 0) (nameL 2) fdivD)) (consA (datF (op2 (nameL 1) (nameL 2) fdivD)) ((fun env => some ([], env))))))) (nilB))) e0 = some (.rt (.val (.tuple [.int (n'.fdiv (gI n d)), .int (d'.fdiv (gI n d))])) [.val (.int n'), .val (.int d'), .val (.int (gI n d)), e1, e2]) := by
    intro n' d' hd0 h1 h2 e0 he
    subst he
    obtain ⟨e1, e2, hl⟩ := gB_loop (a := .val (.int n')) (b := .val (.int d')) 4900 0 5000 n'.natAbs d'.natAbs .un rfl (by omega) (.inr (by omega)) (by
      rw [h1, h2]
      exact up_pow (mul_lt_pow hn hb) hm)
    rw [h1, h2] at hl
    refine ⟨e1, e2, ?_⟩
    have hd2 : d' = ((d.natAbs : Nat) : Int) := by omega
    rw [← hd2] at hl
    have ea : absD (.int n') = some (.val (.int ((n.natAbs : Nat) : Int))) := by
      rw [abs_i, habs, h1]
    rw [seq_nx (e1 := [.val (.int n'), .val (.int d'), .val (.int n.natAbs), .val (.int d'), .un]) (by
      simp [seqB, ifB, asgB, retB, exprB, op1, op2, look, nameL, nameV, datL, datF, valF, constD, boolT, consA, tupF, lstF, setS_zv, setS_zo, setS_zu, setS_succ, Slot.dat, Slot.mut, Slot.put, nilB, callF, notT, andT, orT, andE, orE, ifE, boolS, tgtB, tupG, consG, nilG, nameG, retNm, appB, augB, callX, ioA, consX, argI, argV, argN, argsS, argS, ioIx, putB, popF, setB, parB, ea])]
    rw [seq_nx (e1 := [.val (.int n'), .val (.int d'), .val (.int (gI n d)), e1, e2]) (by
      unfold forB
      rw [rng1_nat (c := 5000) (n := 5000) (env1 := [.val (.int n'), .val (.int d'), .val (.int n.natAbs), .val (.int d'), .un]) (by simp [consA, constD]) rfl (by omega)]
      exact hl)]
    generalize gI n d = G at *
    simp [seqB, ifB, asgB, retB, exprB, op1, op2, look, nameL, nameV, datL, datF, valF, constD, boolT, consA, tupF, lstF, setS_zv, setS_zo, setS_zu, setS_succ, Slot.dat, Slot.mut, Slot.put, nilB, callF, notT, andT, orT, andE, orE, ifE, boolS, tgtB, tupG, consG, nilG, nameG, retNm, appB, augB, callX, ioA, consX, argI, argV, argN, argsS, argS, ioIx, putB, popF, setB, fdiv_ii ok1]
  by_cases h : d < 0
  · obtain ⟨e1, e2, hmn⟩ := main (-n) (-d) (by omega) (by omega) (by omega) _ rfl
    have x1 : nN n d = -a := by
      show (if d < 0 then -n else n) / gI n d = -a
      rw [if_pos h]
      exact ediv_pos' hp (by rw [Int.mul_neg, ← ha])
    have x2 : nD n d = -b := by
      show (if d < 0 then -d else d) / gI n d = -b
      rw [if_pos h]
      exact ediv_pos' hp (by rw [Int.mul_neg, ← hb'])
    rw [fdiv_pos hp (show -n = gI n d * (-a) by rw [Int.mul_neg, ← ha]), fdiv_pos hp (show -d = gI n d * (-b) by rw [Int.mul_neg, ← hb'])] at hmn
    rw [x1, x2]
    refine run_rt (e := [.val (.int (-n)), .val (.int (-d)), .val (.int (gI n d)), e1, e2]) ?_ (by simp)
    show seqB _ (seqB _ (seqB (forB _ _ gB) _)) [.val (.int n), .val (.int d), .un, .un, .un] = _
    rw [seq_nx (e1 := [.val (.int (-n)), .val (.int (-d)), .un, .un, .un]) (by simp [seqB, ifB, asgB, retB, exprB, op1, op2, look, nameL, nameV, datL, datF, valF, constD, boolT, consA, tupF, lstF, setS_zv, setS_zo, setS_zu, setS_succ, Slot.dat, Slot.mut, Slot.put, nilB, callF, notT, andT, orT, andE, orE, ifE, boolS, tgtB, tupG, consG, nilG, nameG, retNm, appB, augB, callX, ioA, consX, argI, argV, argN, argsS, argS, ioIx, putB, popF, setB, parB, neg_i, lt_ii, h])]
    exact hmn
  · obtain ⟨e1, e2, hmn⟩ := main n d (by omega) rfl rfl _ rfl
    have x1 : nN n d = a := by
      show (if d < 0 then -n else n) / gI n d = a
      rw [if_neg h]
      exact ediv_pos' hp ha
    have x2 : nD n d = b := by
      show (if d < 0 then -d else d) / gI n d = b
      rw [if_neg h]
      exact ediv_pos' hp hb'
    rw [fdiv_pos hp ha, fdiv_pos hp hb'] at hmn
    rw [x1, x2]
    refine run_rt (e := [.val (.int n), .val (.int d), .val (.int (gI n d)), e1, e2]) ?_ (by simp)
    show seqB _ (seqB _ (seqB (forB _ _ gB) _)) [.val (.int n), .val (.int d), .un, .un, .un] = _
    rw [seq_nx (e1 := [.val (.int n), .val (.int d), .un, .un, .un]) (by simp [seqB, ifB, asgB, retB, exprB, op1, op2, look, nameL, nameV, datL, datF, valF, constD, boolT, consA, tupF, lstF, setS_zv, setS_zo, setS_zu, setS_succ, Slot.dat, Slot.mut, Slot.put, nilB, callF, notT, andT, orT, andE, orE, ifE, boolS, tgtB, tupG, consG, nilG, nameG, retNm, appB, augB, callX, ioA, consX, argI, argV, argN, argsS, argS, ioIx, putB, popF, setB, parB, neg_i, lt_ii, h])]
    exact hmn
end Lw

set_option Elab.async false
set_option linter.all false
set_option maxRecDepth 100000
set_option maxHeartbeats 4000000
namespace Lw
open PySem L2 Ip
/-! ### sizes -/
theorem add_lt_pow {x y m : Nat} (hx : x < 2 ^ m) (hy : y < 2 ^ m) : x + y < 2 ^ (m + 1) := by
  rw [Nat.pow_succ]
  omega
theorem natAbs_add_lt {a b : Int} {m : Nat} (ha : a.natAbs < 2 ^ m) (hb : b.natAbs < 2 ^ m) : (a + b).natAbs < 2 ^ (m + 1) := by
  have := add_lt_pow ha hb
  omega
theorem natAbs_sub_lt {a b : Int} {m : Nat} (ha : a.natAbs < 2 ^ m) (hb : b.natAbs < 2 ^ m) : (a - b).natAbs < 2 ^ (m + 1) := by
  have := add_lt_pow ha hb
  omega
theorem natAbs_mul_lt {a b : Int} {m n : Nat} (ha : a.natAbs < 2 ^ m) (hb : b.natAbs < 2 ^ n) : (a * b).natAbs < 2 ^ (m + n) := by
  rw [Int.natAbs_mul]
  exact mul_lt_pow ha hb
theorem mulOk_log {i j : Int} {m n : Nat} (hi : i.natAbs < 2 ^ m) (hj : j.natAbs < 2 ^ n) (h : m + n ≤ 100000) : mulOk i j = true := by
  have h1 : i.natAbs.log2 < m + 1 := log2_lt (up_pow hi (by omega)) (by omega)
  have h2 : j.natAbs.log2 < n + 1 := log2_lt (up_pow hj (by omega)) (by omega)
  unfold mulOk
  simp only [Bool.or_eq_true, decide_eq_true_eq]
  exact .inl (.inl (by omega))
def Bq (m : Nat) (q : Rat) : Prop := q.num.natAbs < 2 ^ m ∧ (qd q).natAbs < 2 ^ m
theorem Bq.up {m k : Nat} {q : Rat} (h : Bq m q) (hm : m ≤ k) : Bq k q := ⟨up_pow h.1 hm, up_pow h.2 hm⟩
theorem Bq.add {m k : Nat} {p q : Rat} (h : Bq m p) (g : Bq k q) : Bq (m + k + 1) (p + q) := by
  have hp := qd_pos p
  have hq := qd_pos q
  have h0 : qd p * qd q ≠ 0 := Int.mul_ne_zero (by omega) (by omega)
  have b := rat_bd (n := p.num * qd q + q.num * qd p) h0
  rw [add_q] at b
  have e1 := natAbs_add_lt (natAbs_mul_lt h.1 g.2) (by rw [Nat.add_comm]; exact natAbs_mul_lt g.1 h.2)
  have e2 := up_pow (natAbs_mul_lt h.2 g.2) (Nat.le_succ (m + k))
  exact ⟨by omega, by omega⟩
theorem Bq.sub {m k : Nat} {p q : Rat} (h : Bq m p) (g : Bq k q) : Bq (m + k + 1) (p - q) := by
  have hp := qd_pos p
  have hq := qd_pos q
  have h0 : qd p * qd q ≠ 0 := Int.mul_ne_zero (by omega) (by omega)
  have b := rat_bd (n := p.num * qd q - q.num * qd p) h0
  rw [sub_q] at b
  have e1 := natAbs_sub_lt (natAbs_mul_lt h.1 g.2) (by rw [Nat.add_comm]; exact natAbs_mul_lt g.1 h.2)
  have e2 := up_pow (natAbs_mul_lt h.2 g.2) (Nat.le_succ (m + k))
  exact ⟨by omega, by omega⟩
theorem Bq.mul {m k : Nat} {p q : Rat} (h : Bq m p) (g : Bq k q) : Bq (m + k) (p * q) := by
  have hp := qd_pos p
  have hq := qd_pos q
  have h0 : qd p * qd q ≠ 0 := Int.mul_ne_zero (by omega) (by omega)
  have b := rat_bd (n := p.num * q.num) h0
  rw [mul_q] at b
  have e1 := natAbs_mul_lt h.1 g.1
  have e2 := natAbs_mul_lt h.2 g.2
  exact ⟨by omega, by omega⟩
theorem Bq.div {m k : Nat} {p q : Rat} (h : Bq m p) (g : Bq k q) (hz : q ≠ 0) : Bq (m + k) (p / q) := by
  have hp := qd_pos p
  have hn : q.num ≠ 0 := fun e => hz (Rat.num_eq_zero.mp e)
  have h0 : qd p * q.num ≠ 0 := Int.mul_ne_zero (by omega) hn
  have b := rat_bd (n := p.num * qd q) h0
  rw [div_q p q hz] at b
  have e1 := natAbs_mul_lt h.1 g.2
  have e2 := natAbs_mul_lt h.2 g.1
  exact ⟨by omega, by omega⟩
theorem qd_int (i : Int) : qd (i : Rat) = 1 := rfl
theorem num_int (i : Int) : (i : Rat).num = i := rfl
theorem Bq.int {m : Nat} {i : Int} (h : i.natAbs < 2 ^ m) (hm : 1 ≤ m) : Bq m (i : Rat) := by
  refine ⟨h, ?_⟩
  rw [qd_int]
  exact up_pow (show (1 : Int).natAbs < 2 ^ 1 by decide) hm
theorem Bq.frac {m : Nat} {n d : Int} (hd : d ≠ 0) (h1 : n.natAbs < 2 ^ m) (h2 : d.natAbs < 2 ^ m) : Bq m (Rat.divInt n d) := by
  have b := rat_bd (n := n) hd
  exact ⟨by omega, by omega⟩
theorem nm_int (i : Int) : PyData.tuple [.int i, .int 1] = nm (i : Rat) := rfl
theorem nm_0 (q : Rat) : ixD (nm q) (.int 0) = some (.val (.int q.num)) := rfl
theorem nm_1 (q : Rat) : ixD (nm q) (.int 1) = some (.val (.int (qd q))) := rfl
/-! ### sums, products, quotients -/
theorem plus_eval {p q : Rat} {m k : Nat} (h : Bq m p) (g : Bq k q) (hb : m + k ≤ 1900) : ∃ o, r_plus [.val (nm p), .val (nm q)] = some (.val (nm (p + q)), o) := by
  have hp := qd_pos p
  have hq := qd_pos q
  obtain ⟨o, ho⟩ := number_eval (n := p.num * qd q + q.num * qd p) (d := qd p * qd q) (Int.mul_ne_zero (by omega) (by omega)) (natAbs_mul_lt h.2 g.2) (by omega)
  rw [add_q] at ho
  refine run_rt (e := [.val (nm p), .val (nm q)]) ?_ (by simp)
  simp [b_plus, seqB, ifB, asgB, retB, exprB, op1, op2, look, nameL, nameV, datL, datF, valF, constD, boolT, consA, tupF, lstF, setS_zv, setS_zo, setS_zu, setS_succ, Slot.dat, Slot.mut, Slot.put, nilB, callF, notT, andT, orT, andE, orE, ifE, boolS, tgtB, tupG, consG, nilG, nameG, retNm, appB, augB, callX, ioA, consX, argI, argV, argN, argsS, argS, ioIx, putB, popF, setB, nm_0, nm_1, add_ii, mul_ii (mulOk_log h.1 g.2 (by omega)), mul_ii (mulOk_log g.1 h.2 (by omega)), mul_ii (mulOk_log h.2 g.2 (by omega)), ho]
theorem times_eval {p q : Rat} {m k : Nat} (h : Bq m p) (g : Bq k q) (hb : m + k ≤ 1900) : ∃ o, r_times [.val (nm p), .val (nm q)] = some (.val (nm (p * q)), o) := by
  have hp := qd_pos p
  have hq := qd_pos q
  obtain ⟨o, ho⟩ := number_eval (n := p.num * q.num) (d := qd p * qd q) (Int.mul_ne_zero (by omega) (by omega)) (natAbs_mul_lt h.2 g.2) (by omega)
  rw [mul_q] at ho
  refine run_rt (e := [.val (nm p), .val (nm q)]) ?_ (by simp)
  simp [b_times, seqB, ifB, asgB, retB, exprB, op1, op2, look, nameL, nameV, datL, datF, valF, constD, boolT, consA, tupF, lstF, setS_zv, setS_zo, setS_zu, setS_succ, Slot.dat, Slot.mut, Slot.put, nilB, callF, notT, andT, orT, andE, orE, ifE, boolS, tgtB, tupG, consG, nilG, nameG, retNm, appB, augB, callX, ioA, consX, argI, argV, argN, argsS, argS, ioIx, putB, popF, setB, nm_0, nm_1, add_ii, mul_ii (mulOk_log h.1 g.1 (by omega)), mul_ii (mulOk_log h.2 g.2 (by omega)), ho]
theorem add_eval {p q : Rat} {m k : Nat} (h : Bq m p) (g : Bq k q) (hb : m + k ≤ 1900) : ∃ o, r_f_law_add [.val (nm p), .val (nm q)] = some (.val (nm (p + q)), o) := by
  have hp := qd_pos p
  have hq := qd_pos q
  obtain ⟨o, ho⟩ := lowest_eval (n := p.num * qd q + q.num * qd p) (d := qd p * qd q) (m := m + k + 1) (Int.mul_ne_zero (by omega) (by omega)) (natAbs_add_lt (natAbs_mul_lt h.1 g.2) (by rw [Nat.add_comm]; exact natAbs_mul_lt g.1 h.2)) (natAbs_mul_lt h.2 g.2) (by omega)
  rw [add_q] at ho
  refine run_rt (e := [.val (nm p), .val (nm q)]) ?_ (by simp)
  simp [b_f_law_add, seqB, ifB, asgB, retB, exprB, op1, op2, look, nameL, nameV, datL, datF, valF, constD, boolT, consA, tupF, lstF, setS_zv, setS_zo, setS_zu, setS_succ, Slot.dat, Slot.mut, Slot.put, nilB, callF, notT, andT, orT, andE, orE, ifE, boolS, tgtB, tupG, consG, nilG, nameG, retNm, appB, augB, callX, ioA, consX, argI, argV, argN, argsS, argS, ioIx, putB, popF, setB, nm_0, nm_1, add_ii, mul_ii (mulOk_log h.1 g.2 (by omega)), mul_ii (mulOk_log g.1 h.2 (by omega)), mul_ii (mulOk_log h.2 g.2 (by omega)), ho]
theorem mul_eval {p q : Rat} {m k : Nat} (h : Bq m p) (g : Bq k q) (hb : m + k ≤ 1900) : ∃ o, r_f_law_mul [.val (nm p), .val (nm q)] = some (.val (nm (p * q)), o) := by
  have hp := qd_pos p
  have hq := qd_pos q
  obtain ⟨o, ho⟩ := lowest_eval (n := p.num * q.num) (d := qd p * qd q) (Int.mul_ne_zero (by omega) (by omega)) (natAbs_mul_lt h.1 g.1) (natAbs_mul_lt h.2 g.2) (by omega)
  rw [mul_q] at ho
  refine run_rt (e := [.val (nm p), .val (nm q)]) ?_ (by simp)
  simp [b_f_law_mul, seqB, ifB, asgB, retB, exprB, op1, op2, look, nameL, nameV, datL, datF, valF, constD, boolT, consA, tupF, lstF, setS_zv, setS_zo, setS_zu, setS_succ, Slot.dat, Slot.mut, Slot.put, nilB, callF, notT, andT, orT, andE, orE, ifE, boolS, tgtB, tupG, consG, nilG, nameG, retNm, appB, augB, callX, ioA, consX, argI, argV, argN, argsS, argS, ioIx, putB, popF, setB, nm_0, nm_1, add_ii, mul_ii (mulOk_log h.1 g.1 (by omega)), mul_ii (mulOk_log h.2 g.2 (by omega)), ho]
theorem div_eval {p q : Rat} {m k : Nat} (h : Bq m p) (g : Bq k q) (hz : q ≠ 0) (hb : m + k ≤ 1900) : ∃ o, r_f_law_div [.val (nm p), .val (nm q)] = some (.val (nm (p / q)), o) := by
  have hp := qd_pos p
  have hn : q.num ≠ 0 := fun e => hz (Rat.num_eq_zero.mp e)
  obtain ⟨o, ho⟩ := lowest_eval (n := p.num * qd q) (d := qd p * q.num) (Int.mul_ne_zero (by omega) hn) (natAbs_mul_lt h.1 g.2) (natAbs_mul_lt h.2 g.1) (by omega)
  rw [div_q p q hz] at ho
  refine run_rt (e := [.val (nm p), .val (nm q)]) ?_ (by simp)
  simp [b_f_law_div, seqB, ifB, asgB, retB, exprB, op1, op2, look, nameL, nameV, datL, datF, valF, constD, boolT, consA, tupF, lstF, setS_zv, setS_zo, setS_zu, setS_succ, Slot.dat, Slot.mut, Slot.put, nilB, callF, notT, andT, orT, andE, orE, ifE, boolS, tgtB, tupG, consG, nilG, nameG, retNm, appB, augB, callX, ioA, consX, argI, argV, argN, argsS, argS, ioIx, putB, popF, setB, nm_0, nm_1, add_ii, mul_ii (mulOk_log h.1 g.2 (by omega)), mul_ii (mulOk_log h.2 g.1 (by omega)), ho]
/-! ### values of polynomials -/
def vq : List Int → Rat → Rat
  | [], _ => 0
  | c :: cs, t => (c : Rat) + t * vq cs t
def Bl (a : Nat) (cs : List Int) : Prop := ∀ c ∈ cs, c.natAbs < 2 ^ a
theorem vq_bd {a b : Nat} {t : Rat} (hb : Bq b t) : ∀ cs : List Int, Bl (a + 1) cs → Bq (1 + cs.length * (a + b + 2)) (vq cs t)
  | [], _ => by
    show Bq (1 + 0 * (a + b + 2)) 0
    rw [Nat.zero_mul]
    exact ⟨by decide, by decide⟩
  | c :: cs, h => by
    have h1 := vq_bd hb cs fun x hx => h x (List.mem_cons_of_mem _ hx)
    have h2 := (Bq.int (h c List.mem_cons_self) (by omega)).add (hb.mul h1)
    refine h2.up ?_
    rw [List.length_cons, Nat.add_mul]
    omega
def svB : MEnv → Option Out := (seqB (asgB 4 (op2 (datL (datF (op2 (nameL 4) (nameL 2) mulD))) (datL (datF (op2 (nameL 6) (nameL 5) mulD))) addD)) (seqB (asgB 5 (op2 (nameL 5) (nameL 3) mulD)) (nilB)))
theorem sv_loop {a b : Nat} {t : Rat} {x0 x1 : Slot} (hb : Bq b t) : ∀ (rs P : List Int) (top pow : Int) (s : Slot), nio s = true → Bl a rs → top.natAbs < 2 ^ (a + P.length * (b + 1)) → pow.natAbs < 2 ^ (1 + P.length * b) → a + (rs.length + P.length + 2) * (b + 1) ≤ 50000 →
    (top : Rat) * (qd t : Int) = vq P t * (pow : Int) → (pow : Rat) = ((qd t : Int) : Rat) ^ P.length →
    ∃ (top' pow' : Int) (s' : Slot), (top'.natAbs < 2 ^ (a + (rs.length + P.length) * (b + 1))) ∧ (top' : Rat) * (qd t : Int) = vq (rs.reverse ++ P) t * (pow' : Int) ∧ (pow' : Rat) = ((qd t : Int) : Rat) ^ (rs.length + P.length) ∧
      forLoop (nameG 6) svB (iv rs) [x0, x1, .val (.int t.num), .val (.int (qd t)), .val (.int top), .val (.int pow), s] = some (.nx [x0, x1, .val (.int t.num), .val (.int (qd t)), .val (.int top'), .val (.int pow'), s'])
  | [], P, top, pow, s, hs, ha, ht, hp, hm, e1, e2 => ⟨top, pow, s, by simpa using ht, by simpa using e1, by simpa using e2, rfl⟩
  | c :: rs, P, top, pow, s, hs, ha, ht, hp, hm, e1, e2 => by
    have hc := ha c List.mem_cons_self
    rw [List.length_cons] at hm
    have hlen : (c :: P).length = P.length + 1 := rfl
    have m1 : mulOk top t.num = true := mulOk_log ht hb.1 (by
      have : P.length * (b + 1) ≤ (rs.length + 1 + P.length + 2) * (b + 1) := Nat.mul_le_mul (by omega) (Nat.le_refl _)
      have : b + 1 ≤ (rs.length + 1 + P.length + 2) * (b + 1) := Nat.le_mul_of_pos_left _ (by omega)
      omega)
    have hPb : P.length * b ≤ P.length * (b + 1) := Nat.mul_le_mul (Nat.le_refl _) (by omega)
    have m2 : mulOk c pow = true := mulOk_log hc hp (by
      have : P.length * (b + 1) ≤ (rs.length + 1 + P.length + 2) * (b + 1) := Nat.mul_le_mul (by omega) (Nat.le_refl _)
      omega)
    have m3 : mulOk pow (qd t) = true := mulOk_log hp hb.2 (by
      have : P.length * (b + 1) ≤ (rs.length + 1 + P.length + 2) * (b + 1) := Nat.mul_le_mul (by omega) (Nat.le_refl _)
      have : b + 1 ≤ (rs.length + 1 + P.length + 2) * (b + 1) := Nat.le_mul_of_pos_left _ (by omega)
      omega)
    have t1 : (top * t.num + c * pow).natAbs < 2 ^ (a + (c :: P).length * (b + 1)) := by
      have h1 := natAbs_mul_lt ht hb.1
      have h2 := natAbs_mul_lt hc hp
      by_cases hb0 : b = 0
      · subst hb0
        have hz := hb.2
        have := qd_pos t
        omega
      · have h3 := natAbs_add_lt (m := a + P.length * (b + 1) + b) h1 (up_pow h2 (by omega))
        refine up_pow h3 ?_
        rw [hlen, Nat.add_mul]
        omega
    have t2 : (pow * qd t).natAbs < 2 ^ (1 + (c :: P).length * b) := by
      refine up_pow (natAbs_mul_lt hp hb.2) ?_
      rw [hlen, Nat.add_mul]
      omega
    have hm' : a + (rs.length + (c :: P).length + 2) * (b + 1) ≤ 50000 := by
      rw [hlen, show rs.length + (P.length + 1) + 2 = rs.length + 1 + P.length + 2 by omega]
      exact hm
    have q1 := q_eq t
    obtain ⟨top', pow', s', g1, g2, g3, g4⟩ := sv_loop hb rs (c :: P) (top * t.num + c * pow) (pow * qd t) (.val (.int c)) rfl (fun x hx => ha x (List.mem_cons_of_mem _ hx)) t1 t2 hm'
      (by
        rw [Rat.intCast_add, Rat.intCast_mul, Rat.intCast_mul, Rat.intCast_mul]
        show _ = ((c : Rat) + t * vq P t) * _
        grind)
      (by
        rw [Rat.intCast_mul, hlen, Rat.pow_succ, e2])
    refine ⟨top', pow', s', ?_, ?_, ?_, ?_⟩
    · rw [hlen] at g1
      rw [List.length_cons, show rs.length + 1 + P.length = rs.length + (P.length + 1) by omega]
      exact g1
    · rw [List.reverse_cons, List.append_assoc]
      exact g2
    · rw [List.length_cons, show rs.length + 1 + P.length = rs.length + (P.length + 1) by omega]
      exact g3
    · show forLoop (nameG 6) svB (.int c :: iv rs) _ = _
      unfold forLoop
      rw [show nameG 6 (.int c) [x0, x1, .val (.int t.num), .val (.int (qd t)), .val (.int top), .val (.int pow), s] = some [x0, x1, .val (.int t.num), .val (.int (qd t)), .val (.int top), .val (.int pow), .val (.int c)] by simp [nameG, setS_zero hs, setS_succ]]
      simp only
      rw [show svB [x0, x1, .val (.int t.num), .val (.int (qd t)), .val (.int top), .val (.int pow), .val (.int c)] = some (.nx [x0, x1, .val (.int t.num), .val (.int (qd t)), .val (.int (top * t.num + c * pow)), .val (.int (pow * qd t)), .val (.int c)]) by
        simp [svB, seqB, ifB, asgB, retB, exprB, op1, op2, look, nameL, nameV, datL, datF, valF, constD, boolT, consA, tupF, lstF, setS_zv, setS_zo, setS_zu, setS_succ, Slot.dat, Slot.mut, Slot.put, nilB, callF, notT, andT, orT, andE, orE, ifE, boolS, tgtB, tupG, consG, nilG, nameG, retNm, appB, augB, callX, ioA, consX, argI, argV, argN, argsS, argS, ioIx, putB, popF, setB, mul_ii m1, mul_ii m2, mul_ii m3, add_ii]]
      exact g4
end Lw

set_option Elab.async false
set_option linter.all false
set_option maxRecDepth 100000
set_option maxHeartbeats 4000000
namespace Lw
open PySem L2 Ip
theorem iv_rev (cs : List Int) : (iv cs).reverse = iv cs.reverse := by
  unfold iv
  rw [List.map_reverse]
theorem rat_pow_pos {q : Rat} (h : 0 < q) : ∀ n : Nat, 0 < q ^ n
  | 0 => by rw [Rat.pow_zero]; decide
  | n + 1 => by
    rw [Rat.pow_succ]
    exact Rat.mul_pos (rat_pow_pos h n) h
theorem qd_posQ (t : Rat) : (0 : Rat) < ((qd t : Int) : Rat) := by
  have := qd_pos t
  have h := Rat.intCast_lt_intCast (a := 0) (b := qd t)
  rw [Rat.intCast_zero] at h
  exact h.mpr this
theorem scaled_eval {a b : Nat} {t : Rat} {cs : List Int} (hb : Bq b t) (ha : Bl a cs) (hm : a + (cs.length + 2) * (b + 1) ≤ 50000) :
    ∃ top pow : Int, top.natAbs < 2 ^ (a + cs.length * (b + 1)) ∧ (top : Rat) * (qd t : Int) = vq cs t * (pow : Int) ∧ (pow : Rat) = ((qd t : Int) : Rat) ^ cs.length ∧ ∃ o, r_scaled_value [.val (.list (iv cs)), .val (nm t)] = some (.val (.int top), o) := by
  obtain ⟨top, pow, s', g1, g2, g3, g4⟩ := sv_loop (a := a) (x0 := .val (.list (iv cs))) (x1 := .val (nm t)) hb cs.reverse [] 0 1 .un rfl (fun c h => ha c (List.mem_reverse.mp h)) (Nat.pow_pos (by decide)) (by
    show 1 < 2 ^ (1 + 0 * b)
    rw [Nat.zero_mul]
    decide) (by rw [List.length_reverse]; exact hm) (by show ((0 : Int) : Rat) * _ = (0 : Rat) * _; grind) (by rw [List.length_nil, Rat.pow_zero]; rfl)
  rw [List.length_reverse] at g1 g3
  rw [List.reverse_reverse, List.append_nil] at g2
  refine ⟨top, pow, g1, g2, g3, ?_⟩
  refine run_rt (e := [.val (.list (iv cs)), .val (nm t), .val (.int t.num), .val (.int (qd t)), .val (.int top), .val (.int pow), s']) ?_ (by simp)
  show seqB _ (seqB _ (seqB _ (seqB (forB _ _ svB) _))) [.val (.list (iv cs)), .val (nm t), .un, .un, .un, .un, .un] = _
  rw [seq_nx (e1 := [.val (.list (iv cs)), .val (nm t), .val (.int t.num), .val (.int (qd t)), .un, .un, .un]) (by simp [seqB, ifB, asgB, retB, exprB, op1, op2, look, nameL, nameV, datL, datF, valF, constD, boolT, consA, tupF, lstF, setS_zv, setS_zo, setS_zu, setS_succ, Slot.dat, Slot.mut, Slot.put, nilB, callF, notT, andT, orT, andE, orE, ifE, boolS, tgtB, tupG, consG, nilG, nameG, retNm, appB, augB, callX, ioA, consX, argI, argV, argN, argsS, argS, ioIx, putB, popF, setB, nm])]
  rw [seq_nx (e1 := [.val (.list (iv cs)), .val (nm t), .val (.int t.num), .val (.int (qd t)), .val (.int 0), .un, .un]) (by simp [seqB, ifB, asgB, retB, exprB, op1, op2, look, nameL, nameV, datL, datF, valF, constD, boolT, consA, tupF, lstF, setS_zv, setS_zo, setS_zu, setS_succ, Slot.dat, Slot.mut, Slot.put, nilB, callF, notT, andT, orT, andE, orE, ifE, boolS, tgtB, tupG, consG, nilG, nameG, retNm, appB, augB, callX, ioA, consX, argI, argV, argN, argsS, argS, ioIx, putB, popF, setB])]
  rw [seq_nx (e1 := [.val (.list (iv cs)), .val (nm t), .val (.int t.num), .val (.int (qd t)), .val (.int 0), .val (.int 1), .un]) (by simp [seqB, ifB, asgB, retB, exprB, op1, op2, look, nameL, nameV, datL, datF, valF, constD, boolT, consA, tupF, lstF, setS_zv, setS_zo, setS_zu, setS_succ, Slot.dat, Slot.mut, Slot.put, nilB, callF, notT, andT, orT, andE, orE, ifE, boolS, tgtB, tupG, consG, nilG, nameG, retNm, appB, augB, callX, ioA, consX, argI, argV, argN, argsS, argS, ioIx, putB, popF, setB])]
  rw [seq_nx (e1 := [.val (.list (iv cs)), .val (nm t), .val (.int t.num), .val (.int (qd t)), .val (.int top), .val (.int pow), s']) (by
    unfold forB
    rw [show revI (nameV 0) [.val (.list (iv cs)), .val (nm t), .val (.int t.num), .val (.int (qd t)), .val (.int 0), .val (.int 1), .un] = some (iv cs.reverse, [.val (.list (iv cs)), .val (nm t), .val (.int t.num), .val (.int (qd t)), .val (.int 0), .val (.int 1), .un]) by simp [revI, nameV, iv_rev]]
    exact g4)]
  simp [seqB, ifB, asgB, retB, exprB, op1, op2, look, nameL, nameV, datL, datF, valF, constD, boolT, consA, tupF, lstF, setS_zv, setS_zo, setS_zu, setS_succ, Slot.dat, Slot.mut, Slot.put, nilB, callF, notT, andT, orT, andE, orE, ifE, boolS, tgtB, tupG, consG, nilG, nameG, retNm, appB, augB, callX, ioA, consX, argI, argV, argN, argsS, argS, ioIx, putB, popF, setB]
def pwB : MEnv → Option Out := (seqB (asgB 2 (op2 (nameL 2) (datL (datF (op2 (nameL 1) (datL (constD (.int 1))) ixD))) mulD)) (nilB))
theorem pw_loop {b : Nat} {t : Rat} {x0 : Slot} (hb : Bq b t) : ∀ (rs : List Int) (n : Nat) (pow : Int) (s : Slot), nio s = true → pow.natAbs < 2 ^ (1 + n * b) → (rs.length + n + 1) * (b + 1) ≤ 50000 → (pow : Rat) = ((qd t : Int) : Rat) ^ n →
    ∃ (pow' : Int) (s' : Slot), pow'.natAbs < 2 ^ (1 + (rs.length + n) * b) ∧ (pow' : Rat) = ((qd t : Int) : Rat) ^ (rs.length + n) ∧ forLoop (nameG 3) pwB (iv rs) [x0, .val (nm t), .val (.int pow), s] = some (.nx [x0, .val (nm t), .val (.int pow'), s'])
  | [], n, pow, s, hs, hp, hm, e => ⟨pow, s, by simpa using hp, by simpa using e, rfl⟩
  | c :: rs, n, pow, s, hs, hp, hm, e => by
    rw [List.length_cons] at hm
    have k1 : n * b ≤ (rs.length + 1 + n + 1) * (b + 1) := Nat.mul_le_mul (by omega) (by omega)
    have k2 : b + 1 ≤ (rs.length + 1 + n + 1) * (b + 1) := Nat.le_mul_of_pos_left _ (by omega)
    have m1 : mulOk pow (qd t) = true := mulOk_log hp hb.2 (by omega)
    obtain ⟨pow', s', g1, g2, g3⟩ := pw_loop (x0 := x0) hb rs (n + 1) (pow * qd t) (.val (.int c)) rfl (by
      refine up_pow (natAbs_mul_lt hp hb.2) ?_
      rw [Nat.add_mul]
      omega) (by rw [show rs.length + (n + 1) + 1 = rs.length + 1 + n + 1 by omega]; exact hm) (by rw [Rat.intCast_mul, Rat.pow_succ, e])
    refine ⟨pow', s', ?_, ?_, ?_⟩
    · rw [List.length_cons, show rs.length + 1 + n = rs.length + (n + 1) by omega]
      exact g1
    · rw [List.length_cons, show rs.length + 1 + n = rs.length + (n + 1) by omega]
      exact g2
    · show forLoop (nameG 3) pwB (.int c :: iv rs) _ = _
      unfold forLoop
      rw [show nameG 3 (.int c) [x0, .val (nm t), .val (.int pow), s] = some [x0, .val (nm t), .val (.int pow), .val (.int c)] by simp [nameG, setS_zero hs, setS_succ]]
      simp only
      rw [show pwB [x0, .val (nm t), .val (.int pow), .val (.int c)] = some (.nx [x0, .val (nm t), .val (.int (pow * qd t)), .val (.int c)]) by
        simp [pwB, seqB, ifB, asgB, retB, exprB, op1, op2, look, nameL, nameV, datL, datF, valF, constD, boolT, consA, tupF, lstF, setS_zv, setS_zo, setS_zu, setS_succ, Slot.dat, Slot.mut, Slot.put, nilB, callF, notT, andT, orT, andE, orE, ifE, boolS, tgtB, tupG, consG, nilG, nameG, retNm, appB, augB, callX, ioA, consX, argI, argV, argN, argsS, argS, ioIx, putB, popF, setB, nm_1, mul_ii m1]]
      exact g3
theorem value_at_eval {a b : Nat} {t : Rat} {cs : List Int} (hb : Bq b t) (ha : Bl a cs) (hm : a + (cs.length + 3) * (b + 1) ≤ 1000) : ∃ o, r_value_at [.val (.list (iv cs)), .val (nm t)] = some (.val (nm (vq cs t)), o) := by
  have k0 : (cs.length + 2) * (b + 1) ≤ (cs.length + 3) * (b + 1) := Nat.mul_le_mul (by omega) (Nat.le_refl _)
  have k1 : cs.length * b ≤ (cs.length + 3) * (b + 1) := Nat.mul_le_mul (by omega) (by omega)
  have k2 : cs.length * (b + 1) + (b + 1) ≤ (cs.length + 3) * (b + 1) := by
    have : (cs.length + 1) * (b + 1) ≤ (cs.length + 3) * (b + 1) := Nat.mul_le_mul (by omega) (Nat.le_refl _)
    rw [Nat.add_mul (cs.length) 1] at this
    omega
  obtain ⟨top, pow, g1, g2, g3, o1, g4⟩ := scaled_eval hb ha (by omega)
  obtain ⟨pow', s', q1, q2, q3⟩ := pw_loop (x0 := .val (.list (iv cs))) hb cs 0 1 .un rfl (by
    show 1 < 2 ^ (1 + 0 * b)
    rw [Nat.zero_mul]
    decide) (by
      have : (cs.length + 0 + 1) * (b + 1) ≤ (cs.length + 3) * (b + 1) := Nat.mul_le_mul (by omega) (Nat.le_refl _)
      omega) (by rw [Rat.pow_zero]; rfl)
  rw [Nat.add_zero] at q1 q2
  have hpp : pow' = pow := Rat.intCast_inj.mp (q2.trans g3.symm)
  subst hpp
  have hpos : (0 : Rat) < (pow' : Int) := by
    rw [q2]
    exact rat_pow_pos (qd_posQ t) _
  have hne : pow' ≠ 0 := by
    intro e
    rw [e, Rat.intCast_zero] at hpos
    exact absurd hpos (by decide)
  obtain ⟨o2, g5⟩ := number_eval (n := top * qd t) (d := pow') hne q1 (by omega)
  have hq : Rat.divInt (top * qd t) pow' = vq cs t := by
    have := cast_ne hne
    rw [Rat.divInt_eq_div, Rat.intCast_mul]
    grind
  rw [hq] at g5
  have m1 : mulOk top (qd t) = true := mulOk_log g1 hb.2 (by omega)
  refine run_rt (e := [.val (.list (iv cs)), .val (nm t), .val (.int pow'), s']) ?_ (by simp)
  show seqB _ (seqB (forB _ _ pwB) _) [.val (.list (iv cs)), .val (nm t), .un, .un] = _
  rw [seq_nx (e1 := [.val (.list (iv cs)), .val (nm t), .val (.int 1), .un]) (by simp [seqB, ifB, asgB, retB, exprB, op1, op2, look, nameL, nameV, datL, datF, valF, constD, boolT, consA, tupF, lstF, setS_zv, setS_zo, setS_zu, setS_succ, Slot.dat, Slot.mut, Slot.put, nilB, callF, notT, andT, orT, andE, orE, ifE, boolS, tgtB, tupG, consG, nilG, nameG, retNm, appB, augB, callX, ioA, consX, argI, argV, argN, argsS, argS, ioIx, putB, popF, setB])]
  rw [seq_nx (e1 := [.val (.list (iv cs)), .val (nm t), .val (.int pow'), s']) (by
    unfold forB
    rw [show seqI (nameV 0) [.val (.list (iv cs)), .val (nm t), .val (.int 1), .un] = some (iv cs, [.val (.list (iv cs)), .val (nm t), .val (.int 1), .un]) by simp [seqI, nameV]]
    exact q3)]
  simp [seqB, ifB, asgB, retB, exprB, op1, op2, look, nameL, nameV, datL, datF, valF, constD, boolT, consA, tupF, lstF, setS_zv, setS_zo, setS_zu, setS_succ, Slot.dat, Slot.mut, Slot.put, nilB, callF, notT, andT, orT, andE, orE, ifE, boolS, tgtB, tupG, consG, nilG, nameG, retNm, appB, augB, callX, ioA, consX, argI, argV, argN, argsS, argS, ioIx, putB, popF, setB, g4, nm_1, mul_ii m1, g5]
/-! ### the law's values -/
def lvB : MEnv → Option Out := (seqB (asgB 2 (callF 2 r_f_law_add (consA (datF (callF 2 r_f_law_mul (consA (nameV 2) (consA (nameV 1) ((fun env => some ([], env))))))) (consA (datF (tupF (consA (datF (op2 (nameL 0) (datL (datF (op2 (datL (datF (op2 (datL (datF (op1 (nameL 0) lenD))) (datL (constD (.int 1))) subD))) (nameL 3) subD))) ixD)) (consA (constD (.int 1)) ((fun env => some ([], env))))))) ((fun env => some ([], env))))))) (nilB))
theorem lv_turn {I : List PyData} {N C lo : Int} {T V W U : PyData} {o1 o2 : MEnv} (hlen : lenD (.list I) = some (.val (.int N))) (hx : ixD (.list I) (.int (N - 1 - lo)) = some (.val (.int C))) (h1 : r_f_law_mul [.val V, .val T] = some (.val W, o1)) (h2 : r_f_law_add [.val W, .val (.tuple [.int C, .int 1])] = some (.val U, o2)) :
    lvB [.val (.list I), .val T, .val V, .val (.int lo)] = some (.nx [.val (.list I), .val T, .val U, .val (.int lo)]) := by
  simp [lvB, seqB, ifB, asgB, retB, exprB, op1, op2, look, nameL, nameV, datL, datF, valF, constD, boolT, consA, tupF, lstF, setS_zv, setS_zo, setS_zu, setS_succ, Slot.dat, Slot.mut, Slot.put, nilB, callF, notT, andT, orT, andE, orE, ifE, boolS, tgtB, tupG, consG, nilG, nameG, retNm, appB, augB, callX, ioA, consX, argI, argV, argN, argsS, argS, ioIx, putB, popF, setB, h1, hlen, sub_ii, hx, h2]
theorem lv_loop {a b : Nat} {t : Rat} {cs : List Int} (hb : Bq b t) (ha : Bl (a + 1) cs) (hm : 10 + (cs.length + 2) * (a + b + 2) ≤ 1900) : ∀ (n : Nat) (lo : Int) (s : Slot), nio s = true → n ≤ cs.length → lo = il cs - n →
    ∃ s', forLoop (nameG 3) lvB (Ip.intsFrom lo n) [.val (.list (iv cs)), .val (nm t), .val (nm (vq (cs.drop n) t)), s] = some (.nx [.val (.list (iv cs)), .val (nm t), .val (nm (vq cs t)), s'])
  | 0, lo, s, hs, hn, e => ⟨s, rfl⟩
  | n + 1, lo, s, hs, hn, e => by
    have hk : n < cs.length := by omega
    obtain ⟨s', g⟩ := lv_loop hb ha hm n (lo + 1) (.val (.int lo)) rfl (by omega) (by omega)
    refine ⟨s', ?_⟩
    have hd : cs.drop n = cs[n] :: cs.drop (n + 1) := List.drop_eq_getElem_cons hk
    have hvb := vq_bd hb (cs.drop (n + 1)) fun x hx => ha x (List.mem_of_mem_drop hx)
    rw [List.length_drop] at hvb
    have hx := ix_iv0 (ns := cs) (i := il cs - 1 - lo) n (by omega) (List.getElem?_eq_getElem hk)
    have hcb := Bq.int (m := a + 1) (ha _ (List.getElem_mem hk)) (by omega)
    have kk : (cs.length - (n + 1)) * (a + b + 2) ≤ cs.length * (a + b + 2) := Nat.mul_le_mul (by omega) (Nat.le_refl _)
    have k2 : (cs.length + 2) * (a + b + 2) = cs.length * (a + b + 2) + 2 * (a + b + 2) := Nat.add_mul ..
    obtain ⟨o1, h1⟩ := mul_eval hvb hb (by omega)
    obtain ⟨o2, h2⟩ := add_eval (hvb.mul hb) hcb (by omega)
    have e2 : vq (cs.drop (n + 1)) t * t + (cs[n] : Int) = vq (cs.drop n) t := by
      rw [hd]
      show _ = (cs[n] : Rat) + t * _
      grind
    rw [e2] at h2
    rw [← nm_int] at h2
    have hh := lv_turn (T := nm t) (lo := lo) (len_iv cs) hx h1 h2
    clear hx h1 h2 e2 hcb hvb hd
    rw [ints_succ]
    generalize iv cs = I at *
    generalize nm (vq (List.drop n cs) t) = U at *
    generalize nm (vq (List.drop (n + 1) cs) t) = V at *
    generalize nm t = T at *
    generalize nm (vq cs t) = W at *
    rw [for_nx (e1 := [.val (.list I), .val T, .val V, .val (.int lo)]) (by simp [nameG, setS_zero hs, setS_succ]) hh]
    exact g
theorem law_value_eval {a b : Nat} {t : Rat} {cs : List Int} (hb : Bq b t) (ha : Bl (a + 1) cs) (hm : 10 + (cs.length + 2) * (a + b + 2) ≤ 1900) : ∃ o, r_f_law_value [.val (.list (iv cs)), .val (nm t)] = some (.val (nm (vq cs t)), o) := by
  obtain ⟨s', g⟩ := lv_loop hb ha hm cs.length 0 .un rfl (Nat.le_refl _) (by unfold il; omega)
  rw [List.drop_length] at g
  refine run_rt (e := [.val (.list (iv cs)), .val (nm t), .val (nm (vq cs t)), s']) ?_ (by simp)
  have hl : cs.length ≤ 1900 := by
    have : cs.length * 1 ≤ (cs.length + 2) * (a + b + 2) := Nat.mul_le_mul (by omega) (by omega)
    omega
  show seqB _ (seqB (forB _ _ lvB) _) [.val (.list (iv cs)), .val (nm t), .un, .un] = _
  rw [seq_nx (e1 := [.val (.list (iv cs)), .val (nm t), .val (nm 0), .un]) (by simp [seqB, ifB, asgB, retB, exprB, op1, op2, look, nameL, nameV, datL, datF, valF, constD, boolT, consA, tupF, lstF, setS_zv, setS_zo, setS_zu, setS_succ, Slot.dat, Slot.mut, Slot.put, nilB, callF, notT, andT, orT, andE, orE, ifE, boolS, tgtB, tupG, consG, nilG, nameG, retNm, appB, augB, callX, ioA, consX, argI, argV, argN, argsS, argS, ioIx, putB, popF, setB]; rfl)]
  rw [seq_nx (e1 := [.val (.list (iv cs)), .val (nm t), .val (nm (vq cs t)), s']) (forB_of (rng1_nat (c := il cs) (n := cs.length) (env1 := [.val (.list (iv cs)), .val (nm t), .val (nm 0), .un]) (by simp [seqB, ifB, asgB, retB, exprB, op1, op2, look, nameL, nameV, datL, datF, valF, constD, boolT, consA, tupF, lstF, setS_zv, setS_zo, setS_zu, setS_succ, Slot.dat, Slot.mut, Slot.put, nilB, callF, notT, andT, orT, andE, orE, ifE, boolS, tgtB, tupG, consG, nilG, nameG, retNm, appB, augB, callX, ioA, consX, argI, argV, argN, argsS, argS, ioIx, putB, popF, setB, len_iv]) rfl (by omega)) g)]
  simp [seqB, ifB, asgB, retB, exprB, op1, op2, look, nameL, nameV, datL, datF, valF, constD, boolT, consA, tupF, lstF, setS_zv, setS_zo, setS_zu, setS_succ, Slot.dat, Slot.mut, Slot.put, nilB, callF, notT, andT, orT, andE, orE, ifE, boolS, tgtB, tupG, consG, nilG, nameG, retNm, appB, augB, callX, ioA, consX, argI, argV, argN, argsS, argS, ioIx, putB, popF, setB]
end Lw

set_option Elab.async false
set_option linter.all false
set_option maxRecDepth 100000
set_option maxHeartbeats 4000000
namespace Lw
open PySem L2 Ip
/-! data that can be shown -/
theorem shown_int400 {i : Int} (h : i.natAbs < 2 ^ 1200) : (PyData.shown (.int i)).length ≤ 400 := by
  have e := int_text_length_le10 (k := 399) (by decide) (Nat.lt_of_lt_of_le h (by decide +kernel))
  show (Str.ofString (toString i)).length ≤ 400
  rw [ofString_length]
  exact e
structure OkE (n m : Nat) (d : PyData) : Prop where
  sh : d.showable = true
  nd : d.hasDict = false
  lv : d.leavesShort 400 = true
  bk : d.bulk ≤ n
  dp : d.depth ≤ m
  pl : plain d = true
structure OkM (n m : Nat) (ds : List PyData) : Prop where
  sh : PyData.showableAll ds = true
  nd : PyData.hasDictAll ds = false
  lv : PyData.leavesShortAll 400 ds = true
  bk : PyData.bulkAll ds ≤ n
  dp : PyData.depthAll ds ≤ m
  pl : plainL ds = true
theorem OkE.repr {n m : Nat} {d : PyData} (h : OkE n m d) (hn : n ≤ 240) (hm : m ≤ 100) : reprD d = some (.val (.str d.shown)) := by
  have h1 := PyData.shown_le_bulk 400 (by decide) d h.lv
  have h2 := h.bk
  have h3 := h.dp
  unfold reprD
  rw [if_pos]
  unfold reprOk
  rw [h.sh, h.nd]
  simp
  omega
theorem OkE.mono {n m n' m' : Nat} {d : PyData} (h : OkE n m d) (hn : n ≤ n') (hm : m ≤ m') : OkE n' m' d := ⟨h.sh, h.nd, h.lv, Nat.le_trans h.bk hn, Nat.le_trans h.dp hm, h.pl⟩
theorem okE_int {i : Int} (h : i.natAbs < 2 ^ 1200) : OkE 0 0 (.int i) where
  sh := by
    simp only [PyData.showable, decide_eq_true_eq]
    exact log2_lt (Nat.lt_of_lt_of_le h (Nat.pow_le_pow_right (by decide) (by decide))) (by decide)
  nd := by simp only [PyData.hasDict]
  lv := by
    simp only [PyData.leavesShort, decide_eq_true_eq]
    exact shown_int400 h
  bk := Nat.le_refl _
  dp := Nat.le_refl _
  pl := rfl
theorem okE_none : OkE 0 0 .none := ⟨by simp only [PyData.showable], by simp only [PyData.hasDict], by simp only [PyData.leavesShort], Nat.le_refl _, Nat.le_refl _, rfl⟩
theorem okE_bool {b : Bool} : OkE 0 0 (.bool b) := ⟨by simp only [PyData.showable], by simp only [PyData.hasDict], by simp only [PyData.leavesShort], Nat.le_refl _, Nat.le_refl _, rfl⟩
theorem okE_str {x : Str} (h : ∀ c ∈ x.cps.toList, c < 128) : OkE x.length 0 (.str x) where
  sh := by simp only [PyData.showable]
  nd := by simp only [PyData.hasDict]
  lv := by
    simp only [PyData.leavesShort, List.all_eq_true, decide_eq_true_eq]
    intro c hc
    have := h c hc
    omega
  bk := Nat.le_refl _
  dp := Nat.le_refl _
  pl := by
    show PyData.strOk x = true
    unfold PyData.strOk
    rw [← Array.all_toList, List.all_eq_true]
    intro c hc
    have := h c hc
    simp
    omega
theorem okM_nil : OkM 0 0 [] := ⟨rfl, rfl, rfl, Nat.le_refl _, Nat.le_refl _, rfl⟩
theorem okM_cons {n m n' m' : Nat} {d : PyData} {ds : List PyData} (h : OkE n m d) (hs : OkM n' m' ds) : OkM (n + 1 + n') (max m m') (d :: ds) where
  sh := by show (d.showable && PyData.showableAll ds) = true; rw [h.sh, hs.sh]; rfl
  nd := by show (d.hasDict || PyData.hasDictAll ds) = false; rw [h.nd, hs.nd]; rfl
  lv := by show (d.leavesShort 400 && PyData.leavesShortAll 400 ds) = true; rw [h.lv, hs.lv]; rfl
  bk := by show d.bulk + 1 + PyData.bulkAll ds ≤ _; have := h.bk; have := hs.bk; omega
  dp := by show max d.depth (PyData.depthAll ds) ≤ _; have := h.dp; have := hs.dp; omega
  pl := by show (plain d && plainL ds) = true; rw [h.pl, hs.pl]; rfl
theorem okM_of {n m : Nat} : ∀ {ds : List PyData}, (∀ d ∈ ds, OkE n m d) → OkM ((n + 1) * ds.length) m ds
  | [], _ => ⟨rfl, rfl, rfl, Nat.le_refl _, Nat.zero_le _, rfl⟩
  | d :: ds, h => by
    have h1 := okM_cons (h d List.mem_cons_self) (okM_of fun x hx => h x (List.mem_cons_of_mem _ hx))
    refine ⟨h1.sh, h1.nd, h1.lv, ?_, ?_, h1.pl⟩
    · have := h1.bk
      rw [List.length_cons, Nat.mul_succ]
      omega
    · have := h1.dp
      omega
theorem OkM.list {n m : Nat} {ds : List PyData} (h : OkM n m ds) : OkE n (m + 1) (.list ds) := ⟨by simpa only [PyData.showable] using h.sh, by simpa only [PyData.hasDict] using h.nd, by simpa only [PyData.leavesShort] using h.lv, by simpa only [PyData.bulk] using h.bk, by simpa only [PyData.depth] using Nat.succ_le_succ h.dp, h.pl⟩
theorem OkM.tup {n m : Nat} {ds : List PyData} (h : OkM n m ds) : OkE n (m + 1) (.tuple ds) := ⟨by simpa only [PyData.showable] using h.sh, by simpa only [PyData.hasDict] using h.nd, by simpa only [PyData.leavesShort] using h.lv, by simpa only [PyData.bulk] using h.bk, by simpa only [PyData.depth] using Nat.succ_le_succ h.dp, h.pl⟩
theorem OkM.mono {n m n' m' : Nat} {d : List PyData} (h : OkM n m d) (hn : n ≤ n') (hm : m ≤ m') : OkM n' m' d := ⟨h.sh, h.nd, h.lv, Nat.le_trans h.bk hn, Nat.le_trans h.dp hm, h.pl⟩
end Lw

set_option Elab.async false
set_option linter.all false
set_option maxRecDepth 100000
set_option maxHeartbeats 4000000
namespace Lw
open PySem L2 Ip
/-! ### the stream out of which the laws draw -/
def pl (c : Int) (ps : List Int) : List PyData := .int c :: iv ps
def pC (ps : List Int) (c : Int) : Int := 1 + c.fmod (il ps)
def pV (ps : List Int) (c m : Int) : Int := (ps.getD ((pC ps c).toNat - 1) 0).fmod m
structure Ps (ps : List Int) : Prop where
  pos : 0 < ps.length
  le : ps.length ≤ 50000
theorem il_pos {ps : List Int} (h : 0 < ps.length) : 0 < il ps := by
  unfold il
  omega
theorem pC_bd {ps : List Int} (h : 0 < ps.length) (c : Int) : 1 ≤ pC ps c ∧ pC ps c ≤ il ps := by
  have h0 := il_pos h
  have h1 := Int.fmod_nonneg_of_pos c h0
  have h2 := Int.fmod_lt_of_pos c h0
  unfold pC
  omega
theorem pV_bd (ps : List Int) (c : Int) {m : Int} (hm : 0 < m) : 0 ≤ pV ps c m ∧ pV ps c m < m := ⟨Int.fmod_nonneg_of_pos _ hm, Int.fmod_lt_of_pos _ hm⟩
theorem pl_ixN (c : Int) (ps : List Int) : ixN (pl c ps).length 0 = some 0 := ixN_of (by decide) (by show (0 : Int) < (((iv ps).length + 1 : Nat) : Int); omega)
theorem pl_0 (c : Int) (ps : List Int) : ixD (.list (pl c ps)) (.int 0) = some (.val (.int c)) := by
  show (atI (pl c ps) 0).map Slot.val = _
  unfold atI
  rw [pl_ixN]
  rfl
theorem pl_len (c : Int) (ps : List Int) : lenD (.list (pl c ps)) = some (.val (.int (il ps + 1))) := by
  show some (Slot.val (.int (((iv ps).length + 1 : Nat) : Int))) = _
  rw [iv_len]
  rfl
theorem pl_set (c d : Int) (ps : List Int) : (pl c ps).set 0 (.int d) = pl d ps := rfl
theorem pl_ix {ps : List Int} (h : 0 < ps.length) (c d : Int) : ixD (.list (pl d ps)) (.int (pC ps c)) = some (.val (.int (ps.getD ((pC ps c).toNat - 1) 0))) := by
  obtain ⟨h1, h2⟩ := pC_bd h c
  generalize pC ps c = k at *
  have hn : k.toNat - 1 < ps.length := by unfold il at h2; omega
  show (atI (pl d ps) k).map Slot.val = _
  rw [atI_of (by omega) (by show k < (((iv ps).length + 1 : Nat) : Int); rw [iv_len]; unfold il at h2; omega)]
  rw [show k.toNat = (k.toNat - 1) + 1 by omega]
  show ((iv ps)[k.toNat - 1]?).map Slot.val = _
  unfold iv
  rw [List.getElem?_map, List.getElem?_eq_getElem hn, List.getD_eq_getElem?_getD, Nat.add_sub_cancel, List.getElem?_eq_getElem hn]
  rfl
theorem pick_eval {ps : List Int} (h : Ps ps) (c : Int) {m : Int} (hm : m ≠ 0) : r_f_law_pick [.io (pl c ps), .val (.int m)] = some (.val (.int (pV ps c m)), [.io (pl (pC ps c) ps), .val (.int m)]) := by
  have h0 := il_pos h.pos
  have hmod : modD (.int c) (.int (il ps + 1 - 1)) = some (.val (.int (c.fmod (il ps)))) := by
    rw [show il ps + 1 - 1 = il ps by omega, mod_ii (by omega)]
  have hb : b_f_law_pick [.io (pl c ps), .val (.int m)] = some (.rt (.val (.int (pV ps c m))) [.io (pl (pC ps c) ps), .val (.int m)]) := by
    show seqB _ _ _ = _
    rw [seq_nx (e1 := [.io (pl (pC ps c) ps), .val (.int m)]) (by
      simp only [seqB, ifB, asgB, retB, exprB, op1, op2, look, nameL, nameV, datL, datF, valF, constD, boolT, consA, tupF, lstF, setS_zv, setS_zo, setS_zu, setS_succ, Slot.dat, Slot.mut, Slot.put, nilB, callF, notT, andT, orT, andE, orE, ifE, boolS, tgtB, tupG, consG, nilG, nameG, retNm, appB, augB, callX, ioA, consX, argI, argV, argN, argsS, argS, ioIx, putB, popF, setB, pl_0, int_i, pl_len, sub_ii, hmod, add_ii, List.getElem?_cons_zero, pl_ixN, List.set_cons_zero]
      rw [show (1 : Int) + c.fmod (il ps) = pC ps c from rfl, pl_set])]
    have h1 := pl_ix h.pos c (pC ps c)
    have h2 := mod_ii (a := ps.getD ((pC ps c).toNat - 1) 0) hm
    rw [show (ps.getD ((pC ps c).toNat - 1) 0).fmod m = pV ps c m from rfl] at h2
    generalize ps.getD ((pC ps c).toNat - 1) 0 = v at *
    generalize pV ps c m = r at *
    generalize pC ps c = k at *
    simp [seqB, ifB, asgB, retB, exprB, op1, op2, look, nameL, nameV, datL, datF, valF, constD, boolT, consA, tupF, lstF, setS_zv, setS_zo, setS_zu, setS_succ, Slot.dat, Slot.mut, Slot.put, nilB, callF, notT, andT, orT, andE, orE, ifE, boolS, tgtB, tupG, consG, nilG, nameG, retNm, appB, augB, callX, ioA, consX, argI, argV, argN, argsS, argS, ioIx, putB, popF, setB, pl_0, h1, int_i, h2]
  show runB 2 2 b_f_law_pick _ = _
  unfold runB
  rw [show ([.io (pl c ps), .val (.int m)] ++ List.replicate (2 - 2) Slot.un) = [.io (pl c ps), .val (.int m)] from rfl, hb]
  rfl
/-! ### zeros at the end left out -/
def trB : MEnv → Option Out := (seqB (ifB (boolT (op2 (datL (datF (op2 (nameL 0) (datL (datF (op2 (nameL 1) (datL (constD (.int 1))) subD))) ixD))) (datL (constD (.int 0))) neD)) (seqB ((fun env => some (.bk env))) (nilB)) (nilB)) (seqB (asgB 1 (op2 (nameL 1) (datL (constD (.int 1))) subD)) (nilB)))
theorem tr_loop {cs : List Int} : ∀ (n : Nat) (lo M : Int) (s : Slot), nio s = true → M = n → n ≤ cs.length → ∃ (k : Nat) (s' : Slot), k ≤ n ∧ forLoop (nameG 2) trB (Ip.intsFrom lo n) [.val (.list (iv cs)), .val (.int M), s] = some (.nx [.val (.list (iv cs)), .val (.int (k : Int)), s'])
  | 0, lo, M, s, hs, hM, hn => ⟨0, s, Nat.le_refl _, by rw [hM]; rfl⟩
  | n + 1, lo, M, s, hs, hM, hn => by
    have hk : n < cs.length := by omega
    have hx := ix_iv0 (ns := cs) (i := M - 1) n (by omega) (List.getElem?_eq_getElem hk)
    rw [ints_succ]
    by_cases hz : cs[n] = 0
    · obtain ⟨k, s', h1, h2⟩ := tr_loop (cs := cs) n (lo + 1) (M - 1) (.val (.int lo)) rfl (by omega) (by omega)
      refine ⟨k, s', by omega, ?_⟩
      rw [for_nx (e1 := [.val (.list (iv cs)), .val (.int M), .val (.int lo)]) (e2 := [.val (.list (iv cs)), .val (.int (M - 1)), .val (.int lo)]) (by simp [nameG, setS_zero hs, setS_succ]) (by
        rw [hz] at hx
        simp [trB, seqB, ifB, asgB, retB, exprB, op1, op2, look, nameL, nameV, datL, datF, valF, constD, boolT, consA, tupF, lstF, setS_zv, setS_zo, setS_zu, setS_succ, Slot.dat, Slot.mut, Slot.put, nilB, callF, notT, andT, orT, andE, orE, ifE, boolS, tgtB, tupG, consG, nilG, nameG, retNm, appB, augB, callX, ioA, consX, argI, argV, argN, argsS, argS, ioIx, putB, popF, setB, sub_ii, hx, ne_ii])]
      exact h2
    · refine ⟨n + 1, .val (.int lo), Nat.le_refl _, ?_⟩
      rw [for_bk (e1 := [.val (.list (iv cs)), .val (.int M), .val (.int lo)]) (e2 := [.val (.list (iv cs)), .val (.int M), .val (.int lo)]) (by simp [nameG, setS_zero hs, setS_succ]) (by
        generalize cs[n] = C at *
        simp [trB, seqB, ifB, asgB, retB, exprB, op1, op2, look, nameL, nameV, datL, datF, valF, constD, boolT, consA, tupF, lstF, setS_zv, setS_zo, setS_zu, setS_succ, Slot.dat, Slot.mut, Slot.put, nilB, callF, notT, andT, orT, andE, orE, ifE, boolS, tgtB, tupG, consG, nilG, nameG, retNm, appB, augB, callX, ioA, consX, argI, argV, argN, argsS, argS, ioIx, putB, popF, setB, sub_ii, hx, ne_ii, hz])]
      rw [hM]
theorem cut_iv {cs : List Int} {k : Nat} {M : Int} (hM : M = k) (hk : k ≤ cs.length) : cutD (iv cs) none (some M) = iv (cs.take k) := by
  have h1 : HT.sIx (iv cs).length 0 none = 0 := rfl
  have h2 : HT.sIx (iv cs).length (iv cs).length (some M) = k := by
    rw [iv_len]
    unfold HT.sIx
    simp only
    rw [if_neg (by omega)]
    omega
  unfold cutD
  rw [h1, h2, List.drop_zero, Nat.sub_zero]
  unfold iv
  rw [List.map_take]
theorem trim_eval (cs : List Int) (hl : cs.length ≤ 100000) : ∃ k : Nat, k ≤ cs.length ∧ ∃ o, r_f_law_trim [.val (.list (iv cs))] = some (.own (iv (cs.take k)), o) := by
  obtain ⟨k, s', h1, h2⟩ := tr_loop (cs := cs) cs.length 0 (il cs) .un rfl rfl (Nat.le_refl _)
  obtain ⟨M, hM⟩ : ∃ M : Int, M = (k : Int) := ⟨_, rfl⟩
  have hc := cut_iv (cs := cs) hM h1
  rw [← hM] at h2
  refine ⟨k, h1, run_rt (e := [.val (.list (iv cs)), .val (.int M), s']) ?_ (by simp)⟩
  show seqB _ (seqB (forB _ _ trB) _) [.val (.list (iv cs)), .un, .un] = _
  rw [seq_nx (e1 := [.val (.list (iv cs)), .val (.int (il cs)), .un]) (by simp [seqB, ifB, asgB, retB, exprB, op1, op2, look, nameL, nameV, datL, datF, valF, constD, boolT, consA, tupF, lstF, setS_zv, setS_zo, setS_zu, setS_succ, Slot.dat, Slot.mut, Slot.put, nilB, callF, notT, andT, orT, andE, orE, ifE, boolS, tgtB, tupG, consG, nilG, nameG, retNm, appB, augB, callX, ioA, consX, argI, argV, argN, argsS, argS, ioIx, putB, popF, setB, len_iv])]
  rw [seq_nx (e1 := [.val (.list (iv cs)), .val (.int M), s']) (forB_of (rng1_nat (c := il cs) (n := cs.length) (env1 := [.val (.list (iv cs)), .val (.int (il cs)), .un]) (by simp [seqB, ifB, asgB, retB, exprB, op1, op2, look, nameL, nameV, datL, datF, valF, constD, boolT, consA, tupF, lstF, setS_zv, setS_zo, setS_zu, setS_succ, Slot.dat, Slot.mut, Slot.put, nilB, callF, notT, andT, orT, andE, orE, ifE, boolS, tgtB, tupG, consG, nilG, nameG, retNm, appB, augB, callX, ioA, consX, argI, argV, argN, argsS, argS, ioIx, putB, popF, setB, len_iv]) rfl hl) h2)]
  generalize iv cs = I at *
  generalize iv (cs.take k) = J at *
  simp [seqB, ifB, asgB, retB, exprB, op1, op2, look, nameL, nameV, datL, datF, valF, constD, boolT, consA, tupF, lstF, setS_zv, setS_zo, setS_zu, setS_succ, Slot.dat, Slot.mut, Slot.put, nilB, callF, notT, andT, orT, andE, orE, ifE, boolS, tgtB, tupG, consG, nilG, nameG, retNm, appB, augB, callX, ioA, consX, argI, argV, argN, argsS, argS, ioIx, putB, popF, setB, slF, intO, hc]
end Lw

set_option Elab.async false
set_option linter.all false
set_option maxRecDepth 100000
set_option maxHeartbeats 4000000
namespace Lw
open PySem L2 Ip
/-! ### comprehensions that draw -/
theorem comp_draw {fe : MEnv → Option (PyData × MEnv)} {j : Nat} (E : Int → MEnv) (R : PyData → Prop) (hE : ∀ c, (E c)[j]? = some .un) (hs : ∀ c d, ∃ x c', R x ∧ fe ((E c).set j (.val d)) = some (x, (E c').set j (.val d))) :
    ∀ (ds acc : List PyData) (c : Int), ∃ xs c', xs.length = ds.length ∧ (∀ x ∈ xs, R x) ∧ compLoop (nameG j) yesT fe [j] ds acc (E c) = some (acc ++ xs, E c')
  | [], acc, c => ⟨[], c, rfl, (fun _ h => nomatch h), by simp [compLoop]⟩
  | d :: ds, acc, c => by
    obtain ⟨x, c1, h1, h2⟩ := hs c d
    obtain ⟨xs, c2, g1, g2, g3⟩ := comp_draw E R hE hs ds (acc ++ [x]) c1
    refine ⟨x :: xs, c2, by simp [g1], fun y hy => ?_, ?_⟩
    · rcases List.mem_cons.mp hy with rfl | h
      · exact h1
      · exact g2 y h
    · have hset : nameG j d (E c) = some ((E c).set j (.val d)) := by
        unfold nameG setS
        rw [hE c]
      have hl : j < (E c1).length := (List.getElem?_eq_some_iff.mp (hE c1)).1
      have hok : okW ((E c1).set j (.val d)) [j] = true := by
        unfold okW
        simp [List.getElem?_set, hl, Slot.mut]
      have hw : wipeE ((E c1).set j (.val d)) [j] = E c1 := by
        show ((E c1).set j (.val d)).set j .un = E c1
        rw [List.set_set]
        apply List.ext_getElem?
        intro i
        by_cases e : j = i
        · subst e
          rw [List.getElem?_set, if_pos rfl, if_pos hl, hE]
        · rw [List.getElem?_set_ne e]
      unfold compLoop
      rw [hset]
      simp only [yesT]
      rw [h2]
      simp only [hok, if_true, hw, g3]
      simp
theorem comp_drawF {fi : MEnv → Option (List PyData × MEnv)} {fe : MEnv → Option (PyData × MEnv)} {j : Nat} {env : MEnv} {ds : List PyData} {c : Int} (E : Int → MEnv) (R : PyData → Prop) (hi : fi env = some (ds, E c)) (hz : ds.length ≤ 100000) (hE : ∀ c, (E c)[j]? = some .un)
    (hs : ∀ c d, ∃ x c', R x ∧ fe ((E c).set j (.val d)) = some (x, (E c').set j (.val d))) : ∃ xs c', xs.length = ds.length ∧ (∀ x ∈ xs, R x) ∧ compF fi (nameG j) yesT fe [j] env = some (.own xs, E c') := by
  obtain ⟨xs, c', h1, h2, h3⟩ := comp_draw E R hE hs ds [] c
  have same : ∀ c0, (E c0).set j .un = E c0 := fun c0 => by
    have hl : j < (E c0).length := (List.getElem?_eq_some_iff.mp (hE c0)).1
    apply List.ext_getElem?
    intro i
    by_cases e : j = i
    · subst e
      rw [List.getElem?_set, if_pos rfl, if_pos hl, hE]
    · rw [List.getElem?_set_ne e]
  refine ⟨xs, c', h1, h2, comp_gen (ew := E c') (ewi := E c) hi (by simp [okW, hE, Slot.mut]) hz (same c) (by rw [h3]; rfl) ?_⟩
  show (E c').set j ((E c).getD j .un) = _
  rw [List.getD_eq_getElem?_getD, hE]
  exact same c'
theorem ints_of {P : Int → Prop} : ∀ {xs : List PyData}, (∀ x ∈ xs, ∃ v, x = .int v ∧ P v) → ∃ vs, xs = iv vs ∧ vs.length = xs.length ∧ ∀ v ∈ vs, P v
  | [], _ => ⟨[], rfl, rfl, (fun _ h => nomatch h)⟩
  | x :: xs, h => by
    obtain ⟨v, rfl, hv⟩ := h x List.mem_cons_self
    obtain ⟨vs, rfl, h1, h2⟩ := ints_of fun y hy => h y (List.mem_cons_of_mem _ hy)
    refine ⟨v :: vs, rfl, by simp [h1], fun w hw => ?_⟩
    rcases List.mem_cons.mp hw with rfl | hw
    · exact hv
    · exact h2 w hw
/-! ### the pool -/
theorem d60 : divOk 60 = true := divOk_pow (m := 10) (by decide) (by decide) (by decide)
theorem d11 : divOk 11 = true := divOk_pow (m := 10) (by decide) (by decide) (by decide)
theorem d97 : divOk 97 = true := divOk_pow (m := 10) (by decide) (by decide) (by decide)
def piB : MEnv → Option Out := (seqB (appB 1 (datF (op2 (datL (datF (op1 (nameL 4) intD))) (datL (constD (.int 60))) modD))) (seqB (asgB 4 (op2 (nameL 4) (datL (constD (.int 60))) fdivD)) (nilB)))
theorem pi_loop {a0 a2 a3 a6 a7 : Slot} : ∀ (n : Nat) (lo cell : Int) (ps : List Int) (s : Slot), nio s = true → ps.length + n ≤ 50000 → ∃ (ps' : List Int) (cell' : Int) (s' : Slot), ps'.length = ps.length + n ∧ nio s' = true ∧
    forLoop (nameG 5) piB (Ip.intsFrom lo n) [a0, .own (iv ps), a2, a3, .val (.int cell), s, a6, a7] = some (.nx [a0, .own (iv ps'), a2, a3, .val (.int cell'), s', a6, a7])
  | 0, lo, cell, ps, s, hs, hl => ⟨ps, cell, s, rfl, hs, rfl⟩
  | n + 1, lo, cell, ps, s, hs, hl => by
    obtain ⟨ps', cell', s', h1, h2, h3⟩ := pi_loop n (lo + 1) (cell.fdiv 60) (ps ++ [cell.fmod 60]) (.val (.int lo)) rfl (by simp; omega)
    refine ⟨ps', cell', s', by simp at h1; omega, h2, ?_⟩
    rw [ints_succ, for_nx (e1 := [a0, .own (iv ps), a2, a3, .val (.int cell), .val (.int lo), a6, a7]) (e2 := [a0, .own (iv (ps ++ [cell.fmod 60])), a2, a3, .val (.int (cell.fdiv 60)), .val (.int lo), a6, a7]) (by simp [nameG, setS_zero hs, setS_succ]) (by
      have hz : (iv ps).length < 100000 := by rw [iv_len]; omega
      rw [← iv_snoc]
      generalize iv ps = I at *
      simp [piB, seqB, ifB, asgB, retB, exprB, op1, op2, look, nameL, nameV, datL, datF, valF, constD, boolT, consA, tupF, lstF, setS_zv, setS_zo, setS_zu, setS_succ, Slot.dat, Slot.mut, Slot.put, nilB, callF, notT, andT, orT, andE, orE, ifE, boolS, tgtB, tupG, consG, nilG, nameG, retNm, appB, augB, callX, ioA, consX, argI, argV, argN, argsS, argS, ioIx, putB, popF, setB, int_i, mod_ii (a := cell) (b := 60) (by decide), fdiv_ii d60, hz])]
    exact h3
def poB : MEnv → Option Out := (seqB (asgB 4 (op2 (nameL 0) (nameL 3) ixD)) (seqB (asgB 2 (op2 (datL (datF (op1 (datL (datF (op2 (datL (datF (op2 (datL (datF (op2 (nameL 2) (datL (constD (.int 69621))) mulD))) (datL (datF (op2 (nameL 4) (datL (constD (.int 48271))) mulD))) addD))) (nameL 3) addD))) intD))) (datL (constD (.int 2147483647))) modD)) (seqB (ifB (boolT (op2 (nameL 4) (datL (datF (op2 (datL (constD (.int 10))) (datL (constD (.int 18))) powD))) geD)) (seqB (forB (rng1I (consA (constD (.int 60)) ((fun env => some ([], env))))) (nameG 5) piB) (nilB)) (seqB (asgB 6 (op2 (datL (datF (op1 (datL (datF (op2 (datL (datF (op2 (datL (datF (op2 (nameL 4) (datL (constD (.int 48271))) mulD))) (datL (datF (op2 (nameL 3) (datL (constD (.int 69621))) mulD))) addD))) (datL (constD (.int 7))) addD))) intD))) (datL (constD (.int 2147483647))) modD)) (seqB (asgB 7 (op2 (datL (datF (op1 (datL (datF (op2 (datL (datF (op2 (datL (datF (op2 (nameL 6) (datL (constD (.int 16807))) mulD))) (datL (datF (op2 (nameL 4) (datL (constD (.int 31))) mulD))) addD))) (nameL 3) addD))) intD))) (datL (constD (.int 1000003))) modD)) (seqB (asgB 1 (op2 (nameL 1) (datL (datF (lstF (consA (datF (op2 (datL (datF (op1 (datL (datF (op2 (nameL 6) (datL (constD (.int 11))) fdivD))) intD))) (datL (constD (.int 60))) modD)) (consA (datF (op2 (datL (datF (op1 (nameL 7) intD))) (datL (constD (.int 60))) modD)) ((fun env => some ([], env)))))))) addD)) (nilB))))) (nilB))))
theorem mulL {a b : Int} (h : b.natAbs < 2 ^ 64) : mulD (.int a) (.int b) = some (.val (.int (a * b))) := mul_ii (mulOk_r h)
theorem po_turn {ns ps : List Int} {cell st : Int} {i : Nat} {k s4 s5 s6 s7 : Slot} (hx : ns[i]? = some cell) (h4 : nio s4 = true) (h5 : nio s5 = true) (h6 : nio s6 = true) (h7 : nio s7 = true) (hl : ps.length + 60 ≤ 50000) :
    ∃ (ps' : List Int) (st' : Int) (t4 t5 t6 t7 : Slot), ps'.length ≤ ps.length + 60 ∧ nio t4 = true ∧ nio t5 = true ∧ nio t6 = true ∧ nio t7 = true ∧ poB [.val (.list (iv ns)), .own (iv ps), .val (.int st), .val (.int (i : Int)), s4, s5, s6, s7] = some (.nx [.val (.list (iv ns)), .own (iv ps'), .val (.int st'), .val (.int (i : Int)), t4, t5, t6, t7]) := by
  obtain ⟨I, hI⟩ : ∃ I : Int, I = (i : Int) := ⟨_, rfl⟩
  rw [← hI]
  have hx := ix_iv0 (ns := ns) (i := I) i hI hx
  let st' := (st * 69621 + cell * 48271 + I).fmod 2147483647
  have hm : ∀ (a b : Int), b ≠ 0 → modD (.int a) (.int b) = some (.val (.int (a.fmod b))) := fun a b h => mod_ii h
  have s1 : asgB 4 (op2 (nameL 0) (nameL 3) ixD) [.val (.list (iv ns)), .own (iv ps), .val (.int st), .val (.int I), s4, s5, s6, s7] = some (.nx [.val (.list (iv ns)), .own (iv ps), .val (.int st), .val (.int I), .val (.int cell), s5, s6, s7]) := by
    simp [seqB, ifB, asgB, retB, exprB, op1, op2, look, nameL, nameV, datL, datF, valF, constD, boolT, consA, tupF, lstF, setS_zv, setS_zo, setS_zu, setS_succ, Slot.dat, Slot.mut, Slot.put, nilB, callF, notT, andT, orT, andE, orE, ifE, boolS, tgtB, tupG, consG, nilG, nameG, retNm, appB, augB, callX, ioA, consX, argI, argV, argN, argsS, argS, ioIx, putB, popF, setB, hx, setS_zero h4]
  have s2 : asgB 2 (op2 (datL (datF (op1 (datL (datF (op2 (datL (datF (op2 (datL (datF (op2 (nameL 2) (datL (constD (.int 69621))) mulD))) (datL (datF (op2 (nameL 4) (datL (constD (.int 48271))) mulD))) addD))) (nameL 3) addD))) intD))) (datL (constD (.int 2147483647))) modD) [.val (.list (iv ns)), .own (iv ps), .val (.int st), .val (.int I), .val (.int cell), s5, s6, s7] = some (.nx [.val (.list (iv ns)), .own (iv ps), .val (.int st'), .val (.int I), .val (.int cell), s5, s6, s7]) := by
    simp [seqB, ifB, asgB, retB, exprB, op1, op2, look, nameL, nameV, datL, datF, valF, constD, boolT, consA, tupF, lstF, setS_zv, setS_zo, setS_zu, setS_succ, Slot.dat, Slot.mut, Slot.put, nilB, callF, notT, andT, orT, andE, orE, ifE, boolS, tgtB, tupG, consG, nilG, nameG, retNm, appB, augB, callX, ioA, consX, argI, argV, argN, argsS, argS, ioIx, putB, popF, setB, mulL (a := st) (b := 69621) (by decide), mulL (a := cell) (b := 48271) (by decide), add_ii, int_i, hm _ 2147483647 (by decide)]
    rfl
  generalize st' = S at *
  have hp : powD (.int 10) (.int 18) = some (.val (.int 1000000000000000000)) := by
    unfold powD
    simp only
    rw [if_pos ⟨by decide, by decide, by decide⟩]
    rfl
  by_cases hc : (1000000000000000000 : Int) ≤ cell
  · obtain ⟨ps', cell', s', g1, g2, g3⟩ := pi_loop (a0 := .val (.list (iv ns))) (a2 := .val (.int S)) (a3 := .val (.int I)) (a6 := s6) (a7 := s7) 60 0 cell ps s5 h5 (by omega)
    refine ⟨ps', S, .val (.int cell'), s', s6, s7, by omega, rfl, g2, h6, h7, ?_⟩
    unfold poB
    rw [seq_nx s1, seq_nx s2]
    have g4 : forB (rng1I (consA (constD (.int 60)) ((fun env => some ([], env))))) (nameG 5) piB [.val (.list (iv ns)), .own (iv ps), .val (.int S), .val (.int I), .val (.int cell), s5, s6, s7] = some (.nx [.val (.list (iv ns)), .own (iv ps'), .val (.int S), .val (.int I), .val (.int cell'), s', s6, s7]) :=
      forB_of (rng1_nat (c := 60) (n := 60) (env1 := [.val (.list (iv ns)), .own (iv ps), .val (.int S), .val (.int I), .val (.int cell), s5, s6, s7]) (by simp [seqB, ifB, asgB, retB, exprB, op1, op2, look, nameL, nameV, datL, datF, valF, constD, boolT, consA, tupF, lstF, setS_zv, setS_zo, setS_zu, setS_succ, Slot.dat, Slot.mut, Slot.put, nilB, callF, notT, andT, orT, andE, orE, ifE, boolS, tgtB, tupG, consG, nilG, nameG, retNm, appB, augB, callX, ioA, consX, argI, argV, argN, argsS, argS, ioIx, putB, popF, setB]) rfl (by decide)) g3
    simp [seqB, ifB, asgB, retB, exprB, op1, op2, look, nameL, nameV, datL, datF, valF, constD, boolT, consA, tupF, lstF, setS_zv, setS_zo, setS_zu, setS_succ, Slot.dat, Slot.mut, Slot.put, nilB, callF, notT, andT, orT, andE, orE, ifE, boolS, tgtB, tupG, consG, nilG, nameG, retNm, appB, augB, callX, ioA, consX, argI, argV, argN, argsS, argS, ioIx, putB, popF, setB, hp, ge_ii, hc, g4]
  · have hz : (iv ps).length + 2 ≤ 100000 := by rw [iv_len]; omega
    have ha : ∀ x y : Int, addD (.list (iv ps)) (.list [.int x, .int y]) = some (.own (iv (ps ++ [x, y]))) := fun x y => by
      unfold addD
      simp only [List.length_cons, List.length_nil]
      rw [if_pos hz, ← iv_app]
      rfl
    let one := (cell * 48271 + I * 69621 + 7).fmod 2147483647
    let two := (one * 16807 + cell * 31 + I).fmod 1000003
    refine ⟨ps ++ [(one.fdiv 11).fmod 60, two.fmod 60], S, .val (.int cell), s5, .val (.int one), .val (.int two), by simp, rfl, h5, rfl, rfl, ?_⟩
    unfold poB
    rw [seq_nx s1, seq_nx s2]
    have o1 : (cell * 48271 + I * 69621 + 7).fmod 2147483647 = one := rfl
    have o2 : (one * 16807 + cell * 31 + I).fmod 1000003 = two := rfl
    generalize iv ps = J at *
    generalize iv ns = K at *
    generalize one = u at *
    generalize two = v at *
    have n7 : ∀ (l : MEnv) (x : Slot), setS 0 x (s7 :: l) = some (x :: l) := fun l x => setS_zero h7
    have n6 : ∀ (l : MEnv) (x : Slot), setS 0 x (s6 :: l) = some (x :: l) := fun l x => setS_zero h6
    simp [seqB, ifB, asgB, retB, exprB, op1, op2, look, nameL, nameV, datL, datF, valF, constD, boolT, consA, tupF, lstF, setS_zv, setS_zo, setS_zu, setS_succ, Slot.dat, Slot.mut, Slot.put, nilB, callF, notT, andT, orT, andE, orE, ifE, boolS, tgtB, tupG, consG, nilG, nameG, retNm, appB, augB, callX, ioA, consX, argI, argV, argN, argsS, argS, ioIx, putB, popF, setB, hp, ge_ii, hc, mulL (a := cell) (b := 48271) (by decide), mulL (a := I) (b := 69621) (by decide), mulL (a := u) (b := 16807) (by decide), mulL (a := cell) (b := 31) (by decide), add_ii, int_i, hm _ 2147483647 (by decide), hm _ 1000003 (by decide), hm _ 60 (by decide), fdiv_ii d11, o1, o2, n6, n7, ha]
end Lw

set_option Elab.async false
set_option linter.all false
set_option maxRecDepth 100000
set_option maxHeartbeats 4000000
namespace Lw
open PySem L2 Ip
theorem po_loop {ns : List Int} : ∀ (n i : Nat) (lo st : Int) (ps : List Int) (s3 s4 s5 s6 s7 : Slot), lo = (i : Int) → i + n ≤ ns.length → ps.length + 60 * n ≤ 50000 → nio s3 = true → nio s4 = true → nio s5 = true → nio s6 = true → nio s7 = true →
    ∃ (ps' : List Int) (st' : Int) (t3 t4 t5 t6 t7 : Slot), ps'.length ≤ ps.length + 60 * n ∧ nio t5 = true ∧ forLoop (nameG 3) poB (Ip.intsFrom lo n) [.val (.list (iv ns)), .own (iv ps), .val (.int st), s3, s4, s5, s6, s7] = some (.nx [.val (.list (iv ns)), .own (iv ps'), .val (.int st'), t3, t4, t5, t6, t7])
  | 0, i, lo, st, ps, s3, s4, s5, s6, s7, hlo, hi, hl, h3, h4, h5, h6, h7 => ⟨ps, st, s3, s4, s5, s6, s7, by omega, h5, rfl⟩
  | n + 1, i, lo, st, ps, s3, s4, s5, s6, s7, hlo, hi, hl, h3, h4, h5, h6, h7 => by
    have hk : i < ns.length := by omega
    obtain ⟨ps1, st1, t4, t5, t6, t7, g1, g4, g5, g6, g7, g⟩ := po_turn (ns := ns) (ps := ps) (st := st) (i := i) (k := .un) (List.getElem?_eq_getElem hk) h4 h5 h6 h7 (by omega)
    obtain ⟨ps', st', u3, u4, u5, u6, u7, f1, f5, f⟩ := po_loop (ns := ns) n (i + 1) (lo + 1) st1 ps1 (.val (.int lo)) t4 t5 t6 t7 (by omega) (by omega) (by omega) rfl g4 g5 g6 g7
    refine ⟨ps', st', u3, u4, u5, u6, u7, by omega, f5, ?_⟩
    rw [← hlo] at g
    rw [ints_succ, for_nx (e1 := [.val (.list (iv ns)), .own (iv ps), .val (.int st), .val (.int lo), s4, s5, s6, s7]) (by simp [nameG, setS_zero h3, setS_succ]) g]
    exact f
def psB : MEnv → Option Out := (seqB (asgB 2 (op2 (datL (datF (op1 (datL (datF (op2 (datL (datF (op2 (nameL 2) (datL (constD (.int 48271))) mulD))) (datL (constD (.int 11))) addD))) intD))) (datL (constD (.int 2147483647))) modD)) (seqB (appB 1 (datF (op2 (datL (datF (op1 (datL (datF (op2 (nameL 2) (datL (constD (.int 97))) fdivD))) intD))) (datL (constD (.int 60))) modD))) (nilB)))
theorem ps_loop {a0 a3 a4 a6 a7 : Slot} : ∀ (n : Nat) (lo st : Int) (ps : List Int) (s : Slot), nio s = true → ps.length + n ≤ 50000 → ∃ (ps' : List Int) (st' : Int) (s' : Slot), ps'.length = ps.length + n ∧
    forLoop (nameG 5) psB (Ip.intsFrom lo n) [a0, .own (iv ps), .val (.int st), a3, a4, s, a6, a7] = some (.nx [a0, .own (iv ps'), .val (.int st'), a3, a4, s', a6, a7])
  | 0, lo, st, ps, s, hs, hl => ⟨ps, st, s, rfl, rfl⟩
  | n + 1, lo, st, ps, s, hs, hl => by
    let st1 := (st * 48271 + 11).fmod 2147483647
    obtain ⟨ps', st', s', h1, h3⟩ := ps_loop n (lo + 1) st1 (ps ++ [(st1.fdiv 97).fmod 60]) (.val (.int lo)) rfl (by simp; omega)
    refine ⟨ps', st', s', by simp at h1; omega, ?_⟩
    rw [ints_succ, for_nx (e1 := [a0, .own (iv ps), .val (.int st), a3, a4, .val (.int lo), a6, a7]) (e2 := [a0, .own (iv (ps ++ [(st1.fdiv 97).fmod 60])), .val (.int st1), a3, a4, .val (.int lo), a6, a7]) (by simp [nameG, setS_zero hs, setS_succ]) (by
      have hz : (iv ps).length < 100000 := by rw [iv_len]; omega
      have o1 : (st * 48271 + 11).fmod 2147483647 = st1 := rfl
      rw [← iv_snoc]
      generalize iv ps = I at *
      generalize st1 = S at *
      simp [psB, seqB, ifB, asgB, retB, exprB, op1, op2, look, nameL, nameV, datL, datF, valF, constD, boolT, consA, tupF, lstF, setS_zv, setS_zo, setS_zu, setS_succ, Slot.dat, Slot.mut, Slot.put, nilB, callF, notT, andT, orT, andE, orE, ifE, boolS, tgtB, tupG, consG, nilG, nameG, retNm, appB, augB, callX, ioA, consX, argI, argV, argN, argsS, argS, ioIx, putB, popF, setB, int_i, mulL (a := st) (b := 48271) (by decide), add_ii, mod_ii (a := st * 48271 + 11) (b := 2147483647) (by decide), o1, fdiv_ii d97, mod_ii (a := S.fdiv 97) (b := 60) (by decide), hz])]
    exact h3
theorem pool_eval {ns : List Int} (hn : ns.length ≤ 63) : ∃ ps : List Int, Ps ps ∧ ps.length ≤ 4100 ∧ ∃ o, r_f_law_pool [.val (.list (iv ns))] = some (.own (iv ps), o) := by
  obtain ⟨ps1, st1, t3, t4, t5, t6, t7, h1, h5, h2⟩ := po_loop (ns := ns) ns.length 0 0 17 [] .un .un .un .un .un rfl (by omega) (by simp; omega) rfl rfl rfl rfl rfl
  obtain ⟨ps2, st2, s', g1, g2⟩ := ps_loop (a0 := .val (.list (iv ns))) (a3 := t3) (a4 := t4) (a6 := t6) (a7 := t7) 300 0 st1 ps1 t5 h5 (by simp at h1; omega)
  simp at h1
  refine ⟨ps2, ⟨by omega, by omega⟩, by omega, run_rt (e := [.val (.list (iv ns)), .own (iv ps2), .val (.int st2), t3, t4, s', t6, t7]) ?_ (by simp)⟩
  show seqB _ (seqB _ (seqB (forB _ _ poB) (seqB (forB _ _ psB) _))) [.val (.list (iv ns)), .un, .un, .un, .un, .un, .un, .un] = _
  have hm : min2D (.int (il ns)) (.int 63) = some (.val (.int (il ns))) := by
    show some (Slot.val (.int (if (63 : Int) < il ns then 63 else il ns))) = _
    rw [if_neg (by unfold il; omega)]
  rw [seq_nx (e1 := [.val (.list (iv ns)), .own (iv []), .un, .un, .un, .un, .un, .un]) (by simp [seqB, ifB, asgB, retB, exprB, op1, op2, look, nameL, nameV, datL, datF, valF, constD, boolT, consA, tupF, lstF, setS_zv, setS_zo, setS_zu, setS_succ, Slot.dat, Slot.mut, Slot.put, nilB, callF, notT, andT, orT, andE, orE, ifE, boolS, tgtB, tupG, consG, nilG, nameG, retNm, appB, augB, callX, ioA, consX, argI, argV, argN, argsS, argS, ioIx, putB, popF, setB]; rfl)]
  rw [seq_nx (e1 := [.val (.list (iv ns)), .own (iv []), .val (.int 17), .un, .un, .un, .un, .un]) (by simp [seqB, ifB, asgB, retB, exprB, op1, op2, look, nameL, nameV, datL, datF, valF, constD, boolT, consA, tupF, lstF, setS_zv, setS_zo, setS_zu, setS_succ, Slot.dat, Slot.mut, Slot.put, nilB, callF, notT, andT, orT, andE, orE, ifE, boolS, tgtB, tupG, consG, nilG, nameG, retNm, appB, augB, callX, ioA, consX, argI, argV, argN, argsS, argS, ioIx, putB, popF, setB])]
  rw [seq_nx (e1 := [.val (.list (iv ns)), .own (iv ps1), .val (.int st1), t3, t4, t5, t6, t7]) (forB_of (rng1_nat (c := il ns) (n := ns.length) (env1 := [.val (.list (iv ns)), .own (iv []), .val (.int 17), .un, .un, .un, .un, .un]) (by simp [seqB, ifB, asgB, retB, exprB, op1, op2, look, nameL, nameV, datL, datF, valF, constD, boolT, consA, tupF, lstF, setS_zv, setS_zo, setS_zu, setS_succ, Slot.dat, Slot.mut, Slot.put, nilB, callF, notT, andT, orT, andE, orE, ifE, boolS, tgtB, tupG, consG, nilG, nameG, retNm, appB, augB, callX, ioA, consX, argI, argV, argN, argsS, argS, ioIx, putB, popF, setB, len_iv, hm]) rfl (by omega)) h2)]
  rw [seq_nx (e1 := [.val (.list (iv ns)), .own (iv ps2), .val (.int st2), t3, t4, s', t6, t7]) (forB_of (rng1_nat (c := 300) (n := 300) (env1 := [.val (.list (iv ns)), .own (iv ps1), .val (.int st1), t3, t4, t5, t6, t7]) (by simp [seqB, ifB, asgB, retB, exprB, op1, op2, look, nameL, nameV, datL, datF, valF, constD, boolT, consA, tupF, lstF, setS_zv, setS_zo, setS_zu, setS_succ, Slot.dat, Slot.mut, Slot.put, nilB, callF, notT, andT, orT, andE, orE, ifE, boolS, tgtB, tupG, consG, nilG, nameG, retNm, appB, augB, callX, ioA, consX, argI, argV, argN, argsS, argS, ioIx, putB, popF, setB]) rfl (by decide)) g2)]
  simp [seqB, ifB, asgB, retB, exprB, op1, op2, look, nameL, nameV, datL, datF, valF, constD, boolT, consA, tupF, lstF, setS_zv, setS_zo, setS_zu, setS_succ, Slot.dat, Slot.mut, Slot.put, nilB, callF, notT, andT, orT, andE, orE, ifE, boolS, tgtB, tupG, consG, nilG, nameG, retNm, appB, augB, callX, ioA, consX, argI, argV, argN, argsS, argS, ioIx, putB, popF, setB]
theorem stream_eval {ns : List Int} (hn : ns.length ≤ 63) : ∃ ps : List Int, Ps ps ∧ ∃ o, r_f_law_stream [.val (.list (iv ns))] = some (.own (pl 0 ps), o) := by
  obtain ⟨ps, h1, h2, o1, h3⟩ := pool_eval hn
  refine ⟨ps, h1, run_rt (e := [.val (.list (iv ns))]) ?_ (by simp)⟩
  have ha : addD (.list [.int 0]) (.list (iv ps)) = some (.own (pl 0 ps)) := by
    unfold addD
    simp only [List.length_cons, List.length_nil]
    rw [if_pos (by rw [iv_len]; omega)]
    rfl
  generalize iv ps = I at *
  generalize iv ns = J at *
  simp [b_f_law_stream, seqB, ifB, asgB, retB, exprB, op1, op2, look, nameL, nameV, datL, datF, valF, constD, boolT, consA, tupF, lstF, setS_zv, setS_zo, setS_zu, setS_succ, Slot.dat, Slot.mut, Slot.put, nilB, callF, notT, andT, orT, andE, orE, ifE, boolS, tgtB, tupG, consG, nilG, nameG, retNm, appB, augB, callX, ioA, consX, argI, argV, argN, argsS, argS, ioIx, putB, popF, setB, h3, ha]
/-! ### polynomials -/
theorem small_list {x : Int} {i : Int} (h : (0 ≤ i ∧ i < 10)) : ∃ v : Int, v.natAbs < 2 ^ 5 ∧ ixD (.list [.int 0, .int 1, .int (-1), .int 2, .int 1, .int (-2), .int 3, .int 0, .int (-1), .int (-3)]) (.int i) = some (.val (.int v)) := by
  have : i = 0 ∨ i = 1 ∨ i = 2 ∨ i = 3 ∨ i = 4 ∨ i = 5 ∨ i = 6 ∨ i = 7 ∨ i = 8 ∨ i = 9 := by omega
  rcases this with rfl | rfl | rfl | rfl | rfl | rfl | rfl | rfl | rfl | rfl <;> exact ⟨_, by decide, rfl⟩
theorem Bl.take {a : Nat} {cs : List Int} (h : Bl a cs) (k : Nat) : Bl a (cs.take k) := fun c hc => h c (List.mem_of_mem_take hc)
theorem poly_eval {ps : List Int} (hp : Ps ps) (c : Int) {m : Nat} {M : Int} (hM : M = (m : Int)) (hm : m ≤ 10) : ∃ (cs : List Int) (c' : Int), Bl 5 cs ∧ cs.length ≤ m + 1 ∧ r_f_law_poly [.io (pl c ps), .val (.int M)] = some (.own (iv cs), [.io (pl c' ps), .val (.int M)]) := by
  have p1 := pick_eval hp c (m := M + 1) (by omega)
  obtain ⟨v1, v2⟩ := pV_bd ps c (m := M + 1) (by omega)
  have p2 := pick_eval hp (pC ps c) (m := 20) (by decide)
  generalize hS : pV ps c (M + 1) = S at *
  obtain ⟨N, hN⟩ : ∃ N : Nat, 1 + S = (N : Int) := ⟨(1 + S).toNat, by omega⟩
  generalize hc1 : pC ps c = c1 at *
  have hadd : addD (.int 1) (.int S) = some (.val (.int (1 + S))) := rfl
  rw [hN] at hadd
  obtain ⟨NN, hNN⟩ : ∃ NN : Int, NN = (N : Int) := ⟨_, rfl⟩
  rw [← hNN] at hadd
  have s1 : asgB 2 (op2 (datL (constD (.int 1))) (datL (datF (callX 2 r_f_law_pick (ioA 0 (consX (argV (datF (op2 (nameL 1) (datL (constD (.int 1))) addD))) ((fun env => some ([], env)))))))) addD) [.io (pl c ps), .val (.int M), .un, .un] = some (.nx [.io (pl c1 ps), .val (.int M), .val (.int NN), .un]) := by
    generalize pl c ps = L at *
    generalize pl c1 ps = L1 at *
    simp [seqB, ifB, asgB, retB, exprB, op1, op2, look, nameL, nameV, datL, datF, valF, constD, boolT, consA, tupF, lstF, setS_zv, setS_zo, setS_zu, setS_succ, Slot.dat, Slot.mut, Slot.put, nilB, callF, notT, andT, orT, andE, orE, ifE, boolS, tgtB, tupG, consG, nilG, nameG, retNm, appB, augB, callX, ioA, consX, argI, argV, argN, argsS, argS, ioIx, putB, popF, setB, add_ii, p1, hadd]
  have t1 : boolT (op2 (datL (datF (callX 2 r_f_law_pick (ioA 0 (consX (argV (constD (.int 20))) ((fun env => some ([], env)))))))) (datL (constD (.int 0))) eqD) [.io (pl c1 ps), .val (.int M), .val (.int NN), .un] = some (decide (pV ps c1 20 = 0), [.io (pl (pC ps c1) ps), .val (.int M), .val (.int NN), .un]) := by
    generalize pl c1 ps = L at *
    generalize pl (pC ps c1) ps = L1 at *
    simp [seqB, ifB, asgB, retB, exprB, op1, op2, look, nameL, nameV, datL, datF, valF, constD, boolT, consA, tupF, lstF, setS_zv, setS_zo, setS_zu, setS_succ, Slot.dat, Slot.mut, Slot.put, nilB, callF, notT, andT, orT, andE, orE, ifE, boolS, tgtB, tupG, consG, nilG, nameG, retNm, appB, augB, callX, ioA, consX, argI, argV, argN, argsS, argS, ioIx, putB, popF, setB, p2, eq_ii]
  let E : Int → MEnv := fun c => [.io (pl c ps), .val (.int M), .val (.int NN), .un]
  have hi : rng1I (consA (nameV 2) ((fun env => some ([], env)))) (E (pC ps c1)) = some (Ip.intsFrom 0 N, E (pC ps c1)) := rng1_nat (c := NN) (by simp [E, seqB, ifB, asgB, retB, exprB, op1, op2, look, nameL, nameV, datL, datF, valF, constD, boolT, consA, tupF, lstF, setS_zv, setS_zo, setS_zu, setS_succ, Slot.dat, Slot.mut, Slot.put, nilB, callF, notT, andT, orT, andE, orE, ifE, boolS, tgtB, tupG, consG, nilG, nameG, retNm, appB, augB, callX, ioA, consX, argI, argV, argN, argsS, argS, ioIx, putB, popF, setB]) hNN (by omega)
  have hz : (Ip.intsFrom 0 N).length ≤ 100000 := by rw [intsFrom_len]; omega
  obtain ⟨xs, c3, x1, x2, x3⟩ := comp_drawF (fe := datF (op2 (datL (datF (callX 2 r_f_law_pick (ioA 0 (consX (argV (constD (.int 39))) ((fun env => some ([], env)))))))) (datL (constD (.int 19))) subD)) (j := 3) E (fun x => ∃ v : Int, x = .int v ∧ v.natAbs < 2 ^ 5) hi hz (fun _ => rfl) (fun c d => by
    have p := pick_eval hp c (m := 39) (by decide)
    obtain ⟨w1, w2⟩ := pV_bd ps c (m := 39) (by decide)
    refine ⟨.int (pV ps c 39 - 19), pC ps c, ⟨_, rfl, by omega⟩, ?_⟩
    show datF _ [.io (pl c ps), .val (.int M), .val (.int NN), .val d] = some (_, [.io (pl (pC ps c) ps), .val (.int M), .val (.int NN), .val d])
    generalize pl c ps = L at *
    generalize pl (pC ps c) ps = L1 at *
    simp [seqB, ifB, asgB, retB, exprB, op1, op2, look, nameL, nameV, datL, datF, valF, constD, boolT, consA, tupF, lstF, setS_zv, setS_zo, setS_zu, setS_succ, Slot.dat, Slot.mut, Slot.put, nilB, callF, notT, andT, orT, andE, orE, ifE, boolS, tgtB, tupG, consG, nilG, nameG, retNm, appB, augB, callX, ioA, consX, argI, argV, argN, argsS, argS, ioIx, putB, popF, setB, p, sub_ii])
  obtain ⟨ys, c4, y1, y2, y3⟩ := comp_drawF (fe := datF (op2 (datL (datF (lstF (consA (constD (.int 0)) (consA (constD (.int 1)) (consA (datF (op1 (datL (constD (.int 1))) negD)) (consA (constD (.int 2)) (consA (constD (.int 1)) (consA (datF (op1 (datL (constD (.int 2))) negD)) (consA (constD (.int 3)) (consA (constD (.int 0)) (consA (datF (op1 (datL (constD (.int 1))) negD)) (consA (datF (op1 (datL (constD (.int 3))) negD)) ((fun env => some ([], env)))))))))))))))) (datL (datF (callX 2 r_f_law_pick (ioA 0 (consX (argV (constD (.int 10))) ((fun env => some ([], env)))))))) ixD)) (j := 3) E (fun x => ∃ v : Int, x = .int v ∧ v.natAbs < 2 ^ 5) hi hz (fun _ => rfl) (fun c d => by
    have p := pick_eval hp c (m := 10) (by decide)
    have w := pV_bd ps c (m := 10) (by decide)
    obtain ⟨v, v1, v2⟩ := small_list (x := 0) w
    refine ⟨.int v, pC ps c, ⟨_, rfl, v1⟩, ?_⟩
    show datF _ [.io (pl c ps), .val (.int M), .val (.int NN), .val d] = some (_, [.io (pl (pC ps c) ps), .val (.int M), .val (.int NN), .val d])
    generalize pl c ps = L at *
    generalize pl (pC ps c) ps = L1 at *
    generalize pV ps c 10 = w at *
    simp [seqB, ifB, asgB, retB, exprB, op1, op2, look, nameL, nameV, datL, datF, valF, constD, boolT, consA, tupF, lstF, setS_zv, setS_zo, setS_zu, setS_succ, Slot.dat, Slot.mut, Slot.put, nilB, callF, notT, andT, orT, andE, orE, ifE, boolS, tgtB, tupG, consG, nilG, nameG, retNm, appB, augB, callX, ioA, consX, argI, argV, argN, argsS, argS, ioIx, putB, popF, setB, p, neg_i, v2])
  obtain ⟨vs, rfl, vl, vb⟩ := ints_of x2
  obtain ⟨us, rfl, ul, ub⟩ := ints_of y2
  rw [intsFrom_len] at x1 y1
  rw [iv_len] at x1 y1
  obtain ⟨k, k1, o1, k2⟩ := trim_eval vs (by omega)
  obtain ⟨l, l1, o2, l2⟩ := trim_eval us (by omega)
  have fin : ∀ (cs : List Int) (cc : Int), b_f_law_poly [.io (pl c ps), .val (.int M), .un, .un] = some (.rt (.own (iv cs)) (E cc)) → r_f_law_poly [.io (pl c ps), .val (.int M)] = some (.own (iv cs), [.io (pl cc ps), .val (.int M)]) := fun cs cc h => by
    exact run_io (N := 4) (n := 2) (fB := b_f_law_poly) (args := [.io (pl c ps), .val (.int M)]) h (by simp [E])
  by_cases h0 : pV ps c1 20 = 0
  · refine ⟨vs.take k, c3, Bl.take vb k, by rw [List.length_take]; omega, fin _ _ ?_⟩
    unfold b_f_law_poly
    rw [seq_nx s1]
    rw [h0] at t1
    exact seq_rt ((if_t t1).trans (seq_rt (ret_of (call1_of (dat_of x3 rfl) k2))))
  · refine ⟨us.take l, c4, Bl.take ub l, by rw [List.length_take]; omega, fin _ _ ?_⟩
    unfold b_f_law_poly
    rw [seq_nx s1]
    rw [decide_eq_false h0] at t1
    exact (seq_nx ((if_f t1).trans rfl)).trans (seq_rt (ret_of (call1_of (dat_of y3 rfl) l2)))
end Lw

set_option Elab.async false
set_option linter.all false
set_option maxRecDepth 100000
set_option maxHeartbeats 4000000
namespace Lw
open PySem L2 Ip
theorem dens {i : Int} (h : 0 ≤ i ∧ i < 6) : ∃ v : Int, v ≠ 0 ∧ v.natAbs < 2 ^ 5 ∧ ixD (.list [.int 1, .int 1, .int 2, .int 3, .int 1, .int 7]) (.int i) = some (.val (.int v)) := by
  have : i = 0 ∨ i = 1 ∨ i = 2 ∨ i = 3 ∨ i = 4 ∨ i = 5 := by omega
  rcases this with rfl | rfl | rfl | rfl | rfl | rfl <;> exact ⟨_, by decide, by decide, rfl⟩
theorem law_number_eval {ps : List Int} (hp : Ps ps) (c : Int) : ∃ (q : Rat) (c' : Int), Bq 5 q ∧ r_f_law_number [.io (pl c ps)] = some (.val (nm q), [.io (pl c' ps)]) := by
  have p1 := pick_eval hp c (m := 41) (by decide)
  have b1 := pV_bd ps c (m := 41) (by decide)
  have p2 := pick_eval hp (pC ps c) (m := 6) (by decide)
  have b2 := pV_bd ps (pC ps c) (m := 6) (by decide)
  obtain ⟨v, hv0, hv1, hv2⟩ := dens b2
  generalize hc1 : pC ps c = c1 at *
  generalize pV ps c 41 = w at *
  generalize pV ps c1 6 = u at *
  obtain ⟨o, ho⟩ := lowest_eval (n := w - 20) (d := v) (m := 5) (k := 5) hv0 (by omega) hv1 (by decide)
  refine ⟨Rat.divInt (w - 20) v, pC ps c1, Bq.frac hv0 (by omega) hv1, ?_⟩
  refine run_io (N := 1) (n := 1) (e := [.io (pl (pC ps c1) ps)]) ?_ (by simp)
  generalize nm (Rat.divInt (w - 20) v) = Q at *
  generalize pl c ps = L at *
  generalize pl c1 ps = L1 at *
  generalize pl (pC ps c1) ps = L2 at *
  simp [b_f_law_number, seqB, ifB, asgB, retB, exprB, op1, op2, look, nameL, nameV, datL, datF, valF, constD, boolT, consA, tupF, lstF, setS_zv, setS_zo, setS_zu, setS_succ, Slot.dat, Slot.mut, Slot.put, nilB, callF, notT, andT, orT, andE, orE, ifE, boolS, tgtB, tupG, consG, nilG, nameG, retNm, appB, augB, callX, ioA, consX, argI, argV, argN, argsS, argS, ioIx, putB, popF, setB, p1, p2, sub_ii, hv2, ho]
/-! ### rows -/
structure Row where
  co : List (List Int)
  k : List Int
  s : Str
def plD (p : List Int) : PyData := .list (iv p)
def rowD (r : Row) : PyData := .tuple [.list (r.co.map plD), .list (iv r.k), .str r.s]
def rwD (rs : List Row) : List PyData := rs.map rowD
def SignK (s : Str) : Prop := s = "<" ∨ s = "<=" ∨ s = "="
structure RowOk (many a : Nat) (r : Row) : Prop where
  len : r.co.length = many
  co : ∀ p ∈ r.co, Bl 5 p ∧ p.length ≤ 3
  k : Bl a r.k
  kl : r.k.length ≤ 3
  s : SignK r.s
theorem polys_of {P : List Int → Prop} : ∀ {xs : List PyData}, (∀ x ∈ xs, ∃ p, x = plD p ∧ P p) → ∃ pp : List (List Int), xs = pp.map plD ∧ pp.length = xs.length ∧ ∀ p ∈ pp, P p
  | [], _ => ⟨[], rfl, rfl, (fun _ h => nomatch h)⟩
  | x :: xs, h => by
    obtain ⟨v, rfl, hv⟩ := h x List.mem_cons_self
    obtain ⟨vs, rfl, h1, h2⟩ := polys_of fun y hy => h y (List.mem_cons_of_mem _ hy)
    refine ⟨v :: vs, rfl, by simp, fun w hw => ?_⟩
    rcases List.mem_cons.mp hw with rfl | hw
    · exact hv
    · exact h2 w hw
theorem most_of {i : Int} (h : 0 ≤ i ∧ i < 4) : ∃ m : Nat, m ≤ 2 ∧ ixD (.list [.int 1, .int 2, .int 0, .int 1]) (.int i) = some (.val (.int (m : Int))) := by
  have : i = 0 ∨ i = 1 ∨ i = 2 ∨ i = 3 := by omega
  rcases this with rfl | rfl | rfl | rfl
  · exact ⟨1, by decide, rfl⟩
  · exact ⟨2, by decide, rfl⟩
  · exact ⟨0, by decide, rfl⟩
  · exact ⟨1, by decide, rfl⟩
theorem sign_of {i : Int} (h : 0 ≤ i ∧ i < 5) : ∃ s : Str, SignK s ∧ ixD (.list [.str "<=", .str "<", .str "<=", .str "=", .str "<"]) (.int i) = some (.val (.str s)) := by
  have : i = 0 ∨ i = 1 ∨ i = 2 ∨ i = 3 ∨ i = 4 := by omega
  rcases this with rfl | rfl | rfl | rfl | rfl
  · exact ⟨_, .inr (.inl rfl), rfl⟩
  · exact ⟨_, .inl rfl, rfl⟩
  · exact ⟨_, .inr (.inl rfl), rfl⟩
  · exact ⟨_, .inr (.inr rfl), rfl⟩
  · exact ⟨_, .inl rfl, rfl⟩
def rwB : MEnv → Option Out := (seqB (asgB 5 (op2 (datL (datF (lstF (consA (constD (.str "<=")) (consA (constD (.str "<")) (consA (constD (.str "<=")) (consA (constD (.str "=")) (consA (constD (.str "<")) ((fun env => some ([], env))))))))))) (datL (datF (callX 2 r_f_law_pick (ioA 0 (consX (argV (constD (.int 5))) ((fun env => some ([], env)))))))) ixD)) (seqB (asgB 6 (compF (rng1I (consA (nameV 1) ((fun env => some ([], env))))) (nameG 7) (yesT) (datF (callX 2 r_f_law_poly (ioA 0 (consX (argV (datF (op2 (datL (datF (lstF (consA (constD (.int 1)) (consA (constD (.int 2)) (consA (constD (.int 0)) (consA (constD (.int 1)) ((fun env => some ([], env)))))))))) (datL (datF (callX 2 r_f_law_pick (ioA 0 (consX (argV (constD (.int 4))) ((fun env => some ([], env)))))))) ixD))) ((fun env => some ([], env))))))) [7])) (seqB (appB 3 (datF (tupF (consA (nameV 6) (consA (datF (callX 2 r_f_law_poly (ioA 0 (consX (argV (constD (.int 2))) ((fun env => some ([], env))))))) (consA (nameV 5) ((fun env => some ([], env))))))))) (nilB))))
theorem rw_turn {ps : List Int} (hp : Ps ps) {many : Nat} {M mo : Int} (hM : M = (many : Int)) (hm : many ≤ 100) {rows : List Row} (hr : rows.length < 1000) {c : Int} {k s5 s6 : Slot} (h5 : nio s5 = true) (h6 : nio s6 = true) :
    ∃ (r : Row) (c' : Int) (t5 t6 : Slot), RowOk many 5 r ∧ nio t5 = true ∧ nio t6 = true ∧ rwB [.io (pl c ps), .val (.int M), .val (.int mo), .own (rwD rows), k, s5, s6, .un] = some (.nx [.io (pl c' ps), .val (.int M), .val (.int mo), .own (rwD (rows ++ [r])), k, t5, t6, .un]) := by
  have p1 := pick_eval hp c (m := 5) (by decide)
  have b1 := pV_bd ps c (m := 5) (by decide)
  obtain ⟨s, hs1, hs2⟩ := sign_of b1
  generalize hc1 : pC ps c = c1 at *
  have s1 : asgB 5 (op2 (datL (datF (lstF (consA (constD (.str "<=")) (consA (constD (.str "<")) (consA (constD (.str "<=")) (consA (constD (.str "=")) (consA (constD (.str "<")) ((fun env => some ([], env))))))))))) (datL (datF (callX 2 r_f_law_pick (ioA 0 (consX (argV (constD (.int 5))) ((fun env => some ([], env)))))))) ixD) [.io (pl c ps), .val (.int M), .val (.int mo), .own (rwD rows), k, s5, s6, .un] = some (.nx [.io (pl c1 ps), .val (.int M), .val (.int mo), .own (rwD rows), k, .val (.str s), s6, .un]) := by
    generalize pl c ps = L at *
    generalize pl c1 ps = L1 at *
    generalize pV ps c 5 = w at *
    have n5 : ∀ (l : MEnv) (x : Slot), setS 0 x (s5 :: l) = some (x :: l) := fun l x => setS_zero h5
    simp [seqB, ifB, asgB, retB, exprB, op1, op2, look, nameL, nameV, datL, datF, valF, constD, boolT, consA, tupF, lstF, setS_zv, setS_zo, setS_zu, setS_succ, Slot.dat, Slot.mut, Slot.put, nilB, callF, notT, andT, orT, andE, orE, ifE, boolS, tgtB, tupG, consG, nilG, nameG, retNm, appB, augB, callX, ioA, consX, argI, argV, argN, argsS, argS, ioIx, putB, popF, setB, p1, hs2, n5]
  let E : Int → MEnv := fun c => [.io (pl c ps), .val (.int M), .val (.int mo), .own (rwD rows), k, .val (.str s), s6, .un]
  obtain ⟨xs, c2, x1, x2, x3⟩ := comp_drawF (fi := rng1I (consA (nameV 1) ((fun env => some ([], env))))) (fe := datF (callX 2 r_f_law_poly (ioA 0 (consX (argV (datF (op2 (datL (datF (lstF (consA (constD (.int 1)) (consA (constD (.int 2)) (consA (constD (.int 0)) (consA (constD (.int 1)) ((fun env => some ([], env)))))))))) (datL (datF (callX 2 r_f_law_pick (ioA 0 (consX (argV (constD (.int 4))) ((fun env => some ([], env)))))))) ixD))) ((fun env => some ([], env)))))))
    (j := 7) (ds := Ip.intsFrom 0 many) (env := E c1) (c := c1) E (fun x => ∃ p, x = plD p ∧ (Bl 5 p ∧ p.length ≤ 3)) (rng1_nat (c := M) (by simp [E, seqB, ifB, asgB, retB, exprB, op1, op2, look, nameL, nameV, datL, datF, valF, constD, boolT, consA, tupF, lstF, setS_zv, setS_zo, setS_zu, setS_succ, Slot.dat, Slot.mut, Slot.put, nilB, callF, notT, andT, orT, andE, orE, ifE, boolS, tgtB, tupG, consG, nilG, nameG, retNm, appB, augB, callX, ioA, consX, argI, argV, argN, argsS, argS, ioIx, putB, popF, setB]) hM (by omega)) (by rw [intsFrom_len]; omega) (fun _ => rfl) (fun c d => by
      have q1 := pick_eval hp c (m := 4) (by decide)
      have b := pV_bd ps c (m := 4) (by decide)
      obtain ⟨m, hm1, hm2⟩ := most_of b
      obtain ⟨W, hW⟩ : ∃ W : Int, W = (m : Int) := ⟨_, rfl⟩
      obtain ⟨p, c', f1, f2, f3⟩ := poly_eval hp (pC ps c) hW (by omega)
      rw [← hW] at hm2
      refine ⟨plD p, c', ⟨p, rfl, f1, by omega⟩, ?_⟩
      show datF _ [.io (pl c ps), .val (.int M), .val (.int mo), .own (rwD rows), k, .val (.str s), s6, .val d] = some (_, [.io (pl c' ps), .val (.int M), .val (.int mo), .own (rwD rows), k, .val (.str s), s6, .val d])
      unfold plD
      generalize pl c ps = L at *
      generalize pl (pC ps c) ps = L1 at *
      generalize pl c' ps = L2 at *
      generalize pV ps c 4 = w at *
      generalize iv p = I at *
      simp [seqB, ifB, asgB, retB, exprB, op1, op2, look, nameL, nameV, datL, datF, valF, constD, boolT, consA, tupF, lstF, setS_zv, setS_zo, setS_zu, setS_succ, Slot.dat, Slot.mut, Slot.put, nilB, callF, notT, andT, orT, andE, orE, ifE, boolS, tgtB, tupG, consG, nilG, nameG, retNm, appB, augB, callX, ioA, consX, argI, argV, argN, argsS, argS, ioIx, putB, popF, setB, q1, hm2, f3])
  obtain ⟨pp, rfl, y1, y2⟩ := polys_of x2
  rw [List.length_map, intsFrom_len] at x1
  obtain ⟨p, c3, f1, f2, f3⟩ := poly_eval hp c2 (m := 2) (M := 2) rfl (by decide)
  have s2 : asgB 6 (compF (rng1I (consA (nameV 1) ((fun env => some ([], env))))) (nameG 7) (yesT) (datF (callX 2 r_f_law_poly (ioA 0 (consX (argV (datF (op2 (datL (datF (lstF (consA (constD (.int 1)) (consA (constD (.int 2)) (consA (constD (.int 0)) (consA (constD (.int 1)) ((fun env => some ([], env)))))))))) (datL (datF (callX 2 r_f_law_pick (ioA 0 (consX (argV (constD (.int 4))) ((fun env => some ([], env)))))))) ixD))) ((fun env => some ([], env))))))) [7]) (E c1) = some (.nx [.io (pl c2 ps), .val (.int M), .val (.int mo), .own (rwD rows), k, .val (.str s), .own (pp.map plD), .un]) := by
    unfold asgB
    rw [x3]
    have n6 : ∀ (l : MEnv) (x : Slot), setS 0 x (s6 :: l) = some (x :: l) := fun l x => setS_zero h6
    simp [E, setS_succ, n6]
  refine ⟨⟨pp, p, s⟩, c3, .val (.str s), .val (.list (pp.map plD)), ⟨x1, y2, f1, by omega, hs1⟩, rfl, rfl, ?_⟩
  unfold rwB
  rw [seq_nx s1]
  show seqB _ _ (E c1) = _
  rw [seq_nx s2]
  have happ : rwD (rows ++ [⟨pp, p, s⟩]) = rwD rows ++ [.tuple [.list (pp.map plD), .list (iv p), .str s]] := by
    unfold rwD
    rw [List.map_append]
    rfl
  have hz : (rwD rows).length < 100000 := by
    unfold rwD
    rw [List.length_map]
    omega
  rw [happ]
  generalize pp.map plD = PP at *
  generalize rwD rows = R at *
  generalize pl c2 ps = L at *
  generalize pl c3 ps = L1 at *
  generalize iv p = I at *
  simp [seqB, ifB, asgB, retB, exprB, op1, op2, look, nameL, nameV, datL, datF, valF, constD, boolT, consA, tupF, lstF, setS_zv, setS_zo, setS_zu, setS_succ, Slot.dat, Slot.mut, Slot.put, nilB, callF, notT, andT, orT, andE, orE, ifE, boolS, tgtB, tupG, consG, nilG, nameG, retNm, appB, augB, callX, ioA, consX, argI, argV, argN, argsS, argS, ioIx, putB, popF, setB, f3, hz]
theorem rw_loop {ps : List Int} (hp : Ps ps) {many : Nat} {M mo : Int} (hM : M = (many : Int)) (hm : many ≤ 100) : ∀ (n : Nat) (lo c : Int) (rows : List Row) (k s5 s6 : Slot), rows.length + n < 1000 → nio k = true → nio s5 = true → nio s6 = true → (∀ r ∈ rows, RowOk many 5 r) →
    ∃ (rows' : List Row) (c' : Int) (t t5 t6 : Slot), rows'.length = rows.length + n ∧ (∀ r ∈ rows', RowOk many 5 r) ∧ forLoop (nameG 4) rwB (Ip.intsFrom lo n) [.io (pl c ps), .val (.int M), .val (.int mo), .own (rwD rows), k, s5, s6, .un] = some (.nx [.io (pl c' ps), .val (.int M), .val (.int mo), .own (rwD rows'), t, t5, t6, .un])
  | 0, lo, c, rows, k, s5, s6, hl, hk, h5, h6, hr => ⟨rows, c, k, s5, s6, rfl, hr, rfl⟩
  | n + 1, lo, c, rows, k, s5, s6, hl, hk, h5, h6, hr => by
    obtain ⟨r, c1, t5, t6, g1, g5, g6, g⟩ := rw_turn hp (mo := mo) hM hm (rows := rows) (by omega) (c := c) (k := .val (.int lo)) h5 h6
    obtain ⟨rows', c', t, u5, u6, f1, f2, f⟩ := rw_loop hp (mo := mo) hM hm n (lo + 1) c1 (rows ++ [r]) (.val (.int lo)) t5 t6 (by simp; omega) rfl g5 g6 (fun x hx => by
      rcases List.mem_append.mp hx with z | z
      · exact hr x z
      · rw [List.mem_singleton.mp z]; exact g1)
    refine ⟨rows', c', t, u5, u6, by simp at f1; omega, f2, ?_⟩
    rw [ints_succ, for_nx (e1 := [.io (pl c ps), .val (.int M), .val (.int mo), .own (rwD rows), .val (.int lo), s5, s6, .un]) (by simp [nameG, setS_zero hk, setS_succ]) g]
    exact f
theorem rows_eval {ps : List Int} (hp : Ps ps) (c : Int) {many most : Nat} {M mo : Int} (hM : M = (many : Int)) (hm : many ≤ 100) (ho : mo = (most : Int)) (h1 : 1 ≤ most) (h2 : most ≤ 100) :
    ∃ (rows : List Row) (c' : Int), rows.length ≤ most ∧ 1 ≤ rows.length ∧ (∀ r ∈ rows, RowOk many 5 r) ∧ r_f_law_rows [.io (pl c ps), .val (.int M), .val (.int mo)] = some (.own (rwD rows), [.io (pl c' ps), .val (.int M), .val (.int mo)]) := by
  have p1 := pick_eval hp c (m := mo) (by omega)
  have b1 := pV_bd ps c (m := mo) (by omega)
  generalize hS : pV ps c mo = S at *
  generalize hc1 : pC ps c = c1 at *
  obtain ⟨N, hN⟩ : ∃ N : Nat, 1 + S = (N : Int) := ⟨(1 + S).toNat, by omega⟩
  obtain ⟨rows, c', t, t5, t6, g1, g2, g⟩ := rw_loop hp (mo := mo) hM hm N 0 c1 [] .un .un .un (by simp; omega) rfl rfl rfl (fun _ h => nomatch h)
  rw [List.length_nil, Nat.zero_add] at g1
  refine ⟨rows, c', by omega, by omega, g2, ?_⟩
  refine run_io (N := 8) (n := 3) (e := [.io (pl c' ps), .val (.int M), .val (.int mo), .own (rwD rows), t, t5, t6, .un]) ?_ (by simp)
  show seqB _ (seqB (forB _ _ rwB) _) [.io (pl c ps), .val (.int M), .val (.int mo), .un, .un, .un, .un, .un] = _
  rw [seq_nx (e1 := [.io (pl c ps), .val (.int M), .val (.int mo), .own (rwD []), .un, .un, .un, .un]) (by simp [seqB, ifB, asgB, retB, exprB, op1, op2, look, nameL, nameV, datL, datF, valF, constD, boolT, consA, tupF, lstF, setS_zv, setS_zo, setS_zu, setS_succ, Slot.dat, Slot.mut, Slot.put, nilB, callF, notT, andT, orT, andE, orE, ifE, boolS, tgtB, tupG, consG, nilG, nameG, retNm, appB, augB, callX, ioA, consX, argI, argV, argN, argsS, argS, ioIx, putB, popF, setB]; rfl)]
  rw [seq_nx (forB_of (rng1_nat (c := 1 + S) (n := N) (env1 := [.io (pl c1 ps), .val (.int M), .val (.int mo), .own (rwD []), .un, .un, .un, .un]) (by
    generalize pl c ps = L at *
    generalize pl c1 ps = L1 at *
    generalize rwD [] = R at *
    simp [seqB, ifB, asgB, retB, exprB, op1, op2, look, nameL, nameV, datL, datF, valF, constD, boolT, consA, tupF, lstF, setS_zv, setS_zo, setS_zu, setS_succ, Slot.dat, Slot.mut, Slot.put, nilB, callF, notT, andT, orT, andE, orE, ifE, boolS, tgtB, tupG, consG, nilG, nameG, retNm, appB, augB, callX, ioA, consX, argI, argV, argN, argsS, argS, ioIx, putB, popF, setB, p1, add_ii]) hN (by omega)) g)]
  simp [seqB, ifB, asgB, retB, exprB, op1, op2, look, nameL, nameV, datL, datF, valF, constD, boolT, consA, tupF, lstF, setS_zv, setS_zo, setS_zu, setS_succ, Slot.dat, Slot.mut, Slot.put, nilB, callF, notT, andT, orT, andE, orE, ifE, boolS, tgtB, tupG, consG, nilG, nameG, retNm, appB, augB, callX, ioA, consX, argI, argV, argN, argsS, argS, ioIx, putB, popF, setB]
end Lw

set_option Elab.async false
set_option linter.all false
set_option maxRecDepth 100000
set_option maxHeartbeats 4000000
namespace Lw
open PySem L2 Ip
/-! ### signs -/
def sg (n : Int) : Int := if n = 0 then 0 else if 0 < n then 1 else -1
theorem sign_eval (n : Int) : ∃ o, r_sign_of_whole [.val (.int n)] = some (.val (.int (sg n)), o) := by
  refine run_rt (e := [.val (.int n)]) ?_ (by simp)
  unfold sg
  by_cases h0 : n = 0
  · simp [b_sign_of_whole, seqB, ifB, asgB, retB, exprB, op1, op2, look, nameL, nameV, datL, datF, valF, constD, boolT, consA, tupF, lstF, setS_zv, setS_zo, setS_zu, setS_succ, Slot.dat, Slot.mut, Slot.put, nilB, callF, notT, andT, orT, andE, orE, ifE, boolS, tgtB, tupG, consG, nilG, nameG, retNm, appB, augB, callX, ioA, consX, argI, argV, argN, argsS, argS, ioIx, putB, popF, setB, eq_ii, h0]
  · by_cases h1 : 0 < n
    · simp [b_sign_of_whole, seqB, ifB, asgB, retB, exprB, op1, op2, look, nameL, nameV, datL, datF, valF, constD, boolT, consA, tupF, lstF, setS_zv, setS_zo, setS_zu, setS_succ, Slot.dat, Slot.mut, Slot.put, nilB, callF, notT, andT, orT, andE, orE, ifE, boolS, tgtB, tupG, consG, nilG, nameG, retNm, appB, augB, callX, ioA, consX, argI, argV, argN, argsS, argS, ioIx, putB, popF, setB, eq_ii, gt_ii, h0, h1]
    · simp [b_sign_of_whole, seqB, ifB, asgB, retB, exprB, op1, op2, look, nameL, nameV, datL, datF, valF, constD, boolT, consA, tupF, lstF, setS_zv, setS_zo, setS_zu, setS_succ, Slot.dat, Slot.mut, Slot.put, nilB, callF, notT, andT, orT, andE, orE, ifE, boolS, tgtB, tupG, consG, nilG, nameG, retNm, appB, augB, callX, ioA, consX, argI, argV, argN, argsS, argS, ioIx, putB, popF, setB, eq_ii, gt_ii, neg_i, h0, h1]
def fitB (s : Str) (n : Int) : Bool := if s = "<" then decide (n < 0) else if s = "<=" then decide (n ≤ 0) else decide (n = 0)
theorem fits_eval {s : Str} (hs : SignK s) (n : Int) : ∃ o, r_fits [.val (.str s), .val (.int (sg n))] = some (.val (.bool (fitB s n)), o) := by
  refine ⟨[.val (.str s), .val (.int (sg n))], ?_⟩
  have h3 : (n = 0 ∧ sg n = 0) ∨ (0 < n ∧ sg n = 1) ∨ (n < 0 ∧ sg n = -1) := by
    unfold sg
    split
    · omega
    · split <;> omega
  rcases hs with rfl | rfl | rfl
  · rw [show fitB "<" n = decide (n < 0) from rfl]
    rcases h3 with ⟨h, e⟩ | ⟨h, e⟩ | ⟨h, e⟩ <;> rw [e]
    · rw [decide_eq_false (by omega)]; kernel_rfl
    · rw [decide_eq_false (by omega)]; kernel_rfl
    · rw [decide_eq_true (by omega)]; kernel_rfl
  · rw [show fitB "<=" n = decide (n ≤ 0) from rfl]
    rcases h3 with ⟨h, e⟩ | ⟨h, e⟩ | ⟨h, e⟩ <;> rw [e]
    · rw [decide_eq_true (by omega)]; kernel_rfl
    · rw [decide_eq_false (by omega)]; kernel_rfl
    · rw [decide_eq_true (by omega)]; kernel_rfl
  · rw [show fitB "=" n = decide (n = 0) from rfl]
    rcases h3 with ⟨h, e⟩ | ⟨h, e⟩ | ⟨h, e⟩ <;> rw [e]
    · rw [decide_eq_true (by omega)]; kernel_rfl
    · rw [decide_eq_false (by omega)]; kernel_rfl
    · rw [decide_eq_false (by omega)]; kernel_rfl
theorem law_fits_eval {s : Str} (hs : SignK s) (n : Int) : ∃ o, r_f_law_fits [.val (.str s), .val (.int n)] = some (.val (.bool (fitB s n)), o) := by
  refine run_rt (e := [.val (.str s), .val (.int n)]) ?_ (by simp)
  have key : ∀ (x : Str) (b1 b2 b3 b4 b5 b6 : Bool), SignK x → dictD [(.inr "<", .bool b1), (.inr "<=", .bool b2), (.inr "=", .bool b3), (.inr "!=", .bool b4), (.inr ">=", .bool b5), (.inr ">", .bool b6)] (.str x) = some (.val (.bool (if x = "<" then b1 else if x = "<=" then b2 else b3))) := by
    intro x b1 b2 b3 b4 b5 b6 hx
    rcases hx with rfl | rfl | rfl <;> rfl
  have hk := key s (decide (n < 0)) (decide (n ≤ 0)) (decide (n = 0)) (!decide (n = 0)) (decide (0 ≤ n)) (decide (0 < n)) hs
  rw [show (if s = "<" then decide (n < 0) else if s = "<=" then decide (n ≤ 0) else decide (n = 0)) = fitB s n from rfl] at hk
  generalize fitB s n = B at *
  simp only [b_f_law_fits, seqB, ifB, asgB, retB, exprB, op1, op2, look, nameL, nameV, datL, datF, valF, constD, boolT, consA, tupF, lstF, setS_zv, setS_zo, setS_zu, setS_succ, Slot.dat, Slot.mut, Slot.put, nilB, callF, notT, andT, orT, andE, orE, ifE, boolS, tgtB, tupG, consG, nilG, nameG, retNm, appB, augB, callX, ioA, consX, argI, argV, argN, argsS, argS, ioIx, putB, popF, setB, dictXF, pairsF, lt_ii, le_ii, eq_ii, ne_ii, ge_ii, gt_ii, List.getElem?_cons_zero, List.getElem?_cons_succ, List.replicate, List.append_nil, Nat.sub_self, hk]
theorem same_eval (a b : Bool) : ∃ o, r_f_law_same [.val (.bool a), .val (.bool b)] = some (.val (.bool (decide (a = b))), o) := by
  refine ⟨[.val (.bool a), .val (.bool b)], ?_⟩
  cases a <;> cases b <;> kernel_rfl
/-! ### sums -/
def tB : MEnv → Option Out := seqB (asgB 1 (callF 2 r_plus (consA (nameV 1) (consA (nameV 2) ((fun env => some ([], env))))))) (nilB)
def nmL (qs : List Rat) : List PyData := qs.map nm
theorem tot_loop {L : PyData} {T : Nat} : ∀ (ws : List Rat) (m : Nat) (acc : Rat) (s : Slot), (∀ w ∈ ws, Bq T w) → Bq m acc → m + (T + 1) * ws.length ≤ 1900 → nio s = true →
    ∃ s', Bq (m + (T + 1) * ws.length) (ws.foldl (· + ·) acc) ∧ forLoop (nameG 2) tB (nmL ws) [.val L, .val (nm acc), s] = some (.nx [.val L, .val (nm (ws.foldl (· + ·) acc)), s'])
  | [], m, acc, s, hw, ha, hm, hs => ⟨s, by simpa using ha, rfl⟩
  | w :: ws, m, acc, s, hw, ha, hm, hs => by
    have hwb := hw w List.mem_cons_self
    rw [List.length_cons, Nat.mul_succ] at hm
    obtain ⟨o1, h1⟩ := plus_eval ha hwb (by omega)
    obtain ⟨s', g1, g2⟩ := tot_loop (L := L) ws (m + T + 1) (acc + w) (.val (nm w)) (fun x hx => hw x (List.mem_cons_of_mem _ hx)) (ha.add hwb) (by omega) rfl
    refine ⟨s', ?_, ?_⟩
    · rw [List.length_cons, Nat.mul_succ]
      exact g1.up (by omega)
    · show forLoop _ _ (nm w :: nmL ws) _ = _
      rw [for_nx (e1 := [.val L, .val (nm acc), .val (nm w)]) (e2 := [.val L, .val (nm (acc + w)), .val (nm w)]) (by simp [nameG, setS_zero hs, setS_succ]) (by
        generalize nm acc = A at *
        generalize nm w = W at *
        generalize nm (acc + w) = S at *
        simp [tB, seqB, ifB, asgB, retB, exprB, op1, op2, look, nameL, nameV, datL, datF, valF, constD, boolT, consA, tupF, lstF, setS_zv, setS_zo, setS_zu, setS_succ, Slot.dat, Slot.mut, Slot.put, nilB, callF, notT, andT, orT, andE, orE, ifE, boolS, tgtB, tupG, consG, nilG, nameG, retNm, appB, augB, callX, ioA, consX, argI, argV, argN, argsS, argS, ioIx, putB, popF, setB, h1])]
      exact g2
theorem total_eval {ws : List Rat} {T : Nat} (hw : ∀ w ∈ ws, Bq T w) (hm : 1 + (T + 1) * ws.length ≤ 1900) : Bq (1 + (T + 1) * ws.length) (ws.foldl (· + ·) 0) ∧ ∃ o, r_total [.val (.list (nmL ws))] = some (.val (nm (ws.foldl (· + ·) 0)), o) := by
  obtain ⟨s', g1, g2⟩ := tot_loop (L := .list (nmL ws)) ws 1 0 .un hw ⟨by decide, by decide⟩ hm rfl
  refine ⟨g1, run_rt (e := [.val (.list (nmL ws)), .val (nm (ws.foldl (· + ·) 0)), s']) ?_ (by simp)⟩
  show seqB _ (seqB (forB _ _ tB) _) [.val (.list (nmL ws)), .un, .un] = _
  rw [seq_nx (e1 := [.val (.list (nmL ws)), .val (nm 0), .un]) (by simp [seqB, ifB, asgB, retB, exprB, op1, op2, look, nameL, nameV, datL, datF, valF, constD, boolT, consA, tupF, lstF, setS_zv, setS_zo, setS_zu, setS_succ, Slot.dat, Slot.mut, Slot.put, nilB, callF, notT, andT, orT, andE, orE, ifE, boolS, tgtB, tupG, consG, nilG, nameG, retNm, appB, augB, callX, ioA, consX, argI, argV, argN, argsS, argS, ioIx, putB, popF, setB]; rfl)]
  rw [seq_nx (forB_of (ds := nmL ws) (e1 := [.val (.list (nmL ws)), .val (nm 0), .un]) (by simp [seqI, nameV]) g2)]
  simp [seqB, ifB, asgB, retB, exprB, op1, op2, look, nameL, nameV, datL, datF, valF, constD, boolT, consA, tupF, lstF, setS_zv, setS_zo, setS_zu, setS_succ, Slot.dat, Slot.mut, Slot.put, nilB, callF, notT, andT, orT, andE, orE, ifE, boolS, tgtB, tupG, consG, nilG, nameG, retNm, appB, augB, callX, ioA, consX, argI, argV, argN, argsS, argS, ioIx, putB, popF, setB]
def tm (pp : List (List Int)) (qs : List Rat) (t : Rat) : List Rat := List.zipWith (fun p q => vq p t * q) pp qs
def cpE : MEnv → Option (PyData × MEnv) := datF (callF 2 r_times (consA (datF (callF 2 r_value_at (consA (nameV 7) (consA (nameV 2) ((fun env => some ([], env))))))) (consA (nameV 8) ((fun env => some ([], env))))))
def cpG : PyData → MEnv → Option MEnv := tupG 2 (consG (nameG 7) (consG (nameG 8) (nilG)))
theorem cp_loop {a0 a1 a3 a4 a5 a6 : Slot} {t : Rat} {b n : Nat} (hb : Bq b t) (hbn : 1 + 3 * (4 + b + 2) + n ≤ 1900) : ∀ (pp : List (List Int)) (qs : List Rat) (acc : List PyData), (∀ p ∈ pp, Bl 5 p ∧ p.length ≤ 3) → (∀ q ∈ qs, Bq n q) → 5 + 6 * (b + 1) ≤ 1000 →
    compLoop cpG yesT cpE [7, 8] (zipL (pp.map plD) (nmL qs)) acc [a0, a1, .val (nm t), a3, a4, a5, a6, .un, .un] = some (acc ++ nmL (tm pp qs t), [a0, a1, .val (nm t), a3, a4, a5, a6, .un, .un])
  | [], qs, acc, h1, h2, h3 => by
    show compLoop _ _ _ _ [] acc _ = _
    simp [compLoop, tm, nmL]
  | p :: pp, [], acc, h1, h2, h3 => by
    show compLoop _ _ _ _ [] acc _ = _
    simp [compLoop, tm, nmL]
  | p :: pp, q :: qs, acc, h1, h2, h3 => by
    obtain ⟨p1, p2⟩ := h1 p List.mem_cons_self
    have hq := h2 q List.mem_cons_self
    have k3 : (p.length + 3) * (b + 1) ≤ 6 * (b + 1) := Nat.mul_le_mul (by omega) (Nat.le_refl _)
    obtain ⟨o1, v1⟩ := value_at_eval (a := 5) hb p1 (by omega)
    have vb := (vq_bd (a := 4) hb p p1).up (show 1 + p.length * (4 + b + 2) ≤ 1 + 3 * (4 + b + 2) from Nat.add_le_add_left (Nat.mul_le_mul p2 (Nat.le_refl _)) 1)
    obtain ⟨o2, v2⟩ := times_eval vb hq (by omega)
    have ih := cp_loop (a0 := a0) (a1 := a1) (a3 := a3) (a4 := a4) (a5 := a5) (a6 := a6) hb hbn pp qs (acc ++ [nm (vq p t * q)]) (fun x hx => h1 x (List.mem_cons_of_mem _ hx)) (fun x hx => h2 x (List.mem_cons_of_mem _ hx)) h3
    show compLoop cpG yesT cpE [7, 8] (.tuple [plD p, nm q] :: zipL (pp.map plD) (nmL qs)) acc _ = _
    have g1 : cpG (.tuple [plD p, nm q]) [a0, a1, .val (nm t), a3, a4, a5, a6, .un, .un] = some [a0, a1, .val (nm t), a3, a4, a5, a6, .val (plD p), .val (nm q)] := by
      simp [cpG, seqB, ifB, asgB, retB, exprB, op1, op2, look, nameL, nameV, datL, datF, valF, constD, boolT, consA, tupF, lstF, setS_zv, setS_zo, setS_zu, setS_succ, Slot.dat, Slot.mut, Slot.put, nilB, callF, notT, andT, orT, andE, orE, ifE, boolS, tgtB, tupG, consG, nilG, nameG, retNm, appB, augB, callX, ioA, consX, argI, argV, argN, argsS, argS, ioIx, putB, popF, setB]
    have e1 : cpE [a0, a1, .val (nm t), a3, a4, a5, a6, .val (plD p), .val (nm q)] = some (nm (vq p t * q), [a0, a1, .val (nm t), a3, a4, a5, a6, .val (plD p), .val (nm q)]) := by
      unfold plD
      generalize nm (vq p t * q) = A at *
      generalize nm (vq p t) = B at *
      generalize nm q = C at *
      generalize nm t = D at *
      generalize iv p = I at *
      simp [cpE, seqB, ifB, asgB, retB, exprB, op1, op2, look, nameL, nameV, datL, datF, valF, constD, boolT, consA, tupF, lstF, setS_zv, setS_zo, setS_zu, setS_succ, Slot.dat, Slot.mut, Slot.put, nilB, callF, notT, andT, orT, andE, orE, ifE, boolS, tgtB, tupG, consG, nilG, nameG, retNm, appB, augB, callX, ioA, consX, argI, argV, argN, argsS, argS, ioIx, putB, popF, setB, v1, v2]
    unfold compLoop
    rw [g1]
    simp only [yesT]
    rw [e1]
    have hok : okW [a0, a1, .val (nm t), a3, a4, a5, a6, .val (plD p), .val (nm q)] [7, 8] = true := by simp [okW, Slot.mut]
    simp only [hok, if_true]
    rw [show wipeE [a0, a1, .val (nm t), a3, a4, a5, a6, .val (plD p), .val (nm q)] [7, 8] = [a0, a1, .val (nm t), a3, a4, a5, a6, .un, .un] from rfl, ih]
    simp [tm, nmL]
theorem tm_bd {t : Rat} {b n : Nat} (hb : Bq b t) : ∀ (pp : List (List Int)) (qs : List Rat), (∀ p ∈ pp, Bl 5 p ∧ p.length ≤ 3) → (∀ q ∈ qs, Bq n q) → ∀ w ∈ tm pp qs t, Bq (1 + 3 * (4 + b + 2) + n) w
  | [], qs, h1, h2, w, hw => by simp [tm] at hw
  | p :: pp, [], h1, h2, w, hw => by simp [tm] at hw
  | p :: pp, q :: qs, h1, h2, w, hw => by
    obtain ⟨p1, p2⟩ := h1 p List.mem_cons_self
    have vb := (vq_bd (a := 4) hb p p1).up (show 1 + p.length * (4 + b + 2) ≤ 1 + 3 * (4 + b + 2) from Nat.add_le_add_left (Nat.mul_le_mul p2 (Nat.le_refl _)) 1)
    have hw : w ∈ (vq p t * q) :: tm pp qs t := hw
    rcases List.mem_cons.mp hw with rfl | hw
    · exact vb.mul (h2 q List.mem_cons_self)
    · exact tm_bd hb pp qs (fun x hx => h1 x (List.mem_cons_of_mem _ hx)) (fun x hx => h2 x (List.mem_cons_of_mem _ hx)) w hw
theorem tm_len (pp : List (List Int)) (qs : List Rat) (t : Rat) : (tm pp qs t).length ≤ pp.length := by
  unfold tm
  rw [List.length_zipWith]
  omega
/-- the value of a row -/
def rq (r : Row) (qs : List Rat) (t : Rat) : Rat := (tm r.co qs t).foldl (· + ·) 0 + vq r.k t
structure RowIn (a : Nat) (r : Row) : Prop where
  len : r.co.length ≤ 2
  co : ∀ p ∈ r.co, Bl 5 p ∧ p.length ≤ 3
  k : Bl (a + 1) r.k
  kl : r.k.length ≤ 3
  s : SignK r.s
theorem sum_eval {r : Row} {qs : List Rat} {t : Rat} {a b n : Nat} (hr : RowIn a r) (hb : Bq b t) (hq : ∀ q ∈ qs, Bq n q) (hl : qs.length ≤ 100) (h1 : 2 * (3 * (b + 6) + n + 5) + 3 * (a + b + 2) ≤ 1800) (h2 : a + 6 * (b + 1) ≤ 990) :
    ∃ o, r_f_sum_at [.val (rowD r), .val (.list (nmL qs)), .val (nm t)] = some (.val (nm (rq r qs t)), o) := by
  have hl1 := hr.len
  have hz : (zipL (r.co.map plD) (nmL qs)).length ≤ 100000 := by
    have : ∀ (xs ys : List PyData), (zipL xs ys).length ≤ xs.length := by
      intro xs
      induction xs with
      | nil => intro ys; simp [zipL]
      | cons x xs ih =>
        intro ys
        cases ys with
        | nil => simp [zipL]
        | cons y ys => simp only [zipL, List.length_cons]; have := ih ys; omega
    have h := this (r.co.map plD) (nmL qs)
    rw [List.length_map] at h
    omega
  let x0 : Slot := .val (rowD r)
  have hc := cp_loop (a0 := x0) (a1 := .val (.list (nmL qs))) (a3 := .val (.list (r.co.map plD))) (a4 := .val (.list (iv r.k))) (a5 := .val (.str r.s)) (a6 := .un) hb (n := n) (by omega) r.co qs [] hr.co hq (by omega)
  have hcomp : compF (zipI (consA (nameV 3) (consA (nameV 1) ((fun env => some ([], env)))))) cpG yesT cpE [7, 8] [x0, .val (.list (nmL qs)), .val (nm t), .val (.list (r.co.map plD)), .val (.list (iv r.k)), .val (.str r.s), .un, .un, .un] = some (.own (nmL (tm r.co qs t)), [x0, .val (.list (nmL qs)), .val (nm t), .val (.list (r.co.map plD)), .val (.list (iv r.k)), .val (.str r.s), .un, .un, .un]) :=
    comp_gen (ds := zipL (r.co.map plD) (nmL qs)) (env1 := [x0, .val (.list (nmL qs)), .val (nm t), .val (.list (r.co.map plD)), .val (.list (iv r.k)), .val (.str r.s), .un, .un, .un]) (by simp [zipI, seqB, ifB, asgB, retB, exprB, op1, op2, look, nameL, nameV, datL, datF, valF, constD, boolT, consA, tupF, lstF, setS_zv, setS_zo, setS_zu, setS_succ, Slot.dat, Slot.mut, Slot.put, nilB, callF, notT, andT, orT, andE, orE, ifE, boolS, tgtB, tupG, consG, nilG, nameG, retNm, appB, augB, callX, ioA, consX, argI, argV, argN, argsS, argS, ioIx, putB, popF, setB]) (by simp [okW, Slot.mut]) hz rfl hc rfl
  have tb := tm_bd hb r.co qs hr.co hq
  have tl := tm_len r.co qs t
  have tl2 : (1 + 3 * (4 + b + 2) + n + 1) * (tm r.co qs t).length ≤ (1 + 3 * (4 + b + 2) + n + 1) * 2 := Nat.mul_le_mul (Nat.le_refl _) (by omega)
  obtain ⟨g1, o1, g2⟩ := total_eval tb (by omega)
  have k3 : (r.k.length + 3) * (b + 1) ≤ 6 * (b + 1) := Nat.mul_le_mul (by have := hr.kl; omega) (Nat.le_refl _)
  obtain ⟨o2, v1⟩ := value_at_eval (a := a + 1) hb hr.k (by omega)
  have vb := (vq_bd (a := a) hb r.k hr.k).up (show 1 + r.k.length * (a + b + 2) ≤ 1 + 3 * (a + b + 2) from Nat.add_le_add_left (Nat.mul_le_mul hr.kl (Nat.le_refl _)) 1)
  obtain ⟨o3, v2⟩ := plus_eval g1 vb (by omega)
  refine run_rt (e := [x0, .val (.list (nmL qs)), .val (nm t), .val (.list (r.co.map plD)), .val (.list (iv r.k)), .val (.str r.s), .val (.list (nmL (tm r.co qs t))), .un, .un]) ?_ (by simp)
  show seqB _ (seqB (asgB 6 (compF _ cpG _ cpE _)) _) [x0, .val (.list (nmL qs)), .val (nm t), .un, .un, .un, .un, .un, .un] = _
  rw [seq_nx (e1 := [x0, .val (.list (nmL qs)), .val (nm t), .val (.list (r.co.map plD)), .val (.list (iv r.k)), .val (.str r.s), .un, .un, .un]) (by
    show tgtB (nameV 0) _ [.val (.tuple [.list (r.co.map plD), .list (iv r.k), .str r.s]), _, _, _, _, _, _, _, _] = some (.nx [.val (.tuple [.list (r.co.map plD), .list (iv r.k), .str r.s]), _, _, _, _, _, _, _, _])
    simp [seqB, ifB, asgB, retB, exprB, op1, op2, look, nameL, nameV, datL, datF, valF, constD, boolT, consA, tupF, lstF, setS_zv, setS_zo, setS_zu, setS_succ, Slot.dat, Slot.mut, Slot.put, nilB, callF, notT, andT, orT, andE, orE, ifE, boolS, tgtB, tupG, consG, nilG, nameG, retNm, appB, augB, callX, ioA, consX, argI, argV, argN, argsS, argS, ioIx, putB, popF, setB])]
  rw [seq_nx (e1 := [x0, .val (.list (nmL qs)), .val (nm t), .val (.list (r.co.map plD)), .val (.list (iv r.k)), .val (.str r.s), .own (nmL (tm r.co qs t)), .un, .un]) (by
    unfold asgB
    rw [hcomp]
    simp [setS_succ, setS_zu])]
  unfold rq
  generalize nm ((tm r.co qs t).foldl (· + ·) 0 + vq r.k t) = A at *
  generalize nm ((tm r.co qs t).foldl (· + ·) 0) = B at *
  generalize nm (vq r.k t) = C at *
  generalize nm t = D at *
  generalize nmL (tm r.co qs t) = F at *
  generalize nmL qs = G at *
  generalize r.co.map plD = P at *
  generalize iv r.k = I at *
  generalize x0 = X0 at *
  simp [seqB, ifB, asgB, retB, exprB, op1, op2, look, nameL, nameV, datL, datF, valF, constD, boolT, consA, tupF, lstF, setS_zv, setS_zo, setS_zu, setS_succ, Slot.dat, Slot.mut, Slot.put, nilB, callF, notT, andT, orT, andE, orE, ifE, boolS, tgtB, tupG, consG, nilG, nameG, retNm, appB, augB, callX, ioA, consX, argI, argV, argN, argsS, argS, ioIx, putB, popF, setB, g2, v1, v2]
end Lw

set_option Elab.async false
set_option linter.all false
set_option maxRecDepth 100000
set_option maxHeartbeats 4000000
namespace Lw
open PySem L2 Ip
theorem datL_of {f : MEnv → Option (PyData × MEnv)} {env e1 : MEnv} {d : PyData} (h : f env = some (d, e1)) : datL f env = some (.dat d, e1) := by
  unfold datL
  rw [h]
theorem op1_of {f : MEnv → Option (Lr × MEnv)} {g : PyData → Option Slot} {env e1 : MEnv} {d : PyData} {s : Slot} (h : f env = some (.dat d, e1)) (hg : g d = some s) : op1 f g env = some (s, e1) := by
  unfold op1
  rw [h]
  simp [look, hg]
/-! ### comprehensions over the images of a list -/
theorem comp_as {α : Type} {fe : MEnv → Option (PyData × MEnv)} {j : Nat} {env : MEnv} (g h : α → PyData) (hj : env[j]? = some .un) : ∀ (as : List α) (acc : List PyData), (∀ a ∈ as, fe (env.set j (.val (g a))) = some (h a, env.set j (.val (g a)))) →
    compLoop (nameG j) yesT fe [j] (as.map g) acc env = some (acc ++ as.map h, env)
  | [], acc, _ => by simp [compLoop]
  | a :: as, acc, hh => by
    have hl : j < env.length := (List.getElem?_eq_some_iff.mp hj).1
    have back : (env.set j (.val (g a))).set j .un = env := by
      rw [List.set_set]
      apply List.ext_getElem?
      intro i
      by_cases e : j = i
      · subst e
        rw [List.getElem?_set, if_pos rfl, if_pos hl, hj]
      · rw [List.getElem?_set_ne e]
    have hset : nameG j (g a) env = some (env.set j (.val (g a))) := by
      unfold nameG setS
      rw [hj]
    have hok : okW (env.set j (.val (g a))) [j] = true := by
      unfold okW
      simp [List.getElem?_set, hl, Slot.mut]
    rw [List.map_cons, List.map_cons]
    unfold compLoop
    rw [hset]
    simp only [yesT]
    rw [hh a List.mem_cons_self]
    simp only [hok, if_true]
    show compLoop _ _ _ _ _ _ ((env.set j (.val (g a))).set j .un) = _
    rw [back, comp_as g h hj as (acc ++ [h a]) (fun d' hd => hh d' (List.mem_cons_of_mem _ hd))]
    simp
theorem comp_asF {α : Type} {fi : MEnv → Option (List PyData × MEnv)} {fe : MEnv → Option (PyData × MEnv)} {j : Nat} {env env1 : MEnv} (as : List α) (g h : α → PyData) (hi : fi env = some (as.map g, env1)) (hj : env1[j]? = some .un) (hz : as.length ≤ 100000)
    (hh : ∀ a ∈ as, fe (env1.set j (.val (g a))) = some (h a, env1.set j (.val (g a)))) : compF fi (nameG j) yesT fe [j] env = some (.own (as.map h), env1) := by
  have same : env1.set j .un = env1 := by
    have hl : j < env1.length := (List.getElem?_eq_some_iff.mp hj).1
    apply List.ext_getElem?
    intro i
    by_cases e : j = i
    · subst e
      rw [List.getElem?_set, if_pos rfl, if_pos hl, hj]
    · rw [List.getElem?_set_ne e]
  refine comp_gen (ds := as.map g) (env1 := env1) (ewi := env1) (ew := env1) hi (by simp [okW, hj, Slot.mut]) (by rw [List.length_map]; exact hz) same (by rw [comp_as g h hj as [] hh]; rfl) ?_
  show env1.set j (env1.getD j .un) = _
  rw [List.getD_eq_getElem?_getD, hj]
  exact same
theorem boolsOf_map {α : Type} (f : α → Bool) : ∀ l : List α, boolsOf (l.map fun a => .bool (f a)) = some (l.map f)
  | [] => rfl
  | a :: l => by
    show (boolsOf (l.map fun a => .bool (f a))).map (f a :: ·) = _
    rw [boolsOf_map f l]
    rfl
theorem all_map {α : Type} (f : α → Bool) (l : List α) : allD (.list (l.map fun a => .bool (f a))) = some (.val (.bool (l.all f))) := by
  unfold allD
  simp only [boolsOf_map]
  show some (Slot.val (.bool ((l.map f).all id))) = _
  rw [List.all_map]
  rfl
theorem ix_map {α : Type} {l : List α} (g : α → PyData) {i : Int} (k : Nat) (hi : i = k) (hk : k < l.length) : ixD (.list (l.map g)) (.int i) = some (.val (g l[k])) := by
  show (atI (l.map g) i).map Slot.val = _
  rw [atI_of (by omega) (by rw [List.length_map]; omega), show i.toNat = k by omega, List.getElem?_map, List.getElem?_eq_getElem hk]
  rfl
theorem fulfilled_eval {rows : List Row} {qs : List Rat} {t : Rat} {a b n : Nat} (hr : ∀ r ∈ rows, RowIn a r) (hb : Bq b t) (hq : ∀ q ∈ qs, Bq n q) (hl : qs.length ≤ 100) (hrl : rows.length ≤ 100) (h1 : 2 * (3 * (b + 6) + n + 5) + 3 * (a + b + 2) ≤ 1800) (h2 : a + 6 * (b + 1) ≤ 990) :
    ∃ o, r_fulfilled_at [.val (.list (rwD rows)), .val (.list (nmL qs)), .val (nm t)] = some (.val (.bool (rows.all fun r => fitB r.s (rq r qs t).num)), o) := by
  refine run_rt (e := [.val (.list (rwD rows)), .val (.list (nmL qs)), .val (nm t), .un]) ?_ (by simp)
  have hc := comp_asF (fi := seqI (nameV 0)) (fe := datF (callF 2 r_fits (consA (datF (op2 (nameL 3) (datL (constD (.int 2))) ixD)) (consA (datF (callF 1 r_sign_of_whole (consA (datF (op2 (datL (datF (callF 3 r_f_sum_at (consA (nameV 3) (consA (nameV 1) (consA (nameV 2) ((fun env => some ([], env))))))))) (datL (constD (.int 0))) ixD)) ((fun env => some ([], env)))))) ((fun env => some ([], env)))))))
    (j := 3) (env := [.val (.list (rwD rows)), .val (.list (nmL qs)), .val (nm t), .un]) (env1 := [.val (.list (rwD rows)), .val (.list (nmL qs)), .val (nm t), .un]) rows rowD (fun r => .bool (fitB r.s (rq r qs t).num)) (by simp [seqI, nameV]; rfl) rfl (by omega) (fun r hr0 => by
      obtain ⟨o1, v1⟩ := sum_eval (hr r hr0) hb hq hl h1 h2
      obtain ⟨o2, v2⟩ := sign_eval (rq r qs t).num
      obtain ⟨o3, v3⟩ := fits_eval (hr r hr0).s (rq r qs t).num
      show datF _ [.val (.list (rwD rows)), .val (.list (nmL qs)), .val (nm t), .val (rowD r)] = some (_, [.val (.list (rwD rows)), .val (.list (nmL qs)), .val (nm t), .val (rowD r)])
      have i2 : ixD (rowD r) (.int 2) = some (.val (.str r.s)) := rfl
      have i0 := nm_0 (rq r qs t)
      generalize nm (rq r qs t) = A at *
      generalize (rq r qs t).num = N at *
      generalize fitB r.s N = B at *
      generalize sg N = S at *
      generalize nm t = D at *
      generalize nmL qs = G at *
      generalize rwD rows = R at *
      generalize rowD r = X at *
      simp [seqB, ifB, asgB, retB, exprB, op1, op2, look, nameL, nameV, datL, datF, valF, constD, boolT, consA, tupF, lstF, setS_zv, setS_zo, setS_zu, setS_succ, Slot.dat, Slot.mut, Slot.put, nilB, callF, notT, andT, orT, andE, orE, ifE, boolS, tgtB, tupG, consG, nilG, nameG, retNm, appB, augB, callX, ioA, consX, argI, argV, argN, argsS, argS, ioIx, putB, popF, setB, v1, i0, v2, i2, v3])
  have ha := all_map (fun r : Row => fitB r.s (rq r qs t).num) rows
  exact seq_rt (ret_of (op1_of (datL_of (dat_of hc rfl)) ha))
/-! ### the law's way -/
def rvB : MEnv → Option Out := (seqB (asgB 3 (callF 2 r_f_law_add (consA (nameV 3) (consA (datF (callF 2 r_f_law_mul (consA (datF (callF 2 r_f_law_value (consA (datF (op2 (datL (datF (op2 (nameL 0) (datL (constD (.int 0))) ixD))) (nameL 4) ixD)) (consA (nameV 2) ((fun env => some ([], env))))))) (consA (datF (op2 (nameL 1) (nameL 4) ixD)) ((fun env => some ([], env))))))) ((fun env => some ([], env))))))) (nilB))
theorem rv_loop {r : Row} {qs : List Rat} {t : Rat} {b n T : Nat} (hb : Bq b t) (hco : ∀ p ∈ r.co, Bl 5 p ∧ p.length ≤ 3) (hq : ∀ q ∈ qs, Bq n q) (hlen : r.co.length = qs.length) (hT : T = 1 + 3 * (4 + b + 2) + n) (hT2 : 10 + 5 * (4 + b + 2) ≤ 1900) (hT3 : T ≤ 1900) : ∀ (j i : Nat) (lo : Int) (m : Nat) (acc : Rat) (s : Slot), lo = (i : Int) → i + j = qs.length → Bq m acc → m + (T + 1) * j ≤ 1900 → nio s = true →
    ∃ s', Bq (m + (T + 1) * j) ((tm (r.co.drop i) (qs.drop i) t).foldl (· + ·) acc) ∧ forLoop (nameG 4) rvB (Ip.intsFrom lo j) [.val (rowD r), .val (.list (nmL qs)), .val (nm t), .val (nm acc), s] = some (.nx [.val (rowD r), .val (.list (nmL qs)), .val (nm t), .val (nm ((tm (r.co.drop i) (qs.drop i) t).foldl (· + ·) acc)), s'])
  | 0, i, lo, m, acc, s, hlo, hi, ha, hm, hs => by
    have e1 : qs.drop i = [] := List.drop_eq_nil_of_le (by omega)
    have e2 : r.co.drop i = [] := List.drop_eq_nil_of_le (by omega)
    rw [e1, e2]
    exact ⟨s, by simpa [tm] using ha, rfl⟩
  | j + 1, i, lo, m, acc, s, hlo, hi, ha, hm, hs => by
    rw [Nat.mul_succ] at hm
    have k1 : i < qs.length := by omega
    have k2 : i < r.co.length := by omega
    have d1 : qs.drop i = qs[i] :: qs.drop (i + 1) := List.drop_eq_getElem_cons k1
    have d2 : r.co.drop i = r.co[i] :: r.co.drop (i + 1) := List.drop_eq_getElem_cons k2
    obtain ⟨p1, p2⟩ := hco _ (List.getElem_mem k2)
    have hqi := hq _ (List.getElem_mem k1)
    have kk : (r.co[i].length + 2) * (4 + b + 2) ≤ 5 * (4 + b + 2) := Nat.mul_le_mul (by omega) (Nat.le_refl _)
    obtain ⟨o1, v1⟩ := law_value_eval (a := 4) hb p1 (by omega)
    have vb := (vq_bd (a := 4) hb _ p1).up (show 1 + r.co[i].length * (4 + b + 2) ≤ 1 + 3 * (4 + b + 2) from Nat.add_le_add_left (Nat.mul_le_mul p2 (Nat.le_refl _)) 1)
    obtain ⟨o2, v2⟩ := mul_eval vb hqi (by omega)
    have mb := (vb.mul hqi).up (show _ ≤ T by omega)
    obtain ⟨o3, v3⟩ := add_eval ha mb (by omega)
    obtain ⟨s', g1, g2⟩ := rv_loop (r := r) hb hco hq hlen hT hT2 hT3 j (i + 1) (lo + 1) (m + T + 1) (acc + vq r.co[i] t * qs[i]) (.val (.int lo)) (by omega) (by omega) (ha.add mb) (by omega) rfl
    have ex : tm (r.co.drop i) (qs.drop i) t = (vq r.co[i] t * qs[i]) :: tm (r.co.drop (i + 1)) (qs.drop (i + 1)) t := by
      rw [d1, d2]
      rfl
    rw [ex]
    refine ⟨s', g1.up (by rw [Nat.mul_succ]; omega), ?_⟩
    have x1 := ix_map (l := r.co) plD (i := lo) i hlo k2
    have x2 : ixD (.list (nmL qs)) (.int lo) = some (.val (nm qs[i])) := ix_map (l := qs) nm (i := lo) i hlo k1
    have x0 : ixD (rowD r) (.int 0) = some (.val (.list (r.co.map plD))) := rfl
    have hh : rvB [.val (rowD r), .val (.list (nmL qs)), .val (nm t), .val (nm acc), .val (.int lo)] = some (.nx [.val (rowD r), .val (.list (nmL qs)), .val (nm t), .val (nm (acc + vq r.co[i] t * qs[i])), .val (.int lo)]) := by
      clear g1 g2 ex d1 d2
      generalize r.co.map plD = Y at *
      unfold plD at x1
      generalize nm (acc + vq r.co[i] t * qs[i]) = A at *
      generalize nm (vq r.co[i] t * qs[i]) = B at *
      generalize nm (vq r.co[i] t) = C at *
      generalize nm qs[i] = F at *
      generalize nm t = D at *
      generalize nm acc = G at *
      generalize iv r.co[i] = I at *
      generalize nmL qs = Q at *
      generalize rowD r = X at *
      simp [rvB, seqB, ifB, asgB, retB, exprB, op1, op2, look, nameL, nameV, datL, datF, valF, constD, boolT, consA, tupF, lstF, setS_zv, setS_zo, setS_zu, setS_succ, Slot.dat, Slot.mut, Slot.put, nilB, callF, notT, andT, orT, andE, orE, ifE, boolS, tgtB, tupG, consG, nilG, nameG, retNm, appB, augB, callX, ioA, consX, argI, argV, argN, argsS, argS, ioIx, putB, popF, setB, x0, x1, x2, v1, v2, v3]
    rw [ints_succ, for_nx (e1 := [.val (rowD r), .val (.list (nmL qs)), .val (nm t), .val (nm acc), .val (.int lo)]) (by simp [nameG, setS_zero hs, setS_succ]) hh]
    exact g2
theorem foldl_shift : ∀ (l : List Rat) (a b : Rat), l.foldl (· + ·) (a + b) = l.foldl (· + ·) a + b
  | [], a, b => rfl
  | x :: l, a, b => by
    show l.foldl (· + ·) (a + b + x) = l.foldl (· + ·) (a + x) + b
    rw [show a + b + x = (a + x) + b by grind]
    exact foldl_shift l (a + x) b
theorem row_value_eval {r : Row} {qs : List Rat} {t : Rat} {a b n : Nat} (hr : RowIn a r) (hb : Bq b t) (hq : ∀ q ∈ qs, Bq n q) (hlen : r.co.length = qs.length) (h1 : 2 * (3 * (b + 6) + n + 5) + 5 * (a + b + 2) ≤ 1800) :
    Bq (2 * (3 * (b + 6) + n + 5) + 3 * (a + b + 2)) (rq r qs t) ∧ ∃ o, r_f_law_row_value [.val (rowD r), .val (.list (nmL qs)), .val (nm t)] = some (.val (nm (rq r qs t)), o) := by
  have hl2 := hr.len
  have kk : (r.k.length + 2) * (a + b + 2) ≤ 5 * (a + b + 2) := Nat.mul_le_mul (by have := hr.kl; omega) (Nat.le_refl _)
  obtain ⟨o2, v1⟩ := law_value_eval (a := a) hb hr.k (by omega)
  have vb := (vq_bd (a := a) hb r.k hr.k).up (show 1 + r.k.length * (a + b + 2) ≤ 1 + 3 * (a + b + 2) from Nat.add_le_add_left (Nat.mul_le_mul hr.kl (Nat.le_refl _)) 1)
  have hmm : (1 + 3 * (4 + b + 2) + n + 1) * qs.length ≤ (1 + 3 * (4 + b + 2) + n + 1) * 2 := Nat.mul_le_mul (Nat.le_refl _) (by omega)
  obtain ⟨s', g1, g2⟩ := rv_loop (r := r) (T := 1 + 3 * (4 + b + 2) + n) hb hr.co hq hlen rfl (by omega) (by omega) qs.length 0 0 (1 + 3 * (a + b + 2)) (vq r.k t) .un rfl (by omega) vb (by omega) rfl
  rw [List.drop_zero, List.drop_zero] at g1 g2
  have e : (tm r.co qs t).foldl (· + ·) (vq r.k t) = rq r qs t := by
    unfold rq
    rw [← foldl_shift, Rat.zero_add]
  rw [e] at g1 g2
  refine ⟨g1.up (by omega), run_rt (e := [.val (rowD r), .val (.list (nmL qs)), .val (nm t), .val (nm (rq r qs t)), s']) ?_ (by simp)⟩
  show seqB _ (seqB (forB _ _ rvB) _) [.val (rowD r), .val (.list (nmL qs)), .val (nm t), .un, .un] = _
  have x1 : ixD (rowD r) (.int 1) = some (.val (.list (iv r.k))) := rfl
  have key : ∀ (A D X : PyData) (I : List PyData) (G : Slot) (o : MEnv), ixD X (.int 1) = some (.val (.list I)) → r_f_law_value [.val (.list I), .val D] = some (.val A, o) → asgB 3 (callF 2 r_f_law_value (consA (datF (op2 (nameL 0) (datL (constD (.int 1))) ixD)) (consA (nameV 2) ((fun env => some ([], env)))))) [.val X, G, .val D, .un, .un] = some (.nx [.val X, G, .val D, .val A, .un]) := by
    intro A D X I G o x1 v1
    simp [seqB, ifB, asgB, retB, exprB, op1, op2, look, nameL, nameV, datL, datF, valF, constD, boolT, consA, tupF, lstF, setS_zv, setS_zo, setS_zu, setS_succ, Slot.dat, Slot.mut, Slot.put, nilB, callF, notT, andT, orT, andE, orE, ifE, boolS, tgtB, tupG, consG, nilG, nameG, retNm, appB, augB, callX, ioA, consX, argI, argV, argN, argsS, argS, ioIx, putB, popF, setB, x1, v1]
  rw [seq_nx (key _ _ _ _ _ _ x1 v1)]
  have hlenQ : lenD (.list (nmL qs)) = some (.val (.int (qs.length : Int))) := by
    show some (Slot.val (.int (((qs.map nm).length : Nat) : Int))) = _
    rw [List.length_map]
  have key2 : ∀ (N : Int) (Q : List PyData) (a b c d : Slot), lenD (.list Q) = some (.val (.int N)) → consA (datF (op1 (nameL 1) lenD)) ((fun env => some ([], env))) [a, .val (.list Q), b, c, d] = some ([.int N], [a, .val (.list Q), b, c, d]) := by
    intro N Q a b c d h
    simp [seqB, ifB, asgB, retB, exprB, op1, op2, look, nameL, nameV, datL, datF, valF, constD, boolT, consA, tupF, lstF, setS_zv, setS_zo, setS_zu, setS_succ, Slot.dat, Slot.mut, Slot.put, nilB, callF, notT, andT, orT, andE, orE, ifE, boolS, tgtB, tupG, consG, nilG, nameG, retNm, appB, augB, callX, ioA, consX, argI, argV, argN, argsS, argS, ioIx, putB, popF, setB, h]
  rw [seq_nx (forB_of (rng1_nat (c := (qs.length : Int)) (n := qs.length) (env1 := [.val (rowD r), .val (.list (nmL qs)), .val (nm t), .val (nm (vq r.k t)), .un]) (key2 _ _ _ _ _ _ hlenQ) rfl (by omega)) g2)]
  simp [seqB, ifB, asgB, retB, exprB, op1, op2, look, nameL, nameV, datL, datF, valF, constD, boolT, consA, tupF, lstF, setS_zv, setS_zo, setS_zu, setS_succ, Slot.dat, Slot.mut, Slot.put, nilB, callF, notT, andT, orT, andE, orE, ifE, boolS, tgtB, tupG, consG, nilG, nameG, retNm, appB, augB, callX, ioA, consX, argI, argV, argN, argsS, argS, ioIx, putB, popF, setB]
theorem law_fulfilled_eval {rows : List Row} {qs : List Rat} {t : Rat} {a b n : Nat} (hr : ∀ r ∈ rows, RowIn a r ∧ r.co.length = qs.length) (hb : Bq b t) (hq : ∀ q ∈ qs, Bq n q) (hrl : rows.length ≤ 100) (h1 : 2 * (3 * (b + 6) + n + 5) + 5 * (a + b + 2) ≤ 1800) :
    ∃ o, r_f_law_fulfilled [.val (.list (rwD rows)), .val (.list (nmL qs)), .val (nm t)] = some (.val (.bool (rows.all fun r => fitB r.s (rq r qs t).num)), o) := by
  refine run_rt (e := [.val (.list (rwD rows)), .val (.list (nmL qs)), .val (nm t), .un]) ?_ (by simp)
  have key : ∀ (R G D X A S : PyData) (N : Int) (B : Bool) (o1 o2 : MEnv), ixD X (.int 2) = some (.val S) → ixD A (.int 0) = some (.val (.int N)) → r_f_law_row_value [.val X, .val G, .val D] = some (.val A, o1) → r_f_law_fits [.val S, .val (.int N)] = some (.val (.bool B), o2) →
      datF (callF 2 r_f_law_fits (consA (datF (op2 (nameL 3) (datL (constD (.int 2))) ixD)) (consA (datF (op2 (datL (datF (callF 3 r_f_law_row_value (consA (nameV 3) (consA (nameV 1) (consA (nameV 2) ((fun env => some ([], env))))))))) (datL (constD (.int 0))) ixD)) ((fun env => some ([], env)))))) [.val R, .val G, .val D, .val X] = some (.bool B, [.val R, .val G, .val D, .val X]) := by
    intro R G D X A S N B o1 o2 i2 i0 v1 v3
    simp [seqB, ifB, asgB, retB, exprB, op1, op2, look, nameL, nameV, datL, datF, valF, constD, boolT, consA, tupF, lstF, setS_zv, setS_zo, setS_zu, setS_succ, Slot.dat, Slot.mut, Slot.put, nilB, callF, notT, andT, orT, andE, orE, ifE, boolS, tgtB, tupG, consG, nilG, nameG, retNm, appB, augB, callX, ioA, consX, argI, argV, argN, argsS, argS, ioIx, putB, popF, setB, v1, i0, i2, v3]
  have hc := comp_asF (fi := seqI (nameV 0)) (fe := datF (callF 2 r_f_law_fits (consA (datF (op2 (nameL 3) (datL (constD (.int 2))) ixD)) (consA (datF (op2 (datL (datF (callF 3 r_f_law_row_value (consA (nameV 3) (consA (nameV 1) (consA (nameV 2) ((fun env => some ([], env))))))))) (datL (constD (.int 0))) ixD)) ((fun env => some ([], env)))))))
    (j := 3) (env := [.val (.list (rwD rows)), .val (.list (nmL qs)), .val (nm t), .un]) (env1 := [.val (.list (rwD rows)), .val (.list (nmL qs)), .val (nm t), .un]) rows rowD (fun r => .bool (fitB r.s (rq r qs t).num)) (by simp [seqI, nameV]; rfl) rfl (by omega) (fun r hr0 => by
      obtain ⟨_, o1, v1⟩ := row_value_eval (hr r hr0).1 hb hq (hr r hr0).2 h1
      obtain ⟨o3, v3⟩ := law_fits_eval (hr r hr0).1.s (rq r qs t).num
      show datF _ [.val (.list (rwD rows)), .val (.list (nmL qs)), .val (nm t), .val (rowD r)] = some (_, [.val (.list (rwD rows)), .val (.list (nmL qs)), .val (nm t), .val (rowD r)])
      have i2 : ixD (rowD r) (.int 2) = some (.val (.str r.s)) := rfl
      have i0 := nm_0 (rq r qs t)
      exact key _ _ _ _ _ _ _ _ _ _ i2 i0 v1 v3)
  have ha := all_map (fun r : Row => fitB r.s (rq r qs t).num) rows
  exact seq_rt (ret_of (op1_of (datL_of (dat_of hc rfl)) ha))
/-! ### differences of polynomials -/
def lpB : MEnv → Option Out := (seqB (asgB 4 (valF (constD (.int 0)))) (seqB (ifB (boolT (op2 (nameL 3) (datL (datF (op1 (nameL 0) lenD))) ltD)) (seqB (asgB 4 (op2 (nameL 4) (datL (datF (op2 (nameL 0) (nameL 3) ixD))) addD)) (nilB)) (nilB)) (seqB (ifB (boolT (op2 (nameL 3) (datL (datF (op1 (nameL 1) lenD))) ltD)) (seqB (asgB 4 (op2 (nameL 4) (datL (datF (op2 (nameL 1) (nameL 3) ixD))) subD)) (nilB)) (nilB)) (seqB (appB 2 (nameV 4)) (nilB)))))
def ld (a b : List Int) (i : Nat) : Int := a.getD i 0 - b.getD i 0
theorem lp_turn {a b F : List Int} {i : Nat} {I : Int} {s : Slot} (hI : I = (i : Int)) (hs : nio s = true) (hF : F.length < 100000) : lpB [.val (.list (iv a)), .val (.list (iv b)), .own (iv F), .val (.int I), s] = some (.nx [.val (.list (iv a)), .val (.list (iv b)), .own (iv (F ++ [ld a b i])), .val (.int I), .val (.int (ld a b i))]) := by
  have hz : (iv F).length < 100000 := by rw [iv_len]; exact hF
  rw [← iv_snoc]
  have la := len_iv a
  have lb := len_iv b
  have ea : a.getD i 0 = if h : i < a.length then a[i] else 0 := by
    rw [List.getD_eq_getElem?_getD]
    split
    · rename_i h; rw [List.getElem?_eq_getElem h]; rfl
    · rename_i h; rw [List.getElem?_eq_none (by omega)]; rfl
  have eb : b.getD i 0 = if h : i < b.length then b[i] else 0 := by
    rw [List.getD_eq_getElem?_getD]
    split
    · rename_i h; rw [List.getElem?_eq_getElem h]; rfl
    · rename_i h; rw [List.getElem?_eq_none (by omega)]; rfl
  have n4 : ∀ (l : MEnv) (x : Slot), setS 0 x (s :: l) = some (x :: l) := fun l x => setS_zero hs
  unfold ld
  rw [ea, eb]
  by_cases h1 : i < a.length
  · have c1 : I < il a := by unfold il; omega
    have xa := ix_iv0 (ns := a) (i := I) i hI (List.getElem?_eq_getElem h1)
    rw [dif_pos h1]
    by_cases h2 : i < b.length
    · have c2 : I < il b := by unfold il; omega
      have xb := ix_iv0 (ns := b) (i := I) i hI (List.getElem?_eq_getElem h2)
      rw [dif_pos h2]
      generalize a[i] = A at *
      generalize b[i] = B at *
      generalize iv a = P at *
      generalize iv b = Q at *
      generalize iv F = R at *
      simp [lpB, seqB, ifB, asgB, retB, exprB, op1, op2, look, nameL, nameV, datL, datF, valF, constD, boolT, consA, tupF, lstF, setS_zv, setS_zo, setS_zu, setS_succ, Slot.dat, Slot.mut, Slot.put, nilB, callF, notT, andT, orT, andE, orE, ifE, boolS, tgtB, tupG, consG, nilG, nameG, retNm, appB, augB, callX, ioA, consX, argI, argV, argN, argsS, argS, ioIx, putB, popF, setB, n4, la, lb, lt_ii, c1, c2, xa, xb, add_ii, sub_ii, hz]
    · have c2 : ¬ I < il b := by unfold il; omega
      rw [dif_neg h2]
      generalize a[i] = A at *
      generalize iv a = P at *
      generalize iv b = Q at *
      generalize iv F = R at *
      simp [lpB, seqB, ifB, asgB, retB, exprB, op1, op2, look, nameL, nameV, datL, datF, valF, constD, boolT, consA, tupF, lstF, setS_zv, setS_zo, setS_zu, setS_succ, Slot.dat, Slot.mut, Slot.put, nilB, callF, notT, andT, orT, andE, orE, ifE, boolS, tgtB, tupG, consG, nilG, nameG, retNm, appB, augB, callX, ioA, consX, argI, argV, argN, argsS, argS, ioIx, putB, popF, setB, n4, la, lb, lt_ii, c1, c2, xa, add_ii, sub_ii, hz]
  · have c1 : ¬ I < il a := by unfold il; omega
    rw [dif_neg h1]
    by_cases h2 : i < b.length
    · have c2 : I < il b := by unfold il; omega
      have xb := ix_iv0 (ns := b) (i := I) i hI (List.getElem?_eq_getElem h2)
      rw [dif_pos h2]
      generalize b[i] = B at *
      generalize iv a = P at *
      generalize iv b = Q at *
      generalize iv F = R at *
      simp [lpB, seqB, ifB, asgB, retB, exprB, op1, op2, look, nameL, nameV, datL, datF, valF, constD, boolT, consA, tupF, lstF, setS_zv, setS_zo, setS_zu, setS_succ, Slot.dat, Slot.mut, Slot.put, nilB, callF, notT, andT, orT, andE, orE, ifE, boolS, tgtB, tupG, consG, nilG, nameG, retNm, appB, augB, callX, ioA, consX, argI, argV, argN, argsS, argS, ioIx, putB, popF, setB, n4, la, lb, lt_ii, c1, c2, xb, add_ii, sub_ii, hz]
    · have c2 : ¬ I < il b := by unfold il; omega
      rw [dif_neg h2]
      generalize iv a = P at *
      generalize iv b = Q at *
      generalize iv F = R at *
      simp [lpB, seqB, ifB, asgB, retB, exprB, op1, op2, look, nameL, nameV, datL, datF, valF, constD, boolT, consA, tupF, lstF, setS_zv, setS_zo, setS_zu, setS_succ, Slot.dat, Slot.mut, Slot.put, nilB, callF, notT, andT, orT, andE, orE, ifE, boolS, tgtB, tupG, consG, nilG, nameG, retNm, appB, augB, callX, ioA, consX, argI, argV, argN, argsS, argS, ioIx, putB, popF, setB, n4, la, lb, lt_ii, c1, c2, add_ii, sub_ii, hz]
theorem lp_loop {a b : List Int} : ∀ (n i : Nat) (lo : Int) (F : List Int) (k s : Slot), lo = (i : Int) → F.length + n ≤ 100000 → nio k = true → nio s = true → ∃ k' s', forLoop (nameG 3) lpB (Ip.intsFrom lo n) [.val (.list (iv a)), .val (.list (iv b)), .own (iv F), k, s] = some (.nx [.val (.list (iv a)), .val (.list (iv b)), .own (iv (F ++ (List.range' i n).map (ld a b))), k', s'])
  | 0, i, lo, F, k, s, hlo, hl, hk, hs => ⟨k, s, by simp [forLoop, Ip.intsFrom]⟩
  | n + 1, i, lo, F, k, s, hlo, hl, hk, hs => by
    obtain ⟨k', s', g⟩ := lp_loop (a := a) (b := b) n (i + 1) (lo + 1) (F ++ [ld a b i]) (.val (.int lo)) (.val (.int (ld a b i))) (by omega) (by simp; omega) rfl rfl
    refine ⟨k', s', ?_⟩
    rw [ints_succ, for_nx (e1 := [.val (.list (iv a)), .val (.list (iv b)), .own (iv F), .val (.int lo), s]) (by simp [nameG, setS_zero hk, setS_succ]) (lp_turn hlo hs (by omega))]
    rw [List.append_assoc] at g
    exact g
theorem less_poly_eval {a b : List Int} {m : Nat} (ha : Bl m a) (hb : Bl m b) (hla : a.length ≤ 1000) (hlb : b.length ≤ 1000) : ∃ cs : List Int, Bl (m + 1) cs ∧ (cs.length ≤ a.length ∨ cs.length ≤ b.length) ∧ ∃ o, r_f_law_less_poly [.val (.list (iv a)), .val (.list (iv b))] = some (.own (iv cs), o) := by
  obtain ⟨N, hN, hN2⟩ : ∃ N : Nat, (N : Int) = (if il b > il a then il b else il a) ∧ (N ≤ a.length ∨ N ≤ b.length) ∧ N ≤ 1000 := by
    by_cases h : il b > il a
    · exact ⟨b.length, by rw [if_pos h]; rfl, .inr (Nat.le_refl _), hlb⟩
    · exact ⟨a.length, by rw [if_neg h]; rfl, .inl (Nat.le_refl _), hla⟩
  obtain ⟨k', s', g⟩ := lp_loop (a := a) (b := b) N 0 0 [] .un .un rfl (by simp; omega) rfl rfl
  rw [List.nil_append] at g
  generalize hD : (List.range' 0 N).map (ld a b) = D at *
  have hDl : D.length = N := by rw [← hD]; simp
  have get_bd : ∀ (l : List Int), Bl m l → ∀ i, (l.getD i 0).natAbs < 2 ^ m := fun l hl i => by
    rw [List.getD_eq_getElem?_getD]
    by_cases h : i < l.length
    · rw [List.getElem?_eq_getElem h]
      exact hl _ (List.getElem_mem h)
    · rw [List.getElem?_eq_none (by omega)]
      exact Nat.pow_pos (by decide)
  have hDb : Bl (m + 1) D := by
    intro c hc
    rw [← hD] at hc
    obtain ⟨i, _, rfl⟩ := List.mem_map.mp hc
    exact natAbs_sub_lt (get_bd a ha i) (get_bd b hb i)
  obtain ⟨k, hk, o, ht⟩ := trim_eval D (by omega)
  refine ⟨D.take k, Bl.take hDb k, by rw [List.length_take]; omega, run_rt (e := [.val (.list (iv a)), .val (.list (iv b)), .val (.list (iv D)), k', s']) ?_ (by simp)⟩
  show seqB _ (seqB (forB _ _ lpB) _) [.val (.list (iv a)), .val (.list (iv b)), .un, .un, .un] = _
  have k0 : ∀ (a b c d : Slot), asgB 2 (lstF ((fun env => some ([], env)))) [a, b, .un, c, d] = some (.nx [a, b, .own [], c, d]) := by
    intro a b c d
    simp [seqB, ifB, asgB, retB, exprB, op1, op2, look, nameL, nameV, datL, datF, valF, constD, boolT, consA, tupF, lstF, setS_zv, setS_zo, setS_zu, setS_succ, Slot.dat, Slot.mut, Slot.put, nilB, callF, notT, andT, orT, andE, orE, ifE, boolS, tgtB, tupG, consG, nilG, nameG, retNm, appB, augB, callX, ioA, consX, argI, argV, argN, argsS, argS, ioIx, putB, popF, setB]
  have k0' : asgB 2 (lstF ((fun env => some ([], env)))) [.val (.list (iv a)), .val (.list (iv b)), .un, .un, .un] = some (.nx [.val (.list (iv a)), .val (.list (iv b)), .own (iv []), .un, .un]) := k0 _ _ _ _
  rw [seq_nx k0']
  have hmx : max2D (.int (il a)) (.int (il b)) = some (.val (.int (if il b > il a then il b else il a))) := rfl
  have key : ∀ (P Q R : List PyData) (x y z : Int) (c d : Slot), lenD (.list P) = some (.val (.int x)) → lenD (.list Q) = some (.val (.int y)) → max2D (.int x) (.int y) = some (.val (.int z)) → consA (datF (op2 (datL (datF (op1 (nameL 0) lenD))) (datL (datF (op1 (nameL 1) lenD))) max2D)) ((fun env => some ([], env))) [.val (.list P), .val (.list Q), .own R, c, d] = some ([.int z], [.val (.list P), .val (.list Q), .own R, c, d]) := by
    intro P Q R x y z c d la lb hmx
    simp [seqB, ifB, asgB, retB, exprB, op1, op2, look, nameL, nameV, datL, datF, valF, constD, boolT, consA, tupF, lstF, setS_zv, setS_zo, setS_zu, setS_succ, Slot.dat, Slot.mut, Slot.put, nilB, callF, notT, andT, orT, andE, orE, ifE, boolS, tgtB, tupG, consG, nilG, nameG, retNm, appB, augB, callX, ioA, consX, argI, argV, argN, argsS, argS, ioIx, putB, popF, setB, la, lb, hmx]
  have kk := key _ _ (iv []) _ _ _ .un .un (len_iv a) (len_iv b) hmx
  generalize (if il b > il a then il b else il a) = MX at *
  rw [seq_nx (forB_of (rng1_nat kk hN.symm (by omega)) g)]
  exact seq_rt (ret_of (call1_of (d := .list (iv D)) (e1 := [.val (.list (iv a)), .val (.list (iv b)), .val (.list (iv D)), k', s']) rfl ht))
end Lw

set_option Elab.async false
set_option linter.all false
set_option maxRecDepth 100000
set_option maxHeartbeats 4000000
/-! xs[-2::-1] -/
namespace PySem.W
open PySem
theorem krv2_bounds (m : Nat) : sliceBounds (some (-2)) none (some (-1)) (m + 1) = ((m : Int) - 1, -1, -1) := by
  unfold sliceBounds
  simp
  omega
theorem krv2_pick (items : Array Value) : slicePick items (some (-2)) none (some (-1)) = items.toList.dropLast.reverse.toArray := by
  rcases Nat.eq_zero_or_pos items.size with h | h
  · have e : items = #[] := Array.eq_empty_of_size_eq_zero h
    subst e
    rfl
  · obtain ⟨m, hm⟩ : ∃ m, items.size = m + 1 := ⟨items.size - 1, by omega⟩
    unfold slicePick
    rw [hm, krv2_bounds]
    show ((sliceRange ((m : Int) - 1) (-1) (-1)).filterMap (items[·]?)).toArray = _
    rw [krv_sliceRange, krv_range, List.filterMap_reverse]
    have hp := pick_run items 0 m
    have e : (List.range m).map (0 + ·) = List.range m := by
      rw [show ((0 + ·) : Nat → Nat) = id from funext fun k => Nat.zero_add k, List.map_id]
    rw [e, List.drop_zero] at hp
    rw [hp, List.dropLast_eq_take, Array.length_toList, hm, Nat.add_sub_cancel]
end PySem.W
namespace L2
open PySem PySem.Spec PyProof.Rows
variable {X : Cx}
def tRevM (K : PySem.W.Frag) (te : TE) : TE := fun σ H Q => te σ H fun x H1 => ∃ a xs, x = .ref a ∧ SqL K H1 a xs ∧ ∀ p, H1 p = none → Q (.ref p) (upd H1 p (.lst xs.dropLast.reverse))
theorem vals_dropLast {xs : List V} {its : List Value} (r : Vals xs its) : Vals xs.dropLast its.dropLast := by
  rw [List.dropLast_eq_take, List.dropLast_eq_take, r.length]
  exact r.take _
theorem pe_revM {e : Expr} {te : TE} {k k0 : Nat} {p1 p2 p3 q1 q2 pos : Pos} (he : PE X e te) : PE X (.Subscript e (.Slice (some (.UnaryOp .USub (.Constant (.int 2) k0 q1) q2)) none (some (.UnaryOp .USub (.Constant (.int 1) k p1) p2)) p3) pos) (tRevM X.K te) := by
  refine ⟨fun pins s σ H Q I h => ?_⟩
  refine Subscript_ (thn (he.run pins s σ H _ I h) fun v s1 ⟨x, H1, I1, r1, q1'⟩ => ?_)
  obtain ⟨a, xs, ex, hx, q⟩ := q1'
  subst ex
  cases r1
  have hst : PO X (some (.UnaryOp .USub (.Constant (.int 1) k p1) p2)) (tPart (tUn (rU fun i => .int (-i)) (tC (.int 1)))) := po_some (pe_un un_neg pe_int)
  have hsl : PO X (some (.UnaryOp .USub (.Constant (.int 2) k0 q1) q2)) (tPart (tUn (rU fun i => .int (-i)) (tC (.int 2)))) := po_some (pe_un un_neg pe_int)
  refine wpAny_Slice (thn (hsl.run pins s1 σ H1 (fun o H2 => o = some (-2) ∧ H2 = H1) I1 ⟨2, rfl, -2, rfl, rfl, rfl⟩) fun vl s2 ⟨l, H2, I2, pl, el, e2⟩ => ?_)
  subst el e2
  refine thn (po_none.run pins s2 σ H2 (fun o H3 => o = none ∧ H3 = H2) I2 ⟨rfl, rfl⟩) fun vu s3 ⟨u, H3, I3, pu, eu, e3⟩ => ?_
  subst eu e3
  refine thn (hst.run pins s3 σ H3 (fun o H4 => o = some (-1) ∧ H4 = H3) I3 ⟨1, rfl, -1, rfl, rfl, rfl⟩) fun vs s4 ⟨o, H4, I4, ps, eo, e4⟩ => ?_
  subst eo e4
  have I5 : Inv X pins σ H4 { s4 with heap := s4.heap.push { cls := .type "slice", data := .fields #[vl, vu, vs] } } := I4.kept (t' := s4.toks) fun b ob q => Heap.get?_push_of_some _ q
  obtain ⟨its, r, ht, hz⟩ := I5.list hx
  have hlen := r.length
  show wpAny (model X.prog X.w) X.A (subscriptTail e (.Slice (some (.UnaryOp .USub (.Constant (.int 2) k0 q1) q2)) none (some (.UnaryOp .USub (.Constant (.int 1) k p1) p2)) p3) (.ref a) (.ref s4.heap.objs.size)) (EP X pins σ Q) X.xe { s4 with heap := s4.heap.push { cls := .type "slice", data := .fields #[vl, vu, vs] } }
  refine tail_any (ops := [.ref a, .ref s4.heap.objs.size]) ht.isList.typeIs (PySem.slot_list_getitem.lookup) ?_ (by with_unfolding_all rfl)
  refine wpAny_getItem_list_slice ht.isList (Heap.IsSliceOf.new _ vl vu vs) pl pu ps (by decide) ?_ (by rw [List.size_toArray]; omega)
  rw [PySem.W.krv2_pick]
  refine ⟨.ref _, _, I5.laid (t' := s4.toks) (o := .lst xs.dropLast.reverse) (fun b ob q => Heap.get?_push_of_some _ q) (Nat.le_refl _) ?_, rfl, q _ (I5.hok.fresh (Nat.le_refl _))⟩
  exact ⟨by rw [List.length_reverse, List.length_dropLast]; omega, _, 0, (vals_dropLast r).reverse, Heap.get?_push_size _ rfl⟩
end L2
namespace Ip
open PySem L2
def rvmD : PyData → Option Slot
  | .list xs => some (.own xs.dropLast.reverse)
  | _ => none
theorem RepL.dropLast {K : PySem.W.Frag} {H : Hp} {ds : List PyData} {vs : List V} (h : RepL K H ds vs) : RepL K H ds.dropLast vs.dropLast := by
  rw [List.dropLast_eq_take, List.dropLast_eq_take, RepL.length h]
  exact RepL.take _ h
theorem se_rvm {X : Cx} {a : Expr} {pos : Pos} {k k0 : Nat} {p1 p2 p3 q1 q2 : Pos} {fa : MEnv → Option (Lr × MEnv)} (ha : SL X a fa) : SE X (.Subscript a (.Slice (some (.UnaryOp .USub (.Constant (.int 2) k0 q1) q2)) none (some (.UnaryOp .USub (.Constant (.int 1) k p1) p2)) p3) pos) (op1 fa rvmD) := by
  refine se_op1 (r := fun v H Q => ∃ p xs, v = .ref p ∧ SqL X.K H p xs ∧ ∀ q, H q = none → Q (.ref q) (upd H q (.lst xs.dropLast.reverse))) ha ?_ (pe_revM (W.pe X a))
  intro Hs H σ env x v s hs I hx Q q
  cases x <;> try (cases hs; done)
  cases hs
  obtain ⟨p, vs, rfl, h1, h2⟩ := hx
  exact ⟨p, vs, rfl, h1, ok_newL I rfl (RepL.reverse (RepL.dropLast h2)) q⟩
/-! ### a list of the def's own that a call only looks at -/
mutual
def free : PyData → Bool
  | .tuple xs => freeL xs
  | .list _ => false
  | .dict _ => false
  | _ => true
def freeL : List PyData → Bool
  | [] => true
  | x :: xs => free x && freeL xs
end
def minus (H : Hp) (p : Addr) : Hp := fun a => if a = p then none else H a
mutual
theorem Rep.minus {K : PySem.W.Frag} {H : Hp} {p : Addr} {ws : List V} (hp : H p = some (.lst ws)) : ∀ (d : PyData) (v : V), free d = true → Rep K H d v → Rep K (minus H p) d v
  | .none, v, _, h => h
  | .bool _, v, _, h => h
  | .int _, v, _, h => h
  | .str _, v, _, h => h
  | .list _, v, f, _ => by simp [free] at f
  | .dict _, v, f, _ => by simp [free] at f
  | .tuple xs, v, f, h => by
    obtain ⟨a, vs, e1, h1, h2⟩ := h
    have f : freeL xs = true := by simpa [free] using f
    refine ⟨a, vs, e1, ?_, RepL.minus hp xs vs f h2⟩
    rcases h1 with h1 | h1
    · refine .inl ?_
      have ne : a ≠ p := by
        rintro rfl
        rcases h1 with h1 | ⟨o, h1⟩
        · rw [hp] at h1; cases h1
        · rw [hp] at h1; cases h1
      unfold Rd Ip.minus
      rw [if_neg ne]
      exact h1
    · exact .inr h1
theorem RepL.minus {K : PySem.W.Frag} {H : Hp} {p : Addr} {ws : List V} (hp : H p = some (.lst ws)) : ∀ (ds : List PyData) (vs : List V), freeL ds = true → RepL K H ds vs → RepL K (minus H p) ds vs
  | [], vs, _, h => h
  | d :: ds, vs, f, h => by
    obtain ⟨v, r, e1, h1, h2⟩ := h
    have f : free d = true ∧ freeL ds = true := by simpa [freeL] using f
    exact ⟨v, r, e1, Rep.minus hp d v f.1 h1, RepL.minus hp ds r f.2 h2⟩
end
def noMut : MEnv → Bool
  | [] => true
  | s :: r => s.mut.isNone && noMut r
def lone : Nat → MEnv → Bool
  | _, [] => true
  | 0, _ :: r => noMut r
  | i + 1, s :: r => s.mut.isNone && lone i r
theorem noMut_get : ∀ {env : MEnv} {j : Nat} {s : Slot} {xs : List PyData}, noMut env = true → env[j]? = some s → s.mut = some xs → False
  | [], j, s, xs, h, e, m => by simp at e
  | s0 :: r, 0, s, xs, h, e, m => by
    have h : s0.mut.isNone = true ∧ noMut r = true := by simpa [noMut] using h
    have e : s0 = s := by simpa using e
    rw [e, m] at h
    simp at h
  | s0 :: r, j + 1, s, xs, h, e, m => by
    have h : s0.mut.isNone = true ∧ noMut r = true := by simpa [noMut] using h
    exact noMut_get h.2 (by simpa using e) m
theorem lone_get : ∀ {i : Nat} {env : MEnv} {j : Nat} {s : Slot} {xs : List PyData}, lone i env = true → env[j]? = some s → s.mut = some xs → j = i
  | i, [], j, s, xs, h, e, m => by simp at e
  | 0, s0 :: r, 0, s, xs, h, e, m => rfl
  | 0, s0 :: r, j + 1, s, xs, h, e, m => (noMut_get (env := r) (j := j) (by simpa [lone] using h) (by simpa using e) m).elim
  | i + 1, s0 :: r, 0, s, xs, h, e, m => by
    have h : s0.mut.isNone = true ∧ lone i r = true := by simpa [lone] using h
    have e : s0 = s := by simpa using e
    rw [e, m] at h
    simp at h
  | i + 1, s0 :: r, j + 1, s, xs, h, e, m => by
    have h : s0.mut.isNone = true ∧ lone i r = true := by simpa [lone] using h
    have := lone_get (i := i) (env := r) (j := j) h.2 (by simpa using e) m
    omega
def borF (i : Nat) (f : MEnv → Option (Slot × MEnv)) : MEnv → Option (Slot × MEnv) := fun env => match env[i]? with
  | some (.own xs) => match f (env.set i (.val (.list xs))) with
    | some (.val d, _) => if free d && lone i env then some (.val d, env) else none
    | _ => none
  | _ => none
theorem se_bor {X : Cx} {e : Expr} {i : Nat} {f : MEnv → Option (Slot × MEnv)} (h : SE X e f) : SE X e (borF i f) := by
  refine ⟨?_⟩
  intro env σ Hs H r env' hf I Q q
  unfold borF at hf
  split at hf
  · rename_i xs h0
    split at hf
    · rename_i d e1 h1
      split at hf
      · rename_i hc
        cases hf
        have hc : free d = true ∧ lone i env = true := by simpa using hc
        obtain ⟨p, vs, g1, gr, g, I1⟩ := freeze I h0
        obtain ⟨p', vs', m1, m2, m3, m4⟩ := I.muts i _ xs h0 rfl
        rw [g1] at m1
        cases m1
        refine h.run _ σ _ H _ _ h1 I1 Q fun v Hs2 H2 g2 I2 rr => ?_
        have hp1 : upd Hs p (.lst vs) p = some (.lst vs) := upd_same
        have hp2 : Hs2 p = some (.lst vs) := g2.sh p _ hp1
        have hHp : H p = some (.lst vs) := I1.sh p _ hp1
        have hH2 : H2 p = some (.lst vs) := I2.sh p _ hp2
        have exm : Evl.Ex Hs (Ip.minus Hs2 p) := fun a o ha => by
          have ne : a ≠ p := by rintro rfl; rw [m2] at ha; cases ha
          unfold Ip.minus
          rw [if_neg ne]
          exact g2.sh a o (by rw [upd_ne ne]; exact ha)
        have vv : vs' = vs := by rw [m3] at hHp; cases hHp; rfl
        have nm : ∀ a, MutAt σ env a → a = p := fun a m => by
          obtain ⟨j, s, ys, e1, e2, e3⟩ := m
          have ej := lone_get hc.2 e1 e2
          subst ej
          rw [g1] at e3
          cases e3
          rfl
        have nm1 : ∀ a, ¬ MutAt σ (env.set i (.val (.list xs))) a := fun a m => by
          obtain ⟨j, s, ys, e1, e2, e3⟩ := m
          rcases getElem_set_cases e1 with ⟨_, e4⟩ | ⟨ne, e4⟩
          · rw [← e4] at e2; cases e2
          · exact ne (lone_get hc.2 e4 e2).symm
        refine q v (Ip.minus Hs2 p) H2 ⟨exm, fun a o ha _ => g2.kp a o ha (nm1 a), fun a o ha => g2.dm a o ha, fun a o ha => ?_, fun a m => m, fun a m => m, fun j ys hj => ⟨ys, hj⟩⟩ ⟨I.len, fun a o ha => ?_, fun j d' hj => ?_, fun j s ys hj hm => ?_, I.diff⟩ (Rep.minus hp2 d v hc.1 rr)
        · unfold Ip.minus at ha
          by_cases ea : a = p
          · rw [if_pos ea] at ha; cases ha
          · rw [if_neg ea] at ha
            rcases g2.nw a o ha with z | z | z
            · rw [upd_ne ea] at z
              exact .inl z
            · exact .inr (.inl z)
            · obtain ⟨j, ys, e1, e3⟩ := z
              exact (nm1 a ⟨j, _, ys, e1, rfl, e3⟩).elim
        · unfold Ip.minus at ha
          by_cases ea : a = p
          · rw [if_pos ea] at ha; cases ha
          · rw [if_neg ea] at ha
            exact I2.sh a o ha
        · obtain ⟨w, w1, w2⟩ := I.vals j d' hj
          exact ⟨w, w1, Rep.mono exm d' w w2⟩
        · have ej := lone_get hc.2 hj hm
          subst ej
          rw [h0] at hj
          cases hj
          cases hm
          exact ⟨p, vs, g1, by unfold Ip.minus; rw [if_pos rfl], hH2, RepL.mono exm xs vs (vv ▸ m4)⟩
      · cases hf
    · cases hf
  · cases hf
end Ip

set_option Elab.async false
set_option linter.all false
set_option maxRecDepth 100000
set_option maxHeartbeats 4000000
/-! divmod -/
namespace Ip
open PySem L2
variable {X : Cx}
def divmodD : PyData → PyData → Option Slot
  | .int i, .int j => if decide (0 < j) && divOk j then some (.val (.tuple [.int (i.fdiv j), .int (i.fmod j)])) else none
  | _, _ => none
theorem ok_divmod : R2ok X.K (fun v u H Q => ∃ i j, [v, u] = [V.int i, V.int j] ∧ CDivP i j ∧ ∀ p, H p = none → Q (.ref p) (upd H p (.tup [.int (i / j), .int (i % j)]))) divmodD := by
  intro Hs H σ env x y v u s hs I hx hy Q q
  cases x <;> cases y <;> try (cases hs; done)
  rename_i i j
  unfold divmodD at hs
  simp only at hs
  split at hs
  · rename_i hc
    cases hs
    have hc : 0 < j ∧ divOk j = true := by simpa using hc
    obtain ⟨h1, h2⟩ := hc
    have h3 : j ≠ 0 ∧ j.natAbs.log2 < 9000 := by simpa [divOk] using h2
    refine ⟨i, j, by rw [(show v = V.int i from hx), (show u = V.int j from hy)], ⟨h1, ?_⟩, ?_⟩
    · exact PyProof.noPylong_of_log2 h3.2
    · rw [← Int.fdiv_eq_ediv_of_nonneg i (by omega), ← Int.fmod_eq_emod_of_nonneg i (by omega)]
      exact ok_newT (s := .val (.tuple [.int (i.fdiv j), .int (i.fmod j)])) I rfl ⟨_, _, rfl, rfl, ⟨_, _, rfl, rfl, rfl⟩⟩ q
  · cases hs
end Ip

set_option Elab.async false
set_option linter.all false
set_option maxRecDepth 100000
set_option maxHeartbeats 4000000
/-! xs[a:] = ys -/
namespace L2
open PySem PySem.Spec PyProof.Rows
section
variable {prog : Program} {w : World} {A : Around} {E : Value → Shared → Prop} {s : Shared}
theorem open_bounds {a n : Nat} (ha : a ≤ n) : sliceBounds (some (a : Int)) none none n = ((a : Int), (n : Int), 1) := by
  have h1 : ¬ ((a : Int) < 0) := by omega
  have e : min (a : Int) (n : Int) = (a : Int) := by omega
  simp [sliceBounds, h1]
  omega
theorem open_splice (its its2 : List Value) (a : Nat) : its.toArray.extract 0 a ++ its2.toArray ++ its.toArray.extract its.toArray.size its.toArray.size = (its.take a ++ its2).toArray := by
  apply Array.toList_inj.mp
  simp
set_option maxRecDepth 100000 in
theorem setItem_open {l b sl : Addr} {items new : Array Value} {n n2 : Nat} {vl vu : Value} {a : Nat} {Q : Unit → Shared → Prop} (e : s.heap.get? l = some ⟨.type "list", none, .seq items n, #[]⟩) (e2 : s.heap.get? b = some ⟨.type "list", none, .seq new n2, #[]⟩) (hne : l ≠ b)
    (hs : s.heap.IsSliceOf sl vl vu .none) (pl : IsPart vl (some (a : Int))) (pu : IsPart vu none) (ha : a ≤ items.size) (hsz : items.size + new.size ≤ sizeLine) (h : Q () { s with heap := s.heap.update l (Obj.mapSeq fun xs => xs.extract 0 a ++ new ++ xs.extract items.size xs.size) }) :
    wpAny (model prog w) A (setItem (.ref l) (.ref sl) (.ref b)) Q E s := by
  have hl : s.heap.IsList l items := PySem.IsL.isList e
  have hb : s.heap.IsList b new := PySem.IsL.isList e2
  obtain ⟨os, hos, hcs, hds⟩ := id hs
  have hT : s.TypeIs (.ref sl) "slice" := ⟨os, hos, hcs⟩
  have hd : Builtin.List.listSameRef (.ref l) (.ref b) = false := beq_eq_false_iff_ne.mpr hne
  have hmx : (max (a : Int) (items.size : Int)).toNat = items.size := by omega
  have hz2 : ((fun xs : Array Value => xs.extract 0 a ++ new ++ xs.extract items.size xs.size) items).size ≤ sizeLine + 1 := by simp only [Array.size_append, Array.size_extract]; omega
  unfold setItem
  (try with_reducible refine wpAny_holding ?_); (first | refine wpAny_bind (wpAny_pure ?_) | skip)
  refine wpAny_bind (wpAny_sequenceKey hl.typeIs (by decide) (wpAny_bind (wpAny_callSpecial?_slot (name := Str.ofString "__setitem__") hl.typeIs slot_list_setitem (wpAny_call_entry slot_list_setitem hl.typeIs entry_list_setitem ?_ (args_list_setitem _ _ _)))))
  (show wpAny _ _ (Builtin.List.listSubscript? (.ref sl) >>= _) _ _ s); refine wpAny_bind ?_
  unfold Builtin.List.listSubscript?
  refine wpAny_bind (wpAny_specialOf hT slice_no_index ?_); simp only [Option.isNone_none, if_true]; refine wpAny_pure ?_
  (show wpAny _ _ (typeOf (.ref sl) >>= _) _ _ s); refine wpAny_bind (wpAny_typeOf hT ?_)
  first | rw [if_neg (by decide)] | refine PySem.W.KFB.if_not (by decide) ?_
  rw [listSliceParts_eq]
  refine wpAny_bind (wpAny_bind (wpAny_field hos hds (x := .none) rfl (wpAny_bind (wpAny_listPart .none ?_)))); rw [if_neg (show ¬ ((rawPart none == rawInt 0) = true) from Bool.false_ne_true)]
  refine wpAny_bind (wpAny_field hos hds (x := vl) rfl (wpAny_bind (wpAny_listPart pl (wpAny_bind (wpAny_field hos hds (x := vu) rfl (wpAny_bind (wpAny_listPart pu (wpAny_pure ?_))))))))
  first | (simp only [hd, Bool.false_eq_true, if_false]) | (refine PySem.W.KFB.if_not hd ?_) | (dsimp only; rw [if_neg (by rw [hd]; exact Bool.false_ne_true)])
  refine wpAny_bind (m := Builtin.List.listAllItems (.ref b) "must assign iterable to extended slice") ?_; unfold Builtin.List.listAllItems; refine wpAny_bind (wpAny_typeOf hb.typeIs ?_)
  first | (refine PySem.W.KFB.if_so (by decide) ?_) | (rw [if_pos (by decide)]) | (simp only [beq_self_eq_true, Bool.true_or, if_true])
  unfold Builtin.List.listItems
  refine wpAny_bind (wpAny_seqItems e2 rfl (wpAny_pure (wpAny_bind (wpAny_bind (wpAny_seqItems e rfl (wpAny_pure ?_))))))
  refine wpAny_bind (wpAny_of_eq ((sliceIndices_raw (some (a : Int)) none none items.size (by simp)).trans (congrArg (pure : Int × Int × Int → Sem (Int × Int × Int)) (open_bounds ha))) ?_)
  (show wpAny _ _ (if ((1 : Int) == 1) = true then _ else _) _ _ s); rw [if_pos (by decide)]; refine wpAny_bind (wpAny_rule ?_)
  first | (simp only [notLongL hsz, Bool.false_eq_true, if_false]) | (refine PySem.W.KFB.if_not (notLongL hsz) ?_)
  first | refine wpAny_bind (wpAny_pure ?_) | skip
  show wpAny _ _ (updateSeq l (fun xs => xs.extract 0 ((a : Int)).toNat ++ new ++ xs.extract (max (a : Int) (items.size : Int)).toNat xs.size) >>= _) _ _ s
  rw [hmx, Int.toNat_natCast]
  refine wpAny_bind (wpAny_updateSeq (hz := Nat.le_trans (Nat.le_add_right _ _) hsz) (_hz' := hz2) e rfl (wpAny_bind (wpAny_letGo ?_)))
  first | exact wpAny_bind (wpAny_pure (wpAny_pure ⟨.none, rfl, wpAny_pure h⟩)) | exact wpAny_pure ⟨.none, rfl, wpAny_pure h⟩
end
section
variable {X : Cx}
theorem set_open {pins : List (Addr × Obj)} {s : Shared} {σ : St} {H : Hp} {l b sl : Addr} {xs ys : List V} {a : Nat} {vl vu : Value} {Q : Unit → Shared → Prop} (I : Inv X pins σ H s) (hH : H l = some (.lst xs)) (hB : H b = some (.lst ys)) (hne : l ≠ b)
    (hs : s.heap.IsSliceOf sl vl vu .none) (pl : IsPart vl (some (a : Int))) (pu : IsPart vu none) (ha : a ≤ xs.length) (hz : xs.length + ys.length ≤ sizeLine) (h : ∀ s', Inv X pins σ (upd H l (.lst (xs.take a ++ ys))) s' → Q () s') :
    wpAny (model X.prog X.w) X.A (setItem (.ref l) (.ref sl) (.ref b)) Q X.xe s := by
  obtain ⟨z, its, n, r, hl, e⟩ := I.lstM hH
  obtain ⟨z2, its2, n2, r2, hl2, e2⟩ := I.lstM hB
  refine setItem_open (a := a) e e2 hne hs pl pu (by rw [List.size_toArray]; omega) (by rw [List.size_toArray, List.size_toArray]; omega) (h _ ?_)
  refine I.lset (its' := its.take a ++ its2) (t' := s.toks) hH e (open_splice its its2 a) (Vals.append (r.take _) r2) ?_
  rw [List.length_append, List.length_take]
  omega
/-- the target xs[lo:] -/
def gOpen (to : TE) (tl : TO) : TG := fun v σ H Q => to σ H fun o H1 => tl σ H1 fun l H2 => ∃ a b xs ys, ∃ c : Nat, o = .ref a ∧ v = .ref b ∧ l = some (c : Int) ∧ a ≠ b ∧ H2 a = some (.lst xs) ∧ H2 b = some (.lst ys) ∧ c ≤ xs.length ∧ xs.length + ys.length ≤ sizeLine ∧ Q σ (upd H2 a (.lst (xs.take c ++ ys)))
theorem pg_open {o lo : Expr} {to : TE} {tl : TO} {p3 pos : Pos} (ho : PE X o to) (hl : PO X (some lo) tl) : PG X (.Subscript o (.Slice (some lo) none none p3) pos) (gOpen to tl) := by
  refine ⟨fun pins s σ H v u Q I r h => ?_⟩
  show wpAny _ _ (do
      let ov ← holding [u] (eval o X.env)
      let iv ← holding [u, ov] (eval (.Slice (some lo) none none p3) X.env)
      standAt pos
      holding [u, ov, iv] (setItem ov iv u)
      release [iv, u, ov] []) _ _ _
  refine wpAny_bind (wpAny_holding (thn (ho.run pins s σ H _ I h) fun ov s1 ⟨x, H1, I1, r1, q1⟩ => wpAny_bind (wpAny_holding ?_)))
  refine wpAny_Slice (thn (hl.run pins s1 σ H1 _ I1 q1) fun vl s2 ⟨l, H2, I2, pl, q2⟩ => ?_)
  refine thn (po_none.run pins s2 σ H2 (fun o' H3 => o' = none ∧ H3 = H2) I2 ⟨rfl, rfl⟩) fun vu s3 ⟨u3, H3, I3, pu, eu, e3⟩ => ?_
  subst eu e3
  rw [evalPart_none]
  refine wpAny_pure ?_
  obtain ⟨a, b, xs, ys, c, rfl, rfl, rfl, hne, ha, hb, hc, hz, q⟩ := q2
  cases r1
  cases r
  have I4 : Inv X pins σ H3 { s3 with heap := s3.heap.push { cls := .type "slice", data := .fields #[vl, vu, .none] } } := I3.kept (t' := s3.toks) fun b ob q => Heap.get?_push_of_some _ q
  refine wpAny_bind (wpAny_standAt (wpAny_bind (wpAny_holding ?_)))
  exact set_open I4 ha hb hne (Heap.IsSliceOf.new ..) pl pu hc hz fun s5 I5 => wpAny_release ⟨σ, _, I5, q⟩
/-! any(xs) of a list of ints -/
theorem truth_ints {prog : Program} {w : World} {A : Around} {ns : List Int} {its : List Value} (e : IntsAre its ns) : TruthOf prog w A (fun i v => its.toArray[i]? = some v) (fun i => (ns.getD i 0) != 0) := fun i v s Q E hv hq => by
  have hv' : its[i]? = some v := by simpa using hv
  have key : ∀ {its : List Value} {ns : List Int} {i : Nat}, IntsAre its ns → its[i]? = some v → ∃ t, v = .int (ns.getD i 0) t := by
    intro its ns i h
    induction h generalizing i with
    | nil => intro z; simp at z
    | cons n t h ih =>
      intro z
      cases i with
      | zero => simp at z; exact ⟨t, z.symm⟩
      | succ i => simp at z; simpa using ih z
  obtain ⟨t, rfl⟩ := key e hv'
  exact PySem.P.truthy_int hq
def rAnyI (K : PySem.W.Frag) : List V → Hp → VK → Prop := fun vs H Q => ∃ (a : Addr) (ns : List Int), vs = [V.ref a] ∧ SqL K H a (ns.map V.int) ∧ Q (.bl (ns.any fun n => n != 0)) H
theorem any_rangeI : ∀ ns : List Int, (List.range ns.length).any (fun i => (ns.getD i 0) != 0) = ns.any fun n => n != 0
  | [] => rfl
  | n :: ns => by
    rw [List.length_cons, List.range_succ_eq_map, List.any_cons, List.any_map, List.any_cons, ← any_rangeI ns]
    all_goals rfl
theorem cr_anyI (hc : X.calm = true) : CallR X (.builtin "any") (rAnyI X.K) := by
  intro pins s σ H vs us Q I r h
  obtain ⟨a, ns, rfl, hs, q⟩ := h
  obtain ⟨its, rv, hl, _⟩ := I.list hs
  rw [Vals.ref1 r]
  have hb := Vals.ints rv
  refine call_any_walk (iter_any hl.isList fun s₂ e2 st hne => ?_); subst e2
  refine ⟨_, _, _, _, _, _, _, rfl, Walks.list (A := X.A.in1) (I.ok.hd hc) _ a hne its.toArray, st, truth_ints hb, fun h' tk hk => ⟨.bl _, H, I.kept fun b o eo => hk b o (fun hmem => ?_) (Heap.get?_push_of_some _ eo), ?_, q⟩⟩
  · rcases List.mem_cons.mp hmem with e1 | hmem
    · exact absurd (e1 ▸ Heap.lt_size eo) (Nat.lt_irrefl _)
    · cases hmem
  · show Value.bool _ = Value.bool _
    rw [← any_rangeI, List.size_toArray, ← rv.length, List.length_map]
end
end L2

namespace Ip
open PySem L2
open Evl (Ex sz_of fresh_back)
variable {X : Cx} {a b e : Expr} {pos : Pos} {K : PySem.W.Frag} {Hs Hs' H H' : Hp} {σ : L2.St} {env env' : MEnv}
/-- xs[j:] = e, e made on the spot -/
def setSlB (i : Nat) (f : MEnv → Option (Slot × MEnv)) (fj : MEnv → Option (Lr × MEnv)) : MEnv → Option Out := fun env => match f env with
  | some (.own ys, e1) => match e1[i]? with
    | some s0 => match s0.mut with
      | some _ => match fj e1 with
        | some (rj, e2) => match look rj e2, e2[i]? with
          | some (.int j), some s => match s.mut with
            | some xs => if 0 ≤ j ∧ j ≤ xs.length ∧ xs.length + ys.length ≤ 100000 then some (.nx (e2.set i (s.put (xs.take j.toNat ++ ys)))) else none
            | none => none
          | _, _ => none
        | none => none
      | none => none
    | none => none
  | _ => none
theorem ss_setsl {i : Nat} {x : Str} {px p2 p3 : Pos} {j : Expr} {f : MEnv → Option (Slot × MEnv)} {fj : MEnv → Option (Lr × MEnv)} (hx : PE X (.Name x px) (tVar i)) (h : SE X e f) (hj : SL X j fj) (hs : swapsWithSole [.Subscript (.Name x px) (.Slice (some j) none none p3) p2] e pos.line X.env = pure false)
    (hw : swappedStores [.Subscript (.Name x px) (.Slice (some j) none none p3) p2] e X.env = pure none) : SS X (.Assign [.Subscript (.Name x px) (.Slice (some j) none none p3) p2] e pos) (setSlB i f fj) := by
  refine ⟨?_⟩
  intro env σ Hs H o hf I D q
  unfold setSlB at hf
  split at hf
  · rename_i ys e1 h1
    split at hf
    · rename_i s0 h0
      split at hf
      · rename_i xs0 m0
        split at hf
        · rename_i rj e2 h2
          split at hf
          · rename_i jj s hjj hsl
            split at hf
            · rename_i xs hm
              split at hf
              · rename_i hc
                cases hf
                obtain ⟨c1, c2, c3⟩ := hc
                refine WS.of (ps_asg (W.pe X e) (pg_open hx (po_some (W.pe X j))) hs hw (each_one rfl)) ?_
                refine h env σ Hs H _ e1 h1 I _ fun v Hs1 H1 g1 I1 r1 => ?_
                obtain ⟨pb, vb, rfl, n1, n2, n3, n4⟩ := r1
                have nm : ¬ MutAt σ e1 pb := fun m => by
                  obtain ⟨_, vs', hh⟩ := I.mutAt_some (g1.ow pb m)
                  rw [n1] at hh
                  cases hh
                obtain ⟨p, vs0, k1, k2, k3, k4⟩ := I1.muts i s0 xs0 h0 m0
                refine ⟨.ref p, k1, ?_⟩
                refine hj e1 σ Hs1 H1 rj e2 h2 I1 _ fun u Hs2 H2 g2 I2 r2 => ?_
                have hu := rep_int (RepLr.top I2 r2 hjj)
                obtain ⟨p', vs, j1, j2, j3, j4⟩ := I2.muts i s xs hsl hm
                rw [k1] at j1
                cases j1
                have nb : H2 pb = some (.lst vb) := g2.kp pb _ n3 nm
                have hne : p ≠ pb := fun z => nm (z ▸ ⟨i, s0, xs0, h0, m0, k1⟩)
                have l1 := RepL.length j4
                have l2 := RepL.length n4
                have ej : jj = ((jj.toNat : Nat) : Int) := by omega
                refine ⟨jj, hu, p, pb, vs, vb, jj.toNat, rfl, rfl, congrArg some ej, hne, j3, nb, by omega, sz_of (by omega), ?_⟩
                have r3 : RepL X.K Hs2 (xs.take jj.toNat ++ ys) (vs.take jj.toNat ++ vb) := RepL.app (RepL.take _ j4) (RepL.mono g2.sh _ _ n4)
                exact q σ Hs2 _ ((g1.trans g2).trans (GoE.change I2 hsl hm k1)).go (I2.change hsl hm (Slot.put_mut hm _) k1 r3)
              · cases hf
            · cases hf
          · cases hf
        · cases hf
      · cases hf
    · cases hf
  · cases hf
/-- any(xs) of ints -/
def anyID : PyData → Option Slot
  | .list xs => (intsOf xs).map fun ns => .val (.bool (ns.any fun n => n != 0))
  | _ => none
theorem ok_anyI : R1ok X.K (fun v H Q => rAnyI X.K [v] H Q) anyID := by
  intro Hs H σ env x v s hs I hx Q q
  cases x <;> try (cases hs; done)
  rename_i xs
  have hs : (intsOf xs).map (fun ns => Slot.val (.bool (ns.any fun n => n != 0))) = some s := hs
  cases hd : intsOf xs with
  | none => rw [hd] at hs; cases hs
  | some bs =>
    rw [hd] at hs
    cases hs
    obtain ⟨p, vs, rfl, h1, h2⟩ := hx
    exact ⟨p, bs, rfl, by rw [← intsOf_rep hd h2]; exact h1, ok_val I rfl (show Rep X.K Hs (.bool _) (.bl _) from rfl) q⟩
end Ip
namespace Ip
open PySem L2
theorem bt_divmod : bootBuiltins "divmod" = some (.builtin "divmod") := by decide +kernel
end Ip

set_option Elab.async false
set_option linter.all false
set_option maxRecDepth 100000
set_option maxHeartbeats 4000000
namespace Lp
open PySem L2 Ip
abbrev fuel : Nat := 100000
abbrev recN : Nat := 30
def b_f_law_draws : MEnv → Option Out := seqB (asgB 2 (compF (seqI (nameV 0)) (nameG 8) (yesT) (nameV 8) [8])) (seqB (asgB 3 (lstF ((fun env => some ([], env))))) (seqB (forB (rng1I (consA (nameV 1) ((fun env => some ([], env))))) (nameG 4) (seqB (asgB 5 (valF (constD (.int 0)))) (seqB (ifB (boolT (op2 (datL (datF (op1 (nameL 2) lenD))) (datL (constD (.int 0))) gtD)) (seqB (asgB 6 (op2 (datL (datF (op1 (nameL 4) intD))) (datL (datF (op1 (nameL 2) lenD))) modD)) (seqB (ifB (boolT (op2 (datL (datF (op2 (nameL 2) (nameL 6) ixD))) (datL (datF (op2 (datL (constD (.int 10))) (datL (constD (.int 18))) powD))) geD)) (seqB (asgB 5 (op2 (datL (datF (op1 (datL (datF (op2 (nameL 2) (nameL 6) ixD))) intD))) (datL (constD (.int 1000))) modD)) (seqB (setB 2 (datF (op2 (datL (datF (op2 (nameL 2) (nameL 6) ixD))) (datL (constD (.int 1000))) fdivD)) (nameL 6)) (nilB))) (seqB (asgB 7 (op2 (datL (datF (op1 (datL (datF (op2 (datL (datF (op2 (datL (datF (op2 (datL (datF (op2 (nameL 2) (nameL 6) ixD))) (datL (constD (.int 48271))) mulD))) (datL (datF (op2 (nameL 4) (datL (constD (.int 69621))) mulD))) addD))) (datL (constD (.int 11))) addD))) intD))) (datL (constD (.int 2147483647))) modD)) (seqB (asgB 7 (op2 (datL (datF (op1 (datL (datF (op2 (datL (datF (op2 (nameL 7) (datL (constD (.int 16807))) mulD))) (nameL 6) addD))) intD))) (datL (constD (.int 2147483629))) modD)) (seqB (asgB 5 (op2 (datL (datF (op1 (datL (datF (op2 (nameL 7) (datL (constD (.int 7))) fdivD))) intD))) (datL (constD (.int 1000))) modD)) (nilB))))) (nilB))) (nilB)) (seqB (appB 3 (nameV 5)) (nilB))))) (seqB (retNm 3) (nilB))))
def r_f_law_draws : Ip.Run := runB 9 2 b_f_law_draws
def b_f_law_trim : MEnv → Option Out := seqB (asgB 0 (op1 (nameL 0) listD)) (seqB (forB (rng1I (consA (datF (op1 (nameL 0) lenD)) ((fun env => some ([], env))))) (nameG 1) (seqB (ifB (boolT (op2 (datL (datF (op2 (nameL 0) (datL (datF (op1 (datL (constD (.int 1))) negD))) ixD))) (datL (constD (.int 0))) neD)) (seqB ((fun env => some (.bk env))) (nilB)) (nilB)) (seqB (exprB (popF 0)) (nilB)))) (seqB (retNm 0) (nilB)))
def r_f_law_trim : Ip.Run := runB 2 1 b_f_law_trim
def b_f_law_multiply : MEnv → Option Out := seqB (asgB 2 (repF (lstF (consA (constD (.int 0)) ((fun env => some ([], env))))) (datL (datF (op2 (datL (datF (op2 (datL (datF (op1 (nameL 0) lenD))) (datL (datF (op1 (nameL 1) lenD))) addD))) (datL (constD (.int 1))) addD))))) (seqB (forB (rng1I (consA (datF (op1 (nameL 0) lenD)) ((fun env => some ([], env))))) (nameG 3) (seqB (forB (rng1I (consA (datF (op1 (nameL 1) lenD)) ((fun env => some ([], env))))) (nameG 4) (seqB (setB 2 (datF (op2 (datL (datF (op2 (nameL 2) (datL (datF (op2 (nameL 3) (nameL 4) addD))) ixD))) (datL (datF (op2 (datL (datF (op2 (nameL 0) (nameL 3) ixD))) (datL (datF (op2 (nameL 1) (nameL 4) ixD))) mulD))) addD)) (datL (datF (op2 (nameL 3) (nameL 4) addD)))) (nilB))) (nilB))) (seqB (retB (callF 1 r_f_law_trim (consA (nameV 2) ((fun env => some ([], env)))))) (nilB)))
def r_f_law_multiply : Ip.Run := runB 5 2 b_f_law_multiply
def b_f_law_is_polynomial : MEnv → Option Out := seqB (ifB (notT (boolT (op1 (nameL 0) (isaD .list)))) (seqB (retB (valF (constD (.bool false)))) (nilB)) (nilB)) (seqB (forB (seqI (nameV 0)) (nameG 1) (seqB (ifB (orT (notT (boolT (op1 (nameL 1) (isaD .int)))) (boolT (op1 (nameL 1) (isaD .bool)))) (seqB (retB (valF (constD (.bool false)))) (nilB)) (nilB)) (nilB))) (seqB (retB (orE (op2 (datL (datF (op1 (nameL 0) lenD))) (datL (constD (.int 0))) eqD) (op2 (datL (datF (op2 (nameL 0) (datL (datF (op1 (datL (constD (.int 1))) negD))) ixD))) (datL (constD (.int 0))) neD))) (nilB)))
def r_f_law_is_polynomial : Ip.Run := runB 2 1 b_f_law_is_polynomial
def b_f_law_polynomial : MEnv → Option Out := seqB (asgB 1 (op2 (datL (datF (op1 (datL (datF (op2 (nameL 0) (datL (constD (.int 0))) ixD))) intD))) (datL (constD (.int 8))) modD)) (seqB (asgB 2 (op2 (datL (datF (op1 (datL (datF (op2 (nameL 0) (datL (constD (.int 1))) ixD))) intD))) (datL (constD (.int 6))) modD)) (seqB (ifB (boolT (op2 (nameL 1) (datL (constD (.int 7))) eqD)) (seqB (retB (callF 1 r_f_law_trim (consA (datF (compF (rng1I (consA (nameV 2) ((fun env => some ([], env))))) (nameG 3) (yesT) (datF (op2 (datL (datF (op2 (datL (datF (op1 (datL (datF (op2 (nameL 0) (datL (datF (op2 (datL (constD (.int 2))) (nameL 3) addD))) ixD))) intD))) (datL (constD (.int 1000003))) mulD))) (datL (datF (op2 (datL (datF (op1 (datL (datF (op2 (nameL 0) (datL (constD (.int 7))) ixD))) intD))) (datL (constD (.int 4019))) mulD))) subD)) [3])) ((fun env => some ([], env)))))) (nilB)) (nilB)) (seqB (retB (callF 1 r_f_law_trim (consA (datF (compF (rng1I (consA (nameV 2) ((fun env => some ([], env))))) (nameG 3) (yesT) (datF (op2 (datL (datF (op2 (datL (datF (op1 (datL (datF (op2 (nameL 0) (datL (datF (op2 (datL (constD (.int 2))) (nameL 3) addD))) ixD))) intD))) (datL (datF (op2 (datL (constD (.int 2))) (datL (datF (op2 (datL (constD (.int 3))) (nameL 1) mulD))) addD))) modD))) (datL (datF (op2 (datL (constD (.int 1))) (nameL 1) addD))) subD)) [3])) ((fun env => some ([], env)))))) (nilB))))
def r_f_law_polynomial : Ip.Run := runB 4 1 b_f_law_polynomial
def b_f_law_gcd : MEnv → Option Out := seqB (asgB 0 (op1 (nameL 0) absD)) (seqB (asgB 1 (op1 (nameL 1) absD)) (seqB (forB (rng1I (consA (constD (.int 4000)) ((fun env => some ([], env))))) (nameG 2) (seqB (ifB (boolT (op2 (nameL 1) (datL (constD (.int 0))) eqD)) (seqB ((fun env => some (.bk env))) (nilB)) (nilB)) (seqB (asgB 3 (op2 (datL (datF (op1 (nameL 0) intD))) (nameL 1) modD)) (seqB (asgB 0 (valF (nameV 1))) (seqB (asgB 1 (valF (nameV 3))) (nilB)))))) (seqB (retNm 0) (nilB))))
def r_f_law_gcd : Ip.Run := runB 4 2 b_f_law_gcd
def b_f_law_content : MEnv → Option Out := seqB (asgB 1 (valF (constD (.int 0)))) (seqB (forB (seqI (nameV 0)) (nameG 2) (seqB (asgB 1 (callF 2 r_f_law_gcd (consA (nameV 1) (consA (nameV 2) ((fun env => some ([], env))))))) (nilB))) (seqB (retNm 1) (nilB)))
def r_f_law_content : Ip.Run := runB 3 1 b_f_law_content
def b_f_law_plain : MEnv → Option Out := seqB (ifB (boolT (op2 (datL (datF (op1 (nameL 0) lenD))) (datL (constD (.int 0))) eqD)) (seqB (retB (lstF ((fun env => some ([], env))))) (nilB)) (nilB)) (seqB (asgB 1 (callF 1 r_f_law_content (consA (nameV 0) ((fun env => some ([], env)))))) (seqB (ifB (boolT (op2 (datL (datF (op2 (nameL 0) (datL (datF (op1 (datL (constD (.int 1))) negD))) ixD))) (datL (constD (.int 0))) ltD)) (seqB (asgB 1 (op1 (nameL 1) negD)) (nilB)) (nilB)) (seqB (retB (compF (seqI (nameV 0)) (nameG 2) (yesT) (datF (op2 (nameL 2) (nameL 1) fdivD)) [2])) (nilB))))
def r_f_law_plain : Ip.Run := runB 3 1 b_f_law_plain
def b_f_law_add : MEnv → Option Out := seqB (asgB 2 (op2 (datL (datF (op1 (nameL 0) lenD))) (datL (datF (op1 (nameL 1) lenD))) max2D)) (seqB (asgB 3 (repF (lstF (consA (constD (.int 0)) ((fun env => some ([], env))))) (nameL 2))) (seqB (forB (rng1I (consA (datF (op1 (nameL 0) lenD)) ((fun env => some ([], env))))) (nameG 4) (seqB (setB 3 (datF (op2 (datL (datF (op2 (nameL 3) (nameL 4) ixD))) (datL (datF (op2 (nameL 0) (nameL 4) ixD))) addD)) (nameL 4)) (nilB))) (seqB (forB (rng1I (consA (datF (op1 (nameL 1) lenD)) ((fun env => some ([], env))))) (nameG 4) (seqB (setB 3 (datF (op2 (datL (datF (op2 (nameL 3) (nameL 4) ixD))) (datL (datF (op2 (nameL 1) (nameL 4) ixD))) addD)) (nameL 4)) (nilB))) (seqB (retB (callF 1 r_f_law_trim (consA (nameV 3) ((fun env => some ([], env)))))) (nilB)))))
def r_f_law_add : Ip.Run := runB 5 2 b_f_law_add
def b_f_law_times_number : MEnv → Option Out := seqB (retB (callF 1 r_f_law_trim (consA (datF (compF (seqI (nameV 0)) (nameG 2) (yesT) (datF (op2 (nameL 2) (nameL 1) mulD)) [2])) ((fun env => some ([], env)))))) (nilB)
def r_f_law_times_number : Ip.Run := runB 3 2 b_f_law_times_number
def b_f_law_rest : MEnv → Option Out := seqB (asgB 2 (op1 (nameL 0) listD)) (seqB (forB (rng1I (consA (datF (op2 (datL (datF (op2 (datL (datF (op1 (nameL 0) lenD))) (datL (datF (op1 (nameL 1) lenD))) subD))) (datL (constD (.int 1))) addD)) ((fun env => some ([], env))))) (nameG 3) (seqB (asgB 4 (op2 (datL (datF (op2 (datL (datF (op1 (nameL 0) lenD))) (datL (datF (op1 (nameL 1) lenD))) subD))) (nameL 3) subD)) (seqB (asgB 5 (valF (constD (.int 0)))) (seqB (ifB (boolT (op2 (datL (datF (op2 (datL (datF (op2 (nameL 4) (datL (datF (op1 (nameL 1) lenD))) addD))) (datL (constD (.int 1))) subD))) (datL (datF (op1 (nameL 2) lenD))) ltD)) (seqB (asgB 5 (op2 (nameL 2) (datL (datF (op2 (datL (datF (op2 (nameL 4) (datL (datF (op1 (nameL 1) lenD))) addD))) (datL (constD (.int 1))) subD))) ixD)) (nilB)) (nilB)) (seqB (asgB 2 (callF 2 r_f_law_add (consA (datF (callF 2 r_f_law_times_number (consA (nameV 2) (consA (datF (op2 (nameL 1) (datL (datF (op1 (datL (constD (.int 1))) negD))) ixD)) ((fun env => some ([], env))))))) (consA (datF (callF 2 r_f_law_times_number (consA (datF (op2 (datL (datF (repF (lstF (consA (constD (.int 0)) ((fun env => some ([], env))))) (nameL 4)))) (nameL 1) addD)) (consA (datF (op1 (nameL 5) negD)) ((fun env => some ([], env))))))) ((fun env => some ([], env))))))) (nilB)))))) (seqB (retNm 2) (nilB)))
def r_f_law_rest : Ip.Run := runB 6 2 b_f_law_rest
def b_trimmed : MEnv → Option Out := seqB (asgB 1 (op1 (nameL 0) lenD)) (seqB (whileLoop (andT (boolT (op2 (nameL 1) (datL (constD (.int 0))) gtD)) (boolT (op2 (datL (datF (op2 (nameL 0) (datL (datF (op2 (nameL 1) (datL (constD (.int 1))) subD))) ixD))) (datL (constD (.int 0))) eqD))) (seqB (augB 1 (datL (constD (.int 1))) (fun i j => i - j)) (nilB)) fuel) (seqB (retB (slF (nameL 0) ((fun env => some (none, env))) (intO (nameL 1)))) (nilB)))
def r_trimmed : Ip.Run := runB 2 1 b_trimmed
def b_false_rest : MEnv → Option Out := seqB (asgB 2 (op2 (nameL 1) (datL (datF (op1 (datL (constD (.int 1))) negD))) ixD)) (seqB (asgB 3 (op2 (datL (datF (op1 (nameL 1) lenD))) (datL (constD (.int 1))) subD)) (seqB (asgB 4 (op2 (datL (datF (op1 (nameL 0) lenD))) (nameL 3) subD)) (seqB (asgB 5 (op1 (nameL 0) listD)) (seqB (forB (rrng1I (nameL 4)) (nameG 6) (seqB (asgB 7 (op2 (nameL 5) (datL (datF (op2 (nameL 6) (nameL 3) addD))) ixD)) (seqB (asgB 5 (compF (seqI (datF (slF (nameL 5) ((fun env => some (none, env))) (intO (datL (datF (op2 (nameL 6) (nameL 3) addD))))))) (nameG 9) (yesT) (datF (op2 (nameL 2) (nameL 9) mulD)) [9])) (seqB (forB (rng1I (consA (nameV 3) ((fun env => some ([], env))))) (nameG 8) (seqB (augSB 5 (datL (datF (op2 (nameL 6) (nameL 8) addD))) (datL (datF (op2 (nameL 7) (datL (datF (op2 (nameL 1) (nameL 8) ixD))) mulD))) (fun i j => i - j)) (nilB))) (nilB))))) (seqB (retB (callF 1 r_trimmed (consA (nameV 5) ((fun env => some ([], env)))))) (nilB))))))
def r_false_rest : Ip.Run := runB 10 2 b_false_rest
def b_divides : MEnv → Option Out := seqB (retB (op2 (datL (datF (callF 2 r_false_rest (consA (nameV 1) (consA (nameV 0) ((fun env => some ([], env)))))))) (datL (datF (lstF ((fun env => some ([], env)))))) eqD)) (nilB)
def r_divides : Ip.Run := runB 2 2 b_divides
def b_content : MEnv → Option Out := seqB (asgB 1 (valF (constD (.int 0)))) (seqB (forB (seqI (nameV 0)) (nameG 2) (seqB (asgB 1 (op2 (nameL 1) (nameL 2) gcdD)) (nilB))) (seqB (retNm 1) (nilB)))
def r_content : Ip.Run := runB 3 1 b_content
def b_plain : MEnv → Option Out := seqB (ifB (boolT (op2 (nameL 0) (datL (datF (lstF ((fun env => some ([], env)))))) eqD)) (seqB (retB (lstF ((fun env => some ([], env))))) (nilB)) (nilB)) (seqB (asgB 1 (callF 1 r_content (consA (nameV 0) ((fun env => some ([], env)))))) (seqB (ifB (boolT (op2 (datL (datF (op2 (nameL 0) (datL (datF (op1 (datL (constD (.int 1))) negD))) ixD))) (datL (constD (.int 0))) ltD)) (seqB (asgB 1 (op1 (nameL 1) negD)) (nilB)) (nilB)) (seqB (retB (compF (seqI (nameV 0)) (nameG 2) (yesT) (datF (op2 (nameL 2) (nameL 1) fdivD)) [2])) (nilB))))
def r_plain : Ip.Run := runB 3 1 b_plain
def b_exact_quotient : MEnv → Option Out := seqB (asgB 2 (op2 (nameL 1) (datL (datF (op1 (datL (constD (.int 1))) negD))) ixD)) (seqB (asgB 3 (op2 (datL (datF (op1 (nameL 1) lenD))) (datL (constD (.int 1))) subD)) (seqB (asgB 4 (op1 (nameL 0) listD)) (seqB (asgB 5 (lstF ((fun env => some ([], env))))) (seqB (whileLoop (boolT (op2 (datL (datF (op1 (nameL 4) lenD))) (nameL 3) gtD)) (seqB (tgtB (datF (op2 (datL (datF (popF 4))) (nameL 2) divmodD)) (tupG 2 (consG (nameG 6) (consG (nameG 7) (nilG))))) (seqB (ifB (boolT (op2 (nameL 7) (datL (constD (.int 0))) neD)) (seqB (retB (valF (constD .none))) (nilB)) (nilB)) (seqB (appB 5 (nameV 6)) (seqB (ifB (boolT (op2 (nameL 6) (datL (constD (.int 0))) neD)) (seqB (asgB 8 (op2 (datL (datF (op1 (nameL 4) lenD))) (nameL 3) subD)) (seqB (setSlB 4 (compF (zipI (consA (datF (slF (nameL 4) (intO (nameL 8)) ((fun env => some (none, env))))) (consA (nameV 1) ((fun env => some ([], env)))))) (tupG 2 (consG (nameG 9) (consG (nameG 10) (nilG)))) (yesT) (datF (op2 (nameL 9) (datL (datF (op2 (nameL 6) (nameL 10) mulD))) subD)) [9, 10]) (nameL 8)) (nilB))) (nilB)) (nilB))))) fuel) (seqB (retB (ifE (boolT (op1 (nameL 4) anyID)) (valF (constD .none)) (op1 (nameL 5) revD))) (nilB))))))
def r_exact_quotient : Ip.Run := runB 11 2 b_exact_quotient
def b_quotient : MEnv → Option Out := seqB (retB (callF 2 r_exact_quotient (consA (datF (callF 1 r_plain (consA (nameV 0) ((fun env => some ([], env)))))) (consA (datF (callF 1 r_plain (consA (nameV 1) ((fun env => some ([], env)))))) ((fun env => some ([], env))))))) (nilB)
def r_quotient : Ip.Run := runB 2 2 b_quotient
end Lp

set_option Elab.async false
set_option linter.all false
set_option maxRecDepth 100000
set_option maxHeartbeats 4000000
/-! k03: zeros at the end left out, sums of polynomials -/
namespace Lp
open PySem L2 Ip Lw
def tp : List Int → List Int
  | [] => []
  | c :: cs => if c = 0 ∧ tp cs = [] then [] else c :: tp cs
theorem tp_nil_iff : ∀ cs : List Int, tp cs = [] ↔ ∀ i, cs.getD i 0 = 0
  | [] => by simp [tp]
  | c :: cs => by
    have ih := tp_nil_iff cs
    unfold tp
    by_cases h : c = 0 ∧ tp cs = []
    · rw [if_pos h]
      refine ⟨fun _ i => ?_, fun _ => rfl⟩
      cases i with
      | zero => exact h.1
      | succ i => exact (ih.mp h.2) i
    · rw [if_neg h]
      refine ⟨fun e => (nomatch e), fun e => absurd ⟨e 0, ih.mpr fun i => e (i + 1)⟩ h⟩
theorem tp_getD : ∀ (cs : List Int) (i : Nat), (tp cs).getD i 0 = cs.getD i 0
  | [], i => rfl
  | c :: cs, i => by
    have ih := tp_getD cs
    unfold tp
    by_cases h : c = 0 ∧ tp cs = []
    · rw [if_pos h]
      have := (tp_nil_iff cs).mp h.2
      cases i with
      | zero => exact h.1.symm
      | succ i => exact (this i).symm
    · rw [if_neg h]
      cases i with
      | zero => rfl
      | succ i => exact ih i
theorem tp_ext : ∀ (cs ds : List Int), (∀ i, cs.getD i 0 = ds.getD i 0) → tp cs = tp ds
  | [], ds, h => ((tp_nil_iff ds).mpr fun i => (h i).symm).symm ▸ rfl
  | c :: cs, [], h => (tp_nil_iff (c :: cs)).mpr fun i => h i
  | c :: cs, d :: ds, h => by
    have e1 : c = d := h 0
    have e2 := tp_ext cs ds fun i => h (i + 1)
    unfold tp
    rw [e1, e2]
theorem tp_len : ∀ cs : List Int, (tp cs).length ≤ cs.length
  | [] => Nat.le_refl _
  | c :: cs => by
    have := tp_len cs
    unfold tp
    split <;> simp <;> omega
theorem tp_take : ∀ (cs : List Int) (k : Nat), k ≤ cs.length → (∀ j, k ≤ j → cs.getD j 0 = 0) → (k = 0 ∨ cs.getD (k - 1) 0 ≠ 0) → cs.take k = tp cs
  | [], k, h, _, _ => by simp [tp]
  | c :: cs, 0, h, h1, _ => ((tp_nil_iff (c :: cs)).mpr fun i => h1 i (Nat.zero_le _)).symm
  | c :: cs, k + 1, h, h1, h2 => by
    have h2 : (c :: cs).getD k 0 ≠ 0 := h2.resolve_left (by omega)
    have ih := tp_take cs k (by simpa using h) (fun j hj => h1 (j + 1) (by omega)) (by
      cases k with
      | zero => exact .inl rfl
      | succ k => exact .inr h2)
    unfold tp
    rw [if_neg ?_, List.take_succ_cons, ih]
    rintro ⟨e1, e2⟩
    cases k with
    | zero => exact h2 e1
    | succ k => exact h2 ((tp_nil_iff cs).mp e2 k)
theorem tp_tp (cs : List Int) : tp (tp cs) = tp cs := tp_ext _ _ fun i => tp_getD cs i
def tmT : MEnv → Option (Bool × MEnv) := (andT (boolT (op2 (nameL 1) (datL (constD (.int 0))) gtD)) (boolT (op2 (datL (datF (op2 (nameL 0) (datL (datF (op2 (nameL 1) (datL (constD (.int 1))) subD))) ixD))) (datL (constD (.int 0))) eqD)))
def tmB : MEnv → Option Out := (seqB (augB 1 (datL (constD (.int 1))) (fun i j => i - j)) (nilB))
theorem tm_stop {I : List PyData} {M : Int} (h : M ≤ 0) : tmT [.val (.list I), .val (.int M)] = some (false, [.val (.list I), .val (.int M)]) := by
  have hc : ¬ (0 < M) := by omega
  simp [tmT, seqB, ifB, asgB, retB, exprB, op1, op2, look, nameL, nameV, datL, datF, valF, constD, boolT, consA, tupF, lstF, setS_zv, setS_zo, setS_zu, setS_succ, Slot.dat, Slot.mut, Slot.put, nilB, callF, notT, andT, orT, andE, orE, ifE, boolS, tgtB, tupG, consG, nilG, nameG, retNm, appB, augB, callX, ioA, consX, argI, argV, argN, argsS, argS, ioIx, putB, popF, setB, gt_ii, hc]
theorem tm_test {I : List PyData} {M C : Int} (h : 0 < M) (hx : ixD (.list I) (.int (M - 1)) = some (.val (.int C))) : tmT [.val (.list I), .val (.int M)] = some (decide (C = 0), [.val (.list I), .val (.int M)]) := by
  simp [tmT, seqB, ifB, asgB, retB, exprB, op1, op2, look, nameL, nameV, datL, datF, valF, constD, boolT, consA, tupF, lstF, setS_zv, setS_zo, setS_zu, setS_succ, Slot.dat, Slot.mut, Slot.put, nilB, callF, notT, andT, orT, andE, orE, ifE, boolS, tgtB, tupG, consG, nilG, nameG, retNm, appB, augB, callX, ioA, consX, argI, argV, argN, argsS, argS, ioIx, putB, popF, setB, gt_ii, h, sub_ii, hx, eq_ii]
theorem tm_turn {I : List PyData} {M : Int} : tmB [.val (.list I), .val (.int M)] = some (.nx [.val (.list I), .val (.int (M - 1))]) := by
  simp [tmB, seqB, ifB, asgB, retB, exprB, op1, op2, look, nameL, nameV, datL, datF, valF, constD, boolT, consA, tupF, lstF, setS_zv, setS_zo, setS_zu, setS_succ, Slot.dat, Slot.mut, Slot.put, nilB, callF, notT, andT, orT, andE, orE, ifE, boolS, tgtB, tupG, consG, nilG, nameG, retNm, appB, augB, callX, ioA, consX, argI, argV, argN, argsS, argS, ioIx, putB, popF, setB, sub_ii]
theorem while_t {ft : MEnv → Option (Bool × MEnv)} {fb : MEnv → Option Out} {n : Nat} {env e1 e2 : MEnv} (h1 : ft env = some (true, e1)) (h2 : fb e1 = some (.nx e2)) : whileLoop ft fb (n + 1) env = whileLoop ft fb n e2 := by
  conv => lhs; unfold whileLoop
  rw [h1]
  simp only [h2]
theorem while_f {ft : MEnv → Option (Bool × MEnv)} {fb : MEnv → Option Out} {n : Nat} {env e1 : MEnv} (h1 : ft env = some (false, e1)) : whileLoop ft fb (n + 1) env = some (.nx e1) := by
  conv => lhs; unfold whileLoop
  rw [h1]
theorem tm_loop {cs : List Int} : ∀ (n f : Nat) (M : Int), M = n → n ≤ cs.length → n < f → (∀ j, n ≤ j → cs.getD j 0 = 0) → ∃ k : Nat, k ≤ n ∧ cs.take k = tp cs ∧ whileLoop tmT tmB f [.val (.list (iv cs)), .val (.int M)] = some (.nx [.val (.list (iv cs)), .val (.int (k : Int))])
  | 0, f, M, hM, hn, hf, hz => by
    obtain ⟨g, rfl⟩ : ∃ g, f = g + 1 := ⟨f - 1, by omega⟩
    refine ⟨0, Nat.le_refl _, tp_take cs 0 hn hz (.inl rfl), ?_⟩
    rw [while_f (tm_stop (by omega)), hM]
  | n + 1, f, M, hM, hn, hf, hz => by
    obtain ⟨g, rfl⟩ : ∃ g, f = g + 1 := ⟨f - 1, by omega⟩
    have hk : n < cs.length := by omega
    have hx := ix_iv0 (ns := cs) (i := M - 1) n (by omega) (List.getElem?_eq_getElem hk)
    have hg : cs.getD n 0 = cs[n] := by simp [List.getD, hk]
    by_cases hc : cs[n] = 0
    · obtain ⟨k, h1, h2, h3⟩ := tm_loop (cs := cs) n g (M - 1) (by omega) (by omega) (by omega) (fun j hj => by
        by_cases e : j = n
        · subst e; rw [hg, hc]
        · exact hz j (by omega))
      refine ⟨k, by omega, h2, ?_⟩
      rw [while_t (tm_test (by omega) hx |>.trans (by rw [decide_eq_true hc])) tm_turn]
      exact h3
    · refine ⟨n + 1, Nat.le_refl _, tp_take cs (n + 1) hn hz (.inr (by rw [Nat.add_sub_cancel, hg]; exact hc)), ?_⟩
      rw [while_f (tm_test (by omega) hx |>.trans (by rw [decide_eq_false hc])), hM]
theorem trimmed_eval (cs : List Int) (hl : cs.length < 100000) : ∃ o, r_trimmed [.val (.list (iv cs))] = some (.own (iv (tp cs)), o) := by
  obtain ⟨k, h1, h2, h3⟩ := tm_loop (cs := cs) cs.length fuel (il cs) rfl (Nat.le_refl _) hl (fun j hj => by simp [List.getD, hj])
  obtain ⟨M, hM⟩ : ∃ M : Int, M = (k : Int) := ⟨_, rfl⟩
  have hc := cut_iv (cs := cs) hM h1
  rw [← hM] at h3
  rw [h2] at hc
  refine run_rt (e := [.val (.list (iv cs)), .val (.int M)]) ?_ (by simp)
  show seqB _ (seqB (whileLoop tmT tmB fuel) _) [.val (.list (iv cs)), .un] = _
  rw [seq_nx (e1 := [.val (.list (iv cs)), .val (.int (il cs))]) (by simp [seqB, ifB, asgB, retB, exprB, op1, op2, look, nameL, nameV, datL, datF, valF, constD, boolT, consA, tupF, lstF, setS_zv, setS_zo, setS_zu, setS_succ, Slot.dat, Slot.mut, Slot.put, nilB, callF, notT, andT, orT, andE, orE, ifE, boolS, tgtB, tupG, consG, nilG, nameG, retNm, appB, augB, callX, ioA, consX, argI, argV, argN, argsS, argS, ioIx, putB, popF, setB, len_iv])]
  rw [seq_nx h3]
  generalize iv cs = I at *
  generalize iv (tp cs) = J at *
  simp [seqB, ifB, asgB, retB, exprB, op1, op2, look, nameL, nameV, datL, datF, valF, constD, boolT, consA, tupF, lstF, setS_zv, setS_zo, setS_zu, setS_succ, Slot.dat, Slot.mut, Slot.put, nilB, callF, notT, andT, orT, andE, orE, ifE, boolS, tgtB, tupG, consG, nilG, nameG, retNm, appB, augB, callX, ioA, consX, argI, argV, argN, argsS, argS, ioIx, putB, popF, setB, slF, intO, hc]
/-! ### the laws' own: zeros popped -/
def lqB : MEnv → Option Out := (seqB (ifB (boolT (op2 (datL (datF (op2 (nameL 0) (datL (datF (op1 (datL (constD (.int 1))) negD))) ixD))) (datL (constD (.int 0))) neD)) (seqB ((fun env => some (.bk env))) (nilB)) (nilB)) (seqB (exprB (popF 0)) (nilB)))
theorem ix_last {cs : List Int} {n : Nat} (hn : n < cs.length) : ixD (.list (iv (cs.take (n + 1)))) (.int (-1)) = some (.val (.int cs[n])) := by
  have hl : (cs.take (n + 1)).length = n + 1 := by rw [List.length_take]; omega
  refine ix_iv ?_
  have h1 : ixN (cs.take (n + 1)).length (-1) = some n := by
    unfold ixN
    rw [hl, if_neg (by omega)]
    first
    | rw [if_pos (by omega)]; exact congrArg some (by omega)
    | (split <;> first | omega | (exact congrArg some (by omega)))
  unfold atI
  rw [h1]
  show (cs.take (n + 1))[n]? = some cs[n]
  rw [List.getElem?_take_of_lt (Nat.lt_succ_self n), List.getElem?_eq_getElem hn]
theorem lq_turn {xs : List PyData} {C : Int} {s : Slot} (hx : ixD (.list xs) (.int (-1)) = some (.val (.int C))) : lqB [.own xs, s] = if C = 0 then some (.nx [.own xs.dropLast, s]) else some (.bk [.own xs, s]) := by
  have hne : xs[xs.length - 1]? ≠ none := by
    intro e
    have h0 : xs = [] := by
      cases xs with
      | nil => rfl
      | cons a l => simp at e
    subst h0
    cases hx
  obtain ⟨d, hd⟩ : ∃ d, xs[xs.length - 1]? = some d := by
    cases h : xs[xs.length - 1]? with
    | none => exact absurd h hne
    | some d => exact ⟨d, rfl⟩
  by_cases hC : C = 0
  · rw [if_pos hC]
    subst hC
    have key : ∀ k, xs.length - 1 = k → xs[k]? = some d → lqB [.own xs, s] = some (.nx [.own xs.dropLast, s]) := by
      intro k hk hd
      simp [lqB, seqB, ifB, asgB, retB, exprB, op1, op2, look, nameL, nameV, datL, datF, valF, constD, boolT, consA, tupF, lstF, setS_zv, setS_zo, setS_zu, setS_succ, Slot.dat, Slot.mut, Slot.put, nilB, callF, notT, andT, orT, andE, orE, ifE, boolS, tgtB, tupG, consG, nilG, nameG, retNm, appB, augB, callX, ioA, consX, argI, argV, argN, argsS, argS, ioIx, putB, popF, setB, neg_i, hx, ne_ii, popF, exprB, hk, hd]
    exact key _ rfl hd
  · rw [if_neg hC]
    simp [lqB, seqB, ifB, asgB, retB, exprB, op1, op2, look, nameL, nameV, datL, datF, valF, constD, boolT, consA, tupF, lstF, setS_zv, setS_zo, setS_zu, setS_succ, Slot.dat, Slot.mut, Slot.put, nilB, callF, notT, andT, orT, andE, orE, ifE, boolS, tgtB, tupG, consG, nilG, nameG, retNm, appB, augB, callX, ioA, consX, argI, argV, argN, argsS, argS, ioIx, putB, popF, setB, neg_i, hx, ne_ii, hC]
theorem lq_loop {cs : List Int} : ∀ (n : Nat) (lo : Int) (s : Slot), nio s = true → n ≤ cs.length → (∀ j, n ≤ j → cs.getD j 0 = 0) → ∃ (k : Nat) (s' : Slot), k ≤ n ∧ cs.take k = tp cs ∧ forLoop (nameG 1) lqB (Ip.intsFrom lo n) [.own (iv (cs.take n)), s] = some (.nx [.own (iv (cs.take k)), s'])
  | 0, lo, s, hs, hn, hz => ⟨0, s, Nat.le_refl _, tp_take cs 0 hn hz (.inl rfl), rfl⟩
  | n + 1, lo, s, hs, hn, hz => by
    have hk : n < cs.length := by omega
    have hg : cs.getD n 0 = cs[n] := by simp [List.getD, hk]
    have hd : (iv (cs.take (n + 1))).dropLast = iv (cs.take n) := by
      unfold iv
      rw [← List.map_dropLast, List.dropLast_eq_take, List.length_take, List.take_take]
      congr 2
      omega
    have ht := lq_turn (s := .val (.int lo)) (ix_last hk)
    rw [ints_succ]
    by_cases hc : cs[n] = 0
    · rw [if_pos hc, hd] at ht
      obtain ⟨k, s', h1, h2, h3⟩ := lq_loop (cs := cs) n (lo + 1) (.val (.int lo)) rfl (by omega) (fun j hj => by
        by_cases e : j = n
        · subst e; rw [hg, hc]
        · exact hz j (by omega))
      refine ⟨k, s', by omega, h2, ?_⟩
      rw [for_nx (e1 := [.own (iv (cs.take (n + 1))), .val (.int lo)]) (by simp [nameG, setS_zero hs, setS_succ]) ht]
      exact h3
    · rw [if_neg hc] at ht
      refine ⟨n + 1, .val (.int lo), Nat.le_refl _, tp_take cs (n + 1) hn hz (.inr (by rw [Nat.add_sub_cancel, hg]; exact hc)), ?_⟩
      rw [for_bk (e1 := [.own (iv (cs.take (n + 1))), .val (.int lo)]) (by simp [nameG, setS_zero hs, setS_succ]) ht]
theorem ltrim_eval (cs : List Int) (hl : cs.length ≤ 100000) : ∃ o, r_f_law_trim [.val (.list (iv cs))] = some (.own (iv (tp cs)), o) := by
  obtain ⟨k, s', h1, h2, h3⟩ := lq_loop (cs := cs) cs.length 0 .un rfl (Nat.le_refl _) (fun j hj => by simp [List.getD, hj])
  rw [h2, List.take_length] at h3
  refine run_rt (e := [.own (iv (tp cs)), s']) ?_ (by simp)
  show seqB _ (seqB (forB _ _ lqB) _) [.val (.list (iv cs)), .un] = _
  rw [seq_nx (e1 := [.own (iv cs), .un]) (by simp [seqB, ifB, asgB, retB, exprB, op1, op2, look, nameL, nameV, datL, datF, valF, constD, boolT, consA, tupF, lstF, setS_zv, setS_zo, setS_zu, setS_succ, Slot.dat, Slot.mut, Slot.put, nilB, callF, notT, andT, orT, andE, orE, ifE, boolS, tgtB, tupG, consG, nilG, nameG, retNm, appB, augB, callX, ioA, consX, argI, argV, argN, argsS, argS, ioIx, putB, popF, setB, listD])]
  rw [seq_nx (e1 := [.own (iv (tp cs)), s']) (forB_of (rng1_nat (c := il cs) (n := cs.length) (env1 := [.own (iv cs), .un]) (by simp [seqB, ifB, asgB, retB, exprB, op1, op2, look, nameL, nameV, datL, datF, valF, constD, boolT, consA, tupF, lstF, setS_zv, setS_zo, setS_zu, setS_succ, Slot.dat, Slot.mut, Slot.put, nilB, callF, notT, andT, orT, andE, orE, ifE, boolS, tgtB, tupG, consG, nilG, nameG, retNm, appB, augB, callX, ioA, consX, argI, argV, argN, argsS, argS, ioIx, putB, popF, setB, len_iv]) rfl hl) h3)]
  generalize iv (tp cs) = J at *
  simp [seqB, ifB, asgB, retB, exprB, op1, op2, look, nameL, nameV, datL, datF, valF, constD, boolT, consA, tupF, lstF, setS_zv, setS_zo, setS_zu, setS_succ, Slot.dat, Slot.mut, Slot.put, nilB, callF, notT, andT, orT, andE, orE, ifE, boolS, tgtB, tupG, consG, nilG, nameG, retNm, appB, augB, callX, ioA, consX, argI, argV, argN, argsS, argS, ioIx, putB, popF, setB, retNm]
end Lp

set_option Elab.async false
set_option linter.all false
set_option maxRecDepth 100000
set_option maxHeartbeats 4000000
/-! k03: multiples -/
namespace Lp
open PySem L2 Ip Lw
theorem sc_comp {a b : Nat} {cs : List Int} {F : Int} (hl : cs.length ≤ 100000) (ha : Bl a cs) (hF : F.natAbs < 2 ^ b) (hab : a + b ≤ 100000) :
    compF (seqI (nameV 0)) (nameG 2) yesT (datF (op2 (nameL 2) (nameL 1) mulD)) [2] [.val (.list (iv cs)), .val (.int F), .un] = some (.own (iv (cs.map fun c => c * F)), [.val (.list (iv cs)), .val (.int F), .un]) := by
  have h := comp_asF (fi := seqI (nameV 0)) (fe := datF (op2 (nameL 2) (nameL 1) mulD)) (j := 2) (env := [.val (.list (iv cs)), .val (.int F), .un]) (env1 := [.val (.list (iv cs)), .val (.int F), .un]) cs (fun c => .int c) (fun c => .int (c * F)) (by
    show _ = some (iv cs, _)
    generalize iv cs = I
    simp [seqI, seqB, ifB, asgB, retB, exprB, op1, op2, look, nameL, nameV, datL, datF, valF, constD, boolT, consA, tupF, lstF, setS_zv, setS_zo, setS_zu, setS_succ, Slot.dat, Slot.mut, Slot.put, nilB, callF, notT, andT, orT, andE, orE, ifE, boolS, tgtB, tupG, consG, nilG, nameG, retNm, appB, augB, callX, ioA, consX, argI, argV, argN, argsS, argS, ioIx, putB, popF, setB]) rfl hl (fun c hc => by
    have hm : mulOk c F = true := mulOk_log (ha c hc) hF hab
    generalize iv cs = I
    simp [seqB, ifB, asgB, retB, exprB, op1, op2, look, nameL, nameV, datL, datF, valF, constD, boolT, consA, tupF, lstF, setS_zv, setS_zo, setS_zu, setS_succ, Slot.dat, Slot.mut, Slot.put, nilB, callF, notT, andT, orT, andE, orE, ifE, boolS, tgtB, tupG, consG, nilG, nameG, retNm, appB, augB, callX, ioA, consX, argI, argV, argN, argsS, argS, ioIx, putB, popF, setB, mul_ii hm])
  rw [h]
  unfold iv
  rw [List.map_map]
  rfl
theorem law_times_number_eval {a b : Nat} {cs : List Int} {F : Int} (hl : cs.length < 100000) (ha : Bl a cs) (hF : F.natAbs < 2 ^ b) (hab : a + b ≤ 100000) : ∃ o, r_f_law_times_number [.val (.list (iv cs)), .val (.int F)] = some (.own (iv (tp (cs.map fun c => c * F))), o) := by
  obtain ⟨o, ht⟩ := ltrim_eval (cs.map fun c => c * F) (by rw [List.length_map]; omega)
  refine run_rt (e := [.val (.list (iv cs)), .val (.int F), .un]) ?_ (by simp)
  show seqB (retB (callF 1 r_f_law_trim (consA (datF (compF _ _ yesT _ [2])) _))) _ [.val (.list (iv cs)), .val (.int F), .un] = _
  exact seq_rt (ret_of (call1_of (dat_of (sc_comp (by omega) ha hF hab) rfl) ht))
end Lp

set_option Elab.async false
set_option linter.all false
set_option maxRecDepth 100000
set_option maxHeartbeats 4000000
/-! k03: the laws' own sum of two lists -/
namespace Lp
open PySem L2 Ip Lw
def laB (j : Nat) : MEnv → Option Out := (seqB (setB 3 (datF (op2 (datL (datF (op2 (nameL 3) (nameL 4) ixD))) (datL (datF (op2 (nameL j) (nameL 4) ixD))) addD)) (nameL 4)) (nilB))
theorem la_turn0 {I F : List PyData} {x1 x2 : Slot} {k C D : Int} {q : Nat} (h1 : ixD (.list F) (.int k) = some (.val (.int C))) (h2 : ixD (.list I) (.int k) = some (.val (.int D))) (hq : ixN F.length k = some q) :
    laB 0 [.val (.list I), x1, x2, .own F, .val (.int k)] = some (.nx [.val (.list I), x1, x2, .own (F.set q (.int (C + D))), .val (.int k)]) := by
  simp [laB, seqB, ifB, asgB, retB, exprB, op1, op2, look, nameL, nameV, datL, datF, valF, constD, boolT, consA, tupF, lstF, setS_zv, setS_zo, setS_zu, setS_succ, Slot.dat, Slot.mut, Slot.put, nilB, callF, notT, andT, orT, andE, orE, ifE, boolS, tgtB, tupG, consG, nilG, nameG, retNm, appB, augB, callX, ioA, consX, argI, argV, argN, argsS, argS, ioIx, putB, popF, setB, h1, h2, hq, add_ii, setB]
theorem la_turn1 {I F : List PyData} {x0 x2 : Slot} {k C D : Int} {q : Nat} (h1 : ixD (.list F) (.int k) = some (.val (.int C))) (h2 : ixD (.list I) (.int k) = some (.val (.int D))) (hq : ixN F.length k = some q) :
    laB 1 [x0, .val (.list I), x2, .own F, .val (.int k)] = some (.nx [x0, .val (.list I), x2, .own (F.set q (.int (C + D))), .val (.int k)]) := by
  simp [laB, seqB, ifB, asgB, retB, exprB, op1, op2, look, nameL, nameV, datL, datF, valF, constD, boolT, consA, tupF, lstF, setS_zv, setS_zo, setS_zu, setS_succ, Slot.dat, Slot.mut, Slot.put, nilB, callF, notT, andT, orT, andE, orE, ifE, boolS, tgtB, tupG, consG, nilG, nameG, retNm, appB, augB, callX, ioA, consX, argI, argV, argN, argsS, argS, ioIx, putB, popF, setB, h1, h2, hq, add_ii, setB]
theorem getD_setI {fs : List Int} {q : Nat} (hq : q < fs.length) (x : Int) (i : Nat) : (fs.set q x).getD i 0 = if i = q then x else fs.getD i 0 := by
  by_cases e : i = q
  · subst e; rw [if_pos rfl]; simp [List.getD, hq]
  · rw [if_neg e]; simp [List.getD, List.getElem?_set, Ne.symm e]
theorem iv_set (fs : List Int) (q : Nat) (x : Int) : (iv fs).set q (.int x) = iv (fs.set q x) := by
  unfold iv
  rw [List.map_set]
/-- one of the two walks of it, by what a turn does -/
theorem la_loop {B : MEnv → Option Out} {as : List Int} {S : List PyData → Slot → MEnv} (hset : ∀ F s d, nio s = true → nameG 4 d (S F s) = some (S F (.val d)))
    (ht : ∀ (F : List PyData) (k C D : Int) (q : Nat), ixD (.list F) (.int k) = some (.val (.int C)) → ixD (.list (iv as)) (.int k) = some (.val (.int D)) → ixN F.length k = some q → B (S F (.val (.int k))) = some (.nx (S (F.set q (.int (C + D))) (.val (.int k))))) :
    ∀ (n lo : Nat) (L : Int) (fs : List Int) (s : Slot), L = lo → nio s = true → lo + n = as.length → as.length ≤ fs.length → ∃ (gs : List Int) (s' : Slot), nio s' = true ∧ gs.length = fs.length ∧ (∀ i, gs.getD i 0 = fs.getD i 0 + if lo ≤ i then as.getD i 0 else 0) ∧ forLoop (nameG 4) B (Ip.intsFrom L n) (S (iv fs) s) = some (.nx (S (iv gs) s'))
  | 0, lo, L, fs, s, hL, hs, hn, hf => ⟨fs, s, hs, rfl, fun i => by
      split
      · rename_i h
        have : as.getD i 0 = 0 := by simp [List.getD, show as.length ≤ i by omega]
        rw [this, Int.add_zero]
      · rw [Int.add_zero], rfl⟩
  | n + 1, lo, L, fs, s, hL, hs, hn, hf => by
    have hk : lo < as.length := by omega
    have hk2 : lo < fs.length := by omega
    have h1 := ix_iv0 (ns := fs) (i := L) lo hL (List.getElem?_eq_getElem hk2)
    have h2 := ix_iv0 (ns := as) (i := L) lo hL (List.getElem?_eq_getElem hk)
    have hq : ixN (iv fs).length L = some lo := by
      rw [iv_len, ixN_of (by omega) (by omega)]
      exact congrArg some (by omega)
    have h3 := ht (iv fs) L _ _ lo h1 h2 hq
    rw [iv_set] at h3
    obtain ⟨gs, s', e1, e2, e3, e4⟩ := la_loop hset ht n (lo + 1) (L + 1) (fs.set lo (fs[lo] + as[lo])) (.val (.int L)) (by omega) rfl (by omega) (by rw [List.length_set]; omega)
    refine ⟨gs, s', e1, by rw [e2, List.length_set], fun i => ?_, ?_⟩
    · rw [e3 i, getD_setI hk2]
      by_cases c : i = lo
      · subst c
        rw [if_pos rfl, if_neg (by omega), if_pos (Nat.le_refl _)]
        simp [List.getD, hk, hk2]
      · rw [if_neg c]
        by_cases c2 : lo + 1 ≤ i
        · rw [if_pos c2, if_pos (by omega)]
        · rw [if_neg c2, if_neg (by omega)]
    · rw [ints_succ, for_nx (hset _ _ _ hs) h3]
      exact e4
end Lp

set_option Elab.async false
set_option linter.all false
set_option maxRecDepth 100000
set_option maxHeartbeats 4000000
/-! k03: the laws' own sum of two lists -/
namespace Lp
open PySem L2 Ip Lw
theorem max2_ii (a b : Int) : max2D (.int a) (.int b) = some (.val (.int (max a b))) := by
  show some (Slot.val (PyData.int (if b > a then b else a))) = _
  have e : (if b > a then b else a) = max a b := by split <;> omega
  rw [e]
theorem la_fin {tr : Ip.Run} {x0 x1 x2 s : Slot} {T R : List PyData} {o : List Slot} (h : tr [.val (.list T)] = some (.own R, o)) : (seqB (retB (callF 1 tr (consA (nameV 3) ((fun env => some ([], env)))))) (nilB)) [x0, x1, x2, .own T, s] = some (.rt (.own R) [x0, x1, x2, .val (.list T), s]) := by
  simp [seqB, ifB, asgB, retB, exprB, op1, op2, look, nameL, nameV, datL, datF, valF, constD, boolT, consA, tupF, lstF, setS_zv, setS_zo, setS_zu, setS_succ, Slot.dat, Slot.mut, Slot.put, nilB, callF, notT, andT, orT, andE, orE, ifE, boolS, tgtB, tupG, consG, nilG, nameG, retNm, appB, augB, callX, ioA, consX, argI, argV, argN, argsS, argS, ioIx, putB, popF, setB, h]
theorem law_add_eval (as bs : List Int) (hl : as.length ≤ 100000) (hl2 : bs.length ≤ 100000) : ∃ gs : List Int, gs.length = max as.length bs.length ∧ (∀ i, gs.getD i 0 = as.getD i 0 + bs.getD i 0) ∧ ∃ o, r_f_law_add [.val (.list (iv as)), .val (.list (iv bs))] = some (.own (iv (tp gs)), o) := by
  obtain ⟨Z, hZ⟩ : ∃ Z : List Int, Z = List.replicate (max as.length bs.length) 0 := ⟨_, rfl⟩
  have lZ : Z.length = max as.length bs.length := by rw [hZ, List.length_replicate]
  have gZ : ∀ i, Z.getD i 0 = 0 := fun i => by
    rw [hZ]
    simp only [List.getD, List.getElem?_replicate]
    split <;> rfl
  obtain ⟨M, hM⟩ : ∃ M : Int, M = max (il as) (il bs) := ⟨_, rfl⟩
  obtain ⟨f1, s1, n1, e1, g1, w1⟩ := la_loop (B := laB 0) (as := as) (S := fun F s => [.val (.list (iv as)), .val (.list (iv bs)), .val (.int M), .own F, s]) (fun F s d hs => by simp [nameG, setS_zero hs, setS_succ]) (fun F k C D q a1 a2 a3 => la_turn0 a1 a2 a3) as.length 0 0 Z .un rfl rfl (by omega) (by omega)
  obtain ⟨f2, s2, n2, e2, g2, w2⟩ := la_loop (B := laB 1) (as := bs) (S := fun F s => [.val (.list (iv as)), .val (.list (iv bs)), .val (.int M), .own F, s]) (fun F s d hs => by simp [nameG, setS_zero hs, setS_succ]) (fun F k C D q a1 a2 a3 => la_turn1 a1 a2 a3) bs.length 0 0 f1 s1 rfl n1 (by omega) (by omega)
  obtain ⟨o, ht⟩ := ltrim_eval f2 (by omega)
  refine ⟨f2, by omega, fun i => by rw [g2, g1, gZ]; simp, ?_⟩
  have ea : il as = (as.length : Int) := rfl
  have eb : il bs = (bs.length : Int) := rfl
  have hMn : M.toNat = max as.length bs.length := by rw [hM]; omega
  have hrp : repF (lstF (consA (constD (.int 0)) ((fun env => some ([], env))))) (nameL 2) [.val (.list (iv as)), .val (.list (iv bs)), .val (.int M), .un, .un] = some (.own (iv Z), [.val (.list (iv as)), .val (.list (iv bs)), .val (.int M), .un, .un]) := by
    unfold repF
    have q1 : lstF (consA (constD (.int 0)) ((fun env => some ([], env)))) [.val (.list (iv as)), .val (.list (iv bs)), .val (.int M), .un, .un] = some (.own [.int 0], [.val (.list (iv as)), .val (.list (iv bs)), .val (.int M), .un, .un]) := rfl
    have q2 : nameL 2 [.val (.list (iv as)), .val (.list (iv bs)), .val (.int M), .un, .un] = some (.slot 2, [.val (.list (iv as)), .val (.list (iv bs)), .val (.int M), .un, .un]) := rfl
    have q3 : look (.slot 2) [.val (.list (iv as)), .val (.list (iv bs)), .val (.int M), .un, .un] = some (.int M) := rfl
    simp only [q1, q2, q3]
    rw [if_pos ⟨by rw [hMn]; simp; omega, by omega, by omega⟩, hMn, hZ]
    have e4 : (List.replicate (max as.length bs.length) [PyData.int 0]).flatten = iv (List.replicate (max as.length bs.length) 0) := by
      unfold iv
      rw [List.map_replicate]
      exact List.flatten_replicate_singleton
    rw [e4]
  refine run_rt (e := [.val (.list (iv as)), .val (.list (iv bs)), .val (.int M), .val (.list (iv f2)), s2]) ?_ (by simp)
  show seqB _ (seqB _ (seqB (forB _ _ (laB 0)) (seqB (forB _ _ (laB 1)) _))) [.val (.list (iv as)), .val (.list (iv bs)), .un, .un, .un] = _
  rw [seq_nx (e1 := [.val (.list (iv as)), .val (.list (iv bs)), .val (.int M), .un, .un]) (by simp [seqB, ifB, asgB, retB, exprB, op1, op2, look, nameL, nameV, datL, datF, valF, constD, boolT, consA, tupF, lstF, setS_zv, setS_zo, setS_zu, setS_succ, Slot.dat, Slot.mut, Slot.put, nilB, callF, notT, andT, orT, andE, orE, ifE, boolS, tgtB, tupG, consG, nilG, nameG, retNm, appB, augB, callX, ioA, consX, argI, argV, argN, argsS, argS, ioIx, putB, popF, setB, len_iv, max2_ii, hM])]
  rw [seq_nx (e1 := [.val (.list (iv as)), .val (.list (iv bs)), .val (.int M), .own (iv Z), .un]) (by simp only [asgB, hrp, setS_succ, setS_zu, Option.map])]
  rw [seq_nx (forB_of (rng1_nat (c := il as) (n := as.length) (env1 := [.val (.list (iv as)), .val (.list (iv bs)), .val (.int M), .own (iv Z), .un]) (by simp [seqB, ifB, asgB, retB, exprB, op1, op2, look, nameL, nameV, datL, datF, valF, constD, boolT, consA, tupF, lstF, setS_zv, setS_zo, setS_zu, setS_succ, Slot.dat, Slot.mut, Slot.put, nilB, callF, notT, andT, orT, andE, orE, ifE, boolS, tgtB, tupG, consG, nilG, nameG, retNm, appB, augB, callX, ioA, consX, argI, argV, argN, argsS, argS, ioIx, putB, popF, setB, len_iv]) rfl hl) w1)]
  rw [seq_nx (forB_of (rng1_nat (c := il bs) (n := bs.length) (env1 := [.val (.list (iv as)), .val (.list (iv bs)), .val (.int M), .own (iv f1), s1]) (by simp [seqB, ifB, asgB, retB, exprB, op1, op2, look, nameL, nameV, datL, datF, valF, constD, boolT, consA, tupF, lstF, setS_zv, setS_zo, setS_zu, setS_succ, Slot.dat, Slot.mut, Slot.put, nilB, callF, notT, andT, orT, andE, orE, ifE, boolS, tgtB, tupG, consG, nilG, nameG, retNm, appB, augB, callX, ioA, consX, argI, argV, argN, argsS, argS, ioIx, putB, popF, setB, len_iv]) rfl hl2) w2)]
  exact la_fin ht
end Lp

set_option Elab.async false
set_option linter.all false
set_option maxRecDepth 100000
set_option maxHeartbeats 4000000
/-! k03: products, the laws' own -/
namespace Lp
open PySem L2 Ip Lw
/-- the k-th coefficient of the product of the first i of a and b -/
def pk (a b : List Int) (k : Nat) : Nat → Int
  | 0 => 0
  | i + 1 => pk a b k i + if i ≤ k then a.getD i 0 * b.getD (k - i) 0 else 0
def lmT : MEnv → Option Out := (seqB (setB 2 (datF (op2 (datL (datF (op2 (nameL 2) (datL (datF (op2 (nameL 3) (nameL 4) addD))) ixD))) (datL (datF (op2 (datL (datF (op2 (nameL 0) (nameL 3) ixD))) (datL (datF (op2 (nameL 1) (nameL 4) ixD))) mulD))) addD)) (datL (datF (op2 (nameL 3) (nameL 4) addD)))) (nilB))
theorem lm_turn {I J F : List PyData} {i j C D E : Int} {q : Nat} (h1 : ixD (.list F) (.int (i + j)) = some (.val (.int C))) (h2 : ixD (.list I) (.int i) = some (.val (.int D))) (h3 : ixD (.list J) (.int j) = some (.val (.int E))) (hm : mulOk D E = true) (hq : ixN F.length (i + j) = some q) :
    lmT [.val (.list I), .val (.list J), .own F, .val (.int i), .val (.int j)] = some (.nx [.val (.list I), .val (.list J), .own (F.set q (.int (C + D * E))), .val (.int i), .val (.int j)]) := by
  simp [lmT, seqB, ifB, asgB, retB, exprB, op1, op2, look, nameL, nameV, datL, datF, valF, constD, boolT, consA, tupF, lstF, setS_zv, setS_zo, setS_zu, setS_succ, Slot.dat, Slot.mut, Slot.put, nilB, callF, notT, andT, orT, andE, orE, ifE, boolS, tgtB, tupG, consG, nilG, nameG, retNm, appB, augB, callX, ioA, consX, argI, argV, argN, argsS, argS, ioIx, putB, popF, setB, h1, h2, h3, hq, add_ii, mul_ii hm, setB]
/-- one row: a turn of the outer walk -/
theorem lm_row {a b : List Int} {i : Nat} {L : Int} (hL : L = i) (hi : i < a.length) (hm : ∀ x ∈ a, ∀ y ∈ b, mulOk x y = true) : ∀ (n lo : Nat) (M : Int) (fs : List Int) (s : Slot), M = lo → nio s = true → lo + n = b.length → a.length + b.length ≤ fs.length + 1 →
    ∃ (gs : List Int) (s' : Slot), nio s' = true ∧ gs.length = fs.length ∧ (∀ k, gs.getD k 0 = fs.getD k 0 + if i + lo ≤ k then a.getD i 0 * b.getD (k - i) 0 else 0) ∧
      forLoop (nameG 4) lmT (Ip.intsFrom M n) [.val (.list (iv a)), .val (.list (iv b)), .own (iv fs), .val (.int L), s] = some (.nx [.val (.list (iv a)), .val (.list (iv b)), .own (iv gs), .val (.int L), s'])
  | 0, lo, M, fs, s, hM, hs, hn, hf => ⟨fs, s, hs, rfl, fun k => by
      split
      · rename_i h
        have : b.getD (k - i) 0 = 0 := by simp [List.getD, show b.length ≤ k - i by omega]
        rw [this, Int.mul_zero, Int.add_zero]
      · rw [Int.add_zero], rfl⟩
  | n + 1, lo, M, fs, s, hM, hs, hn, hf => by
    have hk : lo < b.length := by omega
    have hk2 : i + lo < fs.length := by omega
    have h1 := ix_iv0 (ns := fs) (i := L + M) (i + lo) (by omega) (List.getElem?_eq_getElem hk2)
    have h2 := ix_iv0 (ns := a) (i := L) i hL (List.getElem?_eq_getElem hi)
    have h3 := ix_iv0 (ns := b) (i := M) lo hM (List.getElem?_eq_getElem hk)
    have hq : ixN (iv fs).length (L + M) = some (i + lo) := by
      rw [iv_len, ixN_of (by omega) (by omega)]
      exact congrArg some (by omega)
    have h4 := lm_turn h1 h2 h3 (hm _ (List.getElem_mem hi) _ (List.getElem_mem hk)) hq
    rw [iv_set] at h4
    obtain ⟨gs, s', e1, e2, e3, e4⟩ := lm_row hL hi hm n (lo + 1) (M + 1) (fs.set (i + lo) (fs[i + lo] + a[i] * b[lo])) (.val (.int M)) (by omega) rfl (by omega) (by rw [List.length_set]; omega)
    refine ⟨gs, s', e1, by rw [e2, List.length_set], fun k => ?_, ?_⟩
    · rw [e3 k, getD_setI hk2]
      by_cases c : k = i + lo
      · subst c
        rw [if_pos rfl, if_neg (by omega), if_pos (Nat.le_refl _), Nat.add_sub_cancel_left]
        simp [List.getD, hk, hk2, hi]
      · rw [if_neg c]
        by_cases c2 : i + (lo + 1) ≤ k
        · rw [if_pos c2, if_pos (by omega)]
        · rw [if_neg c2, if_neg (by omega)]
    · rw [ints_succ, for_nx (e1 := [.val (.list (iv a)), .val (.list (iv b)), .own (iv fs), .val (.int L), .val (.int M)]) (by simp [nameG, setS_zero hs, setS_succ]) h4]
      exact e4
end Lp

set_option Elab.async false
set_option linter.all false
set_option maxRecDepth 100000
set_option maxHeartbeats 4000000
/-! k03: products, the laws' own -/
namespace Lp
open PySem L2 Ip Lw
def lmR : MEnv → Option Out := (seqB (forB (rng1I (consA (datF (op1 (nameL 1) lenD)) ((fun env => some ([], env))))) (nameG 4) lmT) (nilB))
theorem lm_loop {a b : List Int} (hl2 : b.length ≤ 100000) (hm : ∀ x ∈ a, ∀ y ∈ b, mulOk x y = true) : ∀ (n i : Nat) (L : Int) (fs : List Int) (s s2 : Slot), L = i → nio s = true → nio s2 = true → i + n = a.length → a.length + b.length ≤ fs.length + 1 → (∀ k, fs.getD k 0 = pk a b k i) →
    ∃ (gs : List Int) (s' s2' : Slot), gs.length = fs.length ∧ (∀ k, gs.getD k 0 = pk a b k a.length) ∧
      forLoop (nameG 3) lmR (Ip.intsFrom L n) [.val (.list (iv a)), .val (.list (iv b)), .own (iv fs), s, s2] = some (.nx [.val (.list (iv a)), .val (.list (iv b)), .own (iv gs), s', s2'])
  | 0, i, L, fs, s, s2, hL, hs, hs2, hn, hf, hp => ⟨fs, s, s2, rfl, fun k => by rw [hp k, show i = a.length by omega], rfl⟩
  | n + 1, i, L, fs, s, s2, hL, hs, hs2, hn, hf, hp => by
    obtain ⟨gs, s', e1, e2, e3, e4⟩ := lm_row hL (show i < a.length by omega) hm b.length 0 0 fs s2 rfl hs2 (by omega) hf
    have hrow : lmR [.val (.list (iv a)), .val (.list (iv b)), .own (iv fs), .val (.int L), s2] = some (.nx [.val (.list (iv a)), .val (.list (iv b)), .own (iv gs), .val (.int L), s']) := by
      unfold lmR
      rw [seq_nx (forB_of (rng1_nat (c := il b) (n := b.length) (env1 := [.val (.list (iv a)), .val (.list (iv b)), .own (iv fs), .val (.int L), s2]) (by simp [seqB, ifB, asgB, retB, exprB, op1, op2, look, nameL, nameV, datL, datF, valF, constD, boolT, consA, tupF, lstF, setS_zv, setS_zo, setS_zu, setS_succ, Slot.dat, Slot.mut, Slot.put, nilB, callF, notT, andT, orT, andE, orE, ifE, boolS, tgtB, tupG, consG, nilG, nameG, retNm, appB, augB, callX, ioA, consX, argI, argV, argN, argsS, argS, ioIx, putB, popF, setB, len_iv]) rfl hl2) e4)]
      rfl
    obtain ⟨ws, u, u2, g1, g2, g3⟩ := lm_loop hl2 hm n (i + 1) (L + 1) gs (.val (.int L)) s' (by omega) rfl e1 (by omega) (by omega) (fun k => by
      rw [e3 k, hp k]
      rfl)
    refine ⟨ws, u, u2, by omega, g2, ?_⟩
    rw [ints_succ, for_nx (e1 := [.val (.list (iv a)), .val (.list (iv b)), .own (iv fs), .val (.int L), s2]) (by simp [nameG, setS_zero hs, setS_succ]) hrow]
    exact g3
theorem lm_fin {tr : Ip.Run} {x0 x1 s s2 : Slot} {T R : List PyData} {o : List Slot} (h : tr [.val (.list T)] = some (.own R, o)) : (seqB (retB (callF 1 tr (consA (nameV 2) ((fun env => some ([], env)))))) (nilB)) [x0, x1, .own T, s, s2] = some (.rt (.own R) [x0, x1, .val (.list T), s, s2]) := by
  simp [seqB, ifB, asgB, retB, exprB, op1, op2, look, nameL, nameV, datL, datF, valF, constD, boolT, consA, tupF, lstF, setS_zv, setS_zo, setS_zu, setS_succ, Slot.dat, Slot.mut, Slot.put, nilB, callF, notT, andT, orT, andE, orE, ifE, boolS, tgtB, tupG, consG, nilG, nameG, retNm, appB, augB, callX, ioA, consX, argI, argV, argN, argsS, argS, ioIx, putB, popF, setB, h]
theorem law_multiply_eval {a b : List Int} (hl : a.length ≤ 1000) (hl2 : b.length ≤ 1000) (hm : ∀ x ∈ a, ∀ y ∈ b, mulOk x y = true) : ∃ gs : List Int, gs.length = a.length + b.length + 1 ∧ (∀ k, gs.getD k 0 = pk a b k a.length) ∧ ∃ o, r_f_law_multiply [.val (.list (iv a)), .val (.list (iv b))] = some (.own (iv (tp gs)), o) := by
  obtain ⟨Z, hZ⟩ : ∃ Z : List Int, Z = List.replicate (a.length + b.length + 1) 0 := ⟨_, rfl⟩
  have lZ : Z.length = a.length + b.length + 1 := by rw [hZ, List.length_replicate]
  have gZ : ∀ k, Z.getD k 0 = pk a b k 0 := fun i => by
    rw [hZ]
    simp only [List.getD, List.getElem?_replicate]
    split <;> rfl
  obtain ⟨gs, s', s2', e1, e2, e3⟩ := lm_loop (by omega) hm a.length 0 0 Z .un .un rfl rfl rfl (by omega) (by omega) gZ
  obtain ⟨o, ht⟩ := ltrim_eval gs (by omega)
  refine ⟨gs, by omega, e2, ?_⟩
  have ea : il a = (a.length : Int) := rfl
  have eb : il b = (b.length : Int) := rfl
  obtain ⟨N, hN⟩ : ∃ N : Int, N = il a + il b + 1 := ⟨_, rfl⟩
  have hNn : N.toNat = a.length + b.length + 1 := by omega
  have hrp : repF (lstF (consA (constD (.int 0)) ((fun env => some ([], env))))) (datL (datF (op2 (datL (datF (op2 (datL (datF (op1 (nameL 0) lenD))) (datL (datF (op1 (nameL 1) lenD))) addD))) (datL (constD (.int 1))) addD))) [.val (.list (iv a)), .val (.list (iv b)), .un, .un, .un] = some (.own (iv Z), [.val (.list (iv a)), .val (.list (iv b)), .un, .un, .un]) := by
    unfold repF
    have q1 : lstF (consA (constD (.int 0)) ((fun env => some ([], env)))) [.val (.list (iv a)), .val (.list (iv b)), .un, .un, .un] = some (.own [.int 0], [.val (.list (iv a)), .val (.list (iv b)), .un, .un, .un]) := rfl
    have q2 : (datL (datF (op2 (datL (datF (op2 (datL (datF (op1 (nameL 0) lenD))) (datL (datF (op1 (nameL 1) lenD))) addD))) (datL (constD (.int 1))) addD))) [.val (.list (iv a)), .val (.list (iv b)), .un, .un, .un] = some (.dat (.int N), [.val (.list (iv a)), .val (.list (iv b)), .un, .un, .un]) := by
      rw [hN]
      simp [seqB, ifB, asgB, retB, exprB, op1, op2, look, nameL, nameV, datL, datF, valF, constD, boolT, consA, tupF, lstF, setS_zv, setS_zo, setS_zu, setS_succ, Slot.dat, Slot.mut, Slot.put, nilB, callF, notT, andT, orT, andE, orE, ifE, boolS, tgtB, tupG, consG, nilG, nameG, retNm, appB, augB, callX, ioA, consX, argI, argV, argN, argsS, argS, ioIx, putB, popF, setB, len_iv, add_ii]
    have q3 : ∀ env, look (.dat (.int N)) env = some (.int N) := fun _ => rfl
    simp only [q1, q2, q3]
    rw [if_pos ⟨by rw [hNn]; simp; omega, by omega, by omega⟩, hNn, hZ]
    have e4 : (List.replicate (a.length + b.length + 1) [PyData.int 0]).flatten = iv (List.replicate (a.length + b.length + 1) 0) := by
      unfold iv
      rw [List.map_replicate]
      exact List.flatten_replicate_singleton
    rw [e4]
  refine run_rt (e := [.val (.list (iv a)), .val (.list (iv b)), .val (.list (iv gs)), s', s2']) ?_ (by simp)
  show seqB _ (seqB (forB _ _ lmR) _) [.val (.list (iv a)), .val (.list (iv b)), .un, .un, .un] = _
  rw [seq_nx (e1 := [.val (.list (iv a)), .val (.list (iv b)), .own (iv Z), .un, .un]) (by simp only [asgB, hrp, setS_succ, setS_zu, Option.map])]
  rw [seq_nx (forB_of (rng1_nat (c := il a) (n := a.length) (env1 := [.val (.list (iv a)), .val (.list (iv b)), .own (iv Z), .un, .un]) (by simp [seqB, ifB, asgB, retB, exprB, op1, op2, look, nameL, nameV, datL, datF, valF, constD, boolT, consA, tupF, lstF, setS_zv, setS_zo, setS_zu, setS_succ, Slot.dat, Slot.mut, Slot.put, nilB, callF, notT, andT, orT, andE, orE, ifE, boolS, tgtB, tupG, consG, nilG, nameG, retNm, appB, augB, callX, ioA, consX, argI, argV, argN, argsS, argS, ioIx, putB, popF, setB, len_iv]) rfl (by omega)) e3)]
  exact lm_fin ht
end Lp

set_option Elab.async false
set_option linter.all false
set_option maxRecDepth 100000
set_option maxHeartbeats 4000000
/-! k03: products, the program's -/
namespace Lp
open PySem L2 Ip Lw
theorem pk_nil (a : List Int) (k : Nat) : ∀ i, pk a [] k i = 0
  | 0 => rfl
  | i + 1 => by
    show pk a [] k i + _ = 0
    rw [pk_nil a k i]
    simp
end Lp

set_option Elab.async false
set_option linter.all false
set_option maxRecDepth 100000
set_option maxHeartbeats 4000000
/-! k03: what is the same on both sides -/
namespace Lp
open PySem L2 Ip Lw
theorem tp_of_last {l : List Int} (h : l = [] ∨ l.getD (l.length - 1) 0 ≠ 0) : tp l = l := by
  have := tp_take l l.length (Nat.le_refl _) (fun j hj => by simp [List.getD, hj]) (by
    rcases h with h | h
    · exact .inl (by rw [h]; rfl)
    · exact .inr h)
  rw [List.take_length] at this
  exact this.symm
theorem tp_last : ∀ cs : List Int, tp cs = [] ∨ (tp cs).getD ((tp cs).length - 1) 0 ≠ 0
  | [] => .inl rfl
  | c :: cs => by
    have ih := tp_last cs
    unfold tp
    by_cases h : c = 0 ∧ tp cs = []
    · rw [if_pos h]; exact .inl rfl
    · rw [if_neg h]
      refine .inr ?_
      rw [List.length_cons, Nat.add_sub_cancel]
      cases hl : (tp cs).length with
      | zero =>
        have e := List.eq_nil_of_length_eq_zero hl
        exact fun q => h ⟨q, e⟩
      | succ m =>
        have e : tp cs ≠ [] := fun q => by rw [q] at hl; cases hl
        have := ih.resolve_left e
        rw [hl, Nat.add_sub_cancel] at this
        exact this
/-- a product's coefficient beyond the last one of the factors -/
theorem pk_hi {a b : List Int} {k : Nat} : ∀ i, (∀ j, j < i → k - j ≥ b.length ∨ j > k) → pk a b k i = 0
  | 0, _ => rfl
  | i + 1, h => by
    show pk a b k i + _ = 0
    rw [pk_hi i fun j hj => h j (by omega), Int.zero_add]
    split
    · rename_i c
      rcases h i (by omega) with q | q
      · have : b.getD (k - i) 0 = 0 := by simp [List.getD, q]
        rw [this, Int.mul_zero]
      · omega
    · rfl
/-- the last coefficient of a product -/
theorem pk_last {a b : List Int} (ha : a ≠ []) (hb : b ≠ []) : pk a b (a.length + b.length - 2) a.length = a.getD (a.length - 1) 0 * b.getD (b.length - 1) 0 := by
  have pa : 0 < a.length := List.length_pos_iff.mpr ha
  have pb : 0 < b.length := List.length_pos_iff.mpr hb
  obtain ⟨m, hm⟩ : ∃ m, a.length = m + 1 := ⟨a.length - 1, by omega⟩
  rw [hm]
  show pk a b _ m + (if m ≤ _ then _ else _) = _
  rw [pk_hi m fun j hj => .inl (by omega), if_pos (by omega), Int.zero_add, Nat.add_sub_cancel]
  congr 2
  omega
/-- the program's product of two trimmed lists is trimmed -/
theorem mul_tp {a b gs : List Int} (ha : tp a = a) (hb : tp b = b) (h1 : a ≠ [] → b ≠ [] → gs.length + 1 = a.length + b.length) (h2 : a = [] ∨ b = [] → gs = []) (h3 : ∀ k, gs.getD k 0 = pk a b k a.length) : tp gs = gs := by
  by_cases h : a = [] ∨ b = []
  · exact tp_of_last (.inl (h2 h))
  · have na : a ≠ [] := fun e => h (.inl e)
    have nb : b ≠ [] := fun e => h (.inr e)
    have la := (tp_last a).resolve_left (by rw [ha]; exact na)
    have lb := (tp_last b).resolve_left (by rw [hb]; exact nb)
    rw [ha] at la
    rw [hb] at lb
    refine tp_of_last (.inr ?_)
    have hl := h1 na nb
    rw [h3, show gs.length - 1 = a.length + b.length - 2 by omega, pk_last na nb]
    exact Int.mul_ne_zero la lb
end Lp

set_option Elab.async false
set_option linter.all false
set_option maxRecDepth 100000
set_option maxHeartbeats 4000000
/-! k03: the product of two lists of coefficients, as a list -/
namespace Lp
open PySem L2 Ip Lw
def mp (a b : List Int) : List Int := if a = [] ∨ b = [] then [] else (List.range (a.length + b.length - 1)).map fun k => pk a b k a.length
theorem mp_len {a b : List Int} (ha : a ≠ []) (hb : b ≠ []) : (mp a b).length + 1 = a.length + b.length := by
  have pa : 0 < a.length := List.length_pos_iff.mpr ha
  unfold mp
  rw [if_neg (by simp [ha, hb]), List.length_map, List.length_range]
  omega
theorem mp_nil {a b : List Int} (h : a = [] ∨ b = []) : mp a b = [] := if_pos h
theorem mp_getD (a b : List Int) (k : Nat) : (mp a b).getD k 0 = pk a b k a.length := by
  by_cases h : a = [] ∨ b = []
  · rw [mp_nil h]
    rcases h with e | e
    · subst e; rfl
    · subst e; rw [pk_nil]; rfl
  · have na : a ≠ [] := fun e => h (.inl e)
    have nb : b ≠ [] := fun e => h (.inr e)
    have pa : 0 < a.length := List.length_pos_iff.mpr na
    have pb : 0 < b.length := List.length_pos_iff.mpr nb
    by_cases c : k < a.length + b.length - 1
    · unfold mp
      rw [if_neg h]
      simp [List.getD, c]
    · rw [pk_hi _ fun j hj => .inl (by omega)]
      have := mp_len na nb
      have h2 : (mp a b).length ≤ k := by omega
      simp [List.getD, h2]
theorem list_ext {x y : List Int} (hl : x.length = y.length) (h : ∀ k, x.getD k 0 = y.getD k 0) : x = y := by
  apply List.ext_getElem hl
  intro i h1 h2
  have := h i
  simpa [List.getD, h1, h2] using this
theorem mp_tp {a b : List Int} (ha : tp a = a) (hb : tp b = b) : tp (mp a b) = mp a b := mul_tp ha hb (fun h1 h2 => mp_len h1 h2) mp_nil (mp_getD a b)
theorem law_multiply_mp {a b : List Int} (ha : tp a = a) (hb : tp b = b) (hl : a.length ≤ 1000) (hl2 : b.length ≤ 1000) (hm : ∀ x ∈ a, ∀ y ∈ b, mulOk x y = true) : ∃ o, r_f_law_multiply [.val (.list (iv a)), .val (.list (iv b))] = some (.own (iv (mp a b)), o) := by
  obtain ⟨gs, h1, h2, h3⟩ := law_multiply_eval hl hl2 hm
  have e : tp gs = mp a b := by
    rw [← mp_tp ha hb]
    exact tp_ext _ _ fun k => by rw [h2, mp_getD]
  rw [← e]
  exact h3
theorem mp_one (a : List Int) : mp [1] a = a := by
  by_cases h : a = []
  · subst h; rfl
  · have := mp_len (a := [1]) (b := a) (by simp) h
    refine list_ext (by simp at this; omega) fun k => ?_
    rw [mp_getD]
    show 0 + (if 0 ≤ k then (1 : Int) * a.getD (k - 0) 0 else 0) = _
    rw [if_pos (Nat.zero_le _), Int.zero_add, Int.one_mul, Nat.sub_zero]
end Lp

set_option Elab.async false
set_option linter.all false
set_option maxRecDepth 100000
set_option maxHeartbeats 4000000
/-! k03: comparisons with the empty list, products of three -/
namespace Lp
open PySem L2 Ip Lw
theorem plain_iv (x : List Int) : plain (.list (iv x)) = true := by
  show plainL (iv x) = true
  refine plainL_of fun d hd => ?_
  obtain ⟨y, _, rfl⟩ := List.mem_map.mp hd
  rfl
theorem depth_iv (x : List Int) : (PyData.list (iv x)).depth ≤ 3 := by
  have h : PyData.depthAll (iv x) ≤ 1 := depthAll_of fun d hd => by
    obtain ⟨y, _, rfl⟩ := List.mem_map.mp hd
    simp [PyData.depth]
  show PyData.depthAll (iv x) + 1 ≤ 3
  omega
theorem shaped_iv (x : List Int) : SeqAt.shaped (.list (iv x)) = true := shaped_of (plain_iv x) (Nat.le_trans (depth_iv x) (by decide))
theorem eq_nil_iv (x : List Int) : eqD (.list (iv x)) (.list []) = some (.val (.bool (decide (x = [])))) := by
  unfold eqD
  simp only
  rw [if_pos ⟨shaped_iv x, rfl⟩]
  cases x with
  | nil => rfl
  | cons c cs =>
    have e : decide (c :: cs = []) = false := rfl
    rw [e]
    rfl
theorem mp_le (a b : List Int) : (mp a b).length ≤ a.length + b.length := by
  by_cases h : a = [] ∨ b = []
  · rw [mp_nil h]; exact Nat.zero_le _
  · have := mp_len (fun e => h (.inl e)) (fun e => h (.inr e))
    omega
end Lp

set_option Elab.async false
set_option linter.all false
set_option maxRecDepth 100000
set_option maxHeartbeats 4000000
/-! k03: the law's test of a polynomial -/
namespace Lp
open PySem L2 Ip Lw
def ipB : MEnv → Option Out := (seqB (ifB (orT (notT (boolT (op1 (nameL 1) (isaD .int)))) (boolT (op1 (nameL 1) (isaD .bool)))) (seqB (retB (valF (constD (.bool false)))) (nilB)) (nilB)) (nilB))
theorem ip_turn {A : Slot} (x : Int) : ipB [A, .val (.int x)] = some (.nx [A, .val (.int x)]) := rfl
theorem ip_loop {A : Slot} : ∀ (xs : List Int) (s : Slot), nio s = true → ∃ s', nio s' = true ∧ forLoop (nameG 1) ipB (iv xs) [A, s] = some (.nx [A, s'])
  | [], s, hs => ⟨s, hs, rfl⟩
  | x :: xs, s, hs => by
    obtain ⟨s', h1, h2⟩ := ip_loop (A := A) xs (.val (.int x)) rfl
    refine ⟨s', h1, ?_⟩
    show forLoop (nameG 1) ipB (.int x :: iv xs) [A, s] = _
    rw [for_nx (e1 := [A, .val (.int x)]) (by simp [nameG, setS_zero hs, setS_succ]) (ip_turn x)]
    exact h2
theorem ip_last0 {I : List PyData} {s : Slot} (h : lenD (.list I) = some (.val (.int 0))) : (seqB (retB (orE (op2 (datL (datF (op1 (nameL 0) lenD))) (datL (constD (.int 0))) eqD) (op2 (datL (datF (op2 (nameL 0) (datL (datF (op1 (datL (constD (.int 1))) negD))) ixD))) (datL (constD (.int 0))) neD))) (nilB)) [.val (.list I), s] = some (.rt (.val (.bool true)) [.val (.list I), s]) := by
  simp [seqB, ifB, asgB, retB, exprB, op1, op2, look, nameL, nameV, datL, datF, valF, constD, boolT, consA, tupF, lstF, setS_zv, setS_zo, setS_zu, setS_succ, Slot.dat, Slot.mut, Slot.put, nilB, callF, notT, andT, orT, andE, orE, ifE, boolS, tgtB, tupG, consG, nilG, nameG, retNm, appB, augB, callX, ioA, consX, argI, argV, argN, argsS, argS, ioIx, putB, popF, setB, h, eq_ii, orE]
theorem ip_last1 {I : List PyData} {s : Slot} {n C : Int} (h : lenD (.list I) = some (.val (.int n))) (hn : n ≠ 0) (hx : ixD (.list I) (.int (-1)) = some (.val (.int C))) (hC : C ≠ 0) : (seqB (retB (orE (op2 (datL (datF (op1 (nameL 0) lenD))) (datL (constD (.int 0))) eqD) (op2 (datL (datF (op2 (nameL 0) (datL (datF (op1 (datL (constD (.int 1))) negD))) ixD))) (datL (constD (.int 0))) neD))) (nilB)) [.val (.list I), s] = some (.rt (.val (.bool true)) [.val (.list I), s]) := by
  simp [seqB, ifB, asgB, retB, exprB, op1, op2, look, nameL, nameV, datL, datF, valF, constD, boolT, consA, tupF, lstF, setS_zv, setS_zo, setS_zu, setS_succ, Slot.dat, Slot.mut, Slot.put, nilB, callF, notT, andT, orT, andE, orE, ifE, boolS, tgtB, tupG, consG, nilG, nameG, retNm, appB, augB, callX, ioA, consX, argI, argV, argN, argsS, argS, ioIx, putB, popF, setB, h, eq_ii, orE, hn, neg_i, hx, ne_ii, hC]
theorem is_polynomial_eval {xs : List Int} (ht : tp xs = xs) : ∃ o, r_f_law_is_polynomial [.val (.list (iv xs))] = some (.val (.bool true), o) := by
  obtain ⟨s', h1, h2⟩ := ip_loop (A := .val (.list (iv xs))) xs .un rfl
  refine run_rt (e := [.val (.list (iv xs)), s']) ?_ (by simp)
  show seqB _ (seqB (forB _ _ ipB) _) [.val (.list (iv xs)), .un] = _
  rw [seq_nx (e1 := [.val (.list (iv xs)), .un]) rfl]
  rw [seq_nx (forB_of (ds := iv xs) (e1 := [.val (.list (iv xs)), .un]) rfl h2)]
  by_cases h : xs = []
  · subst h
    exact ip_last0 rfl
  · have hl := (tp_last xs).resolve_left (by rw [ht]; exact h)
    rw [ht] at hl
    have pos : 0 < xs.length := List.length_pos_iff.mpr h
    obtain ⟨m, hm⟩ : ∃ m, xs.length = m + 1 := ⟨xs.length - 1, by omega⟩
    have hx := ix_last (cs := xs) (n := m) (by omega)
    rw [← hm, List.take_length] at hx
    rw [hm, Nat.add_sub_cancel] at hl
    have e : xs.getD m 0 = xs[m] := by simp [List.getD, show m < xs.length by omega]
    rw [e] at hl
    exact ip_last1 (len_iv xs) (by show (xs.length : Int) ≠ 0; omega) hx hl
end Lp

set_option Elab.async false
set_option linter.all false
set_option maxRecDepth 100000
set_option maxHeartbeats 4000000
/-! k03: values of sums and products -/
namespace Lp
open PySem L2 Ip Lw
theorem pk_cons (c : Int) (a b : List Int) (k : Nat) : ∀ i, pk (c :: a) b k (i + 1) = c * b.getD k 0 + (if 1 ≤ k then pk a b (k - 1) i else 0)
  | 0 => by
    show 0 + (if 0 ≤ k then c * b.getD (k - 0) 0 else 0) = _
    rw [if_pos (Nat.zero_le _), Nat.sub_zero, Int.zero_add]
    show _ = _ + (if 1 ≤ k then 0 else 0)
    split <;> omega
  | i + 1 => by
    have ih := pk_cons c a b k i
    show pk (c :: a) b k (i + 1) + (if i + 1 ≤ k then a.getD i 0 * b.getD (k - (i + 1)) 0 else 0) = _
    rw [ih]
    by_cases h : 1 ≤ k
    · rw [if_pos h, if_pos h]
      show _ = c * b.getD k 0 + (pk a b (k - 1) i + if i ≤ k - 1 then a.getD i 0 * b.getD (k - 1 - i) 0 else 0)
      by_cases h2 : i + 1 ≤ k
      · rw [if_pos h2, if_pos (by omega), show k - 1 - i = k - (i + 1) by omega, Int.add_assoc]
      · rw [if_neg h2, if_neg (by omega), Int.add_zero, Int.add_zero]
    · rw [if_neg h, if_neg h, if_neg (by omega), Int.add_zero]
end Lp

set_option Elab.async false
set_option linter.all false
set_option maxRecDepth 100000
set_option maxHeartbeats 4000000
namespace Lp
open PySem L2 Ip Lw

/-! ### _law_gcd -/
def gBody : MEnv → Option Out := (seqB (ifB (boolT (op2 (nameL 1) (datL (constD (.int 0))) eqD)) (seqB ((fun env => some (.bk env))) (nilB)) (nilB)) (seqB (asgB 3 (op2 (datL (datF (op1 (nameL 0) intD))) (nameL 1) modD)) (seqB (asgB 0 (valF (nameV 1))) (seqB (asgB 1 (valF (nameV 3))) (nilB)))))
def Sv (s : Slot) : Prop := s = .un ∨ ∃ d, s = .val d
theorem gturn {x y k : Int} {r : Slot} (hr : Sv r) (hy : y ≠ 0) : gBody [.val (.int x), .val (.int y), .val (.int k), r] = some (.nx [.val (.int y), .val (.int (x.fmod y)), .val (.int k), .val (.int (x.fmod y))]) := by
  unfold gBody
  rcases hr with rfl | ⟨d, rfl⟩ <;>
  simp [seqB, ifB, asgB, op1, op2, look, nameL, nameV, datL, datF, valF, constD, boolT, setS, Slot.dat, modD, intD, eqD, bV, shaped_int, eqv_int, hy, nilB]
theorem gstop {x k : Int} {r : Slot} (hr : Sv r) : gBody [.val (.int x), .val (.int 0), .val (.int k), r] = some (.bk [.val (.int x), .val (.int 0), .val (.int k), r]) := by
  unfold gBody
  rcases hr with rfl | ⟨d, rfl⟩ <;>
  simp [seqB, ifB, op2, look, nameL, datL, datF, constD, boolT, Slot.dat, eqD, bV, shaped_int, eqv_int]
theorem gloop : ∀ (n : Nat) (ks : List Int) (x y : Nat) (s r : Slot), Sv s → Sv r → n ≤ ks.length → (y ≤ x ∨ n + 1 ≤ ks.length) → x * y < 2 ^ n →
    ∃ e1 e2 e3, forLoop (nameG 2) gBody (ks.map .int) [.val (.int x), .val (.int y), s, r] = some (.nx [.val (.int (Nat.gcd x y)), e1, e2, e3])
  | n, [], x, y, s, r, hs, hr, hn, ho, hb => by
    have hn0 : n = 0 := by simpa using hn
    subst hn0
    have hy : y ≤ x := by
      rcases ho with h | h
      · exact h
      · simp at h
    have hy0 : y = 0 := by
      rcases Nat.eq_zero_or_pos y with h | h
      · exact h
      · have := Nat.mul_le_mul hy (Nat.le_refl y)
        have : 1 ≤ x * y := Nat.mul_pos (by omega) h
        omega
    subst hy0
    refine ⟨.val (.int 0), s, r, ?_⟩
    simp [forLoop, Nat.gcd_zero_right]
  | n, k :: ks, x, y, s, r, hs, hr, hn, ho, hb => by
    have hset : nameG 2 (.int k) [.val (.int x), .val (.int y), s, r] = some [.val (.int x), .val (.int y), .val (.int k), r] := by
      rcases hs with rfl | ⟨d, rfl⟩ <;> rfl
    by_cases hy0 : y = 0
    · subst hy0
      refine ⟨.val (.int 0), .val (.int k), r, ?_⟩
      rw [List.map_cons]
      unfold forLoop
      rw [hset]
      simp only
      rw [show ((0 : Nat) : Int) = 0 from rfl, gstop hr]
      simp [Nat.gcd_zero_right]
    · have hyp : 0 < y := Nat.pos_of_ne_zero hy0
      have step : forLoop (nameG 2) gBody (.int k :: ks.map .int) [.val (.int x), .val (.int y), s, r] = forLoop (nameG 2) gBody (ks.map .int) [.val (.int y), .val (.int ((x % y : Nat) : Int)), .val (.int k), .val (.int ((x % y : Nat) : Int))] := by
        conv => lhs; unfold forLoop
        rw [hset]
        simp only
        rw [gturn hr (by omega), fmod_nat]
      have hg : Nat.gcd y (x % y) = Nat.gcd x y := by
        rw [Nat.gcd_comm y, ← Nat.gcd_rec, Nat.gcd_comm]
      rw [List.map_cons, step, ← hg]
      have hlt : x % y < y := Nat.mod_lt _ hyp
      by_cases hyx : y ≤ x
      · -- the product halves
        have h2 : 2 * (x % y) ≤ x := by
          have h1 := Nat.div_add_mod x y
          have h3 : 1 ≤ x / y := Nat.div_pos hyx hyp
          have h4 : y * 1 ≤ y * (x / y) := Nat.mul_le_mul (Nat.le_refl y) h3
          omega
        cases n with
        | zero =>
          have : 1 ≤ x * y := Nat.mul_pos (by omega) hyp
          simp at hb
          omega
        | succ m =>
          refine gloop m ks y (x % y) _ _ (.inr ⟨_, rfl⟩) (.inr ⟨_, rfl⟩) (by simpa using hn) (.inl (by omega)) ?_
          have h5 : 2 * (y * (x % y)) ≤ x * y := by
            rw [Nat.mul_left_comm, Nat.mul_comm x y]
            exact Nat.mul_le_mul (Nat.le_refl y) h2
          rw [Nat.pow_succ] at hb
          omega
      · have hn1 : n + 1 ≤ ks.length + 1 := by
          rcases ho with h | h
          · exact absurd h hyx
          · simpa using h
        have hm : x % y = x := Nat.mod_eq_of_lt (by omega)
        refine gloop n ks y (x % y) _ _ (.inr ⟨_, rfl⟩) (.inr ⟨_, rfl⟩) (by omega) (.inl (by omega)) ?_
        rw [hm, Nat.mul_comm]
        exact hb
theorem ints_map (lo : Int) (n : Nat) : Ip.intsFrom lo n = ((List.range n).map fun i => lo + (i : Nat)).map .int := by
  unfold Ip.intsFrom
  rw [List.map_map]
  rfl
theorem gcd_eval (a b : Int) (h : a.natAbs * b.natAbs < 2 ^ 3990) : ∃ o, r_f_law_gcd [.val (.int a), .val (.int b)] = some (.val (.int (gI a b)), o) := by
  have habs : ∀ i : Int, (if i < 0 then -i else i) = ((i.natAbs : Nat) : Int) := fun i => by split <;> omega
  obtain ⟨e1, e2, e3, hl⟩ := gloop 3990 ((List.range 4000).map fun i => (0 : Int) + (i : Nat)) a.natAbs b.natAbs .un .un (.inl rfl) (.inl rfl) (by simp) (.inr (by simp)) h
  rw [← ints_map] at hl
  have hfor : forB (rng1I (consA (constD (.int 4000)) ((fun env => some ([], env))))) (nameG 2) gBody [.val (.int a.natAbs), .val (.int b.natAbs), .un, .un] = some (.nx [.val (.int (gI a b)), e1, e2, e3]) := by
    unfold forB
    simp only [rng1I, consA, constD]
    rw [if_pos (by decide)]
    exact hl
  have h1 : seqB (asgB 0 (op1 (nameL 0) absD)) (seqB (asgB 1 (op1 (nameL 1) absD)) (seqB (forB (rng1I (consA (constD (.int 4000)) ((fun env => some ([], env))))) (nameG 2) gBody) (seqB (retNm 0) (nilB)))) [.val (.int a), .val (.int b), .un, .un] = some (.rt (.val (.int (gI a b))) [.val (.int (gI a b)), e1, e2, e3]) := by
    simp only [seqB, asgB, op1, look, nameL, absD, setS, habs, List.getElem?_cons_zero, List.getElem?_cons_succ, List.set_cons_zero, List.set_cons_succ]
    rw [hfor]
    simp [retNm]
  exact run_rt (e := [.val (.int (gI a b)), e1, e2, e3]) h1 (by simp)
end Lp

set_option Elab.async false
set_option linter.all false
set_option maxRecDepth 100000
set_option maxHeartbeats 4000000
/-! k03: draws -/
namespace Lp
open PySem L2 Ip Lw
/-! ### _law_draws -/
def dInner : MEnv → Option Out := (ifB (boolT (op2 (datL (datF (op2 (nameL 2) (nameL 6) ixD))) (datL (datF (op2 (datL (constD (.int 10))) (datL (constD (.int 18))) powD))) geD)) (seqB (asgB 5 (op2 (datL (datF (op1 (datL (datF (op2 (nameL 2) (nameL 6) ixD))) intD))) (datL (constD (.int 1000))) modD)) (seqB (setB 2 (datF (op2 (datL (datF (op2 (nameL 2) (nameL 6) ixD))) (datL (constD (.int 1000))) fdivD)) (nameL 6)) (nilB))) (seqB (asgB 7 (op2 (datL (datF (op1 (datL (datF (op2 (datL (datF (op2 (datL (datF (op2 (datL (datF (op2 (nameL 2) (nameL 6) ixD))) (datL (constD (.int 48271))) mulD))) (datL (datF (op2 (nameL 4) (datL (constD (.int 69621))) mulD))) addD))) (datL (constD (.int 11))) addD))) intD))) (datL (constD (.int 2147483647))) modD)) (seqB (asgB 7 (op2 (datL (datF (op1 (datL (datF (op2 (datL (datF (op2 (nameL 7) (datL (constD (.int 16807))) mulD))) (nameL 6) addD))) intD))) (datL (constD (.int 2147483629))) modD)) (seqB (asgB 5 (op2 (datL (datF (op1 (datL (datF (op2 (nameL 7) (datL (constD (.int 7))) fdivD))) intD))) (datL (constD (.int 1000))) modD)) (nilB)))))
def dBody : MEnv → Option Out := seqB (asgB 5 (valF (constD (.int 0)))) (seqB (ifB (boolT (op2 (datL (datF (op1 (nameL 2) lenD))) (datL (constD (.int 0))) gtD)) (seqB (asgB 6 (op2 (datL (datF (op1 (nameL 4) intD))) (datL (datF (op1 (nameL 2) lenD))) modD)) (seqB dInner (nilB))) (nilB)) (seqB (appB 3 (nameV 5)) (nilB)))
theorem body_is : b_f_law_draws = seqB (asgB 2 (compF (seqI (nameV 0)) (nameG 8) (yesT) (nameV 8) [8])) (seqB (asgB 3 (lstF ((fun env => some ([], env))))) (seqB (forB (rng1I (consA (nameV 1) ((fun env => some ([], env))))) (nameG 4) dBody) (seqB (retNm 3) (nilB)))) := rfl
abbrev iL (ns : List Int) : List PyData := ns.map .int
theorem mod1000 (i : Int) : 0 ≤ i.fmod 1000 ∧ i.fmod 1000 < 1000 := ⟨Int.fmod_nonneg_of_pos i (by decide), Int.fmod_lt_of_pos i (by decide)⟩
theorem dinner {sc : PyData} {c k v at_ : Int} {rs ds : List Int} {m : Slot} (hm : Sv m) (h0 : 0 ≤ at_) (h1 : at_ < rs.length) : ∃ v' rs' m', 0 ≤ v' ∧ v' < 1000 ∧ rs'.length = rs.length ∧ Sv m' ∧
    dInner [.val sc, .val (.int c), .own (iL rs), .own (iL ds), .val (.int k), .val (.int v), .val (.int at_), m, .un] = some (.nx [.val sc, .val (.int c), .own (iL rs'), .own (iL ds), .val (.int k), .val (.int v'), .val (.int at_), m', .un]) := by
  have hl : at_.toNat < rs.length := by omega
  have hx : atI (iL rs) at_ = some (.int rs[at_.toNat]) := by
    rw [atI_of h0 (by rw [List.length_map]; exact h1), List.getElem?_map, List.getElem?_eq_getElem hl]
    rfl
  have hset : ixN (iL rs).length at_ = some at_.toNat := ixN_of h0 (by rw [List.length_map]; exact h1)
  generalize rs[at_.toNat] = x at hx
  have hp : (0 : Int) ≤ 18 ∧ (18 : Int) ≤ 1000 ∧ (10 : Int).natAbs < 2 ^ 64 := by decide
  have d1 : divOk 1000 = true := divOk_of (by decide) (Nat.lt_of_lt_of_le (show (1000 : Int).natAbs < 2 ^ 10 by decide) (Nat.pow_le_pow_right (by decide) (by decide)))
  have d7 : divOk 7 = true := divOk_of (by decide) (Nat.lt_of_lt_of_le (show (7 : Int).natAbs < 2 ^ 10 by decide) (Nat.pow_le_pow_right (by decide) (by decide)))
  have m1 : ∀ i, mulOk i 48271 = true := fun i => mulOk_r (by decide)
  have m2 : ∀ i, mulOk i 69621 = true := fun i => mulOk_r (by decide)
  have m3 : ∀ i, mulOk i 16807 = true := fun i => mulOk_r (by decide)
  unfold dInner
  by_cases hc : (10 : Int) ^ 18 ≤ x
  · refine ⟨x.fmod 1000, rs.set at_.toNat (x.fdiv 1000), m, (mod1000 x).1, (mod1000 x).2, List.length_set, hm, ?_⟩
    have es : (iL rs).set at_.toNat (.int (x.fdiv 1000)) = iL (rs.set at_.toNat (x.fdiv 1000)) := by
      exact (List.map_set ..).symm
    have hc' : (10 : Int) ^ (18 : Int).toNat ≤ x := hc
    simp only [seqB, ifB, boolT, op2, op1, look, nameL, nameV, datL, datF, constD, List.getElem?_cons_zero, List.getElem?_cons_succ, ixD, hx, Option.map_some, powD, hp, and_self, if_true, Slot.dat, geD, bV, hc', decide_true, intD, asgB, modD, ne_eq, Int.reduceEq, not_false_eq_true, setS, List.set_cons_succ, List.set_cons_zero, setB, fdivD, d1, Slot.mut, hset, es, Slot.put, nilB]
  · have hc' : ¬ (10 : Int) ^ (18 : Int).toNat ≤ x := hc
    refine ⟨((((x * 48271 + k * 69621 + 11).fmod 2147483647) * 16807 + at_).fmod 2147483629).fdiv 7 |>.fmod 1000, rs, .val (.int ((((x * 48271 + k * 69621 + 11).fmod 2147483647) * 16807 + at_).fmod 2147483629)), (mod1000 _).1, (mod1000 _).2, rfl, .inr ⟨_, rfl⟩, ?_⟩
    rcases hm with rfl | ⟨d, rfl⟩ <;>
    (simp only [seqB, ifB, boolT, op2, op1, look, nameL, nameV, datL, datF, constD, List.getElem?_cons_zero, List.getElem?_cons_succ, ixD, hx, Option.map_some, powD, hp, and_self, if_true, Slot.dat, geD, bV, hc', decide_false, intD, asgB, modD, ne_eq, Int.reduceEq, not_false_eq_true, setS, List.set_cons_succ, List.set_cons_zero, fdivD, d7, mulD, m1, m2, m3, addD, nilB])
theorem dturn {sc : PyData} {c : Int} {k : Nat} {rs ds : List Int} {a b at_ m : Slot} (ha : Sv a) (hb : Sv b) (hat : Sv at_) (hm : Sv m) (hd : ds.length < 100000) : ∃ v rs' b' at' m', 0 ≤ v ∧ v < 1000 ∧ rs'.length = rs.length ∧ Sv b' ∧ Sv at' ∧ Sv m' ∧
    dBody [.val sc, .val (.int c), .own (iL rs), .own (iL ds), .val (.int k), b, at_, m, .un] = some (.nx [.val sc, .val (.int c), .own (iL rs'), .own (iL (ds ++ [v])), .val (.int k), b', at', m', .un]) := by
  have hz : (iL ds).length < 100000 := by rw [List.length_map]; exact hd
  have app : ∀ v : Int, iL ds ++ [.int v] = iL (ds ++ [v]) := fun v => by simp
  by_cases hr : rs.length = 0
  · refine ⟨0, rs, .val (.int 0), at_, m, by decide, by decide, rfl, .inr ⟨_, rfl⟩, hat, hm, ?_⟩
    have hr' : ((iL rs).length : Int) = 0 := by rw [List.length_map]; omega
    unfold dBody
    rcases hb with rfl | ⟨d, rfl⟩ <;>
    (simp only [seqB, asgB, valF, constD, setS, ifB, boolT, op2, op1, look, nameL, nameV, datL, datF, lenD, hr', Slot.dat, gtD, bV, List.getElem?_cons_zero, List.getElem?_cons_succ, List.set_cons_succ, List.set_cons_zero, appB, Slot.mut, Slot.put, hz, if_true, nilB, Int.lt_irrefl, decide_false, Option.map_some, app]
     try rfl)
  · have hpos : (0 : Int) < ((iL rs).length : Int) := by rw [List.length_map]; omega
    have hne : ((iL rs).length : Int) ≠ 0 := by omega
    have hmn : 0 ≤ ((k : Int)).fmod ((iL rs).length : Int) := Int.fmod_nonneg_of_pos _ hpos
    have hml : ((k : Int)).fmod ((iL rs).length : Int) < rs.length := by
      have h := Int.fmod_lt_of_pos (k : Int) hpos
      rw [List.length_map] at h
      rw [List.length_map]
      exact h
    obtain ⟨v, rs', m', hv0, hv1, hrl, hm', hin⟩ := dinner (sc := sc) (c := c) (k := k) (v := 0) (rs := rs) (ds := ds) hm hmn hml
    refine ⟨v, rs', .val (.int v), .val (.int ((k : Int).fmod ((iL rs).length : Int))), m', hv0, hv1, hrl, .inr ⟨_, rfl⟩, .inr ⟨_, rfl⟩, hm', ?_⟩
    unfold dBody
    rcases hb with rfl | ⟨d, rfl⟩ <;> rcases hat with rfl | ⟨d2, rfl⟩ <;>
    (simp only [seqB, asgB, valF, constD, setS, ifB, boolT, op2, op1, look, nameL, nameV, datL, datF, lenD, intD, hpos, hne, Slot.dat, gtD, bV, modD, if_true, List.getElem?_cons_zero, List.getElem?_cons_succ, List.set_cons_succ, List.set_cons_zero, decide_true, Option.map_some, ne_eq, not_false_eq_true, Int.reduceEq, hin, appB, Slot.mut, Slot.put, hz, nilB, app]
     try rfl)
/-- what every law leans on: n draws, each below 1000 -/
theorem dcomp {ns : List Int} {c : Int} (hl : ns.length ≤ 63) : compF (seqI (nameV 0)) (nameG 8) yesT (nameV 8) [8] [.val (.list (iL ns)), .val (.int c), .un, .un, .un, .un, .un, .un, .un] = some (.own (iL ns), [.val (.list (iL ns)), .val (.int c), .un, .un, .un, .un, .un, .un, .un]) := by
  have h := comp_all (fi := seqI (nameV 0)) (fe := nameV 8) (j := 8) (env := [.val (.list (iL ns)), .val (.int c), .un, .un, .un, .un, .un, .un, .un]) (env1 := [.val (.list (iL ns)), .val (.int c), .un, .un, .un, .un, .un, .un, .un]) (ds := iL ns) id rfl rfl (by rw [List.length_map]; omega) (fun d _ => rfl)
  rw [List.map_id] at h
  exact h
def DP (sc : PyData) (c : Int) (n i : Nat) (env : MEnv) : Prop := ∃ rs ds k b at_ m, ds.length = i ∧ i ≤ n ∧ (∀ d ∈ ds, 0 ≤ d ∧ d < 1000) ∧ Sv k ∧ Sv b ∧ Sv at_ ∧ Sv m ∧ env = [.val sc, .val (.int c), .own (iL rs), .own (iL ds), k, b, at_, m, .un]
theorem dstep {sc : PyData} {c : Int} {n i : Nat} {d : PyData} {env : MEnv} (hn : n ≤ 100000) (hd : (Ip.intsFrom 0 n)[i]? = some d) (hP : DP sc c n (0 + i) env) : ∃ e1 e2, nameG 4 d env = some e1 ∧ dBody e1 = some (.nx e2) ∧ DP sc c n (0 + i + 1) e2 := by
  obtain ⟨rs, ds, k, b, at_, m, h1, h2, h3, hk, hb, hat, hm, rfl⟩ := hP
  obtain ⟨rfl, hi⟩ := intsFrom_get hd
  obtain ⟨v, rs', b', at', m', v0, v1, _, hb', hat', hm', ht⟩ := dturn (sc := sc) (c := c) (k := i) (rs := rs) (ds := ds) hk hb hat hm (by omega)
  refine ⟨_, _, ?_, ht, rs', ds ++ [v], .val (.int i), b', at', m', by rw [List.length_append, h1]; rfl, by omega, ?_, .inr ⟨_, rfl⟩, hb', hat', hm', rfl⟩
  · rw [Int.zero_add]
    rcases hk with rfl | ⟨d, rfl⟩ <;> rfl
  · intro d hd
    rcases List.mem_append.mp hd with h | h
    · exact h3 d h
    · rw [List.mem_singleton.mp h]; exact ⟨v0, v1⟩
theorem dloop {sc : PyData} {c : Int} {n : Nat} {rs : List Int} (hn : n ≤ 100000) : ∃ e, forLoop (nameG 4) dBody (Ip.intsFrom 0 n) [.val sc, .val (.int c), .own (iL rs), .own [], .un, .un, .un, .un, .un] = some (.nx e) ∧ DP sc c n n e := by
  obtain ⟨e, he, hP⟩ := for_ind (fg := nameG 4) (fb := dBody) (DP sc c n) (Ip.intsFrom 0 n) 0 [.val sc, .val (.int c), .own (iL rs), .own [], .un, .un, .un, .un, .un]
    ⟨rs, [], .un, .un, .un, .un, rfl, Nat.zero_le _, by simp, .inl rfl, .inl rfl, .inl rfl, .inl rfl, rfl⟩ (fun i d env hd hP => dstep hn hd hP)
  rw [intsFrom_len, Nat.zero_add] at hP
  exact ⟨e, he, hP⟩
theorem dfor {sc : PyData} {c : Int} {n : Nat} {rs : List Int} {e : MEnv} (hc : -(2 ^ 62) ≤ c ∧ c < 2 ^ 62) (hcn : c.toNat = n) (he : forLoop (nameG 4) dBody (Ip.intsFrom 0 n) [.val sc, .val (.int c), .own (iL rs), .own [], .un, .un, .un, .un, .un] = some (.nx e)) :
    forB (rng1I (consA (nameV 1) (fun env => some ([], env)))) (nameG 4) dBody [.val sc, .val (.int c), .own (iL rs), .own [], .un, .un, .un, .un, .un] = some (.nx e) := by
  have hg : rng1I (consA (nameV 1) (fun env => some ([], env))) [.val sc, .val (.int c), .own (iL rs), .own [], .un, .un, .un, .un, .un] = some (Ip.intsFrom 0 c.toNat, [.val sc, .val (.int c), .own (iL rs), .own [], .un, .un, .un, .un, .un]) := rng1_of rfl hc
  unfold forB
  rw [hg, hcn]
  exact he
theorem ds1 {sc x y : PyData} {r : List PyData} {fi : MEnv → Option (Slot × MEnv)} {a b c d e f g h : Slot} (hf : fi [a, b, .un, c, d, e, f, g, h] = some (.own r, [a, b, .un, c, d, e, f, g, h])) : asgB 2 fi [a, b, .un, c, d, e, f, g, h] = some (.nx [a, b, .own r, c, d, e, f, g, h]) := by
  unfold asgB
  rw [hf]
  rfl
theorem ds2 {a b c d e f g h : Slot} : asgB 3 (lstF (fun env => some ([], env))) [a, b, c, .un, d, e, f, g, h] = some (.nx [a, b, c, .own [], d, e, f, g, h]) := by
  have h1 : lstF (fun env => some ([], env)) [a, b, c, .un, d, e, f, g, h] = some (.own [], [a, b, c, .un, d, e, f, g, h]) := by
    unfold lstF
    simp
  unfold asgB
  rw [h1]
  rfl
theorem draws_gen {ns : List Int} {c : Int} {n : Nat} (hl : ns.length ≤ 63) (hn : n ≤ 100000) (hc : -(2 ^ 62) ≤ c ∧ c < 2 ^ 62) (hcn : c.toNat = n) : ∃ ds : List Int, ds.length = n ∧ (∀ d ∈ ds, 0 ≤ d ∧ d < 1000) ∧ ∃ o, r_f_law_draws [.val (.list (iL ns)), .val (.int c)] = some (.own (iL ds), o) := by
  obtain ⟨e, he, hP⟩ := dloop (sc := .list (iL ns)) (c := c) (rs := ns) hn
  obtain ⟨rs, ds, k, b, at_, m, h1, h2, h3, hk, hb, hat, hm, rfl⟩ := hP
  refine ⟨ds, h1, h3, ?_⟩
  refine run_rt (e := [.val (.list (iL ns)), .val (.int c), .own (iL rs), .own (iL ds), k, b, at_, m, .un]) ?_ (by simp)
  have s3 := dfor hc hcn he
  have s1 := ds1 (sc := .none) (x := .none) (y := .none) (dcomp (c := c) hl)
  rw [body_is]
  show seqB _ _ [.val (.list (iL ns)), .val (.int c), .un, .un, .un, .un, .un, .un, .un] = _
  unfold seqB
  rw [s1]
  simp only
  rw [ds2]
  simp only
  rw [s3]
  rfl
theorem draws_eval {ns : List Int} {c : Int} (n : Nat) (hl : ns.length ≤ 63) (hn : n ≤ 100000) (hcn : c = n) : ∃ ds : List Int, ds.length = n ∧ (∀ d ∈ ds, 0 ≤ d ∧ d < 1000) ∧ ∃ o, r_f_law_draws [.val (.list (iL ns)), .val (.int c)] = some (.own (iL ds), o) := by
  have hc : -(2 ^ 62) ≤ c ∧ c < 2 ^ 62 := by omega
  exact draws_gen hl hn hc (by omega)
end Lp

set_option Elab.async false
set_option linter.all false
set_option maxRecDepth 100000
set_option maxHeartbeats 4000000
/-! k03: the drawn polynomials, the law's derivative, bounds of products -/
namespace Lp
open PySem L2 Ip Lw
theorem tp_mem : ∀ (cs : List Int) (c : Int), c ∈ tp cs → c ∈ cs
  | [], c, h => h
  | x :: cs, c, h => by
    unfold tp at h
    by_cases e : x = 0 ∧ tp cs = []
    · rw [if_pos e] at h
      cases h
    · rw [if_neg e] at h
      rcases List.mem_cons.mp h with h | h
      · rw [h]; exact List.mem_cons_self
      · exact List.mem_cons_of_mem _ (tp_mem cs c h)
theorem _root_.Lw.Bl.tp {m : Nat} {cs : List Int} (h : Bl m cs) : Bl m (tp cs) := fun c hc => h c (tp_mem cs c hc)
theorem _root_.Lw.Bl.up {m k : Nat} {cs : List Int} (h : Bl m cs) (e : m ≤ k) : Bl k cs := fun c hc => up_pow (h c hc) e
theorem _root_.Lw.Bl.getD {m : Nat} {cs : List Int} (h : Bl m cs) (i : Nat) : (cs.getD i 0).natAbs < 2 ^ m := by
  by_cases hi : i < cs.length
  · have e : cs.getD i 0 = cs[i] := by simp [List.getD, hi]
    rw [e]
    exact h _ (List.getElem_mem hi)
  · have e : cs.getD i 0 = 0 := by simp [List.getD, show cs.length ≤ i by omega]
    rw [e]
    exact Nat.pow_pos (by decide)
theorem pk_bd {m k : Nat} {a b : List Int} (ha : Bl m a) (hb : Bl k b) (i : Nat) : ∀ n, (pk a b i n).natAbs ≤ n * 2 ^ (m + k)
  | 0 => by show (0 : Int).natAbs ≤ _; omega
  | n + 1 => by
    have ih := pk_bd ha hb i n
    show (pk a b i n + (if n ≤ i then a.getD n 0 * b.getD (i - n) 0 else 0)).natAbs ≤ _
    have h1 := natAbs_mul_lt (ha.getD n) (hb.getD (i - n))
    rw [Nat.succ_mul]
    split <;> omega
theorem _root_.Lw.Bl.mp {m k j : Nat} {a b : List Int} (ha : Bl m a) (hb : Bl k b) (hl : a.length < 2 ^ j) : Bl (m + k + j) (mp a b) := fun c hc => by
  unfold Lp.mp at hc
  split at hc
  · cases hc
  · obtain ⟨i, _, rfl⟩ := List.mem_map.mp hc
    have h1 := pk_bd ha hb i a.length
    refine Nat.lt_of_le_of_lt h1 ?_
    rw [Nat.pow_add 2 (m + k) j, Nat.mul_comm]
    exact Nat.mul_lt_mul_of_pos_left hl (Nat.pow_pos (by decide))
theorem rep_of {fb : MEnv → Option (Lr × MEnv)} {env : MEnv} {rb : Lr} {M : Int} {n : Nat} (hM : M = n) (hn : n ≤ 100000) (h : fb env = some (rb, env)) (hl : look rb env = some (.int M)) :
    repF (lstF (consA (constD (.int 0)) ((fun env => some ([], env))))) fb env = some (.own (iv (List.replicate n 0)), env) := by
  have q1 : lstF (consA (constD (.int 0)) ((fun env => some ([], env)))) env = some (.own [.int 0], env) := rfl
  have e4 : (List.replicate n [PyData.int 0]).flatten = iv (List.replicate n 0) := by
    unfold iv
    rw [List.map_replicate]
    exact List.flatten_replicate_singleton
  unfold repF
  simp only [q1, h, hl]
  have hMn : M.toNat = n := by omega
  rw [if_pos ⟨by rw [hMn]; simp; omega, by omega, by omega⟩, hMn, e4]
def pg1 : MEnv → Option (PyData × MEnv) := datF (op2 (datL (datF (op2 (datL (datF (op1 (datL (datF (op2 (nameL 0) (datL (datF (op2 (datL (constD (.int 2))) (nameL 3) addD))) ixD))) intD))) (datL (constD (.int 1000003))) mulD))) (datL (datF (op2 (datL (datF (op1 (datL (datF (op2 (nameL 0) (datL (constD (.int 7))) ixD))) intD))) (datL (constD (.int 4019))) mulD))) subD)
def pg2 : MEnv → Option (PyData × MEnv) := datF (op2 (datL (datF (op2 (datL (datF (op1 (datL (datF (op2 (nameL 0) (datL (datF (op2 (datL (constD (.int 2))) (nameL 3) addD))) ixD))) intD))) (datL (datF (op2 (datL (constD (.int 2))) (datL (datF (op2 (datL (constD (.int 3))) (nameL 1) mulD))) addD))) modD))) (datL (datF (op2 (datL (constD (.int 1))) (nameL 1) addD))) subD)
theorem pg1_eval {I : PyData} {k N i C D : Int} (h1 : ixD I (.int (2 + i)) = some (.val (.int C))) (h2 : ixD I (.int 7) = some (.val (.int D))) :
    pg1 [.val I, .val (.int k), .val (.int N), .val (.int i)] = some (.int (C * 1000003 - D * 4019), [.val I, .val (.int k), .val (.int N), .val (.int i)]) := by
  simp [pg1, seqB, ifB, asgB, retB, exprB, op1, op2, look, nameL, nameV, datL, datF, valF, constD, boolT, consA, tupF, lstF, setS_zv, setS_zo, setS_zu, setS_succ, Slot.dat, Slot.mut, Slot.put, nilB, callF, notT, andT, orT, andE, orE, ifE, boolS, tgtB, tupG, consG, nilG, nameG, retNm, appB, augB, callX, ioA, consX, argI, argV, argN, argsS, argS, ioIx, putB, popF, setB, add_ii, h1, h2, int_i, mulL (a := C) (b := 1000003) (by decide), mulL (a := D) (b := 4019) (by decide), sub_ii]
theorem mulR {a b : Int} (h : a.natAbs < 2 ^ 64) : mulD (.int a) (.int b) = some (.val (.int (a * b))) := mul_ii (mulOk_l h)
theorem pg2_eval {I : PyData} {k N i C : Int} (h1 : ixD I (.int (2 + i)) = some (.val (.int C))) (hk : 0 ≤ k) :
    pg2 [.val I, .val (.int k), .val (.int N), .val (.int i)] = some (.int (C.fmod (2 + 3 * k) - (1 + k)), [.val I, .val (.int k), .val (.int N), .val (.int i)]) := by
  have h0 : 2 + 3 * k ≠ 0 := by omega
  simp [pg2, seqB, ifB, asgB, retB, exprB, op1, op2, look, nameL, nameV, datL, datF, valF, constD, boolT, consA, tupF, lstF, setS_zv, setS_zo, setS_zu, setS_succ, Slot.dat, Slot.mut, Slot.put, nilB, callF, notT, andT, orT, andE, orE, ifE, boolS, tgtB, tupG, consG, nilG, nameG, retNm, appB, augB, callX, ioA, consX, argI, argV, argN, argsS, argS, ioIx, putB, popF, setB, add_ii, h1, int_i, mulR (a := 3) (b := k) (by decide), mod_ii h0, sub_ii]
/-- a comprehension over a range, its answers whole numbers -/
theorem pg_comp {fe : MEnv → Option (PyData × MEnv)} {I : PyData} {k N : Int} {n : Nat} (hN : N = n) (hn : n ≤ 1000) (g : Nat → Int) (he : ∀ (i : Nat) (J : Int), J = (i : Int) → i < n → fe [.val I, .val (.int k), .val (.int N), .val (.int J)] = some (.int (g i), [.val I, .val (.int k), .val (.int N), .val (.int J)])) :
    compF (rng1I (consA (nameV 2) ((fun env => some ([], env))))) (nameG 3) yesT fe [3] [.val I, .val (.int k), .val (.int N), .un] = some (.own (iv ((List.range n).map g)), [.val I, .val (.int k), .val (.int N), .un]) := by
  have hi : rng1I (consA (nameV 2) ((fun env => some ([], env)))) [.val I, .val (.int k), .val (.int N), .un] = some ((List.range n).map (fun i : Nat => PyData.int (0 + (i : Nat))), [.val I, .val (.int k), .val (.int N), .un]) := by
    have h := rng1_nat (fs := (consA (nameV 2) ((fun env => some ([], env))))) (env := [.val I, .val (.int k), .val (.int N), .un]) (env1 := [.val I, .val (.int k), .val (.int N), .un]) (c := N) (n := n) (by simp [consA, nameV]) hN (by omega)
    rw [h, ints_map, List.map_map]
    rfl
  have hc := comp_asF (fe := fe) (j := 3) (List.range n) (fun i : Nat => PyData.int (0 + (i : Nat))) (fun i : Nat => PyData.int (g i)) hi rfl (by rw [List.length_range]; omega) (fun i hi => by
    have hi := List.mem_range.mp hi
    obtain ⟨J, hJ⟩ : ∃ J : Int, J = 0 + (i : Int) := ⟨_, rfl⟩
    have h := he i J (by omega) hi
    rw [← hJ]
    exact h)
  rw [hc]
  unfold iv
  rw [List.map_map]
  rfl
theorem pol_fin {f : MEnv → Option (Slot × MEnv)} {T R : List PyData} {tr : Ip.Run} {o env : MEnv} (h1 : f env = some (.own T, env)) (h2 : tr [.val (.list T)] = some (.own R, o)) :
    seqB (retB (callF 1 tr (consA (datF f) ((fun env => some ([], env)))))) nilB env = some (.rt (.own R) env) :=
  seq_rt (ret_of (call1_of (dat_of h1 rfl) h2))
theorem law_polynomialB_eval {ds : List Int} (hl : ds.length = 8) (hd : ∀ d ∈ ds, 0 ≤ d ∧ d < 1000) : ∃ p, tp p = p ∧ p.length ≤ 5 ∧ Bl 30 p ∧ ∃ o, r_f_law_polynomial [.val (.list (iv ds))] = some (.own (iv p), o) := by
  have hx : ∀ (j : Nat) (J : Int), J = j → j < 8 → ixD (.list (iv ds)) (.int J) = some (.val (.int (ds.getD j 0))) := fun j J hJ hj => by
    have e : ds.getD j 0 = ds[j] := by simp [List.getD, show j < ds.length by omega]
    rw [e]
    exact ix_iv0 j hJ (List.getElem?_eq_getElem (by omega))
  have hb : ∀ j, j < 8 → 0 ≤ ds.getD j 0 ∧ ds.getD j 0 < 1000 := fun j hj => by
    have e : ds.getD j 0 = ds[j] := by simp [List.getD, show j < ds.length by omega]
    rw [e]
    exact hd _ (List.getElem_mem _)
  have x0 := hx 0 0 rfl (by decide)
  have x1 := hx 1 1 rfl (by decide)
  have x7 := hx 7 7 rfl (by decide)
  have b7 := hb 7 (by decide)
  obtain ⟨k, hk⟩ : ∃ k, k = (ds.getD 0 0).fmod 8 := ⟨_, rfl⟩
  obtain ⟨N, hN⟩ : ∃ N, N = (ds.getD 1 0).fmod 6 := ⟨_, rfl⟩
  have k0 : 0 ≤ k := by rw [hk]; exact Int.fmod_nonneg_of_pos _ (by decide)
  have k1 : k < 8 := by rw [hk]; exact Int.fmod_lt_of_pos _ (by decide)
  have n0 : 0 ≤ N := by rw [hN]; exact Int.fmod_nonneg_of_pos _ (by decide)
  have n1 : N < 6 := by rw [hN]; exact Int.fmod_lt_of_pos _ (by decide)
  obtain ⟨n, hn⟩ : ∃ n : Nat, N = n := ⟨N.toNat, by omega⟩
  have g1 := pg_comp (fe := pg1) (I := .list (iv ds)) (k := k) hn (by omega) (fun i => ds.getD (2 + i) 0 * 1000003 - ds.getD 7 0 * 4019) (fun i J hJ hi => pg1_eval (hx (2 + i) (2 + J) (by omega) (by omega)) x7)
  have g2 := pg_comp (fe := pg2) (I := .list (iv ds)) (k := k) hn (by omega) (fun i => (ds.getD (2 + i) 0).fmod (2 + 3 * k) - (1 + k)) (fun i J hJ hi => pg2_eval (hx (2 + i) (2 + J) (by omega) (by omega)) k0)
  have key : ∀ (q : List Int) (f : MEnv → Option Out), q.length = n → Bl 30 q → (∀ R o, r_f_law_trim [.val (.list (iv q))] = some (.own R, o) → seqB (ifB (boolT (op2 (nameL 1) (datL (constD (.int 7))) eqD)) (seqB (retB (callF 1 r_f_law_trim (consA (datF (compF (rng1I (consA (nameV 2) ((fun env => some ([], env))))) (nameG 3) (yesT) pg1 [3])) ((fun env => some ([], env)))))) (nilB)) (nilB)) (seqB (retB (callF 1 r_f_law_trim (consA (datF (compF (rng1I (consA (nameV 2) ((fun env => some ([], env))))) (nameG 3) (yesT) pg2 [3])) ((fun env => some ([], env)))))) (nilB)) [.val (.list (iv ds)), .val (.int k), .val (.int N), .un] = some (.rt (.own R) [.val (.list (iv ds)), .val (.int k), .val (.int N), .un])) →
      ∃ p, tp p = p ∧ p.length ≤ 5 ∧ Bl 30 p ∧ ∃ o, r_f_law_polynomial [.val (.list (iv ds))] = some (.own (iv p), o) := by
    intro q f hq hbq hh
    obtain ⟨o, ht⟩ := ltrim_eval q (by omega)
    refine ⟨tp q, tp_tp q, by have := tp_len q; omega, hbq.tp, ?_⟩
    have h := hh _ _ ht
    refine run_rt (e := [.val (.list (iv ds)), .val (.int k), .val (.int N), .un]) ?_ (by simp)
    have s1 : ∀ (I : PyData) (C D : Int), ixD I (.int 0) = some (.val (.int C)) → ixD I (.int 1) = some (.val (.int D)) → ∀ r, seqB (asgB 1 (op2 (datL (datF (op1 (datL (datF (op2 (nameL 0) (datL (constD (.int 0))) ixD))) intD))) (datL (constD (.int 8))) modD)) (seqB (asgB 2 (op2 (datL (datF (op1 (datL (datF (op2 (nameL 0) (datL (constD (.int 1))) ixD))) intD))) (datL (constD (.int 6))) modD)) r) [.val I, .un, .un, .un] = r [.val I, .val (.int (C.fmod 8)), .val (.int (D.fmod 6)), .un] := by
      intro I C D h1 h2 r
      simp [seqB, ifB, asgB, retB, exprB, op1, op2, look, nameL, nameV, datL, datF, valF, constD, boolT, consA, tupF, lstF, setS_zv, setS_zo, setS_zu, setS_succ, Slot.dat, Slot.mut, Slot.put, nilB, callF, notT, andT, orT, andE, orE, ifE, boolS, tgtB, tupG, consG, nilG, nameG, retNm, appB, augB, callX, ioA, consX, argI, argV, argN, argsS, argS, ioIx, putB, popF, setB, h1, h2, int_i, mod_ii]
    refine (s1 _ _ _ x0 x1 _).trans ?_
    rw [← hk, ← hN]
    exact h
  by_cases c : k = 7
  · refine key ((List.range n).map fun i => ds.getD (2 + i) 0 * 1000003 - ds.getD 7 0 * 4019) nilB (by rw [List.length_map, List.length_range]) ?_ fun R o ht => ?_
    · intro x hx
      obtain ⟨i, hi, rfl⟩ := List.mem_map.mp hx
      have hi := List.mem_range.mp hi
      have := hb (2 + i) (by omega)
      show _ < 1073741824
      omega
    · have ht2 : ∀ I : PyData, boolT (op2 (nameL 1) (datL (constD (.int 7))) eqD) [.val I, .val (.int k), .val (.int N), .un] = some (true, [.val I, .val (.int k), .val (.int N), .un]) := by
        intro I
        simp [seqB, ifB, asgB, retB, exprB, op1, op2, look, nameL, nameV, datL, datF, valF, constD, boolT, consA, tupF, lstF, setS_zv, setS_zo, setS_zu, setS_succ, Slot.dat, Slot.mut, Slot.put, nilB, callF, notT, andT, orT, andE, orE, ifE, boolS, tgtB, tupG, consG, nilG, nameG, retNm, appB, augB, callX, ioA, consX, argI, argV, argN, argsS, argS, ioIx, putB, popF, setB, eq_ii, c]
      exact seq_rt ((if_t (ht2 _)).trans (pol_fin g1 ht))
  · refine key ((List.range n).map fun i => (ds.getD (2 + i) 0).fmod (2 + 3 * k) - (1 + k)) nilB (by rw [List.length_map, List.length_range]) ?_ fun R o ht => ?_
    · intro x hx
      obtain ⟨i, hi, rfl⟩ := List.mem_map.mp hx
      have h1 := Int.fmod_nonneg_of_pos (ds.getD (2 + i) 0) (show 0 < 2 + 3 * k by omega)
      have h2 := Int.fmod_lt_of_pos (ds.getD (2 + i) 0) (show 0 < 2 + 3 * k by omega)
      show _ < 1073741824
      omega
    · have ht2 : ∀ I : PyData, boolT (op2 (nameL 1) (datL (constD (.int 7))) eqD) [.val I, .val (.int k), .val (.int N), .un] = some (false, [.val I, .val (.int k), .val (.int N), .un]) := by
        intro I
        simp [seqB, ifB, asgB, retB, exprB, op1, op2, look, nameL, nameV, datL, datF, valF, constD, boolT, consA, tupF, lstF, setS_zv, setS_zo, setS_zu, setS_succ, Slot.dat, Slot.mut, Slot.put, nilB, callF, notT, andT, orT, andE, orE, ifE, boolS, tgtB, tupG, consG, nilG, nameG, retNm, appB, augB, callX, ioA, consX, argI, argV, argN, argsS, argS, ioIx, putB, popF, setB, eq_ii, c]
      exact (seq_nx ((if_f (ht2 _)).trans rfl)).trans (pol_fin g2 ht)
/-- a slice of a list of whole numbers -/
theorem sl_iv {cs : List Int} {i j : Nat} {I J : Int} (hI : I = i) (hJ : J = j) (hi : i ≤ j) (hj : j ≤ cs.length) : cutD (iv cs) (some I) (some J) = iv ((cs.drop i).take (j - i)) := by
  have h1 : HT.sIx (iv cs).length 0 (some I) = i := by
    rw [iv_len]
    unfold HT.sIx
    simp only
    rw [if_neg (by omega)]
    omega
  have h2 : HT.sIx (iv cs).length (iv cs).length (some J) = j := by
    rw [iv_len]
    unfold HT.sIx
    simp only
    rw [if_neg (by omega)]
    omega
  unfold cutD
  rw [h1, h2]
  unfold iv
  rw [← List.map_drop, ← List.map_take]
/-! the law's way to the derivative -/
def ldE : MEnv → Option (PyData × MEnv) := (datF (op2 (datL (datF (op2 (nameL 2) (nameL 13) ixD))) (nameL 13) mulD))
end Lp

set_option Elab.async false
set_option linter.all false
set_option maxRecDepth 100000
set_option maxHeartbeats 4000000
/-! polynomials, pure: products, what divides them -/
namespace Lp
open PySem L2 Ip Lw
/-- the coefficient of t^k in a * g -/
def pc : List Int → (Nat → Int) → Nat → Int
  | [], _, _ => 0
  | c :: a, g, 0 => c * g 0
  | c :: a, g, k + 1 => c * g (k + 1) + pc a g k
def cf (b : List Int) (i : Nat) : Int := b.getD i 0
theorem pc_cons (c : Int) (a : List Int) (g : Nat → Int) (k : Nat) : pc (c :: a) g k = c * g k + (if 1 ≤ k then pc a g (k - 1) else 0) := by
  cases k with
  | zero => rw [if_neg (by omega), Int.add_zero]; rfl
  | succ k => rw [if_pos (by omega), Nat.add_sub_cancel]; rfl
theorem pk_pc (b : List Int) : ∀ (a : List Int) (k : Nat), pk a b k a.length = pc a (cf b) k
  | [], k => rfl
  | c :: a, k => by
    rw [List.length_cons, pk_cons, pc_cons, pk_pc b a (k - 1)]
    rfl
theorem mp_cf (a b : List Int) (k : Nat) : (mp a b).getD k 0 = pc a (cf b) k := (mp_getD a b k).trans (pk_pc b a k)
theorem pc_congr {g h : Nat → Int} (e : ∀ k, g k = h k) (a : List Int) (k : Nat) : pc a g k = pc a h k := by rw [funext e]
theorem pc_add (g h : Nat → Int) : ∀ (a : List Int) (k : Nat), pc a (fun i => g i + h i) k = pc a g k + pc a h k
  | [], k => rfl
  | c :: a, 0 => by simp only [pc]; grind
  | c :: a, k + 1 => by simp only [pc]; rw [pc_add g h a k]; grind
theorem pc_smul (s : Int) (g : Nat → Int) : ∀ (a : List Int) (k : Nat), pc a (fun i => s * g i) k = s * pc a g k
  | [], k => by simp [pc]
  | c :: a, 0 => by simp only [pc]; grind
  | c :: a, k + 1 => by simp only [pc]; rw [pc_smul s g a k]; grind
theorem pc_map (s : Int) (g : Nat → Int) : ∀ (a : List Int) (k : Nat), pc (a.map fun x => s * x) g k = s * pc a g k
  | [], k => by simp [pc]
  | c :: a, 0 => by simp only [pc, List.map_cons]; grind
  | c :: a, k + 1 => by simp only [pc, List.map_cons]; rw [pc_map s g a k]; grind
theorem pc_app (c : Int) (g : Nat → Int) : ∀ (x : List Int) (k : Nat), pc (x ++ [c]) g k = pc x g k + (if x.length ≤ k then c * g (k - x.length) else 0)
  | [], 0 => by simp [pc]
  | [], k + 1 => by simp [pc]
  | d :: x, 0 => by
    rw [List.cons_append, if_neg (by simp)]
    simp [pc]
  | d :: x, k + 1 => by
    rw [List.cons_append, List.length_cons]
    simp only [pc]
    rw [pc_app c g x k, show k + 1 - (x.length + 1) = k - x.length by omega]
    by_cases h : x.length ≤ k
    · rw [if_pos h, if_pos (by omega)]; omega
    · rw [if_neg h, if_neg (by omega)]; omega
theorem pc_zero (g : Nat → Int) (hg : ∀ i, g i = 0) (a : List Int) (k : Nat) : pc a g k = 0 := by
  have h := pc_smul 0 g a k
  rw [Int.zero_mul] at h
  rw [← h]
  exact pc_congr (fun i => by rw [hg, Int.mul_zero]) a k
/-- all coefficients beyond -/
theorem pc_hi {g : Nat → Int} : ∀ {x : List Int} {k : Nat}, (∀ l, l < x.length → l ≤ k → g (k - l) = 0) → pc x g k = 0
  | [], _, _ => rfl
  | c :: x, 0, h => by
    have := h 0 (by simp) (Nat.le_refl _)
    simp only [pc]
    rw [this, Int.mul_zero]
  | c :: x, k + 1, h => by
    have h0 := h 0 (by simp) (Nat.zero_le _)
    have ih := pc_hi (g := g) (x := x) (k := k) fun l h1 h2 => by
      have := h (l + 1) (by simpa using h1) (by omega)
      rw [show k + 1 - (l + 1) = k - l by omega] at this
      exact this
    simp only [pc]
    rw [ih, show k + 1 = k + 1 - 0 from rfl, h0]
    simp
theorem pc_dvd {s : Int} {g : Nat → Int} : ∀ {x : List Int} {k : Nat}, (∀ l, l < x.length → l ≤ k → s ∣ x.getD l 0 * g (k - l)) → s ∣ pc x g k
  | [], _, _ => ⟨0, by simp [pc]⟩
  | c :: x, 0, h => h 0 (by simp) (Nat.le_refl _)
  | c :: x, k + 1, h => by
    have h0 : s ∣ c * g (k + 1) := h 0 (by simp) (Nat.zero_le _)
    have ih := pc_dvd (s := s) (g := g) (x := x) (k := k) fun l h1 h2 => by
      have := h (l + 1) (by simpa using h1) (by omega)
      rw [show k + 1 - (l + 1) = k - l by omega] at this
      exact this
    exact Int.dvd_add h0 ih
theorem pc_cfcons (c : Int) (a : List Int) : ∀ (b : List Int) (k : Nat), pc b (cf (c :: a)) k = c * cf b k + (if 1 ≤ k then pc b (cf a) (k - 1) else 0)
  | [], k => by simp [pc, cf]
  | d :: b, 0 => by
    simp [pc, cf]
    grind
  | d :: b, k + 1 => by
    show d * cf a k + pc b (cf (c :: a)) k = c * cf b k + (if 1 ≤ k + 1 then pc (d :: b) (cf a) (k + 1 - 1) else 0)
    rw [if_pos (by omega), pc_cfcons c a b k, Nat.add_sub_cancel, pc_cons]
    exact Int.add_left_comm ..
theorem pc_comm : ∀ (a b : List Int) (k : Nat), pc a (cf b) k = pc b (cf a) k
  | [], b, k => by
    show 0 = _
    exact (pc_zero _ (fun i => by simp [cf]) b k).symm
  | c :: a, b, k => by
    rw [pc_cons, pc_cfcons, pc_comm a b]
/-- by the coefficients of the first one -/
theorem pc_first {a a' : List Int} (h : ∀ i, cf a i = cf a' i) (b : List Int) (k : Nat) : pc a (cf b) k = pc a' (cf b) k := by
  rw [pc_comm, pc_comm a' b]
  exact pc_congr h b k
/-! ### Gauss: what divides a product with a primitive polynomial divides the other factor -/
theorem gauss {s : Int} {g : Nat → Int} {N : Nat} (hz : ∀ i, N ≤ i → g i = 0) (hp : ∀ q, (∀ i, s ∣ g i * q) → s ∣ q) : ∀ (n : Nat) (q : List Int), q.length = n → (∀ k, s ∣ pc q g k) → ∀ x ∈ q, s ∣ x
  | 0, q, hn, _, x, hx => by
    rw [List.eq_nil_of_length_eq_zero hn] at hx
    cases hx
  | n + 1, q, hn, h, x, hx => by
    obtain ⟨q0, c, rfl⟩ : ∃ q0 c, q = q0 ++ [c] := by
      have hne : q ≠ [] := fun e => by rw [e] at hn; cases hn
      exact ⟨q.dropLast, q.getLast hne, (List.dropLast_concat_getLast hne).symm⟩
    have hl : q0.length = n := by simpa using hn
    -- from the top of g down
    have down : ∀ (m i : Nat), N ≤ i + m → ∀ y ∈ q0 ++ [c], s ∣ g i * y := by
      intro m
      induction m with
      | zero =>
        intro i hi y _
        rw [hz i (by omega), Int.zero_mul]
        exact ⟨0, by simp⟩
      | succ m ih =>
        intro i hi
        have up : ∀ j, i < j → ∀ y ∈ q0 ++ [c], s ∣ g j * y := fun j hj => ih j (by omega)
        have top : s ∣ c * g i := by
          have h1 := h (i + n)
          rw [pc_app, if_pos (by omega), hl, Nat.add_sub_cancel] at h1
          have h2 : s ∣ pc q0 g (i + n) := pc_dvd fun l hl1 hl2 => by
            have e : q0.getD l 0 = q0[l] := by simp [List.getD, hl1]
            rw [e, Int.mul_comm]
            exact up _ (by omega) _ (List.mem_append_left _ (List.getElem_mem hl1))
          exact (Int.dvd_add_right h2).mp h1
        have low : ∀ y ∈ q0, s ∣ g i * y := by
          have hk : ∀ k, s ∣ pc (q0.map fun x => g i * x) g k := fun k => by
            rw [pc_map]
            have h1 := h k
            rw [pc_app] at h1
            have h3 : s ∣ g i * (if q0.length ≤ k then c * g (k - q0.length) else 0) := by
              split
              · rw [← Int.mul_assoc, Int.mul_comm (g i) c]
                exact Int.dvd_trans top ⟨_, rfl⟩
              · rw [Int.mul_zero]; exact ⟨0, by simp⟩
            have h2 : s ∣ g i * (pc q0 g k + (if q0.length ≤ k then c * g (k - q0.length) else 0)) := Int.dvd_trans h1 ⟨g i, Int.mul_comm ..⟩
            rw [Int.mul_add] at h2
            exact (Int.dvd_add_left h3).mp h2
          intro y hy
          exact gauss hz hp n (q0.map fun x => g i * x) (by rw [List.length_map, hl]) hk _ (List.mem_map.mpr ⟨y, hy, rfl⟩)
        intro y hy
        rcases List.mem_append.mp hy with h1 | h1
        · exact low y h1
        · rw [List.mem_singleton.mp h1, Int.mul_comm]
          exact top
    refine hp x fun i => ?_
    exact down N i (by omega) x hx
/-- no multiple but 0 is shorter -/
theorem no_small {g : Nat → Int} {d : Nat} (hd : g d ≠ 0) (hz : ∀ i, d < i → g i = 0) : ∀ (n : Nat) (e : List Int), e.length = n → (∀ k, d ≤ k → pc e g k = 0) → ∀ x ∈ e, x = 0
  | 0, e, hn, _, x, hx => by
    rw [List.eq_nil_of_length_eq_zero hn] at hx
    cases hx
  | n + 1, e, hn, h, x, hx => by
    obtain ⟨e0, c, rfl⟩ : ∃ q0 c, e = q0 ++ [c] := by
      have hne : e ≠ [] := fun q => by rw [q] at hn; cases hn
      exact ⟨e.dropLast, e.getLast hne, (List.dropLast_concat_getLast hne).symm⟩
    have hl : e0.length = n := by simpa using hn
    have c0 : c = 0 := by
      have h1 := h (d + n) (by omega)
      rw [pc_app, if_pos (by omega), hl, Nat.add_sub_cancel, pc_hi (fun l h1 h2 => hz _ (by omega)), Int.zero_add] at h1
      exact (Int.mul_eq_zero.mp h1).resolve_right hd
    subst c0
    rcases List.mem_append.mp hx with h1 | h1
    · refine no_small hd hz n e0 hl (fun k hk => ?_) x h1
      have h2 := h k hk
      rw [pc_app, Int.zero_mul, ite_self, Int.add_zero] at h2
      exact h2
    · exact List.mem_singleton.mp h1
end Lp

set_option Elab.async false
set_option linter.all false
set_option maxRecDepth 100000
set_option maxHeartbeats 4000000
/-! contents and plain forms, pure -/
namespace Lp
open PySem L2 Ip Lw
def ctf (g : Nat) (a : List Int) : Nat := a.foldl (fun g x => Nat.gcd g x.natAbs) g
def ct (a : List Int) : Nat := ctf 0 a
theorem ctf_cons (g : Nat) (x : Int) (a : List Int) : ctf g (x :: a) = ctf (Nat.gcd g x.natAbs) a := rfl
theorem ctf_dvd : ∀ (a : List Int) (g : Nat), ctf g a ∣ g ∧ ∀ x ∈ a, ((ctf g a : Nat) : Int) ∣ x
  | [], g => ⟨Nat.dvd_refl _, fun x h => nomatch h⟩
  | y :: a, g => by
    obtain ⟨h1, h2⟩ := ctf_dvd a (Nat.gcd g y.natAbs)
    rw [ctf_cons]
    refine ⟨Nat.dvd_trans h1 (Nat.gcd_dvd_left _ _), fun x hx => ?_⟩
    rcases List.mem_cons.mp hx with e | e
    · rw [e]
      exact Int.ofNat_dvd_left.mpr (Nat.dvd_trans h1 (Nat.gcd_dvd_right _ _))
    · exact h2 x e
theorem ct_dvd {a : List Int} {x : Int} (h : x ∈ a) : ((ct a : Nat) : Int) ∣ x := (ctf_dvd a 0).2 x h
theorem ctf_mul {s q : Nat} : ∀ (a : List Int) (g : Nat), s ∣ g * q → (∀ x ∈ a, s ∣ x.natAbs * q) → s ∣ ctf g a * q
  | [], g, h, _ => h
  | y :: a, g, h, h2 => by
    rw [ctf_cons]
    refine ctf_mul a _ ?_ fun x hx => h2 x (List.mem_cons_of_mem _ hx)
    rw [← Nat.gcd_mul_right]
    exact Nat.dvd_gcd h (h2 y List.mem_cons_self)
theorem prim_of {a : List Int} (h : ct a = 1) {s q : Int} (hd : ∀ x ∈ a, s ∣ x * q) : s ∣ q := by
  have h1 := ctf_mul (s := s.natAbs) (q := q.natAbs) a 0 (by rw [Nat.zero_mul]; exact Nat.dvd_zero _) fun x hx => by
    rw [← Int.natAbs_mul]
    exact Int.natAbs_dvd_natAbs.mpr (hd x hx)
  rw [show ctf 0 a = 1 from h, Nat.one_mul] at h1
  exact Int.natAbs_dvd_natAbs.mp h1
theorem ctf_smul (d : Int) : ∀ (a : List Int) (g : Nat), ctf (d.natAbs * g) (a.map fun x => d * x) = d.natAbs * ctf g a
  | [], g => rfl
  | y :: a, g => by
    rw [List.map_cons, ctf_cons, ctf_cons, Int.natAbs_mul, Nat.gcd_mul_left]
    exact ctf_smul d a _
theorem ct_smul (d : Int) (a : List Int) : ct (a.map fun x => d * x) = d.natAbs * ct a := ctf_smul d a 0
theorem ctf_pos : ∀ (a : List Int) (g : Nat), (0 < g ∨ ∃ x ∈ a, x ≠ 0) → 0 < ctf g a
  | [], g, h => by
    rcases h with h | ⟨x, h, _⟩
    · exact h
    · cases h
  | y :: a, g, h => by
    rw [ctf_cons]
    refine ctf_pos a _ ?_
    rcases h with h | ⟨x, h, h0⟩
    · exact .inl (Nat.gcd_pos_of_pos_left _ h)
    · rcases List.mem_cons.mp h with e | e
      · subst e
        exact .inl (Nat.gcd_pos_of_pos_right _ (Int.natAbs_pos.mpr h0))
      · exact .inr ⟨x, e, h0⟩
def lst (a : List Int) : Int := a.getD (a.length - 1) 0
def sct (a : List Int) : Int := if lst a < 0 then -(ct a : Int) else ct a
def pls (a : List Int) : List Int := if a = [] then [] else a.map fun c => c.fdiv (sct a)
theorem lst_mem {a : List Int} (h : a ≠ []) : lst a ∈ a := by
  have hp : 0 < a.length := List.length_pos_iff.mpr h
  unfold lst
  rw [List.getD_eq_getElem?_getD, List.getElem?_eq_getElem (by omega)]
  exact List.getElem_mem _
theorem lst_ne {a : List Int} (ht : tp a = a) (h : a ≠ []) : lst a ≠ 0 := by
  have := (tp_last a).resolve_left (by rw [ht]; exact h)
  rw [ht] at this
  exact this
theorem lst_map (d : Int) (a : List Int) : lst (a.map fun x => d * x) = d * lst a := by
  unfold lst
  rw [List.length_map]
  by_cases h : a.length - 1 < a.length
  · simp [List.getD, h]
  · have : a = [] := List.eq_nil_of_length_eq_zero (by omega)
    subst this
    simp
theorem ct_pos {a : List Int} (ht : tp a = a) (h : a ≠ []) : 0 < ct a := ctf_pos a 0 (.inr ⟨lst a, lst_mem h, lst_ne ht h⟩)
/-- a polynomial in plain form -/
structure Pl (A : List Int) : Prop where
  ne : A ≠ []
  ct : ct A = 1
  pos : 0 < lst A
theorem map_map_fdiv {d : Int} (hd : d ≠ 0) (A : List Int) : (A.map fun x => d * x).map (fun c => c.fdiv d) = A := by
  rw [List.map_map]
  have : ((fun c : Int => c.fdiv d) ∘ fun x => d * x) = id := funext fun x => Int.mul_fdiv_cancel_left x hd
  rw [this, List.map_id]
theorem Pl.smul {A : List Int} (h : Pl A) {d : Int} (hd : d ≠ 0) : pls (A.map fun x => d * x) = A := by
  have e : sct (A.map fun x => d * x) = d := by
    unfold sct
    rw [lst_map, ct_smul, h.ct, Nat.mul_one]
    have hp := h.pos
    by_cases c : d < 0
    · rw [if_pos (Int.mul_neg_of_neg_of_pos c hp)]; omega
    · have : 0 ≤ d * lst A := Int.mul_nonneg (by omega) (by omega)
      rw [if_neg (by omega)]; omega
  unfold pls
  rw [if_neg (by simp [h.ne]), e, map_map_fdiv hd]
theorem Pl.self {A : List Int} (h : Pl A) : pls A = A := by
  have := h.smul (d := 1) (by decide)
  simpa using this
theorem Pl.tp {A : List Int} (h : Pl A) : tp A = A := tp_of_last (.inr (by have := h.pos; unfold lst at this; omega))
theorem plain_form {a : List Int} (ht : tp a = a) (hn : a ≠ []) : sct a ≠ 0 ∧ (sct a).natAbs = ct a ∧ a = (pls a).map (fun x => sct a * x) ∧ Pl (pls a) ∧ (pls a).length = a.length := by
  have hc := ct_pos ht hn
  have hl := lst_ne ht hn
  have h0 : sct a ≠ 0 := by unfold sct; split <;> omega
  have h1 : (sct a).natAbs = ct a := by unfold sct; split <;> omega
  have hd : ∀ x ∈ a, sct a ∣ x := fun x hx => Int.natAbs_dvd_natAbs.mp (by rw [h1]; exact Int.ofNat_dvd_left.mp (ct_dvd hx))
  have e : a = (pls a).map fun x => sct a * x := by
    unfold pls
    rw [if_neg hn, List.map_map]
    conv => lhs; rw [← List.map_id a]
    refine List.map_congr_left fun x hx => ?_
    show x = sct a * x.fdiv (sct a)
    exact (Int.mul_fdiv_cancel' (hd x hx)).symm
  have hn2 : pls a ≠ [] := by unfold pls; rw [if_neg hn]; simp [hn]
  have e2 : ct a = ct a * ct (pls a) := by
    conv => lhs; rw [e]
    rw [ct_smul, h1]
  have hc1 : ct (pls a) = 1 := Nat.eq_of_mul_eq_mul_left hc (by rw [Nat.mul_one]; exact e2.symm)
  have e3 : lst a = sct a * lst (pls a) := by
    conv => lhs; rw [e]
    rw [lst_map]
  refine ⟨h0, h1, e, ⟨hn2, hc1, ?_⟩, by unfold pls; rw [if_neg hn, List.length_map]⟩
  by_cases c : lst a < 0
  · have hs : sct a < 0 := by unfold sct; rw [if_pos c]; omega
    have : ¬ lst (pls a) ≤ 0 := fun q => by
      have := Int.mul_nonneg_of_nonpos_of_nonpos (Int.le_of_lt hs) q
      omega
    omega
  · have hs : 0 < sct a := by unfold sct; rw [if_neg c]; omega
    have : ¬ lst (pls a) ≤ 0 := fun q => by
      have := Int.mul_nonpos_of_nonneg_of_nonpos (Int.le_of_lt hs) q
      omega
    omega
end Lp

set_option Elab.async false
set_option linter.all false
set_option maxRecDepth 100000
set_option maxHeartbeats 4000000
/-! contents and plain forms, as the program and the law work them out -/
namespace Lp
open PySem L2 Ip Lw
theorem ix_lst {a : List Int} (h : a ≠ []) : ixD (.list (iv a)) (.int (-1)) = some (.val (.int (lst a))) := by
  have pos : 0 < a.length := List.length_pos_iff.mpr h
  obtain ⟨m, hm⟩ : ∃ m, a.length = m + 1 := ⟨a.length - 1, by omega⟩
  have hx := ix_last (cs := a) (n := m) (by omega)
  rw [← hm, List.take_length] at hx
  have e : lst a = a[m] := by
    unfold lst
    rw [show a.length - 1 = m by omega]
    simp [List.getD, show m < a.length by omega]
  rw [e]
  exact hx
theorem gI_nat (g : Nat) (x : Int) : gI (g : Int) x = ((Nat.gcd g x.natAbs : Nat) : Int) := rfl
def cnB : MEnv → Option Out := (seqB (asgB 1 (op2 (nameL 1) (nameL 2) gcdD)) (nilB))
theorem cn_turn {A : Slot} (g x : Int) : cnB [A, .val (.int g), .val (.int x)] = some (.nx [A, .val (.int (gI g x)), .val (.int x)]) := by
  simp [cnB, seqB, ifB, asgB, retB, exprB, op1, op2, look, nameL, nameV, datL, datF, valF, constD, boolT, consA, tupF, lstF, setS_zv, setS_zo, setS_zu, setS_succ, Slot.dat, Slot.mut, Slot.put, nilB, callF, notT, andT, orT, andE, orE, ifE, boolS, tgtB, tupG, consG, nilG, nameG, retNm, appB, augB, callX, ioA, consX, argI, argV, argN, argsS, argS, ioIx, putB, popF, setB, gcd_ii]
theorem cn_loop {A : Slot} : ∀ (xs : List Int) (g : Nat) (s : Slot), nio s = true → ∃ s', nio s' = true ∧ forLoop (nameG 2) cnB (iv xs) [A, .val (.int (g : Int)), s] = some (.nx [A, .val (.int ((ctf g xs : Nat) : Int)), s'])
  | [], g, s, hs => ⟨s, hs, rfl⟩
  | x :: xs, g, s, hs => by
    obtain ⟨s', h1, h2⟩ := cn_loop (A := A) xs (Nat.gcd g x.natAbs) (.val (.int x)) rfl
    refine ⟨s', h1, ?_⟩
    show forLoop (nameG 2) cnB (.int x :: iv xs) [A, .val (.int (g : Int)), s] = _
    rw [for_nx (e1 := [A, .val (.int (g : Int)), .val (.int x)]) (by simp [nameG, setS_zero hs, setS_succ]) (cn_turn _ x)]
    exact h2
theorem content_eval (a : List Int) : ∃ o, r_content [.val (.list (iv a))] = some (.val (.int ((ct a : Nat) : Int)), o) := by
  obtain ⟨s', h1, h2⟩ := cn_loop (A := .val (.list (iv a))) a 0 .un rfl
  obtain ⟨C, hC⟩ : ∃ C : Int, C = ((ct a : Nat) : Int) := ⟨_, rfl⟩
  rw [show ctf 0 a = ct a from rfl, ← hC] at h2
  rw [← hC]
  refine run_rt (e := [.val (.list (iv a)), .val (.int C), s']) ?_ (by simp)
  show seqB _ (seqB (forB _ _ cnB) _) [.val (.list (iv a)), .un, .un] = _
  rw [seq_nx (e1 := [.val (.list (iv a)), .val (.int 0), .un]) rfl]
  rw [seq_nx (forB_of (ds := iv a) (e1 := [.val (.list (iv a)), .val (.int 0), .un]) rfl h2)]
  rfl
/-! the law's -/
def clB : MEnv → Option Out := (seqB (asgB 1 (callF 2 r_f_law_gcd (consA (nameV 1) (consA (nameV 2) ((fun env => some ([], env))))))) (nilB))
theorem cl_turn {A : Slot} {g x C : Int} (h : ∃ o, r_f_law_gcd [.val (.int g), .val (.int x)] = some (.val (.int C), o)) : clB [A, .val (.int g), .val (.int x)] = some (.nx [A, .val (.int C), .val (.int x)]) := by
  obtain ⟨o, h⟩ := h
  simp [clB, seqB, ifB, asgB, retB, exprB, op1, op2, look, nameL, nameV, datL, datF, valF, constD, boolT, consA, tupF, lstF, setS_zv, setS_zo, setS_zu, setS_succ, Slot.dat, Slot.mut, Slot.put, nilB, callF, notT, andT, orT, andE, orE, ifE, boolS, tgtB, tupG, consG, nilG, nameG, retNm, appB, augB, callX, ioA, consX, argI, argV, argN, argsS, argS, ioIx, putB, popF, setB, h]
theorem ctf_le : ∀ (a : List Int) (g m : Nat), g < 2 ^ m → (∀ x ∈ a, x.natAbs < 2 ^ m) → ctf g a < 2 ^ m
  | [], g, m, h, _ => h
  | x :: a, g, m, h, h2 => by
    rw [ctf_cons]
    refine ctf_le a _ m ?_ fun y hy => h2 y (List.mem_cons_of_mem _ hy)
    by_cases c : g = 0
    · subst c
      rw [Nat.gcd_zero_left]
      exact h2 x List.mem_cons_self
    · exact Nat.lt_of_le_of_lt (Nat.gcd_le_left _ (Nat.pos_of_ne_zero c)) h
theorem cl_loop {A : Slot} {m : Nat} (hm : m ≤ 1900) : ∀ (xs : List Int) (g : Nat) (s : Slot), g < 2 ^ m → Bl m xs → nio s = true → ∃ s', nio s' = true ∧ forLoop (nameG 2) clB (iv xs) [A, .val (.int (g : Int)), s] = some (.nx [A, .val (.int ((ctf g xs : Nat) : Int)), s'])
  | [], g, s, hg, hb, hs => ⟨s, hs, rfl⟩
  | x :: xs, g, s, hg, hb, hs => by
    have bx := hb x List.mem_cons_self
    have hg2 : Nat.gcd g x.natAbs < 2 ^ m := ctf_le [x] g m hg fun y hy => by rw [List.mem_singleton.mp hy]; exact bx
    obtain ⟨s', h1, h2⟩ := cl_loop (A := A) hm xs (Nat.gcd g x.natAbs) (.val (.int x)) hg2 (fun y hy => hb y (List.mem_cons_of_mem _ hy)) rfl
    refine ⟨s', h1, ?_⟩
    show forLoop (nameG 2) clB (.int x :: iv xs) [A, .val (.int (g : Int)), s] = _
    have hgc : ∃ o, r_f_law_gcd [.val (.int (g : Int)), .val (.int x)] = some (.val (.int ((Nat.gcd g x.natAbs : Nat) : Int)), o) := gcd_eval (g : Int) x (by
      have h3 : g * x.natAbs < 2 ^ m * 2 ^ m := Nat.mul_lt_mul_of_lt_of_lt hg bx
      rw [← Nat.pow_add] at h3
      exact Nat.lt_of_lt_of_le h3 (Nat.pow_le_pow_right (by decide) (by omega)))
    rw [for_nx (e1 := [A, .val (.int (g : Int)), .val (.int x)]) (by simp [nameG, setS_zero hs, setS_succ]) (cl_turn hgc)]
    exact h2
theorem law_content_eval {m : Nat} (hm : m ≤ 1900) {a : List Int} (hb : Bl m a) : ∃ o, r_f_law_content [.val (.list (iv a))] = some (.val (.int ((ct a : Nat) : Int)), o) := by
  obtain ⟨s', h1, h2⟩ := cl_loop (A := .val (.list (iv a))) hm a 0 .un (Nat.pow_pos (by decide)) hb rfl
  obtain ⟨C, hC⟩ : ∃ C : Int, C = ((ct a : Nat) : Int) := ⟨_, rfl⟩
  rw [show ctf 0 a = ct a from rfl, ← hC] at h2
  rw [← hC]
  refine run_rt (e := [.val (.list (iv a)), .val (.int C), s']) ?_ (by simp)
  show seqB _ (seqB (forB _ _ clB) _) [.val (.list (iv a)), .un, .un] = _
  rw [seq_nx (e1 := [.val (.list (iv a)), .val (.int 0), .un]) rfl]
  rw [seq_nx (forB_of (ds := iv a) (e1 := [.val (.list (iv a)), .val (.int 0), .un]) rfl h2)]
  rfl
/-! plain forms -/
def plC : MEnv → Option (Slot × MEnv) := (compF (seqI (nameV 0)) (nameG 2) (yesT) (datF (op2 (nameL 2) (nameL 1) fdivD)) [2])
theorem plC_eval {a : List Int} {D : Int} (hD : divOk D = true) (hl : a.length ≤ 100000) : plC [.val (.list (iv a)), .val (.int D), .un] = some (.own (iv (a.map fun c => c.fdiv D)), [.val (.list (iv a)), .val (.int D), .un]) := by
  have h := comp_asF (fi := seqI (nameV 0)) (fe := datF (op2 (nameL 2) (nameL 1) fdivD)) (j := 2) (env := [.val (.list (iv a)), .val (.int D), .un]) (env1 := [.val (.list (iv a)), .val (.int D), .un]) a (fun c => .int c) (fun c => .int (c.fdiv D)) (by
    show _ = some (iv a, _)
    generalize iv a = I
    simp [seqI, seqB, ifB, asgB, retB, exprB, op1, op2, look, nameL, nameV, datL, datF, valF, constD, boolT, consA, tupF, lstF, setS_zv, setS_zo, setS_zu, setS_succ, Slot.dat, Slot.mut, Slot.put, nilB, callF, notT, andT, orT, andE, orE, ifE, boolS, tgtB, tupG, consG, nilG, nameG, retNm, appB, augB, callX, ioA, consX, argI, argV, argN, argsS, argS, ioIx, putB, popF, setB]) rfl hl (fun c hc => by
    generalize iv a = I
    simp [seqB, ifB, asgB, retB, exprB, op1, op2, look, nameL, nameV, datL, datF, valF, constD, boolT, consA, tupF, lstF, setS_zv, setS_zo, setS_zu, setS_succ, Slot.dat, Slot.mut, Slot.put, nilB, callF, notT, andT, orT, andE, orE, ifE, boolS, tgtB, tupG, consG, nilG, nameG, retNm, appB, augB, callX, ioA, consX, argI, argV, argN, argsS, argS, ioIx, putB, popF, setB, fdiv_ii hD])
  unfold plC
  rw [h]
  unfold iv
  rw [List.map_map]
  rfl
theorem pl_tail {cr : Ip.Run} {I R : List PyData} {C L : Int} {o : List Slot} (h1 : cr [.val (.list I)] = some (.val (.int C), o)) (h2 : ixD (.list I) (.int (-1)) = some (.val (.int L))) (h3 : plC [.val (.list I), .val (.int (if L < 0 then -C else C)), .un] = some (.own R, [.val (.list I), .val (.int (if L < 0 then -C else C)), .un])) :
    (seqB (asgB 1 (callF 1 cr (consA (nameV 0) ((fun env => some ([], env)))))) (seqB (ifB (boolT (op2 (datL (datF (op2 (nameL 0) (datL (datF (op1 (datL (constD (.int 1))) negD))) ixD))) (datL (constD (.int 0))) ltD)) (seqB (asgB 1 (op1 (nameL 1) negD)) (nilB)) (nilB)) (seqB (retB plC) (nilB)))) [.val (.list I), .un, .un] = some (.rt (.own R) [.val (.list I), .val (.int (if L < 0 then -C else C)), .un]) := by
  by_cases c : L < 0
  · rw [if_pos c] at *
    simp [seqB, ifB, asgB, retB, exprB, op1, op2, look, nameL, nameV, datL, datF, valF, constD, boolT, consA, tupF, lstF, setS_zv, setS_zo, setS_zu, setS_succ, Slot.dat, Slot.mut, Slot.put, nilB, callF, notT, andT, orT, andE, orE, ifE, boolS, tgtB, tupG, consG, nilG, nameG, retNm, appB, augB, callX, ioA, consX, argI, argV, argN, argsS, argS, ioIx, putB, popF, setB, h1, h2, neg_i, lt_ii, c, h3]
  · rw [if_neg c] at *
    simp [seqB, ifB, asgB, retB, exprB, op1, op2, look, nameL, nameV, datL, datF, valF, constD, boolT, consA, tupF, lstF, setS_zv, setS_zo, setS_zu, setS_succ, Slot.dat, Slot.mut, Slot.put, nilB, callF, notT, andT, orT, andE, orE, ifE, boolS, tgtB, tupG, consG, nilG, nameG, retNm, appB, augB, callX, ioA, consX, argI, argV, argN, argsS, argS, ioIx, putB, popF, setB, h1, h2, neg_i, lt_ii, c, h3]
theorem sct_ok {m : Nat} {a : List Int} (ht : tp a = a) (hn : a ≠ []) (hb : Bl m a) (hm : m ≤ 1900) : divOk (sct a) = true := by
  obtain ⟨h0, h1, _⟩ := plain_form ht hn
  refine divOk_pow (m := m) h0 ?_ (by omega)
  rw [h1]
  exact ctf_le a 0 m (Nat.pow_pos (by decide)) hb
theorem plain_eval {m : Nat} (hm : m ≤ 1900) {a : List Int} (ht : tp a = a) (hb : Bl m a) (hl : a.length ≤ 100000) : ∃ o, r_plain [.val (.list (iv a))] = some (.own (iv (pls a)), o) := by
  by_cases hn : a = []
  · subst hn
    refine run_rt (e := [.val (.list []), .un, .un]) ?_ (by simp)
    have q0 : eqD (.list []) (.list []) = some (.val (.bool true)) := eq_nil_iv []
    show seqB _ _ [.val (.list []), .un, .un] = some (.rt (.own []) _)
    simp [seqB, ifB, asgB, retB, exprB, op1, op2, look, nameL, nameV, datL, datF, valF, constD, boolT, consA, tupF, lstF, setS_zv, setS_zo, setS_zu, setS_succ, Slot.dat, Slot.mut, Slot.put, nilB, callF, notT, andT, orT, andE, orE, ifE, boolS, tgtB, tupG, consG, nilG, nameG, retNm, appB, augB, callX, ioA, consX, argI, argV, argN, argsS, argS, ioIx, putB, popF, setB, q0]
  · obtain ⟨o, hc⟩ := content_eval a
    have hx := ix_lst hn
    have hp := plC_eval (a := a) (D := sct a) (sct_ok ht hn hb hm) hl
    have e : pls a = a.map fun c => c.fdiv (sct a) := by unfold pls; rw [if_neg hn]
    rw [← e] at hp
    have hq : eqD (.list (iv a)) (.list []) = some (.val (.bool false)) := by rw [eq_nil_iv, decide_eq_false hn]
    unfold sct at hp
    refine run_rt (e := [.val (.list (iv a)), .val (.int (if lst a < 0 then -((ct a : Nat) : Int) else ((ct a : Nat) : Int))), .un]) ?_ (by simp)
    have h2 := pl_tail hc hx hp
    generalize iv a = I at *
    refine (seq_nx ?_).trans h2
    simp [seqB, ifB, asgB, retB, exprB, op1, op2, look, nameL, nameV, datL, datF, valF, constD, boolT, consA, tupF, lstF, setS_zv, setS_zo, setS_zu, setS_succ, Slot.dat, Slot.mut, Slot.put, nilB, callF, notT, andT, orT, andE, orE, ifE, boolS, tgtB, tupG, consG, nilG, nameG, retNm, appB, augB, callX, ioA, consX, argI, argV, argN, argsS, argS, ioIx, putB, popF, setB, hq]
theorem law_plain_eval {m : Nat} (hm : m ≤ 1900) {a : List Int} (ht : tp a = a) (hb : Bl m a) (hl : a.length ≤ 100000) : ∃ o, r_f_law_plain [.val (.list (iv a))] = some (.own (iv (pls a)), o) := by
  by_cases hn : a = []
  · subst hn
    refine run_rt (e := [.val (.list []), .un, .un]) ?_ (by simp)
    show seqB _ _ [.val (.list []), .un, .un] = some (.rt (.own []) _)
    have q0 : lenD (.list []) = some (.val (.int 0)) := rfl
    simp [seqB, ifB, asgB, retB, exprB, op1, op2, look, nameL, nameV, datL, datF, valF, constD, boolT, consA, tupF, lstF, setS_zv, setS_zo, setS_zu, setS_succ, Slot.dat, Slot.mut, Slot.put, nilB, callF, notT, andT, orT, andE, orE, ifE, boolS, tgtB, tupG, consG, nilG, nameG, retNm, appB, augB, callX, ioA, consX, argI, argV, argN, argsS, argS, ioIx, putB, popF, setB, q0, eq_ii]
  · obtain ⟨o, hc⟩ := law_content_eval hm hb
    have hx := ix_lst hn
    have hp := plC_eval (a := a) (D := sct a) (sct_ok ht hn hb hm) hl
    have e : pls a = a.map fun c => c.fdiv (sct a) := by unfold pls; rw [if_neg hn]
    rw [← e] at hp
    have pos : 0 < a.length := List.length_pos_iff.mpr hn
    have hq := len_iv a
    have hq0 : ¬ il a = 0 := by show ¬ (a.length : Int) = 0; omega
    unfold sct at hp
    refine run_rt (e := [.val (.list (iv a)), .val (.int (if lst a < 0 then -((ct a : Nat) : Int) else ((ct a : Nat) : Int))), .un]) ?_ (by simp)
    have h2 := pl_tail hc hx hp
    generalize iv a = I at *
    refine (seq_nx ?_).trans h2
    simp [seqB, ifB, asgB, retB, exprB, op1, op2, look, nameL, nameV, datL, datF, valF, constD, boolT, consA, tupF, lstF, setS_zv, setS_zo, setS_zu, setS_succ, Slot.dat, Slot.mut, Slot.put, nilB, callF, notT, andT, orT, andE, orE, ifE, boolS, tgtB, tupG, consG, nilG, nameG, retNm, appB, augB, callX, ioA, consX, argI, argV, argN, argsS, argS, ioIx, putB, popF, setB, hq, eq_ii, hq0]
end Lp

set_option Elab.async false
set_option linter.all false
set_option maxRecDepth 100000
set_option maxHeartbeats 4000000
/-! false rests, the program's and the law's -/
namespace Lp
open PySem L2 Ip Lw
/-! pure -/
def fst (L : Int) (b : List Int) (d s : Nat) (fs : List Int) : List Int := (List.range (s + d)).map fun i => L * fs.getD i 0 - (if s ≤ i then fs.getD (s + d) 0 * b.getD (i - s) 0 else 0)
def frl (L : Int) (b : List Int) (d : Nat) : Nat → List Int → List Int
  | 0, fs => fs
  | s + 1, fs => frl L b d s (fst L b d s fs)
theorem fst_len (L : Int) (b : List Int) (d s : Nat) (fs : List Int) : (fst L b d s fs).length = s + d := by unfold fst; rw [List.length_map, List.length_range]
theorem fst_get {L : Int} {b : List Int} {d s : Nat} {fs : List Int} {i : Nat} (hi : i < s + d) : (fst L b d s fs).getD i 0 = L * fs.getD i 0 - (if s ≤ i then fs.getD (s + d) 0 * b.getD (i - s) 0 else 0) := by
  unfold fst
  rw [List.getD_eq_getElem?_getD, List.getElem?_map, List.getElem?_range hi]
  rfl
theorem getD_hi {a : List Int} {i : Nat} (h : a.length ≤ i) : a.getD i 0 = 0 := by simp [List.getD, h]
theorem fst_id {L : Int} {b : List Int} {d s : Nat} {fs : List Int} (hf : fs.length = s + 1 + d) (hb : b.length = d + 1) (hL : b.getD d 0 = L) (k : Nat) : L * fs.getD k 0 = (fst L b d s fs).getD k 0 + (if s ≤ k then fs.getD (s + d) 0 * b.getD (k - s) 0 else 0) := by
  by_cases h : k < s + d
  · rw [fst_get h]; omega
  · rw [getD_hi (a := fst L b d s fs) (by rw [fst_len]; omega), if_pos (by omega)]
    by_cases e : k = s + d
    · subst e
      rw [Nat.add_sub_cancel_left, hL, Int.zero_add, Int.mul_comm]
    · rw [getD_hi (a := fs) (by omega), getD_hi (a := b) (by omega)]
      simp
theorem frl_len (L : Int) (b : List Int) (d : Nat) : ∀ (s : Nat) (fs : List Int), fs.length = s + d → (frl L b d s fs).length = d
  | 0, fs, h => by rw [show d = 0 + d by omega]; exact h
  | s + 1, fs, h => frl_len L b d s _ (fst_len ..)
theorem frl_id {L : Int} {b : List Int} {d : Nat} (hb : b.length = d + 1) (hL : b.getD d 0 = L) : ∀ (s : Nat) (fs : List Int), fs.length = s + d → ∃ q : List Int, q.length = s ∧ ∀ k, L ^ s * fs.getD k 0 = pc q (cf b) k + (frl L b d s fs).getD k 0
  | 0, fs, h => ⟨[], rfl, fun k => by simp [frl, pc]⟩
  | s + 1, fs, h => by
    obtain ⟨q, hq, e⟩ := frl_id hb hL s (fst L b d s fs) (fst_len ..)
    refine ⟨q ++ [L ^ s * fs.getD (s + d) 0], by rw [List.length_append, hq]; rfl, fun k => ?_⟩
    have h1 := fst_id (s := s) (fs := fs) h hb hL k
    have h2 := e k
    rw [pc_app, hq]
    show L ^ (s + 1) * fs.getD k 0 = _
    rw [Int.pow_succ, Int.mul_assoc, h1, Int.mul_add, h2]
    show _ = pc q (cf b) k + (if s ≤ k then L ^ s * fs.getD (s + d) 0 * b.getD (k - s) 0 else 0) + (frl L b d s (fst L b d s fs)).getD k 0
    split
    · grind
    · rw [Int.mul_zero]; omega
theorem fst_bd {L : Int} {b : List Int} {d s m n : Nat} {fs : List Int} (hL : L.natAbs < 2 ^ n) (hb : Bl n b) (hf : Bl m fs) : Bl (m + n + 1) (fst L b d s fs) := by
  intro x hx
  obtain ⟨i, _, rfl⟩ := List.mem_map.mp hx
  have h1 := natAbs_mul_lt hL (hf.getD i)
  have h2 := natAbs_mul_lt (hf.getD (s + d)) (hb.getD (i - s))
  rw [Nat.add_comm n m] at h1
  rw [Nat.pow_succ]
  split <;> omega
/-! the program's -/
def frT : MEnv → Option Out := (seqB (augSB 5 (datL (datF (op2 (nameL 6) (nameL 8) addD))) (datL (datF (op2 (nameL 7) (datL (datF (op2 (nameL 1) (nameL 8) ixD))) mulD))) (fun i j => i - j)) (nilB))
theorem fr_turn {A x2 x3 x4 s9 : Slot} {B F : List PyData} {sh T k K C D : Int} {q : Nat} (hk : sh + k = K) (hq : K.toNat = q) (h0 : 0 ≤ K) (hl : q < F.length) (h1 : F[q]? = some (.int C)) (hx : ixD (.list B) (.int k) = some (.val (.int D))) (hm : mulOk T D = true) :
    frT [A, .val (.list B), x2, x3, x4, .own F, .val (.int sh), .val (.int T), .val (.int k), s9] = some (.nx [A, .val (.list B), x2, x3, x4, .own (F.set q (.int (C - T * D))), .val (.int sh), .val (.int T), .val (.int k), s9]) := by
  have h2 : F[q] = .int C := by
    rw [List.getElem?_eq_getElem hl] at h1
    exact Option.some.inj h1
  simp [frT, seqB, ifB, asgB, retB, exprB, op1, op2, look, nameL, nameV, datL, datF, valF, constD, boolT, consA, tupF, lstF, setS_zv, setS_zo, setS_zu, setS_succ, Slot.dat, Slot.mut, Slot.put, nilB, callF, notT, andT, orT, andE, orE, ifE, boolS, tgtB, tupG, consG, nilG, nameG, retNm, appB, augB, callX, ioA, consX, argI, argV, argN, argsS, argS, ioIx, putB, popF, setB, add_ii, hx, mul_ii hm, augSB, hk, hq, h0, hl, h2]
theorem fr_row {A x2 x3 x4 s9 : Slot} {b : List Int} {sh : Nat} {SH T : Int} {d : Nat} (hSH : SH = sh) (hd : d ≤ b.length) (hm : ∀ y ∈ b, mulOk T y = true) : ∀ (n lo : Nat) (LO : Int) (fs : List Int) (s : Slot), LO = lo → nio s = true → lo + n = d → sh + d ≤ fs.length →
    ∃ (gs : List Int) (s' : Slot), nio s' = true ∧ gs.length = fs.length ∧ (∀ k, gs.getD k 0 = fs.getD k 0 - if sh + lo ≤ k ∧ k < sh + d then T * b.getD (k - sh) 0 else 0) ∧
      forLoop (nameG 8) frT (Ip.intsFrom LO n) [A, .val (.list (iv b)), x2, x3, x4, .own (iv fs), .val (.int SH), .val (.int T), s, s9] = some (.nx [A, .val (.list (iv b)), x2, x3, x4, .own (iv gs), .val (.int SH), .val (.int T), s', s9])
  | 0, lo, LO, fs, s, hLO, hs, hn, hf => ⟨fs, s, hs, rfl, fun k => by rw [if_neg (by omega), Int.sub_zero], rfl⟩
  | n + 1, lo, LO, fs, s, hLO, hs, hn, hf => by
    have hk : lo < b.length := by omega
    have hk2 : sh + lo < fs.length := by omega
    have h1 : (iv fs)[sh + lo]? = some (.int fs[sh + lo]) := by
      unfold iv
      rw [List.getElem?_map, List.getElem?_eq_getElem hk2]
      rfl
    have hx := ix_iv0 (ns := b) (i := LO) lo hLO (List.getElem?_eq_getElem hk)
    have h4 := fr_turn (A := A) (x2 := x2) (x3 := x3) (x4 := x4) (s9 := s9) (B := iv b) (F := iv fs) (sh := SH) (T := T) (k := LO) (q := sh + lo) rfl (by omega) (by omega) (by rw [iv_len]; exact hk2) h1 hx (hm _ (List.getElem_mem hk))
    rw [iv_set] at h4
    obtain ⟨gs, s', n1, e2, e3, e4⟩ := fr_row (A := A) (x2 := x2) (x3 := x3) (x4 := x4) (s9 := s9) hSH hd hm n (lo + 1) (LO + 1) (fs.set (sh + lo) (fs[sh + lo] - T * b[lo])) (.val (.int LO)) (by omega) rfl (by omega) (by rw [List.length_set]; omega)
    refine ⟨gs, s', n1, by rw [e2, List.length_set], fun k => ?_, ?_⟩
    · rw [e3 k, getD_setI hk2]
      by_cases c : k = sh + lo
      · subst c
        rw [if_pos rfl, if_neg (by omega), if_pos (by omega), Nat.add_sub_cancel_left]
        simp [List.getD, hk, hk2]
      · rw [if_neg c]
        by_cases c2 : sh + (lo + 1) ≤ k ∧ k < sh + d
        · rw [if_pos c2, if_pos (by omega)]
        · rw [if_neg c2, if_neg (by omega)]
    · rw [ints_succ, for_nx (e1 := [A, .val (.list (iv b)), x2, x3, x4, .own (iv fs), .val (.int SH), .val (.int T), .val (.int LO), s9]) (by simp [nameG, setS_zero hs, setS_succ]) h4]
      exact e4
def frC : MEnv → Option (Slot × MEnv) := (compF (seqI (datF (slF (nameL 5) ((fun env => some (none, env))) (intO (datL (datF (op2 (nameL 6) (nameL 3) addD))))))) (nameG 9) (yesT) (datF (op2 (nameL 2) (nameL 9) mulD)) [9])
theorem frC_eval {A B x4 x7 x8 : Slot} {fs : List Int} {L D SH : Int} {n : Nat} (hn : SH + D = n) (hl : n ≤ fs.length) (hz : n ≤ 100000) (hm : ∀ y, mulOk L y = true) :
    frC [A, B, .val (.int L), .val (.int D), x4, .own (iv fs), .val (.int SH), x7, x8, .un] = some (.own (iv ((fs.take n).map fun c => L * c)), [A, B, .val (.int L), .val (.int D), x4, .own (iv fs), .val (.int SH), x7, x8, .un]) := by
  have hc := cut_iv (cs := fs) hn hl
  have h := comp_asF (fi := seqI (datF (slF (nameL 5) ((fun env => some (none, env))) (intO (datL (datF (op2 (nameL 6) (nameL 3) addD))))))) (fe := datF (op2 (nameL 2) (nameL 9) mulD)) (j := 9) (env := [A, B, .val (.int L), .val (.int D), x4, .own (iv fs), .val (.int SH), x7, x8, .un]) (env1 := [A, B, .val (.int L), .val (.int D), x4, .own (iv fs), .val (.int SH), x7, x8, .un]) (fs.take n) (fun c => .int c) (fun c => .int (L * c)) (by
    show _ = some (iv (fs.take n), _)
    generalize iv (fs.take n) = J at *
    generalize iv fs = I at *
    simp [seqI, seqB, ifB, asgB, retB, exprB, op1, op2, look, nameL, nameV, datL, datF, valF, constD, boolT, consA, tupF, lstF, setS_zv, setS_zo, setS_zu, setS_succ, Slot.dat, Slot.mut, Slot.put, nilB, callF, notT, andT, orT, andE, orE, ifE, boolS, tgtB, tupG, consG, nilG, nameG, retNm, appB, augB, callX, ioA, consX, argI, argV, argN, argsS, argS, ioIx, putB, popF, setB, slF, intO, add_ii, hc]) rfl (by rw [List.length_take]; omega) (fun c hc => by
    generalize iv fs = I
    simp [seqB, ifB, asgB, retB, exprB, op1, op2, look, nameL, nameV, datL, datF, valF, constD, boolT, consA, tupF, lstF, setS_zv, setS_zo, setS_zu, setS_succ, Slot.dat, Slot.mut, Slot.put, nilB, callF, notT, andT, orT, andE, orE, ifE, boolS, tgtB, tupG, consG, nilG, nameG, retNm, appB, augB, callX, ioA, consX, argI, argV, argN, argsS, argS, ioIx, putB, popF, setB, mul_ii (hm c)])
  unfold frC
  rw [h]
  unfold iv
  rw [List.map_map]
  rfl
def frB : MEnv → Option Out := (seqB (asgB 7 (op2 (nameL 5) (datL (datF (op2 (nameL 6) (nameL 3) addD))) ixD)) (seqB (asgB 5 frC) (seqB (forB (rng1I (consA (nameV 3) ((fun env => some ([], env))))) (nameG 8) frT) (nilB))))
theorem fr_step {A x4 x7 x8 : Slot} {b fs : List Int} {L D SH : Int} {d s : Nat} (hD : D = d) (hS : SH = s) (hb : b.length = d + 1) (hf : fs.length = s + 1 + d) (hz : fs.length ≤ 100000) (hm : ∀ y, mulOk L y = true) (hm2 : ∀ T, ∀ y ∈ b, mulOk T y = true) (h7 : nio x7 = true) (h8 : nio x8 = true) :
    ∃ (y7 y8 : Slot), nio y7 = true ∧ nio y8 = true ∧ frB [A, .val (.list (iv b)), .val (.int L), .val (.int D), x4, .own (iv fs), .val (.int SH), x7, x8, .un] = some (.nx [A, .val (.list (iv b)), .val (.int L), .val (.int D), x4, .own (iv (fst L b d s fs)), .val (.int SH), y7, y8, .un]) := by
  have hk : s + d < fs.length := by omega
  have hx := ix_iv0 (ns := fs) (i := SH + D) (s + d) (by omega) (List.getElem?_eq_getElem hk)
  obtain ⟨T, hT⟩ : ∃ T, T = fs[s + d] := ⟨_, rfl⟩
  rw [← hT] at hx
  have hT2 : T = fs.getD (s + d) 0 := by rw [hT]; simp [List.getD, hk]
  have hC := frC_eval (A := A) (B := .val (.list (iv b))) (x4 := x4) (x7 := .val (.int T)) (x8 := x8) (fs := fs) (L := L) (D := D) (SH := SH) (n := s + d) (by omega) (by omega) (by omega) hm
  obtain ⟨gs, s', n1, e2, e3, e4⟩ := fr_row (A := A) (x2 := .val (.int L)) (x3 := .val (.int D)) (x4 := x4) (s9 := .un) (b := b) (sh := s) (SH := SH) (T := T) (d := d) hS (by omega) (hm2 T) d 0 0 ((fs.take (s + d)).map fun c => L * c) x8 rfl h8 (by omega) (by rw [List.length_map, List.length_take]; omega)
  have eg : gs = fst L b d s fs := by
    refine list_ext (by rw [e2, fst_len, List.length_map, List.length_take]; omega) fun i => ?_
    by_cases hi : i < s + d
    · rw [e3, fst_get hi, ← hT2]
      have e5 : ((fs.take (s + d)).map fun c => L * c).getD i 0 = L * fs.getD i 0 := by
        simp [List.getD, List.getElem?_map, List.getElem?_take_of_lt hi]
        cases fs[i]? with
        | none => simp
        | some z => simp
      rw [e5]
      by_cases c : s ≤ i
      · rw [if_pos (by omega), if_pos c]
      · rw [if_neg (by omega), if_neg c]
    · rw [getD_hi (a := fst L b d s fs) (by rw [fst_len]; omega), getD_hi (a := gs) (by rw [e2, List.length_map, List.length_take]; omega)]
  rw [eg] at e4
  refine ⟨.val (.int T), s', rfl, n1, ?_⟩
  have s1 : ∀ (I B : List PyData), ixD (.list I) (.int (SH + D)) = some (.val (.int T)) → (asgB 7 (op2 (nameL 5) (datL (datF (op2 (nameL 6) (nameL 3) addD))) ixD)) [A, .val (.list B), .val (.int L), .val (.int D), x4, .own I, .val (.int SH), x7, x8, .un] = some (.nx [A, .val (.list B), .val (.int L), .val (.int D), x4, .own I, .val (.int SH), .val (.int T), x8, .un]) := by
    intro I B h
    simp [seqB, ifB, asgB, retB, exprB, op1, op2, look, nameL, nameV, datL, datF, valF, constD, boolT, consA, tupF, lstF, setS_zv, setS_zo, setS_zu, setS_succ, Slot.dat, Slot.mut, Slot.put, nilB, callF, notT, andT, orT, andE, orE, ifE, boolS, tgtB, tupG, consG, nilG, nameG, retNm, appB, augB, callX, ioA, consX, argI, argV, argN, argsS, argS, ioIx, putB, popF, setB, add_ii, h, setS_zero h7]
  refine (seq_nx (s1 _ _ hx)).trans ?_
  have s2 : ∀ (I B J : List PyData), frC [A, .val (.list B), .val (.int L), .val (.int D), x4, .own I, .val (.int SH), .val (.int T), x8, .un] = some (.own J, [A, .val (.list B), .val (.int L), .val (.int D), x4, .own I, .val (.int SH), .val (.int T), x8, .un]) → asgB 5 frC [A, .val (.list B), .val (.int L), .val (.int D), x4, .own I, .val (.int SH), .val (.int T), x8, .un] = some (.nx [A, .val (.list B), .val (.int L), .val (.int D), x4, .own J, .val (.int SH), .val (.int T), x8, .un]) := by
    intro I B J h
    simp [asgB, h, setS_succ, setS_zo]
  refine (seq_nx (s2 _ _ _ hC)).trans ?_
  refine (seq_nx (forB_of (rng1_nat (c := D) (n := d) (env1 := [A, .val (.list (iv b)), .val (.int L), .val (.int D), x4, .own (iv ((fs.take (s + d)).map fun c => L * c)), .val (.int SH), .val (.int T), x8, .un]) (by generalize iv b = B; generalize iv ((fs.take (s + d)).map fun c => L * c) = J; simp [seqB, ifB, asgB, retB, exprB, op1, op2, look, nameL, nameV, datL, datF, valF, constD, boolT, consA, tupF, lstF, setS_zv, setS_zo, setS_zu, setS_succ, Slot.dat, Slot.mut, Slot.put, nilB, callF, notT, andT, orT, andE, orE, ifE, boolS, tgtB, tupG, consG, nilG, nameG, retNm, appB, augB, callX, ioA, consX, argI, argV, argN, argsS, argS, ioIx, putB, popF, setB]) hD (by omega)) e4)).trans rfl
theorem ints_rev (n : Nat) : (Ip.intsFrom 0 (n + 1)).reverse = .int (n : Int) :: (Ip.intsFrom 0 n).reverse := by
  unfold Ip.intsFrom
  rw [List.range_succ, List.map_append, List.reverse_append]
  simp
theorem fr_loop {A x4 : Slot} {b : List Int} {L D : Int} {d : Nat} (hD : D = d) (hb : b.length = d + 1) (hm : ∀ y, mulOk L y = true) (hm2 : ∀ T, ∀ y ∈ b, mulOk T y = true) : ∀ (s : Nat) (fs : List Int) (x6 x7 x8 : Slot), fs.length = s + d → fs.length ≤ 100000 → nio x6 = true → nio x7 = true → nio x8 = true →
    ∃ (y6 y7 y8 : Slot), forLoop (nameG 6) frB (Ip.intsFrom 0 s).reverse [A, .val (.list (iv b)), .val (.int L), .val (.int D), x4, .own (iv fs), x6, x7, x8, .un] = some (.nx [A, .val (.list (iv b)), .val (.int L), .val (.int D), x4, .own (iv (frl L b d s fs)), y6, y7, y8, .un])
  | 0, fs, x6, x7, x8, hf, hz, h6, h7, h8 => ⟨x6, x7, x8, rfl⟩
  | s + 1, fs, x6, x7, x8, hf, hz, h6, h7, h8 => by
    obtain ⟨M, hM⟩ : ∃ M : Int, M = (s : Int) := ⟨_, rfl⟩
    obtain ⟨z7, z8, n7, n8, e1⟩ := fr_step (A := A) (x4 := x4) (x7 := x7) (x8 := x8) (fs := fs) (L := L) (SH := M) (s := s) hD hM hb hf hz hm hm2 h7 h8
    obtain ⟨y6, y7, y8, e2⟩ := fr_loop (A := A) (x4 := x4) hD hb hm hm2 s (fst L b d s fs) (.val (.int M)) z7 z8 (fst_len ..) (by rw [fst_len]; omega) rfl n7 n8
    refine ⟨y6, y7, y8, ?_⟩
    rw [ints_rev, ← hM]
    refine (for_nx ?_ e1).trans e2
    generalize iv b = B
    generalize iv fs = F
    simp [nameG, setS_zero h6, setS_succ]
theorem false_rest_eval {a b : List Int} (hb : b ≠ []) (hl : a.length ≤ 1000) (hl2 : b.length ≤ 1000) (hm : ∀ y ∈ b, y.natAbs < 2 ^ 64) : ∃ o, r_false_rest [.val (.list (iv a)), .val (.list (iv b))] = some (.own (iv (tp (frl (lst b) b (b.length - 1) (a.length - (b.length - 1)) a))), o) := by
  have pos : 0 < b.length := List.length_pos_iff.mpr hb
  obtain ⟨d, hd⟩ : ∃ d, b.length = d + 1 := ⟨b.length - 1, by omega⟩
  obtain ⟨n, hn⟩ : ∃ n, a.length - (b.length - 1) = n := ⟨_, rfl⟩
  rw [hn, show b.length - 1 = d by omega]
  obtain ⟨D, hD⟩ : ∃ D : Int, D = d := ⟨_, rfl⟩
  obtain ⟨M, hM⟩ : ∃ M : Int, M = (a.length : Int) - D := ⟨_, rfl⟩
  have la : il a = (a.length : Int) := rfl
  have lb : il b = (b.length : Int) := rfl
  have hL := hm _ (lst_mem hb)
  have hmL : ∀ y, mulOk (lst b) y = true := fun y => mulOk_l hL
  have hmT : ∀ T, ∀ y ∈ b, mulOk T y = true := fun T y hy => mulOk_r (hm y hy)
  obtain ⟨y6, y7, y8, e2⟩ : ∃ (y6 y7 y8 : Slot), forLoop (nameG 6) frB (Ip.intsFrom 0 M.toNat).reverse [.val (.list (iv a)), .val (.list (iv b)), .val (.int (lst b)), .val (.int D), .val (.int M), .own (iv a), .un, .un, .un, .un] = some (.nx [.val (.list (iv a)), .val (.list (iv b)), .val (.int (lst b)), .val (.int D), .val (.int M), .own (iv (frl (lst b) b d n a)), y6, y7, y8, .un]) := by
    by_cases c : d ≤ a.length
    · rw [show M.toNat = n by omega]
      exact fr_loop hD hd hmL hmT n a .un .un .un (by omega) (by omega) rfl rfl rfl
    · rw [show M.toNat = 0 by omega, show n = 0 by omega]
      exact ⟨.un, .un, .un, rfl⟩
  have lR : (frl (lst b) b d n a).length < 100000 := by
    by_cases c : d ≤ a.length
    · rw [frl_len _ _ _ _ _ (by omega)]; omega
    · rw [show n = 0 by omega]; show a.length < _; omega
  obtain ⟨o, ht⟩ := trimmed_eval _ lR
  have hx := ix_lst hb
  have qa := len_iv a
  have qb := len_iv b
  have hrr : ∀ (I B : List PyData), rrng1I (nameL 4) [.val (.list I), .val (.list B), .val (.int (lst b)), .val (.int D), .val (.int M), .own I, .un, .un, .un, .un] = some ((Ip.intsFrom 0 M.toNat).reverse, [.val (.list I), .val (.list B), .val (.int (lst b)), .val (.int D), .val (.int M), .own I, .un, .un, .un, .un]) := by
    intro I B
    have c : -(2 ^ 62) ≤ M ∧ M < 2 ^ 62 := by omega
    show (if -(2 ^ 62) ≤ M ∧ M < 2 ^ 62 then _ else _) = _
    rw [if_pos c]
  have hf := forB_of (hrr (iv a) (iv b)) e2
  generalize tp (frl (lst b) b d n a) = R at *
  generalize frl (lst b) b d n a = R0 at *
  have hD2 : il b - 1 = D := by omega
  have hM2 : il a - D = M := by omega
  refine run_rt (e := [.val (.list (iv a)), .val (.list (iv b)), .val (.int (lst b)), .val (.int D), .val (.int M), .val (.list (iv R0)), y6, y7, y8, .un]) ?_ (by simp)
  generalize iv a = I at *
  generalize iv b = B at *
  generalize iv R = J at *
  generalize iv R0 = J0 at *
  generalize lst b = L at *
  show seqB _ (seqB _ (seqB _ (seqB _ (seqB (forB (rrng1I (nameL 4)) (nameG 6) frB) _)))) [.val (.list I), .val (.list B), .un, .un, .un, .un, .un, .un, .un, .un] = _
  refine (seq_nx (e1 := [.val (.list I), .val (.list B), .val (.int L), .un, .un, .un, .un, .un, .un, .un]) (by simp [seqB, ifB, asgB, retB, exprB, op1, op2, look, nameL, nameV, datL, datF, valF, constD, boolT, consA, tupF, lstF, setS_zv, setS_zo, setS_zu, setS_succ, Slot.dat, Slot.mut, Slot.put, nilB, callF, notT, andT, orT, andE, orE, ifE, boolS, tgtB, tupG, consG, nilG, nameG, retNm, appB, augB, callX, ioA, consX, argI, argV, argN, argsS, argS, ioIx, putB, popF, setB, neg_i, hx])).trans ?_
  refine (seq_nx (e1 := [.val (.list I), .val (.list B), .val (.int L), .val (.int D), .un, .un, .un, .un, .un, .un]) (by simp [seqB, ifB, asgB, retB, exprB, op1, op2, look, nameL, nameV, datL, datF, valF, constD, boolT, consA, tupF, lstF, setS_zv, setS_zo, setS_zu, setS_succ, Slot.dat, Slot.mut, Slot.put, nilB, callF, notT, andT, orT, andE, orE, ifE, boolS, tgtB, tupG, consG, nilG, nameG, retNm, appB, augB, callX, ioA, consX, argI, argV, argN, argsS, argS, ioIx, putB, popF, setB, qb, sub_ii, hD2])).trans ?_
  refine (seq_nx (e1 := [.val (.list I), .val (.list B), .val (.int L), .val (.int D), .val (.int M), .un, .un, .un, .un, .un]) (by simp [seqB, ifB, asgB, retB, exprB, op1, op2, look, nameL, nameV, datL, datF, valF, constD, boolT, consA, tupF, lstF, setS_zv, setS_zo, setS_zu, setS_succ, Slot.dat, Slot.mut, Slot.put, nilB, callF, notT, andT, orT, andE, orE, ifE, boolS, tgtB, tupG, consG, nilG, nameG, retNm, appB, augB, callX, ioA, consX, argI, argV, argN, argsS, argS, ioIx, putB, popF, setB, qa, sub_ii, hM2])).trans ?_
  refine (seq_nx (e1 := [.val (.list I), .val (.list B), .val (.int L), .val (.int D), .val (.int M), .own I, .un, .un, .un, .un]) (by simp [seqB, ifB, asgB, retB, exprB, op1, op2, look, nameL, nameV, datL, datF, valF, constD, boolT, consA, tupF, lstF, setS_zv, setS_zo, setS_zu, setS_succ, Slot.dat, Slot.mut, Slot.put, nilB, callF, notT, andT, orT, andE, orE, ifE, boolS, tgtB, tupG, consG, nilG, nameG, retNm, appB, augB, callX, ioA, consX, argI, argV, argN, argsS, argS, ioIx, putB, popF, setB, listD])).trans ?_
  refine (seq_nx hf).trans ?_
  simp [seqB, ifB, asgB, retB, exprB, op1, op2, look, nameL, nameV, datL, datF, valF, constD, boolT, consA, tupF, lstF, setS_zv, setS_zo, setS_zu, setS_succ, Slot.dat, Slot.mut, Slot.put, nilB, callF, notT, andT, orT, andE, orE, ifE, boolS, tgtB, tupG, consG, nilG, nameG, retNm, appB, augB, callX, ioA, consX, argI, argV, argN, argsS, argS, ioIx, putB, popF, setB, ht]
end Lp

set_option Elab.async false
set_option linter.all false
set_option maxRecDepth 100000
set_option maxHeartbeats 4000000
/-! false rests, the law's -/
namespace Lp
open PySem L2 Ip Lw
theorem getD_mulr (l : List Int) (F : Int) (i : Nat) : (l.map fun c => c * F).getD i 0 = l.getD i 0 * F := by
  by_cases q : i < l.length
  · simp [List.getD, q]
  · rw [getD_hi (a := l.map fun c => c * F) (by rw [List.length_map]; omega), getD_hi (a := l) (by omega), Int.zero_mul]
theorem getD_zeros (s : Nat) (b : List Int) (i : Nat) : (List.replicate s (0 : Int) ++ b).getD i 0 = if s ≤ i then b.getD (i - s) 0 else 0 := by
  by_cases c : s ≤ i
  · rw [if_pos c, List.getD_eq_getElem?_getD, List.getElem?_append_right (by rw [List.length_replicate]; omega), List.length_replicate]
    rfl
  · rw [if_neg c, List.getD_eq_getElem?_getD, List.getElem?_append_left (by rw [List.length_replicate]; omega), List.getElem?_replicate, if_pos (by omega)]
    rfl
def lrI : MEnv → Option Out := (ifB (boolT (op2 (datL (datF (op2 (datL (datF (op2 (nameL 4) (datL (datF (op1 (nameL 1) lenD))) addD))) (datL (constD (.int 1))) subD))) (datL (datF (op1 (nameL 2) lenD))) ltD)) (seqB (asgB 5 (op2 (nameL 2) (datL (datF (op2 (datL (datF (op2 (nameL 4) (datL (datF (op1 (nameL 1) lenD))) addD))) (datL (constD (.int 1))) subD))) ixD)) (nilB)) (nilB))
def lrA : MEnv → Option (Slot × MEnv) := (callF 2 r_f_law_add (consA (datF (callF 2 r_f_law_times_number (consA (nameV 2) (consA (datF (op2 (nameL 1) (datL (datF (op1 (datL (constD (.int 1))) negD))) ixD)) ((fun env => some ([], env))))))) (consA (datF (callF 2 r_f_law_times_number (consA (datF (op2 (datL (datF (repF (lstF (consA (constD (.int 0)) ((fun env => some ([], env))))) (nameL 4)))) (nameL 1) addD)) (consA (datF (op1 (nameL 5) negD)) ((fun env => some ([], env))))))) ((fun env => some ([], env))))))
def lrB : MEnv → Option Out := (seqB (asgB 4 (op2 (datL (datF (op2 (datL (datF (op1 (nameL 0) lenD))) (datL (datF (op1 (nameL 1) lenD))) subD))) (nameL 3) subD)) (seqB (asgB 5 (valF (constD (.int 0)))) (seqB lrI (seqB (asgB 2 lrA) (nilB)))))
theorem lrI_eval {A : Slot} {fs b : List Int} {S N : Int} {x3 : Slot} {k : Nat} (hk : S + il b - 1 = k) : lrI [A, .val (.list (iv b)), .own (iv fs), x3, .val (.int S), .val (.int 0)] = some (.nx [A, .val (.list (iv b)), .own (iv fs), x3, .val (.int S), .val (.int (fs.getD k 0))]) := by
  have qb := len_iv b
  have qf := len_iv fs
  by_cases c : k < fs.length
  · have hx := ix_iv0 (ns := fs) (i := S + il b - 1) k hk (List.getElem?_eq_getElem c)
    have e : fs.getD k 0 = fs[k] := by simp [List.getD, c]
    have hc : S + il b - 1 < il fs := by show _ < (fs.length : Int); omega
    rw [e]
    generalize fs[k] = T at *
    generalize iv fs = F at *
    generalize iv b = B at *
    simp [lrI, seqB, ifB, asgB, retB, exprB, op1, op2, look, nameL, nameV, datL, datF, valF, constD, boolT, consA, tupF, lstF, setS_zv, setS_zo, setS_zu, setS_succ, Slot.dat, Slot.mut, Slot.put, nilB, callF, notT, andT, orT, andE, orE, ifE, boolS, tgtB, tupG, consG, nilG, nameG, retNm, appB, augB, callX, ioA, consX, argI, argV, argN, argsS, argS, ioIx, putB, popF, setB, qb, qf, add_ii, sub_ii, lt_ii, hc, hx]
  · have hc : ¬ S + il b - 1 < il fs := by show ¬ _ < (fs.length : Int); omega
    rw [getD_hi (a := fs) (by omega)]
    generalize iv fs = F at *
    generalize iv b = B at *
    simp [lrI, seqB, ifB, asgB, retB, exprB, op1, op2, look, nameL, nameV, datL, datF, valF, constD, boolT, consA, tupF, lstF, setS_zv, setS_zo, setS_zu, setS_succ, Slot.dat, Slot.mut, Slot.put, nilB, callF, notT, andT, orT, andE, orE, ifE, boolS, tgtB, tupG, consG, nilG, nameG, retNm, appB, augB, callX, ioA, consX, argI, argV, argN, argsS, argS, ioIx, putB, popF, setB, qb, qf, add_ii, sub_ii, lt_ii, hc]
theorem lrA_eval {A x3 : Slot} {b fs : List Int} {S T : Int} {d s m : Nat} (hS : S = s) (hb : b.length = d + 1) (hf : fs.length = s + 1 + d) (hz : fs.length ≤ 1000) (hbb : Bl 30 b) (hfb : Bl m fs) (hm : m ≤ 90000) (hT : T = fs.getD (s + d) 0) :
    lrA [A, .val (.list (iv b)), .own (iv (tp fs)), x3, .val (.int S), .val (.int T)] = some (.own (iv (tp (fst (lst b) b d s fs))), [A, .val (.list (iv b)), .val (.list (iv (tp fs))), x3, .val (.int S), .val (.int T)]) := by
  have nb : b ≠ [] := fun e => by rw [e] at hb; cases hb
  have hx := ix_lst nb
  have hL : (lst b).natAbs < 2 ^ 30 := hbb _ (lst_mem nb)
  have hTb : (-T).natAbs < 2 ^ m := by rw [Int.natAbs_neg, hT]; exact hfb.getD _
  have lt := tp_len fs
  obtain ⟨o1, w1⟩ := law_times_number_eval (a := m) (b := 30) (cs := tp fs) (F := lst b) (by omega) hfb.tp hL (by omega)
  obtain ⟨o2, w2⟩ := law_times_number_eval (a := 30) (b := m) (cs := List.replicate s 0 ++ b) (F := -T) (by rw [List.length_append, List.length_replicate]; omega) (fun x hx => by
    rcases List.mem_append.mp hx with h | h
    · rw [List.eq_of_mem_replicate h]; decide
    · exact hbb x h) hTb (by omega)
  have l1 := tp_len ((tp fs).map fun c => c * lst b)
  have l2 := tp_len ((List.replicate s 0 ++ b).map fun c => c * -T)
  rw [List.length_map] at l1 l2
  rw [List.length_append, List.length_replicate] at l2
  obtain ⟨gs, _, hg, o3, w3⟩ := law_add_eval (tp ((tp fs).map fun c => c * lst b)) (tp ((List.replicate s 0 ++ b).map fun c => c * -T)) (by omega) (by omega)
  have e : tp gs = tp (fst (lst b) b d s fs) := tp_ext _ _ fun i => by
    have h1 := fst_id (L := lst b) (s := s) (fs := fs) hf hb (by unfold lst; rw [hb, Nat.add_sub_cancel]) i
    rw [hg, tp_getD, tp_getD, getD_mulr, getD_mulr, tp_getD, getD_zeros]
    rw [← hT] at h1
    rw [Int.mul_comm] at h1
    rw [h1]
    split
    · rw [Int.mul_neg, Int.mul_comm (b.getD (i - s) 0)]; omega
    · simp
  rw [e] at w3
  have hr := rep_of (fb := nameL 4) (env := [A, .val (.list (iv b)), .val (.list (iv (tp fs))), x3, .val (.int S), .val (.int T)]) (rb := .slot 4) (M := S) (n := s) hS (by omega) rfl rfl
  rw [← iv_app] at w2
  have ha : addD (.list (iv (List.replicate s 0))) (.list (iv b)) = some (.own (iv (List.replicate s 0) ++ iv b)) := by
    have h : (iv (List.replicate s 0)).length + (iv b).length ≤ 100000 := by rw [iv_len, iv_len, List.length_replicate]; omega
    unfold addD
    simp only
    rw [if_pos h]
  have key : ∀ (F B Z F1 F2 F3 : List PyData) (L : Int) (o1 o2 o3 : List Slot), ixD (.list B) (.int (-1)) = some (.val (.int L)) → r_f_law_times_number [.val (.list F), .val (.int L)] = some (.own F1, o1) → addD (.list Z) (.list B) = some (.own (Z ++ B)) →
      repF (lstF (consA (constD (.int 0)) ((fun env => some ([], env))))) (nameL 4) [A, .val (.list B), .val (.list F), x3, .val (.int S), .val (.int T)] = some (.own Z, [A, .val (.list B), .val (.list F), x3, .val (.int S), .val (.int T)]) → r_f_law_times_number [.val (.list (Z ++ B)), .val (.int (-T))] = some (.own F2, o2) → r_f_law_add [.val (.list F1), .val (.list F2)] = some (.own F3, o3) →
      lrA [A, .val (.list B), .own F, x3, .val (.int S), .val (.int T)] = some (.own F3, [A, .val (.list B), .val (.list F), x3, .val (.int S), .val (.int T)]) := by
    intro F B Z F1 F2 F3 L o1 o2 o3 h1 h2 h3 h4 h5 h6
    simp [lrA, seqB, ifB, asgB, retB, exprB, op1, op2, look, nameL, nameV, datL, datF, valF, constD, boolT, consA, tupF, lstF, setS_zv, setS_zo, setS_zu, setS_succ, Slot.dat, Slot.mut, Slot.put, nilB, callF, notT, andT, orT, andE, orE, ifE, boolS, tgtB, tupG, consG, nilG, nameG, retNm, appB, augB, callX, ioA, consX, argI, argV, argN, argsS, argS, ioIx, putB, popF, setB, h1, h2, h3, h4, h5, h6, neg_i]
  exact key _ _ _ _ _ _ _ _ _ _ hx w1 ha hr w2 w3
theorem lr_step {b fs a : List Int} {TS : Int} {d s m : Nat} {x4 x5 : Slot} (hST : il a - il b - TS = s) (hb : b.length = d + 1) (hf : fs.length = s + 1 + d) (hz : fs.length ≤ 1000) (hbb : Bl 30 b) (hfb : Bl m fs) (hm : m ≤ 90000) (h4 : nio x4 = true) (h5 : nio x5 = true) :
    ∃ (y4 y5 : Slot), nio y4 = true ∧ nio y5 = true ∧ lrB [.val (.list (iv a)), .val (.list (iv b)), .own (iv (tp fs)), .val (.int TS), x4, x5] = some (.nx [.val (.list (iv a)), .val (.list (iv b)), .own (iv (tp (fst (lst b) b d s fs))), .val (.int TS), y4, y5]) := by
  obtain ⟨S, hS⟩ : ∃ S : Int, S = il a - il b - TS := ⟨_, rfl⟩
  have lb : il b = (b.length : Int) := rfl
  refine ⟨.val (.int S), .val (.int (fs.getD (s + d) 0)), rfl, rfl, ?_⟩
  have e1 := lrI_eval (A := .val (.list (iv a))) (fs := tp fs) (b := b) (S := S) (N := 0) (x3 := .val (.int TS)) (k := s + d) (by omega)
  rw [tp_getD] at e1
  have e2 := lrA_eval (A := .val (.list (iv a))) (x3 := .val (.int TS)) (b := b) (fs := fs) (S := S) (T := fs.getD (s + d) 0) (d := d) (s := s) (m := m) (by omega) hb hf hz hbb hfb hm rfl
  have key : ∀ (I B F J : List PyData) (T : Int), lenD (.list I) = some (.val (.int (il a))) → lenD (.list B) = some (.val (.int (il b))) → lrI [.val (.list I), .val (.list B), .own F, .val (.int TS), .val (.int S), .val (.int 0)] = some (.nx [.val (.list I), .val (.list B), .own F, .val (.int TS), .val (.int S), .val (.int T)]) →
      lrA [.val (.list I), .val (.list B), .own F, .val (.int TS), .val (.int S), .val (.int T)] = some (.own J, [.val (.list I), .val (.list B), .val (.list F), .val (.int TS), .val (.int S), .val (.int T)]) → lrB [.val (.list I), .val (.list B), .own F, .val (.int TS), x4, x5] = some (.nx [.val (.list I), .val (.list B), .own J, .val (.int TS), .val (.int S), .val (.int T)]) := by
    intro I B F J T h1 h2 h3 h6
    have hS2 := hS.symm
    simp [lrB, seqB, ifB, asgB, retB, exprB, op1, op2, look, nameL, nameV, datL, datF, valF, constD, boolT, consA, tupF, lstF, setS_zv, setS_zo, setS_zu, setS_succ, Slot.dat, Slot.mut, Slot.put, nilB, callF, notT, andT, orT, andE, orE, ifE, boolS, tgtB, tupG, consG, nilG, nameG, retNm, appB, augB, callX, ioA, consX, argI, argV, argN, argsS, argS, ioIx, putB, popF, setB, h1, h2, sub_ii, hS2, setS_zero h4, setS_zero h5, h3, h6]
  exact key _ _ _ _ _ (len_iv a) (len_iv b) e1 e2
theorem lr_loop {a b : List Int} {d : Nat} (hb : b.length = d + 1) (hbb : Bl 30 b) : ∀ (s : Nat) (TS : Int) (fs : List Int) (m : Nat) (x3 x4 x5 : Slot), (s = 0 ∨ il a - il b - TS = (s : Int) - 1) → fs.length = s + d → fs.length ≤ 1000 → Bl m fs → m + 31 * s ≤ 90000 → nio x3 = true → nio x4 = true → nio x5 = true →
    ∃ (y3 y4 y5 : Slot), forLoop (nameG 3) lrB (Ip.intsFrom TS s) [.val (.list (iv a)), .val (.list (iv b)), .own (iv (tp fs)), x3, x4, x5] = some (.nx [.val (.list (iv a)), .val (.list (iv b)), .own (iv (tp (frl (lst b) b d s fs))), y3, y4, y5])
  | 0, TS, fs, m, x3, x4, x5, hST, hf, hz, hfb, hm, h3, h4, h5 => ⟨x3, x4, x5, rfl⟩
  | s + 1, TS, fs, m, x3, x4, x5, hST, hf, hz, hfb, hm, h3, h4, h5 => by
    have nb : b ≠ [] := fun e => by rw [e] at hb; cases hb
    obtain ⟨y4, y5, n4, n5, e1⟩ := lr_step (a := a) (TS := TS) (d := d) (s := s) (m := m) (x4 := x4) (x5 := x5) (by omega) hb hf hz hbb hfb (by omega) h4 h5
    have hb2 : Bl (m + 30 + 1) (fst (lst b) b d s fs) := fst_bd (hbb _ (lst_mem nb)) hbb hfb
    obtain ⟨z3, z4, z5, e2⟩ := lr_loop (a := a) hb hbb s (TS + 1) (fst (lst b) b d s fs) (m + 31) (.val (.int TS)) y4 y5 (by omega) (fst_len ..) (by rw [fst_len]; omega) hb2 (by omega) rfl n4 n5
    refine ⟨z3, z4, z5, ?_⟩
    rw [ints_succ]
    refine (for_nx ?_ e1).trans e2
    generalize iv a = I
    generalize iv b = B
    generalize iv (tp fs) = F
    simp [nameG, setS_zero h3, setS_succ]
theorem law_rest_eval {a b : List Int} {m : Nat} (hb : b ≠ []) (ha : tp a = a) (hl : a.length ≤ 500) (hl2 : b.length ≤ 500) (hbb : Bl 30 b) (hab : Bl m a) (hm : m ≤ 20000) : ∃ o, r_f_law_rest [.val (.list (iv a)), .val (.list (iv b))] = some (.own (iv (tp (frl (lst b) b (b.length - 1) (a.length - (b.length - 1)) a))), o) := by
  have pos : 0 < b.length := List.length_pos_iff.mpr hb
  obtain ⟨d, hd⟩ : ∃ d, b.length = d + 1 := ⟨b.length - 1, by omega⟩
  obtain ⟨n, hn⟩ : ∃ n, a.length - (b.length - 1) = n := ⟨_, rfl⟩
  rw [hn, show b.length - 1 = d by omega]
  obtain ⟨M, hM⟩ : ∃ M : Int, M = il a - il b + 1 := ⟨_, rfl⟩
  have la : il a = (a.length : Int) := rfl
  have lb : il b = (b.length : Int) := rfl
  obtain ⟨y3, y4, y5, e2⟩ : ∃ (y3 y4 y5 : Slot), forLoop (nameG 3) lrB (Ip.intsFrom 0 M.toNat) [.val (.list (iv a)), .val (.list (iv b)), .own (iv a), .un, .un, .un] = some (.nx [.val (.list (iv a)), .val (.list (iv b)), .own (iv (tp (frl (lst b) b d n a))), y3, y4, y5]) := by
    by_cases c : d ≤ a.length
    · rw [show M.toNat = n by omega]
      have h := lr_loop (a := a) hd hbb n 0 a m .un .un .un (by omega) (by omega) (by omega) hab (by omega) rfl rfl rfl
      rw [ha] at h
      exact h
    · rw [show M.toNat = 0 by omega, show n = 0 by omega]
      refine ⟨.un, .un, .un, ?_⟩
      show _ = some (Out.nx [.val (.list (iv a)), .val (.list (iv b)), .own (iv (tp a)), .un, .un, .un])
      rw [ha]
      rfl
  have hf := forB_of (fi := (rng1I (consA (datF (op2 (datL (datF (op2 (datL (datF (op1 (nameL 0) lenD))) (datL (datF (op1 (nameL 1) lenD))) subD))) (datL (constD (.int 1))) addD)) ((fun env => some ([], env)))))) (env := [.val (.list (iv a)), .val (.list (iv b)), .own (iv a), .un, .un, .un]) (by
    have qa := len_iv a
    have qb := len_iv b
    have h := rng1_of (fs := (consA (datF (op2 (datL (datF (op2 (datL (datF (op1 (nameL 0) lenD))) (datL (datF (op1 (nameL 1) lenD))) subD))) (datL (constD (.int 1))) addD)) ((fun env => some ([], env))))) (env := [.val (.list (iv a)), .val (.list (iv b)), .own (iv a), .un, .un, .un]) (env1 := [.val (.list (iv a)), .val (.list (iv b)), .own (iv a), .un, .un, .un]) (n := M) (by
      rw [hM]
      generalize iv a = I at *
      generalize iv b = B at *
      simp [seqB, ifB, asgB, retB, exprB, op1, op2, look, nameL, nameV, datL, datF, valF, constD, boolT, consA, tupF, lstF, setS_zv, setS_zo, setS_zu, setS_succ, Slot.dat, Slot.mut, Slot.put, nilB, callF, notT, andT, orT, andE, orE, ifE, boolS, tgtB, tupG, consG, nilG, nameG, retNm, appB, augB, callX, ioA, consX, argI, argV, argN, argsS, argS, ioIx, putB, popF, setB, qa, qb, sub_ii, add_ii]) (by omega)
    exact h) e2
  generalize tp (frl (lst b) b d n a) = R at *
  refine run_rt (e := [.val (.list (iv a)), .val (.list (iv b)), .own (iv R), y3, y4, y5]) ?_ (by simp)
  generalize iv a = I at *
  generalize iv b = B at *
  generalize iv R = J at *
  show seqB _ (seqB (forB _ (nameG 3) lrB) _) [.val (.list I), .val (.list B), .un, .un, .un, .un] = _
  refine (seq_nx (e1 := [.val (.list I), .val (.list B), .own I, .un, .un, .un]) (by simp [seqB, ifB, asgB, retB, exprB, op1, op2, look, nameL, nameV, datL, datF, valF, constD, boolT, consA, tupF, lstF, setS_zv, setS_zo, setS_zu, setS_succ, Slot.dat, Slot.mut, Slot.put, nilB, callF, notT, andT, orT, andE, orE, ifE, boolS, tgtB, tupG, consG, nilG, nameG, retNm, appB, augB, callX, ioA, consX, argI, argV, argN, argsS, argS, ioIx, putB, popF, setB, listD])).trans ?_
  refine (seq_nx hf).trans ?_
  simp [seqB, ifB, asgB, retB, exprB, op1, op2, look, nameL, nameV, datL, datF, valF, constD, boolT, consA, tupF, lstF, setS_zv, setS_zo, setS_zu, setS_succ, Slot.dat, Slot.mut, Slot.put, nilB, callF, notT, andT, orT, andE, orE, ifE, boolS, tgtB, tupG, consG, nilG, nameG, retNm, appB, augB, callX, ioA, consX, argI, argV, argN, argsS, argS, ioIx, putB, popF, setB]
end Lp

set_option Elab.async false
set_option linter.all false
set_option maxRecDepth 100000
set_option maxHeartbeats 4000000
/-! exact quotients -/
namespace Lp
open PySem L2 Ip Lw
theorem zip_iv : ∀ as bs : List Int, zipL (iv as) (iv bs) = (as.zip bs).map fun p => .tuple [.int p.1, .int p.2]
  | [], _ => by simp [zipL, iv]
  | a :: as, [] => by simp [zipL, iv]
  | a :: as, b :: bs => by
    show PyData.tuple [.int a, .int b] :: zipL (iv as) (iv bs) = _
    rw [zip_iv as bs]
    rfl
theorem cut_drop {cs : List Int} {k : Nat} {K : Int} (hK : K = k) (hk : k ≤ cs.length) : cutD (iv cs) (some K) none = iv (cs.drop k) := by
  have h1 : HT.sIx (iv cs).length 0 (some K) = k := by
    rw [iv_len]
    unfold HT.sIx
    simp only
    rw [if_neg (by omega)]
    omega
  have h2 : HT.sIx (iv cs).length (iv cs).length none = cs.length := iv_len cs
  unfold cutD
  rw [h1, h2, List.take_of_length_le (by rw [List.length_drop, iv_len]; omega)]
  exact (List.map_drop ..).symm
def est (f : Int) (b : List Int) (d j : Nat) (rs : List Int) : List Int := (List.range (j + d)).map fun i => rs.getD i 0 - (if j ≤ i then f * b.getD (i - j) 0 else 0)
theorem est_len (f : Int) (b : List Int) (d j : Nat) (rs : List Int) : (est f b d j rs).length = j + d := by unfold est; rw [List.length_map, List.length_range]
theorem est_get {f : Int} {b : List Int} {d j : Nat} {rs : List Int} {i : Nat} (hi : i < j + d) : (est f b d j rs).getD i 0 = rs.getD i 0 - (if j ≤ i then f * b.getD (i - j) 0 else 0) := by
  unfold est
  rw [List.getD_eq_getElem?_getD, List.getElem?_map, List.getElem?_range hi]
  rfl
theorem est_zero {b : List Int} {d j : Nat} {rs : List Int} (hl : rs.length = j + 1 + d) : rs.dropLast = est 0 b d j rs := by
  refine list_ext (by rw [List.length_dropLast, est_len]; omega) fun i => ?_
  by_cases hi : i < j + d
  · rw [est_get hi, Int.zero_mul, ite_self, Int.sub_zero]
    simp [List.getD, List.getElem?_dropLast, show i < rs.length - 1 by omega, show i < rs.length by omega]
  · rw [getD_hi (a := rs.dropLast) (by rw [List.length_dropLast]; omega), getD_hi (a := est 0 b d j rs) (by rw [est_len]; omega)]
theorem est_is {f : Int} {b : List Int} {d j : Nat} {rs : List Int} (hl : rs.length = j + 1 + d) (hb : b.length = d + 1) : rs.dropLast.take j ++ ((rs.dropLast.drop j).zip b).map (fun p => p.1 - f * p.2) = est f b d j rs := by
  refine list_ext (by rw [List.length_append, List.length_map, List.length_zip, List.length_take, List.length_drop, List.length_dropLast, est_len]; omega) fun i => ?_
  by_cases hi : i < j + d
  · rw [est_get hi]
    have hi2 : i < rs.length - 1 := by omega
    have e0 : rs.getD i 0 = rs[i] := by simp [List.getD, show i < rs.length by omega]
    rw [e0]
    by_cases c : j ≤ i
    · rw [if_pos c, List.getD_eq_getElem?_getD, List.getElem?_append_right (by rw [List.length_take, List.length_dropLast]; omega), List.length_take, List.length_dropLast, show min j (rs.length - 1) = j by omega]
      have hb2 : i - j < b.length := by omega
      have e1 : (rs.dropLast.drop j)[i - j]? = some rs[i] := by
        rw [List.getElem?_drop, show j + (i - j) = i by omega, List.getElem?_dropLast, if_pos hi2, List.getElem?_eq_getElem (by omega)]
      have e2 : b[i - j]? = some b[i - j] := List.getElem?_eq_getElem hb2
      have e3 : ((rs.dropLast.drop j).zip b)[i - j]? = some (rs[i], b[i - j]) := by
        rw [List.getElem?_zip_eq_some]
        exact ⟨e1, e2⟩
      rw [List.getElem?_map, e3]
      simp [List.getD, hb2]
    · rw [if_neg c, Int.sub_zero, List.getD_eq_getElem?_getD, List.getElem?_append_left (by rw [List.length_take, List.length_dropLast]; omega), List.getElem?_take_of_lt (by omega), List.getElem?_dropLast, if_pos hi2, List.getElem?_eq_getElem (by omega)]
      rfl
  · rw [getD_hi (a := est f b d j rs) (by rw [est_len]; omega), getD_hi (by rw [List.length_append, List.length_map, List.length_zip, List.length_take, List.length_drop, List.length_dropLast]; omega)]
/-! the comprehension -/
def eqG : PyData → MEnv → Option MEnv := (tupG 2 (consG (nameG 9) (consG (nameG 10) (nilG))))
def eqE : MEnv → Option (PyData × MEnv) := (datF (op2 (nameL 9) (datL (datF (op2 (nameL 6) (nameL 10) mulD))) subD))
def eqC : MEnv → Option (Slot × MEnv) := (compF (zipI (consA (datF (slF (nameL 4) (intO (nameL 8)) ((fun env => some (none, env))))) (consA (nameV 1) ((fun env => some ([], env)))))) eqG (yesT) eqE [9, 10])
theorem eq_cstep {a0 a1 a2 a3 a4 a5 a7 a8 : Slot} {f c e : Int} {ds acc : List PyData} (hm : mulOk f e = true) : compLoop eqG yesT eqE [9, 10] (.tuple [.int c, .int e] :: ds) acc [a0, a1, a2, a3, a4, a5, .val (.int f), a7, a8, .un, .un] = compLoop eqG yesT eqE [9, 10] ds (acc ++ [.int (c - f * e)]) [a0, a1, a2, a3, a4, a5, .val (.int f), a7, a8, .un, .un] := by
  conv => lhs; unfold compLoop
  have h1 : eqG (.tuple [.int c, .int e]) [a0, a1, a2, a3, a4, a5, .val (.int f), a7, a8, .un, .un] = some [a0, a1, a2, a3, a4, a5, .val (.int f), a7, a8, .val (.int c), .val (.int e)] := rfl
  have h2 : eqE [a0, a1, a2, a3, a4, a5, .val (.int f), a7, a8, .val (.int c), .val (.int e)] = some (.int (c - f * e), [a0, a1, a2, a3, a4, a5, .val (.int f), a7, a8, .val (.int c), .val (.int e)]) := by
    simp [eqE, seqB, ifB, asgB, retB, exprB, op1, op2, look, nameL, nameV, datL, datF, valF, constD, boolT, consA, tupF, lstF, setS_zv, setS_zo, setS_zu, setS_succ, Slot.dat, Slot.mut, Slot.put, nilB, callF, notT, andT, orT, andE, orE, ifE, boolS, tgtB, tupG, consG, nilG, nameG, retNm, appB, augB, callX, ioA, consX, argI, argV, argN, argsS, argS, ioIx, putB, popF, setB, mul_ii hm, sub_ii]
  rw [h1]
  simp only [yesT, h2]
  rfl
theorem eq_cloop {a0 a1 a2 a3 a4 a5 a7 a8 : Slot} {f : Int} : ∀ (ps : List (Int × Int)) (acc : List PyData), (∀ p ∈ ps, mulOk f p.2 = true) → compLoop eqG yesT eqE [9, 10] (ps.map fun p => .tuple [.int p.1, .int p.2]) acc [a0, a1, a2, a3, a4, a5, .val (.int f), a7, a8, .un, .un] = some (acc ++ iv (ps.map fun p => p.1 - f * p.2), [a0, a1, a2, a3, a4, a5, .val (.int f), a7, a8, .un, .un])
  | [], acc, _ => by simp [compLoop, iv]
  | (c, e) :: ps, acc, hm => by
    have h := eq_cstep (a0 := a0) (a1 := a1) (a2 := a2) (a3 := a3) (a4 := a4) (a5 := a5) (a7 := a7) (a8 := a8) (f := f) (c := c) (e := e) (ds := ps.map fun p => .tuple [.int p.1, .int p.2]) (acc := acc) (hm (c, e) List.mem_cons_self)
    show compLoop eqG yesT eqE [9, 10] (.tuple [.int c, .int e] :: ps.map fun p => .tuple [.int p.1, .int p.2]) acc _ = _
    rw [h, eq_cloop ps _ fun p hp => hm p (List.mem_cons_of_mem _ hp)]
    simp [iv]
theorem eqC_eval {a0 a2 a3 a5 a7 : Slot} {rs b : List Int} {f J : Int} {j : Nat} (hJ : J = j) (hj : j ≤ rs.length) (hz : rs.length ≤ 100000) (hm : ∀ y ∈ b, mulOk f y = true) :
    eqC [a0, .val (.list (iv b)), a2, a3, .own (iv rs), a5, .val (.int f), a7, .val (.int J), .un, .un] = some (.own (iv (((rs.drop j).zip b).map fun p => p.1 - f * p.2)), [a0, .val (.list (iv b)), a2, a3, .own (iv rs), a5, .val (.int f), a7, .val (.int J), .un, .un]) := by
  have hc := cut_drop (cs := rs) hJ hj
  have hi : zipI (consA (datF (slF (nameL 4) (intO (nameL 8)) ((fun env => some (none, env))))) (consA (nameV 1) ((fun env => some ([], env))))) [a0, .val (.list (iv b)), a2, a3, .own (iv rs), a5, .val (.int f), a7, .val (.int J), .un, .un] = some (((rs.drop j).zip b).map (fun p => .tuple [.int p.1, .int p.2]), [a0, .val (.list (iv b)), a2, a3, .own (iv rs), a5, .val (.int f), a7, .val (.int J), .un, .un]) := by
    rw [← zip_iv]
    generalize iv (rs.drop j) = T at *
    generalize iv rs = R at *
    generalize iv b = B at *
    simp [zipI, seqB, ifB, asgB, retB, exprB, op1, op2, look, nameL, nameV, datL, datF, valF, constD, boolT, consA, tupF, lstF, setS_zv, setS_zo, setS_zu, setS_succ, Slot.dat, Slot.mut, Slot.put, nilB, callF, notT, andT, orT, andE, orE, ifE, boolS, tgtB, tupG, consG, nilG, nameG, retNm, appB, augB, callX, ioA, consX, argI, argV, argN, argsS, argS, ioIx, putB, popF, setB, slF, intO, hc]
  exact comp_gen (ewi := [a0, .val (.list (iv b)), a2, a3, .own (iv rs), a5, .val (.int f), a7, .val (.int J), .un, .un]) (ew := [a0, .val (.list (iv b)), a2, a3, .own (iv rs), a5, .val (.int f), a7, .val (.int J), .un, .un]) hi rfl (by rw [List.length_map, List.length_zip, List.length_drop]; omega) rfl (by
    rw [eq_cloop _ [] fun p hp => hm _ (List.of_mem_zip hp).2]
    rfl) rfl
/-! a turn -/
def eqT : MEnv → Option (Bool × MEnv) := (boolT (op2 (datL (datF (op1 (nameL 4) lenD))) (nameL 3) gtD))
def eqB : MEnv → Option Out := (seqB (tgtB (datF (op2 (datL (datF (popF 4))) (nameL 2) divmodD)) (tupG 2 (consG (nameG 6) (consG (nameG 7) (nilG))))) (seqB (ifB (boolT (op2 (nameL 7) (datL (constD (.int 0))) neD)) (seqB (retB (valF (constD .none))) (nilB)) (nilB)) (seqB (appB 5 (nameV 6)) (seqB (ifB (boolT (op2 (nameL 6) (datL (constD (.int 0))) neD)) (seqB (asgB 8 (op2 (datL (datF (op1 (nameL 4) lenD))) (nameL 3) subD)) (seqB (setSlB 4 eqC (nameL 8)) (nilB))) (nilB)) (nilB)))))
theorem eq_turn {a0 x6 x7 x8 : Slot} {rs b cs : List Int} {f L D : Int} {d j : Nat} (hD : D = d) (hb : b.length = d + 1) (hl : rs.length = j + 1 + d) (hz : rs.length ≤ 1000) (hc : cs.length ≤ 1000) (hL : 0 < L) (hok : divOk L = true) (htop : rs.getD (j + d) 0 = f * L) (hm : ∀ y ∈ b, mulOk f y = true) (h6 : nio x6 = true) (h7 : nio x7 = true) (h8 : nio x8 = true) :
    ∃ y8, nio y8 = true ∧ eqB [a0, .val (.list (iv b)), .val (.int L), .val (.int D), .own (iv rs), .own (iv cs), x6, x7, x8, .un, .un] = some (.nx [a0, .val (.list (iv b)), .val (.int L), .val (.int D), .own (iv (est f b d j rs)), .own (iv (cs ++ [f])), .val (.int f), .val (.int 0), y8, .un, .un]) := by
  have hk : j + d < rs.length := by omega
  have hp : (iv rs)[(iv rs).length - 1]? = some (.int (f * L)) := by
    rw [iv_len, show rs.length - 1 = j + d by omega]
    unfold iv
    rw [List.getElem?_map, List.getElem?_eq_getElem hk]
    have : rs.getD (j + d) 0 = rs[j + d] := by simp [List.getD, hk]
    rw [← this, htop]
    rfl
  have hdl : (iv rs).dropLast = iv rs.dropLast := by
    unfold iv
    exact (List.map_dropLast ..).symm
  have hdm : divmodD (.int (f * L)) (.int L) = some (.val (.tuple [.int f, .int 0])) := by
    unfold divmodD
    simp only
    rw [if_pos (by simp [hL, hok]), Int.mul_fdiv_cancel f (by omega), Int.mul_fmod_left]
  have s1 : ∀ (R B C : List PyData) (T : Int), R[R.length - 1]? = some (.int T) → divmodD (.int T) (.int L) = some (.val (.tuple [.int f, .int 0])) → (tgtB (datF (op2 (datL (datF (popF 4))) (nameL 2) divmodD)) (tupG 2 (consG (nameG 6) (consG (nameG 7) (nilG))))) [a0, .val (.list B), .val (.int L), .val (.int D), .own R, .own C, x6, x7, x8, .un, .un] = some (.nx [a0, .val (.list B), .val (.int L), .val (.int D), .own R.dropLast, .own C, .val (.int f), .val (.int 0), x8, .un, .un]) := by
    intro R B C T h1 h2
    simp [seqB, ifB, asgB, retB, exprB, op1, op2, look, nameL, nameV, datL, datF, valF, constD, boolT, consA, tupF, lstF, setS_zv, setS_zo, setS_zu, setS_succ, Slot.dat, Slot.mut, Slot.put, nilB, callF, notT, andT, orT, andE, orE, ifE, boolS, tgtB, tupG, consG, nilG, nameG, retNm, appB, augB, callX, ioA, consX, argI, argV, argN, argsS, argS, ioIx, putB, popF, setB, h1, h2, setS_zero h6, setS_zero h7]
  have s2 : ∀ (R B C : List PyData), (ifB (boolT (op2 (nameL 7) (datL (constD (.int 0))) neD)) (seqB (retB (valF (constD .none))) (nilB)) (nilB)) [a0, .val (.list B), .val (.int L), .val (.int D), .own R, .own C, .val (.int f), .val (.int 0), x8, .un, .un] = some (.nx [a0, .val (.list B), .val (.int L), .val (.int D), .own R, .own C, .val (.int f), .val (.int 0), x8, .un, .un]) := by
    intro R B C
    simp [seqB, ifB, asgB, retB, exprB, op1, op2, look, nameL, nameV, datL, datF, valF, constD, boolT, consA, tupF, lstF, setS_zv, setS_zo, setS_zu, setS_succ, Slot.dat, Slot.mut, Slot.put, nilB, callF, notT, andT, orT, andE, orE, ifE, boolS, tgtB, tupG, consG, nilG, nameG, retNm, appB, augB, callX, ioA, consX, argI, argV, argN, argsS, argS, ioIx, putB, popF, setB, ne_ii]
  have s3 : ∀ (R B C : List PyData), C.length < 100000 → (appB 5 (nameV 6)) [a0, .val (.list B), .val (.int L), .val (.int D), .own R, .own C, .val (.int f), .val (.int 0), x8, .un, .un] = some (.nx [a0, .val (.list B), .val (.int L), .val (.int D), .own R, .own (C ++ [.int f]), .val (.int f), .val (.int 0), x8, .un, .un]) := by
    intro R B C h
    simp [seqB, ifB, asgB, retB, exprB, op1, op2, look, nameL, nameV, datL, datF, valF, constD, boolT, consA, tupF, lstF, setS_zv, setS_zo, setS_zu, setS_succ, Slot.dat, Slot.mut, Slot.put, nilB, callF, notT, andT, orT, andE, orE, ifE, boolS, tgtB, tupG, consG, nilG, nameG, retNm, appB, augB, callX, ioA, consX, argI, argV, argN, argsS, argS, ioIx, putB, popF, setB, h]
  have e1 := s1 _ (iv b) (iv cs) _ hp hdm
  rw [hdl] at e1
  have e3 := s3 (iv rs.dropLast) (iv b) (iv cs) (by rw [iv_len]; omega)
  rw [iv_snoc] at e3
  by_cases c : f = 0
  · refine ⟨x8, h8, ?_⟩
    refine (seq_nx e1).trans ((seq_nx (s2 _ _ _)).trans ((seq_nx e3).trans ?_))
    have e := est_zero (b := b) (d := d) hl
    rw [c, ← e]
    have s4 : ∀ (R B C : List PyData), (seqB (ifB (boolT (op2 (nameL 6) (datL (constD (.int 0))) neD)) (seqB (asgB 8 (op2 (datL (datF (op1 (nameL 4) lenD))) (nameL 3) subD)) (seqB (setSlB 4 eqC (nameL 8)) (nilB))) (nilB)) (nilB)) [a0, .val (.list B), .val (.int L), .val (.int D), .own R, .own C, .val (.int 0), .val (.int 0), x8, .un, .un] = some (.nx [a0, .val (.list B), .val (.int L), .val (.int D), .own R, .own C, .val (.int 0), .val (.int 0), x8, .un, .un]) := by
      intro R B C
      simp [seqB, ifB, asgB, retB, exprB, op1, op2, look, nameL, nameV, datL, datF, valF, constD, boolT, consA, tupF, lstF, setS_zv, setS_zo, setS_zu, setS_succ, Slot.dat, Slot.mut, Slot.put, nilB, callF, notT, andT, orT, andE, orE, ifE, boolS, tgtB, tupG, consG, nilG, nameG, retNm, appB, augB, callX, ioA, consX, argI, argV, argN, argsS, argS, ioIx, putB, popF, setB, ne_ii]
    exact s4 _ _ _
  · obtain ⟨J, hJ⟩ : ∃ J : Int, J = (j : Int) := ⟨_, rfl⟩
    refine ⟨.val (.int J), rfl, ?_⟩
    refine (seq_nx e1).trans ((seq_nx (s2 _ _ _)).trans ((seq_nx e3).trans ?_))
    have ld : rs.dropLast.length = j + d := by rw [List.length_dropLast]; omega
    have e4 := eqC_eval (a0 := a0) (a2 := .val (.int L)) (a3 := .val (.int D)) (a5 := .own (iv (cs ++ [f]))) (a7 := .val (.int 0)) (rs := rs.dropLast) (b := b) (f := f) (J := J) (j := j) hJ (by omega) (by omega) hm
    have e5 := est_is (f := f) hl hb
    have lz : (((rs.dropLast.drop j).zip b).map fun p => p.1 - f * p.2).length ≤ 1000 := by rw [List.length_map, List.length_zip, List.length_drop]; omega
    have hq := len_iv rs.dropLast
    have hJ2 : il rs.dropLast - D = J := by show (rs.dropLast.length : Int) - D = J; omega
    have etk : (iv rs.dropLast).take J.toNat ++ iv (((rs.dropLast.drop j).zip b).map fun p => p.1 - f * p.2) = iv (est f b d j rs) := by
      rw [← e5, show J.toNat = j by omega, ← iv_app]
      unfold iv
      rw [List.map_take]
    have cnd : 0 ≤ J ∧ J ≤ ((iv rs.dropLast).length : Int) ∧ (iv rs.dropLast).length + (iv (((rs.dropLast.drop j).zip b).map fun p => p.1 - f * p.2)).length ≤ 100000 := by
      rw [iv_len, iv_len]; omega
    have s4 : ∀ (R B C Y E : List PyData) (N : Int), lenD (.list R) = some (.val (.int N)) → N - D = J → eqC [a0, .val (.list B), .val (.int L), .val (.int D), .own R, .own C, .val (.int f), .val (.int 0), .val (.int J), .un, .un] = some (.own Y, [a0, .val (.list B), .val (.int L), .val (.int D), .own R, .own C, .val (.int f), .val (.int 0), .val (.int J), .un, .un]) → (0 ≤ J ∧ J ≤ (R.length : Int) ∧ R.length + Y.length ≤ 100000) → R.take J.toNat ++ Y = E →
        (seqB (ifB (boolT (op2 (nameL 6) (datL (constD (.int 0))) neD)) (seqB (asgB 8 (op2 (datL (datF (op1 (nameL 4) lenD))) (nameL 3) subD)) (seqB (setSlB 4 eqC (nameL 8)) (nilB))) (nilB)) (nilB)) [a0, .val (.list B), .val (.int L), .val (.int D), .own R, .own C, .val (.int f), .val (.int 0), x8, .un, .un] = some (.nx [a0, .val (.list B), .val (.int L), .val (.int D), .own E, .own C, .val (.int f), .val (.int 0), .val (.int J), .un, .un]) := by
      intro R B C Y E N h1 h2 h3 h4 h5
      simp [seqB, ifB, asgB, retB, exprB, op1, op2, look, nameL, nameV, datL, datF, valF, constD, boolT, consA, tupF, lstF, setS_zv, setS_zo, setS_zu, setS_succ, Slot.dat, Slot.mut, Slot.put, nilB, callF, notT, andT, orT, andE, orE, ifE, boolS, tgtB, tupG, consG, nilG, nameG, retNm, appB, augB, callX, ioA, consX, argI, argV, argN, argsS, argS, ioIx, putB, popF, setB, ne_ii, c, h1, sub_ii, h2, setS_zero h8, setSlB, h3, h4, h5]
    exact s4 _ _ _ _ _ _ hq hJ2 e4 cnd etk
theorem eqT_eval {a0 a1 a2 x5 x6 x7 x8 : Slot} {rs : List Int} {D : Int} : eqT [a0, a1, a2, .val (.int D), .own (iv rs), x5, x6, x7, x8, .un, .un] = some (decide (D < il rs), [a0, a1, a2, .val (.int D), .own (iv rs), x5, x6, x7, x8, .un, .un]) := by
  have hq := len_iv rs
  generalize iv rs = R at *
  simp [eqT, seqB, ifB, asgB, retB, exprB, op1, op2, look, nameL, nameV, datL, datF, valF, constD, boolT, consA, tupF, lstF, setS_zv, setS_zo, setS_zu, setS_succ, Slot.dat, Slot.mut, Slot.put, nilB, callF, notT, andT, orT, andE, orE, ifE, boolS, tgtB, tupG, consG, nilG, nameG, retNm, appB, augB, callX, ioA, consX, argI, argV, argN, argsS, argS, ioIx, putB, popF, setB, hq, gt_ii]
theorem take_succ_getD {Q : List Int} {j : Nat} (hj : j < Q.length) : Q.take (j + 1) = Q.take j ++ [Q.getD j 0] := by
  rw [List.take_succ_eq_append_getElem hj]
  simp [List.getD, hj]
theorem eq_loop {a0 : Slot} {b Q : List Int} {L D : Int} {d : Nat} (hD : D = d) (hb : b.length = d + 1) (hbL : b.getD d 0 = L) (hL : 0 < L) (hok : divOk L = true) (hm : ∀ f, ∀ y ∈ b, mulOk f y = true) : ∀ (j n : Nat) (rs cs : List Int) (x6 x7 x8 : Slot), j ≤ Q.length → j < n → rs.length = j + d → (∀ k, rs.getD k 0 = pc (Q.take j) (cf b) k) → rs.length ≤ 1000 → cs.length + j ≤ 1000 → nio x6 = true → nio x7 = true → nio x8 = true →
    ∃ (z : List Int) (y6 y7 y8 : Slot), (∀ x ∈ z, x = 0) ∧ whileLoop eqT eqB n [a0, .val (.list (iv b)), .val (.int L), .val (.int D), .own (iv rs), .own (iv cs), x6, x7, x8, .un, .un] = some (.nx [a0, .val (.list (iv b)), .val (.int L), .val (.int D), .own (iv z), .own (iv (cs ++ (Q.take j).reverse)), y6, y7, y8, .un, .un])
  | 0, n, rs, cs, x6, x7, x8, hj, hn, hl, hr, hz, hc, h6, h7, h8 => by
    obtain ⟨n, rfl⟩ : ∃ m, n = m + 1 := ⟨n - 1, by omega⟩
    refine ⟨rs, x6, x7, x8, fun x hx => ?_, ?_⟩
    · obtain ⟨i, hi, rfl⟩ := List.mem_iff_getElem.mp hx
      have h := hr i
      rw [show rs.getD i 0 = rs[i] by simp [List.getD, hi]] at h
      rw [h]
      rfl
    · rw [List.take_zero, List.reverse_nil, List.append_nil]
      have hf : ¬ D < il rs := by show ¬ D < (rs.length : Int); omega
      refine while_f (eqT_eval.trans ?_)
      rw [decide_eq_false hf]
  | j + 1, n, rs, cs, x6, x7, x8, hj, hn, hl, hr, hz, hc, h6, h7, h8 => by
    obtain ⟨n, rfl⟩ : ∃ m, n = m + 1 := ⟨n - 1, by omega⟩
    have hts := take_succ_getD (Q := Q) (j := j) (by omega)
    have ltk : (Q.take j).length = j := by rw [List.length_take]; omega
    have hk : ∀ k, rs.getD k 0 = pc (Q.take j) (cf b) k + (if j ≤ k then Q.getD j 0 * b.getD (k - j) 0 else 0) := fun k => by
      rw [hr k, hts, pc_app, ltk]
      rfl
    have htop : rs.getD (j + d) 0 = Q.getD j 0 * L := by
      rw [hk, if_pos (by omega), show j + d - j = d by omega, hbL, pc_hi (x := Q.take j) (g := cf b) (fun l h1 h2 => getD_hi (a := b) (by omega)), Int.zero_add]
    obtain ⟨y8, n8, e1⟩ := eq_turn (a0 := a0) (x6 := x6) (x7 := x7) (x8 := x8) (rs := rs) (b := b) (cs := cs) (f := Q.getD j 0) (L := L) (D := D) (d := d) (j := j) hD hb (by omega) hz (by omega) hL hok htop (hm _) h6 h7 h8
    obtain ⟨z, z6, z7, z8, hzz, e2⟩ := eq_loop (a0 := a0) (Q := Q) hD hb hbL hL hok hm j n (est (Q.getD j 0) b d j rs) (cs ++ [Q.getD j 0]) (.val (.int (Q.getD j 0))) (.val (.int 0)) y8 (by omega) (by omega) (est_len ..) (fun k => by
      by_cases c : k < j + d
      · rw [est_get c, hk]; omega
      · rw [getD_hi (a := est (Q.getD j 0) b d j rs) (by rw [est_len]; omega)]
        exact (pc_hi (x := Q.take j) (g := cf b) fun l h1 h2 => show b.getD (k - l) 0 = 0 from getD_hi (by omega)).symm) (by rw [est_len]; omega) (by rw [List.length_append, List.length_singleton]; omega) rfl rfl n8
    refine ⟨z, z6, z7, z8, hzz, ?_⟩
    have ht : D < il rs := by show D < (rs.length : Int); omega
    rw [while_t (eqT_eval.trans (by rw [decide_eq_true ht])) e1, e2, hts, List.reverse_append, List.append_assoc]
    rfl
theorem intsOf_iv : ∀ ns : List Int, intsOf (iv ns) = some ns
  | [] => rfl
  | n :: ns => by
    show (intsOf (iv ns)).map (n :: ·) = _
    rw [intsOf_iv ns]
    rfl
theorem any_zero : ∀ {z : List Int}, (∀ x ∈ z, x = 0) → z.any (fun n => n != 0) = false
  | [], _ => rfl
  | y :: z, h => by
    rw [List.any_cons, any_zero fun x hx => h x (List.mem_cons_of_mem _ hx), h y List.mem_cons_self]
    rfl
/-- the quotient of a by b, if a = b * Q -/
theorem exact_eval {m : Nat} {a b Q : List Int} (hb : b ≠ []) (hbb : Bl 60 b) (hpos : 0 < lst b) (hl : a.length + 1 = b.length + Q.length) (hl2 : a.length ≤ 1000) (hq : Q.length ≤ 1000) (he : ∀ k, a.getD k 0 = pc Q (cf b) k) : ∃ o, r_exact_quotient [.val (.list (iv a)), .val (.list (iv b))] = some (.own (iv Q), o) := by
  have pos : 0 < b.length := List.length_pos_iff.mpr hb
  obtain ⟨d, hd⟩ : ∃ d, b.length = d + 1 := ⟨b.length - 1, by omega⟩
  obtain ⟨D, hD⟩ : ∃ D : Int, D = d := ⟨_, rfl⟩
  have lb : il b = (b.length : Int) := rfl
  have hLb := hbb _ (lst_mem hb)
  have hok : divOk (lst b) = true := divOk_pow (m := 60) (by omega) hLb (by decide)
  obtain ⟨z, y6, y7, y8, hz, e2⟩ := eq_loop (a0 := .val (.list (iv a))) (b := b) (Q := Q) (L := lst b) hD hd (by unfold lst; rw [hd, Nat.add_sub_cancel]) hpos hok (fun f y hy => mulOk_r (up_pow (hbb y hy) (by decide))) Q.length fuel a [] .un .un .un (Nat.le_refl _) (Nat.lt_of_le_of_lt hq (by decide)) (by omega) (fun k => by rw [List.take_length]; exact he k) hl2 (by simp; omega) rfl rfl rfl
  rw [List.take_length, List.nil_append] at e2
  have hx := ix_lst hb
  have qb := len_iv b
  have hD2 : il b - 1 = D := by omega
  have ha : anyID (.list (iv z)) = some (.val (.bool false)) := by
    show (intsOf (iv z)).map _ = _
    rw [intsOf_iv]
    show some (Slot.val (.bool (z.any fun n => n != 0))) = _
    rw [any_zero hz]
  have hrv : (iv Q.reverse).reverse = iv Q := by
    unfold iv
    rw [← List.map_reverse, List.reverse_reverse]
  refine run_rt (e := [.val (.list (iv a)), .val (.list (iv b)), .val (.int (lst b)), .val (.int D), .own (iv z), .own (iv Q.reverse), y6, y7, y8, .un, .un]) ?_ (by simp)
  show seqB _ (seqB _ (seqB _ (seqB _ (seqB (whileLoop eqT eqB fuel) _)))) [.val (.list (iv a)), .val (.list (iv b)), .un, .un, .un, .un, .un, .un, .un, .un, .un] = _
  have i0 : iv [] = [] := rfl
  rw [i0] at e2
  generalize iv a = I at *
  generalize iv b = B at *
  generalize iv z = Z at *
  generalize iv Q.reverse = R at *
  generalize iv Q = J at *
  generalize lst b = L at *
  refine (seq_nx (e1 := [.val (.list I), .val (.list B), .val (.int L), .un, .un, .un, .un, .un, .un, .un, .un]) (by simp [seqB, ifB, asgB, retB, exprB, op1, op2, look, nameL, nameV, datL, datF, valF, constD, boolT, consA, tupF, lstF, setS_zv, setS_zo, setS_zu, setS_succ, Slot.dat, Slot.mut, Slot.put, nilB, callF, notT, andT, orT, andE, orE, ifE, boolS, tgtB, tupG, consG, nilG, nameG, retNm, appB, augB, callX, ioA, consX, argI, argV, argN, argsS, argS, ioIx, putB, popF, setB, neg_i, hx])).trans ?_
  refine (seq_nx (e1 := [.val (.list I), .val (.list B), .val (.int L), .val (.int D), .un, .un, .un, .un, .un, .un, .un]) (by simp [seqB, ifB, asgB, retB, exprB, op1, op2, look, nameL, nameV, datL, datF, valF, constD, boolT, consA, tupF, lstF, setS_zv, setS_zo, setS_zu, setS_succ, Slot.dat, Slot.mut, Slot.put, nilB, callF, notT, andT, orT, andE, orE, ifE, boolS, tgtB, tupG, consG, nilG, nameG, retNm, appB, augB, callX, ioA, consX, argI, argV, argN, argsS, argS, ioIx, putB, popF, setB, qb, sub_ii, hD2])).trans ?_
  refine (seq_nx (e1 := [.val (.list I), .val (.list B), .val (.int L), .val (.int D), .own I, .un, .un, .un, .un, .un, .un]) (by simp [seqB, ifB, asgB, retB, exprB, op1, op2, look, nameL, nameV, datL, datF, valF, constD, boolT, consA, tupF, lstF, setS_zv, setS_zo, setS_zu, setS_succ, Slot.dat, Slot.mut, Slot.put, nilB, callF, notT, andT, orT, andE, orE, ifE, boolS, tgtB, tupG, consG, nilG, nameG, retNm, appB, augB, callX, ioA, consX, argI, argV, argN, argsS, argS, ioIx, putB, popF, setB, listD])).trans ?_
  refine (seq_nx (e1 := [.val (.list I), .val (.list B), .val (.int L), .val (.int D), .own I, .own [], .un, .un, .un, .un, .un]) (by simp [seqB, ifB, asgB, retB, exprB, op1, op2, look, nameL, nameV, datL, datF, valF, constD, boolT, consA, tupF, lstF, setS_zv, setS_zo, setS_zu, setS_succ, Slot.dat, Slot.mut, Slot.put, nilB, callF, notT, andT, orT, andE, orE, ifE, boolS, tgtB, tupG, consG, nilG, nameG, retNm, appB, augB, callX, ioA, consX, argI, argV, argN, argsS, argS, ioIx, putB, popF, setB])).trans ?_
  refine (seq_nx e2).trans ?_
  simp [seqB, ifB, asgB, retB, exprB, op1, op2, look, nameL, nameV, datL, datF, valF, constD, boolT, consA, tupF, lstF, setS_zv, setS_zo, setS_zu, setS_succ, Slot.dat, Slot.mut, Slot.put, nilB, callF, notT, andT, orT, andE, orE, ifE, boolS, tgtB, tupG, consG, nilG, nameG, retNm, appB, augB, callX, ioA, consX, argI, argV, argN, argsS, argS, ioIx, putB, popF, setB, ha, revD, hrv]
end Lp

set_option Elab.async false
set_option linter.all false
set_option maxRecDepth 100000
set_option maxHeartbeats 4000000
/-! what divides what -/
namespace Lp
open PySem L2 Ip Lw
theorem tp_zero {r : List Int} (h : ∀ k, r.getD k 0 = 0) : tp r = [] := (tp_nil_iff r).mpr h
theorem zero_tp {r : List Int} (h : tp r = []) (k : Nat) : r.getD k 0 = 0 := (tp_nil_iff r).mp h k
theorem frl_len2 {L : Int} {b a : List Int} {d : Nat} (h : d ≤ a.length) : (frl L b d (a.length - d) a).length = d := frl_len _ _ _ _ _ (by omega)
theorem lst_d {b : List Int} {d : Nat} (hb : b.length = d + 1) : b.getD d 0 = lst b := by unfold lst; rw [hb, Nat.add_sub_cancel]
/-- the false rest of a multiple is 0 -/
theorem rest_of_multiple {b c : List Int} {d : Nat} (hb : b.length = d + 1) (ht : tp b = b) : tp (frl (lst b) b d ((mp b c).length - d) (mp b c)) = [] := by
  have nb : b ≠ [] := fun e => by rw [e] at hb; cases hb
  by_cases hc : c = []
  · subst hc
    rw [mp_nil (.inr rfl)]
    show tp (frl (lst b) b d (0 - d) []) = []
    rw [Nat.zero_sub]
    rfl
  have lm := mp_len nb hc
  have pc0 : 0 < c.length := List.length_pos_iff.mpr hc
  obtain ⟨n, hn⟩ : ∃ n, n = (mp b c).length - d := ⟨_, rfl⟩
  rw [← hn]
  obtain ⟨q, hq, e⟩ := frl_id hb (lst_d hb) n (mp b c) (by omega)
  have lR := frl_len (lst b) b d n (mp b c) (by omega)
  generalize frl (lst b) b d n (mp b c) = R at *
  obtain ⟨E, hE⟩ : ∃ E : List Int, E = (List.range (c.length + q.length)).map fun i => lst b ^ n * c.getD i 0 + -1 * q.getD i 0 := ⟨_, rfl⟩
  have cE : ∀ i, cf E i = lst b ^ n * cf c i + -1 * cf q i := fun i => by
    rw [hE]
    by_cases h : i < c.length + q.length
    · unfold cf
      rw [List.getD_eq_getElem?_getD, List.getElem?_map, List.getElem?_range h]
      rfl
    · unfold cf
      rw [getD_hi (a := c) (by omega), getD_hi (a := q) (by omega), getD_hi (by rw [List.length_map, List.length_range]; omega)]
      simp
  have hR : ∀ k, pc b (cf E) k = R.getD k 0 := fun k => by
    have h1 := e k
    rw [mp_cf, pc_comm q b k] at h1
    rw [pc_congr cE, pc_add, pc_smul, pc_smul]
    omega
  have z := no_small (g := cf b) (d := d) (by show b.getD d 0 ≠ 0; rw [lst_d hb]; exact lst_ne ht nb) (fun i hi => getD_hi (a := b) (by omega)) E.length E rfl fun k hk => by
    rw [pc_comm, hR]
    exact getD_hi (by omega)
  refine tp_zero fun k => ?_
  rw [← hR]
  refine pc_zero _ (fun i => ?_) b k
  by_cases hi : i < E.length
  · show E.getD i 0 = 0
    rw [show E.getD i 0 = E[i] by simp [List.getD, hi]]
    exact z _ (List.getElem_mem hi)
  · exact getD_hi (by omega)
/-- where the false rest is 0, the plain forms divide each other -/
theorem quotient_of {a b : List Int} {d : Nat} (hb : b.length = d + 1) (ha : tp a = a) (ht : tp b = b) (na : a ≠ []) (h0 : tp (frl (lst b) b d (a.length - d) a) = []) :
    ∃ Q : List Int, d < a.length ∧ Q.length = a.length - d ∧ ∀ k, (pls a).getD k 0 = pc Q (cf (pls b)) k := by
  have nb : b ≠ [] := fun e => by rw [e] at hb; cases hb
  have hd : d < a.length := by
    by_cases c : d < a.length
    · exact c
    · rw [show a.length - d = 0 by omega] at h0
      have h0 : tp a = [] := h0
      rw [ha] at h0
      exact absurd h0 na
  obtain ⟨q, hq, e⟩ := frl_id hb (lst_d hb) (a.length - d) a (by omega)
  obtain ⟨a0, a1, a2, a3, a4⟩ := plain_form ha na
  obtain ⟨b0, b1, b2, b3, b4⟩ := plain_form ht nb
  obtain ⟨s, hs⟩ : ∃ s, s = lst b ^ (a.length - d) * sct a := ⟨_, rfl⟩
  have s0 : s ≠ 0 := by
    rw [hs]
    exact Int.mul_ne_zero (Int.pow_ne_zero (lst_ne ht nb)) a0
  have mg : ∀ (d : Int) (l : List Int) (k : Nat), (l.map fun x => d * x).getD k 0 = d * l.getD k 0 := fun d l k => by
    by_cases h : k < l.length
    · simp [List.getD, h]
    · rw [getD_hi (a := l.map fun x => d * x) (by rw [List.length_map]; omega), getD_hi (a := l) (by omega), Int.mul_zero]
  have key : ∀ k, s * (pls a).getD k 0 = pc (q.map fun x => sct b * x) (cf (pls b)) k := fun k => by
    have h1 := e k
    rw [zero_tp h0, Int.add_zero] at h1
    have h2 : a.getD k 0 = sct a * (pls a).getD k 0 := (congrArg (fun l : List Int => l.getD k 0) a2).trans (mg ..)
    have h3 : pc q (cf b) k = sct b * pc q (cf (pls b)) k := by
      rw [← pc_smul]
      refine pc_congr (fun i => ?_) q k
      exact (congrArg (fun l : List Int => l.getD i 0) b2).trans (mg ..)
    rw [h2, h3] at h1
    rw [pc_map, ← h1, hs, Int.mul_assoc]
  have dv := gauss (s := s) (g := cf (pls b)) (N := (pls b).length) (fun i hi => getD_hi (a := pls b) hi) (fun q hq => prim_of b3.ct fun x hx => by
    obtain ⟨i, hi, rfl⟩ := List.mem_iff_getElem.mp hx
    have := hq i
    rw [show cf (pls b) i = (pls b)[i] by unfold cf; simp [List.getD, hi]] at this
    exact this) _ (q.map fun x => sct b * x) rfl fun k => ⟨_, (key k).symm⟩
  refine ⟨(q.map fun x => sct b * x).map fun x => x / s, hd, by rw [List.length_map, List.length_map, hq], fun k => ?_⟩
  have e2 : (q.map fun x => sct b * x) = ((q.map fun x => sct b * x).map fun x => x / s).map fun x => s * x := by
    rw [List.map_map]
    conv => lhs; rw [← List.map_id (q.map fun x => sct b * x)]
    refine List.map_congr_left fun x hx => ?_
    exact (Int.mul_ediv_cancel' (dv x hx)).symm
  have h4 := key k
  rw [e2, pc_map] at h4
  exact Int.eq_of_mul_eq_mul_left s0 h4
/-- what a quotient of plain polynomials is -/
theorem quotient_plain {A B Q : List Int} {d : Nat} (hA : Pl A) (hB : Pl B) (hb : B.length = d + 1) (hl : A.length = Q.length + d) (hq : Q ≠ []) (e : ∀ k, A.getD k 0 = pc Q (cf B) k) : Pl Q := by
  obtain ⟨m, hm⟩ : ∃ m, Q.length = m + 1 := ⟨Q.length - 1, by have := List.length_pos_iff.mpr hq; omega⟩
  have hts := take_succ_getD (Q := Q) (j := m) (by omega)
  rw [← hm, List.take_length] at hts
  have top : lst A = lst Q * lst B := by
    have h1 : lst A = A.getD (m + d) 0 := by unfold lst; rw [hl, hm, show m + 1 + d - 1 = m + d by omega]
    have lq : lst Q = Q.getD m 0 := by unfold lst; rw [hm, Nat.add_sub_cancel]
    rw [h1, e, hts, pc_app, List.length_take, if_pos (by omega), show m + d - min m Q.length = d by omega, pc_hi (x := Q.take m) (g := cf B) (fun l h1 h2 => getD_hi (a := B) (by rw [List.length_take] at h1; omega)), Int.zero_add, ← hts, lq, ← lst_d hb]
    rfl
  refine ⟨hq, ?_, ?_⟩
  · have h1 : ((ct Q : Nat) : Int) ∣ 1 := prim_of hA.ct fun x hx => by
      obtain ⟨i, hi, rfl⟩ := List.mem_iff_getElem.mp hx
      rw [Int.mul_one, show A[i] = A.getD i 0 by simp [List.getD, hi], e]
      refine pc_dvd fun l h1 h2 => ?_
      rw [show Q.getD l 0 = Q[l] by simp [List.getD, h1]]
      exact Int.dvd_trans (ct_dvd (List.getElem_mem h1)) ⟨_, rfl⟩
    have h2 := Int.eq_one_of_dvd_one (by omega) h1
    omega
  · have pa := hA.pos
    have pb := hB.pos
    rw [top] at pa
    have c : ¬ lst Q ≤ 0 := fun c => by
      have := Int.mul_nonpos_of_nonpos_of_nonneg c (Int.le_of_lt pb)
      omega
    omega
/-- how great the coefficients of a quotient may be -/
theorem quotient_bd {A B Q : List Int} {d m n : Nat} (hB : Pl B) (hbb : Bl n B) (hA : Bl m A) (hb : B.length = d + 1) (e : ∀ k, A.getD k 0 = pc Q (cf B) k) : Bl (m + (n + 1) * Q.length) Q := by
  have main : ∀ t, t ≤ Q.length → (∀ k, (pc (Q.take (Q.length - t)) (cf B) k).natAbs < 2 ^ (m + (n + 1) * t)) := by
    intro t
    induction t with
    | zero =>
      intro _ k
      rw [Nat.sub_zero, List.take_length, ← e]
      exact hA.getD k
    | succ t ih =>
      intro ht k
      have ih := ih (by omega)
      obtain ⟨j, hj⟩ : ∃ j, Q.length - t = j + 1 := ⟨Q.length - t - 1, by omega⟩
      have hts := take_succ_getD (Q := Q) (j := j) (by omega)
      have ltk : (Q.take j).length = j := by rw [List.length_take]; omega
      rw [hj, hts] at ih
      have hq : (Q.getD j 0).natAbs < 2 ^ (m + (n + 1) * t) := by
        have h1 := ih (j + d)
        rw [pc_app, ltk, if_pos (by omega), show j + d - j = d by omega, pc_hi (x := Q.take j) (g := cf B) (fun l h1 h2 => show B.getD (j + d - l) 0 = 0 from getD_hi (by omega)), Int.zero_add, Int.natAbs_mul] at h1
        have pb := hB.pos
        rw [← lst_d hb] at pb
        have : 1 ≤ (cf B d).natAbs := by show 1 ≤ (B.getD d 0).natAbs; omega
        exact Nat.lt_of_le_of_lt (Nat.le_mul_of_pos_right _ this) h1
      rw [show Q.length - (t + 1) = j by omega]
      have h1 := ih k
      rw [pc_app, ltk] at h1
      have h2 := natAbs_mul_lt hq (hbb.getD (k - j))
      have e1 : m + (n + 1) * (t + 1) = (m + (n + 1) * t + n) + 1 := by rw [Nat.mul_add, Nat.mul_one]; omega
      have e2 : (2 : Nat) ^ (m + (n + 1) * t) ≤ 2 ^ (m + (n + 1) * t + n) := Nat.pow_le_pow_right (by decide) (by omega)
      rw [e1, Nat.pow_succ]
      have e3 : cf B (k - j) = B.getD (k - j) 0 := rfl
      rw [e3] at h1
      split at h1 <;> omega
  intro x hx
  obtain ⟨j, hj, rfl⟩ := List.mem_iff_getElem.mp hx
  have h1 := main (Q.length - (j + 1)) (by omega) (j + d)
  rw [show Q.length - (Q.length - (j + 1)) = j + 1 by omega, take_succ_getD hj, pc_app, List.length_take, if_pos (by omega), show j + d - min j Q.length = d by omega, pc_hi (x := Q.take j) (g := cf B) (fun l h1 h2 => show B.getD (j + d - l) 0 = 0 from getD_hi (by rw [List.length_take] at h1; omega)), Int.zero_add, Int.natAbs_mul] at h1
  have pb := hB.pos
  rw [← lst_d hb] at pb
  have : 1 ≤ (cf B d).natAbs := by show 1 ≤ (B.getD d 0).natAbs; omega
  rw [show Q[j] = Q.getD j 0 by simp [List.getD, hj]]
  refine Nat.lt_of_lt_of_le (Nat.lt_of_le_of_lt (Nat.le_mul_of_pos_right _ this) h1) (Nat.pow_le_pow_right (by decide) ?_)
  exact Nat.add_le_add_left (Nat.mul_le_mul_left _ (by omega)) _
end Lp

set_option Elab.async false
set_option linter.all false
set_option maxRecDepth 100000
set_option maxHeartbeats 4000000
namespace Lp
open PySem L2 Ip
def b_law : MEnv → Option Out := seqB (asgB 1 (callF 2 r_f_law_draws (consA (nameV 0) (consA (constD (.int 40)) ((fun env => some ([], env))))))) (seqB (tgtB (datF (compF (rng1I (consA (constD (.int 3)) ((fun env => some ([], env))))) (nameG 10) (yesT) (datF (callF 1 r_f_law_polynomial (consA (datF (slF (nameL 1) (intO (datL (datF (op2 (datL (constD (.int 8))) (nameL 10) mulD)))) (intO (datL (datF (op2 (datL (datF (op2 (datL (constD (.int 8))) (nameL 10) mulD))) (datL (constD (.int 8))) addD)))))) ((fun env => some ([], env)))))) [10])) (tupG 3 (consG (nameG 2) (consG (nameG 3) (consG (nameG 4) (nilG)))))) (seqB (ifB (boolT (op2 (datL (datF (op1 (nameL 3) lenD))) (datL (constD (.int 0))) eqD)) (seqB (asgB 3 (lstF (consA (datF (op2 (datL (constD (.int 1))) (datL (datF (op2 (datL (datF (op1 (datL (datF (op2 (nameL 1) (datL (constD (.int 24))) ixD))) intD))) (datL (constD (.int 5))) modD))) addD)) ((fun env => some ([], env)))))) (nilB)) (nilB)) (seqB (asgB 5 (op2 (datL (datF (op2 (datL (datF (op1 (datL (datF (op2 (nameL 1) (datL (constD (.int 25))) ixD))) intD))) (datL (constD (.int 2))) modD))) (datL (constD (.int 0))) eqD)) (seqB (ifB (boolT (valF (nameV 5))) (seqB (asgB 2 (callF 2 r_f_law_multiply (consA (nameV 3) (consA (nameV 4) ((fun env => some ([], env))))))) (nilB)) (nilB)) (seqB (asgB 6 (op1 (datL (datF (tupF (consA (nameV 2) (consA (nameV 3) ((fun env => some ([], env)))))))) reprD)) (seqB (asgB 7 (callF 2 r_false_rest (consA (nameV 2) (consA (nameV 3) ((fun env => some ([], env))))))) (seqB (ifB (orT (notT (boolT (callF 1 r_f_law_is_polynomial (consA (nameV 7) ((fun env => some ([], env))))))) (orT (boolT (op2 (nameL 7) (datL (datF (callF 2 r_f_law_rest (consA (nameV 2) (consA (nameV 3) ((fun env => some ([], env)))))))) neD)) (boolT (op2 (datL (datF (op1 (datL (datF (tupF (consA (nameV 2) (consA (nameV 3) ((fun env => some ([], env)))))))) reprD))) (nameL 6) neD)))) (seqB (retB (valF (constD (.bool false)))) (nilB)) (nilB)) (seqB (ifB (andT (boolT (op2 (datL (datF (op1 (nameL 2) lenD))) (datL (datF (op1 (nameL 3) lenD))) geD)) (boolT (op2 (datL (datF (op1 (nameL 7) lenD))) (datL (datF (op1 (nameL 3) lenD))) geD))) (seqB (retB (valF (constD (.bool false)))) (nilB)) (nilB)) (seqB (asgB 8 (callF 2 r_divides (consA (nameV 3) (consA (nameV 2) ((fun env => some ([], env))))))) (seqB (ifB (orT (notT (boolT (op1 (nameL 8) (isaD .bool)))) (orT (boolT (op2 (nameL 8) (datL (datF (op2 (datL (datF (op1 (nameL 7) lenD))) (datL (constD (.int 0))) eqD))) neD)) (andT (boolT (valF (nameV 5))) (notT (boolT (valF (nameV 8))))))) (seqB (retB (valF (constD (.bool false)))) (nilB)) (nilB)) (seqB (ifB (orT (boolT (op2 (datL (datF (op1 (nameL 2) lenD))) (datL (constD (.int 0))) eqD)) (notT (boolT (valF (nameV 8))))) (seqB (retB (valF (constD (.bool true)))) (nilB)) (nilB)) (seqB (asgB 9 (callF 2 r_quotient (consA (nameV 2) (consA (nameV 3) ((fun env => some ([], env))))))) (seqB (ifB (orT (notT (boolT (callF 1 r_f_law_is_polynomial (consA (nameV 9) ((fun env => some ([], env))))))) (boolT (op2 (nameL 9) (datL (datF (callF 1 r_f_law_plain (consA (nameV 9) ((fun env => some ([], env))))))) neD))) (seqB (retB (valF (constD (.bool false)))) (nilB)) (nilB)) (seqB (retB (andE (op2 (datL (datF (callF 1 r_f_law_plain (consA (datF (callF 2 r_f_law_multiply (consA (nameV 9) (consA (nameV 3) ((fun env => some ([], env))))))) ((fun env => some ([], env))))))) (datL (datF (callF 1 r_f_law_plain (consA (nameV 2) ((fun env => some ([], env))))))) eqD) (op2 (datL (datF (op1 (datL (datF (tupF (consA (nameV 2) (consA (nameV 3) ((fun env => some ([], env)))))))) reprD))) (nameL 6) eqD))) (nilB)))))))))))))))
def r_law : Ip.Run := runB 11 1 b_law
end Lp

set_option Elab.async false
set_option linter.all false
set_option maxRecDepth 100000
set_option maxHeartbeats 4000000
namespace Lp
open PySem L2 Ip
def topS (i : Nat) : Stmt := PySem.Challenge.pw_wheretrue_k04_division_with_rest.main.body.getD i (.Pass ⟨0, 0, 0, 0⟩)
abbrev s_f_law_draws : Stmt := topS 10
abbrev N_f_law_draws : List Str := ["script", "count", "rests", "draws", "k", "value", "at", "mixed", "cell"]
theorem sc_f_law_draws : FnScope N_f_law_draws ["script", "count"] (defScope s_f_law_draws) := ⟨rfl, rfl, rfl, by decide +kernel, rfl, by decide +kernel, by decide +kernel⟩
abbrev s_f_law_trim : Stmt := topS 20
abbrev N_f_law_trim : List Str := ["row", "step"]
theorem sc_f_law_trim : FnScope N_f_law_trim ["row"] (defScope s_f_law_trim) := ⟨rfl, rfl, rfl, by decide +kernel, rfl, by decide +kernel, by decide +kernel⟩
abbrev s_f_law_multiply : Stmt := topS 23
abbrev N_f_law_multiply : List Str := ["a", "b", "found", "i", "j"]
theorem sc_f_law_multiply : FnScope N_f_law_multiply ["a", "b"] (defScope s_f_law_multiply) := ⟨rfl, rfl, rfl, by decide +kernel, rfl, by decide +kernel, by decide +kernel⟩
abbrev s_f_law_is_polynomial : Stmt := topS 26
abbrev N_f_law_is_polynomial : List Str := ["actual", "one"]
theorem sc_f_law_is_polynomial : FnScope N_f_law_is_polynomial ["actual"] (defScope s_f_law_is_polynomial) := ⟨rfl, rfl, rfl, by decide +kernel, rfl, by decide +kernel, by decide +kernel⟩
abbrev s_f_law_polynomial : Stmt := topS 27
abbrev N_f_law_polynomial : List Str := ["draws", "kind", "many", "k"]
theorem sc_f_law_polynomial : FnScope N_f_law_polynomial ["draws"] (defScope s_f_law_polynomial) := ⟨rfl, rfl, rfl, by decide +kernel, rfl, by decide +kernel, by decide +kernel⟩
abbrev s_f_law_gcd : Stmt := topS 12
abbrev N_f_law_gcd : List Str := ["a", "b", "step", "rest"]
theorem sc_f_law_gcd : FnScope N_f_law_gcd ["a", "b"] (defScope s_f_law_gcd) := ⟨rfl, rfl, rfl, by decide +kernel, rfl, by decide +kernel, by decide +kernel⟩
abbrev s_f_law_content : Stmt := topS 25
abbrev N_f_law_content : List Str := ["a", "found", "one"]
theorem sc_f_law_content : FnScope N_f_law_content ["a"] (defScope s_f_law_content) := ⟨rfl, rfl, rfl, by decide +kernel, rfl, by decide +kernel, by decide +kernel⟩
abbrev s_f_law_plain : Stmt := topS 28
abbrev N_f_law_plain : List Str := ["a", "common", "one"]
theorem sc_f_law_plain : FnScope N_f_law_plain ["a"] (defScope s_f_law_plain) := ⟨rfl, rfl, rfl, by decide +kernel, rfl, by decide +kernel, by decide +kernel⟩
abbrev s_f_law_add : Stmt := topS 21
abbrev N_f_law_add : List Str := ["a", "b", "many", "found", "k"]
theorem sc_f_law_add : FnScope N_f_law_add ["a", "b"] (defScope s_f_law_add) := ⟨rfl, rfl, rfl, by decide +kernel, rfl, by decide +kernel, by decide +kernel⟩
abbrev s_f_law_times_number : Stmt := topS 22
abbrev N_f_law_times_number : List Str := ["a", "factor", "one"]
theorem sc_f_law_times_number : FnScope N_f_law_times_number ["a", "factor"] (defScope s_f_law_times_number) := ⟨rfl, rfl, rfl, by decide +kernel, rfl, by decide +kernel, by decide +kernel⟩
abbrev s_f_law_rest : Stmt := topS 29
abbrev N_f_law_rest : List Str := ["a", "b", "rest", "step", "by", "top"]
theorem sc_f_law_rest : FnScope N_f_law_rest ["a", "b"] (defScope s_f_law_rest) := ⟨rfl, rfl, rfl, by decide +kernel, rfl, by decide +kernel, by decide +kernel⟩
abbrev s_trimmed : Stmt := topS 2
abbrev N_trimmed : List Str := ["coefficients", "size"]
theorem sc_trimmed : FnScope N_trimmed ["coefficients"] (defScope s_trimmed) := ⟨rfl, rfl, rfl, by decide +kernel, rfl, by decide +kernel, by decide +kernel⟩
abbrev s_false_rest : Stmt := topS 5
abbrev N_false_rest : List Str := ["a", "b", "lead", "degree", "steps", "rest", "shift", "top", "k", "c"]
theorem sc_false_rest : FnScope N_false_rest ["a", "b"] (defScope s_false_rest) := ⟨rfl, rfl, rfl, by decide +kernel, rfl, by decide +kernel, by decide +kernel⟩
abbrev s_divides : Stmt := topS 6
abbrev N_divides : List Str := ["a", "b"]
theorem sc_divides : FnScope N_divides ["a", "b"] (defScope s_divides) := ⟨rfl, rfl, rfl, by decide +kernel, rfl, by decide +kernel, by decide +kernel⟩
abbrev s_content : Stmt := topS 3
abbrev N_content : List Str := ["a", "greatest", "coefficient"]
theorem sc_content : FnScope N_content ["a"] (defScope s_content) := ⟨rfl, rfl, rfl, by decide +kernel, rfl, by decide +kernel, by decide +kernel⟩
abbrev s_plain : Stmt := topS 4
abbrev N_plain : List Str := ["a", "divisor", "c"]
theorem sc_plain : FnScope N_plain ["a"] (defScope s_plain) := ⟨rfl, rfl, rfl, by decide +kernel, rfl, by decide +kernel, by decide +kernel⟩
abbrev s_exact_quotient : Stmt := topS 8
abbrev N_exact_quotient : List Str := ["a", "b", "lead", "degree", "rest", "coefficients", "factor", "left", "shift", "c", "e"]
theorem sc_exact_quotient : FnScope N_exact_quotient ["a", "b"] (defScope s_exact_quotient) := ⟨rfl, rfl, rfl, by decide +kernel, rfl, by decide +kernel, by decide +kernel⟩
abbrev s_quotient : Stmt := topS 7
abbrev N_quotient : List Str := ["a", "b"]
theorem sc_quotient : FnScope N_quotient ["a", "b"] (defScope s_quotient) := ⟨rfl, rfl, rfl, by decide +kernel, rfl, by decide +kernel, by decide +kernel⟩
abbrev s_law : Stmt := topS 30
abbrev N_law : List Str := ["script", "draws", "a", "b", "c", "whole", "kept", "rest", "answer", "part", "k"]
theorem sc_law : FnScope N_law ["script"] (defScope s_law) := ⟨rfl, rfl, rfl, by decide +kernel, rfl, by decide +kernel, by decide +kernel⟩
section
variable {P : Program} {w : World} {K : PySem.W.Frag} {mg : Str → Option Value} {base : Heap} {f : Addr} {fd : FuncData}
theorem sb_f_law_draws {X : Cx} (c : CtxF X N_f_law_draws (defScope s_f_law_draws) true) (hG : X.A.guards = some []) (hr : Room 0 X.A) (m_int : X.mg "int" = none) (m_len : X.mg "len" = none) (m_range : X.mg "range" = none) : SB X (defBody s_f_law_draws) b_f_law_draws := by
  have v0 : ∀ pos : Pos, PE X (.Name "script" pos) (tVar 0) := fun _ => pvc c 0 (by decide +kernel)
  have v1 : ∀ pos : Pos, PE X (.Name "count" pos) (tVar 1) := fun _ => pvc c 1 (by decide +kernel)
  have v2 : ∀ pos : Pos, PE X (.Name "rests" pos) (tVar 2) := fun _ => pvc c 2 (by decide +kernel)
  have v3 : ∀ pos : Pos, PE X (.Name "draws" pos) (tVar 3) := fun _ => pvc c 3 (by decide +kernel)
  have v4 : ∀ pos : Pos, PE X (.Name "k" pos) (tVar 4) := fun _ => pvc c 4 (by decide +kernel)
  have v5 : ∀ pos : Pos, PE X (.Name "value" pos) (tVar 5) := fun _ => pvc c 5 (by decide +kernel)
  have v6 : ∀ pos : Pos, PE X (.Name "at" pos) (tVar 6) := fun _ => pvc c 6 (by decide +kernel)
  have v7 : ∀ pos : Pos, PE X (.Name "mixed" pos) (tVar 7) := fun _ => pvc c 7 (by decide +kernel)
  have g_int : Gl X "int" := glc c (by decide +kernel)
  have g_len : Gl X "len" := glc c (by decide +kernel)
  have g_range : Gl X "range" := glc c (by decide +kernel)
  refine sb_cons (ss_asgCC [("cell", 8)] 2 c (by decide +kernel) (by decide +kernel) (si_seq (sv_name (v0 _))) (fun s0 H0 C0 cl0 fp0 cb0 => sg_name (tgc cb0 8 (by decide +kernel))) (fun s0 H0 C0 cl0 fp0 cb0 => sts_nil) (fun s0 H0 C0 cl0 fp0 cb0 => sv_name (pvc cb0 8 (by decide +kernel))) (by intro _; rfl)) ?_
  refine sb_cons (ss_asg (se_lst (sa_nil)) (psc c 3 (by decide +kernel) (by rfl))) ?_
  refine sb_cons (ss_for (si_rng1 g_range m_range (sa_cons (sv_name (v1 _)) (sa_nil) (by rfl)) (by rfl)) (sg_name (tgc c 4 (by decide +kernel))) (sb_cons (ss_asg (SV.e (sv_c pe_int (fun _ => rfl))) (psc c 5 (by decide +kernel) (by rfl))) (sb_cons (ss_if (st_cmp op_gt (SV.l (SE.v (se_b1 call_lenA g_len m_len bt_len (sl_name (v2 _)) ok_len (by rfl) (by decide) (by decide)))) (SV.l (sv_c pe_int (fun _ => rfl))) ok_gt (nomark _)) (sb_cons (ss_asg (se_bin (SV.l (SE.v (se_t1 call_int1 g_int m_int bt_int (sl_name (v4 _)) ok_int (by rfl) (by decide) (by decide)))) (SV.l (SE.v (se_b1 call_lenA g_len m_len bt_len (sl_name (v2 _)) ok_len (by rfl) (by decide) (by decide)))) op_modN ok_mod) (psc c 6 (by decide +kernel) (by rfl))) (sb_cons (ss_if (st_cmp op_ge (SV.l (SE.v (se_ix (sl_name (v2 _)) (sl_name (v6 _)) (fun _ _ => rfl)))) (SV.l (SE.v (se_bin (SV.l (sv_c pe_int (fun _ => rfl))) (SV.l (sv_c pe_int (fun _ => rfl))) op_pow ok_pow))) ok_ge (nomark _)) (sb_cons (ss_asg (se_bin (SV.l (SE.v (se_t1 call_int1 g_int m_int bt_int (SV.l (SE.v (se_ix (sl_name (v2 _)) (sl_name (v6 _)) (fun _ _ => rfl)))) ok_int (by rfl) (by decide) (by decide)))) (SV.l (sv_c pe_int (fun _ => rfl))) op_modN ok_mod) (psc c 5 (by decide +kernel) (by rfl))) (sb_cons (ss_set (v2 _) (SE.v (se_bin (SV.l (SE.v (se_ix (sl_name (v2 _)) (sl_name (v6 _)) (fun _ _ => rfl)))) (SV.l (sv_c pe_int (fun _ => rfl))) op_fdivA ok_fdiv)) (sl_name (v6 _)) (by rfl) (by rfl) (by rfl)) (sb_nil))) (sb_cons (ss_asg (se_bin (SV.l (SE.v (se_t1 call_int1 g_int m_int bt_int (SV.l (SE.v (se_bin (SV.l (SE.v (se_bin (SV.l (SE.v (se_bin (SV.l (SE.v (se_ix (sl_name (v2 _)) (sl_name (v6 _)) (fun _ _ => rfl)))) (SV.l (sv_c pe_int (fun _ => rfl))) op_mulA ok_mul))) (SV.l (SE.v (se_bin (sl_name (v4 _)) (SV.l (sv_c pe_int (fun _ => rfl))) op_mulA ok_mul))) op_addA ok_add))) (SV.l (sv_c pe_int (fun _ => rfl))) op_addA ok_add))) ok_int (by rfl) (by decide) (by decide)))) (SV.l (sv_c pe_int (fun _ => rfl))) op_modN ok_mod) (psc c 7 (by decide +kernel) (by rfl))) (sb_cons (ss_asg (se_bin (SV.l (SE.v (se_t1 call_int1 g_int m_int bt_int (SV.l (SE.v (se_bin (SV.l (SE.v (se_bin (sl_name (v7 _)) (SV.l (sv_c pe_int (fun _ => rfl))) op_mulA ok_mul))) (sl_name (v6 _)) op_addA ok_add))) ok_int (by rfl) (by decide) (by decide)))) (SV.l (sv_c pe_int (fun _ => rfl))) op_modN ok_mod) (psc c 7 (by decide +kernel) (by rfl))) (sb_cons (ss_asg (se_bin (SV.l (SE.v (se_t1 call_int1 g_int m_int bt_int (SV.l (SE.v (se_bin (sl_name (v7 _)) (SV.l (sv_c pe_int (fun _ => rfl))) op_fdivA ok_fdiv))) ok_int (by rfl) (by decide) (by decide)))) (SV.l (sv_c pe_int (fun _ => rfl))) op_modN ok_mod) (psc c 5 (by decide +kernel) (by rfl))) (sb_nil))))) (sb_nil))) (sb_nil)) (sb_cons (ss_app (v3 _) (sv_name (v5 _)) (by rfl) (by rfl)) (sb_nil)))) c.own c.calm (by intro _; rfl)) ?_
  refine sb_cons (ss_retNm (v3 _)) ?_
  exact sb_nil
theorem ok_f_law_draws (F : Fun K "_law_draws" "_law_draws" s_f_law_draws f fd) (m_int : mg "int" = none) (m_len : mg "len" = none) (m_range : mg "range" = none) : FnG P w K mg base 1 f fd ["script", "count"] (spF K 2 r_f_law_draws) := by
  refine fun_ok (k := 0) (sp := spF K 2 r_f_law_draws) F sc_f_law_draws (fun vs H Q E h => spF_len h) ?_
  intro cd B up t h a q x hG hr hs
  refine ⟨_, WSs.ps _ _, ?_⟩
  have hb := sb_f_law_draws (X := (cxOf CX0 P w K mg base N_f_law_draws "_law_draws" (defScope s_f_law_draws) f cd B up t h x).nox) ⟨rfl, rfl, sc_f_law_draws.nd, rfl, fun _ _ => rfl, PassesOwn.never⟩ hG hr m_int m_len m_range
  exact @fn_body (cxOf CX0 P w K mg base N_f_law_draws "_law_draws" (defScope s_f_law_draws) f cd B up t h x).nox h N_f_law_draws 2 b_f_law_draws (defBody s_f_law_draws) a q x rfl hb (by decide) hs
theorem sb_f_law_trim {X : Cx} (c : CtxF X N_f_law_trim (defScope s_f_law_trim) true) (hG : X.A.guards = some []) (hr : Room 0 X.A) (m_len : X.mg "len" = none) (m_list : X.mg "list" = none) (m_range : X.mg "range" = none) : SB X (defBody s_f_law_trim) b_f_law_trim := by
  have v0 : ∀ pos : Pos, PE X (.Name "row" pos) (tVar 0) := fun _ => pvc c 0 (by decide +kernel)
  have g_len : Gl X "len" := glc c (by decide +kernel)
  have g_list : Gl X "list" := glc c (by decide +kernel)
  have g_range : Gl X "range" := glc c (by decide +kernel)
  refine sb_cons (ss_asg (se_t1 call_list_of g_list m_list bt_list (sl_name (v0 _)) ok_list (by rfl) (by decide) (by decide)) (psc c 0 (by decide +kernel) (by rfl))) ?_
  refine sb_cons (ss_for (si_rng1 g_range m_range (sa_cons (SE.v (se_b1 call_lenA g_len m_len bt_len (sl_name (v0 _)) ok_len (by rfl) (by decide) (by decide))) (sa_nil) (by rfl)) (by rfl)) (sg_name (tgc c 1 (by decide +kernel))) (sb_cons (ss_if (st_cmp (op_neA (Room.units hr)) (SV.l (SE.v (se_ix (sl_name (v0 _)) (SV.l (SE.v (se_neg (SV.l (sv_c pe_int (fun _ => rfl)))))) (fun _ _ => rfl)))) (SV.l (sv_c pe_int (fun _ => rfl))) ok_ne (nomark _)) (sb_cons (ss_break) (sb_nil)) (sb_nil)) (sb_cons (ss_expr (se_pop (v0 _) (by rfl)) (by rfl)) (sb_nil))) c.own c.calm (by intro _; rfl)) ?_
  refine sb_cons (ss_retNm (v0 _)) ?_
  exact sb_nil
theorem ok_f_law_trim (F : Fun K "_law_trim" "_law_trim" s_f_law_trim f fd) (m_len : mg "len" = none) (m_list : mg "list" = none) (m_range : mg "range" = none) : FnG P w K mg base 1 f fd ["row"] (spF K 1 r_f_law_trim) := by
  refine fun_ok (k := 0) (sp := spF K 1 r_f_law_trim) F sc_f_law_trim (fun vs H Q E h => spF_len h) ?_
  intro cd B up t h a q x hG hr hs
  refine ⟨_, WSs.ps _ _, ?_⟩
  have hb := sb_f_law_trim (X := (cxOf CX0 P w K mg base N_f_law_trim "_law_trim" (defScope s_f_law_trim) f cd B up t h x).nox) ⟨rfl, rfl, sc_f_law_trim.nd, rfl, fun _ _ => rfl, PassesOwn.never⟩ hG hr m_len m_list m_range
  exact @fn_body (cxOf CX0 P w K mg base N_f_law_trim "_law_trim" (defScope s_f_law_trim) f cd B up t h x).nox h N_f_law_trim 1 b_f_law_trim (defBody s_f_law_trim) a q x rfl hb (by decide) hs
theorem sb_f_law_multiply {X : Cx} (c : CtxF X N_f_law_multiply (defScope s_f_law_multiply) true) (hG : X.A.guards = some []) (hr : Room 1 X.A) (o_f_law_trim : OwnG X.prog X.w X.K X.mg X.base 1 "_law_trim" 1 r_f_law_trim) (m_len : X.mg "len" = none) (m_range : X.mg "range" = none) : SB X (defBody s_f_law_multiply) b_f_law_multiply := by
  have v0 : ∀ pos : Pos, PE X (.Name "a" pos) (tVar 0) := fun _ => pvc c 0 (by decide +kernel)
  have v1 : ∀ pos : Pos, PE X (.Name "b" pos) (tVar 1) := fun _ => pvc c 1 (by decide +kernel)
  have v2 : ∀ pos : Pos, PE X (.Name "found" pos) (tVar 2) := fun _ => pvc c 2 (by decide +kernel)
  have v3 : ∀ pos : Pos, PE X (.Name "i" pos) (tVar 3) := fun _ => pvc c 3 (by decide +kernel)
  have v4 : ∀ pos : Pos, PE X (.Name "j" pos) (tVar 4) := fun _ => pvc c 4 (by decide +kernel)
  have g__law_trim : Gl X "_law_trim" := glc c (by decide +kernel)
  have g_len : Gl X "len" := glc c (by decide +kernel)
  have g_range : Gl X "range" := glc c (by decide +kernel)
  refine sb_cons (ss_asg (se_rep (se_lst (sa_cons (sv_c pe_int (fun _ => rfl)) (sa_nil) (by rfl))) (SV.l (SE.v (se_bin (SV.l (SE.v (se_bin (SV.l (SE.v (se_b1 call_lenA g_len m_len bt_len (sl_name (v0 _)) ok_len (by rfl) (by decide) (by decide)))) (SV.l (SE.v (se_b1 call_lenA g_len m_len bt_len (sl_name (v1 _)) ok_len (by rfl) (by decide) (by decide)))) op_addA ok_add))) (SV.l (sv_c pe_int (fun _ => rfl))) op_addA ok_add)))) (psc c 2 (by decide +kernel) (by rfl))) ?_
  refine sb_cons (ss_for (si_rng1 g_range m_range (sa_cons (SE.v (se_b1 call_lenA g_len m_len bt_len (sl_name (v0 _)) ok_len (by rfl) (by decide) (by decide))) (sa_nil) (by rfl)) (by rfl)) (sg_name (tgc c 3 (by decide +kernel))) (sb_cons (ss_for (si_rng1 g_range m_range (sa_cons (SE.v (se_b1 call_lenA g_len m_len bt_len (sl_name (v1 _)) ok_len (by rfl) (by decide) (by decide))) (sa_nil) (by rfl)) (by rfl)) (sg_name (tgc c 4 (by decide +kernel))) (sb_cons (ss_set (v2 _) (SE.v (se_bin (SV.l (SE.v (se_ix (sl_name (v2 _)) (SV.l (SE.v (se_bin (sl_name (v3 _)) (sl_name (v4 _)) op_addA ok_add))) (fun _ _ => rfl)))) (SV.l (SE.v (se_bin (SV.l (SE.v (se_ix (sl_name (v0 _)) (sl_name (v3 _)) (fun _ _ => rfl)))) (SV.l (SE.v (se_ix (sl_name (v1 _)) (sl_name (v4 _)) (fun _ _ => rfl)))) op_mulA ok_mul))) op_addA ok_add)) (SV.l (SE.v (se_bin (sl_name (v3 _)) (sl_name (v4 _)) op_addA ok_add))) (by rfl) (by rfl) (by rfl)) (sb_nil)) c.own c.calm (by intro _; rfl)) (sb_nil)) c.own c.calm (by intro _; rfl)) ?_
  refine sb_cons (ss_ret (se_go o_f_law_trim hG (hr.mono (by omega)) g__law_trim (sa_cons (sv_name (v2 _)) (sa_nil) (by rfl)) (by rfl) (by decide))) ?_
  exact sb_nil
theorem ok_f_law_multiply (F : Fun K "_law_multiply" "_law_multiply" s_f_law_multiply f fd) (o_f_law_trim : OwnG P w K mg base 1 "_law_trim" 1 r_f_law_trim) (m_len : mg "len" = none) (m_range : mg "range" = none) : FnG P w K mg base 2 f fd ["a", "b"] (spF K 2 r_f_law_multiply) := by
  refine fun_ok (k := 1) (sp := spF K 2 r_f_law_multiply) F sc_f_law_multiply (fun vs H Q E h => spF_len h) ?_
  intro cd B up t h a q x hG hr hs
  refine ⟨_, WSs.ps _ _, ?_⟩
  have hb := sb_f_law_multiply (X := (cxOf CX0 P w K mg base N_f_law_multiply "_law_multiply" (defScope s_f_law_multiply) f cd B up t h x).nox) ⟨rfl, rfl, sc_f_law_multiply.nd, rfl, fun _ _ => rfl, PassesOwn.never⟩ hG hr o_f_law_trim m_len m_range
  exact @fn_body (cxOf CX0 P w K mg base N_f_law_multiply "_law_multiply" (defScope s_f_law_multiply) f cd B up t h x).nox h N_f_law_multiply 2 b_f_law_multiply (defBody s_f_law_multiply) a q x rfl hb (by decide) hs
theorem sb_f_law_is_polynomial {X : Cx} (c : CtxF X N_f_law_is_polynomial (defScope s_f_law_is_polynomial) true) (hG : X.A.guards = some []) (hr : Room 0 X.A) (m_bool : X.mg "bool" = none) (m_int : X.mg "int" = none) (m_isinstance : X.mg "isinstance" = none) (m_len : X.mg "len" = none) (m_list : X.mg "list" = none) : SB X (defBody s_f_law_is_polynomial) b_f_law_is_polynomial := by
  have v0 : ∀ pos : Pos, PE X (.Name "actual" pos) (tVar 0) := fun _ => pvc c 0 (by decide +kernel)
  have v1 : ∀ pos : Pos, PE X (.Name "one" pos) (tVar 1) := fun _ => pvc c 1 (by decide +kernel)
  have g_bool : Gl X "bool" := glc c (by decide +kernel)
  have g_int : Gl X "int" := glc c (by decide +kernel)
  have g_isinstance : Gl X "isinstance" := glc c (by decide +kernel)
  have g_len : Gl X "len" := glc c (by decide +kernel)
  have g_list : Gl X "list" := glc c (by decide +kernel)
  refine sb_cons (ss_if (st_not (st_val (se_isa (T := .list) rfl g_isinstance m_isinstance (sl_name (v0 _)) (by rfl) g_list m_list bt_list (by decide) (by decide)) (by intro _; rfl))) (sb_cons (ss_ret (SV.e (sv_c pe_bl (fun _ => rfl)))) (sb_nil)) (sb_nil)) ?_
  refine sb_cons (ss_for (si_seq (sv_name (v0 _))) (sg_name (tgc c 1 (by decide +kernel))) (sb_cons (ss_if (st_or (st_not (st_val (se_isa (T := .int) rfl g_isinstance m_isinstance (sl_name (v1 _)) (by rfl) g_int m_int bt_int (by decide) (by decide)) (by intro _; rfl))) (st_one (st_val (se_isa (T := .bool) rfl g_isinstance m_isinstance (sl_name (v1 _)) (by rfl) g_bool m_bool bt_bool (by decide) (by decide)) (by intro _; rfl)))) (sb_cons (ss_ret (SV.e (sv_c pe_bl (fun _ => rfl)))) (sb_nil)) (sb_nil)) (sb_nil)) c.own c.calm (by intro _; rfl)) ?_
  refine sb_cons (ss_ret (se_or (se_cmp (op_eqA (Room.units hr)) (SV.l (SE.v (se_b1 call_lenA g_len m_len bt_len (sl_name (v0 _)) ok_len (by rfl) (by decide) (by decide)))) (SV.l (sv_c pe_int (fun _ => rfl))) ok_eq (nomark _)) (se_one (se_cmp (op_neA (Room.units hr)) (SV.l (SE.v (se_ix (sl_name (v0 _)) (SV.l (SE.v (se_neg (SV.l (sv_c pe_int (fun _ => rfl)))))) (fun _ _ => rfl)))) (SV.l (sv_c pe_int (fun _ => rfl))) ok_ne (nomark _))))) ?_
  exact sb_nil
theorem ok_f_law_is_polynomial (F : Fun K "_law_is_polynomial" "_law_is_polynomial" s_f_law_is_polynomial f fd) (m_bool : mg "bool" = none) (m_int : mg "int" = none) (m_isinstance : mg "isinstance" = none) (m_len : mg "len" = none) (m_list : mg "list" = none) : FnG P w K mg base 1 f fd ["actual"] (spF K 1 r_f_law_is_polynomial) := by
  refine fun_ok (k := 0) (sp := spF K 1 r_f_law_is_polynomial) F sc_f_law_is_polynomial (fun vs H Q E h => spF_len h) ?_
  intro cd B up t h a q x hG hr hs
  refine ⟨_, WSs.ps _ _, ?_⟩
  have hb := sb_f_law_is_polynomial (X := (cxOf CX0 P w K mg base N_f_law_is_polynomial "_law_is_polynomial" (defScope s_f_law_is_polynomial) f cd B up t h x).nox) ⟨rfl, rfl, sc_f_law_is_polynomial.nd, rfl, fun _ _ => rfl, PassesOwn.never⟩ hG hr m_bool m_int m_isinstance m_len m_list
  exact @fn_body (cxOf CX0 P w K mg base N_f_law_is_polynomial "_law_is_polynomial" (defScope s_f_law_is_polynomial) f cd B up t h x).nox h N_f_law_is_polynomial 1 b_f_law_is_polynomial (defBody s_f_law_is_polynomial) a q x rfl hb (by decide) hs
theorem sb_f_law_polynomial {X : Cx} (c : CtxF X N_f_law_polynomial (defScope s_f_law_polynomial) true) (hG : X.A.guards = some []) (hr : Room 1 X.A) (o_f_law_trim : OwnG X.prog X.w X.K X.mg X.base 1 "_law_trim" 1 r_f_law_trim) (m_int : X.mg "int" = none) (m_range : X.mg "range" = none) : SB X (defBody s_f_law_polynomial) b_f_law_polynomial := by
  have v0 : ∀ pos : Pos, PE X (.Name "draws" pos) (tVar 0) := fun _ => pvc c 0 (by decide +kernel)
  have v1 : ∀ pos : Pos, PE X (.Name "kind" pos) (tVar 1) := fun _ => pvc c 1 (by decide +kernel)
  have v2 : ∀ pos : Pos, PE X (.Name "many" pos) (tVar 2) := fun _ => pvc c 2 (by decide +kernel)
  have g__law_trim : Gl X "_law_trim" := glc c (by decide +kernel)
  have g_int : Gl X "int" := glc c (by decide +kernel)
  have g_range : Gl X "range" := glc c (by decide +kernel)
  refine sb_cons (ss_asg (se_bin (SV.l (SE.v (se_t1 call_int1 g_int m_int bt_int (SV.l (SE.v (se_ix (sl_name (v0 _)) (SV.l (sv_c pe_int (fun _ => rfl))) (fun _ _ => rfl)))) ok_int (by rfl) (by decide) (by decide)))) (SV.l (sv_c pe_int (fun _ => rfl))) op_modN ok_mod) (psc c 1 (by decide +kernel) (by rfl))) ?_
  refine sb_cons (ss_asg (se_bin (SV.l (SE.v (se_t1 call_int1 g_int m_int bt_int (SV.l (SE.v (se_ix (sl_name (v0 _)) (SV.l (sv_c pe_int (fun _ => rfl))) (fun _ _ => rfl)))) ok_int (by rfl) (by decide) (by decide)))) (SV.l (sv_c pe_int (fun _ => rfl))) op_modN ok_mod) (psc c 2 (by decide +kernel) (by rfl))) ?_
  refine sb_cons (ss_if (st_cmp (op_eqA (Room.units hr)) (sl_name (v1 _)) (SV.l (sv_c pe_int (fun _ => rfl))) ok_eq (nomark _)) (sb_cons (ss_ret (se_go o_f_law_trim hG (hr.mono (by omega)) g__law_trim (sa_cons (SE.v (se_compC [("k", 3)] c (by decide +kernel) (si_rng1 g_range m_range (sa_cons (sv_name (v2 _)) (sa_nil) (by rfl)) (by rfl)) (fun s0 H0 C0 cl0 fp0 cb0 => sg_name (tgc cb0 3 (by decide +kernel))) (fun s0 H0 C0 cl0 fp0 cb0 => sts_nil) (fun s0 H0 C0 cl0 fp0 cb0 => SE.v (se_bin (SV.l (SE.v (se_bin (SV.l (SE.v (se_t1 call_int1 (glc cb0 (by decide +kernel)) m_int bt_int (SV.l (SE.v (se_ix (sl_name (pvc cb0 0 (by decide +kernel))) (SV.l (SE.v (se_bin (SV.l (sv_c pe_int (fun _ => rfl))) (sl_name (pvc cb0 3 (by decide +kernel))) op_addA ok_add))) (fun _ _ => rfl)))) ok_int (by rfl) (by decide) (by decide)))) (SV.l (sv_c pe_int (fun _ => rfl))) op_mulA ok_mul))) (SV.l (SE.v (se_bin (SV.l (SE.v (se_t1 call_int1 (glc cb0 (by decide +kernel)) m_int bt_int (SV.l (SE.v (se_ix (sl_name (pvc cb0 0 (by decide +kernel))) (SV.l (sv_c pe_int (fun _ => rfl))) (fun _ _ => rfl)))) ok_int (by rfl) (by decide) (by decide)))) (SV.l (sv_c pe_int (fun _ => rfl))) op_mulA ok_mul))) op_sub ok_sub)) (by intro _; rfl))) (sa_nil) (by rfl)) (by rfl) (by decide))) (sb_nil)) (sb_nil)) ?_
  refine sb_cons (ss_ret (se_go o_f_law_trim hG (hr.mono (by omega)) g__law_trim (sa_cons (SE.v (se_compC [("k", 3)] c (by decide +kernel) (si_rng1 g_range m_range (sa_cons (sv_name (v2 _)) (sa_nil) (by rfl)) (by rfl)) (fun s0 H0 C0 cl0 fp0 cb0 => sg_name (tgc cb0 3 (by decide +kernel))) (fun s0 H0 C0 cl0 fp0 cb0 => sts_nil) (fun s0 H0 C0 cl0 fp0 cb0 => SE.v (se_bin (SV.l (SE.v (se_bin (SV.l (SE.v (se_t1 call_int1 (glc cb0 (by decide +kernel)) m_int bt_int (SV.l (SE.v (se_ix (sl_name (pvc cb0 0 (by decide +kernel))) (SV.l (SE.v (se_bin (SV.l (sv_c pe_int (fun _ => rfl))) (sl_name (pvc cb0 3 (by decide +kernel))) op_addA ok_add))) (fun _ _ => rfl)))) ok_int (by rfl) (by decide) (by decide)))) (SV.l (SE.v (se_bin (SV.l (sv_c pe_int (fun _ => rfl))) (SV.l (SE.v (se_bin (SV.l (sv_c pe_int (fun _ => rfl))) (sl_name (pvc cb0 1 (by decide +kernel))) op_mulA ok_mul))) op_addA ok_add))) op_modN ok_mod))) (SV.l (SE.v (se_bin (SV.l (sv_c pe_int (fun _ => rfl))) (sl_name (pvc cb0 1 (by decide +kernel))) op_addA ok_add))) op_sub ok_sub)) (by intro _; rfl))) (sa_nil) (by rfl)) (by rfl) (by decide))) ?_
  exact sb_nil
theorem ok_f_law_polynomial (F : Fun K "_law_polynomial" "_law_polynomial" s_f_law_polynomial f fd) (o_f_law_trim : OwnG P w K mg base 1 "_law_trim" 1 r_f_law_trim) (m_int : mg "int" = none) (m_range : mg "range" = none) : FnG P w K mg base 2 f fd ["draws"] (spF K 1 r_f_law_polynomial) := by
  refine fun_ok (k := 1) (sp := spF K 1 r_f_law_polynomial) F sc_f_law_polynomial (fun vs H Q E h => spF_len h) ?_
  intro cd B up t h a q x hG hr hs
  refine ⟨_, WSs.ps _ _, ?_⟩
  have hb := sb_f_law_polynomial (X := (cxOf CX0 P w K mg base N_f_law_polynomial "_law_polynomial" (defScope s_f_law_polynomial) f cd B up t h x).nox) ⟨rfl, rfl, sc_f_law_polynomial.nd, rfl, fun _ _ => rfl, PassesOwn.never⟩ hG hr o_f_law_trim m_int m_range
  exact @fn_body (cxOf CX0 P w K mg base N_f_law_polynomial "_law_polynomial" (defScope s_f_law_polynomial) f cd B up t h x).nox h N_f_law_polynomial 1 b_f_law_polynomial (defBody s_f_law_polynomial) a q x rfl hb (by decide) hs
theorem sb_f_law_gcd {X : Cx} (c : CtxF X N_f_law_gcd (defScope s_f_law_gcd) true) (hG : X.A.guards = some []) (hr : Room 0 X.A) (m_abs : X.mg "abs" = none) (m_int : X.mg "int" = none) (m_range : X.mg "range" = none) : SB X (defBody s_f_law_gcd) b_f_law_gcd := by
  have v0 : ∀ pos : Pos, PE X (.Name "a" pos) (tVar 0) := fun _ => pvc c 0 (by decide +kernel)
  have v1 : ∀ pos : Pos, PE X (.Name "b" pos) (tVar 1) := fun _ => pvc c 1 (by decide +kernel)
  have v3 : ∀ pos : Pos, PE X (.Name "rest" pos) (tVar 3) := fun _ => pvc c 3 (by decide +kernel)
  have g_abs : Gl X "abs" := glc c (by decide +kernel)
  have g_int : Gl X "int" := glc c (by decide +kernel)
  have g_range : Gl X "range" := glc c (by decide +kernel)
  refine sb_cons (ss_asg (se_b1 call_abs g_abs m_abs bt_abs (sl_name (v0 _)) ok_abs (by rfl) (by decide) (by decide)) (psc c 0 (by decide +kernel) (by rfl))) ?_
  refine sb_cons (ss_asg (se_b1 call_abs g_abs m_abs bt_abs (sl_name (v1 _)) ok_abs (by rfl) (by decide) (by decide)) (psc c 1 (by decide +kernel) (by rfl))) ?_
  refine sb_cons (ss_for (si_rng1 g_range m_range (sa_cons (sv_c pe_int (fun _ => rfl)) (sa_nil) (by rfl)) (by rfl)) (sg_name (tgc c 2 (by decide +kernel))) (sb_cons (ss_if (st_cmp (op_eqA (Room.units hr)) (sl_name (v1 _)) (SV.l (sv_c pe_int (fun _ => rfl))) ok_eq (nomark _)) (sb_cons (ss_break) (sb_nil)) (sb_nil)) (sb_cons (ss_asg (se_bin (SV.l (SE.v (se_t1 call_int1 g_int m_int bt_int (sl_name (v0 _)) ok_int (by rfl) (by decide) (by decide)))) (sl_name (v1 _)) op_modN ok_mod) (psc c 3 (by decide +kernel) (by rfl))) (sb_cons (ss_asg (SV.e (sv_name (v1 _))) (psc c 0 (by decide +kernel) (by rfl))) (sb_cons (ss_asg (SV.e (sv_name (v3 _))) (psc c 1 (by decide +kernel) (by rfl))) (sb_nil))))) c.own c.calm (by intro _; rfl)) ?_
  refine sb_cons (ss_retNm (v0 _)) ?_
  exact sb_nil
theorem ok_f_law_gcd (F : Fun K "_law_gcd" "_law_gcd" s_f_law_gcd f fd) (m_abs : mg "abs" = none) (m_int : mg "int" = none) (m_range : mg "range" = none) : FnG P w K mg base 1 f fd ["a", "b"] (spF K 2 r_f_law_gcd) := by
  refine fun_ok (k := 0) (sp := spF K 2 r_f_law_gcd) F sc_f_law_gcd (fun vs H Q E h => spF_len h) ?_
  intro cd B up t h a q x hG hr hs
  refine ⟨_, WSs.ps _ _, ?_⟩
  have hb := sb_f_law_gcd (X := (cxOf CX0 P w K mg base N_f_law_gcd "_law_gcd" (defScope s_f_law_gcd) f cd B up t h x).nox) ⟨rfl, rfl, sc_f_law_gcd.nd, rfl, fun _ _ => rfl, PassesOwn.never⟩ hG hr m_abs m_int m_range
  exact @fn_body (cxOf CX0 P w K mg base N_f_law_gcd "_law_gcd" (defScope s_f_law_gcd) f cd B up t h x).nox h N_f_law_gcd 2 b_f_law_gcd (defBody s_f_law_gcd) a q x rfl hb (by decide) hs
theorem sb_f_law_content {X : Cx} (c : CtxF X N_f_law_content (defScope s_f_law_content) true) (hG : X.A.guards = some []) (hr : Room 1 X.A) (o_f_law_gcd : OwnG X.prog X.w X.K X.mg X.base 1 "_law_gcd" 2 r_f_law_gcd) : SB X (defBody s_f_law_content) b_f_law_content := by
  have v0 : ∀ pos : Pos, PE X (.Name "a" pos) (tVar 0) := fun _ => pvc c 0 (by decide +kernel)
  have v1 : ∀ pos : Pos, PE X (.Name "found" pos) (tVar 1) := fun _ => pvc c 1 (by decide +kernel)
  have v2 : ∀ pos : Pos, PE X (.Name "one" pos) (tVar 2) := fun _ => pvc c 2 (by decide +kernel)
  have g__law_gcd : Gl X "_law_gcd" := glc c (by decide +kernel)
  refine sb_cons (ss_asg (SV.e (sv_c pe_int (fun _ => rfl))) (psc c 1 (by decide +kernel) (by rfl))) ?_
  refine sb_cons (ss_for (si_seq (sv_name (v0 _))) (sg_name (tgc c 2 (by decide +kernel))) (sb_cons (ss_asg (se_go o_f_law_gcd hG (hr.mono (by omega)) g__law_gcd (sa_cons (sv_name (v1 _)) (sa_cons (sv_name (v2 _)) (sa_nil) (by rfl)) (by rfl)) (by rfl) (by decide)) (psc c 1 (by decide +kernel) (by rfl))) (sb_nil)) c.own c.calm (by intro _; rfl)) ?_
  refine sb_cons (ss_retNm (v1 _)) ?_
  exact sb_nil
theorem ok_f_law_content (F : Fun K "_law_content" "_law_content" s_f_law_content f fd) (o_f_law_gcd : OwnG P w K mg base 1 "_law_gcd" 2 r_f_law_gcd) : FnG P w K mg base 2 f fd ["a"] (spF K 1 r_f_law_content) := by
  refine fun_ok (k := 1) (sp := spF K 1 r_f_law_content) F sc_f_law_content (fun vs H Q E h => spF_len h) ?_
  intro cd B up t h a q x hG hr hs
  refine ⟨_, WSs.ps _ _, ?_⟩
  have hb := sb_f_law_content (X := (cxOf CX0 P w K mg base N_f_law_content "_law_content" (defScope s_f_law_content) f cd B up t h x).nox) ⟨rfl, rfl, sc_f_law_content.nd, rfl, fun _ _ => rfl, PassesOwn.never⟩ hG hr o_f_law_gcd
  exact @fn_body (cxOf CX0 P w K mg base N_f_law_content "_law_content" (defScope s_f_law_content) f cd B up t h x).nox h N_f_law_content 1 b_f_law_content (defBody s_f_law_content) a q x rfl hb (by decide) hs
theorem sb_f_law_plain {X : Cx} (c : CtxF X N_f_law_plain (defScope s_f_law_plain) true) (hG : X.A.guards = some []) (hr : Room 2 X.A) (o_f_law_content : OwnG X.prog X.w X.K X.mg X.base 2 "_law_content" 1 r_f_law_content) (m_len : X.mg "len" = none) : SB X (defBody s_f_law_plain) b_f_law_plain := by
  have v0 : ∀ pos : Pos, PE X (.Name "a" pos) (tVar 0) := fun _ => pvc c 0 (by decide +kernel)
  have v1 : ∀ pos : Pos, PE X (.Name "common" pos) (tVar 1) := fun _ => pvc c 1 (by decide +kernel)
  have g__law_content : Gl X "_law_content" := glc c (by decide +kernel)
  have g_len : Gl X "len" := glc c (by decide +kernel)
  refine sb_cons (ss_if (st_cmp (op_eqA (Room.units hr)) (SV.l (SE.v (se_b1 call_lenA g_len m_len bt_len (sl_name (v0 _)) ok_len (by rfl) (by decide) (by decide)))) (SV.l (sv_c pe_int (fun _ => rfl))) ok_eq (nomark _)) (sb_cons (ss_ret (se_lst (sa_nil))) (sb_nil)) (sb_nil)) ?_
  refine sb_cons (ss_asg (se_go o_f_law_content hG (hr.mono (by omega)) g__law_content (sa_cons (sv_name (v0 _)) (sa_nil) (by rfl)) (by rfl) (by decide)) (psc c 1 (by decide +kernel) (by rfl))) ?_
  refine sb_cons (ss_if (st_cmp op_lt (SV.l (SE.v (se_ix (sl_name (v0 _)) (SV.l (SE.v (se_neg (SV.l (sv_c pe_int (fun _ => rfl)))))) (fun _ _ => rfl)))) (SV.l (sv_c pe_int (fun _ => rfl))) ok_lt (nomark _)) (sb_cons (ss_asg (se_neg (sl_name (v1 _))) (psc c 1 (by decide +kernel) (by rfl))) (sb_nil)) (sb_nil)) ?_
  refine sb_cons (ss_ret (se_compC [("one", 2)] c (by decide +kernel) (si_seq (sv_name (v0 _))) (fun s0 H0 C0 cl0 fp0 cb0 => sg_name (tgc cb0 2 (by decide +kernel))) (fun s0 H0 C0 cl0 fp0 cb0 => sts_nil) (fun s0 H0 C0 cl0 fp0 cb0 => SE.v (se_bin (sl_name (pvc cb0 2 (by decide +kernel))) (sl_name (pvc cb0 1 (by decide +kernel))) op_fdivA ok_fdiv)) (by intro _; rfl))) ?_
  exact sb_nil
theorem ok_f_law_plain (F : Fun K "_law_plain" "_law_plain" s_f_law_plain f fd) (o_f_law_content : OwnG P w K mg base 2 "_law_content" 1 r_f_law_content) (m_len : mg "len" = none) : FnG P w K mg base 3 f fd ["a"] (spF K 1 r_f_law_plain) := by
  refine fun_ok (k := 2) (sp := spF K 1 r_f_law_plain) F sc_f_law_plain (fun vs H Q E h => spF_len h) ?_
  intro cd B up t h a q x hG hr hs
  refine ⟨_, WSs.ps _ _, ?_⟩
  have hb := sb_f_law_plain (X := (cxOf CX0 P w K mg base N_f_law_plain "_law_plain" (defScope s_f_law_plain) f cd B up t h x).nox) ⟨rfl, rfl, sc_f_law_plain.nd, rfl, fun _ _ => rfl, PassesOwn.never⟩ hG hr o_f_law_content m_len
  exact @fn_body (cxOf CX0 P w K mg base N_f_law_plain "_law_plain" (defScope s_f_law_plain) f cd B up t h x).nox h N_f_law_plain 1 b_f_law_plain (defBody s_f_law_plain) a q x rfl hb (by decide) hs
theorem sb_f_law_add {X : Cx} (c : CtxF X N_f_law_add (defScope s_f_law_add) true) (hG : X.A.guards = some []) (hr : Room 1 X.A) (o_f_law_trim : OwnG X.prog X.w X.K X.mg X.base 1 "_law_trim" 1 r_f_law_trim) (m_len : X.mg "len" = none) (m_max : X.mg "max" = none) (m_range : X.mg "range" = none) : SB X (defBody s_f_law_add) b_f_law_add := by
  have v0 : ∀ pos : Pos, PE X (.Name "a" pos) (tVar 0) := fun _ => pvc c 0 (by decide +kernel)
  have v1 : ∀ pos : Pos, PE X (.Name "b" pos) (tVar 1) := fun _ => pvc c 1 (by decide +kernel)
  have v2 : ∀ pos : Pos, PE X (.Name "many" pos) (tVar 2) := fun _ => pvc c 2 (by decide +kernel)
  have v3 : ∀ pos : Pos, PE X (.Name "found" pos) (tVar 3) := fun _ => pvc c 3 (by decide +kernel)
  have v4 : ∀ pos : Pos, PE X (.Name "k" pos) (tVar 4) := fun _ => pvc c 4 (by decide +kernel)
  have g__law_trim : Gl X "_law_trim" := glc c (by decide +kernel)
  have g_len : Gl X "len" := glc c (by decide +kernel)
  have g_max : Gl X "max" := glc c (by decide +kernel)
  have g_range : Gl X "range" := glc c (by decide +kernel)
  refine sb_cons (ss_asg (se_b2 (call_max2 c.calm) g_max m_max bt_max (SV.l (SE.v (se_b1 call_lenA g_len m_len bt_len (sl_name (v0 _)) ok_len (by rfl) (by decide) (by decide)))) (SV.l (SE.v (se_b1 call_lenA g_len m_len bt_len (sl_name (v1 _)) ok_len (by rfl) (by decide) (by decide)))) ok_max2 (by rfl) (by rfl) (by decide) (by decide)) (psc c 2 (by decide +kernel) (by rfl))) ?_
  refine sb_cons (ss_asg (se_rep (se_lst (sa_cons (sv_c pe_int (fun _ => rfl)) (sa_nil) (by rfl))) (sl_name (v2 _))) (psc c 3 (by decide +kernel) (by rfl))) ?_
  refine sb_cons (ss_for (si_rng1 g_range m_range (sa_cons (SE.v (se_b1 call_lenA g_len m_len bt_len (sl_name (v0 _)) ok_len (by rfl) (by decide) (by decide))) (sa_nil) (by rfl)) (by rfl)) (sg_name (tgc c 4 (by decide +kernel))) (sb_cons (ss_set (v3 _) (SE.v (se_bin (SV.l (SE.v (se_ix (sl_name (v3 _)) (sl_name (v4 _)) (fun _ _ => rfl)))) (SV.l (SE.v (se_ix (sl_name (v0 _)) (sl_name (v4 _)) (fun _ _ => rfl)))) op_addA ok_add)) (sl_name (v4 _)) (by rfl) (by rfl) (by rfl)) (sb_nil)) c.own c.calm (by intro _; rfl)) ?_
  refine sb_cons (ss_for (si_rng1 g_range m_range (sa_cons (SE.v (se_b1 call_lenA g_len m_len bt_len (sl_name (v1 _)) ok_len (by rfl) (by decide) (by decide))) (sa_nil) (by rfl)) (by rfl)) (sg_name (tgc c 4 (by decide +kernel))) (sb_cons (ss_set (v3 _) (SE.v (se_bin (SV.l (SE.v (se_ix (sl_name (v3 _)) (sl_name (v4 _)) (fun _ _ => rfl)))) (SV.l (SE.v (se_ix (sl_name (v1 _)) (sl_name (v4 _)) (fun _ _ => rfl)))) op_addA ok_add)) (sl_name (v4 _)) (by rfl) (by rfl) (by rfl)) (sb_nil)) c.own c.calm (by intro _; rfl)) ?_
  refine sb_cons (ss_ret (se_go o_f_law_trim hG (hr.mono (by omega)) g__law_trim (sa_cons (sv_name (v3 _)) (sa_nil) (by rfl)) (by rfl) (by decide))) ?_
  exact sb_nil
theorem ok_f_law_add (F : Fun K "_law_add" "_law_add" s_f_law_add f fd) (o_f_law_trim : OwnG P w K mg base 1 "_law_trim" 1 r_f_law_trim) (m_len : mg "len" = none) (m_max : mg "max" = none) (m_range : mg "range" = none) : FnG P w K mg base 2 f fd ["a", "b"] (spF K 2 r_f_law_add) := by
  refine fun_ok (k := 1) (sp := spF K 2 r_f_law_add) F sc_f_law_add (fun vs H Q E h => spF_len h) ?_
  intro cd B up t h a q x hG hr hs
  refine ⟨_, WSs.ps _ _, ?_⟩
  have hb := sb_f_law_add (X := (cxOf CX0 P w K mg base N_f_law_add "_law_add" (defScope s_f_law_add) f cd B up t h x).nox) ⟨rfl, rfl, sc_f_law_add.nd, rfl, fun _ _ => rfl, PassesOwn.never⟩ hG hr o_f_law_trim m_len m_max m_range
  exact @fn_body (cxOf CX0 P w K mg base N_f_law_add "_law_add" (defScope s_f_law_add) f cd B up t h x).nox h N_f_law_add 2 b_f_law_add (defBody s_f_law_add) a q x rfl hb (by decide) hs
theorem sb_f_law_times_number {X : Cx} (c : CtxF X N_f_law_times_number (defScope s_f_law_times_number) true) (hG : X.A.guards = some []) (hr : Room 1 X.A) (o_f_law_trim : OwnG X.prog X.w X.K X.mg X.base 1 "_law_trim" 1 r_f_law_trim) : SB X (defBody s_f_law_times_number) b_f_law_times_number := by
  have v0 : ∀ pos : Pos, PE X (.Name "a" pos) (tVar 0) := fun _ => pvc c 0 (by decide +kernel)
  have g__law_trim : Gl X "_law_trim" := glc c (by decide +kernel)
  refine sb_cons (ss_ret (se_go o_f_law_trim hG (hr.mono (by omega)) g__law_trim (sa_cons (SE.v (se_compC [("one", 2)] c (by decide +kernel) (si_seq (sv_name (v0 _))) (fun s0 H0 C0 cl0 fp0 cb0 => sg_name (tgc cb0 2 (by decide +kernel))) (fun s0 H0 C0 cl0 fp0 cb0 => sts_nil) (fun s0 H0 C0 cl0 fp0 cb0 => SE.v (se_bin (sl_name (pvc cb0 2 (by decide +kernel))) (sl_name (pvc cb0 1 (by decide +kernel))) op_mulA ok_mul)) (by intro _; rfl))) (sa_nil) (by rfl)) (by rfl) (by decide))) ?_
  exact sb_nil
theorem ok_f_law_times_number (F : Fun K "_law_times_number" "_law_times_number" s_f_law_times_number f fd) (o_f_law_trim : OwnG P w K mg base 1 "_law_trim" 1 r_f_law_trim) : FnG P w K mg base 2 f fd ["a", "factor"] (spF K 2 r_f_law_times_number) := by
  refine fun_ok (k := 1) (sp := spF K 2 r_f_law_times_number) F sc_f_law_times_number (fun vs H Q E h => spF_len h) ?_
  intro cd B up t h a q x hG hr hs
  refine ⟨_, WSs.ps _ _, ?_⟩
  have hb := sb_f_law_times_number (X := (cxOf CX0 P w K mg base N_f_law_times_number "_law_times_number" (defScope s_f_law_times_number) f cd B up t h x).nox) ⟨rfl, rfl, sc_f_law_times_number.nd, rfl, fun _ _ => rfl, PassesOwn.never⟩ hG hr o_f_law_trim
  exact @fn_body (cxOf CX0 P w K mg base N_f_law_times_number "_law_times_number" (defScope s_f_law_times_number) f cd B up t h x).nox h N_f_law_times_number 2 b_f_law_times_number (defBody s_f_law_times_number) a q x rfl hb (by decide) hs
theorem sb_f_law_rest {X : Cx} (c : CtxF X N_f_law_rest (defScope s_f_law_rest) true) (hG : X.A.guards = some []) (hr : Room 2 X.A) (o_f_law_add : OwnG X.prog X.w X.K X.mg X.base 2 "_law_add" 2 r_f_law_add) (o_f_law_times_number : OwnG X.prog X.w X.K X.mg X.base 2 "_law_times_number" 2 r_f_law_times_number) (m_len : X.mg "len" = none) (m_list : X.mg "list" = none) (m_range : X.mg "range" = none) : SB X (defBody s_f_law_rest) b_f_law_rest := by
  have v0 : ∀ pos : Pos, PE X (.Name "a" pos) (tVar 0) := fun _ => pvc c 0 (by decide +kernel)
  have v1 : ∀ pos : Pos, PE X (.Name "b" pos) (tVar 1) := fun _ => pvc c 1 (by decide +kernel)
  have v2 : ∀ pos : Pos, PE X (.Name "rest" pos) (tVar 2) := fun _ => pvc c 2 (by decide +kernel)
  have v3 : ∀ pos : Pos, PE X (.Name "step" pos) (tVar 3) := fun _ => pvc c 3 (by decide +kernel)
  have v4 : ∀ pos : Pos, PE X (.Name "by" pos) (tVar 4) := fun _ => pvc c 4 (by decide +kernel)
  have v5 : ∀ pos : Pos, PE X (.Name "top" pos) (tVar 5) := fun _ => pvc c 5 (by decide +kernel)
  have g__law_add : Gl X "_law_add" := glc c (by decide +kernel)
  have g__law_times_number : Gl X "_law_times_number" := glc c (by decide +kernel)
  have g_len : Gl X "len" := glc c (by decide +kernel)
  have g_list : Gl X "list" := glc c (by decide +kernel)
  have g_range : Gl X "range" := glc c (by decide +kernel)
  refine sb_cons (ss_asg (se_t1 call_list_of g_list m_list bt_list (sl_name (v0 _)) ok_list (by rfl) (by decide) (by decide)) (psc c 2 (by decide +kernel) (by rfl))) ?_
  refine sb_cons (ss_for (si_rng1 g_range m_range (sa_cons (SE.v (se_bin (SV.l (SE.v (se_bin (SV.l (SE.v (se_b1 call_lenA g_len m_len bt_len (sl_name (v0 _)) ok_len (by rfl) (by decide) (by decide)))) (SV.l (SE.v (se_b1 call_lenA g_len m_len bt_len (sl_name (v1 _)) ok_len (by rfl) (by decide) (by decide)))) op_sub ok_sub))) (SV.l (sv_c pe_int (fun _ => rfl))) op_addA ok_add)) (sa_nil) (by rfl)) (by rfl)) (sg_name (tgc c 3 (by decide +kernel))) (sb_cons (ss_asg (se_bin (SV.l (SE.v (se_bin (SV.l (SE.v (se_b1 call_lenA g_len m_len bt_len (sl_name (v0 _)) ok_len (by rfl) (by decide) (by decide)))) (SV.l (SE.v (se_b1 call_lenA g_len m_len bt_len (sl_name (v1 _)) ok_len (by rfl) (by decide) (by decide)))) op_sub ok_sub))) (sl_name (v3 _)) op_sub ok_sub) (psc c 4 (by decide +kernel) (by rfl))) (sb_cons (ss_asg (SV.e (sv_c pe_int (fun _ => rfl))) (psc c 5 (by decide +kernel) (by rfl))) (sb_cons (ss_if (st_cmp op_lt (SV.l (SE.v (se_bin (SV.l (SE.v (se_bin (sl_name (v4 _)) (SV.l (SE.v (se_b1 call_lenA g_len m_len bt_len (sl_name (v1 _)) ok_len (by rfl) (by decide) (by decide)))) op_addA ok_add))) (SV.l (sv_c pe_int (fun _ => rfl))) op_sub ok_sub))) (SV.l (SE.v (se_b1 call_lenA g_len m_len bt_len (sl_name (v2 _)) ok_len (by rfl) (by decide) (by decide)))) ok_lt (nomark _)) (sb_cons (ss_asg (se_ix (sl_name (v2 _)) (SV.l (SE.v (se_bin (SV.l (SE.v (se_bin (sl_name (v4 _)) (SV.l (SE.v (se_b1 call_lenA g_len m_len bt_len (sl_name (v1 _)) ok_len (by rfl) (by decide) (by decide)))) op_addA ok_add))) (SV.l (sv_c pe_int (fun _ => rfl))) op_sub ok_sub))) (fun _ _ => rfl)) (psc c 5 (by decide +kernel) (by rfl))) (sb_nil)) (sb_nil)) (sb_cons (ss_asg (se_go o_f_law_add hG (hr.mono (by omega)) g__law_add (sa_cons (SE.v (se_go o_f_law_times_number hG (hr.mono (by omega)) g__law_times_number (sa_cons (sv_name (v2 _)) (sa_cons (SE.v (se_ix (sl_name (v1 _)) (SV.l (SE.v (se_neg (SV.l (sv_c pe_int (fun _ => rfl)))))) (fun _ _ => rfl))) (sa_nil) (by rfl)) (by rfl)) (by rfl) (by decide))) (sa_cons (SE.v (se_go o_f_law_times_number hG (hr.mono (by omega)) g__law_times_number (sa_cons (SE.v (se_bin (SV.l (SE.v (se_rep (se_lst (sa_cons (sv_c pe_int (fun _ => rfl)) (sa_nil) (by rfl))) (sl_name (v4 _))))) (sl_name (v1 _)) op_addA ok_add)) (sa_cons (SE.v (se_neg (sl_name (v5 _)))) (sa_nil) (by rfl)) (by rfl)) (by rfl) (by decide))) (sa_nil) (by rfl)) (by rfl)) (by rfl) (by decide)) (psc c 2 (by decide +kernel) (by rfl))) (sb_nil))))) c.own c.calm (by intro _; rfl)) ?_
  refine sb_cons (ss_retNm (v2 _)) ?_
  exact sb_nil
theorem ok_f_law_rest (F : Fun K "_law_rest" "_law_rest" s_f_law_rest f fd) (o_f_law_add : OwnG P w K mg base 2 "_law_add" 2 r_f_law_add) (o_f_law_times_number : OwnG P w K mg base 2 "_law_times_number" 2 r_f_law_times_number) (m_len : mg "len" = none) (m_list : mg "list" = none) (m_range : mg "range" = none) : FnG P w K mg base 3 f fd ["a", "b"] (spF K 2 r_f_law_rest) := by
  refine fun_ok (k := 2) (sp := spF K 2 r_f_law_rest) F sc_f_law_rest (fun vs H Q E h => spF_len h) ?_
  intro cd B up t h a q x hG hr hs
  refine ⟨_, WSs.ps _ _, ?_⟩
  have hb := sb_f_law_rest (X := (cxOf CX0 P w K mg base N_f_law_rest "_law_rest" (defScope s_f_law_rest) f cd B up t h x).nox) ⟨rfl, rfl, sc_f_law_rest.nd, rfl, fun _ _ => rfl, PassesOwn.never⟩ hG hr o_f_law_add o_f_law_times_number m_len m_list m_range
  exact @fn_body (cxOf CX0 P w K mg base N_f_law_rest "_law_rest" (defScope s_f_law_rest) f cd B up t h x).nox h N_f_law_rest 2 b_f_law_rest (defBody s_f_law_rest) a q x rfl hb (by decide) hs
theorem sb_trimmed {X : Cx} (c : CtxF X N_trimmed (defScope s_trimmed) true) (hG : X.A.guards = some []) (hr : Room 0 X.A) (m_len : X.mg "len" = none) : SB X (defBody s_trimmed) b_trimmed := by
  have v0 : ∀ pos : Pos, PE X (.Name "coefficients" pos) (tVar 0) := fun _ => pvc c 0 (by decide +kernel)
  have v1 : ∀ pos : Pos, PE X (.Name "size" pos) (tVar 1) := fun _ => pvc c 1 (by decide +kernel)
  have g_len : Gl X "len" := glc c (by decide +kernel)
  refine sb_cons (ss_asg (se_b1 call_lenA g_len m_len bt_len (sl_name (v0 _)) ok_len (by rfl) (by decide) (by decide)) (psc c 1 (by decide +kernel) (by rfl))) ?_
  refine sb_cons (ss_while fuel (st_and (st_cmp op_gt (sl_name (v1 _)) (SV.l (sv_c pe_int (fun _ => rfl))) ok_gt (nomark _)) (st_one (st_cmp (op_eqA (Room.units hr)) (SV.l (SE.v (se_ix (sl_name (v0 _)) (SV.l (SE.v (se_bin (sl_name (v1 _)) (SV.l (sv_c pe_int (fun _ => rfl))) op_sub ok_sub))) (fun _ _ => rfl)))) (SV.l (sv_c pe_int (fun _ => rfl))) ok_eq (nomark _)))) (sb_cons (ss_aug (SV.l (sv_c pe_int (fun _ => rfl))) (pauc c 1 (by decide +kernel) ip_sub)) (sb_nil)) c.own) ?_
  refine sb_cons (ss_ret (se_sl (sl_name (v0 _)) (so_none) (so_some (sl_name (v1 _))))) ?_
  exact sb_nil
theorem ok_trimmed (F : Fun K "trimmed" "trimmed" s_trimmed f fd) (m_len : mg "len" = none) : FnG P w K mg base 1 f fd ["coefficients"] (spF K 1 r_trimmed) := by
  refine fun_ok (k := 0) (sp := spF K 1 r_trimmed) F sc_trimmed (fun vs H Q E h => spF_len h) ?_
  intro cd B up t h a q x hG hr hs
  refine ⟨_, WSs.ps _ _, ?_⟩
  have hb := sb_trimmed (X := (cxOf CX0 P w K mg base N_trimmed "trimmed" (defScope s_trimmed) f cd B up t h x).nox) ⟨rfl, rfl, sc_trimmed.nd, rfl, fun _ _ => rfl, PassesOwn.never⟩ hG hr m_len
  exact @fn_body (cxOf CX0 P w K mg base N_trimmed "trimmed" (defScope s_trimmed) f cd B up t h x).nox h N_trimmed 1 b_trimmed (defBody s_trimmed) a q x rfl hb (by decide) hs
theorem sb_false_rest {X : Cx} (c : CtxF X N_false_rest (defScope s_false_rest) true) (hG : X.A.guards = some []) (hr : Room 1 X.A) (o_trimmed : OwnG X.prog X.w X.K X.mg X.base 1 "trimmed" 1 r_trimmed) (m_len : X.mg "len" = none) (m_list : X.mg "list" = none) (m_range : X.mg "range" = none) (m_reversed : X.mg "reversed" = none) : SB X (defBody s_false_rest) b_false_rest := by
  have v0 : ∀ pos : Pos, PE X (.Name "a" pos) (tVar 0) := fun _ => pvc c 0 (by decide +kernel)
  have v1 : ∀ pos : Pos, PE X (.Name "b" pos) (tVar 1) := fun _ => pvc c 1 (by decide +kernel)
  have v3 : ∀ pos : Pos, PE X (.Name "degree" pos) (tVar 3) := fun _ => pvc c 3 (by decide +kernel)
  have v4 : ∀ pos : Pos, PE X (.Name "steps" pos) (tVar 4) := fun _ => pvc c 4 (by decide +kernel)
  have v5 : ∀ pos : Pos, PE X (.Name "rest" pos) (tVar 5) := fun _ => pvc c 5 (by decide +kernel)
  have v6 : ∀ pos : Pos, PE X (.Name "shift" pos) (tVar 6) := fun _ => pvc c 6 (by decide +kernel)
  have v7 : ∀ pos : Pos, PE X (.Name "top" pos) (tVar 7) := fun _ => pvc c 7 (by decide +kernel)
  have v8 : ∀ pos : Pos, PE X (.Name "k" pos) (tVar 8) := fun _ => pvc c 8 (by decide +kernel)
  have g_len : Gl X "len" := glc c (by decide +kernel)
  have g_list : Gl X "list" := glc c (by decide +kernel)
  have g_range : Gl X "range" := glc c (by decide +kernel)
  have g_reversed : Gl X "reversed" := glc c (by decide +kernel)
  have g_trimmed : Gl X "trimmed" := glc c (by decide +kernel)
  refine sb_cons (ss_asg (se_ix (sl_name (v1 _)) (SV.l (SE.v (se_neg (SV.l (sv_c pe_int (fun _ => rfl)))))) (fun _ _ => rfl)) (psc c 2 (by decide +kernel) (by rfl))) ?_
  refine sb_cons (ss_asg (se_bin (SV.l (SE.v (se_b1 call_lenA g_len m_len bt_len (sl_name (v1 _)) ok_len (by rfl) (by decide) (by decide)))) (SV.l (sv_c pe_int (fun _ => rfl))) op_sub ok_sub) (psc c 3 (by decide +kernel) (by rfl))) ?_
  refine sb_cons (ss_asg (se_bin (SV.l (SE.v (se_b1 call_lenA g_len m_len bt_len (sl_name (v0 _)) ok_len (by rfl) (by decide) (by decide)))) (sl_name (v3 _)) op_sub ok_sub) (psc c 4 (by decide +kernel) (by rfl))) ?_
  refine sb_cons (ss_asg (se_t1 call_list_of g_list m_list bt_list (sl_name (v0 _)) ok_list (by rfl) (by decide) (by decide)) (psc c 5 (by decide +kernel) (by rfl))) ?_
  refine sb_cons (ss_for (si_rrng1 g_reversed m_reversed g_range m_range (sl_name (v4 _)) (by rfl)) (sg_name (tgc c 6 (by decide +kernel))) (sb_cons (ss_asg (se_ix (sl_name (v5 _)) (SV.l (SE.v (se_bin (sl_name (v6 _)) (sl_name (v3 _)) op_addA ok_add))) (fun _ _ => rfl)) (psc c 7 (by decide +kernel) (by rfl))) (sb_cons (ss_asgCC [("c", 9)] 5 c (by decide +kernel) (by decide +kernel) (si_seq (SE.v (se_sl (sl_name (v5 _)) (so_none) (so_some (SV.l (SE.v (se_bin (sl_name (v6 _)) (sl_name (v3 _)) op_addA ok_add))))))) (fun s0 H0 C0 cl0 fp0 cb0 => sg_name (tgc cb0 9 (by decide +kernel))) (fun s0 H0 C0 cl0 fp0 cb0 => sts_nil) (fun s0 H0 C0 cl0 fp0 cb0 => SE.v (se_bin (sl_name (pvc cb0 2 (by decide +kernel))) (sl_name (pvc cb0 9 (by decide +kernel))) op_mulA ok_mul)) (by intro _; rfl)) (sb_cons (ss_for (si_rng1 g_range m_range (sa_cons (sv_name (v3 _)) (sa_nil) (by rfl)) (by rfl)) (sg_name (tgc c 8 (by decide +kernel))) (sb_cons (ss_augS (v5 _) (SV.l (SE.v (se_bin (sl_name (v6 _)) (sl_name (v8 _)) op_addA ok_add))) (SV.l (SE.v (se_bin (sl_name (v7 _)) (SV.l (SE.v (se_ix (sl_name (v1 _)) (sl_name (v8 _)) (fun _ _ => rfl)))) op_mulA ok_mul))) ip_sub (by intros; rfl)) (sb_nil)) c.own c.calm (by intro _; rfl)) (sb_nil)))) c.own c.calm (by intro _; rfl)) ?_
  refine sb_cons (ss_ret (se_go o_trimmed hG (hr.mono (by omega)) g_trimmed (sa_cons (sv_name (v5 _)) (sa_nil) (by rfl)) (by rfl) (by decide))) ?_
  exact sb_nil
theorem ok_false_rest (F : Fun K "false_rest" "false_rest" s_false_rest f fd) (o_trimmed : OwnG P w K mg base 1 "trimmed" 1 r_trimmed) (m_len : mg "len" = none) (m_list : mg "list" = none) (m_range : mg "range" = none) (m_reversed : mg "reversed" = none) : FnG P w K mg base 2 f fd ["a", "b"] (spF K 2 r_false_rest) := by
  refine fun_ok (k := 1) (sp := spF K 2 r_false_rest) F sc_false_rest (fun vs H Q E h => spF_len h) ?_
  intro cd B up t h a q x hG hr hs
  refine ⟨_, WSs.ps _ _, ?_⟩
  have hb := sb_false_rest (X := (cxOf CX0 P w K mg base N_false_rest "false_rest" (defScope s_false_rest) f cd B up t h x).nox) ⟨rfl, rfl, sc_false_rest.nd, rfl, fun _ _ => rfl, PassesOwn.never⟩ hG hr o_trimmed m_len m_list m_range m_reversed
  exact @fn_body (cxOf CX0 P w K mg base N_false_rest "false_rest" (defScope s_false_rest) f cd B up t h x).nox h N_false_rest 2 b_false_rest (defBody s_false_rest) a q x rfl hb (by decide) hs
theorem sb_divides {X : Cx} (c : CtxF X N_divides (defScope s_divides) true) (hG : X.A.guards = some []) (hr : Room 2 X.A) (o_false_rest : OwnG X.prog X.w X.K X.mg X.base 2 "false_rest" 2 r_false_rest) : SB X (defBody s_divides) b_divides := by
  have v0 : ∀ pos : Pos, PE X (.Name "a" pos) (tVar 0) := fun _ => pvc c 0 (by decide +kernel)
  have v1 : ∀ pos : Pos, PE X (.Name "b" pos) (tVar 1) := fun _ => pvc c 1 (by decide +kernel)
  have g_false_rest : Gl X "false_rest" := glc c (by decide +kernel)
  refine sb_cons (ss_ret (se_cmp (op_eqA (Room.units hr)) (SV.l (SE.v (se_go o_false_rest hG (hr.mono (by omega)) g_false_rest (sa_cons (sv_name (v1 _)) (sa_cons (sv_name (v0 _)) (sa_nil) (by rfl)) (by rfl)) (by rfl) (by decide)))) (SV.l (SE.v (se_lst (sa_nil)))) ok_eq (nomark _))) ?_
  exact sb_nil
theorem ok_divides (F : Fun K "divides" "divides" s_divides f fd) (o_false_rest : OwnG P w K mg base 2 "false_rest" 2 r_false_rest) : FnG P w K mg base 3 f fd ["a", "b"] (spF K 2 r_divides) := by
  refine fun_ok (k := 2) (sp := spF K 2 r_divides) F sc_divides (fun vs H Q E h => spF_len h) ?_
  intro cd B up t h a q x hG hr hs
  refine ⟨_, WSs.ps _ _, ?_⟩
  have hb := sb_divides (X := (cxOf CX0 P w K mg base N_divides "divides" (defScope s_divides) f cd B up t h x).nox) ⟨rfl, rfl, sc_divides.nd, rfl, fun _ _ => rfl, PassesOwn.never⟩ hG hr o_false_rest
  exact @fn_body (cxOf CX0 P w K mg base N_divides "divides" (defScope s_divides) f cd B up t h x).nox h N_divides 2 b_divides (defBody s_divides) a q x rfl hb (by decide) hs
theorem sb_content {X : Cx} (c : CtxF X N_content (defScope s_content) true) (hG : X.A.guards = some []) (hr : Room 0 X.A) (m_gcd : X.mg "gcd" = some (.builtin "math.gcd")) : SB X (defBody s_content) b_content := by
  have v0 : ∀ pos : Pos, PE X (.Name "a" pos) (tVar 0) := fun _ => pvc c 0 (by decide +kernel)
  have v1 : ∀ pos : Pos, PE X (.Name "greatest" pos) (tVar 1) := fun _ => pvc c 1 (by decide +kernel)
  have v2 : ∀ pos : Pos, PE X (.Name "coefficient" pos) (tVar 2) := fun _ => pvc c 2 (by decide +kernel)
  have g_gcd : Gl X "gcd" := glc c (by decide +kernel)
  refine sb_cons (ss_asg (SV.e (sv_c pe_int (fun _ => rfl))) (psc c 1 (by decide +kernel) (by rfl))) ?_
  refine sb_cons (ss_for (si_seq (sv_name (v0 _))) (sg_name (tgc c 2 (by decide +kernel))) (sb_cons (ss_asg (se_f2 cr_gcd g_gcd m_gcd (sl_name (v1 _)) (sl_name (v2 _)) ok_gcd (by rfl) (by rfl) (by decide)) (psc c 1 (by decide +kernel) (by rfl))) (sb_nil)) c.own c.calm (by intro _; rfl)) ?_
  refine sb_cons (ss_retNm (v1 _)) ?_
  exact sb_nil
theorem ok_content (F : Fun K "content" "content" s_content f fd) (m_gcd : mg "gcd" = some (.builtin "math.gcd")) : FnG P w K mg base 1 f fd ["a"] (spF K 1 r_content) := by
  refine fun_ok (k := 0) (sp := spF K 1 r_content) F sc_content (fun vs H Q E h => spF_len h) ?_
  intro cd B up t h a q x hG hr hs
  refine ⟨_, WSs.ps _ _, ?_⟩
  have hb := sb_content (X := (cxOf CX0 P w K mg base N_content "content" (defScope s_content) f cd B up t h x).nox) ⟨rfl, rfl, sc_content.nd, rfl, fun _ _ => rfl, PassesOwn.never⟩ hG hr m_gcd
  exact @fn_body (cxOf CX0 P w K mg base N_content "content" (defScope s_content) f cd B up t h x).nox h N_content 1 b_content (defBody s_content) a q x rfl hb (by decide) hs
theorem sb_plain {X : Cx} (c : CtxF X N_plain (defScope s_plain) true) (hG : X.A.guards = some []) (hr : Room 1 X.A) (o_content : OwnG X.prog X.w X.K X.mg X.base 1 "content" 1 r_content) : SB X (defBody s_plain) b_plain := by
  have v0 : ∀ pos : Pos, PE X (.Name "a" pos) (tVar 0) := fun _ => pvc c 0 (by decide +kernel)
  have v1 : ∀ pos : Pos, PE X (.Name "divisor" pos) (tVar 1) := fun _ => pvc c 1 (by decide +kernel)
  have g_content : Gl X "content" := glc c (by decide +kernel)
  refine sb_cons (ss_if (st_cmp (op_eqA (Room.units hr)) (sl_name (v0 _)) (SV.l (SE.v (se_lst (sa_nil)))) ok_eq (nomark _)) (sb_cons (ss_ret (se_lst (sa_nil))) (sb_nil)) (sb_nil)) ?_
  refine sb_cons (ss_asg (se_go o_content hG (hr.mono (by omega)) g_content (sa_cons (sv_name (v0 _)) (sa_nil) (by rfl)) (by rfl) (by decide)) (psc c 1 (by decide +kernel) (by rfl))) ?_
  refine sb_cons (ss_if (st_cmp op_lt (SV.l (SE.v (se_ix (sl_name (v0 _)) (SV.l (SE.v (se_neg (SV.l (sv_c pe_int (fun _ => rfl)))))) (fun _ _ => rfl)))) (SV.l (sv_c pe_int (fun _ => rfl))) ok_lt (nomark _)) (sb_cons (ss_asg (se_neg (sl_name (v1 _))) (psc c 1 (by decide +kernel) (by rfl))) (sb_nil)) (sb_nil)) ?_
  refine sb_cons (ss_ret (se_compC [("c", 2)] c (by decide +kernel) (si_seq (sv_name (v0 _))) (fun s0 H0 C0 cl0 fp0 cb0 => sg_name (tgc cb0 2 (by decide +kernel))) (fun s0 H0 C0 cl0 fp0 cb0 => sts_nil) (fun s0 H0 C0 cl0 fp0 cb0 => SE.v (se_bin (sl_name (pvc cb0 2 (by decide +kernel))) (sl_name (pvc cb0 1 (by decide +kernel))) op_fdivA ok_fdiv)) (by intro _; rfl))) ?_
  exact sb_nil
theorem ok_plain (F : Fun K "plain" "plain" s_plain f fd) (o_content : OwnG P w K mg base 1 "content" 1 r_content) : FnG P w K mg base 2 f fd ["a"] (spF K 1 r_plain) := by
  refine fun_ok (k := 1) (sp := spF K 1 r_plain) F sc_plain (fun vs H Q E h => spF_len h) ?_
  intro cd B up t h a q x hG hr hs
  refine ⟨_, WSs.ps _ _, ?_⟩
  have hb := sb_plain (X := (cxOf CX0 P w K mg base N_plain "plain" (defScope s_plain) f cd B up t h x).nox) ⟨rfl, rfl, sc_plain.nd, rfl, fun _ _ => rfl, PassesOwn.never⟩ hG hr o_content
  exact @fn_body (cxOf CX0 P w K mg base N_plain "plain" (defScope s_plain) f cd B up t h x).nox h N_plain 1 b_plain (defBody s_plain) a q x rfl hb (by decide) hs
theorem sb_exact_quotient {X : Cx} (c : CtxF X N_exact_quotient (defScope s_exact_quotient) true) (hG : X.A.guards = some []) (hr : Room 0 X.A) (m_any : X.mg "any" = none) (m_divmod : X.mg "divmod" = none) (m_len : X.mg "len" = none) (m_list : X.mg "list" = none) (m_zip : X.mg "zip" = none) : SB X (defBody s_exact_quotient) b_exact_quotient := by
  have v0 : ∀ pos : Pos, PE X (.Name "a" pos) (tVar 0) := fun _ => pvc c 0 (by decide +kernel)
  have v1 : ∀ pos : Pos, PE X (.Name "b" pos) (tVar 1) := fun _ => pvc c 1 (by decide +kernel)
  have v2 : ∀ pos : Pos, PE X (.Name "lead" pos) (tVar 2) := fun _ => pvc c 2 (by decide +kernel)
  have v3 : ∀ pos : Pos, PE X (.Name "degree" pos) (tVar 3) := fun _ => pvc c 3 (by decide +kernel)
  have v4 : ∀ pos : Pos, PE X (.Name "rest" pos) (tVar 4) := fun _ => pvc c 4 (by decide +kernel)
  have v5 : ∀ pos : Pos, PE X (.Name "coefficients" pos) (tVar 5) := fun _ => pvc c 5 (by decide +kernel)
  have v6 : ∀ pos : Pos, PE X (.Name "factor" pos) (tVar 6) := fun _ => pvc c 6 (by decide +kernel)
  have v7 : ∀ pos : Pos, PE X (.Name "left" pos) (tVar 7) := fun _ => pvc c 7 (by decide +kernel)
  have v8 : ∀ pos : Pos, PE X (.Name "shift" pos) (tVar 8) := fun _ => pvc c 8 (by decide +kernel)
  have g_any : Gl X "any" := glc c (by decide +kernel)
  have g_divmod : Gl X "divmod" := glc c (by decide +kernel)
  have g_len : Gl X "len" := glc c (by decide +kernel)
  have g_list : Gl X "list" := glc c (by decide +kernel)
  have g_zip : Gl X "zip" := glc c (by decide +kernel)
  refine sb_cons (ss_asg (se_ix (sl_name (v1 _)) (SV.l (SE.v (se_neg (SV.l (sv_c pe_int (fun _ => rfl)))))) (fun _ _ => rfl)) (psc c 2 (by decide +kernel) (by rfl))) ?_
  refine sb_cons (ss_asg (se_bin (SV.l (SE.v (se_b1 call_lenA g_len m_len bt_len (sl_name (v1 _)) ok_len (by rfl) (by decide) (by decide)))) (SV.l (sv_c pe_int (fun _ => rfl))) op_sub ok_sub) (psc c 3 (by decide +kernel) (by rfl))) ?_
  refine sb_cons (ss_asg (se_t1 call_list_of g_list m_list bt_list (sl_name (v0 _)) ok_list (by rfl) (by decide) (by decide)) (psc c 4 (by decide +kernel) (by rfl))) ?_
  refine sb_cons (ss_asg (se_lst (sa_nil)) (psc c 5 (by decide +kernel) (by rfl))) ?_
  refine sb_cons (ss_while fuel (st_cmp op_gt (SV.l (SE.v (se_b1 call_lenA g_len m_len bt_len (sl_name (v4 _)) ok_len (by rfl) (by decide) (by decide)))) (sl_name (v3 _)) ok_gt (nomark _)) (sb_cons (ss_tgt (SE.v (se_b2 call_divmodW g_divmod m_divmod bt_divmod (SV.l (SE.v (se_pop (v4 _) (by rfl)))) (sl_name (v2 _)) ok_divmod (by rfl) (by rfl) (by decide) (by decide))) (sg_tup c.calm (sgs_cons (sg_name (tgc c 6 (by decide +kernel))) (sgs_cons (sg_name (tgc c 7 (by decide +kernel))) (sgs_nil) (by rfl)) (by rfl)) (by rfl) (by rfl)) (by rfl) (by rfl) (by rfl)) (sb_cons (ss_if (st_cmp (op_neA (Room.units hr)) (sl_name (v7 _)) (SV.l (sv_c pe_int (fun _ => rfl))) ok_ne (nomark _)) (sb_cons (ss_ret (SV.e (sv_c pe_non (fun _ => rfl)))) (sb_nil)) (sb_nil)) (sb_cons (ss_app (v5 _) (sv_name (v6 _)) (by rfl) (by rfl)) (sb_cons (ss_if (st_cmp (op_neA (Room.units hr)) (sl_name (v6 _)) (SV.l (sv_c pe_int (fun _ => rfl))) ok_ne (nomark _)) (sb_cons (ss_asg (se_bin (SV.l (SE.v (se_b1 call_lenA g_len m_len bt_len (sl_name (v4 _)) ok_len (by rfl) (by decide) (by decide)))) (sl_name (v3 _)) op_sub ok_sub) (psc c 8 (by decide +kernel) (by rfl))) (sb_cons (ss_setsl (v4 _) (se_compC [("c", 9), ("e", 10)] c (by decide +kernel) (si_zip g_zip m_zip (sa_cons (SE.v (se_sl (sl_name (v4 _)) (so_some (sl_name (v8 _))) (so_none))) (sa_cons (sv_name (v1 _)) (sa_nil) (by rfl)) (by rfl)) (by rfl) (by rfl)) (fun s0 H0 C0 cl0 fp0 cb0 => sg_tup cb0.calm (sgs_cons (sg_name (tgc cb0 9 (by decide +kernel))) (sgs_cons (sg_name (tgc cb0 10 (by decide +kernel))) (sgs_nil) (by rfl)) (by rfl)) (by rfl) (by rfl)) (fun s0 H0 C0 cl0 fp0 cb0 => sts_nil) (fun s0 H0 C0 cl0 fp0 cb0 => SE.v (se_bin (sl_name (pvc cb0 9 (by decide +kernel))) (SV.l (SE.v (se_bin (sl_name (pvc cb0 6 (by decide +kernel))) (sl_name (pvc cb0 10 (by decide +kernel))) op_mulA ok_mul))) op_sub ok_sub)) (by intro _; rfl)) (sl_name (v8 _)) (by rfl) (by rfl)) (sb_nil))) (sb_nil)) (sb_nil))))) c.own) ?_
  refine sb_cons (ss_ret (se_if (st_val (se_b1 (cr_anyI c.calm) g_any m_any bt_any (sl_name (v4 _)) ok_anyI (by rfl) (by decide) (by decide)) (by intro _; rfl)) (SV.e (sv_c pe_non (fun _ => rfl))) (se_rev (sl_name (v5 _))))) ?_
  exact sb_nil
theorem ok_exact_quotient (F : Fun K "exact_quotient" "exact_quotient" s_exact_quotient f fd) (m_any : mg "any" = none) (m_divmod : mg "divmod" = none) (m_len : mg "len" = none) (m_list : mg "list" = none) (m_zip : mg "zip" = none) : FnG P w K mg base 1 f fd ["a", "b"] (spF K 2 r_exact_quotient) := by
  refine fun_ok (k := 0) (sp := spF K 2 r_exact_quotient) F sc_exact_quotient (fun vs H Q E h => spF_len h) ?_
  intro cd B up t h a q x hG hr hs
  refine ⟨_, WSs.ps _ _, ?_⟩
  have hb := sb_exact_quotient (X := (cxOf CX0 P w K mg base N_exact_quotient "exact_quotient" (defScope s_exact_quotient) f cd B up t h x).nox) ⟨rfl, rfl, sc_exact_quotient.nd, rfl, fun _ _ => rfl, PassesOwn.never⟩ hG hr m_any m_divmod m_len m_list m_zip
  exact @fn_body (cxOf CX0 P w K mg base N_exact_quotient "exact_quotient" (defScope s_exact_quotient) f cd B up t h x).nox h N_exact_quotient 2 b_exact_quotient (defBody s_exact_quotient) a q x rfl hb (by decide) hs
theorem sb_quotient {X : Cx} (c : CtxF X N_quotient (defScope s_quotient) true) (hG : X.A.guards = some []) (hr : Room 2 X.A) (o_exact_quotient : OwnG X.prog X.w X.K X.mg X.base 1 "exact_quotient" 2 r_exact_quotient) (o_plain : OwnG X.prog X.w X.K X.mg X.base 2 "plain" 1 r_plain) : SB X (defBody s_quotient) b_quotient := by
  have v0 : ∀ pos : Pos, PE X (.Name "a" pos) (tVar 0) := fun _ => pvc c 0 (by decide +kernel)
  have v1 : ∀ pos : Pos, PE X (.Name "b" pos) (tVar 1) := fun _ => pvc c 1 (by decide +kernel)
  have g_exact_quotient : Gl X "exact_quotient" := glc c (by decide +kernel)
  have g_plain : Gl X "plain" := glc c (by decide +kernel)
  refine sb_cons (ss_ret (se_go o_exact_quotient hG (hr.mono (by omega)) g_exact_quotient (sa_cons (SE.v (se_go o_plain hG (hr.mono (by omega)) g_plain (sa_cons (sv_name (v0 _)) (sa_nil) (by rfl)) (by rfl) (by decide))) (sa_cons (SE.v (se_go o_plain hG (hr.mono (by omega)) g_plain (sa_cons (sv_name (v1 _)) (sa_nil) (by rfl)) (by rfl) (by decide))) (sa_nil) (by rfl)) (by rfl)) (by rfl) (by decide))) ?_
  exact sb_nil
theorem ok_quotient (F : Fun K "quotient" "quotient" s_quotient f fd) (o_exact_quotient : OwnG P w K mg base 1 "exact_quotient" 2 r_exact_quotient) (o_plain : OwnG P w K mg base 2 "plain" 1 r_plain) : FnG P w K mg base 3 f fd ["a", "b"] (spF K 2 r_quotient) := by
  refine fun_ok (k := 2) (sp := spF K 2 r_quotient) F sc_quotient (fun vs H Q E h => spF_len h) ?_
  intro cd B up t h a q x hG hr hs
  refine ⟨_, WSs.ps _ _, ?_⟩
  have hb := sb_quotient (X := (cxOf CX0 P w K mg base N_quotient "quotient" (defScope s_quotient) f cd B up t h x).nox) ⟨rfl, rfl, sc_quotient.nd, rfl, fun _ _ => rfl, PassesOwn.never⟩ hG hr o_exact_quotient o_plain
  exact @fn_body (cxOf CX0 P w K mg base N_quotient "quotient" (defScope s_quotient) f cd B up t h x).nox h N_quotient 2 b_quotient (defBody s_quotient) a q x rfl hb (by decide) hs
theorem sb_law {X : Cx} (c : CtxF X N_law (defScope s_law) true) (hG : X.A.guards = some []) (hr : Room 3 X.A) (o_f_law_draws : OwnG X.prog X.w X.K X.mg X.base 1 "_law_draws" 2 r_f_law_draws) (o_f_law_is_polynomial : OwnG X.prog X.w X.K X.mg X.base 1 "_law_is_polynomial" 1 r_f_law_is_polynomial) (o_f_law_multiply : OwnG X.prog X.w X.K X.mg X.base 2 "_law_multiply" 2 r_f_law_multiply) (o_f_law_plain : OwnG X.prog X.w X.K X.mg X.base 3 "_law_plain" 1 r_f_law_plain) (o_f_law_polynomial : OwnG X.prog X.w X.K X.mg X.base 2 "_law_polynomial" 1 r_f_law_polynomial) (o_f_law_rest : OwnG X.prog X.w X.K X.mg X.base 3 "_law_rest" 2 r_f_law_rest) (o_divides : OwnG X.prog X.w X.K X.mg X.base 3 "divides" 2 r_divides) (o_false_rest : OwnG X.prog X.w X.K X.mg X.base 2 "false_rest" 2 r_false_rest) (o_quotient : OwnG X.prog X.w X.K X.mg X.base 3 "quotient" 2 r_quotient) (m_bool : X.mg "bool" = none) (m_int : X.mg "int" = none) (m_isinstance : X.mg "isinstance" = none) (m_len : X.mg "len" = none) (m_range : X.mg "range" = none) (m_repr : X.mg "repr" = none) : SB X (defBody s_law) b_law := by
  have v0 : ∀ pos : Pos, PE X (.Name "script" pos) (tVar 0) := fun _ => pvc c 0 (by decide +kernel)
  have v1 : ∀ pos : Pos, PE X (.Name "draws" pos) (tVar 1) := fun _ => pvc c 1 (by decide +kernel)
  have v2 : ∀ pos : Pos, PE X (.Name "a" pos) (tVar 2) := fun _ => pvc c 2 (by decide +kernel)
  have v3 : ∀ pos : Pos, PE X (.Name "b" pos) (tVar 3) := fun _ => pvc c 3 (by decide +kernel)
  have v4 : ∀ pos : Pos, PE X (.Name "c" pos) (tVar 4) := fun _ => pvc c 4 (by decide +kernel)
  have v5 : ∀ pos : Pos, PE X (.Name "whole" pos) (tVar 5) := fun _ => pvc c 5 (by decide +kernel)
  have v6 : ∀ pos : Pos, PE X (.Name "kept" pos) (tVar 6) := fun _ => pvc c 6 (by decide +kernel)
  have v7 : ∀ pos : Pos, PE X (.Name "rest" pos) (tVar 7) := fun _ => pvc c 7 (by decide +kernel)
  have v8 : ∀ pos : Pos, PE X (.Name "answer" pos) (tVar 8) := fun _ => pvc c 8 (by decide +kernel)
  have v9 : ∀ pos : Pos, PE X (.Name "part" pos) (tVar 9) := fun _ => pvc c 9 (by decide +kernel)
  have g__law_draws : Gl X "_law_draws" := glc c (by decide +kernel)
  have g__law_is_polynomial : Gl X "_law_is_polynomial" := glc c (by decide +kernel)
  have g__law_multiply : Gl X "_law_multiply" := glc c (by decide +kernel)
  have g__law_plain : Gl X "_law_plain" := glc c (by decide +kernel)
  have g__law_rest : Gl X "_law_rest" := glc c (by decide +kernel)
  have g_bool : Gl X "bool" := glc c (by decide +kernel)
  have g_divides : Gl X "divides" := glc c (by decide +kernel)
  have g_false_rest : Gl X "false_rest" := glc c (by decide +kernel)
  have g_int : Gl X "int" := glc c (by decide +kernel)
  have g_isinstance : Gl X "isinstance" := glc c (by decide +kernel)
  have g_len : Gl X "len" := glc c (by decide +kernel)
  have g_quotient : Gl X "quotient" := glc c (by decide +kernel)
  have g_range : Gl X "range" := glc c (by decide +kernel)
  have g_repr : Gl X "repr" := glc c (by decide +kernel)
  refine sb_cons (ss_asg (se_go o_f_law_draws hG (hr.mono (by omega)) g__law_draws (sa_cons (sv_name (v0 _)) (sa_cons (sv_c pe_int (fun _ => rfl)) (sa_nil) (by rfl)) (by rfl)) (by rfl) (by decide)) (psc c 1 (by decide +kernel) (by rfl))) ?_
  refine sb_cons (ss_tgt (SE.v (se_compC [("k", 10)] c (by decide +kernel) (si_rng1 g_range m_range (sa_cons (sv_c pe_int (fun _ => rfl)) (sa_nil) (by rfl)) (by rfl)) (fun s0 H0 C0 cl0 fp0 cb0 => sg_name (tgc cb0 10 (by decide +kernel))) (fun s0 H0 C0 cl0 fp0 cb0 => sts_nil) (fun s0 H0 C0 cl0 fp0 cb0 => SE.v (se_go o_f_law_polynomial hG (hr.mono (by omega)) (glc cb0 (by decide +kernel)) (sa_cons (SE.v (se_sl (sl_name (pvc cb0 1 (by decide +kernel))) (so_some (SV.l (SE.v (se_bin (SV.l (sv_c pe_int (fun _ => rfl))) (sl_name (pvc cb0 10 (by decide +kernel))) op_mulA ok_mul)))) (so_some (SV.l (SE.v (se_bin (SV.l (SE.v (se_bin (SV.l (sv_c pe_int (fun _ => rfl))) (sl_name (pvc cb0 10 (by decide +kernel))) op_mulA ok_mul))) (SV.l (sv_c pe_int (fun _ => rfl))) op_addA ok_add)))))) (sa_nil) (by rfl)) (by rfl) (by decide))) (by intro _; rfl))) (sg_tup c.calm (sgs_cons (sg_name (tgc c 2 (by decide +kernel))) (sgs_cons (sg_name (tgc c 3 (by decide +kernel))) (sgs_cons (sg_name (tgc c 4 (by decide +kernel))) (sgs_nil) (by rfl)) (by rfl)) (by rfl)) (by rfl) (by rfl)) (by rfl) (by rfl) (by rfl)) ?_
  refine sb_cons (ss_if (st_cmp (op_eqA (Room.units hr)) (SV.l (SE.v (se_b1 call_lenA g_len m_len bt_len (sl_name (v3 _)) ok_len (by rfl) (by decide) (by decide)))) (SV.l (sv_c pe_int (fun _ => rfl))) ok_eq (nomark _)) (sb_cons (ss_asg (se_lst (sa_cons (SE.v (se_bin (SV.l (sv_c pe_int (fun _ => rfl))) (SV.l (SE.v (se_bin (SV.l (SE.v (se_t1 call_int1 g_int m_int bt_int (SV.l (SE.v (se_ix (sl_name (v1 _)) (SV.l (sv_c pe_int (fun _ => rfl))) (fun _ _ => rfl)))) ok_int (by rfl) (by decide) (by decide)))) (SV.l (sv_c pe_int (fun _ => rfl))) op_modN ok_mod))) op_addA ok_add)) (sa_nil) (by rfl))) (psc c 3 (by decide +kernel) (by rfl))) (sb_nil)) (sb_nil)) ?_
  refine sb_cons (ss_asg (se_cmp (op_eqA (Room.units hr)) (SV.l (SE.v (se_bin (SV.l (SE.v (se_t1 call_int1 g_int m_int bt_int (SV.l (SE.v (se_ix (sl_name (v1 _)) (SV.l (sv_c pe_int (fun _ => rfl))) (fun _ _ => rfl)))) ok_int (by rfl) (by decide) (by decide)))) (SV.l (sv_c pe_int (fun _ => rfl))) op_modN ok_mod))) (SV.l (sv_c pe_int (fun _ => rfl))) ok_eq (nomark _)) (psc c 5 (by decide +kernel) (by rfl))) ?_
  refine sb_cons (ss_if (st_val (SV.e (sv_name (v5 _))) (by intro _; rfl)) (sb_cons (ss_asg (se_go o_f_law_multiply hG (hr.mono (by omega)) g__law_multiply (sa_cons (sv_name (v3 _)) (sa_cons (sv_name (v4 _)) (sa_nil) (by rfl)) (by rfl)) (by rfl) (by decide)) (psc c 2 (by decide +kernel) (by rfl))) (sb_nil)) (sb_nil)) ?_
  refine sb_cons (ss_asg (se_b1 (cr_repr hG (rm200 hr)) g_repr m_repr bt_repr (SV.l (SE.v (se_tup (sa_cons (sv_name (v2 _)) (sa_cons (sv_name (v3 _)) (sa_nil) (by rfl)) (by rfl))))) ok_repr (by rfl) (by decide) (by decide)) (psc c 6 (by decide +kernel) (by rfl))) ?_
  refine sb_cons (ss_asg (se_go o_false_rest hG (hr.mono (by omega)) g_false_rest (sa_cons (sv_name (v2 _)) (sa_cons (sv_name (v3 _)) (sa_nil) (by rfl)) (by rfl)) (by rfl) (by decide)) (psc c 7 (by decide +kernel) (by rfl))) ?_
  refine sb_cons (ss_if (st_or (st_not (st_val (se_go o_f_law_is_polynomial hG (hr.mono (by omega)) g__law_is_polynomial (sa_cons (sv_name (v7 _)) (sa_nil) (by rfl)) (by rfl) (by decide)) (by intro _; rfl))) (st_or (st_cmp (op_neA (Room.units hr)) (sl_name (v7 _)) (SV.l (SE.v (se_go o_f_law_rest hG (hr.mono (by omega)) g__law_rest (sa_cons (sv_name (v2 _)) (sa_cons (sv_name (v3 _)) (sa_nil) (by rfl)) (by rfl)) (by rfl) (by decide)))) ok_ne (nomark _)) (st_one (st_cmp (op_neA (Room.units hr)) (SV.l (SE.v (se_b1 (cr_repr hG (rm200 hr)) g_repr m_repr bt_repr (SV.l (SE.v (se_tup (sa_cons (sv_name (v2 _)) (sa_cons (sv_name (v3 _)) (sa_nil) (by rfl)) (by rfl))))) ok_repr (by rfl) (by decide) (by decide)))) (sl_name (v6 _)) ok_ne (nomark _))))) (sb_cons (ss_ret (SV.e (sv_c pe_bl (fun _ => rfl)))) (sb_nil)) (sb_nil)) ?_
  refine sb_cons (ss_if (st_and (st_cmp op_ge (SV.l (SE.v (se_b1 call_lenA g_len m_len bt_len (sl_name (v2 _)) ok_len (by rfl) (by decide) (by decide)))) (SV.l (SE.v (se_b1 call_lenA g_len m_len bt_len (sl_name (v3 _)) ok_len (by rfl) (by decide) (by decide)))) ok_ge (nomark _)) (st_one (st_cmp op_ge (SV.l (SE.v (se_b1 call_lenA g_len m_len bt_len (sl_name (v7 _)) ok_len (by rfl) (by decide) (by decide)))) (SV.l (SE.v (se_b1 call_lenA g_len m_len bt_len (sl_name (v3 _)) ok_len (by rfl) (by decide) (by decide)))) ok_ge (nomark _)))) (sb_cons (ss_ret (SV.e (sv_c pe_bl (fun _ => rfl)))) (sb_nil)) (sb_nil)) ?_
  refine sb_cons (ss_asg (se_go o_divides hG (hr.mono (by omega)) g_divides (sa_cons (sv_name (v3 _)) (sa_cons (sv_name (v2 _)) (sa_nil) (by rfl)) (by rfl)) (by rfl) (by decide)) (psc c 8 (by decide +kernel) (by rfl))) ?_
  refine sb_cons (ss_if (st_or (st_not (st_val (se_isa (T := .bool) rfl g_isinstance m_isinstance (sl_name (v8 _)) (by rfl) g_bool m_bool bt_bool (by decide) (by decide)) (by intro _; rfl))) (st_or (st_cmp (op_neA (Room.units hr)) (sl_name (v8 _)) (SV.l (SE.v (se_cmp (op_eqA (Room.units hr)) (SV.l (SE.v (se_b1 call_lenA g_len m_len bt_len (sl_name (v7 _)) ok_len (by rfl) (by decide) (by decide)))) (SV.l (sv_c pe_int (fun _ => rfl))) ok_eq (nomark _)))) ok_ne (nomark _)) (st_one (st_and (st_val (SV.e (sv_name (v5 _))) (by intro _; rfl)) (st_one (st_not (st_val (SV.e (sv_name (v8 _))) (by intro _; rfl)))))))) (sb_cons (ss_ret (SV.e (sv_c pe_bl (fun _ => rfl)))) (sb_nil)) (sb_nil)) ?_
  refine sb_cons (ss_if (st_or (st_cmp (op_eqA (Room.units hr)) (SV.l (SE.v (se_b1 call_lenA g_len m_len bt_len (sl_name (v2 _)) ok_len (by rfl) (by decide) (by decide)))) (SV.l (sv_c pe_int (fun _ => rfl))) ok_eq (nomark _)) (st_one (st_not (st_val (SV.e (sv_name (v8 _))) (by intro _; rfl))))) (sb_cons (ss_ret (SV.e (sv_c pe_bl (fun _ => rfl)))) (sb_nil)) (sb_nil)) ?_
  refine sb_cons (ss_asg (se_go o_quotient hG (hr.mono (by omega)) g_quotient (sa_cons (sv_name (v2 _)) (sa_cons (sv_name (v3 _)) (sa_nil) (by rfl)) (by rfl)) (by rfl) (by decide)) (psc c 9 (by decide +kernel) (by rfl))) ?_
  refine sb_cons (ss_if (st_or (st_not (st_val (se_go o_f_law_is_polynomial hG (hr.mono (by omega)) g__law_is_polynomial (sa_cons (sv_name (v9 _)) (sa_nil) (by rfl)) (by rfl) (by decide)) (by intro _; rfl))) (st_one (st_cmp (op_neA (Room.units hr)) (sl_name (v9 _)) (SV.l (SE.v (se_go o_f_law_plain hG (hr.mono (by omega)) g__law_plain (sa_cons (sv_name (v9 _)) (sa_nil) (by rfl)) (by rfl) (by decide)))) ok_ne (nomark _)))) (sb_cons (ss_ret (SV.e (sv_c pe_bl (fun _ => rfl)))) (sb_nil)) (sb_nil)) ?_
  refine sb_cons (ss_ret (se_and (se_cmp (op_eqA (Room.units hr)) (SV.l (SE.v (se_go o_f_law_plain hG (hr.mono (by omega)) g__law_plain (sa_cons (SE.v (se_go o_f_law_multiply hG (hr.mono (by omega)) g__law_multiply (sa_cons (sv_name (v9 _)) (sa_cons (sv_name (v3 _)) (sa_nil) (by rfl)) (by rfl)) (by rfl) (by decide))) (sa_nil) (by rfl)) (by rfl) (by decide)))) (SV.l (SE.v (se_go o_f_law_plain hG (hr.mono (by omega)) g__law_plain (sa_cons (sv_name (v2 _)) (sa_nil) (by rfl)) (by rfl) (by decide)))) ok_eq (nomark _)) (se_one (se_cmp (op_eqA (Room.units hr)) (SV.l (SE.v (se_b1 (cr_repr hG (rm200 hr)) g_repr m_repr bt_repr (SV.l (SE.v (se_tup (sa_cons (sv_name (v2 _)) (sa_cons (sv_name (v3 _)) (sa_nil) (by rfl)) (by rfl))))) ok_repr (by rfl) (by decide) (by decide)))) (sl_name (v6 _)) ok_eq (nomark _))))) ?_
  exact sb_nil
theorem ok_law (F : Fun K "law" "law" s_law f fd) (o_f_law_draws : OwnG P w K mg base 1 "_law_draws" 2 r_f_law_draws) (o_f_law_is_polynomial : OwnG P w K mg base 1 "_law_is_polynomial" 1 r_f_law_is_polynomial) (o_f_law_multiply : OwnG P w K mg base 2 "_law_multiply" 2 r_f_law_multiply) (o_f_law_plain : OwnG P w K mg base 3 "_law_plain" 1 r_f_law_plain) (o_f_law_polynomial : OwnG P w K mg base 2 "_law_polynomial" 1 r_f_law_polynomial) (o_f_law_rest : OwnG P w K mg base 3 "_law_rest" 2 r_f_law_rest) (o_divides : OwnG P w K mg base 3 "divides" 2 r_divides) (o_false_rest : OwnG P w K mg base 2 "false_rest" 2 r_false_rest) (o_quotient : OwnG P w K mg base 3 "quotient" 2 r_quotient) (m_bool : mg "bool" = none) (m_int : mg "int" = none) (m_isinstance : mg "isinstance" = none) (m_len : mg "len" = none) (m_range : mg "range" = none) (m_repr : mg "repr" = none) : FnG P w K mg base 4 f fd ["script"] (spF K 1 r_law) := by
  refine fun_ok (k := 3) (sp := spF K 1 r_law) F sc_law (fun vs H Q E h => spF_len h) ?_
  intro cd B up t h a q x hG hr hs
  refine ⟨_, WSs.ps _ _, ?_⟩
  have hb := sb_law (X := (cxOf CX0 P w K mg base N_law "law" (defScope s_law) f cd B up t h x).nox) ⟨rfl, rfl, sc_law.nd, rfl, fun _ _ => rfl, PassesOwn.never⟩ hG hr o_f_law_draws o_f_law_is_polynomial o_f_law_multiply o_f_law_plain o_f_law_polynomial o_f_law_rest o_divides o_false_rest o_quotient m_bool m_int m_isinstance m_len m_range m_repr
  exact @fn_body (cxOf CX0 P w K mg base N_law "law" (defScope s_law) f cd B up t h x).nox h N_law 1 b_law (defBody s_law) a q x rfl hb (by decide) hs
theorem all_mk {l : PySem.W.OpenLaw} {w : World} {K : PySem.W.Frag} {h : Heap} {mg : Str → Option Value} {fa : Addr} (X : K.In h) (G : h.Ns mainGlobals mg) (hfa : mg "law" = some (.ref fa))
    {f0 f1 f2 f3 f4 f5 f6 f7 f8 f9 f10 f11 f12 f13 f14 f15 f16 f17 f18 : Addr} {od0 an0 od1 an1 od2 an2 od3 an3 od4 an4 od5 an5 od6 an6 od7 an7 od8 an8 od9 an9 od10 an10 od11 an11 od12 an12 od13 an13 od14 an14 od15 an15 od16 an16 od17 an17 od18 an18 : Option Addr} {sl0 sl1 sl2 sl3 sl4 sl5 sl6 sl7 sl8 sl9 sl10 sl11 sl12 sl13 sl14 sl15 sl16 sl17 sl18 : Array (Option Value)} {oc0 kV0 dc0 pm0 cd0 ct0 oc1 kV1 dc1 pm1 cd1 ct1 oc2 kV2 dc2 pm2 cd2 ct2 oc3 kV3 dc3 pm3 cd3 ct3 oc4 kV4 dc4 pm4 cd4 ct4 oc5 kV5 dc5 pm5 cd5 ct5 oc6 kV6 dc6 pm6 cd6 ct6 oc7 kV7 dc7 pm7 cd7 ct7 oc8 kV8 dc8 pm8 cd8 ct8 oc9 kV9 dc9 pm9 cd9 ct9 oc10 kV10 dc10 pm10 cd10 ct10 oc11 kV11 dc11 pm11 cd11 ct11 oc12 kV12 dc12 pm12 cd12 ct12 oc13 kV13 dc13 pm13 cd13 ct13 oc14 kV14 dc14 pm14 cd14 ct14 oc15 kV15 dc15 pm15 cd15 ct15 oc16 kV16 dc16 pm16 cd16 ct16 oc17 kV17 dc17 pm17 cd17 ct17 oc18 kV18 dc18 pm18 cd18 ct18 : Value}
    (a0 : PySem.W.nsIn K mainGlobals "_law_draws" = some (some (.ref f0)))
    (l0 : K.lookup f0 = some ⟨oc0, od0, .func (PySem.W.fnOf "_law_draws" "_law_draws" (defArgs s_f_law_draws) (defBody s_f_law_draws) (defScope s_f_law_draws) .none kV0 dc0 pm0 an0 cd0 ct0), sl0⟩) (q0 : PySem.W.codeIn K cd0 "_law_draws" = true) (k0 : PySem.W.keepIn K (.ref f0) = true)
    (a1 : PySem.W.nsIn K mainGlobals "_law_trim" = some (some (.ref f1)))
    (l1 : K.lookup f1 = some ⟨oc1, od1, .func (PySem.W.fnOf "_law_trim" "_law_trim" (defArgs s_f_law_trim) (defBody s_f_law_trim) (defScope s_f_law_trim) .none kV1 dc1 pm1 an1 cd1 ct1), sl1⟩) (q1 : PySem.W.codeIn K cd1 "_law_trim" = true) (k1 : PySem.W.keepIn K (.ref f1) = true)
    (a2 : PySem.W.nsIn K mainGlobals "_law_multiply" = some (some (.ref f2)))
    (l2 : K.lookup f2 = some ⟨oc2, od2, .func (PySem.W.fnOf "_law_multiply" "_law_multiply" (defArgs s_f_law_multiply) (defBody s_f_law_multiply) (defScope s_f_law_multiply) .none kV2 dc2 pm2 an2 cd2 ct2), sl2⟩) (q2 : PySem.W.codeIn K cd2 "_law_multiply" = true) (k2 : PySem.W.keepIn K (.ref f2) = true)
    (a3 : PySem.W.nsIn K mainGlobals "_law_is_polynomial" = some (some (.ref f3)))
    (l3 : K.lookup f3 = some ⟨oc3, od3, .func (PySem.W.fnOf "_law_is_polynomial" "_law_is_polynomial" (defArgs s_f_law_is_polynomial) (defBody s_f_law_is_polynomial) (defScope s_f_law_is_polynomial) .none kV3 dc3 pm3 an3 cd3 ct3), sl3⟩) (q3 : PySem.W.codeIn K cd3 "_law_is_polynomial" = true) (k3 : PySem.W.keepIn K (.ref f3) = true)
    (a4 : PySem.W.nsIn K mainGlobals "_law_polynomial" = some (some (.ref f4)))
    (l4 : K.lookup f4 = some ⟨oc4, od4, .func (PySem.W.fnOf "_law_polynomial" "_law_polynomial" (defArgs s_f_law_polynomial) (defBody s_f_law_polynomial) (defScope s_f_law_polynomial) .none kV4 dc4 pm4 an4 cd4 ct4), sl4⟩) (q4 : PySem.W.codeIn K cd4 "_law_polynomial" = true) (k4 : PySem.W.keepIn K (.ref f4) = true)
    (a5 : PySem.W.nsIn K mainGlobals "_law_gcd" = some (some (.ref f5)))
    (l5 : K.lookup f5 = some ⟨oc5, od5, .func (PySem.W.fnOf "_law_gcd" "_law_gcd" (defArgs s_f_law_gcd) (defBody s_f_law_gcd) (defScope s_f_law_gcd) .none kV5 dc5 pm5 an5 cd5 ct5), sl5⟩) (q5 : PySem.W.codeIn K cd5 "_law_gcd" = true) (k5 : PySem.W.keepIn K (.ref f5) = true)
    (a6 : PySem.W.nsIn K mainGlobals "_law_content" = some (some (.ref f6)))
    (l6 : K.lookup f6 = some ⟨oc6, od6, .func (PySem.W.fnOf "_law_content" "_law_content" (defArgs s_f_law_content) (defBody s_f_law_content) (defScope s_f_law_content) .none kV6 dc6 pm6 an6 cd6 ct6), sl6⟩) (q6 : PySem.W.codeIn K cd6 "_law_content" = true) (k6 : PySem.W.keepIn K (.ref f6) = true)
    (a7 : PySem.W.nsIn K mainGlobals "_law_plain" = some (some (.ref f7)))
    (l7 : K.lookup f7 = some ⟨oc7, od7, .func (PySem.W.fnOf "_law_plain" "_law_plain" (defArgs s_f_law_plain) (defBody s_f_law_plain) (defScope s_f_law_plain) .none kV7 dc7 pm7 an7 cd7 ct7), sl7⟩) (q7 : PySem.W.codeIn K cd7 "_law_plain" = true) (k7 : PySem.W.keepIn K (.ref f7) = true)
    (a8 : PySem.W.nsIn K mainGlobals "_law_add" = some (some (.ref f8)))
    (l8 : K.lookup f8 = some ⟨oc8, od8, .func (PySem.W.fnOf "_law_add" "_law_add" (defArgs s_f_law_add) (defBody s_f_law_add) (defScope s_f_law_add) .none kV8 dc8 pm8 an8 cd8 ct8), sl8⟩) (q8 : PySem.W.codeIn K cd8 "_law_add" = true) (k8 : PySem.W.keepIn K (.ref f8) = true)
    (a9 : PySem.W.nsIn K mainGlobals "_law_times_number" = some (some (.ref f9)))
    (l9 : K.lookup f9 = some ⟨oc9, od9, .func (PySem.W.fnOf "_law_times_number" "_law_times_number" (defArgs s_f_law_times_number) (defBody s_f_law_times_number) (defScope s_f_law_times_number) .none kV9 dc9 pm9 an9 cd9 ct9), sl9⟩) (q9 : PySem.W.codeIn K cd9 "_law_times_number" = true) (k9 : PySem.W.keepIn K (.ref f9) = true)
    (a10 : PySem.W.nsIn K mainGlobals "_law_rest" = some (some (.ref f10)))
    (l10 : K.lookup f10 = some ⟨oc10, od10, .func (PySem.W.fnOf "_law_rest" "_law_rest" (defArgs s_f_law_rest) (defBody s_f_law_rest) (defScope s_f_law_rest) .none kV10 dc10 pm10 an10 cd10 ct10), sl10⟩) (q10 : PySem.W.codeIn K cd10 "_law_rest" = true) (k10 : PySem.W.keepIn K (.ref f10) = true)
    (a11 : PySem.W.nsIn K mainGlobals "trimmed" = some (some (.ref f11)))
    (l11 : K.lookup f11 = some ⟨oc11, od11, .func (PySem.W.fnOf "trimmed" "trimmed" (defArgs s_trimmed) (defBody s_trimmed) (defScope s_trimmed) .none kV11 dc11 pm11 an11 cd11 ct11), sl11⟩) (q11 : PySem.W.codeIn K cd11 "trimmed" = true) (k11 : PySem.W.keepIn K (.ref f11) = true)
    (a12 : PySem.W.nsIn K mainGlobals "false_rest" = some (some (.ref f12)))
    (l12 : K.lookup f12 = some ⟨oc12, od12, .func (PySem.W.fnOf "false_rest" "false_rest" (defArgs s_false_rest) (defBody s_false_rest) (defScope s_false_rest) .none kV12 dc12 pm12 an12 cd12 ct12), sl12⟩) (q12 : PySem.W.codeIn K cd12 "false_rest" = true) (k12 : PySem.W.keepIn K (.ref f12) = true)
    (a13 : PySem.W.nsIn K mainGlobals "divides" = some (some (.ref f13)))
    (l13 : K.lookup f13 = some ⟨oc13, od13, .func (PySem.W.fnOf "divides" "divides" (defArgs s_divides) (defBody s_divides) (defScope s_divides) .none kV13 dc13 pm13 an13 cd13 ct13), sl13⟩) (q13 : PySem.W.codeIn K cd13 "divides" = true) (k13 : PySem.W.keepIn K (.ref f13) = true)
    (a14 : PySem.W.nsIn K mainGlobals "content" = some (some (.ref f14)))
    (l14 : K.lookup f14 = some ⟨oc14, od14, .func (PySem.W.fnOf "content" "content" (defArgs s_content) (defBody s_content) (defScope s_content) .none kV14 dc14 pm14 an14 cd14 ct14), sl14⟩) (q14 : PySem.W.codeIn K cd14 "content" = true) (k14 : PySem.W.keepIn K (.ref f14) = true)
    (a15 : PySem.W.nsIn K mainGlobals "plain" = some (some (.ref f15)))
    (l15 : K.lookup f15 = some ⟨oc15, od15, .func (PySem.W.fnOf "plain" "plain" (defArgs s_plain) (defBody s_plain) (defScope s_plain) .none kV15 dc15 pm15 an15 cd15 ct15), sl15⟩) (q15 : PySem.W.codeIn K cd15 "plain" = true) (k15 : PySem.W.keepIn K (.ref f15) = true)
    (a16 : PySem.W.nsIn K mainGlobals "exact_quotient" = some (some (.ref f16)))
    (l16 : K.lookup f16 = some ⟨oc16, od16, .func (PySem.W.fnOf "exact_quotient" "exact_quotient" (defArgs s_exact_quotient) (defBody s_exact_quotient) (defScope s_exact_quotient) .none kV16 dc16 pm16 an16 cd16 ct16), sl16⟩) (q16 : PySem.W.codeIn K cd16 "exact_quotient" = true) (k16 : PySem.W.keepIn K (.ref f16) = true)
    (a17 : PySem.W.nsIn K mainGlobals "quotient" = some (some (.ref f17)))
    (l17 : K.lookup f17 = some ⟨oc17, od17, .func (PySem.W.fnOf "quotient" "quotient" (defArgs s_quotient) (defBody s_quotient) (defScope s_quotient) .none kV17 dc17 pm17 an17 cd17 ct17), sl17⟩) (q17 : PySem.W.codeIn K cd17 "quotient" = true) (k17 : PySem.W.keepIn K (.ref f17) = true)
    (a18 : PySem.W.nsIn K mainGlobals "law" = some (some (.ref f18)))
    (l18 : K.lookup f18 = some ⟨oc18, od18, .func (PySem.W.fnOf "law" "law" (defArgs s_law) (defBody s_law) (defScope s_law) .none kV18 dc18 pm18 an18 cd18 ct18), sl18⟩) (q18 : PySem.W.codeIn K cd18 "law" = true) (k18 : PySem.W.keepIn K (.ref f18) = true)
    (z_abs : PySem.W.nsIn K mainGlobals "abs" = some none)
    (z_any : PySem.W.nsIn K mainGlobals "any" = some none)
    (z_bool : PySem.W.nsIn K mainGlobals "bool" = some none)
    (z_divmod : PySem.W.nsIn K mainGlobals "divmod" = some none)
    (z_int : PySem.W.nsIn K mainGlobals "int" = some none)
    (z_isinstance : PySem.W.nsIn K mainGlobals "isinstance" = some none)
    (z_len : PySem.W.nsIn K mainGlobals "len" = some none)
    (z_list : PySem.W.nsIn K mainGlobals "list" = some none)
    (z_max : PySem.W.nsIn K mainGlobals "max" = some none)
    (z_range : PySem.W.nsIn K mainGlobals "range" = some none)
    (z_repr : PySem.W.nsIn K mainGlobals "repr" = some none)
    (z_reversed : PySem.W.nsIn K mainGlobals "reversed" = some none)
    (z_zip : PySem.W.nsIn K mainGlobals "zip" = some none)
    (z_gcd : PySem.W.nsIn K mainGlobals "gcd" = some (some (.builtin "math.gcd")))
    : ∃ fd : FuncData, (∀ (s : Shared) (v : Value), BindsTo s fd ⟨[v], []⟩ [("script", v)]) ∧ ∀ base : Heap, K.In base → base.Ns mainGlobals mg → FnG l.prog w K mg base 4 fa fd ["script"] (spF K 1 r_law) := by
  have e := hfa.symm.trans (PySem.W.mg_of X G a18)
  cases e
  have m_abs := PySem.W.mg_none_of X G z_abs
  have m_any := PySem.W.mg_none_of X G z_any
  have m_bool := PySem.W.mg_none_of X G z_bool
  have m_divmod := PySem.W.mg_none_of X G z_divmod
  have m_int := PySem.W.mg_none_of X G z_int
  have m_isinstance := PySem.W.mg_none_of X G z_isinstance
  have m_len := PySem.W.mg_none_of X G z_len
  have m_list := PySem.W.mg_none_of X G z_list
  have m_max := PySem.W.mg_none_of X G z_max
  have m_range := PySem.W.mg_none_of X G z_range
  have m_repr := PySem.W.mg_none_of X G z_repr
  have m_reversed := PySem.W.mg_none_of X G z_reversed
  have m_zip := PySem.W.mg_none_of X G z_zip
  have m_gcd := PySem.W.mg_of X G z_gcd
  have F0 := fun_mk (st := s_f_law_draws) l0 q0 k0
  have b0 := F0.binds (ps := ["script", "count"]) fun _ _ _ _ _ _ us hl => match us, hl with | [_, _], _ => rfl
  have F1 := fun_mk (st := s_f_law_trim) l1 q1 k1
  have b1 := F1.binds (ps := ["row"]) fun _ _ _ _ _ _ us hl => match us, hl with | [_], _ => rfl
  have F2 := fun_mk (st := s_f_law_multiply) l2 q2 k2
  have b2 := F2.binds (ps := ["a", "b"]) fun _ _ _ _ _ _ us hl => match us, hl with | [_, _], _ => rfl
  have F3 := fun_mk (st := s_f_law_is_polynomial) l3 q3 k3
  have b3 := F3.binds (ps := ["actual"]) fun _ _ _ _ _ _ us hl => match us, hl with | [_], _ => rfl
  have F4 := fun_mk (st := s_f_law_polynomial) l4 q4 k4
  have b4 := F4.binds (ps := ["draws"]) fun _ _ _ _ _ _ us hl => match us, hl with | [_], _ => rfl
  have F5 := fun_mk (st := s_f_law_gcd) l5 q5 k5
  have b5 := F5.binds (ps := ["a", "b"]) fun _ _ _ _ _ _ us hl => match us, hl with | [_, _], _ => rfl
  have F6 := fun_mk (st := s_f_law_content) l6 q6 k6
  have b6 := F6.binds (ps := ["a"]) fun _ _ _ _ _ _ us hl => match us, hl with | [_], _ => rfl
  have F7 := fun_mk (st := s_f_law_plain) l7 q7 k7
  have b7 := F7.binds (ps := ["a"]) fun _ _ _ _ _ _ us hl => match us, hl with | [_], _ => rfl
  have F8 := fun_mk (st := s_f_law_add) l8 q8 k8
  have b8 := F8.binds (ps := ["a", "b"]) fun _ _ _ _ _ _ us hl => match us, hl with | [_, _], _ => rfl
  have F9 := fun_mk (st := s_f_law_times_number) l9 q9 k9
  have b9 := F9.binds (ps := ["a", "factor"]) fun _ _ _ _ _ _ us hl => match us, hl with | [_, _], _ => rfl
  have F10 := fun_mk (st := s_f_law_rest) l10 q10 k10
  have b10 := F10.binds (ps := ["a", "b"]) fun _ _ _ _ _ _ us hl => match us, hl with | [_, _], _ => rfl
  have F11 := fun_mk (st := s_trimmed) l11 q11 k11
  have b11 := F11.binds (ps := ["coefficients"]) fun _ _ _ _ _ _ us hl => match us, hl with | [_], _ => rfl
  have F12 := fun_mk (st := s_false_rest) l12 q12 k12
  have b12 := F12.binds (ps := ["a", "b"]) fun _ _ _ _ _ _ us hl => match us, hl with | [_, _], _ => rfl
  have F13 := fun_mk (st := s_divides) l13 q13 k13
  have b13 := F13.binds (ps := ["a", "b"]) fun _ _ _ _ _ _ us hl => match us, hl with | [_, _], _ => rfl
  have F14 := fun_mk (st := s_content) l14 q14 k14
  have b14 := F14.binds (ps := ["a"]) fun _ _ _ _ _ _ us hl => match us, hl with | [_], _ => rfl
  have F15 := fun_mk (st := s_plain) l15 q15 k15
  have b15 := F15.binds (ps := ["a"]) fun _ _ _ _ _ _ us hl => match us, hl with | [_], _ => rfl
  have F16 := fun_mk (st := s_exact_quotient) l16 q16 k16
  have b16 := F16.binds (ps := ["a", "b"]) fun _ _ _ _ _ _ us hl => match us, hl with | [_, _], _ => rfl
  have F17 := fun_mk (st := s_quotient) l17 q17 k17
  have b17 := F17.binds (ps := ["a", "b"]) fun _ _ _ _ _ _ us hl => match us, hl with | [_, _], _ => rfl
  have F18 := fun_mk (st := s_law) l18 q18 k18
  refine ⟨PySem.W.fnOf "law" "law" (defArgs s_law) (defBody s_law) (defScope s_law) .none kV18 dc18 pm18 an18 cd18 ct18, fun s v => .of_eq rfl, fun base _ _ => ?_⟩
  have o_f_law_draws : OwnG l.prog w K mg base 1 "_law_draws" 2 r_f_law_draws := ⟨f0, _, ["script", "count"], ok_f_law_draws F0 m_int m_len m_range, PySem.W.mg_of X G a0, k0, b0⟩
  have o_f_law_trim : OwnG l.prog w K mg base 1 "_law_trim" 1 r_f_law_trim := ⟨f1, _, ["row"], ok_f_law_trim F1 m_len m_list m_range, PySem.W.mg_of X G a1, k1, b1⟩
  have o_f_law_multiply : OwnG l.prog w K mg base 2 "_law_multiply" 2 r_f_law_multiply := ⟨f2, _, ["a", "b"], ok_f_law_multiply F2 o_f_law_trim m_len m_range, PySem.W.mg_of X G a2, k2, b2⟩
  have o_f_law_is_polynomial : OwnG l.prog w K mg base 1 "_law_is_polynomial" 1 r_f_law_is_polynomial := ⟨f3, _, ["actual"], ok_f_law_is_polynomial F3 m_bool m_int m_isinstance m_len m_list, PySem.W.mg_of X G a3, k3, b3⟩
  have o_f_law_polynomial : OwnG l.prog w K mg base 2 "_law_polynomial" 1 r_f_law_polynomial := ⟨f4, _, ["draws"], ok_f_law_polynomial F4 o_f_law_trim m_int m_range, PySem.W.mg_of X G a4, k4, b4⟩
  have o_f_law_gcd : OwnG l.prog w K mg base 1 "_law_gcd" 2 r_f_law_gcd := ⟨f5, _, ["a", "b"], ok_f_law_gcd F5 m_abs m_int m_range, PySem.W.mg_of X G a5, k5, b5⟩
  have o_f_law_content : OwnG l.prog w K mg base 2 "_law_content" 1 r_f_law_content := ⟨f6, _, ["a"], ok_f_law_content F6 o_f_law_gcd, PySem.W.mg_of X G a6, k6, b6⟩
  have o_f_law_plain : OwnG l.prog w K mg base 3 "_law_plain" 1 r_f_law_plain := ⟨f7, _, ["a"], ok_f_law_plain F7 o_f_law_content m_len, PySem.W.mg_of X G a7, k7, b7⟩
  have o_f_law_add : OwnG l.prog w K mg base 2 "_law_add" 2 r_f_law_add := ⟨f8, _, ["a", "b"], ok_f_law_add F8 o_f_law_trim m_len m_max m_range, PySem.W.mg_of X G a8, k8, b8⟩
  have o_f_law_times_number : OwnG l.prog w K mg base 2 "_law_times_number" 2 r_f_law_times_number := ⟨f9, _, ["a", "factor"], ok_f_law_times_number F9 o_f_law_trim, PySem.W.mg_of X G a9, k9, b9⟩
  have o_f_law_rest : OwnG l.prog w K mg base 3 "_law_rest" 2 r_f_law_rest := ⟨f10, _, ["a", "b"], ok_f_law_rest F10 o_f_law_add o_f_law_times_number m_len m_list m_range, PySem.W.mg_of X G a10, k10, b10⟩
  have o_trimmed : OwnG l.prog w K mg base 1 "trimmed" 1 r_trimmed := ⟨f11, _, ["coefficients"], ok_trimmed F11 m_len, PySem.W.mg_of X G a11, k11, b11⟩
  have o_false_rest : OwnG l.prog w K mg base 2 "false_rest" 2 r_false_rest := ⟨f12, _, ["a", "b"], ok_false_rest F12 o_trimmed m_len m_list m_range m_reversed, PySem.W.mg_of X G a12, k12, b12⟩
  have o_divides : OwnG l.prog w K mg base 3 "divides" 2 r_divides := ⟨f13, _, ["a", "b"], ok_divides F13 o_false_rest, PySem.W.mg_of X G a13, k13, b13⟩
  have o_content : OwnG l.prog w K mg base 1 "content" 1 r_content := ⟨f14, _, ["a"], ok_content F14 m_gcd, PySem.W.mg_of X G a14, k14, b14⟩
  have o_plain : OwnG l.prog w K mg base 2 "plain" 1 r_plain := ⟨f15, _, ["a"], ok_plain F15 o_content, PySem.W.mg_of X G a15, k15, b15⟩
  have o_exact_quotient : OwnG l.prog w K mg base 1 "exact_quotient" 2 r_exact_quotient := ⟨f16, _, ["a", "b"], ok_exact_quotient F16 m_any m_divmod m_len m_list m_zip, PySem.W.mg_of X G a16, k16, b16⟩
  have o_quotient : OwnG l.prog w K mg base 3 "quotient" 2 r_quotient := ⟨f17, _, ["a", "b"], ok_quotient F17 o_exact_quotient o_plain, PySem.W.mg_of X G a17, k17, b17⟩
  exact ok_law F18 o_f_law_draws o_f_law_is_polynomial o_f_law_multiply o_f_law_plain o_f_law_polynomial o_f_law_rest o_divides o_false_rest o_quotient m_bool m_int m_isinstance m_len m_range m_repr
end
end Lp

set_option Elab.async false
set_option linter.all false
set_option maxRecDepth 100000
set_option maxHeartbeats 4000000
namespace Lp
open PySem L2 Ip Lw
theorem divides_eval {a b : List Int} (hb : b ≠ []) (hl : a.length ≤ 1000) (hl2 : b.length ≤ 1000) (hm : ∀ y ∈ b, y.natAbs < 2 ^ 64) : ∃ o, r_divides [.val (.list (iv b)), .val (.list (iv a))] = some (.val (.bool (decide (tp (frl (lst b) b (b.length - 1) (a.length - (b.length - 1)) a) = []))), o) := by
  obtain ⟨o, h⟩ := false_rest_eval hb hl hl2 hm
  have hq := eq_nil_iv (tp (frl (lst b) b (b.length - 1) (a.length - (b.length - 1)) a))
  generalize tp (frl (lst b) b (b.length - 1) (a.length - (b.length - 1)) a) = R at *
  refine run_rt (e := [.val (.list (iv b)), .val (.list (iv a))]) ?_ (by simp)
  show seqB _ _ [.val (.list (iv b)), .val (.list (iv a))] = _
  generalize iv a = A at *
  generalize iv b = B at *
  generalize iv R = J at *
  simp [seqB, ifB, asgB, retB, exprB, op1, op2, look, nameL, nameV, datL, datF, valF, constD, boolT, consA, tupF, lstF, setS_zv, setS_zo, setS_zu, setS_succ, Slot.dat, Slot.mut, Slot.put, nilB, callF, notT, andT, orT, andE, orE, ifE, boolS, tgtB, tupG, consG, nilG, nameG, retNm, appB, augB, callX, ioA, consX, argI, argV, argN, argsS, argS, ioIx, putB, popF, setB, h, hq]
theorem bl_pls {m : Nat} {a : List Int} (ha : tp a = a) (na : a ≠ []) (h : Bl m a) : Bl m (pls a) := by
  obtain ⟨a0, a1, a2, a3, a4⟩ := plain_form ha na
  intro x hx
  have h1 : sct a * x ∈ a := (congrArg (fun l : List Int => sct a * x ∈ l) a2).mpr (List.mem_map.mpr ⟨x, hx, rfl⟩)
  have h2 := h _ h1
  rw [Int.natAbs_mul] at h2
  exact Nat.lt_of_le_of_lt (Nat.le_mul_of_pos_left _ (Int.natAbs_pos.mpr a0)) h2
theorem quotient_run {a b Q : List Int} (ha : tp a = a) (hb : tp b = b) (na : a ≠ []) (nb : b ≠ []) (la : a.length ≤ 900) (lb : b.length ≤ 900) (lq : Q.length ≤ 900) (ba : Bl 100 a) (bb : Bl 60 b) (hl : a.length + 1 = b.length + Q.length) (he : ∀ k, (pls a).getD k 0 = pc Q (cf (pls b)) k) :
    ∃ o, r_quotient [.val (.list (iv a)), .val (.list (iv b))] = some (.own (iv Q), o) := by
  obtain ⟨o1, h1⟩ := plain_eval (m := 100) (by decide) ha ba (by omega)
  obtain ⟨o2, h2⟩ := plain_eval (m := 60) (by decide) hb bb (by omega)
  obtain ⟨_, _, _, a3, a4⟩ := plain_form ha na
  obtain ⟨_, _, _, b3, b4⟩ := plain_form hb nb
  obtain ⟨o3, h3⟩ := exact_eval (m := 0) (a := pls a) (b := pls b) (Q := Q) b3.ne (bl_pls hb nb bb) b3.pos (by omega) (by omega) (by omega) he
  refine run_rt (e := [.val (.list (iv a)), .val (.list (iv b))]) ?_ (by simp)
  show seqB _ _ [.val (.list (iv a)), .val (.list (iv b))] = _
  generalize iv a = A at *
  generalize iv b = B at *
  generalize iv (pls a) = A1 at *
  generalize iv (pls b) = B1 at *
  generalize iv Q = J at *
  simp [seqB, ifB, asgB, retB, exprB, op1, op2, look, nameL, nameV, datL, datF, valF, constD, boolT, consA, tupF, lstF, setS_zv, setS_zo, setS_zu, setS_succ, Slot.dat, Slot.mut, Slot.put, nilB, callF, notT, andT, orT, andE, orE, ifE, boolS, tgtB, tupG, consG, nilG, nameG, retNm, appB, augB, callX, ioA, consX, argI, argV, argN, argsS, argS, ioIx, putB, popF, setB, h1, h2, h3]
theorem okP {p : List Int} (h : Bl 100 p) (hl : p.length ≤ 10) : OkE 10 1 (.list (iv p)) :=
  ((okM_of (n := 0) (m := 0) (ds := iv p) fun d hd => by
    obtain ⟨c, hc, rfl⟩ := List.mem_map.mp hd
    exact okE_int (up_pow (h c hc) (by decide))).mono (by rw [iv_len]; omega) (Nat.le_refl _)).list
theorem repr_ab {a b : List Int} (ba : Bl 100 a) (bb : Bl 100 b) (la : a.length ≤ 10) (lb : b.length ≤ 10) : ∃ Z, reprD (.tuple [.list (iv a), .list (iv b)]) = some (.val (.str Z)) :=
  ⟨_, (((okM_cons (okP ba la) (okM_cons (okP bb lb) okM_nil)).mono (n' := 30) (m' := 5) (by decide) (by decide)).tup).repr (by decide) (by decide)⟩
theorem ne_str (Z : Str) : neD (.str Z) (.str Z) = some (.val (.bool false)) := by simp [neD, bV]
theorem eq_str (Z : Str) : eqD (.str Z) (.str Z) = some (.val (.bool true)) := by simp [eqD, bV]
theorem isa_bb (b : Bool) : isaD .bool (.bool b) = some (.val (.bool true)) := rfl
theorem ne_bool (x y : Bool) : neD (.bool x) (.bool y) = some (.val (.bool (x != y))) := by cases x <;> cases y <;> rfl
theorem ne_iv (x : List Int) : neD (.list (iv x)) (.list (iv x)) = some (.val (.bool false)) := ne_self (plain_iv _) (Nat.le_trans (depth_iv _) (by decide))
theorem eq_iv (x : List Int) : eqD (.list (iv x)) (.list (iv x)) = some (.val (.bool true)) := eq_self' (plain_iv _) (Nat.le_trans (depth_iv _) (by decide))
theorem tail_eval {a b : List Int} {W : Bool} (ha : tp a = a) (hb : tp b = b) (nb : b ≠ []) (la : a.length ≤ 9) (lb : b.length ≤ 5) (ba : Bl 63 a) (bb : Bl 30 b) (hw : W = true → ∃ c, a = mp b c) {x0 x1 x2 x3 x4 : Slot} (h2 : x2 = .val (.list (iv a)) ∨ x2 = .own (iv a)) (h3 : x3 = .val (.list (iv b)) ∨ x3 = .own (iv b)) :
    ∃ e : MEnv, 11 = e.length ∧ (seqB ((asgB 6 (op1 (datL (datF (tupF (consA (nameV 2) (consA (nameV 3) ((fun env => some ([], env)))))))) reprD))) (seqB ((asgB 7 (callF 2 r_false_rest (consA (nameV 2) (consA (nameV 3) ((fun env => some ([], env)))))))) (seqB ((ifB (orT (notT (boolT (callF 1 r_f_law_is_polynomial (consA (nameV 7) ((fun env => some ([], env))))))) (orT (boolT (op2 (nameL 7) (datL (datF (callF 2 r_f_law_rest (consA (nameV 2) (consA (nameV 3) ((fun env => some ([], env)))))))) neD)) (boolT (op2 (datL (datF (op1 (datL (datF (tupF (consA (nameV 2) (consA (nameV 3) ((fun env => some ([], env)))))))) reprD))) (nameL 6) neD)))) (seqB (retB (valF (constD (.bool false)))) (nilB)) (nilB))) (seqB ((ifB (andT (boolT (op2 (datL (datF (op1 (nameL 2) lenD))) (datL (datF (op1 (nameL 3) lenD))) geD)) (boolT (op2 (datL (datF (op1 (nameL 7) lenD))) (datL (datF (op1 (nameL 3) lenD))) geD))) (seqB (retB (valF (constD (.bool false)))) (nilB)) (nilB))) (seqB ((asgB 8 (callF 2 r_divides (consA (nameV 3) (consA (nameV 2) ((fun env => some ([], env)))))))) (seqB ((ifB (orT (notT (boolT (op1 (nameL 8) (isaD .bool)))) (orT (boolT (op2 (nameL 8) (datL (datF (op2 (datL (datF (op1 (nameL 7) lenD))) (datL (constD (.int 0))) eqD))) neD)) (andT (boolT (valF (nameV 5))) (notT (boolT (valF (nameV 8))))))) (seqB (retB (valF (constD (.bool false)))) (nilB)) (nilB))) (seqB ((ifB (orT (boolT (op2 (datL (datF (op1 (nameL 2) lenD))) (datL (constD (.int 0))) eqD)) (notT (boolT (valF (nameV 8))))) (seqB (retB (valF (constD (.bool true)))) (nilB)) (nilB))) (seqB ((asgB 9 (callF 2 r_quotient (consA (nameV 2) (consA (nameV 3) ((fun env => some ([], env)))))))) (seqB ((ifB (orT (notT (boolT (callF 1 r_f_law_is_polynomial (consA (nameV 9) ((fun env => some ([], env))))))) (boolT (op2 (nameL 9) (datL (datF (callF 1 r_f_law_plain (consA (nameV 9) ((fun env => some ([], env))))))) neD))) (seqB (retB (valF (constD (.bool false)))) (nilB)) (nilB))) (seqB ((retB (andE (op2 (datL (datF (callF 1 r_f_law_plain (consA (datF (callF 2 r_f_law_multiply (consA (nameV 9) (consA (nameV 3) ((fun env => some ([], env))))))) ((fun env => some ([], env))))))) (datL (datF (callF 1 r_f_law_plain (consA (nameV 2) ((fun env => some ([], env))))))) eqD) (op2 (datL (datF (op1 (datL (datF (tupF (consA (nameV 2) (consA (nameV 3) ((fun env => some ([], env)))))))) reprD))) (nameL 6) eqD)))) nilB)))))))))) [x0, x1, x2, x3, x4, .val (.bool W), .un, .un, .un, .un, .un] = some (.rt (.val (.bool true)) e) := by
  have ba2 : Bl 100 a := Bl.up ba (by decide)
  have bb2 : Bl 100 b := Bl.up bb (by decide)
  obtain ⟨Z, hZ⟩ := repr_ab ba2 bb2 (by omega) (by omega)
  have pb : 0 < b.length := List.length_pos_iff.mpr nb
  obtain ⟨d, hd⟩ : ∃ d, b.length = d + 1 := ⟨b.length - 1, by omega⟩
  have b64 : ∀ y ∈ b, y.natAbs < 2 ^ 64 := fun y hy => up_pow (bb y hy) (by decide)
  obtain ⟨o1, v1⟩ := false_rest_eval (a := a) nb (by omega) (by omega) b64
  obtain ⟨o2, v2⟩ := law_rest_eval (m := 63) nb ha (by omega) (by omega) bb ba (by decide)
  obtain ⟨o3, v3⟩ := divides_eval (a := a) nb (by omega) (by omega) b64
  have multiple : W = true → tp (frl (lst b) b (b.length - 1) (a.length - (b.length - 1)) a) = [] := fun h => by
    obtain ⟨c, rfl⟩ := hw h
    rw [show b.length - 1 = d by omega]
    exact rest_of_multiple hd hb
  have short : b.length ≤ a.length → (tp (frl (lst b) b (b.length - 1) (a.length - (b.length - 1)) a)).length < b.length := fun h => by
    have h1 := tp_len (frl (lst b) b (b.length - 1) (a.length - (b.length - 1)) a)
    rw [frl_len2 (by omega)] at h1
    omega
  have tR : tp (tp (frl (lst b) b (b.length - 1) (a.length - (b.length - 1)) a)) = tp (frl (lst b) b (b.length - 1) (a.length - (b.length - 1)) a) := tp_tp _
  have quo : a ≠ [] → tp (frl (lst b) b (b.length - 1) (a.length - (b.length - 1)) a) = [] → ∃ Q : List Int, d < a.length ∧ Q.length = a.length - d ∧ ∀ k, (pls a).getD k 0 = pc Q (cf (pls b)) k := fun na h0 => by
    rw [show b.length - 1 = d by omega] at h0
    exact quotient_of hd ha hb na h0
  obtain ⟨o4, v4⟩ := is_polynomial_eval tR
  generalize tp (frl (lst b) b (b.length - 1) (a.length - (b.length - 1)) a) = R at *
  have qa := len_iv a
  have qb := len_iv b
  have qR := len_iv R
  have ea : il a = (a.length : Int) := rfl
  have eb : il b = (b.length : Int) := rfl
  have eR : il R = (R.length : Int) := rfl
  have dR : decide (il R = 0) = decide (R = []) := by
    by_cases c : R = []
    · rw [decide_eq_true c, decide_eq_true]; rw [c]; rfl
    · have := List.length_pos_iff.mpr c
      rw [decide_eq_false c, decide_eq_false]; omega
  have k5 : ∀ (A B : List PyData), reprD (.tuple [.list A, .list B]) = some (.val (.str Z)) → (x2 = .val (.list A) ∨ x2 = .own A) → (x3 = .val (.list B) ∨ x3 = .own B) → ((asgB 6 (op1 (datL (datF (tupF (consA (nameV 2) (consA (nameV 3) ((fun env => some ([], env)))))))) reprD))) [x0, x1, x2, x3, x4, .val (.bool W), .un, .un, .un, .un, .un] = some (.nx [x0, x1, .val (.list A), .val (.list B), x4, .val (.bool W), .val (.str Z), .un, .un, .un, .un]) := by
    intro A B h g2 g3
    rcases g2 with rfl | rfl <;> rcases g3 with rfl | rfl <;> simp [seqB, ifB, asgB, retB, exprB, op1, op2, look, nameL, nameV, datL, datF, valF, constD, boolT, consA, tupF, lstF, setS_zv, setS_zo, setS_zu, setS_succ, Slot.dat, Slot.mut, Slot.put, nilB, callF, notT, andT, orT, andE, orE, ifE, boolS, tgtB, tupG, consG, nilG, nameG, retNm, appB, augB, callX, ioA, consX, argI, argV, argN, argsS, argS, ioIx, putB, popF, setB, h]
  have k6 : ∀ (A B J : List PyData) (o : MEnv) (z : Slot), r_false_rest [.val (.list A), .val (.list B)] = some (.own J, o) → ((asgB 7 (callF 2 r_false_rest (consA (nameV 2) (consA (nameV 3) ((fun env => some ([], env)))))))) [x0, x1, .val (.list A), .val (.list B), x4, .val (.bool W), z, .un, .un, .un, .un] = some (.nx [x0, x1, .val (.list A), .val (.list B), x4, .val (.bool W), z, .own J, .un, .un, .un]) := by
    intro A B J o z h
    simp [seqB, ifB, asgB, retB, exprB, op1, op2, look, nameL, nameV, datL, datF, valF, constD, boolT, consA, tupF, lstF, setS_zv, setS_zo, setS_zu, setS_succ, Slot.dat, Slot.mut, Slot.put, nilB, callF, notT, andT, orT, andE, orE, ifE, boolS, tgtB, tupG, consG, nilG, nameG, retNm, appB, augB, callX, ioA, consX, argI, argV, argN, argsS, argS, ioIx, putB, popF, setB, h]
  have k7 : ∀ (A B J : List PyData) (o o2 : MEnv), r_f_law_is_polynomial [.val (.list J)] = some (.val (.bool true), o) → r_f_law_rest [.val (.list A), .val (.list B)] = some (.own J, o2) → neD (.list J) (.list J) = some (.val (.bool false)) → reprD (.tuple [.list A, .list B]) = some (.val (.str Z)) →
      ((ifB (orT (notT (boolT (callF 1 r_f_law_is_polynomial (consA (nameV 7) ((fun env => some ([], env))))))) (orT (boolT (op2 (nameL 7) (datL (datF (callF 2 r_f_law_rest (consA (nameV 2) (consA (nameV 3) ((fun env => some ([], env)))))))) neD)) (boolT (op2 (datL (datF (op1 (datL (datF (tupF (consA (nameV 2) (consA (nameV 3) ((fun env => some ([], env)))))))) reprD))) (nameL 6) neD)))) (seqB (retB (valF (constD (.bool false)))) (nilB)) (nilB))) [x0, x1, .val (.list A), .val (.list B), x4, .val (.bool W), .val (.str Z), .own J, .un, .un, .un] = some (.nx [x0, x1, .val (.list A), .val (.list B), x4, .val (.bool W), .val (.str Z), .val (.list J), .un, .un, .un]) := by
    intro A B J o o2 g1 g2 g3 g4
    simp [seqB, ifB, asgB, retB, exprB, op1, op2, look, nameL, nameV, datL, datF, valF, constD, boolT, consA, tupF, lstF, setS_zv, setS_zo, setS_zu, setS_succ, Slot.dat, Slot.mut, Slot.put, nilB, callF, notT, andT, orT, andE, orE, ifE, boolS, tgtB, tupG, consG, nilG, nameG, retNm, appB, augB, callX, ioA, consX, argI, argV, argN, argsS, argS, ioIx, putB, popF, setB, g1, g2, g3, g4, ne_str]
  have k8 : ∀ (A B J : List PyData) (na nb nj : Int), lenD (.list A) = some (.val (.int na)) → lenD (.list B) = some (.val (.int nb)) → lenD (.list J) = some (.val (.int nj)) → ¬ (nb ≤ na ∧ nb ≤ nj) →
      ((ifB (andT (boolT (op2 (datL (datF (op1 (nameL 2) lenD))) (datL (datF (op1 (nameL 3) lenD))) geD)) (boolT (op2 (datL (datF (op1 (nameL 7) lenD))) (datL (datF (op1 (nameL 3) lenD))) geD))) (seqB (retB (valF (constD (.bool false)))) (nilB)) (nilB))) [x0, x1, .val (.list A), .val (.list B), x4, .val (.bool W), .val (.str Z), .val (.list J), .un, .un, .un] = some (.nx [x0, x1, .val (.list A), .val (.list B), x4, .val (.bool W), .val (.str Z), .val (.list J), .un, .un, .un]) := by
    intro A B J na nb nj g1 g2 g3 g4
    by_cases c : nb ≤ na
    · have c2 : ¬ nb ≤ nj := fun q => g4 ⟨c, q⟩
      simp [seqB, ifB, asgB, retB, exprB, op1, op2, look, nameL, nameV, datL, datF, valF, constD, boolT, consA, tupF, lstF, setS_zv, setS_zo, setS_zu, setS_succ, Slot.dat, Slot.mut, Slot.put, nilB, callF, notT, andT, orT, andE, orE, ifE, boolS, tgtB, tupG, consG, nilG, nameG, retNm, appB, augB, callX, ioA, consX, argI, argV, argN, argsS, argS, ioIx, putB, popF, setB, g1, g2, g3, ge_ii, c, c2]
    · simp [seqB, ifB, asgB, retB, exprB, op1, op2, look, nameL, nameV, datL, datF, valF, constD, boolT, consA, tupF, lstF, setS_zv, setS_zo, setS_zu, setS_succ, Slot.dat, Slot.mut, Slot.put, nilB, callF, notT, andT, orT, andE, orE, ifE, boolS, tgtB, tupG, consG, nilG, nameG, retNm, appB, augB, callX, ioA, consX, argI, argV, argN, argsS, argS, ioIx, putB, popF, setB, g1, g2, g3, ge_ii, c]
  have k9 : ∀ (A B J : List PyData) (o : MEnv) (V : Bool), r_divides [.val (.list B), .val (.list A)] = some (.val (.bool V), o) → ((asgB 8 (callF 2 r_divides (consA (nameV 3) (consA (nameV 2) ((fun env => some ([], env)))))))) [x0, x1, .val (.list A), .val (.list B), x4, .val (.bool W), .val (.str Z), .val (.list J), .un, .un, .un] = some (.nx [x0, x1, .val (.list A), .val (.list B), x4, .val (.bool W), .val (.str Z), .val (.list J), .val (.bool V), .un, .un]) := by
    intro A B J o V h
    simp [seqB, ifB, asgB, retB, exprB, op1, op2, look, nameL, nameV, datL, datF, valF, constD, boolT, consA, tupF, lstF, setS_zv, setS_zo, setS_zu, setS_succ, Slot.dat, Slot.mut, Slot.put, nilB, callF, notT, andT, orT, andE, orE, ifE, boolS, tgtB, tupG, consG, nilG, nameG, retNm, appB, augB, callX, ioA, consX, argI, argV, argN, argsS, argS, ioIx, putB, popF, setB, h]
  have k10 : ∀ (A B J : List PyData) (nj : Int) (V : Bool), lenD (.list J) = some (.val (.int nj)) → decide (nj = 0) = V → (W = true → V = true) → ((ifB (orT (notT (boolT (op1 (nameL 8) (isaD .bool)))) (orT (boolT (op2 (nameL 8) (datL (datF (op2 (datL (datF (op1 (nameL 7) lenD))) (datL (constD (.int 0))) eqD))) neD)) (andT (boolT (valF (nameV 5))) (notT (boolT (valF (nameV 8))))))) (seqB (retB (valF (constD (.bool false)))) (nilB)) (nilB))) [x0, x1, .val (.list A), .val (.list B), x4, .val (.bool W), .val (.str Z), .val (.list J), .val (.bool V), .un, .un] = some (.nx [x0, x1, .val (.list A), .val (.list B), x4, .val (.bool W), .val (.str Z), .val (.list J), .val (.bool V), .un, .un]) := by
    intro A B J nj V g1 g2 g3
    have nb : ∀ x : Bool, neD (.bool x) (.bool x) = some (.val (.bool false)) := fun x => by cases x <;> rfl
    cases V with
    | true => cases W <;> simp [seqB, ifB, asgB, retB, exprB, op1, op2, look, nameL, nameV, datL, datF, valF, constD, boolT, consA, tupF, lstF, setS_zv, setS_zo, setS_zu, setS_succ, Slot.dat, Slot.mut, Slot.put, nilB, callF, notT, andT, orT, andE, orE, ifE, boolS, tgtB, tupG, consG, nilG, nameG, retNm, appB, augB, callX, ioA, consX, argI, argV, argN, argsS, argS, ioIx, putB, popF, setB, g1, g2, eq_ii, isa_bb, nb]
    | false =>
      cases W with
      | true => exact absurd (g3 rfl) (by decide)
      | false => simp [seqB, ifB, asgB, retB, exprB, op1, op2, look, nameL, nameV, datL, datF, valF, constD, boolT, consA, tupF, lstF, setS_zv, setS_zo, setS_zu, setS_succ, Slot.dat, Slot.mut, Slot.put, nilB, callF, notT, andT, orT, andE, orE, ifE, boolS, tgtB, tupG, consG, nilG, nameG, retNm, appB, augB, callX, ioA, consX, argI, argV, argN, argsS, argS, ioIx, putB, popF, setB, g1, g2, eq_ii, isa_bb, nb]
  have s5 := k5 _ _ hZ h2 h3
  have s6 := k6 _ _ _ _ (.val (.str Z)) v1
  have s7 := k7 _ _ _ _ _ v4 v2 (ne_iv R) hZ
  have s8 := k8 _ _ _ _ _ _ qa qb qR (fun h => by have := short (by omega); omega)
  have s9 := k9 (iv a) (iv b) (iv R) _ _ v3
  have s10 := k10 (iv a) (iv b) (iv R) _ (decide (R = [])) qR dR (fun h => decide_eq_true (multiple h))
  have fin : ∀ {r : MEnv → Option Out} {e : MEnv}, 11 = e.length → r [x0, x1, .val (.list (iv a)), .val (.list (iv b)), x4, .val (.bool W), .val (.str Z), .val (.list (iv R)), .val (.bool (decide (R = []))), .un, .un] = some (.rt (.val (.bool true)) e) →
      ∃ e : MEnv, 11 = e.length ∧ (seqB ((asgB 6 (op1 (datL (datF (tupF (consA (nameV 2) (consA (nameV 3) ((fun env => some ([], env)))))))) reprD))) (seqB ((asgB 7 (callF 2 r_false_rest (consA (nameV 2) (consA (nameV 3) ((fun env => some ([], env)))))))) (seqB ((ifB (orT (notT (boolT (callF 1 r_f_law_is_polynomial (consA (nameV 7) ((fun env => some ([], env))))))) (orT (boolT (op2 (nameL 7) (datL (datF (callF 2 r_f_law_rest (consA (nameV 2) (consA (nameV 3) ((fun env => some ([], env)))))))) neD)) (boolT (op2 (datL (datF (op1 (datL (datF (tupF (consA (nameV 2) (consA (nameV 3) ((fun env => some ([], env)))))))) reprD))) (nameL 6) neD)))) (seqB (retB (valF (constD (.bool false)))) (nilB)) (nilB))) (seqB ((ifB (andT (boolT (op2 (datL (datF (op1 (nameL 2) lenD))) (datL (datF (op1 (nameL 3) lenD))) geD)) (boolT (op2 (datL (datF (op1 (nameL 7) lenD))) (datL (datF (op1 (nameL 3) lenD))) geD))) (seqB (retB (valF (constD (.bool false)))) (nilB)) (nilB))) (seqB ((asgB 8 (callF 2 r_divides (consA (nameV 3) (consA (nameV 2) ((fun env => some ([], env)))))))) (seqB ((ifB (orT (notT (boolT (op1 (nameL 8) (isaD .bool)))) (orT (boolT (op2 (nameL 8) (datL (datF (op2 (datL (datF (op1 (nameL 7) lenD))) (datL (constD (.int 0))) eqD))) neD)) (andT (boolT (valF (nameV 5))) (notT (boolT (valF (nameV 8))))))) (seqB (retB (valF (constD (.bool false)))) (nilB)) (nilB))) r)))))) [x0, x1, x2, x3, x4, .val (.bool W), .un, .un, .un, .un, .un] = some (.rt (.val (.bool true)) e) := fun {r e} he hr =>
    ⟨e, he, (seq_nx s5).trans ((seq_nx s6).trans ((seq_nx s7).trans ((seq_nx s8).trans ((seq_nx s9).trans ((seq_nx s10).trans hr)))))⟩
  by_cases c : a = [] ∨ R ≠ []
  · refine fin (e := [x0, x1, .val (.list (iv a)), .val (.list (iv b)), x4, .val (.bool W), .val (.str Z), .val (.list (iv R)), .val (.bool (decide (R = []))), .un, .un]) rfl ?_
    have k11 : ∀ (A B J : List PyData) (na : Int) (V : Bool) (r : MEnv → Option Out), lenD (.list A) = some (.val (.int na)) → (na = 0 ∨ V = false) → seqB ((ifB (orT (boolT (op2 (datL (datF (op1 (nameL 2) lenD))) (datL (constD (.int 0))) eqD)) (notT (boolT (valF (nameV 8))))) (seqB (retB (valF (constD (.bool true)))) (nilB)) (nilB))) r [x0, x1, .val (.list A), .val (.list B), x4, .val (.bool W), .val (.str Z), .val (.list J), .val (.bool V), .un, .un] = some (.rt (.val (.bool true)) [x0, x1, .val (.list A), .val (.list B), x4, .val (.bool W), .val (.str Z), .val (.list J), .val (.bool V), .un, .un]) := by
      intro A B J na V r g1 g2
      by_cases q : na = 0
      · simp [seqB, ifB, asgB, retB, exprB, op1, op2, look, nameL, nameV, datL, datF, valF, constD, boolT, consA, tupF, lstF, setS_zv, setS_zo, setS_zu, setS_succ, Slot.dat, Slot.mut, Slot.put, nilB, callF, notT, andT, orT, andE, orE, ifE, boolS, tgtB, tupG, consG, nilG, nameG, retNm, appB, augB, callX, ioA, consX, argI, argV, argN, argsS, argS, ioIx, putB, popF, setB, g1, eq_ii, q]
      · have := g2.resolve_left q
        simp [seqB, ifB, asgB, retB, exprB, op1, op2, look, nameL, nameV, datL, datF, valF, constD, boolT, consA, tupF, lstF, setS_zv, setS_zo, setS_zu, setS_succ, Slot.dat, Slot.mut, Slot.put, nilB, callF, notT, andT, orT, andE, orE, ifE, boolS, tgtB, tupG, consG, nilG, nameG, retNm, appB, augB, callX, ioA, consX, argI, argV, argN, argsS, argS, ioIx, putB, popF, setB, g1, eq_ii, q, this]
    refine k11 _ _ _ _ _ _ qa ?_
    rcases c with c | c
    · left; rw [ea, c]; rfl
    · right; exact decide_eq_false c
  · have na : a ≠ [] := fun e => c (.inl e)
    have hR : R = [] := by
      by_cases q : R = []
      · exact q
      · exact absurd (.inr q) c
    obtain ⟨Q, hda, hQ, he⟩ := quo na hR
    have pa : 0 < a.length := List.length_pos_iff.mpr na
    obtain ⟨_, _, a2, a3, a4⟩ := plain_form ha na
    obtain ⟨b0, _, b2, b3, b4⟩ := plain_form hb nb
    have nQ : Q ≠ [] := fun e => by rw [e] at hQ; simp at hQ; omega
    have pQ := quotient_plain a3 b3 (d := d) (by omega) (by omega) nQ he
    have bQ : Bl 400 Q := Bl.up (quotient_bd b3 (bl_pls hb nb bb) (bl_pls ha na ba) (d := d) (by omega) he) (by omega)
    obtain ⟨o5, v5⟩ := quotient_run ha hb na nb (by omega) (by omega) (by omega) ba2 (Bl.up bb (by decide)) (by omega) he
    obtain ⟨o6, v6⟩ := is_polynomial_eval pQ.tp
    obtain ⟨o7, v7⟩ := law_plain_eval (m := 400) (by decide) pQ.tp bQ (by omega)
    rw [pQ.self] at v7
    obtain ⟨o8, v8⟩ := law_multiply_mp (a := Q) (b := b) pQ.tp hb (by omega) (by omega) fun x _ y hy => mulOk_r (b64 y hy)
    have tm : tp (mp Q b) = mp Q b := mp_tp pQ.tp hb
    have em : mp Q b = (pls a).map fun x => sct b * x := by
      have e1 : tp ((pls a).map fun x => sct b * x) = (pls a).map fun x => sct b * x := tp_of_last (.inr (by
        have := lst_map (sct b) (pls a)
        unfold lst at this
        rw [this]
        have := a3.pos
        exact Int.mul_ne_zero b0 (by unfold lst at this; omega)))
      rw [← tm, ← e1]
      refine tp_ext _ _ fun k => ?_
      have mg : ∀ (d : Int) (l : List Int) (k : Nat), (l.map fun x => d * x).getD k 0 = d * l.getD k 0 := fun d l k => by
        by_cases h : k < l.length
        · simp [List.getD, h]
        · rw [getD_hi (a := l.map fun x => d * x) (by rw [List.length_map]; omega), getD_hi (a := l) (by omega), Int.mul_zero]
      rw [mp_cf, mg, he, ← pc_smul]
      refine pc_congr (fun i => ?_) Q k
      exact (congrArg (fun l : List Int => l.getD i 0) b2).trans (mg ..)
    have bm : Bl 500 (mp Q b) := Bl.up (bQ.mp (j := 4) bb (by show _ < 16; omega)) (by decide)
    have lm := mp_len nQ nb
    obtain ⟨o9, v9⟩ := law_plain_eval (m := 500) (by decide) tm bm (by omega)
    have epl : pls (mp Q b) = pls a := by rw [em]; exact a3.smul b0
    rw [epl] at v9
    obtain ⟨o10, v10⟩ := law_plain_eval (m := 63) (by decide) ha ba (by omega)
    have eqp := eq_iv (pls a)
    have neq := ne_iv Q
    have hna : ¬ il a = 0 := by omega
    have dd : decide (R = []) = true := decide_eq_true hR
    have key : ∀ (A B J q P M : List PyData) (n : Int) (o5 o6 o7 o8 o9 o10 : MEnv), lenD (.list A) = some (.val (.int n)) → n ≠ 0 → r_quotient [.val (.list A), .val (.list B)] = some (.own q, o5) → r_f_law_is_polynomial [.val (.list q)] = some (.val (.bool true), o6) → r_f_law_plain [.val (.list q)] = some (.own q, o7) → neD (.list q) (.list q) = some (.val (.bool false)) →
        r_f_law_multiply [.val (.list q), .val (.list B)] = some (.own M, o8) → r_f_law_plain [.val (.list M)] = some (.own P, o9) → r_f_law_plain [.val (.list A)] = some (.own P, o10) → eqD (.list P) (.list P) = some (.val (.bool true)) → reprD (.tuple [.list A, .list B]) = some (.val (.str Z)) →
        (seqB ((ifB (orT (boolT (op2 (datL (datF (op1 (nameL 2) lenD))) (datL (constD (.int 0))) eqD)) (notT (boolT (valF (nameV 8))))) (seqB (retB (valF (constD (.bool true)))) (nilB)) (nilB))) (seqB ((asgB 9 (callF 2 r_quotient (consA (nameV 2) (consA (nameV 3) ((fun env => some ([], env)))))))) (seqB ((ifB (orT (notT (boolT (callF 1 r_f_law_is_polynomial (consA (nameV 9) ((fun env => some ([], env))))))) (boolT (op2 (nameL 9) (datL (datF (callF 1 r_f_law_plain (consA (nameV 9) ((fun env => some ([], env))))))) neD))) (seqB (retB (valF (constD (.bool false)))) (nilB)) (nilB))) (seqB ((retB (andE (op2 (datL (datF (callF 1 r_f_law_plain (consA (datF (callF 2 r_f_law_multiply (consA (nameV 9) (consA (nameV 3) ((fun env => some ([], env))))))) ((fun env => some ([], env))))))) (datL (datF (callF 1 r_f_law_plain (consA (nameV 2) ((fun env => some ([], env))))))) eqD) (op2 (datL (datF (op1 (datL (datF (tupF (consA (nameV 2) (consA (nameV 3) ((fun env => some ([], env)))))))) reprD))) (nameL 6) eqD)))) nilB)))) [x0, x1, .val (.list A), .val (.list B), x4, .val (.bool W), .val (.str Z), .val (.list J), .val (.bool true), .un, .un] = some (.rt (.val (.bool true)) [x0, x1, .val (.list A), .val (.list B), x4, .val (.bool W), .val (.str Z), .val (.list J), .val (.bool true), .val (.list q), .un]) := by
      intro A B J q P M n o5 o6 o7 o8 o9 o10 g1 g2 g3 g4 g5 g6 g7 g8 g9 g10 g11
      simp [seqB, ifB, asgB, retB, exprB, op1, op2, look, nameL, nameV, datL, datF, valF, constD, boolT, consA, tupF, lstF, setS_zv, setS_zo, setS_zu, setS_succ, Slot.dat, Slot.mut, Slot.put, nilB, callF, notT, andT, orT, andE, orE, ifE, boolS, tgtB, tupG, consG, nilG, nameG, retNm, appB, augB, callX, ioA, consX, argI, argV, argN, argsS, argS, ioIx, putB, popF, setB, g1, g2, g3, g4, g5, g6, g7, g8, g9, g10, g11, eq_ii, eq_str]
    refine fin (e := [x0, x1, .val (.list (iv a)), .val (.list (iv b)), x4, .val (.bool W), .val (.str Z), .val (.list (iv R)), .val (.bool true), .val (.list (iv Q)), .un]) rfl ?_
    rw [dd]
    exact key _ _ _ _ _ _ _ _ _ _ _ _ _ qa hna v5 v6 v7 neq v8 v9 v10 eqp hZ
theorem main : ∀ ns : List Int, ns.length ≤ 63 → ∃ args', r_law [.val (.list (ns.map .int))] = some (.val (.bool true), args') := by
  intro ns hn
  obtain ⟨ds, hl, hd, o1, v1⟩ := draws_eval (c := 40) 40 hn (by decide) rfl
  have hdx : ∀ (j : Nat) (J : Int), J = j → j < 40 → ixD (.list (iv ds)) (.int J) = some (.val (.int (ds.getD j 0))) := fun j J hJ hj => by
    have e : ds.getD j 0 = ds[j] := by simp [List.getD, show j < ds.length by omega]
    rw [e]
    exact ix_iv0 j hJ (List.getElem?_eq_getElem (by omega))
  have hdb : ∀ j, j < 40 → 0 ≤ ds.getD j 0 ∧ ds.getD j 0 < 1000 := fun j hj => by
    have e : ds.getD j 0 = ds[j] := by simp [List.getD, show j < ds.length by omega]
    rw [e]
    exact hd _ (List.getElem_mem _)
  have pol : ∀ k, k < 3 → ∃ p, tp p = p ∧ p.length ≤ 5 ∧ Bl 30 p ∧ ∃ o, r_f_law_polynomial [.val (.list (iv ((ds.drop (8 * k)).take 8)))] = some (.own (iv p), o) := fun k hk =>
    law_polynomialB_eval (by rw [List.length_take, List.length_drop]; omega) fun d h => hd d (List.mem_of_mem_drop (List.mem_of_mem_take h))
  obtain ⟨a, ta, la, ba, oa, va⟩ := pol 0 (by decide)
  obtain ⟨b, tb, lb, bb, ob, vb⟩ := pol 1 (by decide)
  obtain ⟨c, tc, lc, bc, oc, vc⟩ := pol 2 (by decide)
  have d24 := hdx 24 24 rfl (by decide)
  have d25 := hdx 25 25 rfl (by decide)
  have b24 := hdb 24 (by decide)
  generalize ds.getD 24 0 = D24 at *
  generalize ds.getD 25 0 = D25 at *
  let sc : Slot := .val (.list (iv ns))
  have k0 : ∀ (I L : List PyData) (o : MEnv), r_f_law_draws [.val (.list I), .val (.int 40)] = some (.own L, o) → ((asgB 1 (callF 2 r_f_law_draws (consA (nameV 0) (consA (constD (.int 40)) ((fun env => some ([], env)))))))) [.val (.list I), .un, .un, .un, .un, .un, .un, .un, .un, .un, .un] = some (.nx [.val (.list I), .own L, .un, .un, .un, .un, .un, .un, .un, .un, .un]) := by
    intro I L o x
    simp [seqB, ifB, asgB, retB, exprB, op1, op2, look, nameL, nameV, datL, datF, valF, constD, boolT, consA, tupF, lstF, setS_zv, setS_zo, setS_zu, setS_succ, Slot.dat, Slot.mut, Slot.put, nilB, callF, notT, andT, orT, andE, orE, ifE, boolS, tgtB, tupG, consG, nilG, nameG, retNm, appB, augB, callX, ioA, consX, argI, argV, argN, argsS, argS, ioIx, putB, popF, setB, x]
  have s0 := k0 _ _ _ v1
  have c1 := comp_asF (fi := rng1I (consA (constD (.int 3)) ((fun env => some ([], env))))) (fe := datF (callF 1 r_f_law_polynomial (consA (datF (slF (nameL 1) (intO (datL (datF (op2 (datL (constD (.int 8))) (nameL 10) mulD)))) (intO (datL (datF (op2 (datL (datF (op2 (datL (constD (.int 8))) (nameL 10) mulD))) (datL (constD (.int 8))) addD)))))) ((fun env => some ([], env))))))
    (j := 10) (env := [sc, .own (iv ds), .un, .un, .un, .un, .un, .un, .un, .un, .un]) (env1 := [sc, .own (iv ds), .un, .un, .un, .un, .un, .un, .un, .un, .un]) [(0, a), (1, b), (2, c)] (fun p => .int p.1) (fun p => .list (iv p.2)) rfl rfl (by simp) (fun p hp => by
      have key : ∀ (D T R : List PyData) (J : Int) (o : MEnv) (s : Slot), cutD D (some (8 * J)) (some (8 * J + 8)) = T → r_f_law_polynomial [.val (.list T)] = some (.own R, o) → (datF (callF 1 r_f_law_polynomial (consA (datF (slF (nameL 1) (intO (datL (datF (op2 (datL (constD (.int 8))) (nameL 10) mulD)))) (intO (datL (datF (op2 (datL (datF (op2 (datL (constD (.int 8))) (nameL 10) mulD))) (datL (constD (.int 8))) addD)))))) ((fun env => some ([], env)))))) [s, .own D, .un, .un, .un, .un, .un, .un, .un, .un, .val (.int J)] = some (.list R, [s, .own D, .un, .un, .un, .un, .un, .un, .un, .un, .val (.int J)]) := by
        intro D T R J o s x y
        simp [seqB, ifB, asgB, retB, exprB, op1, op2, look, nameL, nameV, datL, datF, valF, constD, boolT, consA, tupF, lstF, setS_zv, setS_zo, setS_zu, setS_succ, Slot.dat, Slot.mut, Slot.put, nilB, callF, notT, andT, orT, andE, orE, ifE, boolS, tgtB, tupG, consG, nilG, nameG, retNm, appB, augB, callX, ioA, consX, argI, argV, argN, argsS, argS, ioIx, putB, popF, setB, slF, intO, mulR (a := 8) (b := J) (by decide), add_ii, x, y]
      simp only [List.mem_cons, List.not_mem_nil, or_false] at hp
      rcases hp with rfl | rfl | rfl
      · exact key _ _ _ _ _ _ (sl_iv (i := 0) (j := 8) rfl rfl (by decide) (by omega)) va
      · exact key _ _ _ _ _ _ (sl_iv (i := 8) (j := 16) rfl rfl (by decide) (by omega)) vb
      · exact key _ _ _ _ _ _ (sl_iv (i := 16) (j := 24) rfl rfl (by decide) (by omega)) vc)
  have k1 : ∀ (f : MEnv → Option (Slot × MEnv)) (A B C : PyData) (s D : Slot), f [s, D, .un, .un, .un, .un, .un, .un, .un, .un, .un] = some (.own [A, B, C], [s, D, .un, .un, .un, .un, .un, .un, .un, .un, .un]) → tgtB (datF f) (tupG 3 (consG (nameG 2) (consG (nameG 3) (consG (nameG 4) (nilG))))) [s, D, .un, .un, .un, .un, .un, .un, .un, .un, .un] = some (.nx [s, D, .val A, .val B, .val C, .un, .un, .un, .un, .un, .un]) := by
    intro f A B C s D x
    simp [seqB, ifB, asgB, retB, exprB, op1, op2, look, nameL, nameV, datL, datF, valF, constD, boolT, consA, tupF, lstF, setS_zv, setS_zo, setS_zu, setS_succ, Slot.dat, Slot.mut, Slot.put, nilB, callF, notT, andT, orT, andE, orE, ifE, boolS, tgtB, tupG, consG, nilG, nameG, retNm, appB, augB, callX, ioA, consX, argI, argV, argN, argsS, argS, ioIx, putB, popF, setB, x]
  have s1 := k1 _ _ _ _ _ _ c1
  -- the divisor
  obtain ⟨b', x3, hx3, tb', nb', lb', bb', s2⟩ : ∃ (b' : List Int) (x3 : Slot), (x3 = .val (.list (iv b')) ∨ x3 = .own (iv b')) ∧ tp b' = b' ∧ b' ≠ [] ∧ b'.length ≤ 5 ∧ Bl 30 b' ∧ ((ifB (boolT (op2 (datL (datF (op1 (nameL 3) lenD))) (datL (constD (.int 0))) eqD)) (seqB (asgB 3 (lstF (consA (datF (op2 (datL (constD (.int 1))) (datL (datF (op2 (datL (datF (op1 (datL (datF (op2 (nameL 1) (datL (constD (.int 24))) ixD))) intD))) (datL (constD (.int 5))) modD))) addD)) ((fun env => some ([], env)))))) (nilB)) (nilB))) [sc, .own (iv ds), .val (.list (iv a)), .val (.list (iv b)), .val (.list (iv c)), .un, .un, .un, .un, .un, .un] = some (.nx [sc, .own (iv ds), .val (.list (iv a)), x3, .val (.list (iv c)), .un, .un, .un, .un, .un, .un]) := by
    have k2 : ∀ (D A B C : List PyData) (n P : Int) (s : Slot), lenD (.list B) = some (.val (.int n)) → ixD (.list D) (.int 24) = some (.val (.int P)) → ((ifB (boolT (op2 (datL (datF (op1 (nameL 3) lenD))) (datL (constD (.int 0))) eqD)) (seqB (asgB 3 (lstF (consA (datF (op2 (datL (constD (.int 1))) (datL (datF (op2 (datL (datF (op1 (datL (datF (op2 (nameL 1) (datL (constD (.int 24))) ixD))) intD))) (datL (constD (.int 5))) modD))) addD)) ((fun env => some ([], env)))))) (nilB)) (nilB))) [s, .own D, .val (.list A), .val (.list B), .val (.list C), .un, .un, .un, .un, .un, .un] = some (.nx [s, .own D, .val (.list A), (if n = 0 then .own [.int (1 + P.fmod 5)] else .val (.list B)), .val (.list C), .un, .un, .un, .un, .un, .un]) := by
      intro D A B C n P s g1 g2
      by_cases q : n = 0
      · simp [seqB, ifB, asgB, retB, exprB, op1, op2, look, nameL, nameV, datL, datF, valF, constD, boolT, consA, tupF, lstF, setS_zv, setS_zo, setS_zu, setS_succ, Slot.dat, Slot.mut, Slot.put, nilB, callF, notT, andT, orT, andE, orE, ifE, boolS, tgtB, tupG, consG, nilG, nameG, retNm, appB, augB, callX, ioA, consX, argI, argV, argN, argsS, argS, ioIx, putB, popF, setB, g1, g2, q, eq_ii, int_i, mod_ii, add_ii]
      · simp [seqB, ifB, asgB, retB, exprB, op1, op2, look, nameL, nameV, datL, datF, valF, constD, boolT, consA, tupF, lstF, setS_zv, setS_zo, setS_zu, setS_succ, Slot.dat, Slot.mut, Slot.put, nilB, callF, notT, andT, orT, andE, orE, ifE, boolS, tgtB, tupG, consG, nilG, nameG, retNm, appB, augB, callX, ioA, consX, argI, argV, argN, argsS, argS, ioIx, putB, popF, setB, g1, g2, q, eq_ii]
    have h := k2 (iv ds) (iv a) (iv b) (iv c) _ _ sc (len_iv b) d24
    by_cases q : b = []
    · have q0 : il b = 0 := by rw [q]; rfl
      rw [if_pos q0] at h
      have m1 := Int.fmod_nonneg_of_pos D24 (show (0 : Int) < 5 by decide)
      have m2 := Int.fmod_lt_of_pos D24 (show (0 : Int) < 5 by decide)
      refine ⟨[1 + D24.fmod 5], _, .inr rfl, tp_of_last (.inr ?_), by simp, by simp, fun x hx => ?_, h⟩
      · show 1 + D24.fmod 5 ≠ 0
        omega
      · rw [List.mem_singleton.mp hx]
        show _ < 1073741824
        omega
    · have q0 : ¬ il b = 0 := by
        have := List.length_pos_iff.mpr q
        show ¬ (b.length : Int) = 0
        omega
      rw [if_neg q0] at h
      exact ⟨b, _, .inl rfl, tb, q, lb, bb, h⟩
  -- whole
  have k3 : ∀ (D : List PyData) (P : Int) (a b c d : Slot), ixD (.list D) (.int 25) = some (.val (.int P)) → ((asgB 5 (op2 (datL (datF (op2 (datL (datF (op1 (datL (datF (op2 (nameL 1) (datL (constD (.int 25))) ixD))) intD))) (datL (constD (.int 2))) modD))) (datL (constD (.int 0))) eqD))) [a, .own D, b, c, d, .un, .un, .un, .un, .un, .un] = some (.nx [a, .own D, b, c, d, .val (.bool (decide (P.fmod 2 = 0))), .un, .un, .un, .un, .un]) := by
    intro D P a b c d x
    simp [seqB, ifB, asgB, retB, exprB, op1, op2, look, nameL, nameV, datL, datF, valF, constD, boolT, consA, tupF, lstF, setS_zv, setS_zo, setS_zu, setS_succ, Slot.dat, Slot.mut, Slot.put, nilB, callF, notT, andT, orT, andE, orE, ifE, boolS, tgtB, tupG, consG, nilG, nameG, retNm, appB, augB, callX, ioA, consX, argI, argV, argN, argsS, argS, ioIx, putB, popF, setB, x, int_i, mod_ii, eq_ii]
  have s3 := k3 _ _ sc (.val (.list (iv a))) x3 (.val (.list (iv c))) d25
  generalize hW : decide (D25.fmod 2 = 0) = W at *
  obtain ⟨a', x2, y3, hx2, hy3, ta', la', ba', hw, s4⟩ : ∃ (a' : List Int) (x2 y3 : Slot), (x2 = .val (.list (iv a')) ∨ x2 = .own (iv a')) ∧ (y3 = .val (.list (iv b')) ∨ y3 = .own (iv b')) ∧ tp a' = a' ∧ a'.length ≤ 9 ∧ Bl 63 a' ∧ (W = true → ∃ c, a' = mp b' c) ∧ ((ifB (boolT (valF (nameV 5))) (seqB (asgB 2 (callF 2 r_f_law_multiply (consA (nameV 3) (consA (nameV 4) ((fun env => some ([], env))))))) (nilB)) (nilB))) [sc, .own (iv ds), .val (.list (iv a)), x3, .val (.list (iv c)), .val (.bool W), .un, .un, .un, .un, .un] = some (.nx [sc, .own (iv ds), x2, y3, .val (.list (iv c)), .val (.bool W), .un, .un, .un, .un, .un]) := by
    cases W with
    | false =>
      refine ⟨a, .val (.list (iv a)), x3, .inl rfl, hx3, ta, by omega, Bl.up ba (by decide), fun h => (by cases h), ?_⟩
      simp [seqB, ifB, asgB, retB, exprB, op1, op2, look, nameL, nameV, datL, datF, valF, constD, boolT, consA, tupF, lstF, setS_zv, setS_zo, setS_zu, setS_succ, Slot.dat, Slot.mut, Slot.put, nilB, callF, notT, andT, orT, andE, orE, ifE, boolS, tgtB, tupG, consG, nilG, nameG, retNm, appB, augB, callX, ioA, consX, argI, argV, argN, argsS, argS, ioIx, putB, popF, setB]
    | true =>
      obtain ⟨o2, v2⟩ := law_multiply_mp (a := b') (b := c) tb' tc (by omega) (by omega) fun x hx y hy => mulOk_log (bb' x hx) (bc y hy) (by decide)
      have lm : (mp b' c).length ≤ 9 := by
        by_cases q : c = []
        · rw [mp_nil (.inr q)]; simp
        · have := mp_len nb' q; omega
      refine ⟨mp b' c, .own (iv (mp b' c)), .val (.list (iv b')), .inr rfl, .inl rfl, mp_tp tb' tc, lm, bb'.mp (j := 3) bc (by show _ < 8; omega), fun _ => ⟨c, rfl⟩, ?_⟩
      have k4 : ∀ (B C M : List PyData) (o : MEnv) (s D A x3 : Slot), r_f_law_multiply [.val (.list B), .val (.list C)] = some (.own M, o) → (x3 = .val (.list B) ∨ x3 = .own B) → nio A = true → ((ifB (boolT (valF (nameV 5))) (seqB (asgB 2 (callF 2 r_f_law_multiply (consA (nameV 3) (consA (nameV 4) ((fun env => some ([], env))))))) (nilB)) (nilB))) [s, D, A, x3, .val (.list C), .val (.bool true), .un, .un, .un, .un, .un] = some (.nx [s, D, .own M, .val (.list B), .val (.list C), .val (.bool true), .un, .un, .un, .un, .un]) := by
        intro B C M o s D A x3 g1 g2 g3
        rcases g2 with rfl | rfl <;> simp [seqB, ifB, asgB, retB, exprB, op1, op2, look, nameL, nameV, datL, datF, valF, constD, boolT, consA, tupF, lstF, setS_zv, setS_zo, setS_zu, setS_succ, Slot.dat, Slot.mut, Slot.put, nilB, callF, notT, andT, orT, andE, orE, ifE, boolS, tgtB, tupG, consG, nilG, nameG, retNm, appB, augB, callX, ioA, consX, argI, argV, argN, argsS, argS, ioIx, putB, popF, setB, g1, setS_zero g3]
      exact k4 _ _ _ _ _ _ _ _ v2 hx3 rfl
  obtain ⟨e, he, s5⟩ := tail_eval (x0 := sc) (x1 := .own (iv ds)) (x4 := .val (.list (iv c))) ta' tb' nb' la' lb' ba' bb' hw hx2 hy3
  refine run_rt (e := e) ?_ (by simp; omega)
  exact (seq_nx s0).trans ((seq_nx s1).trans ((seq_nx s2).trans ((seq_nx s3).trans ((seq_nx s4).trans s5))))
end Lp

set_option Elab.async false
open PySem PySem.W PyProof.Rows
set_option maxRecDepth 100000 in
set_option maxHeartbeats 0 in
theorem PySem.Challenge.cw_wheretrue_k04_division_with_rest_holds : PySem.Challenge.rw_wheretrue_k04_division_with_rest.Holds := by
  w_on; o_law; k_head; (case hw => w_witness2)
  k_fill
  refine Ip.walk_go (l := PySem.Challenge.rw_wheretrue_k04_division_with_rest) (n := 63) (k := 4) (x := "script") (run := Lp.r_law) rfl (by decide) rfl ⟨rfl, by decide, by decide⟩ (fun w h Y => PySem.W.kIn_of Y) ?F Lp.main
  case F =>
    intro w mg fa h KX G hmg
    refine' Lp.all_mk KX G hmg ?a0 ?l0 ?q0 ?k0 ?a1 ?l1 ?q1 ?k1 ?a2 ?l2 ?q2 ?k2 ?a3 ?l3 ?q3 ?k3 ?a4 ?l4 ?q4 ?k4 ?a5 ?l5 ?q5 ?k5 ?a6 ?l6 ?q6 ?k6 ?a7 ?l7 ?q7 ?k7 ?a8 ?l8 ?q8 ?k8 ?a9 ?l9 ?q9 ?k9 ?a10 ?l10 ?q10 ?k10 ?a11 ?l11 ?q11 ?k11 ?a12 ?l12 ?q12 ?k12 ?a13 ?l13 ?q13 ?k13 ?a14 ?l14 ?q14 ?k14 ?a15 ?l15 ?q15 ?k15 ?a16 ?l16 ?q16 ?k16 ?a17 ?l17 ?q17 ?k17 ?a18 ?l18 ?q18 ?k18 ?z_abs ?z_any ?z_bool ?z_divmod ?z_int ?z_isinstance ?z_len ?z_list ?z_max ?z_range ?z_repr ?z_reversed ?z_zip ?z_gcd
    (case a0 => k_is)
    (case l0 => k_is)
    (case q0 => k_is)
    (case k0 => k_is)
    (case a1 => k_is)
    (case l1 => k_is)
    (case q1 => k_is)
    (case k1 => k_is)
    (case a2 => k_is)
    (case l2 => k_is)
    (case q2 => k_is)
    (case k2 => k_is)
    (case a3 => k_is)
    (case l3 => k_is)
    (case q3 => k_is)
    (case k3 => k_is)
    (case a4 => k_is)
    (case l4 => k_is)
    (case q4 => k_is)
    (case k4 => k_is)
    (case a5 => k_is)
    (case l5 => k_is)
    (case q5 => k_is)
    (case k5 => k_is)
    (case a6 => k_is)
    (case l6 => k_is)
    (case q6 => k_is)
    (case k6 => k_is)
    (case a7 => k_is)
    (case l7 => k_is)
    (case q7 => k_is)
    (case k7 => k_is)
    (case a8 => k_is)
    (case l8 => k_is)
    (case q8 => k_is)
    (case k8 => k_is)
    (case a9 => k_is)
    (case l9 => k_is)
    (case q9 => k_is)
    (case k9 => k_is)
    (case a10 => k_is)
    (case l10 => k_is)
    (case q10 => k_is)
    (case k10 => k_is)
    (case a11 => k_is)
    (case l11 => k_is)
    (case q11 => k_is)
    (case k11 => k_is)
    (case a12 => k_is)
    (case l12 => k_is)
    (case q12 => k_is)
    (case k12 => k_is)
    (case a13 => k_is)
    (case l13 => k_is)
    (case q13 => k_is)
    (case k13 => k_is)
    (case a14 => k_is)
    (case l14 => k_is)
    (case q14 => k_is)
    (case k14 => k_is)
    (case a15 => k_is)
    (case l15 => k_is)
    (case q15 => k_is)
    (case k15 => k_is)
    (case a16 => k_is)
    (case l16 => k_is)
    (case q16 => k_is)
    (case k16 => k_is)
    (case a17 => k_is)
    (case l17 => k_is)
    (case q17 => k_is)
    (case k17 => k_is)
    (case a18 => k_is)
    (case l18 => k_is)
    (case q18 => k_is)
    (case k18 => k_is)
    (case z_abs => k_is)
    (case z_any => k_is)
    (case z_bool => k_is)
    (case z_divmod => k_is)
    (case z_int => k_is)
    (case z_isinstance => k_is)
    (case z_len => k_is)
    (case z_list => k_is)
    (case z_max => k_is)
    (case z_range => k_is)
    (case z_repr => k_is)
    (case z_reversed => k_is)
    (case z_zip => k_is)
    (case z_gcd => k_is)

