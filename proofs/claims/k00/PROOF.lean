import PyProof.Rows.All
import Wide.All
import OpenK.AllK
import Wide.FinOn
import HandS.ForMost
import HandS.Evl
import HandS.Wide
import HandS.Gcd
import HandS.IsInst
import HandS.Conv
import HandS.TupAny
import PyProof.Rows.EqDataRows
import PyProof.ReprRoads
import HandS.ExcInit
import HandS.Walk
import HandS.RevRange
import HandS.Zip
import HandS.NoneIn
import HandS.TupLe
import PyProof.FactsAll.list
import HandS.Style
import HandS.Star
import HandS.Deep
import HandS.Rev
import HandS.Text
import HandS.StrMore
import HandS.Replace
import HandS.TupMul
import HandS.Dict
import HandS.More
import HandS.Iter
import HandS.Defaults
import HandS.ExcCtx
import HandS.HotCalls
import HandS.ExcIs
import HandS.ExcField
import HandS.Sort
import PyProof.AutoListH
import HandS.Flow
import PyProof.StrOps2
import HandS.ExcValue
import HandS.Codes
import PyProof.P3Eq
import PyProof.ReprBulk
import PySem.Challenge.RW_wheretrue_k00_errors_stand_apart
set_option Elab.async false
set_option linter.all false
set_option maxRecDepth 100000
set_option maxHeartbeats 4000000
/-! A small machine over plain data, and that the program's own run follows it. -/
namespace Ip
open PySem L2
open Evl (Ex sz_of fresh_back)

/-- what stood before a moment, told apart from what is new since -/
class Old where
  Ho : Hp
  strict : Bool
instance noOld : Old := ⟨fun _ => none, false⟩
/-- a list; among what is new it is none of the constants' -/
def SqN [Old] (K : PySem.W.Frag) (H : Hp) (a : Addr) (xs : List V) : Prop := SqL K H a xs ∧ (Old.strict = true → H a = some (.lst xs))
instance [Old] {K : PySem.W.Frag} {H : Hp} {a : Addr} {xs : List V} : Coe (SqN K H a xs) (SqL K H a xs) := ⟨And.left⟩
theorem sqn [Old] {K : PySem.W.Frag} {H : Hp} {a : Addr} {xs : List V} (h : H a = some (.lst xs)) : SqN K H a xs := ⟨Evl.sq_of h, fun _ => h⟩
theorem ex_n [Old] {K : PySem.W.Frag} {H H' : Hp} {a : Addr} {xs : List V} (e : Ex H H') (h : SqN K H a xs) : SqN K H' a xs := ⟨Evl.ex_l e h.1, fun k => e a _ (h.2 k)⟩
theorem ex_nl [Old] {K : PySem.W.Frag} {H H' : Hp} {a : Addr} {xs : List V} (e : Ex H H') (h : SqN K H a xs) : SqL K H' a xs := Evl.ex_l e h.1
/-! ### what a value stands for -/
mutual
def Rep0 (K : PySem.W.Frag) (H : Hp) : PyData → V → Prop
  | .none, v => v = .non
  | .bool b, v => v = .bl b
  | .int i, v => v = .int i
  | .str s, v => v = .str s
  | .list xs, v => ∃ a vs, v = .ref a ∧ SqL K H a vs ∧ Rep0L K H xs vs
  | .tuple xs, v => ∃ a vs, v = .ref a ∧ SqT K H a vs ∧ Rep0L K H xs vs
  | .dict _, _ => False
def Rep0L (K : PySem.W.Frag) (H : Hp) : List PyData → List V → Prop
  | [], vs => vs = []
  | x :: xs, vs => ∃ v r, vs = v :: r ∧ Rep0 K H x v ∧ Rep0L K H xs r
end
/-- a mark: this list or tuple is an old one -/
def oldD (d : PyData) : PyData := .dict [(.none, d)]
def seqD : PyData → Bool
  | .list _ => true
  | .tuple _ => true
  | _ => false
/-- the pairs of a small dict: texts, and atoms -/
def atomV : PyData → V → Bool
  | .str a, .str b => decide (a = b)
  | .int a, .int b => decide (a = b)
  | _, _ => false
def kdRep : List (PyData × PyData) → List (Key × V) → Prop
  | [], ks => ks = []
  | (k, d) :: r, ks => ∃ z v ks', ks = (.inr z, v) :: ks' ∧ k = .str z ∧ atomV d v = true ∧ kdRep r ks'
/-- the dict of a held error: its address, its fields -/
def xfRep (H : Hp) : List (PyData × PyData) → Prop
  | [] => True
  | (k, _) :: q => ∃ (dd : Nat) (fs : List (Str × Int)), k = .int dd ∧ q = fs.map (fun p => (PyData.str p.1, PyData.int p.2)) ∧ H dd = some (.xd (fs.map fun p => (p.1, V.int p.2)))
theorem xfRep.mono {H H' : Hp} (e : Ex H H') : ∀ {r : List (PyData × PyData)}, xfRep H r → xfRep H' r
  | [], _ => True.intro
  | (_, _) :: _, h => by
    obtain ⟨dd, fs, e1, e2, e3⟩ := h
    exact ⟨dd, fs, e1, e2, e dd _ e3⟩
/-- an error as a value: its object, its fields -/
def exRep (H : Hp) (a C : Addr) (fs : List (Str × Int)) : Prop := (fs = [] ∧ H a = some (exo a C none)) ∨ ∃ d : Addr, fs ≠ [] ∧ H a = some (exo a C (some d)) ∧ H d = some (exd d (fs.map fun p => (p.1, V.int p.2)))
theorem exRep.mono {H H' : Hp} (e : Ex H H') {a C : Addr} {fs : List (Str × Int)} (h : exRep H a C fs) : exRep H' a C fs := by
  rcases h with ⟨h1, h2⟩ | ⟨d, h1, h2, h3⟩
  · exact .inl ⟨h1, e a _ h2⟩
  · exact .inr ⟨d, h1, e a _ h2, e d _ h3⟩
variable [Old]
mutual
def Rep (K : PySem.W.Frag) (H : Hp) : PyData → V → Prop
  | .none, v => v = .non
  | .bool b, v => v = .bl b
  | .int i, v => v = .int i
  | .str s, v => v = .str s
  | .list xs, v => ∃ a vs, v = .ref a ∧ SqN K H a vs ∧ RepL K H xs vs
  | .tuple xs, v => ∃ a vs, v = .ref a ∧ SqT K H a vs ∧ RepL K H xs vs
  | .dict kvs, v => (∃ a C dx fs c v0, v = .ref a ∧ H a = some (.ins C dx fs) ∧ PySem.W.nsIn K mainGlobals c = some (some (.ref C)) ∧ RepF K H kvs ((c, v0) :: fs)) ∨ (∃ d, kvs = [(.none, d)] ∧ seqD d = true ∧ Rep0 K Old.Ho d v) ∨ (∃ kvs' a ks, kvs = (.bool true, .none) :: kvs' ∧ v = .ref a ∧ H a = some (.dK ks) ∧ kdRep kvs' ks) ∨ (∃ (n : Nat) (r : List (PyData × PyData)), kvs = (.bool false, .int n) :: r ∧ v = .ref n ∧ xfRep H r) ∨ (∃ (c : Str) (a C : Addr) (fs : List (Str × Int)), kvs = (.bool false, .str c) :: fs.map (fun p => (PyData.str p.1, PyData.int p.2)) ∧ v = .ref a ∧ PySem.W.nsIn K mainGlobals c = some (some (.ref C)) ∧ exRep H a C fs)
def RepL (K : PySem.W.Frag) (H : Hp) : List PyData → List V → Prop
  | [], vs => vs = []
  | x :: xs, vs => ∃ v r, vs = v :: r ∧ Rep K H x v ∧ RepL K H xs r
/-- the fields of an instance, its class ahead of them -/
def RepF (K : PySem.W.Frag) (H : Hp) : List (PyData × PyData) → List (Str × V) → Prop
  | [], fs => fs = []
  | p :: r, fs => ∃ v fs', fs = v :: fs' ∧ RepP K H p v ∧ RepF K H r fs'
def RepP (K : PySem.W.Frag) (H : Hp) : PyData × PyData → Str × V → Prop
  | (k, d), v => k = .str v.1 ∧ Rep K H d v.2
end

variable {K : PySem.W.Frag} {H H' Hs Hs' : Hp}
mutual
theorem Rep.mono (e : Ex H H') : ∀ (d : PyData) (v : V), Rep K H d v → Rep K H' d v
  | .none, _, h => h
  | .bool _, _, h => h
  | .int _, _, h => h
  | .str _, _, h => h
  | .list xs, v, h => by
    obtain ⟨a, vs, e1, h1, h2⟩ := h
    exact ⟨a, vs, e1, ex_n e h1, RepL.mono e xs vs h2⟩
  | .tuple xs, v, h => by
    obtain ⟨a, vs, e1, h1, h2⟩ := h
    exact ⟨a, vs, e1, Evl.ex_t e h1, RepL.mono e xs vs h2⟩
  | .dict kvs, v, h => by
    rcases h with h | h
    · obtain ⟨a, C, dx, fs, c, v0, e1, h1, h2, h3⟩ := h
      exact .inl ⟨a, C, dx, fs, c, v0, e1, e a _ h1, h2, RepF.mono e kvs _ h3⟩
    · rcases h with h | ⟨kvs', a, ks, e1, e2, e3, e4⟩ | ⟨n, r, e1, e2, e3⟩ | ⟨c, a, C, fs, e1, e2, e3, e4⟩
      · exact .inr (.inl h)
      · exact .inr (.inr (.inl ⟨kvs', a, ks, e1, e2, e a _ e3, e4⟩))
      · exact .inr (.inr (.inr (.inl ⟨n, r, e1, e2, e3.mono e⟩)))
      · exact .inr (.inr (.inr (.inr ⟨c, a, C, fs, e1, e2, e3, e4.mono e⟩)))
theorem RepL.mono (e : Ex H H') : ∀ (ds : List PyData) (vs : List V), RepL K H ds vs → RepL K H' ds vs
  | [], _, h => h
  | d :: ds, vs, h => by
    obtain ⟨v, r, e1, h1, h2⟩ := h
    exact ⟨v, r, e1, Rep.mono e d v h1, RepL.mono e ds r h2⟩
theorem RepF.mono (e : Ex H H') : ∀ (kvs : List (PyData × PyData)) (fs : List (Str × V)), RepF K H kvs fs → RepF K H' kvs fs
  | [], _, h => h
  | p :: r, fs, h => by
    obtain ⟨v, fs', e1, h1, h2⟩ := h
    exact ⟨v, fs', e1, RepP.mono e p v h1, RepF.mono e r fs' h2⟩
theorem RepP.mono (e : Ex H H') : ∀ (p : PyData × PyData) (v : Str × V), RepP K H p v → RepP K H' p v
  | (k, d), v, h => ⟨h.1, Rep.mono e d v.2 h.2⟩
end
theorem rep_inst {cn : Str} {d0 : PyData} {r : List (PyData × PyData)} {v : V} (h : Rep K H (.dict ((.str cn, d0) :: r)) v) : ∃ a C dx fs c v0, v = .ref a ∧ H a = some (.ins C dx fs) ∧ PySem.W.nsIn K mainGlobals c = some (some (.ref C)) ∧ RepF K H ((.str cn, d0) :: r) ((c, v0) :: fs) := by
  rcases h with h | ⟨d, e, _⟩ | ⟨_, _, _, e, _⟩ | ⟨_, _, e, _⟩ | ⟨_, _, _, _, e, _⟩
  · exact h
  · cases e
  · cases e
  · cases e
  · cases e
theorem RepL.length : ∀ {ds : List PyData} {vs : List V}, RepL K H ds vs → ds.length = vs.length
  | [], vs, h => by cases (show vs = [] from h); rfl
  | d :: ds, vs, h => by
    obtain ⟨v, r, rfl, _, h2⟩ := h
    rw [List.length_cons, List.length_cons, RepL.length h2]
theorem RepL.get : ∀ {ds : List PyData} {vs : List V} {i : Nat} {d : PyData}, RepL K H ds vs → ds[i]? = some d → ∃ v, vs[i]? = some v ∧ Rep K H d v
  | [], vs, i, d, h, e => by simp at e
  | d0 :: ds, vs, 0, d, h, e => by
    obtain ⟨v, r, rfl, h1, _⟩ := h
    simp at e
    subst e
    exact ⟨v, rfl, h1⟩
  | d0 :: ds, vs, i + 1, d, h, e => by
    obtain ⟨v, r, rfl, _, h2⟩ := h
    simp at e
    obtain ⟨w, e1, e2⟩ := RepL.get h2 e
    exact ⟨w, by simpa using e1, e2⟩
theorem RepL.app : ∀ {ds es : List PyData} {vs ws : List V}, RepL K H ds vs → RepL K H es ws → RepL K H (ds ++ es) (vs ++ ws)
  | [], es, vs, ws, h, g => by cases (show vs = [] from h); exact g
  | d :: ds, es, vs, ws, h, g => by
    obtain ⟨v, r, rfl, h1, h2⟩ := h
    exact ⟨v, r ++ ws, rfl, h1, RepL.app h2 g⟩
theorem RepL.take : ∀ (n : Nat) {ds : List PyData} {vs : List V}, RepL K H ds vs → RepL K H (ds.take n) (vs.take n)
  | 0, _, _, _ => rfl
  | n + 1, [], vs, h => by cases (show vs = [] from h); rfl
  | n + 1, d :: ds, vs, h => by
    obtain ⟨v, r, rfl, h1, h2⟩ := h
    exact ⟨v, r.take n, rfl, h1, RepL.take n h2⟩
theorem RepL.drop : ∀ (n : Nat) {ds : List PyData} {vs : List V}, RepL K H ds vs → RepL K H (ds.drop n) (vs.drop n)
  | 0, _, _, h => h
  | n + 1, [], vs, h => by cases (show vs = [] from h); rfl
  | n + 1, d :: ds, vs, h => by
    obtain ⟨v, r, rfl, h1, h2⟩ := h
    exact RepL.drop n h2
theorem RepL.set {d : PyData} {v : V} (hv : Rep K H d v) : ∀ (i : Nat) {ds : List PyData} {vs : List V}, RepL K H ds vs → RepL K H (ds.set i d) (vs.set i v)
  | _, [], vs, h => by cases (show vs = [] from h); exact (show RepL K H [] [] from rfl)
  | 0, d0 :: ds, vs, h => by
    obtain ⟨w, r, rfl, h1, h2⟩ := h
    exact ⟨v, r, rfl, hv, h2⟩
  | i + 1, d0 :: ds, vs, h => by
    obtain ⟨w, r, rfl, h1, h2⟩ := h
    exact ⟨w, r.set i v, rfl, h1, RepL.set hv i h2⟩
theorem RepL.ints : ∀ (ns : List Int), RepL K H (ns.map .int) (ns.map V.int)
  | [] => rfl
  | n :: ns => ⟨.int n, ns.map V.int, rfl, rfl, RepL.ints ns⟩
theorem RepL.reverse : ∀ {ds : List PyData} {vs : List V}, RepL K H ds vs → RepL K H ds.reverse vs.reverse
  | [], vs, h => by cases (show vs = [] from h); rfl
  | d :: ds, vs, h => by
    obtain ⟨v, r, rfl, h1, h2⟩ := h
    rw [List.reverse_cons, List.reverse_cons]
    exact RepL.app (RepL.reverse h2) ⟨v, [], rfl, h1, rfl⟩

/-! ### slots and their states -/
inductive Slot where
  | un
  | val (d : PyData)
  | own (xs : List PyData)
  | io (xs : List PyData)
abbrev MEnv := List Slot
def Slot.mut : Slot → Option (List PyData)
  | .own xs => some xs
  | .io xs => some xs
  | _ => none
/-- a is the list of a slot that may change | that is the def's own -/
def MutAt (σ : L2.St) (env : MEnv) (a : Addr) : Prop := ∃ (i : Nat) (s : Slot) (xs : List PyData), env[i]? = some s ∧ s.mut = some xs ∧ σ[i]? = some (some (.ref a))
def LocAt (σ : L2.St) (env : MEnv) (a : Addr) : Prop := ∃ (i : Nat) (xs : List PyData), env[i]? = some (.own xs) ∧ σ[i]? = some (some (.ref a))
structure InvS (K : PySem.W.Frag) (Hs H : Hp) (σ : L2.St) (env : MEnv) : Prop where
  len : σ.length = env.length
  sh : Ex Hs H
  vals : ∀ (i : Nat) (d : PyData), env[i]? = some (.val d) → ∃ v, σ[i]? = some (some v) ∧ Rep K Hs d v
  muts : ∀ (i : Nat) (s : Slot) (xs : List PyData), env[i]? = some s → s.mut = some xs → ∃ p vs, σ[i]? = some (some (.ref p)) ∧ Hs p = none ∧ H p = some (.lst vs) ∧ RepL K Hs xs vs
  diff : ∀ (i j : Nat) (s t : Slot) (xs ys : List PyData) (p : Addr), env[i]? = some s → s.mut = some xs → env[j]? = some t → t.mut = some ys → σ[i]? = some (some (.ref p)) → σ[j]? = some (some (.ref p)) → i = j
  old : Ex Old.Ho H ∧ ∀ a, MutAt σ env a → Old.Ho a = none
structure Go (σ : L2.St) (env : MEnv) (Hs H : Hp) (σ' : L2.St) (env' : MEnv) (Hs' H' : Hp) : Prop where
  sh : Ex Hs Hs'
  kp : ∀ a o, H a = some o → ¬ MutAt σ env a → H' a = some o
  dm : ∀ a o, H a = some o → ∃ u, H' a = some u
  nw : ∀ a o, Hs' a = some o → Hs a = some o ∨ H a = none ∨ LocAt σ env a
  ow : ∀ a, MutAt σ' env' a → MutAt σ env a ∨ H a = none
  lo : ∀ a, LocAt σ' env' a → LocAt σ env a ∨ H a = none
  io : ∀ (i : Nat) (xs : List PyData), env[i]? = some (.io xs) → σ'[i]? = σ[i]? ∧ ∃ ys, env'[i]? = some (.io ys)
variable {σ σ' σ1 σ2 : L2.St} {env env' env1 env2 : MEnv} {H1 H2 Hs1 Hs2 : Hp}
theorem Go.refl : Go σ env Hs H σ env Hs H := ⟨Ex.refl _, fun _ _ h _ => h, fun _ o h => ⟨o, h⟩, fun _ _ h => .inl h, fun _ h => .inl h, fun _ h => .inl h, fun _ xs h => ⟨rfl, xs, h⟩⟩
theorem Go.none_back (g : Go σ env Hs H σ1 env1 Hs1 H1) {a : Addr} (h : H1 a = none) : H a = none := by
  cases q : H a with
  | none => rfl
  | some o =>
    obtain ⟨u, e⟩ := g.dm a o q
    rw [e] at h
    cases h
theorem Go.trans (g : Go σ env Hs H σ1 env1 Hs1 H1) (g' : Go σ1 env1 Hs1 H1 σ2 env2 Hs2 H2) : Go σ env Hs H σ2 env2 Hs2 H2 where
  sh := g.sh.trans g'.sh
  kp := fun a o h n => g'.kp a o (g.kp a o h n) fun m => by
    rcases g.ow a m with q | q
    · exact n q
    · rw [q] at h; cases h
  dm := fun a o h => by
    obtain ⟨u, e⟩ := g.dm a o h
    exact g'.dm a u e
  nw := fun a o h => by
    rcases g'.nw a o h with q | q | q
    · exact g.nw a o q
    · exact .inr (.inl (g.none_back q))
    · rcases g.lo a q with r | r
      · exact .inr (.inr r)
      · exact .inr (.inl r)
  ow := fun a h => by
    rcases g'.ow a h with q | q
    · exact g.ow a q
    · exact .inr (g.none_back q)
  lo := fun a h => by
    rcases g'.lo a h with q | q
    · exact g.lo a q
    · exact .inr (g.none_back q)
  io := fun i xs h => by
    obtain ⟨e1, ys, h1⟩ := g.io i xs h
    obtain ⟨e2, zs, h2⟩ := g'.io i ys h1
    exact ⟨e2.trans e1, zs, h2⟩
/-- in an expression: the slots' objects are none but those of before -/
structure GoE (σ : L2.St) (env : MEnv) (Hs H : Hp) (env' : MEnv) (Hs' H' : Hp) : Prop where
  sh : Ex Hs Hs'
  kp : ∀ a o, H a = some o → ¬ MutAt σ env a → H' a = some o
  dm : ∀ a o, H a = some o → ∃ u, H' a = some u
  nw : ∀ a o, Hs' a = some o → Hs a = some o ∨ H a = none ∨ LocAt σ env a
  ow : ∀ a, MutAt σ env' a → MutAt σ env a
  lo : ∀ a, LocAt σ env' a → LocAt σ env a
  io : ∀ (i : Nat) (xs : List PyData), env[i]? = some (.io xs) → ∃ ys, env'[i]? = some (.io ys)
theorem GoE.go (g : GoE σ env Hs H env' Hs' H') : Go σ env Hs H σ env' Hs' H' := ⟨g.sh, g.kp, g.dm, g.nw, fun a h => .inl (g.ow a h), fun a h => .inl (g.lo a h), fun i xs h => ⟨rfl, g.io i xs h⟩⟩
theorem GoE.refl : GoE σ env Hs H env Hs H := ⟨Ex.refl _, fun _ _ h _ => h, fun _ o h => ⟨o, h⟩, fun _ _ h => .inl h, fun _ h => h, fun _ h => h, fun _ xs h => ⟨xs, h⟩⟩
theorem GoE.none_back (g : GoE σ env Hs H env1 Hs1 H1) {a : Addr} (h : H1 a = none) : H a = none := g.go.none_back h
theorem GoE.trans (g : GoE σ env Hs H env1 Hs1 H1) (g' : GoE σ env1 Hs1 H1 env2 Hs2 H2) : GoE σ env Hs H env2 Hs2 H2 where
  sh := g.sh.trans g'.sh
  kp := fun a o h n => g'.kp a o (g.kp a o h n) fun m => n (g.ow a m)
  dm := (g.go.trans g'.go).dm
  nw := (g.go.trans g'.go).nw
  ow := fun a h => g.ow a (g'.ow a h)
  lo := fun a h => g.lo a (g'.lo a h)
  io := fun i xs h => by
    obtain ⟨ys, h1⟩ := g.io i xs h
    exact g'.io i ys h1
theorem InvS.mutAt_some (I : InvS K Hs H σ env) {a : Addr} (m : MutAt σ env a) : Hs a = none ∧ ∃ vs, H a = some (.lst vs) := by
  obtain ⟨i, s, xs, e1, e2, e3⟩ := m
  obtain ⟨p, vs, h1, h2, h3, _⟩ := I.muts i s xs e1 e2
  rw [h1] at e3
  cases e3
  exact ⟨h2, vs, h3⟩
theorem LocAt.mut {a : Addr} (h : LocAt σ env a) : MutAt σ env a := by
  obtain ⟨i, xs, e1, e2⟩ := h
  exact ⟨i, _, xs, e1, rfl, e2⟩
theorem ne_new {a b : Addr} {o : HO} (h : H a = some o) (n : H b = none) : a ≠ b := ne_of_none h n

/-- a new object that is shared from now on -/
theorem InvS.share (I : InvS K Hs H σ env) {p : Addr} (hp : H p = none) (o : HO) : InvS K (upd Hs p o) (upd H p o) σ env where
  len := I.len
  sh := fun a u h => by
    by_cases e : a = p
    · subst e
      rw [upd_same] at h ⊢
      exact h
    · rw [upd_ne e] at h ⊢
      exact I.sh a u h
  vals := fun i d h => by
    obtain ⟨v, h1, h2⟩ := I.vals i d h
    exact ⟨v, h1, Rep.mono (Ex.new (fresh_back I.sh hp)) d v h2⟩
  muts := fun i s xs h hm => by
    obtain ⟨q, vs, h1, h2, h3, h4⟩ := I.muts i s xs h hm
    have ne := ne_new h3 hp
    exact ⟨q, vs, h1, by rw [upd_ne ne]; exact h2, by rw [upd_ne ne]; exact h3, RepL.mono (Ex.new (fresh_back I.sh hp)) xs vs h4⟩
  diff := I.diff
  old := ⟨I.old.1.trans (Ex.new hp), I.old.2⟩
theorem GoE.share (I : InvS K Hs H σ env) {p : Addr} (hp : H p = none) (o : HO) : GoE σ env Hs H env (upd Hs p o) (upd H p o) where
  sh := Ex.new (fresh_back I.sh hp)
  kp := fun a u h _ => by rw [upd_ne (ne_new h hp)]; exact h
  dm := fun a u h => ⟨u, by rw [upd_ne (ne_new h hp)]; exact h⟩
  nw := fun a u h => by
    by_cases e : a = p
    · exact .inr (.inl (e ▸ hp))
    · rw [upd_ne e] at h
      exact .inl h
  ow := fun _ h => h
  lo := fun _ h => h
  io := fun _ xs h => ⟨xs, h⟩
/-- a new object that nobody shares -/
theorem InvS.lay (I : InvS K Hs H σ env) {p : Addr} (hp : H p = none) (o : HO) : InvS K Hs (upd H p o) σ env where
  len := I.len
  sh := fun a u h => by rw [upd_ne (ne_new (I.sh a u h) hp)]; exact I.sh a u h
  vals := I.vals
  muts := fun i s xs h hm => by
    obtain ⟨q, vs, h1, h2, h3, h4⟩ := I.muts i s xs h hm
    exact ⟨q, vs, h1, h2, by rw [upd_ne (ne_new h3 hp)]; exact h3, h4⟩
  diff := I.diff
  old := ⟨I.old.1.trans (Ex.new hp), I.old.2⟩
theorem GoE.lay {p : Addr} (hp : H p = none) (o : HO) : GoE σ env Hs H env Hs (upd H p o) where
  sh := Ex.refl _
  kp := fun a u h _ => by rw [upd_ne (ne_new h hp)]; exact h
  dm := fun a u h => ⟨u, by rw [upd_ne (ne_new h hp)]; exact h⟩
  nw := fun a u h => .inl h
  ow := fun _ h => h
  lo := fun _ h => h
  io := fun _ xs h => ⟨xs, h⟩
/-- an object that no slot holds is shared from now on -/
theorem InvS.shareOld (I : InvS K Hs H σ env) {p : Addr} {o : HO} (hp : H p = some o) (hn : Hs p = none) (hm : ¬ MutAt σ env p) : InvS K (upd Hs p o) H σ env where
  len := I.len
  sh := fun a u h => by
    by_cases e : a = p
    · subst e
      rw [upd_same] at h
      cases h
      exact hp
    · rw [upd_ne e] at h
      exact I.sh a u h
  vals := fun i d h => by
    obtain ⟨v, h1, h2⟩ := I.vals i d h
    exact ⟨v, h1, Rep.mono (Ex.new hn) d v h2⟩
  muts := fun i s xs h hmm => by
    obtain ⟨q, vs, h1, h2, h3, h4⟩ := I.muts i s xs h hmm
    have ne : q ≠ p := fun e => hm (e ▸ ⟨i, s, xs, h, hmm, h1⟩)
    exact ⟨q, vs, h1, by rw [upd_ne ne]; exact h2, h3, RepL.mono (Ex.new hn) xs vs h4⟩
  diff := I.diff
  old := I.old

/-! ### what comes of an expression -/
def RepR (K : PySem.W.Frag) (H Hs' H' : Hp) : Slot → V → Prop
  | .val d, v => Rep K Hs' d v
  | .own xs, v => ∃ p vs, v = .ref p ∧ H p = none ∧ Hs' p = none ∧ H' p = some (.lst vs) ∧ RepL K Hs' xs vs
  | _, _ => False
/-- the list itself is to be read in H, what stands in it is shared -/
def Top (K : PySem.W.Frag) (Hs H : Hp) : PyData → V → Prop
  | .list xs, v => ∃ a vs, v = .ref a ∧ SqN K H a vs ∧ RepL K Hs xs vs
  | d, v => Rep K Hs d v
theorem Top.of (e : Ex Hs H) : ∀ {d : PyData} {v : V}, Rep K Hs d v → Top K Hs H d v
  | .none, _, h => h
  | .bool _, _, h => h
  | .int _, _, h => h
  | .str _, _, h => h
  | .list xs, v, h => by
    obtain ⟨a, vs, e1, h1, h2⟩ := h
    exact ⟨a, vs, e1, ex_n e h1, h2⟩
  | .tuple _, _, h => h
  | .dict _, _, h => h
theorem Top.rep (e : Ex Hs H) : ∀ {d : PyData} {v : V}, Top K Hs H d v → Rep K H d v
  | .none, _, h => h
  | .bool _, _, h => h
  | .int _, _, h => h
  | .str _, _, h => h
  | .list xs, v, h => by
    obtain ⟨a, vs, e1, h1, h2⟩ := h
    exact ⟨a, vs, e1, h1, RepL.mono e xs vs h2⟩
  | .tuple xs, v, h => Rep.mono e (.tuple xs) v h
  | .dict kvs, v, h => Rep.mono e (.dict kvs) v h

/-- the weakest reading -/
def W (X : Cx) (e : Expr) : TE := fun σ H Q => ∀ pins s, Inv X pins σ H s → wpAny (model X.prog X.w) X.A (eval e X.env) (EP X pins σ Q) X.xe s
theorem W.pe (X : Cx) (e : Expr) : PE X e (W X e) := ⟨fun pins s σ H Q I h => h pins s I⟩
theorem W.of {X : Cx} {e : Expr} {t : TE} (h : PE X e t) {σ : St} {H : Hp} {Q : VK} (ht : t σ H Q) : W X e σ H Q := fun pins s I => h.run pins s σ H Q I ht
def WT (X : Cx) (e : Expr) : TT := fun σ H Q => ∀ pins s, Inv X pins σ H s → wpAny (model X.prog X.w) X.A (isTrue e X.env (eval e X.env)) (TP X pins σ Q) X.xe s
theorem WT.pt (X : Cx) (e : Expr) : PT X e (WT X e) := ⟨fun pins s σ H Q I h => h pins s I⟩
theorem WT.of {X : Cx} {e : Expr} {t : TT} (h : PT X e t) {σ : St} {H : Hp} {Q : Bool → Hp → Prop} (ht : t σ H Q) : WT X e σ H Q := fun pins s I => h.run pins s σ H Q I ht
def WA (X : Cx) (es : List Expr) : TA := fun σ H Q => ∀ pos pins s, Inv X pins σ H s → wpAny (model X.prog X.w) X.A (spliced (backTo pos (starEach es X.env))) (AP X pins σ Q) X.xe s
theorem WA.pa (X : Cx) (es : List Expr) : PA X es (WA X es) := ⟨fun pos pins s σ H Q I h => h pos pins s I⟩
theorem WA.of {X : Cx} {es : List Expr} {t : TA} (h : PA X es t) {σ : St} {H : Hp} {Q : List V → Hp → Prop} (ht : t σ H Q) : WA X es σ H Q := fun pos pins s I => h.run pos pins s σ H Q I ht
def WS (X : Cx) (st : Stmt) : TS := fun D σ H => ∀ pins s, Inv X pins σ H s → wpAny (model X.prog X.w) X.A (exec st X.env) (SP X pins D) X.xe s
theorem WS.ps (X : Cx) (st : Stmt) : PS X st (WS X st) := ⟨fun pins s σ H D I h => h pins s I⟩
theorem WS.of {X : Cx} {st : Stmt} {t : TS} (h : PS X st t) {D : Ends} {σ : St} {H : Hp} (ht : t D σ H) : WS X st D σ H := fun pins s I => h.run pins s σ H D I ht
def WSs (X : Cx) (sts : List Stmt) : TS := fun D σ H => ∀ pins s, Inv X pins σ H s → wpAny (model X.prog X.w) X.A (execs sts X.env) (SP X pins D) X.xe s
theorem WSs.ps (X : Cx) (sts : List Stmt) : PSs X sts (WSs X sts) := ⟨fun pins s σ H D I h => h pins s I⟩
theorem WSs.of {X : Cx} {sts : List Stmt} {t : TS} (h : PSs X sts t) {D : Ends} {σ : St} {H : Hp} (ht : t D σ H) : WSs X sts D σ H := fun pins s I => h.run pins s σ H D I ht

abbrev EvF := MEnv → Option (Slot × MEnv)
/-- a fresh answer | plain data | data to be looked at on the spot | a list of plain data -/
structure SE (X : Cx) (e : Expr) (f : MEnv → Option (Slot × MEnv)) : Prop where
  run : ∀ (env : MEnv) (σ : L2.St) (Hs H : Hp) (r : Slot) (env' : MEnv), f env = some (r, env') → InvS X.K Hs H σ env → ∀ Q : VK, (∀ v Hs' H', GoE σ env Hs H env' Hs' H' → InvS X.K Hs' H' σ env' → RepR X.K H Hs' H' r v → Q v H') → W X e σ H Q
instance {X : Cx} {e : Expr} {f : MEnv → Option (Slot × MEnv)} : CoeFun (SE X e f) (fun _ => ∀ (env : MEnv) (σ : L2.St) (Hs H : Hp) (r : Slot) (env' : MEnv), f env = some (r, env') → InvS X.K Hs H σ env → ∀ Q : VK, (∀ v Hs' H', GoE σ env Hs H env' Hs' H' → InvS X.K Hs' H' σ env' → RepR X.K H Hs' H' r v → Q v H') → W X e σ H Q) := ⟨SE.run⟩
structure SV (X : Cx) (e : Expr) (f : MEnv → Option (PyData × MEnv)) : Prop where
  run : ∀ (env : MEnv) (σ : L2.St) (Hs H : Hp) (d : PyData) (env' : MEnv), f env = some (d, env') → InvS X.K Hs H σ env → ∀ Q : VK, (∀ v Hs' H', GoE σ env Hs H env' Hs' H' → InvS X.K Hs' H' σ env' → Rep X.K Hs' d v → Q v H') → W X e σ H Q
instance {X : Cx} {e : Expr} {f : MEnv → Option (PyData × MEnv)} : CoeFun (SV X e f) (fun _ => ∀ (env : MEnv) (σ : L2.St) (Hs H : Hp) (d : PyData) (env' : MEnv), f env = some (d, env') → InvS X.K Hs H σ env → ∀ Q : VK, (∀ v Hs' H', GoE σ env Hs H env' Hs' H' → InvS X.K Hs' H' σ env' → Rep X.K Hs' d v → Q v H') → W X e σ H Q) := ⟨SV.run⟩
structure SP' (X : Cx) (e : Expr) (f : MEnv → Option (PyData × MEnv)) : Prop where
  run : ∀ (env : MEnv) (σ : L2.St) (Hs H : Hp) (d : PyData) (env' : MEnv), f env = some (d, env') → InvS X.K Hs H σ env → ∀ Q : VK, (∀ v Hs' H', GoE σ env Hs H env' Hs' H' → InvS X.K Hs' H' σ env' → Top X.K Hs' H' d v → Q v H') → W X e σ H Q
instance {X : Cx} {e : Expr} {f : MEnv → Option (PyData × MEnv)} : CoeFun (SP' X e f) (fun _ => ∀ (env : MEnv) (σ : L2.St) (Hs H : Hp) (d : PyData) (env' : MEnv), f env = some (d, env') → InvS X.K Hs H σ env → ∀ Q : VK, (∀ v Hs' H', GoE σ env Hs H env' Hs' H' → InvS X.K Hs' H' σ env' → Top X.K Hs' H' d v → Q v H') → W X e σ H Q) := ⟨SP'.run⟩
structure SA (X : Cx) (es : List Expr) (f : MEnv → Option (List PyData × MEnv)) : Prop where
  run : ∀ (env : MEnv) (σ : L2.St) (Hs H : Hp) (ds : List PyData) (env' : MEnv), f env = some (ds, env') → InvS X.K Hs H σ env → ∀ Q : List V → Hp → Prop, (∀ vs Hs' H', GoE σ env Hs H env' Hs' H' → InvS X.K Hs' H' σ env' → RepL X.K Hs' ds vs → Q vs H') → WA X es σ H Q
instance {X : Cx} {es : List Expr} {f : MEnv → Option (List PyData × MEnv)} : CoeFun (SA X es f) (fun _ => ∀ (env : MEnv) (σ : L2.St) (Hs H : Hp) (ds : List PyData) (env' : MEnv), f env = some (ds, env') → InvS X.K Hs H σ env → ∀ Q : List V → Hp → Prop, (∀ vs Hs' H', GoE σ env Hs H env' Hs' H' → InvS X.K Hs' H' σ env' → RepL X.K Hs' ds vs → Q vs H') → WA X es σ H Q) := ⟨SA.run⟩
structure ST (X : Cx) (e : Expr) (f : MEnv → Option (Bool × MEnv)) : Prop where
  run : ∀ (env : MEnv) (σ : L2.St) (Hs H : Hp) (b : Bool) (env' : MEnv), f env = some (b, env') → InvS X.K Hs H σ env → ∀ Q : Bool → Hp → Prop, (∀ Hs' H', GoE σ env Hs H env' Hs' H' → InvS X.K Hs' H' σ env' → Q b H') → WT X e σ H Q
instance {X : Cx} {e : Expr} {f : MEnv → Option (Bool × MEnv)} : CoeFun (ST X e f) (fun _ => ∀ (env : MEnv) (σ : L2.St) (Hs H : Hp) (b : Bool) (env' : MEnv), f env = some (b, env') → InvS X.K Hs H σ env → ∀ Q : Bool → Hp → Prop, (∀ Hs' H', GoE σ env Hs H env' Hs' H' → InvS X.K Hs' H' σ env' → Q b H') → WT X e σ H Q) := ⟨ST.run⟩

/-- plain data out of a fresh answer -/
def Slot.dat : Slot → Option PyData
  | .val d => some d
  | .own xs => some (.list xs)
  | _ => none
def datF (f : MEnv → Option (Slot × MEnv)) : MEnv → Option (PyData × MEnv) := fun env => match f env with
  | some (r, env') => match r.dat with
    | some d => some (d, env')
    | none => none
  | none => none
theorem SE.v {X : Cx} {e : Expr} {f : MEnv → Option (Slot × MEnv)} (h : SE X e f) : SV X e (datF f) := by
  refine ⟨?_⟩
  intro env σ Hs H d env' hf I Q q
  unfold datF at hf
  split at hf
  · rename_i r e1 hr
    split at hf
    · rename_i d1 hd
      cases hf
      refine h env σ Hs H r env' hr I Q fun v Hs' H' g I' rr => ?_
      cases r with
      | val d2 =>
        cases hd
        exact q v Hs' H' g I' rr
      | own xs =>
        cases hd
        obtain ⟨p, vs, rfl, h1, h2, h3, h4⟩ := rr
        have nm : ¬ MutAt σ env' p := fun m => by
          obtain ⟨_, vs', hh⟩ := I.mutAt_some (g.ow p m)
          rw [h1] at hh
          cases hh
        refine q (.ref p) (upd Hs' p (.lst vs)) H' ?_ (I'.shareOld h3 h2 nm) ⟨p, vs, rfl, sqn upd_same, RepL.mono (Ex.new h2) xs vs h4⟩
        refine ⟨g.sh.trans (Ex.new h2), g.kp, g.dm, fun a o ha => ?_, g.ow, g.lo, g.io⟩
        by_cases ea : a = p
        · exact .inr (.inl (ea ▸ h1))
        · rw [upd_ne ea] at ha
          exact g.nw a o ha
      | un => cases hd
      | io xs => cases hd
    · cases hf
  · cases hf
theorem SV.p {X : Cx} {e : Expr} {f : MEnv → Option (PyData × MEnv)} (h : SV X e f) : SP' X e f := .mk fun env σ Hs H d env' hf I Q q =>
  h env σ Hs H d env' hf I Q fun v Hs' H' g I' r => q v Hs' H' g I' (Top.of I'.sh r)
def valF (f : MEnv → Option (PyData × MEnv)) : MEnv → Option (Slot × MEnv) := fun env => (f env).map fun p => (.val p.1, p.2)
theorem SV.e {X : Cx} {e : Expr} {f : MEnv → Option (PyData × MEnv)} (h : SV X e f) : SE X e (valF f) := by
  refine ⟨?_⟩
  intro env σ Hs H r env' hf I Q q
  unfold valF at hf
  cases hd : f env with
  | none => rw [hd] at hf; cases hf
  | some p =>
    rw [hd] at hf
    cases hf
    exact h env σ Hs H p.1 p.2 hd I Q fun v Hs' H' g I' rr => q v Hs' H' g I' rr
end Ip

set_option Elab.async false
set_option linter.all false
set_option maxRecDepth 100000
set_option maxHeartbeats 4000000
namespace Ip
open PySem L2
open Evl (Ex sz_of fresh_back)
variable [Old]
variable {X : Cx} {a b e : Expr} {pos : Pos}

/-! ### operands: what a name holds is looked at when the operation is done -/
inductive Lr where
  | dat (d : PyData)
  | slot (i : Nat)
def look (r : Lr) (env : MEnv) : Option PyData := match r with
  | .dat d => some d
  | .slot i => match env[i]? with
    | some (.val d) => some d
    | some (.own xs) => some (.list xs)
    | some (.io xs) => some (.list xs)
    | _ => none
def RepLr (K : PySem.W.Frag) (Hs : Hp) (σ : L2.St) : Lr → V → Prop
  | .dat d, v => Rep K Hs d v
  | .slot i, v => σ[i]? = some (some v)
structure SL (X : Cx) (e : Expr) (f : MEnv → Option (Lr × MEnv)) : Prop where
  run : ∀ (env : MEnv) (σ : L2.St) (Hs H : Hp) (r : Lr) (env' : MEnv), f env = some (r, env') → InvS X.K Hs H σ env → ∀ Q : VK, (∀ v Hs' H', GoE σ env Hs H env' Hs' H' → InvS X.K Hs' H' σ env' → RepLr X.K Hs' σ r v → Q v H') → W X e σ H Q
instance {X : Cx} {e : Expr} {f : MEnv → Option (Lr × MEnv)} : CoeFun (SL X e f) (fun _ => ∀ (env : MEnv) (σ : L2.St) (Hs H : Hp) (r : Lr) (env' : MEnv), f env = some (r, env') → InvS X.K Hs H σ env → ∀ Q : VK, (∀ v Hs' H', GoE σ env Hs H env' Hs' H' → InvS X.K Hs' H' σ env' → RepLr X.K Hs' σ r v → Q v H') → W X e σ H Q) := ⟨SL.run⟩
theorem RepLr.mono {K : PySem.W.Frag} {Hs Hs' : Hp} {σ : L2.St} (e : Ex Hs Hs') : ∀ {r : Lr} {v : V}, RepLr K Hs σ r v → RepLr K Hs' σ r v
  | .dat d, v, h => Rep.mono e d v h
  | .slot _, _, h => h
theorem RepLr.top {K : PySem.W.Frag} {Hs H : Hp} {σ : L2.St} {env : MEnv} (I : InvS K Hs H σ env) : ∀ {r : Lr} {v : V} {d : PyData}, RepLr K Hs σ r v → look r env = some d → Top K Hs H d v
  | .dat d0, v, d, h, e => by
    cases e
    exact Top.of I.sh h
  | .slot i, v, d, h, e => by
    unfold look at e
    simp only at e
    split at e
    · rename_i d0 h0
      cases e
      obtain ⟨w, h1, h2⟩ := I.vals i d h0
      rw [(show σ[i]? = some (some v) from h)] at h1
      cases h1
      exact Top.of I.sh h2
    · rename_i xs h0
      cases e
      obtain ⟨p, vs, h1, h2, h3, h4⟩ := I.muts i _ xs h0 rfl
      rw [(show σ[i]? = some (some v) from h)] at h1
      cases h1
      exact ⟨p, vs, rfl, sqn h3, h4⟩
    · rename_i xs h0
      cases e
      obtain ⟨p, vs, h1, h2, h3, h4⟩ := I.muts i _ xs h0 rfl
      rw [(show σ[i]? = some (some v) from h)] at h1
      cases h1
      exact ⟨p, vs, rfl, sqn h3, h4⟩
    · cases e
def datL (f : MEnv → Option (PyData × MEnv)) : MEnv → Option (Lr × MEnv) := fun env => match f env with
  | some (d, env') => some (.dat d, env')
  | none => none
theorem SV.l {f : MEnv → Option (PyData × MEnv)} (h : SV X e f) : SL X e (datL f) := by
  refine ⟨?_⟩
  intro env σ Hs H r env' hf I Q q
  unfold datL at hf
  split at hf
  · rename_i d e1 hd
    cases hf
    exact h env σ Hs H d env' hd I Q q
  · cases hf
/-- a name of the def, as an operand -/
def nameL (i : Nat) : MEnv → Option (Lr × MEnv) := fun env => match look (.slot i) env with
  | some _ => some (.slot i, env)
  | none => none
theorem sl_name {i : Nat} {x : Str} (h : PE X (.Name x pos) (tVar i)) : SL X (.Name x pos) (nameL i) := by
  refine ⟨?_⟩
  intro env σ Hs H r env' hf I Q q
  unfold nameL at hf
  split at hf
  · rename_i d hd
    cases hf
    refine W.of h ?_
    unfold look at hd
    simp only at hd
    split at hd
    · rename_i d0 h0
      obtain ⟨w, h1, h2⟩ := I.vals i d0 h0
      exact ⟨w, h1, q w Hs H GoE.refl I h1⟩
    · rename_i xs h0
      obtain ⟨p, vs, h1, h2, h3, h4⟩ := I.muts i _ xs h0 rfl
      exact ⟨.ref p, h1, q _ Hs H GoE.refl I h1⟩
    · rename_i xs h0
      obtain ⟨p, vs, h1, h2, h3, h4⟩ := I.muts i _ xs h0 rfl
      exact ⟨.ref p, h1, q _ Hs H GoE.refl I h1⟩
    · cases hd
  · cases hf
/-- a name as a value: a list of the def's own is shared from now on -/
def nameV (i : Nat) : MEnv → Option (PyData × MEnv) := fun env => match env[i]? with
  | some (.val d) => some (d, env)
  | some (.own xs) => some (.list xs, env.set i (.val (.list xs)))
  | _ => none
theorem getElem_set_cases {α : Type} {l : List α} {i j : Nat} {x y : α} (h : (l.set i x)[j]? = some y) : (i = j ∧ x = y) ∨ (i ≠ j ∧ l[j]? = some y) := by
  by_cases e : i = j
  · subst e
    rw [List.getElem?_set] at h
    rw [if_pos rfl] at h
    split at h
    · cases h; exact .inl ⟨rfl, rfl⟩
    · cases h
  · rw [List.getElem?_set_ne e] at h
    exact .inr ⟨e, h⟩
theorem freeze {K : PySem.W.Frag} {Hs H : Hp} {σ : L2.St} {env : MEnv} (I : InvS K Hs H σ env) {i : Nat} {xs : List PyData} (h : env[i]? = some (.own xs)) : ∃ p vs, σ[i]? = some (some (.ref p)) ∧ Rep K (upd Hs p (.lst vs)) (.list xs) (.ref p) ∧
    GoE σ env Hs H (env.set i (.val (.list xs))) (upd Hs p (.lst vs)) H ∧ InvS K (upd Hs p (.lst vs)) H σ (env.set i (.val (.list xs))) := by
  obtain ⟨p, vs, h1, h2, h3, h4⟩ := I.muts i _ xs h rfl
  have ex : Ex Hs (upd Hs p (.lst vs)) := Ex.new h2
  have r : Rep K (upd Hs p (.lst vs)) (.list xs) (.ref p) := ⟨p, vs, rfl, sqn upd_same, RepL.mono ex xs vs h4⟩
  have mm : ∀ a, MutAt σ (env.set i (.val (.list xs))) a → MutAt σ env a ∧ a ≠ p := fun a m => by
    obtain ⟨j, s, ys, e1, e2, e3⟩ := m
    rcases getElem_set_cases e1 with ⟨_, e4⟩ | ⟨ne, e4⟩
    · rw [← e4] at e2; cases e2
    · refine ⟨⟨j, s, ys, e4, e2, e3⟩, fun ea => ?_⟩
      subst ea
      exact ne (I.diff i j _ s xs ys _ h rfl e4 e2 h1 e3)
  refine ⟨p, vs, h1, r, ⟨ex, fun a o ha _ => ha, fun a o ha => ⟨o, ha⟩, fun a o ha => ?_, fun a m => (mm a m).1, fun a m => ?_, fun j ys hj => ?_⟩, ?_⟩
  · by_cases ea : a = p
    · exact .inr (.inr ⟨i, xs, h, ea ▸ h1⟩)
    · rw [upd_ne ea] at ha
      exact .inl ha
  · obtain ⟨j, ys, e1, e3⟩ := m
    rcases getElem_set_cases e1 with ⟨_, e4⟩ | ⟨ne, e4⟩
    · cases e4
    · exact ⟨j, ys, e4, e3⟩
  · have ne : i ≠ j := fun z => by
      rw [← z, h] at hj
      cases hj
    exact ⟨ys, by rw [List.getElem?_set_ne ne]; exact hj⟩
  · refine ⟨by rw [List.length_set]; exact I.len, fun a o ha => ?_, fun j d hj => ?_, fun j s ys hj hm => ?_, fun j k s t ys zs q e1 e2 e3 e4 => ?_, ?_⟩
    · by_cases ea : a = p
      · subst ea
        rw [upd_same] at ha
        cases ha
        exact h3
      · rw [upd_ne ea] at ha
        exact I.sh a o ha
    · rcases getElem_set_cases hj with ⟨e4, e5⟩ | ⟨ne, e4⟩
      · cases e5
        exact ⟨.ref p, e4 ▸ h1, r⟩
      · obtain ⟨v, g1, g2⟩ := I.vals j d e4
        exact ⟨v, g1, Rep.mono ex d v g2⟩
    · have m1 := mm
      rcases getElem_set_cases hj with ⟨_, e4⟩ | ⟨ne, e4⟩
      · rw [← e4] at hm; cases hm
      · obtain ⟨q, ws, g1, g2, g3, g4⟩ := I.muts j s ys e4 hm
        have nq : q ≠ p := (mm q ⟨j, s, ys, hj, hm, g1⟩).2
        exact ⟨q, ws, g1, by rw [upd_ne nq]; exact g2, g3, RepL.mono ex ys ws g4⟩
    · rcases getElem_set_cases e1 with ⟨_, e5⟩ | ⟨_, e5⟩
      · rw [← e5] at e2; cases e2
      · rcases getElem_set_cases e3 with ⟨_, e6⟩ | ⟨_, e6⟩
        · rw [← e6] at e4; cases e4
        · exact I.diff j k s t ys zs q e5 e2 e6 e4
    · exact ⟨I.old.1, fun a m => I.old.2 a (mm a m).1⟩
theorem sv_name {i : Nat} {x : Str} (h : PE X (.Name x pos) (tVar i)) : SV X (.Name x pos) (nameV i) := by
  refine ⟨?_⟩
  intro env σ Hs H d env' hf I Q q
  unfold nameV at hf
  split at hf
  · rename_i d0 h0
    cases hf
    obtain ⟨w, h1, h2⟩ := I.vals i d h0
    exact W.of h ⟨w, h1, q w Hs H GoE.refl I h2⟩
  · rename_i xs h0
    cases hf
    obtain ⟨p, vs, h1, r, g, I'⟩ := freeze I h0
    exact W.of h ⟨.ref p, h1, q _ _ H g I' r⟩
  · cases hf

/-! ### constants -/
def constD (d : PyData) : MEnv → Option (PyData × MEnv) := fun env => some (d, env)
theorem sv_c {d : PyData} {v : V} (h : PE X e (tC v)) (r : ∀ Hs, Rep X.K Hs d v) : SV X e (constD d) := by
  refine ⟨?_⟩
  intro env σ Hs H d' env' hf I Q q
  cases hf
  exact W.of h (q v Hs H GoE.refl I (r Hs))

/-! ### two operands -/
def op2 (fa fb : MEnv → Option (Lr × MEnv)) (g : PyData → PyData → Option Slot) : MEnv → Option (Slot × MEnv) := fun env => match fa env with
  | some (ra, e1) => match fb e1 with
    | some (rb, e2) => match look ra e2, look rb e2 with
      | some x, some y => match g x y with
        | some s => some (s, e2)
        | none => none
      | _, _ => none
    | none => none
  | none => none
/-- a two-place rule does what g tells -/
def R2ok (K : PySem.W.Frag) (r : R2) (g : PyData → PyData → Option Slot) : Prop := ∀ (Hs H : Hp) (σ : L2.St) (env : MEnv) (x y : PyData) (v u : V) (s : Slot), g x y = some s → InvS K Hs H σ env → Top K Hs H x v → Top K Hs H y u →
  ∀ Q : VK, (∀ z Hs' H', GoE σ env Hs H env Hs' H' → InvS K Hs' H' σ env → RepR K H Hs' H' s z → Q z H') → r v u H Q
theorem RepR.mono {K : PySem.W.Frag} {H0 H Hs' H' : Hp} (h : ∀ a, H a = none → H0 a = none) : ∀ {s : Slot} {v : V}, RepR K H Hs' H' s v → RepR K H0 Hs' H' s v
  | .val d, v, r => r
  | .own xs, v, r => by
    obtain ⟨p, vs, e, h1, h2⟩ := r
    exact ⟨p, vs, e, h p h1, h2⟩
theorem se_op2 {fa fb : MEnv → Option (Lr × MEnv)} {g : PyData → PyData → Option Slot} {r : R2} {ee : Expr} (ha : SL X a fa) (hb : SL X b fb) (hr : R2ok X.K r g) (h : PE X ee (tOp r (W X a) (W X b))) : SE X ee (op2 fa fb g) := by
  refine ⟨?_⟩
  intro env σ Hs H s env' hf I Q q
  unfold op2 at hf
  split at hf
  · rename_i ra e1 h1
    split at hf
    · rename_i rb e2 h2
      split at hf
      · rename_i x y hx hy
        split at hf
        · rename_i s0 hs
          cases hf
          refine W.of h ?_
          refine ha env σ Hs H ra e1 h1 I _ fun v Hs1 H1 g1 I1 r1 => ?_
          refine hb e1 σ Hs1 H1 rb env' h2 I1 _ fun u Hs2 H2 g2 I2 r2 => ?_
          refine hr Hs2 H2 σ env' x y v u s hs I2 (RepLr.top I2 (r1.mono g2.sh) hx) (RepLr.top I2 r2 hy) Q fun z Hs3 H3 g3 I3 r3 => ?_
          exact q z Hs3 H3 ((g1.trans g2).trans g3) I3 (RepR.mono (fun p hp => (g1.trans g2).none_back hp) r3)
        · cases hf
      · cases hf
    · cases hf
  · cases hf
theorem SE.congr {f g : MEnv → Option (Slot × MEnv)} (h : SE X e f) (k : ∀ env r, g env = some r → f env = some r) : SE X e g := .mk fun env σ Hs H r env' hf I Q q => h env σ Hs H r env' (k env _ hf) I Q q

/-! answers of rules -/
theorem ok_val {K : PySem.W.Frag} {Hs H : Hp} {σ : L2.St} {env : MEnv} (I : InvS K Hs H σ env) {s : Slot} {d : PyData} {v : V} (hs : s = .val d) (r : Rep K Hs d v) {Q : VK}
    (q : ∀ z Hs' H', GoE σ env Hs H env Hs' H' → InvS K Hs' H' σ env → RepR K H Hs' H' s z → Q z H') : Q v H := q v Hs H GoE.refl I (by rw [hs]; exact r)
theorem ok_newL {K : PySem.W.Frag} {Hs H : Hp} {σ : L2.St} {env : MEnv} (I : InvS K Hs H σ env) {s : Slot} {ds : List PyData} {vs : List V} (hs : s = .own ds) (r : RepL K Hs ds vs) {Q : VK}
    (q : ∀ z Hs' H', GoE σ env Hs H env Hs' H' → InvS K Hs' H' σ env → RepR K H Hs' H' s z → Q z H') : ∀ p, H p = none → Q (.ref p) (upd H p (.lst vs)) := fun p hp =>
  q (.ref p) Hs _ (GoE.lay hp _) (I.lay hp _) (by rw [hs]; exact ⟨p, vs, rfl, hp, fresh_back I.sh hp, upd_same, r⟩)
theorem ok_newT {K : PySem.W.Frag} {Hs H : Hp} {σ : L2.St} {env : MEnv} (I : InvS K Hs H σ env) {s : Slot} {ds : List PyData} {vs : List V} (hs : s = .val (.tuple ds)) (r : RepL K Hs ds vs) {Q : VK}
    (q : ∀ z Hs' H', GoE σ env Hs H env Hs' H' → InvS K Hs' H' σ env → RepR K H Hs' H' s z → Q z H') : ∀ p, H p = none → Q (.ref p) (upd H p (.tup vs)) := fun p hp =>
  q (.ref p) (upd Hs p (.tup vs)) _ (GoE.share I hp _) (I.share hp _) (by rw [hs]; exact ⟨p, vs, rfl, Evl.st_of upd_same, RepL.mono (Ex.new (fresh_back I.sh hp)) ds vs r⟩)

/-! ### arithmetic -/
def mulOk (i j : Int) : Bool := decide (i.natAbs.log2 + j.natAbs.log2 < 1000000) || decide (j.natAbs < 2 ^ 64) || decide (i.natAbs < 2 ^ 64)
def divOk (j : Int) : Bool := decide (j ≠ 0) && decide (j.natAbs.log2 < 9000)
def addD : PyData → PyData → Option Slot
  | .int i, .int j => some (.val (.int (i + j)))
  | .str x, .str y => if x.length + y.length ≤ 100000 then some (.val (.str (x ++ y))) else none
  | .list xs, .list ys => if xs.length + ys.length ≤ 100000 then some (.own (xs ++ ys)) else none
  | .tuple xs, .tuple ys => if xs.length + ys.length ≤ 100000 ∧ xs ≠ [] ∧ ys ≠ [] then some (.val (.tuple (xs ++ ys))) else none
  | _, _ => none
def subD : PyData → PyData → Option Slot
  | .int i, .int j => some (.val (.int (i - j)))
  | _, _ => none
def mulD : PyData → PyData → Option Slot
  | .int i, .int j => if mulOk i j = true then some (.val (.int (i * j))) else none
  | _, _ => none
def fdivD : PyData → PyData → Option Slot
  | .int i, .int j => if divOk j = true then some (.val (.int (i.fdiv j))) else none
  | _, _ => none
def modD : PyData → PyData → Option Slot
  | .int i, .int j => if j ≠ 0 then some (.val (.int (i.fmod j))) else none
  | _, _ => none
def powD : PyData → PyData → Option Slot
  | .int i, .int j => if 0 ≤ j ∧ j ≤ 1000 ∧ i.natAbs < 2 ^ 64 then some (.val (.int (i ^ j.toNat))) else none
  | _, _ => none
theorem OpR.or {f : Value → Value → Sem Value} {r r' : R2} (h : OpR X f r) (h' : OpR X f r') : OpR X f (fun x y H Q => r x y H Q ∨ r' x y H Q) := by
  intro pins s σ H x y v u Q I rx ry q
  rcases q with q | q
  · exact h pins s σ H x y v u Q I rx ry q
  · exact h' pins s σ H x y v u Q I rx ry q
theorem rep_int {K : PySem.W.Frag} {Hs H : Hp} {i : Int} {v : V} (h : Top K Hs H (.int i) v) : v = .int i := h
/-- list + list with any of them in the written part or shared -/
def rCatX (K : PySem.W.Frag) : R2 := fun x y H Q => ∃ l b xs zs, x = .ref l ∧ y = .ref b ∧ SqL K H l xs ∧ SqL K H b zs ∧ xs.length + zs.length ≤ sizeLine ∧ ∀ p, H p = none → Q (.ref p) (upd H p (.lst (xs ++ zs)))
theorem op_catX : OpR X (binaryOp .Add) (rCatX X.K) := by
  intro pins s σ H x y v u Q I rx ry h
  obtain ⟨l, m, xs, zs, rfl, rfl, hl, hm, hz, q⟩ := h
  cases rx
  cases ry
  obtain ⟨us, r1, ⟨⟨c1, d1, t1, s1⟩, n1, g1, k1, _, w1⟩, _⟩ := I.list hl
  obtain ⟨ws, r2, ⟨⟨c2, d2, t2, s2⟩, n2, g2, k2, _, w2⟩, _⟩ := I.list hm
  simp only at k1 w1 k2 w2
  subst k1 w1 k2 w2
  have small : us.toArray.size + ws.toArray.size ≤ sizeLine := by
    simp only [List.size_toArray]
    have l1 := r1.length
    have l2 := r2.length
    omega
  have cat := r1.append r2
  have len : (xs ++ zs).length ≤ sizeLine := List.length_append ▸ hz
  have end_ : EP X pins σ Q (.ref s.heap.objs.size) { s with heap := s.heap.push { cls := .type "list", data := .seq (us ++ ws).toArray } } :=
    ⟨V.ref _, _, I.lnew (t' := s.toks) cat len, rfl, q _ I.fresh⟩
  have both : us.toArray ++ ws.toArray = (us ++ ws).toArray := List.append_toArray ..
  rw [← both] at end_
  exact PySem.concat_meets ⟨_, g1, rfl⟩ ⟨_, g2, rfl⟩ PySem.noFill_list_add PySem.seq_list_add PySem.F.slot_list_add PySem.F.entry_list_add (PySem.F.args_list_add_2 _ _)
    (PyProof.Rows.list_addW l m us.toArray ws.toArray n1 n2 d1 d2 s1 s2 small) ⟨g1, g2, end_⟩
theorem ok_add : R2ok X.K (fun x y H Q => ((rI0 fun i j => .int (i + j)) x y H Q ∨ (∃ i j, x = .str i ∧ y = .str j ∧ i.length + j.length ≤ sizeLine ∧ Q (.str (i ++ j)) H)) ∨ (rCatX X.K x y H Q ∨ rCatT X.K x y H Q)) addD := by
  intro Hs H σ env x y v u s hs I hx hy Q q
  cases x <;> cases y <;> try (cases hs; done)
  · rename_i i j
    cases hs
    exact .inl (.inl ⟨i, j, hx, hy, ok_val I rfl (show Rep X.K Hs (.int (i + j)) (.int (i + j)) from rfl) q⟩)
  · rename_i i j
    unfold addD at hs
    simp only at hs
    split at hs
    · rename_i hc
      cases hs
      exact .inl (.inr ⟨i, j, hx, hy, sz_of hc, ok_val I rfl (show Rep X.K Hs (.str (i ++ j)) (.str (i ++ j)) from rfl) q⟩)
    · cases hs
  · rename_i xs ys
    unfold addD at hs
    simp only at hs
    split at hs
    · rename_i hc
      cases hs
      obtain ⟨l, vs, e1, h1, h2⟩ := hx
      obtain ⟨m, us, e2, h3, h4⟩ := hy
      exact .inr (.inl ⟨l, m, vs, us, e1, e2, h1, h3, sz_of (by rw [← RepL.length h2, ← RepL.length h4]; exact hc), ok_newL I rfl (RepL.app h2 h4) q⟩)
    · cases hs
  · rename_i xs ys
    unfold addD at hs
    simp only at hs
    split at hs
    · rename_i hc
      cases hs
      obtain ⟨hc, n1, n2⟩ := hc
      obtain ⟨l, vs, e1, h1, h2⟩ := hx
      obtain ⟨m, us, e2, h3, h4⟩ := hy
      have l1 := RepL.length h2
      have l2 := RepL.length h4
      have m1 : vs ≠ [] := fun e => n1 (List.eq_nil_of_length_eq_zero (by rw [l1, e]; rfl))
      have m2 : us ≠ [] := fun e => n2 (List.eq_nil_of_length_eq_zero (by rw [l2, e]; rfl))
      exact .inr (.inr ⟨l, m, vs, us, e1, e2, Evl.ex_t I.sh h1, Evl.ex_t I.sh h3, m1, sz_of (by rw [← l1, ← l2]; exact hc), fun e => absurd e m2, fun _ => ok_newT I rfl (RepL.app h2 h4) q⟩)
    · cases hs

theorem ok_sub : R2ok X.K (rI0 fun i j => .int (i - j)) subD := by
  intro Hs H σ env x y v u s hs I hx hy Q q
  cases x <;> cases y <;> try (cases hs; done)
  rename_i i j
  cases hs
  exact ⟨i, j, hx, hy, ok_val I rfl (show Rep X.K Hs (.int (i - j)) (.int (i - j)) from rfl) q⟩
theorem op_mulA : OpR X (binaryOp .Mult) (rI (fun i j => mulOk i j = true) fun i j => .int (i * j)) := opI fun i j _ _ _ _ _ hc q => by
  unfold mulOk at hc
  simp only [Bool.or_eq_true, decide_eq_true_eq] at hc
  rcases hc with (hc | hc) | hc
  · exact PyProof.Rows.mul_int q (CMulW.ok hc)
  · exact PyProof.Rows.mul_int q (CMul.ok (.inr (by omega)))
  · exact PyProof.Rows.mul_int q (CMul.ok (.inl (by omega)))
theorem ok_mul : R2ok X.K (rI (fun i j => mulOk i j = true) fun i j => .int (i * j)) mulD := by
  intro Hs H σ env x y v u s hs I hx hy Q q
  cases x <;> cases y <;> try (cases hs; done)
  rename_i i j
  unfold mulD at hs
  simp only at hs
  split at hs
  · rename_i hc
    cases hs
    exact ⟨i, j, hx, hy, hc, ok_val I rfl (show Rep X.K Hs (.int (i * j)) (.int (i * j)) from rfl) q⟩
  · cases hs
theorem repL_flat {K : PySem.W.Frag} {H : Hp} {ds : List PyData} {vs : List V} (h : RepL K H ds vs) : ∀ n : Nat, RepL K H (List.replicate n ds).flatten (List.replicate n vs).flatten
  | 0 => rfl
  | n + 1 => by
    rw [List.replicate_succ, List.replicate_succ, List.flatten_cons, List.flatten_cons]
    exact RepL.app h (repL_flat h n)
/-- a list made on the spot, times an int -/
def repF (fa : MEnv → Option (Slot × MEnv)) (fb : MEnv → Option (Lr × MEnv)) : MEnv → Option (Slot × MEnv) := fun env => match fa env with
  | some (.own xs, e1) => match fb e1 with
    | some (rb, e2) => match look rb e2 with
      | some (.int k) => if xs.length * k.toNat ≤ 100000 ∧ -(2 ^ 63) ≤ k ∧ k < 2 ^ 63 then some (.own (List.replicate k.toNat xs).flatten, e2) else none
      | _ => none
    | none => none
  | _ => none
theorem se_rep {fa : MEnv → Option (Slot × MEnv)} {fb : MEnv → Option (Lr × MEnv)} (ha : SE X a fa) (hb : SL X b fb) : SE X (.BinOp a .Mult b pos) (repF fa fb) := by
  refine ⟨?_⟩
  intro env σ Hs H s env' hf I Q q
  unfold repF at hf
  split at hf
  · rename_i xs e1 h1
    split at hf
    · rename_i rb e2 h2
      split at hf
      · rename_i k hk
        split at hf
        · rename_i hc
          cases hf
          refine W.of (pe_op op_rep (W.pe X a) (W.pe X b)) ?_
          refine ha env σ Hs H _ e1 h1 I _ fun v Hs1 H1 g1 I1 r1 => ?_
          obtain ⟨p, vs, rfl, n1, n2, n3, n4⟩ := r1
          refine hb e1 σ Hs1 H1 rb env' h2 I1 _ fun u Hs2 H2 g2 I2 r2 => ?_
          have hu := rep_int (RepLr.top I2 r2 hk)
          have nm : ¬ MutAt σ e1 p := fun m => by
            obtain ⟨_, vs', hh⟩ := I.mutAt_some (g1.ow p m)
            rw [n1] at hh
            cases hh
          have e3 := RepL.length n4
          refine ⟨p, k, vs, rfl, hu, g2.kp p _ n3 nm, hc.2.1, hc.2.2, sz_of (by rw [← e3]; exact hc.1), fun l hl => ?_⟩
          have g12 := g1.trans g2
          exact q (.ref l) Hs2 _ (g12.trans (GoE.lay hl _)) (I2.lay hl _) ⟨l, _, rfl, g12.none_back hl, fresh_back I2.sh hl, upd_same, repL_flat (RepL.mono g2.sh _ _ n4) k.toNat⟩
        · cases hf
      · cases hf
    · cases hf
  · cases hf
theorem op_fdivA : OpR X (binaryOp .FloorDiv) (rI (fun _ j => divOk j = true) fun i j => .int (i.fdiv j)) := opI fun i j _ _ _ _ _ hc q => by
  unfold divOk at hc
  simp only [Bool.and_eq_true, decide_eq_true_eq] at hc
  exact PyProof.Rows.floordiv_int hc.1 q (.inl (PyProof.noPylong_of_log2 hc.2))
theorem ok_fdiv : R2ok X.K (rI (fun _ j => divOk j = true) fun i j => .int (i.fdiv j)) fdivD := by
  intro Hs H σ env x y v u s hs I hx hy Q q
  cases x <;> cases y <;> try (cases hs; done)
  rename_i i j
  unfold fdivD at hs
  simp only at hs
  split at hs
  · rename_i hc
    cases hs
    exact ⟨i, j, hx, hy, hc, ok_val I rfl (show Rep X.K Hs (.int (i.fdiv j)) (.int (i.fdiv j)) from rfl) q⟩
  · cases hs
theorem ok_mod : R2ok X.K (rI (fun _ j => j ≠ 0) fun i j => .int (i.fmod j)) modD := by
  intro Hs H σ env x y v u s hs I hx hy Q q
  cases x <;> cases y <;> try (cases hs; done)
  rename_i i j
  unfold modD at hs
  simp only at hs
  split at hs
  · rename_i hc
    cases hs
    exact ⟨i, j, hx, hy, hc, ok_val I rfl (show Rep X.K Hs (.int (i.fmod j)) (.int (i.fmod j)) from rfl) q⟩
  · cases hs
theorem ok_pow : R2ok X.K (rI CPow fun i j => .int (i ^ j.toNat)) powD := by
  intro Hs H σ env x y v u s hs I hx hy Q q
  cases x <;> cases y <;> try (cases hs; done)
  rename_i i j
  unfold powD at hs
  simp only at hs
  split at hs
  · rename_i hc
    cases hs
    exact ⟨i, j, hx, hy, ⟨hc.1, by omega, hc.2.2⟩, ok_val I rfl (show Rep X.K Hs (.int (i ^ j.toNat)) (.int (i ^ j.toNat)) from rfl) q⟩
  · cases hs

/-! ### comparisons -/
mutual
theorem nd_of : ∀ d : PyData, d.canLay0 = true → d.hasDict = false
  | .none, _ => by simp only [PyData.hasDict]
  | .bool _, _ => by simp only [PyData.hasDict]
  | .int _, _ => by simp only [PyData.hasDict]
  | .str _, _ => by simp only [PyData.hasDict]
  | .list xs, h => by
    simp only [PyData.hasDict]
    exact ndL_of xs (by simpa only [PyData.canLay0] using h)
  | .tuple xs, h => by
    simp only [PyData.hasDict]
    exact ndL_of xs (by simpa only [PyData.canLay0] using h)
  | .dict _, h => by simp only [PyData.canLay0] at h; cases h
theorem ndL_of : ∀ ds : List PyData, PyData.canLayAll0 ds = true → PyData.hasDictAll ds = false
  | [], _ => rfl
  | d :: ds, h => by
    have h : d.canLay0 = true ∧ PyData.canLayAll0 ds = true := by simpa only [PyData.canLayAll0, Bool.and_eq_true] using h
    show (d.hasDict || PyData.hasDictAll ds) = false
    rw [nd_of d h.1, ndL_of ds h.2]
    rfl
end
theorem nd_shaped {d : PyData} (h : SeqAt.shaped d = true) : d.hasDict = false := nd_of d (SeqAt.canLay_of_shaped h)
mutual
theorem Rep.dp {K : PySem.W.Frag} {H : Hp} : ∀ (d : PyData) (v : V), Rep K H d v → d.hasDict = false → Dp K H v d
  | .none, _, h, _ => by cases (show _ = V.non from h); exact .non
  | .bool b, _, h, _ => by cases (show _ = V.bl b from h); exact .bl b
  | .int i, _, h, _ => by cases (show _ = V.int i from h); exact .int i
  | .str s, _, h, _ => by cases (show _ = V.str s from h); exact .str s
  | .list xs, _, h, n => by
    obtain ⟨a, vs, rfl, h1, h2⟩ := h
    exact .lst h1 (RepL.dp xs vs h2 (by simpa only [PyData.hasDict] using n))
  | .tuple xs, _, h, n => by
    obtain ⟨a, vs, rfl, h1, h2⟩ := h
    exact .tup h1 (RepL.dp xs vs h2 (by simpa only [PyData.hasDict] using n))
  | .dict _, _, h, n => by simp only [PyData.hasDict] at n; cases n
theorem RepL.dp {K : PySem.W.Frag} {H : Hp} : ∀ (ds : List PyData) (vs : List V), RepL K H ds vs → PyData.hasDictAll ds = false → DpAll K H vs ds
  | [], _, h, _ => by cases (show _ = [] from h); exact .nil
  | d :: ds, _, h, n => by
    obtain ⟨v, r, rfl, h1, h2⟩ := h
    have n : (d.hasDict || PyData.hasDictAll ds) = false := n
    rw [Bool.or_eq_false_iff] at n
    exact .cons (Rep.dp d v h1 n.1) (RepL.dp ds r h2 n.2)
end
def bV (b : Bool) : Option Slot := some (.val (.bool b))
def eqD (x y : PyData) : Option Slot := match x, y with
  | .str a, .str b => bV (decide (a = b))
  | _, _ => if SeqAt.shaped x = true ∧ SeqAt.shaped y = true then bV (PyData.eqv x y) else none
def neD (x y : PyData) : Option Slot := match x, y with
  | .str a, .str b => bV (!decide (a = b))
  | _, _ => if SeqAt.shaped x = true ∧ SeqAt.shaped y = true then bV (!PyData.eqv x y) else none
theorem dec_strV (a b : Str) : decide (V.str a = V.str b) = decide (a = b) := by
  by_cases h : a = b
  · subst h; simp
  · rw [decide_eq_false h, decide_eq_false (fun z => h (by injection z))]
def ltD : PyData → PyData → Option Slot
  | .int i, .int j => bV (decide (i < j))
  | _, _ => none
def leD : PyData → PyData → Option Slot
  | .int i, .int j => bV (decide (i ≤ j))
  | _, _ => none
def gtD : PyData → PyData → Option Slot
  | .int i, .int j => bV (decide (j < i))
  | _, _ => none
def geD : PyData → PyData → Option Slot
  | .int i, .int j => bV (decide (j ≤ i))
  | _, _ => none
theorem ok_eq : R2ok X.K (fun x y H Q => rEqD X.K x y H Q ∨ rEq x y H Q) eqD := by
  intro Hs H σ env x y v u s hs I hx hy Q q
  unfold eqD at hs
  split at hs
  · rename_i a b
    cases hs
    cases (show v = .str a from hx)
    cases (show u = .str b from hy)
    exact .inr ⟨rfl, by rw [dec_strV]; exact ok_val I rfl (show Rep X.K Hs (.bool _) (.bl _) from rfl) q⟩
  · split at hs
    · rename_i hc
      cases hs
      exact .inl ⟨x, y, Rep.dp x v (Top.rep I.sh hx) (nd_shaped hc.1), Rep.dp y u (Top.rep I.sh hy) (nd_shaped hc.2), hc.1, hc.2, ok_val I rfl (show Rep X.K Hs (.bool _) (.bl _) from rfl) q⟩
    · cases hs
theorem ok_ne : R2ok X.K (fun x y H Q => rNeD X.K x y H Q ∨ rNe x y H Q) neD := by
  intro Hs H σ env x y v u s hs I hx hy Q q
  unfold neD at hs
  split at hs
  · rename_i a b
    cases hs
    cases (show v = .str a from hx)
    cases (show u = .str b from hy)
    exact .inr ⟨rfl, by rw [dec_strV]; exact ok_val I rfl (show Rep X.K Hs (.bool _) (.bl _) from rfl) q⟩
  · split at hs
    · rename_i hc
      cases hs
      exact .inl ⟨x, y, Rep.dp x v (Top.rep I.sh hx) (nd_shaped hc.1), Rep.dp y u (Top.rep I.sh hy) (nd_shaped hc.2), hc.1, hc.2, ok_val I rfl (show Rep X.K Hs (.bool _) (.bl _) from rfl) q⟩
    · cases hs
theorem op_eqA (hu : X.A.units + 64 < cLine) : OpR X (compareOp .Eq) (fun x y H Q => rEqD X.K x y H Q ∨ rEq x y H Q) := OpR.or (op_eqD hu) op_eq
theorem op_neA (hu : X.A.units + 64 < cLine) : OpR X (compareOp .NotEq) (fun x y H Q => rNeD X.K x y H Q ∨ rNe x y H Q) := OpR.or (op_neD hu) op_ne
theorem ok_lt : R2ok X.K (rI0 fun i j => .bl (decide (i < j))) ltD := by
  intro Hs H σ env x y v u s hs I hx hy Q q
  cases x <;> cases y <;> try (cases hs; done)
  cases hs
  exact ⟨_, _, hx, hy, ok_val I rfl (show Rep X.K Hs (.bool _) (.bl _) from rfl) q⟩
theorem ok_le : R2ok X.K (rI0 fun i j => .bl (decide (i ≤ j))) leD := by
  intro Hs H σ env x y v u s hs I hx hy Q q
  cases x <;> cases y <;> try (cases hs; done)
  cases hs
  exact ⟨_, _, hx, hy, ok_val I rfl (show Rep X.K Hs (.bool _) (.bl _) from rfl) q⟩
theorem ok_gt : R2ok X.K (rI0 fun i j => .bl (decide (j < i))) gtD := by
  intro Hs H σ env x y v u s hs I hx hy Q q
  cases x <;> cases y <;> try (cases hs; done)
  cases hs
  exact ⟨_, _, hx, hy, ok_val I rfl (show Rep X.K Hs (.bool _) (.bl _) from rfl) q⟩
theorem ok_ge : R2ok X.K (rI0 fun i j => .bl (decide (j ≤ i))) geD := by
  intro Hs H σ env x y v u s hs I hx hy Q q
  cases x <;> cases y <;> try (cases hs; done)
  cases hs
  exact ⟨_, _, hx, hy, ok_val I rfl (show Rep X.K Hs (.bool _) (.bl _) from rfl) q⟩
/-- is None; is True, is False -/
def isNone : PyData → Bool
  | .none => true
  | _ => false
def isB : PyData → PyData → Option Bool
  | .bool a, .bool b => some (decide (a = b))
  | x, .none => some (isNone x)
  | _, _ => none
def isD (x y : PyData) : Option Slot := (isB x y).bind bV
def isnD (x y : PyData) : Option Slot := (isB x y).bind fun b => bV (!b)
theorem isNone_v {K : PySem.W.Frag} {Hs H : Hp} : ∀ {x : PyData} {v : V}, Top K Hs H x v → decide (v = .non) = isNone x
  | .none, v, h => by cases (show v = .non from h); rfl
  | .bool b, v, h => by cases (show v = .bl b from h); rfl
  | .int b, v, h => by cases (show v = .int b from h); rfl
  | .str b, v, h => by cases (show v = .str b from h); rfl
  | .list b, v, h => by obtain ⟨a, vs, rfl, _⟩ := h; rfl
  | .tuple b, v, h => by obtain ⟨a, vs, rfl, _⟩ := h; rfl
  | .dict b, v, h => by
    rcases (show Rep K Hs (.dict b) v from h) with h | ⟨d, rfl, hs, h⟩ | ⟨_, _, _, rfl, rfl, _⟩ | ⟨_, _, rfl, rfl, _⟩ | ⟨_, _, _, _, rfl, rfl, _⟩
    · obtain ⟨a, C, dx, fs, c, v0, rfl, _⟩ := h; rfl
    · cases d <;> (first | (cases hs; done) | (obtain ⟨a, vs, h0, _⟩ := h; subst h0; rfl))
    · rfl
    · rfl
    · rfl
def rIsX : R2 := fun x y H Q => (y = .non ∧ Q (.bl (decide (x = .non))) H) ∨ (∃ a b, x = .bl a ∧ y = .bl b ∧ Q (.bl (decide (a = b))) H)
def rIsnX : R2 := fun x y H Q => (y = .non ∧ Q (.bl (!decide (x = .non))) H) ∨ (∃ a b, x = .bl a ∧ y = .bl b ∧ Q (.bl (!decide (a = b))) H)
theorem ok_is : R2ok X.K rIsX isD := by
  intro Hs H σ env x y v u s hs I hx hy Q q
  unfold isD isB at hs
  split at hs
  · rename_i a b
    cases hs
    exact .inr ⟨a, b, hx, hy, ok_val I rfl (show Rep X.K Hs (.bool _) (.bl _) from rfl) q⟩
  · cases hs
    exact .inl ⟨hy, by rw [isNone_v hx]; exact ok_val I rfl (show Rep X.K Hs (.bool _) (.bl _) from rfl) q⟩
  · cases hs
theorem ok_isn : R2ok X.K rIsnX isnD := by
  intro Hs H σ env x y v u s hs I hx hy Q q
  unfold isnD isB at hs
  split at hs
  · rename_i a b
    cases hs
    exact .inr ⟨a, b, hx, hy, ok_val I rfl (show Rep X.K Hs (.bool _) (.bl _) from rfl) q⟩
  · cases hs
    exact .inl ⟨hy, by rw [isNone_v hx]; exact ok_val I rfl (show Rep X.K Hs (.bool _) (.bl _) from rfl) q⟩
  · cases hs
end Ip

set_option Elab.async false
set_option linter.all false
set_option maxRecDepth 100000
set_option maxHeartbeats 4000000
namespace Ip
open PySem L2
open Evl (Ex sz_of fresh_back)
variable [Old]
variable {X : Cx} {a b e : Expr} {pos : Pos}

/-! ### what is old, one step into it -/
def oldOf : PyData → PyData
  | .list xs => oldD (.list xs)
  | .tuple xs => oldD (.tuple xs)
  | d => d
theorem rep_oldOf {K : PySem.W.Frag} {Hs : Hp} : ∀ {d : PyData} {v : V}, Rep0 K Old.Ho d v → Rep K Hs (oldOf d) v
  | .none, _, h => h
  | .bool _, _, h => h
  | .int _, _, h => h
  | .str _, _, h => h
  | .list xs, _, h => .inr (.inl ⟨.list xs, rfl, rfl, h⟩)
  | .tuple xs, _, h => .inr (.inl ⟨.tuple xs, rfl, rfl, h⟩)
  | .dict _, _, h => by cases (show False from h)
theorem repL_oldOf {K : PySem.W.Frag} {Hs : Hp} : ∀ {ds : List PyData} {vs : List V}, Rep0L K Old.Ho ds vs → RepL K Hs (ds.map oldOf) vs
  | [], _, h => h
  | d :: ds, _, h => by
    obtain ⟨v, r, rfl, h1, h2⟩ := h
    exact ⟨v, r, rfl, rep_oldOf h1, repL_oldOf h2⟩
theorem rep_old {K : PySem.W.Frag} {Hs : Hp} {d : PyData} {v : V} (h : Rep K Hs (oldD d) v) : seqD d = true ∧ Rep0 K Old.Ho d v := by
  rcases (show Rep K Hs (.dict [(.none, d)]) v from h) with h | ⟨d', e, hs, h⟩ | ⟨_, _, _, e, _⟩ | ⟨_, _, e, _⟩ | ⟨_, _, _, _, e, _⟩
  · obtain ⟨a, C, dx, fs, c, v0, _, _, _, h⟩ := h
    obtain ⟨w, r, e, h1, _⟩ := h
    cases (show PyData.none = .str w.1 from h1.1)
  · cases e
    exact ⟨hs, h⟩
  · cases e
  · cases e
  · cases e
theorem old_list {K : PySem.W.Frag} {Hs : Hp} {xs : List PyData} {v : V} (h : Rep K Hs (oldD (.list xs)) v) : ∃ a vs, v = .ref a ∧ SqL K Old.Ho a vs ∧ RepL K Hs (xs.map oldOf) vs := by
  obtain ⟨_, a, vs, e, h1, h2⟩ := rep_old h
  exact ⟨a, vs, e, h1, repL_oldOf h2⟩
theorem old_tup {K : PySem.W.Frag} {Hs : Hp} {xs : List PyData} {v : V} (h : Rep K Hs (oldD (.tuple xs)) v) : ∃ a vs, v = .ref a ∧ SqT K Old.Ho a vs ∧ RepL K Hs (xs.map oldOf) vs := by
  obtain ⟨_, a, vs, e, h1, h2⟩ := rep_old h
  exact ⟨a, vs, e, h1, repL_oldOf h2⟩
/-! ### tests -/
def boolT (f : MEnv → Option (Slot × MEnv)) : MEnv → Option (Bool × MEnv) := fun env => match f env with
  | some (.val (.bool b), e1) => some (b, e1)
  | _ => none
theorem boolT_some {f : MEnv → Option (Slot × MEnv)} {env env' : MEnv} {b : Bool} (h : boolT f env = some (b, env')) : f env = some (.val (.bool b), env') := by
  unfold boolT at h
  split at h
  · rename_i b0 e1 h0
    cases h
    exact h0
  · cases h
/-- an expression that is plain in a test -/
theorem st_val {f : MEnv → Option (Slot × MEnv)} (h : SE X e f) (he : ∀ whole, isTrue e X.env whole = (do let v ← whole; standAt e.pos; holding [v] (truthy v))) : ST X e (boolT f) := by
  refine ⟨?_⟩
  intro env σ Hs H b env' hf I Q q
  refine WT.of (pt_val (W.pe X e) he) ?_
  exact h env σ Hs H _ env' (boolT_some hf) I _ fun v Hs' H' g I' r => ⟨b, r, q Hs' H' g I'⟩
/-- the reading of two operands and an operation -/
theorem rd_op2 {fa fb : MEnv → Option (Lr × MEnv)} {g : PyData → PyData → Option Slot} {r : R2} (ha : SL X a fa) (hb : SL X b fb) (hr : R2ok X.K r g) {env : MEnv} {σ : L2.St} {Hs H : Hp} {s : Slot} {env' : MEnv} (hf : op2 fa fb g env = some (s, env'))
    (I : InvS X.K Hs H σ env) (Q : VK) (q : ∀ v Hs' H', GoE σ env Hs H env' Hs' H' → InvS X.K Hs' H' σ env' → RepR X.K H Hs' H' s v → Q v H') : tOp r (W X a) (W X b) σ H Q := by
  unfold op2 at hf
  split at hf
  · rename_i ra e1 h1
    split at hf
    · rename_i rb e2 h2
      split at hf
      · rename_i x y hx hy
        split at hf
        · rename_i s0 hs
          cases hf
          refine ha env σ Hs H ra e1 h1 I _ fun v Hs1 H1 g1 I1 r1 => ?_
          refine hb e1 σ Hs1 H1 rb env' h2 I1 _ fun u Hs2 H2 g2 I2 r2 => ?_
          refine hr Hs2 H2 σ env' x y v u s hs I2 (RepLr.top I2 (r1.mono g2.sh) hx) (RepLr.top I2 r2 hy) Q fun z Hs3 H3 g3 I3 r3 => ?_
          exact q z Hs3 H3 ((g1.trans g2).trans g3) I3 (RepR.mono (fun p hp => (g1.trans g2).none_back hp) r3)
        · cases hf
      · cases hf
    · cases hf
  · cases hf
theorem st_cmp {op : CmpOp} {fa fb : MEnv → Option (Lr × MEnv)} {g : PyData → PyData → Option Slot} {r : R2} (ho : OpR X (compareOp op) r) (ha : SL X a fa) (hb : SL X b fb) (hr : R2ok X.K r g) (hm : behindInMarks op b = false) :
    ST X (.Compare a [op] [b] pos) (boolT (op2 fa fb g)) := by
  refine ⟨?_⟩
  intro env σ Hs H k env' hf I Q q
  refine WT.of (pt_cmpR ho (W.pe X a) (W.pe X b) hm) ?_
  exact rd_op2 ha hb hr (boolT_some hf) I _ fun v Hs' H' g I' r => ⟨k, r, q Hs' H' g I'⟩
theorem se_cmp {op : CmpOp} {fa fb : MEnv → Option (Lr × MEnv)} {g : PyData → PyData → Option Slot} {r : R2} (ho : OpR X (compareOp op) r) (ha : SL X a fa) (hb : SL X b fb) (hr : R2ok X.K r g) (hm : behindInMarks op b = false) :
    SE X (.Compare a [op] [b] pos) (op2 fa fb g) := se_op2 ha hb hr (pe_cmpR ho (W.pe X a) (W.pe X b) hm)
/-- not -/
def notT (f : MEnv → Option (Bool × MEnv)) : MEnv → Option (Bool × MEnv) := fun env => match f env with
  | some (b, e1) => some (!b, e1)
  | none => none
theorem st_not {f : MEnv → Option (Bool × MEnv)} (h : ST X a f) : ST X (.UnaryOp .Not a pos) (notT f) := by
  refine ⟨?_⟩
  intro env σ Hs H b env' hf I Q q
  unfold notT at hf
  split at hf
  · rename_i b0 e1 h0
    cases hf
    exact WT.of (pt_not (WT.pt X a)) (h env σ Hs H b0 env' h0 I _ q)
  · cases hf
def boolS (f : MEnv → Option (Bool × MEnv)) : MEnv → Option (Slot × MEnv) := fun env => match f env with
  | some (b, e1) => some (.val (.bool b), e1)
  | none => none
theorem rd_boolS {f : MEnv → Option (Bool × MEnv)} {env env' : MEnv} {r : Slot} (h : boolS f env = some (r, env')) : ∃ b, f env = some (b, env') ∧ r = .val (.bool b) := by
  unfold boolS at h
  split at h
  · rename_i b e1 h0
    cases h
    exact ⟨b, h0, rfl⟩
  · cases h
/-- not, as a value -/
theorem se_not {f : MEnv → Option (Slot × MEnv)} (h : SE X a f) : SE X (.UnaryOp .Not a pos) (boolS (notT (boolT f))) := by
  refine ⟨?_⟩
  intro env σ Hs H r env' hf I Q q
  obtain ⟨b, hb, rfl⟩ := rd_boolS hf
  unfold notT at hb
  split at hb
  · rename_i b0 e1 h0
    cases hb
    refine W.of (pe_not (W.pe X a)) ?_
    exact h env σ Hs H _ env' (boolT_some h0) I _ fun v Hs' H' g I' r => ⟨b0, r, q _ Hs' H' g I' rfl⟩
  · cases hb
/-! and, or -/
def andT (fa fb : MEnv → Option (Bool × MEnv)) : MEnv → Option (Bool × MEnv) := fun env => match fa env with
  | some (true, e1) => fb e1
  | some (false, e1) => some (false, e1)
  | none => none
def orT (fa fb : MEnv → Option (Bool × MEnv)) : MEnv → Option (Bool × MEnv) := fun env => match fa env with
  | some (false, e1) => fb e1
  | some (true, e1) => some (true, e1)
  | none => none
theorem pw_of {op : BoolOp} {es : List Expr} {t : TT} (h : PT X (.BoolOp op es pos) t) : PW X (.BoolOp op es pos) t := ⟨fun whole pins s σ H Q I ht => by
  have k := h.run pins s σ H Q I ht
  unfold PySem.isTrue at k ⊢
  exact k⟩
theorem st_one {op : BoolOp} {fa : MEnv → Option (Bool × MEnv)} (ha : ST X a fa) : ST X (.BoolOp op [a] pos) fa := by
  refine ⟨?_⟩
  intro env σ Hs H b env' hf I Q q
  cases op with
  | And => exact WT.of (pw_and1 (WT.pt X a)).pt (ha env σ Hs H b env' hf I Q q)
  | Or => exact WT.of (pw_or1 (WT.pt X a)).pt (ha env σ Hs H b env' hf I Q q)
theorem st_and {fa fb : MEnv → Option (Bool × MEnv)} {rest : List Expr} (ha : ST X a fa) (hb : ST X (.BoolOp .And (b :: rest) pos) fb) : ST X (.BoolOp .And (a :: b :: rest) pos) (andT fa fb) := by
  refine ⟨?_⟩
  intro env σ Hs H k env' hf I Q q
  refine WT.of (pw_and (WT.pt X a) (pw_of (WT.pt X _))).pt ?_
  unfold andT at hf
  split at hf
  · rename_i e1 h0
    refine ha env σ Hs H true e1 h0 I _ fun Hs1 H1 g1 I1 => ?_
    refine iteT ?_
    exact hb e1 σ Hs1 H1 k env' hf I1 Q fun Hs2 H2 g2 I2 => q Hs2 H2 (g1.trans g2) I2
  · rename_i e1 h0
    cases hf
    refine ha env σ Hs H false env' h0 I _ fun Hs1 H1 g1 I1 => ?_
    refine iteF ?_
    exact q Hs1 H1 g1 I1
  · cases hf
theorem st_or {fa fb : MEnv → Option (Bool × MEnv)} {rest : List Expr} (ha : ST X a fa) (hb : ST X (.BoolOp .Or (b :: rest) pos) fb) : ST X (.BoolOp .Or (a :: b :: rest) pos) (orT fa fb) := by
  refine ⟨?_⟩
  intro env σ Hs H k env' hf I Q q
  refine WT.of (pw_or (WT.pt X a) (pw_of (WT.pt X _))).pt ?_
  unfold orT at hf
  split at hf
  · rename_i e1 h0
    refine ha env σ Hs H false e1 h0 I _ fun Hs1 H1 g1 I1 => ?_
    refine iteF ?_
    exact hb e1 σ Hs1 H1 k env' hf I1 Q fun Hs2 H2 g2 I2 => q Hs2 H2 (g1.trans g2) I2
  · rename_i e1 h0
    cases hf
    refine ha env σ Hs H true env' h0 I _ fun Hs1 H1 g1 I1 => ?_
    refine iteT ?_
    exact q Hs1 H1 g1 I1
  · cases hf
/-- as values: all but the last are True or False -/
def andE (fa fb : MEnv → Option (Slot × MEnv)) : MEnv → Option (Slot × MEnv) := fun env => match fa env with
  | some (.val (.bool true), e1) => fb e1
  | some (.val (.bool false), e1) => some (.val (.bool false), e1)
  | _ => none
def orE (fa fb : MEnv → Option (Slot × MEnv)) : MEnv → Option (Slot × MEnv) := fun env => match fa env with
  | some (.val (.bool false), e1) => fb e1
  | some (.val (.bool true), e1) => some (.val (.bool true), e1)
  | _ => none
theorem se_one {op : BoolOp} {fa : MEnv → Option (Slot × MEnv)} (ha : SE X a fa) : SE X (.BoolOp op [a] pos) fa := .mk fun env σ Hs H r env' hf I Q q => W.of (pe_one (W.pe X a)) (ha env σ Hs H r env' hf I Q q)
theorem se_and {fa fb : MEnv → Option (Slot × MEnv)} {rest : List Expr} (ha : SE X a fa) (hb : SE X (.BoolOp .And (b :: rest) pos) fb) : SE X (.BoolOp .And (a :: b :: rest) pos) (andE fa fb) := by
  refine ⟨?_⟩
  intro env σ Hs H k env' hf I Q q
  refine W.of (pe_and (W.pe X a) (W.pe X _)) ?_
  unfold andE at hf
  split at hf
  · rename_i e1 h0
    refine ha env σ Hs H _ e1 h0 I _ fun v Hs1 H1 g1 I1 r1 => ⟨true, r1, ?_⟩
    refine iteT ?_
    exact hb e1 σ Hs1 H1 k env' hf I1 Q fun z Hs2 H2 g2 I2 r2 => q z Hs2 H2 (g1.trans g2) I2 (RepR.mono (fun p hp => g1.none_back hp) r2)
  · rename_i e1 h0
    cases hf
    refine ha env σ Hs H _ env' h0 I _ fun v Hs1 H1 g1 I1 r1 => ⟨false, r1, ?_⟩
    refine iteF ?_
    exact q _ Hs1 H1 g1 I1 rfl
  · cases hf
theorem se_or {fa fb : MEnv → Option (Slot × MEnv)} {rest : List Expr} (ha : SE X a fa) (hb : SE X (.BoolOp .Or (b :: rest) pos) fb) : SE X (.BoolOp .Or (a :: b :: rest) pos) (orE fa fb) := by
  refine ⟨?_⟩
  intro env σ Hs H k env' hf I Q q
  refine W.of (pe_or (W.pe X a) (W.pe X _)) ?_
  unfold orE at hf
  split at hf
  · rename_i e1 h0
    refine ha env σ Hs H _ e1 h0 I _ fun v Hs1 H1 g1 I1 r1 => ⟨false, r1, ?_⟩
    refine iteF ?_
    exact hb e1 σ Hs1 H1 k env' hf I1 Q fun z Hs2 H2 g2 I2 r2 => q z Hs2 H2 (g1.trans g2) I2 (RepR.mono (fun p hp => g1.none_back hp) r2)
  · rename_i e1 h0
    cases hf
    refine ha env σ Hs H _ env' h0 I _ fun v Hs1 H1 g1 I1 r1 => ⟨true, r1, ?_⟩
    refine iteT ?_
    exact q _ Hs1 H1 g1 I1 rfl
  · cases hf
/-- a if t else b -/
def ifE (ft : MEnv → Option (Bool × MEnv)) (fa fb : MEnv → Option (Slot × MEnv)) : MEnv → Option (Slot × MEnv) := fun env => match ft env with
  | some (true, e1) => fa e1
  | some (false, e1) => fb e1
  | none => none
theorem se_if {t : Expr} {ft : MEnv → Option (Bool × MEnv)} {fa fb : MEnv → Option (Slot × MEnv)} (ht : ST X t ft) (ha : SE X a fa) (hb : SE X b fb) : SE X (.IfExp t a b pos) (ifE ft fa fb) := by
  refine ⟨?_⟩
  intro env σ Hs H k env' hf I Q q
  refine W.of (pe_ifExp (WT.pt X t) (W.pe X a) (W.pe X b)) ?_
  unfold ifE at hf
  split at hf
  · rename_i e1 h0
    refine ht env σ Hs H _ e1 h0 I _ fun Hs1 H1 g1 I1 => ?_
    refine iteT ?_
    exact ha e1 σ Hs1 H1 k env' hf I1 Q fun z Hs2 H2 g2 I2 r2 => q z Hs2 H2 (g1.trans g2) I2 (RepR.mono (fun p hp => g1.none_back hp) r2)
  · rename_i e1 h0
    refine ht env σ Hs H _ e1 h0 I _ fun Hs1 H1 g1 I1 => ?_
    refine iteF ?_
    exact hb e1 σ Hs1 H1 k env' hf I1 Q fun z Hs2 H2 g2 I2 r2 => q z Hs2 H2 (g1.trans g2) I2 (RepR.mono (fun p hp => g1.none_back hp) r2)
  · cases hf

/-! ### one operand -/
def op1 (fa : MEnv → Option (Lr × MEnv)) (g : PyData → Option Slot) : MEnv → Option (Slot × MEnv) := fun env => match fa env with
  | some (ra, e1) => match look ra e1 with
    | some x => match g x with
      | some s => some (s, e1)
      | none => none
    | none => none
  | none => none
def R1ok (K : PySem.W.Frag) (r : V → Hp → VK → Prop) (g : PyData → Option Slot) : Prop := ∀ (Hs H : Hp) (σ : L2.St) (env : MEnv) (x : PyData) (v : V) (s : Slot), g x = some s → InvS K Hs H σ env → Top K Hs H x v →
  ∀ Q : VK, (∀ z Hs' H', GoE σ env Hs H env Hs' H' → InvS K Hs' H' σ env → RepR K H Hs' H' s z → Q z H') → r v H Q
theorem se_op1 {fa : MEnv → Option (Lr × MEnv)} {g : PyData → Option Slot} {r : V → Hp → VK → Prop} {ee : Expr} (ha : SL X a fa) (hr : R1ok X.K r g) (h : PE X ee (fun σ H Q => W X a σ H fun x H1 => r x H1 Q)) : SE X ee (op1 fa g) := by
  refine ⟨?_⟩
  intro env σ Hs H s env' hf I Q q
  unfold op1 at hf
  split at hf
  · rename_i ra e1 h1
    split at hf
    · rename_i x hx
      split at hf
      · rename_i s0 hs
        cases hf
        refine W.of h ?_
        refine ha env σ Hs H ra env' h1 I _ fun v Hs1 H1 g1 I1 r1 => ?_
        exact hr Hs1 H1 σ env' x v s hs I1 (RepLr.top I1 r1 hx) Q fun z Hs3 H3 g3 I3 r3 => q z Hs3 H3 (g1.trans g3) I3 (RepR.mono (fun p hp => g1.none_back hp) r3)
      · cases hf
    · cases hf
  · cases hf
def negD : PyData → Option Slot
  | .int i => some (.val (.int (-i)))
  | _ => none
theorem ok_neg {K : PySem.W.Frag} : R1ok K (rU fun i => .int (-i)) negD := by
  intro Hs H σ env x v s hs I hx Q q
  cases x <;> try (cases hs; done)
  cases hs
  exact ⟨_, hx, ok_val I rfl (show Rep K Hs (.int _) (.int _) from rfl) q⟩

/-! ### items and slices -/
theorem atI_rep {K : PySem.W.Frag} {H : Hp} {ds : List PyData} {vs : List V} (h : RepL K H ds vs) {i : Int} {d : PyData} (e : atI ds i = some d) : ∃ v, atI vs i = some v ∧ Rep K H d v := by
  unfold atI at e ⊢
  rw [← RepL.length h]
  cases hj : ixN ds.length i with
  | none => rw [hj] at e; cases e
  | some j =>
    rw [hj] at e
    obtain ⟨v, h1, h2⟩ := RepL.get h (show ds[j]? = some d from e)
    exact ⟨v, h1, h2⟩
def ixD : PyData → PyData → Option Slot
  | .list xs, .int i => (atI xs i).map .val
  | .tuple xs, .int i => (atI xs i).map .val
  | .str z, .int i => if z.length ≤ 100000 then (atI z.cps.toList i).map fun c => .val (.str ⟨#[c]⟩) else none
  | .dict [(.none, .list xs)], .int i => (atI (xs.map oldOf) i).map .val
  | .dict [(.none, .tuple xs)], .int i => (atI (xs.map oldOf) i).map .val
  | _, _ => none
theorem ok_ix : R2ok X.K (rIx X.K) ixD := by
  intro Hs H σ env x y v u s hs I hx hy Q q
  have oldies : ∀ {xs : List PyData} {i : Int}, (x = oldD (.list xs) ∨ x = oldD (.tuple xs)) → y = .int i → (atI (xs.map oldOf) i).map Slot.val = some s → rIx X.K v u H Q := by
    intro xs i ex ey hs2
    cases hd : atI (xs.map oldOf) i with
    | none => rw [hd] at hs2; cases hs2
    | some d =>
      rw [hd] at hs2
      cases hs2
      subst ey
      rcases ex with ex | ex
      · subst ex
        obtain ⟨l, vs, e1, h1, h2⟩ := old_list (show Rep X.K Hs (oldD (.list xs)) v from hx)
        obtain ⟨w, e2, h3⟩ := atI_rep h2 hd
        exact .inl ⟨l, vs, i, w, e1, hy, Evl.ex_l I.old.1 h1, e2, ok_val I rfl h3 q⟩
      · subst ex
        obtain ⟨l, vs, e1, h1, h2⟩ := old_tup (show Rep X.K Hs (oldD (.tuple xs)) v from hx)
        obtain ⟨w, e2, h3⟩ := atI_rep h2 hd
        exact .inr (.inl ⟨l, vs, i, w, e1, hy, Evl.ex_t I.old.1 h1, e2, ok_val I rfl h3 q⟩)
  by_cases hdic : ∃ kvs, x = .dict kvs
  · obtain ⟨kvs, rfl⟩ := hdic
    unfold ixD at hs
    split at hs
    · cases ‹PyData.dict _ = .list _›
    · cases ‹PyData.dict _ = .tuple _›
    · cases ‹PyData.dict _ = .str _›
    · rename_i e
      cases e
      exact oldies (.inl rfl) rfl hs
    · rename_i e
      cases e
      exact oldies (.inr rfl) rfl hs
    · cases hs
  have hdic' : ∀ kvs, x ≠ .dict kvs := fun kvs e => hdic ⟨kvs, e⟩
  cases x <;> cases y <;> first | (exact absurd rfl (hdic' _)) | skip <;> try (cases hs; done)
  · rename_i z i
    unfold ixD at hs
    simp only at hs
    split at hs
    · rename_i hz
      cases hc : atI z.cps.toList i with
      | none => rw [hc] at hs; cases hs
      | some c =>
        rw [hc] at hs
        cases hs
        exact .inr (.inr ⟨z, i, c, hx, hy, sz_of hz, hc, ok_val I rfl (show Rep X.K Hs (.str _) (.str _) from rfl) q⟩)
    · cases hs
  · rename_i xs i
    have hs : (atI xs i).map Slot.val = some s := hs
    cases hd : atI xs i with
    | none => rw [hd] at hs; cases hs
    | some d =>
      rw [hd] at hs
      cases hs
      obtain ⟨l, vs, e1, h1, h2⟩ := hx
      obtain ⟨w, e2, h3⟩ := atI_rep h2 hd
      exact .inl ⟨l, vs, i, w, e1, hy, h1, e2, ok_val I rfl h3 q⟩
  · rename_i xs i
    have hs : (atI xs i).map Slot.val = some s := hs
    cases hd : atI xs i with
    | none => rw [hd] at hs; cases hs
    | some d =>
      rw [hd] at hs
      cases hs
      obtain ⟨l, vs, e1, h1, h2⟩ := hx
      obtain ⟨w, e2, h3⟩ := atI_rep h2 hd
      exact .inr (.inl ⟨l, vs, i, w, e1, hy, Evl.ex_t I.sh h1, e2, ok_val I rfl h3 q⟩)
theorem se_ix {fa fb : MEnv → Option (Lr × MEnv)} (ha : SL X a fa) (hb : SL X b fb) (hp : PlainIx b) : SE X (.Subscript a b pos) (op2 fa fb ixD) := se_op2 ha hb ok_ix (pe_ix ix_seq (W.pe X a) (W.pe X b) hp)
/-- xs[lo:hi] -/
def cutD (xs : List PyData) (lo hi : Option Int) : List PyData := (xs.drop (HT.sIx xs.length 0 lo)).take (HT.sIx xs.length xs.length hi - HT.sIx xs.length 0 lo)
theorem cut_rep {K : PySem.W.Frag} {H : Hp} {ds : List PyData} {vs : List V} (h : RepL K H ds vs) (lo hi : Option Int) : RepL K H (cutD ds lo hi) (cutV vs lo hi) := by
  unfold cutD cutV
  rw [← RepL.length h]
  exact RepL.take _ (RepL.drop _ h)
structure SO (X : Cx) (e : Option Expr) (f : MEnv → Option (Option Int × MEnv)) : Prop where
  run : ∀ (env : MEnv) (σ : L2.St) (Hs H : Hp) (o : Option Int) (env' : MEnv), f env = some (o, env') → InvS X.K Hs H σ env → ∀ Q : Option Int → Hp → Prop, (∀ Hs' H', GoE σ env Hs H env' Hs' H' → InvS X.K Hs' H' σ env' → Q o H') → (match e with | none => tNoPart | some e => tPart (W X e)) σ H Q
instance {X : Cx} {e : Option Expr} {f : MEnv → Option (Option Int × MEnv)} : CoeFun (SO X e f) (fun _ => ∀ (env : MEnv) (σ : L2.St) (Hs H : Hp) (o : Option Int) (env' : MEnv), f env = some (o, env') → InvS X.K Hs H σ env → ∀ Q : Option Int → Hp → Prop, (∀ Hs' H', GoE σ env Hs H env' Hs' H' → InvS X.K Hs' H' σ env' → Q o H') → (match e with | none => tNoPart | some e => tPart (W X e)) σ H Q) := ⟨SO.run⟩
def intO (f : MEnv → Option (Lr × MEnv)) : MEnv → Option (Option Int × MEnv) := fun env => match f env with
  | some (r, e1) => match look r e1 with
    | some (.int i) => some (some i, e1)
    | _ => none
  | none => none
theorem so_none : SO X none (fun env => some (none, env)) := .mk fun env σ Hs H o env' hf I Q q => by
  cases hf
  exact q Hs H GoE.refl I
theorem so_some {f : MEnv → Option (Lr × MEnv)} (h : SL X e f) : SO X (some e) (intO f) := by
  refine ⟨?_⟩
  intro env σ Hs H o env' hf I Q q
  unfold intO at hf
  split at hf
  · rename_i r e1 h1
    split at hf
    · rename_i i hi
      cases hf
      exact h env σ Hs H r env' h1 I _ fun v Hs' H' g I' rr => ⟨i, rep_int (RepLr.top I' rr hi), q Hs' H' g I'⟩
    · cases hf
  · cases hf
theorem so_po (e : Option Expr) : PO X e (match e with | none => tNoPart | some e => tPart (W X e)) := by
  cases e with
  | none => exact po_none
  | some e => exact po_some (W.pe X e)
def slF (fa : MEnv → Option (Lr × MEnv)) (fl fh : MEnv → Option (Option Int × MEnv)) : MEnv → Option (Slot × MEnv) := fun env => match fa env with
  | some (ra, e1) => match fl e1 with
    | some (lo, e2) => match fh e2 with
      | some (hi, e3) => match look ra e3 with
        | some (.list xs) => some (.own (cutD xs lo hi), e3)
        | some (.tuple xs) => some (.val (.tuple (cutD xs lo hi)), e3)
        | some (.dict [(.none, .list xs)]) => some (.own (cutD (xs.map oldOf) lo hi), e3)
        | some (.dict [(.none, .tuple xs)]) => if (cutD xs lo hi).length < xs.length then some (.val (.tuple (cutD (xs.map oldOf) lo hi)), e3) else none
        | _ => none
      | none => none
    | none => none
  | none => none
theorem cut_whole {xs : List PyData} {lo hi : Option Int} (h : HT.sIx xs.length 0 lo = 0 ∧ HT.sIx xs.length xs.length hi = xs.length) : cutD xs lo hi = xs := by
  unfold cutD
  rw [h.1, h.2]
  simp
theorem se_sl {fa : MEnv → Option (Lr × MEnv)} {fl fh : MEnv → Option (Option Int × MEnv)} {lo hi : Option Expr} {p2 : Pos} (ha : SL X a fa) (hl : SO X lo fl) (hh : SO X hi fh) : SE X (.Subscript a (.Slice lo hi none p2) pos) (slF fa fl fh) := by
  refine ⟨?_⟩
  intro env σ Hs H s env' hf I Q q
  unfold slF at hf
  split at hf
  · rename_i ra e1 h1
    split at hf
    · rename_i l e2 h2
      split at hf
      · rename_i h e3 h3
        refine W.of (pe_slice (SlR.or sl_list sl_tupA) (W.pe X a) (so_po lo) (so_po hi)) ?_
        refine ha env σ Hs H ra e1 h1 I _ fun v Hs1 H1 g1 I1 r1 => ?_
        refine hl e1 σ Hs1 H1 l e2 h2 I1 _ fun Hs2 H2 g2 I2 => ?_
        refine hh e2 σ Hs2 H2 h e3 h3 I2 _ fun Hs3 H3 g3 I3 => ?_
        have g := (g1.trans g2).trans g3
        have top : ∀ {d : PyData}, look ra e3 = some d → Top X.K Hs3 H3 d v := fun hd => RepLr.top I3 (r1.mono (g2.trans g3).sh) hd
        split at hf
        · rename_i xs hx
          cases hf
          obtain ⟨p, vs, e4, k1, k2⟩ := top hx
          exact .inl ⟨p, vs, e4, k1, ok_newL (s := .own (cutD xs l h)) I3 rfl (cut_rep k2 l h) fun z Hs' H' g' I' r' => q z Hs' H' (g.trans g') I' (RepR.mono (fun p hp => g.none_back hp) r')⟩
        · rename_i xs hx
          cases hf
          obtain ⟨p, vs, e4, k1, k2⟩ := top hx
          have hlen := RepL.length k2
          refine .inr ⟨p, vs, e4, Evl.ex_t I3.sh k1, fun hw => ?_, fun _ => ok_newT (s := .val (.tuple (cutD xs l h))) I3 rfl (cut_rep k2 l h) fun z Hs' H' g' I' r' => q z Hs' H' (g.trans g') I' (RepR.mono (fun p hp => g.none_back hp) r')⟩
          rw [← hlen] at hw
          exact q _ Hs3 H3 g I3 ⟨p, vs, rfl, k1, by rw [cut_whole hw]; exact k2⟩
        · rename_i xs hx
          cases hf
          obtain ⟨p, vs, e4, k1, k2⟩ := old_list (show Rep X.K Hs3 (oldD (.list xs)) v from top hx)
          exact .inl ⟨p, vs, e4, Evl.ex_l I3.old.1 k1, ok_newL (s := .own (cutD (xs.map oldOf) l h)) I3 rfl (cut_rep k2 l h) fun z Hs' H' g' I' r' => q z Hs' H' (g.trans g') I' (RepR.mono (fun p hp => g.none_back hp) r')⟩
        · rename_i xs hx
          split at hf
          · rename_i hlt
            cases hf
            obtain ⟨p, vs, e4, k1, k2⟩ := old_tup (show Rep X.K Hs3 (oldD (.tuple xs)) v from top hx)
            have hlen := RepL.length k2
            rw [List.length_map] at hlen
            refine .inr ⟨p, vs, e4, Evl.ex_t I3.old.1 k1, fun hw => ?_, fun _ => ok_newT (s := .val (.tuple (cutD (xs.map oldOf) l h))) I3 rfl (cut_rep k2 l h) fun z Hs' H' g' I' r' => q z Hs' H' (g.trans g') I' (RepR.mono (fun p hp => g.none_back hp) r')⟩
            rw [← hlen] at hw
            rw [cut_whole hw] at hlt
            exact absurd hlt (Nat.lt_irrefl _)
          · cases hf
        · cases hf
      · cases hf
    · cases hf
  · cases hf

/-! ### argument lists, displays -/
def plainE : Expr → Bool
  | .Starred _ _ => false
  | _ => true
theorem star_plain {e : Expr} {es : List Expr} {env : PySem.Env} (h : plainE e = true) : starEach (e :: es) env = (false, eval e env) :: starEach es env := by
  cases e <;> first | rfl | cases h
theorem star_any {env : PySem.Env} {pos : Pos} : ∀ {es : List Expr}, es.all plainE = true → (backTo pos (starEach es env)).any (·.1) = false
  | [], _ => rfl
  | e :: es, h => by
    rw [List.all_cons, Bool.and_eq_true] at h
    rw [star_plain h.1]
    exact star_any (es := es) h.2
def consA (fe : MEnv → Option (PyData × MEnv)) (fs : MEnv → Option (List PyData × MEnv)) : MEnv → Option (List PyData × MEnv) := fun env => match fe env with
  | some (d, e1) => match fs e1 with
    | some (ds, e2) => some (d :: ds, e2)
    | none => none
  | none => none
theorem sa_nil : SA X [] (fun env => some ([], env)) := .mk fun env σ Hs H ds env' hf I Q q => by
  cases hf
  exact WA.of pa_nil (q [] Hs H GoE.refl I rfl)
theorem sa_cons {es : List Expr} {fe : MEnv → Option (PyData × MEnv)} {fs : MEnv → Option (List PyData × MEnv)} (h : SV X e fe) (hs : SA X es fs) (hp : plainE e = true) : SA X (e :: es) (consA fe fs) := by
  refine ⟨?_⟩
  intro env σ Hs H ds env' hf I Q q
  unfold consA at hf
  split at hf
  · rename_i d e1 h1
    split at hf
    · rename_i ds2 e2 h2
      cases hf
      refine WA.of (pa_cons (W.pe X e) (WA.pa X es) (star_plain hp)) ?_
      refine h env σ Hs H d e1 h1 I _ fun v Hs1 H1 g1 I1 r1 => ?_
      exact hs e1 σ Hs1 H1 ds2 env' h2 I1 _ fun vs Hs2 H2 g2 I2 r2 => q (v :: vs) Hs2 H2 (g1.trans g2) I2 ⟨v, vs, rfl, Rep.mono g2.sh d v r1, r2⟩
    · cases hf
  · cases hf
def tupF (f : MEnv → Option (List PyData × MEnv)) : MEnv → Option (Slot × MEnv) := fun env => match f env with
  | some (ds, e1) => if ds.length ≤ 100000 then some (.val (.tuple ds), e1) else none
  | none => none
def lstF (f : MEnv → Option (List PyData × MEnv)) : MEnv → Option (Slot × MEnv) := fun env => match f env with
  | some (ds, e1) => if ds.length ≤ 100000 then some (.own ds, e1) else none
  | none => none
theorem se_tup {es : List Expr} {f : MEnv → Option (List PyData × MEnv)} {x1} (h : SA X es f) : SE X (.Tuple es x1 pos) (tupF f) := by
  refine ⟨?_⟩
  intro env σ Hs H s env' hf I Q q
  unfold tupF at hf
  split at hf
  · rename_i ds e1 h1
    split at hf
    · rename_i hz
      cases hf
      refine W.of (pe_tup (WA.pa X es)) ?_
      refine h env σ Hs H ds env' h1 I _ fun vs Hs1 H1 g1 I1 r1 => ⟨sz_of (by rw [← RepL.length r1]; exact hz), ?_⟩
      exact ok_newT (s := .val (.tuple ds)) I1 rfl r1 fun z Hs' H' g' I' r' => q z Hs' H' (g1.trans g') I' (RepR.mono (fun p hp => g1.none_back hp) r')
    · cases hf
  · cases hf
theorem se_lst {es : List Expr} {f : MEnv → Option (List PyData × MEnv)} (h : SA X es f) : SE X (.List es pos) (lstF f) := by
  refine ⟨?_⟩
  intro env σ Hs H s env' hf I Q q
  unfold lstF at hf
  split at hf
  · rename_i ds e1 h1
    split at hf
    · rename_i hz
      cases hf
      refine W.of (pe_lst (WA.pa X es)) ?_
      refine h env σ Hs H ds env' h1 I _ fun vs Hs1 H1 g1 I1 r1 => ⟨sz_of (by rw [← RepL.length r1]; exact hz), ?_⟩
      exact ok_newL (s := .own ds) I1 rfl r1 fun z Hs' H' g' I' r' => q z Hs' H' (g1.trans g') I' (RepR.mono (fun p hp => g1.none_back hp) r')
    · cases hf
  · cases hf
end Ip

set_option Elab.async false
set_option linter.all false
set_option maxRecDepth 100000
set_option maxHeartbeats 4000000
namespace Ip
open PySem L2
open Evl (Ex sz_of fresh_back)
variable [Old]
variable {X : Cx} {a b e : Expr} {pos : Pos} {K : PySem.W.Frag} {Hs Hs' H H' : Hp} {σ : L2.St} {env env' : MEnv}

/-! ### a slot gets a value -/
theorem getElem?_set_some {α : Type} {l : List α} {i j : Nat} {x y : α} (h : (l.set i x)[j]? = some y) : (i = j ∧ x = y ∧ i < l.length) ∨ (i ≠ j ∧ l[j]? = some y) := by
  by_cases e : i = j
  · subst e
    rw [List.getElem?_set] at h
    rw [if_pos rfl] at h
    split at h
    · cases h
      exact .inl ⟨rfl, rfl, by assumption⟩
    · cases h
  · rw [List.getElem?_set_ne e] at h
    exact .inr ⟨e, h⟩
def setS (i : Nat) (s : Slot) (env : MEnv) : Option MEnv := match env[i]? with
  | some (.io _) => none
  | some _ => some (env.set i s)
  | none => none
theorem setS_some {i : Nat} {s : Slot} (h : setS i s env = some env') : env' = env.set i s ∧ i < env.length ∧ ∀ xs, env[i]? ≠ some (.io xs) := by
  unfold setS at h
  cases ht : env[i]? with
  | none => rw [ht] at h; cases h
  | some t =>
    rw [ht] at h
    have hi := (List.getElem?_eq_some_iff.mp ht).1
    cases t with
    | io xs => cases h
    | un => cases h; exact ⟨rfl, hi, fun xs e => by cases e⟩
    | val d => cases h; exact ⟨rfl, hi, fun xs e => by cases e⟩
    | own ys => cases h; exact ⟨rfl, hi, fun xs e => by cases e⟩
theorem st_set {i : Nat} {v : V} (h : i < σ.length) : (σ.set i (some v))[i]? = some (some v) := by
  rw [List.getElem?_set, if_pos rfl, if_pos h]
/-- the slot's new value is none of the lists that may change -/
theorem mut_set {i : Nat} {s : Slot} {v : V} {p : Addr} (hs : s.mut = none) (m : MutAt (σ.set i (some v)) (env.set i s) p) : MutAt σ env p := by
  obtain ⟨j, t, xs, e1, e2, e3⟩ := m
  rcases getElem?_set_some e1 with ⟨_, e4, _⟩ | ⟨ne, e4⟩
  · rw [← e4, hs] at e2
    cases e2
  · rw [List.getElem?_set_ne ne] at e3
    exact ⟨j, t, xs, e4, e2, e3⟩
theorem loc_set {i : Nat} {s : Slot} {v : V} {p : Addr} (hs : s.mut = none) (m : LocAt (σ.set i (some v)) (env.set i s) p) : LocAt σ env p := by
  obtain ⟨j, xs, e1, e3⟩ := m
  rcases getElem?_set_some e1 with ⟨_, e4, _⟩ | ⟨ne, e4⟩
  · rw [e4] at hs
    cases hs
  · rw [List.getElem?_set_ne ne] at e3
    exact ⟨j, xs, e4, e3⟩
theorem InvS.setV (I : InvS K Hs H σ env) {i : Nat} {d : PyData} {v : V} (hi : i < env.length) (r : Rep K Hs d v) : InvS K Hs H (σ.set i (some v)) (env.set i (.val d)) where
  len := by rw [List.length_set, List.length_set]; exact I.len
  sh := I.sh
  vals := fun j d' h => by
    rcases getElem?_set_some h with ⟨e1, e2, _⟩ | ⟨ne, e2⟩
    · cases e2
      subst e1
      exact ⟨v, st_set (by rw [I.len]; exact hi), r⟩
    · obtain ⟨w, h1, h2⟩ := I.vals j d' e2
      exact ⟨w, by rw [List.getElem?_set_ne ne]; exact h1, h2⟩
  muts := fun j s xs h hm => by
    rcases getElem?_set_some h with ⟨e1, e2, _⟩ | ⟨ne, e2⟩
    · rw [← e2] at hm
      cases hm
    · obtain ⟨p, vs, h1, h2⟩ := I.muts j s xs e2 hm
      exact ⟨p, vs, by rw [List.getElem?_set_ne ne]; exact h1, h2⟩
  diff := fun j k s t xs ys p h1 m1 h2 m2 g1 g2 => by
    rcases getElem?_set_some h1 with ⟨_, e2, _⟩ | ⟨ne, e2⟩
    · rw [← e2] at m1; cases m1
    · rcases getElem?_set_some h2 with ⟨_, e3, _⟩ | ⟨ne3, e3⟩
      · rw [← e3] at m2; cases m2
      · rw [List.getElem?_set_ne ne] at g1
        rw [List.getElem?_set_ne ne3] at g2
        exact I.diff j k s t xs ys p e2 m1 e3 m2 g1 g2
  old := ⟨I.old.1, fun a m => I.old.2 a (mut_set rfl m)⟩
theorem io_set {i : Nat} {s : Slot} {v : V} (hn : ∀ xs, env[i]? ≠ some (.io xs)) (j : Nat) (xs : List PyData) (h : env[j]? = some (.io xs)) : (σ.set i (some v))[j]? = σ[j]? ∧ ∃ ys, (env.set i s)[j]? = some (.io ys) := by
  have ne : i ≠ j := fun z => hn xs (z ▸ h)
  exact ⟨List.getElem?_set_ne ne, xs, by rw [List.getElem?_set_ne ne]; exact h⟩
theorem Go.setV {i : Nat} {d : PyData} {v : V} (hn : ∀ xs, env[i]? ≠ some (.io xs)) : Go σ env Hs H (σ.set i (some v)) (env.set i (.val d)) Hs H := ⟨Ex.refl _, fun _ _ h _ => h, fun _ o h => ⟨o, h⟩, fun _ _ h => .inl h, fun _ h => .inl (mut_set rfl h), fun _ h => .inl (loc_set rfl h), io_set hn⟩
theorem InvS.setO (I : InvS K Hs H σ env) {i : Nat} {xs : List PyData} {vs : List V} {p : Addr} (hi : i < env.length) (hn : Hs p = none) (hp : H p = some (.lst vs)) (r : RepL K Hs xs vs) (nm : ¬ MutAt σ env p) (ho : Old.Ho p = none) : InvS K Hs H (σ.set i (some (.ref p))) (env.set i (.own xs)) where
  len := by rw [List.length_set, List.length_set]; exact I.len
  sh := I.sh
  vals := fun j d' h => by
    rcases getElem?_set_some h with ⟨e1, e2, _⟩ | ⟨ne, e2⟩
    · cases e2
    · obtain ⟨w, h1, h2⟩ := I.vals j d' e2
      exact ⟨w, by rw [List.getElem?_set_ne ne]; exact h1, h2⟩
  muts := fun j s ys h hm => by
    rcases getElem?_set_some h with ⟨e1, e2, _⟩ | ⟨ne, e2⟩
    · subst e2
      cases hm
      subst e1
      exact ⟨p, vs, st_set (by rw [I.len]; exact hi), hn, hp, r⟩
    · obtain ⟨q, ws, h1, h2⟩ := I.muts j s ys e2 hm
      exact ⟨q, ws, by rw [List.getElem?_set_ne ne]; exact h1, h2⟩
  diff := fun j k s t ys zs q h1 m1 h2 m2 g1 g2 => by
    rcases getElem?_set_some h1 with ⟨e1, e2, l1⟩ | ⟨ne, e2⟩
    · rcases getElem?_set_some h2 with ⟨e3, e4, _⟩ | ⟨ne3, e3⟩
      · rw [← e1, ← e3]
      · subst e1
        rw [st_set (by rw [I.len]; exact hi)] at g1
        cases g1
        rw [List.getElem?_set_ne ne3] at g2
        exact absurd ⟨k, t, zs, e3, m2, g2⟩ nm
    · rcases getElem?_set_some h2 with ⟨e3, e4, _⟩ | ⟨ne3, e3⟩
      · subst e3
        rw [st_set (by rw [I.len]; exact hi)] at g2
        cases g2
        rw [List.getElem?_set_ne ne] at g1
        exact absurd ⟨j, s, ys, e2, m1, g1⟩ nm
      · rw [List.getElem?_set_ne ne] at g1
        rw [List.getElem?_set_ne ne3] at g2
        exact I.diff j k s t ys zs q e2 m1 e3 m2 g1 g2
  old := ⟨I.old.1, fun a m => by
    obtain ⟨j, t, ys, e1, e2, e3⟩ := m
    rcases getElem?_set_some e1 with ⟨e4, _, _⟩ | ⟨ne, e4⟩
    · subst e4
      rw [List.getElem?_set, if_pos rfl] at e3
      split at e3
      · cases e3; exact ho
      · cases e3
    · rw [List.getElem?_set_ne ne] at e3
      exact I.old.2 a ⟨j, t, ys, e4, e2, e3⟩⟩
/-- from the start of the statement, where p was not yet -/
theorem Go.setO {σ0 : L2.St} {env0 : MEnv} {Hs0 H0 : Hp} (g : Go σ0 env0 Hs0 H0 σ env Hs H) {i : Nat} {xs : List PyData} {p : Addr} (h0 : H0 p = none) (hn : ∀ xs, env[i]? ≠ some (.io xs)) : Go σ0 env0 Hs0 H0 (σ.set i (some (.ref p))) (env.set i (.own xs)) Hs H where
  io := fun j ys h => by
    obtain ⟨e1, zs, h1⟩ := g.io j ys h
    obtain ⟨e2, h2⟩ := io_set (σ := σ) (s := .own xs) (v := .ref p) hn j zs h1
    exact ⟨e2.trans e1, h2⟩
  sh := g.sh
  kp := g.kp
  dm := g.dm
  nw := g.nw
  ow := fun a m => by
    obtain ⟨j, t, ys, e1, e2, e3⟩ := m
    rcases getElem?_set_some e1 with ⟨e4, _, _⟩ | ⟨ne, e4⟩
    · subst e4
      rw [List.getElem?_set, if_pos rfl] at e3
      split at e3
      · cases e3; exact .inr h0
      · cases e3
    · rw [List.getElem?_set_ne ne] at e3
      exact g.ow a ⟨j, t, ys, e4, e2, e3⟩
  lo := fun a m => by
    obtain ⟨j, ys, e1, e3⟩ := m
    rcases getElem?_set_some e1 with ⟨e4, _, _⟩ | ⟨ne, e4⟩
    · subst e4
      rw [List.getElem?_set, if_pos rfl] at e3
      split at e3
      · cases e3; exact .inr h0
      · cases e3
    · rw [List.getElem?_set_ne ne] at e3
      exact g.lo a ⟨j, ys, e4, e3⟩
/-- a slot's list changes -/
theorem InvS.change (I : InvS K Hs H σ env) {i : Nat} {s s' : Slot} {xs ys : List PyData} {vs : List V} {p : Addr} (h : env[i]? = some s) (hm : s.mut = some xs) (hm' : s'.mut = some ys) (hp : σ[i]? = some (some (.ref p))) (r : RepL K Hs ys vs) :
    InvS K Hs (upd H p (.lst vs)) σ (env.set i s') where
  len := by rw [List.length_set]; exact I.len
  sh := by
    obtain ⟨q, ws, h1, h2, _⟩ := I.muts i s xs h hm
    rw [h1] at hp
    cases hp
    exact Ex.mut I.sh h2
  vals := fun j d hj => by
    rcases getElem?_set_some hj with ⟨_, e2, _⟩ | ⟨ne, e2⟩
    · rw [e2] at hm'; cases hm'
    · exact I.vals j d e2
  muts := fun j t zs hj hmj => by
    rcases getElem?_set_some hj with ⟨e1, e2, _⟩ | ⟨ne, e2⟩
    · subst e1 e2
      rw [hm'] at hmj
      cases hmj
      obtain ⟨q, ws, h1, h2, _⟩ := I.muts i s xs h hm
      rw [h1] at hp
      cases hp
      exact ⟨p, vs, h1, h2, upd_same, r⟩
    · obtain ⟨q, ws, h1, h2, h3, h4⟩ := I.muts j t zs e2 hmj
      have nq : q ≠ p := fun e => ne (I.diff i j s t xs zs p h hm e2 hmj hp (e ▸ h1))
      exact ⟨q, ws, h1, h2, by rw [upd_ne nq]; exact h3, h4⟩
  diff := fun j k t u zs ws q hj mj hk mk g1 g2 => by
    have back : ∀ {j : Nat} {t : Slot} {zs : List PyData}, (env.set i s')[j]? = some t → t.mut = some zs → ∃ t' zs', env[j]? = some t' ∧ t'.mut = some zs' := fun {j t zs} hj mj => by
      rcases getElem?_set_some hj with ⟨e1, _, _⟩ | ⟨_, e2⟩
      · exact ⟨s, xs, e1 ▸ h, hm⟩
      · exact ⟨t, zs, e2, mj⟩
    obtain ⟨t1, z1, a1, a2⟩ := back hj mj
    obtain ⟨t2, z2, b1, b2⟩ := back hk mk
    exact I.diff j k t1 t2 z1 z2 q a1 a2 b1 b2 g1 g2
  old := by
    have hpn : Old.Ho p = none := I.old.2 p ⟨i, s, xs, h, hm, hp⟩
    refine ⟨Ex.mut I.old.1 hpn, fun a m => ?_⟩
    obtain ⟨j, t, zs, e1, e2, e3⟩ := m
    rcases getElem?_set_some e1 with ⟨e4, _, _⟩ | ⟨_, e4⟩
    · exact I.old.2 a ⟨j, s, xs, e4 ▸ h, hm, e3⟩
    · exact I.old.2 a ⟨j, t, zs, e4, e2, e3⟩
def Slot.put : Slot → List PyData → Slot
  | .own _, ys => .own ys
  | .io _, ys => .io ys
  | s, _ => s
theorem Slot.put_mut {s : Slot} {xs : List PyData} (h : s.mut = some xs) (ys : List PyData) : (s.put ys).mut = some ys := by
  cases s <;> first | rfl | cases h
theorem GoE.change (I : InvS K Hs H σ env) {i : Nat} {s : Slot} {xs ys : List PyData} {vs : List V} {p : Addr} (h : env[i]? = some s) (hm : s.mut = some xs) (hp : σ[i]? = some (some (.ref p))) :
    GoE σ env Hs H (env.set i (s.put ys)) Hs (upd H p (.lst vs)) where
  sh := Ex.refl _
  kp := fun a o ha nm => by
    have : a ≠ p := fun e => nm (e ▸ ⟨i, s, xs, h, hm, hp⟩)
    rw [upd_ne this]
    exact ha
  dm := fun a o ha => by
    by_cases e : a = p
    · exact ⟨_, by rw [e]; exact upd_same⟩
    · exact ⟨o, by rw [upd_ne e]; exact ha⟩
  nw := fun a o ha => .inl ha
  ow := fun a m => by
    obtain ⟨j, t, zs, e1, e2, e3⟩ := m
    rcases getElem?_set_some e1 with ⟨e4, _, _⟩ | ⟨_, e4⟩
    · exact ⟨j, s, xs, e4 ▸ h, hm, e3⟩
    · exact ⟨j, t, zs, e4, e2, e3⟩
  lo := fun a m => by
    obtain ⟨j, zs, e1, e3⟩ := m
    rcases getElem?_set_some e1 with ⟨e4, e5, _⟩ | ⟨_, e4⟩
    · subst e4
      cases s with
      | own us => exact ⟨i, us, h, e3⟩
      | io us => cases e5
      | un => cases hm
      | val d => cases hm
    · exact ⟨j, zs, e4, e3⟩
  io := fun j zs hj => by
    by_cases e : i = j
    · subst e
      rw [h] at hj
      cases hj
      exact ⟨ys, by rw [List.getElem?_set, if_pos rfl, if_pos (List.getElem?_eq_some_iff.mp h).1]; rfl⟩
    · exact ⟨zs, by rw [List.getElem?_set_ne e]; exact hj⟩

/-! ### targets -/
/-- as Go, no further lists among the slots -/
structure GoS (σ : L2.St) (env : MEnv) (Hs H : Hp) (σ' : L2.St) (env' : MEnv) (Hs' H' : Hp) : Prop where
  sh : Ex Hs Hs'
  kp : ∀ a o, H a = some o → ¬ MutAt σ env a → H' a = some o
  dm : ∀ a o, H a = some o → ∃ u, H' a = some u
  nw : ∀ a o, Hs' a = some o → Hs a = some o ∨ H a = none ∨ LocAt σ env a
  ow : ∀ a, MutAt σ' env' a → MutAt σ env a
  lo : ∀ a, LocAt σ' env' a → LocAt σ env a
  io : ∀ (i : Nat) (xs : List PyData), env[i]? = some (.io xs) → σ'[i]? = σ[i]? ∧ ∃ ys, env'[i]? = some (.io ys)
theorem GoS.go {σ' : L2.St} (g : GoS σ env Hs H σ' env' Hs' H') : Go σ env Hs H σ' env' Hs' H' := ⟨g.sh, g.kp, g.dm, g.nw, fun a h => .inl (g.ow a h), fun a h => .inl (g.lo a h), g.io⟩
theorem GoE.toS (g : GoE σ env Hs H env' Hs' H') : GoS σ env Hs H σ env' Hs' H' := ⟨g.sh, g.kp, g.dm, g.nw, g.ow, g.lo, fun i xs h => ⟨rfl, g.io i xs h⟩⟩
theorem GoS.toE (g : GoS σ env Hs H σ env' Hs' H') : GoE σ env Hs H env' Hs' H' := ⟨g.sh, g.kp, g.dm, g.nw, g.ow, g.lo, fun i xs h => (g.io i xs h).2⟩
theorem GoS.trans {σ1 σ2 : L2.St} {env1 env2 : MEnv} {Hs1 H1 Hs2 H2 : Hp} (g : GoS σ env Hs H σ1 env1 Hs1 H1) (g' : GoS σ1 env1 Hs1 H1 σ2 env2 Hs2 H2) : GoS σ env Hs H σ2 env2 Hs2 H2 where
  sh := g.sh.trans g'.sh
  kp := fun a o h n => g'.kp a o (g.kp a o h n) fun m => n (g.ow a m)
  dm := (g.go.trans g'.go).dm
  nw := (g.go.trans g'.go).nw
  ow := fun a h => g.ow a (g'.ow a h)
  lo := fun a h => g.lo a (g'.lo a h)
  io := (g.go.trans g'.go).io
theorem GoS.refl : GoS σ env Hs H σ env Hs H := GoE.refl.toS
theorem GoS.setV {i : Nat} {d : PyData} {v : V} (hn : ∀ xs, env[i]? ≠ some (.io xs)) : GoS σ env Hs H (σ.set i (some v)) (env.set i (.val d)) Hs H := ⟨Ex.refl _, fun _ _ h _ => h, fun _ o h => ⟨o, h⟩, fun _ _ h => .inl h, fun _ h => mut_set rfl h, fun _ h => loc_set rfl h, io_set hn⟩
/-- the slots but ix are as they were -/
def Off (ix : List Nat) (σ σ' : L2.St) : Prop := σ'.length = σ.length ∧ ∀ i, i ∉ ix → σ'[i]? = σ[i]?
theorem Off.refl {ix : List Nat} : Off ix σ σ := ⟨rfl, fun _ _ => rfl⟩
theorem Off.trans {ix jx : List Nat} {σ1 σ2 : L2.St} (a : Off ix σ σ1) (b : Off jx σ1 σ2) : Off (ix ++ jx) σ σ2 := ⟨b.1.trans a.1, fun i hi => by
  rw [List.mem_append, not_or] at hi
  rw [b.2 i hi.2, a.2 i hi.1]⟩
def WG (X : Cx) (tg : Expr) : TG := fun v σ H Q => ∀ pins s u, Inv X pins σ H s → RelV v u → wpAny (model X.prog X.w) X.A (assign tg X.env u) (fun _ s' => ∃ σ' H', Inv X pins σ' H' s' ∧ Q σ' H') X.xe s
theorem WG.pg (X : Cx) (tg : Expr) : PG X tg (WG X tg) := ⟨fun pins s σ H v u Q I r h => h pins s u I r⟩
theorem WG.of {tg : Expr} {g : TG} (h : PG X tg g) {v : V} {Q : L2.St → Hp → Prop} (ht : g v σ H Q) : WG X tg v σ H Q := fun pins s u I r => h.run pins s σ H v u Q I r ht
structure SG (X : Cx) (tg : Expr) (ix : List Nat) (f : PyData → MEnv → Option MEnv) : Prop where
  run : ∀ (env : MEnv) (σ : L2.St) (Hs H : Hp) (d : PyData) (v : V) (env' : MEnv), f d env = some env' → InvS X.K Hs H σ env → Rep X.K Hs d v → ∀ Q : L2.St → Hp → Prop, (∀ σ' Hs' H', GoS σ env Hs H σ' env' Hs' H' → InvS X.K Hs' H' σ' env' → Off ix σ σ' → Q σ' H') → WG X tg v σ H Q
instance {X : Cx} {tg : Expr} {ix : List Nat} {f : PyData → MEnv → Option MEnv} : CoeFun (SG X tg ix f) (fun _ => ∀ (env : MEnv) (σ : L2.St) (Hs H : Hp) (d : PyData) (v : V) (env' : MEnv), f d env = some env' → InvS X.K Hs H σ env → Rep X.K Hs d v → ∀ Q : L2.St → Hp → Prop, (∀ σ' Hs' H', GoS σ env Hs H σ' env' Hs' H' → InvS X.K Hs' H' σ' env' → Off ix σ σ' → Q σ' H') → WG X tg v σ H Q) := ⟨SG.run⟩
def nameG (i : Nat) (d : PyData) (env : MEnv) : Option MEnv := setS i (.val d) env
theorem sg_name {i : Nat} {x : Str} (h : PG X (.Name x pos) (gName i)) : SG X (.Name x pos) [i] (nameG i) := by
  refine ⟨?_⟩
  intro env σ Hs H d v env' hf I r Q q
  obtain ⟨rfl, hi, hn⟩ := setS_some hf
  exact WG.of h (q _ Hs H (GoS.setV hn) (I.setV hi r) ⟨List.length_set, fun j hj => List.getElem?_set_ne fun (q : i = j) => hj (List.mem_singleton.mpr q.symm)⟩)
def SGs (X : Cx) (ts : List Expr) (ix : List Nat) (f : List PyData → MEnv → Option MEnv) : Prop := ∃ t : TGs, PGs X ts t ∧ ∀ (env : MEnv) (σ : L2.St) (Hs H : Hp) (ds : List PyData) (vs : List V) (env' : MEnv), f ds env = some env' → InvS X.K Hs H σ env → RepL X.K Hs ds vs →
  ∀ Q : L2.St → Hp → Prop, (∀ σ' Hs' H', GoS σ env Hs H σ' env' Hs' H' → InvS X.K Hs' H' σ' env' → Off ix σ σ' → Q σ' H') → t vs σ H Q
def nilG (ds : List PyData) (env : MEnv) : Option MEnv := match ds with
  | [] => some env
  | _ => none
def consG (f : PyData → MEnv → Option MEnv) (fs : List PyData → MEnv → Option MEnv) (ds : List PyData) (env : MEnv) : Option MEnv := match ds with
  | d :: ds => match f d env with
    | some e1 => fs ds e1
    | none => none
  | [] => none
theorem sgs_nil : SGs X [] [] nilG := ⟨gNil, pgs_nil, fun env σ Hs H ds vs env' hf I r Q q => by
  cases ds with
  | nil =>
    cases hf
    cases (show vs = [] from r)
    exact ⟨rfl, q σ Hs H GoS.refl I Off.refl⟩
  | cons d ds => cases hf⟩
theorem sgs_cons {ts : List Expr} {ix jx : List Nat} {f : PyData → MEnv → Option MEnv} {fs : List PyData → MEnv → Option MEnv} (h : SG X e ix f) (hs : SGs X ts jx fs) (hq : (assignEach (e :: ts) X.env).map (·.2) = assign e X.env :: (assignEach ts X.env).map (·.2)) : SGs X (e :: ts) (ix ++ jx) (consG f fs) := by
  obtain ⟨t, pt, hs⟩ := hs
  refine ⟨gCons (WG X e) t, pgs_cons (WG.pg X e) pt hq, fun env σ Hs H ds vs env' hf I r Q q => ?_⟩
  cases ds with
  | nil => cases hf
  | cons d ds =>
    obtain ⟨v, vr, rfl, r1, r2⟩ := r
    unfold consG at hf
    simp only at hf
    split at hf
    · rename_i e1 h1
      refine ⟨v, vr, rfl, h env σ Hs H d v e1 h1 I r1 _ fun σ1 Hs1 H1 g1 I1 o1 => ?_⟩
      exact hs e1 σ1 Hs1 H1 ds vr env' hf I1 (RepL.mono g1.sh ds vr r2) Q fun σ2 Hs2 H2 g2 I2 o2 => q σ2 Hs2 H2 (g1.trans g2) I2 (o1.trans o2)
    · cases hf
def tupG (n : Nat) (fs : List PyData → MEnv → Option MEnv) (d : PyData) (env : MEnv) : Option MEnv := match d with
  | .tuple ds => if ds.length = n then fs ds env else none
  | .list ds => if ds.length = n then fs ds env else none
  | .dict [(.none, .list ds)] => if ds.length = n then fs (ds.map oldOf) env else none
  | .dict [(.none, .tuple ds)] => if ds.length = n then fs (ds.map oldOf) env else none
  | _ => none
theorem sg_tup {ts : List Expr} {k : Nat} {ix : List Nat} {fs : List PyData → MEnv → Option MEnv} (hc : X.calm = true) (h : SGs X ts ix fs) (hn : (assignEach ts X.env).length = ts.length) (hst : (assignEach ts X.env).findIdx? (·.1) = none) : SG X (.Tuple ts k pos) ix (tupG ts.length fs) := by
  refine ⟨?_⟩
  intro env σ Hs H d v env' hf I r Q q
  obtain ⟨t, pt, h⟩ := h
  unfold tupG at hf
  split at hf
  · rename_i ds
    split at hf
    · rename_i hl
      obtain ⟨a, vs, rfl, h1, h2⟩ := r
      refine WG.of (pg_tup hc pt hn hst) ⟨a, vs, rfl, Evl.ex_t I.sh h1, by rw [← RepL.length h2]; exact hl, ?_⟩
      exact h env σ Hs H ds vs env' hf I h2 Q q
    · cases hf
  · rename_i ds
    split at hf
    · rename_i hl
      obtain ⟨a, vs, rfl, h1, h2⟩ := r
      refine WG.of (pg_unl hc pt hn hst) ⟨a, vs, rfl, ex_nl I.sh h1, by rw [← RepL.length h2]; exact hl, ?_⟩
      exact h env σ Hs H ds vs env' hf I h2 Q q
    · cases hf
  · rename_i ds
    split at hf
    · rename_i hl
      obtain ⟨a, vs, rfl, h1, h2⟩ := old_list (show Rep X.K Hs (oldD (.list ds)) v from r)
      refine WG.of (pg_unl hc pt hn hst) ⟨a, vs, rfl, Evl.ex_l I.old.1 h1, by rw [← RepL.length h2, List.length_map]; exact hl, ?_⟩
      exact h env σ Hs H (ds.map oldOf) vs env' hf I h2 Q q
    · cases hf
  · rename_i ds
    split at hf
    · rename_i hl
      obtain ⟨a, vs, rfl, h1, h2⟩ := old_tup (show Rep X.K Hs (oldD (.tuple ds)) v from r)
      refine WG.of (pg_tup hc pt hn hst) ⟨a, vs, rfl, Evl.ex_t I.old.1 h1, by rw [← RepL.length h2, List.length_map]; exact hl, ?_⟩
      exact h env σ Hs H (ds.map oldOf) vs env' hf I h2 Q q
    · cases hf
  · cases hf

/-! ### what is walked -/
/-- J gives the plain data ds, one after another, while what is shared stays -/
def WalkD (K : PySem.W.Frag) (J : It) (Hs0 : Hp) (ds : List PyData) : Prop :=
  Walk J ds.length (fun H => ∃ Hs, Ex Hs0 Hs ∧ Ex Hs H ∧ Ex Old.Ho H) (fun i H x H' => ∃ d, ds[i]? = some d ∧ ∀ Hs, Ex Hs0 Hs → Ex Hs H → ∀ σ env, InvS K Hs H σ env → ∃ Hs', GoE σ env Hs H env Hs' H' ∧ InvS K Hs' H' σ env ∧ Rep K Hs' d x)
def WI (X : Cx) (tg iter : Expr) : TI := fun σ H R => ∀ pins s, Inv X pins σ H s → wpAny (model X.prog X.w) X.A (eval iter X.env) (fun v s1 => wpAny (model X.prog X.w) X.A (pyIter v) (PIE X pins σ tg R) X.xe s1) X.xe s
theorem WI.pi (X : Cx) (tg iter : Expr) : PI X tg iter (WI X tg iter) := ⟨fun pins s σ H R I h => h pins s I⟩
theorem WI.of {tg iter : Expr} {wi : TI} (h : PI X tg iter wi) {R : It → Hp → Prop} (ht : wi σ H R) : WI X tg iter σ H R := fun pins s I => h.run pins s σ H R I ht
structure SI (X : Cx) (tg iter : Expr) (f : MEnv → Option (List PyData × MEnv)) : Prop where
  run : ∀ (env : MEnv) (σ : L2.St) (Hs H : Hp) (ds : List PyData) (env' : MEnv), f env = some (ds, env') → InvS X.K Hs H σ env → ∀ R : It → Hp → Prop, (∀ J Hs' H', GoE σ env Hs H env' Hs' H' → InvS X.K Hs' H' σ env' → WalkD X.K J Hs' ds → R J H') → WI X tg iter σ H R
instance {X : Cx} {tg iter : Expr} {f : MEnv → Option (List PyData × MEnv)} : CoeFun (SI X tg iter f) (fun _ => ∀ (env : MEnv) (σ : L2.St) (Hs H : Hp) (ds : List PyData) (env' : MEnv), f env = some (ds, env') → InvS X.K Hs H σ env → ∀ R : It → Hp → Prop, (∀ J Hs' H', GoE σ env Hs H env' Hs' H' → InvS X.K Hs' H' σ env' → WalkD X.K J Hs' ds → R J H') → WI X tg iter σ H R) := ⟨SI.run⟩
theorem walk_lst {a : Addr} {ds : List PyData} {vs : List V} (h : SqL K Hs a vs) (r : RepL K Hs ds vs) : WalkD K (Itl K a) Hs ds := by
  unfold WalkD
  rw [RepL.length r]
  refine Walk.mono (walk_list (K := K) (a := a) (xs := vs)) (fun H ⟨Hx, h1, h2, _⟩ => Evl.ex_l (h1.trans h2) h) fun i H x H' hi hg y => ?_
  obtain ⟨rfl, e⟩ := y
  have hi' : i < ds.length := by rw [RepL.length r]; exact hi
  obtain ⟨w, h1, h2⟩ := RepL.get r (List.getElem?_eq_getElem hi')
  rw [e] at h1
  cases h1
  exact ⟨ds[i], List.getElem?_eq_getElem hi', fun Hx h3 h4 σ env I => ⟨Hx, GoE.refl, I, Rep.mono h3 _ _ h2⟩⟩
theorem walk_tp {a : Addr} {ds : List PyData} {vs : List V} (h : SqT K Hs a vs) (r : RepL K Hs ds vs) : WalkD K (Itt K a) Hs ds := by
  unfold WalkD
  rw [RepL.length r]
  refine Walk.mono (walk_tup (K := K) (a := a) (xs := vs)) (fun H ⟨Hx, h1, h2, _⟩ => Evl.ex_t (h1.trans h2) h) fun i H x H' hi hg y => ?_
  obtain ⟨rfl, e⟩ := y
  have hi' : i < ds.length := by rw [RepL.length r]; exact hi
  obtain ⟨w, h1, h2⟩ := RepL.get r (List.getElem?_eq_getElem hi')
  rw [e] at h1
  cases h1
  exact ⟨ds[i], List.getElem?_eq_getElem hi', fun Hx h3 h4 σ env I => ⟨Hx, GoE.refl, I, Rep.mono h3 _ _ h2⟩⟩
theorem walk_olst {a : Addr} {ds : List PyData} {vs : List V} (h : SqL K Old.Ho a vs) (r : RepL K Hs ds vs) : WalkD K (Itl K a) Hs ds := by
  unfold WalkD
  rw [RepL.length r]
  refine Walk.mono (walk_list (K := K) (a := a) (xs := vs)) (fun H ⟨Hx, h1, h2, h3⟩ => Evl.ex_l h3 h) fun i H x H' hi hg y => ?_
  obtain ⟨rfl, e⟩ := y
  have hi' : i < ds.length := by rw [RepL.length r]; exact hi
  obtain ⟨w, h1, h2⟩ := RepL.get r (List.getElem?_eq_getElem hi')
  rw [e] at h1
  cases h1
  exact ⟨ds[i], List.getElem?_eq_getElem hi', fun Hx h3 h4 σ env I => ⟨Hx, GoE.refl, I, Rep.mono h3 _ _ h2⟩⟩
theorem walk_otp {a : Addr} {ds : List PyData} {vs : List V} (h : SqT K Old.Ho a vs) (r : RepL K Hs ds vs) : WalkD K (Itt K a) Hs ds := by
  unfold WalkD
  rw [RepL.length r]
  refine Walk.mono (walk_tup (K := K) (a := a) (xs := vs)) (fun H ⟨Hx, h1, h2, h3⟩ => Evl.ex_t h3 h) fun i H x H' hi hg y => ?_
  obtain ⟨rfl, e⟩ := y
  have hi' : i < ds.length := by rw [RepL.length r]; exact hi
  obtain ⟨w, h1, h2⟩ := RepL.get r (List.getElem?_eq_getElem hi')
  rw [e] at h1
  cases h1
  exact ⟨ds[i], List.getElem?_eq_getElem hi', fun Hx h3 h4 σ env I => ⟨Hx, GoE.refl, I, Rep.mono h3 _ _ h2⟩⟩
def seqI (f : MEnv → Option (PyData × MEnv)) : MEnv → Option (List PyData × MEnv) := fun env => match f env with
  | some (.list xs, e1) => some (xs, e1)
  | some (.tuple xs, e1) => some (xs, e1)
  | some (.dict [(.none, .list xs)], e1) => some (xs.map oldOf, e1)
  | some (.dict [(.none, .tuple xs)], e1) => some (xs.map oldOf, e1)
  | _ => none
theorem si_seq {tg : Expr} {f : MEnv → Option (PyData × MEnv)} (h : SV X e f) : SI X tg e (seqI f) := by
  refine ⟨?_⟩
  intro env σ Hs H ds env' hf I R q
  unfold seqI at hf
  split at hf
  · rename_i xs e1 h1
    cases hf
    refine WI.of (pi_list (W.pe X e)) ?_
    refine h env σ Hs H _ env' h1 I _ fun v Hs1 H1 g1 I1 r1 => ?_
    obtain ⟨a, vs, rfl, k1, k2⟩ := r1
    exact ⟨a, rfl, ⟨vs, ex_nl I1.sh k1⟩, q _ Hs1 H1 g1 I1 (walk_lst k1 k2)⟩
  · rename_i xs e1 h1
    cases hf
    refine WI.of (pi_tup (W.pe X e)) ?_
    refine h env σ Hs H _ env' h1 I _ fun v Hs1 H1 g1 I1 r1 => ?_
    obtain ⟨a, vs, rfl, k1, k2⟩ := r1
    exact ⟨a, rfl, ⟨vs, Evl.ex_t I1.sh k1⟩, q _ Hs1 H1 g1 I1 (walk_tp k1 k2)⟩
  · rename_i xs e1 h1
    cases hf
    refine WI.of (pi_list (W.pe X e)) ?_
    refine h env σ Hs H _ env' h1 I _ fun v Hs1 H1 g1 I1 r1 => ?_
    obtain ⟨a, vs, rfl, k1, k2⟩ := old_list (show Rep X.K Hs1 (oldD (.list xs)) v from r1)
    exact ⟨a, rfl, ⟨vs, Evl.ex_l I1.old.1 k1⟩, q _ Hs1 H1 g1 I1 (walk_olst k1 k2)⟩
  · rename_i xs e1 h1
    cases hf
    refine WI.of (pi_tup (W.pe X e)) ?_
    refine h env σ Hs H _ env' h1 I _ fun v Hs1 H1 g1 I1 r1 => ?_
    obtain ⟨a, vs, rfl, k1, k2⟩ := old_tup (show Rep X.K Hs1 (oldD (.tuple xs)) v from r1)
    exact ⟨a, rfl, ⟨vs, Evl.ex_t I1.old.1 k1⟩, q _ Hs1 H1 g1 I1 (walk_otp k1 k2)⟩
  · cases hf
/-- the ints lo, lo + 1, .. -/
def intsFrom (lo : Int) (n : Nat) : List PyData := (List.range n).map fun i => .int (lo + (i : Nat))
theorem walk_rng (lo : Int) (n : Nat) : WalkD K (Itr lo n) Hs (intsFrom lo n) := by
  unfold WalkD
  have hl : (intsFrom lo n).length = n := by unfold intsFrom; simp
  rw [hl]
  refine Walk.mono (walk_range (lo := lo) (n := n)) (fun H _ => trivial) fun i H x H' hi hg y => ?_
  obtain ⟨rfl, rfl⟩ := y
  refine ⟨.int (lo + (i : Nat)), ?_, fun Hx h3 h4 σ env I => ⟨Hx, GoE.refl, I, rfl⟩⟩
  unfold intsFrom
  rw [List.getElem?_map, List.getElem?_range hi]
  rfl
def rng1I (f : MEnv → Option (List PyData × MEnv)) : MEnv → Option (List PyData × MEnv) := fun env => match f env with
  | some ([.int n], e1) => if -(2 ^ 62) ≤ n ∧ n < 2 ^ 62 then some (intsFrom 0 n.toNat, e1) else none
  | _ => none
def rng2I (f : MEnv → Option (List PyData × MEnv)) : MEnv → Option (List PyData × MEnv) := fun env => match f env with
  | some ([.int m, .int n], e1) => if -(2 ^ 62) ≤ m ∧ m < 2 ^ 62 ∧ -(2 ^ 62) ≤ n ∧ n < 2 ^ 62 then some (intsFrom m (n - m).toNat, e1) else none
  | _ => none
theorem si_rng1 {tg : Expr} {p : Pos} {f : MEnv → Option (List PyData × MEnv)} (hg : Gl X "range") (hm : X.mg "range" = none) (h : SA X [a] f) (hp : plainE a = true) : SI X tg (.Call (.Name "range" p) [a] [] pos) (rng1I f) := by
  refine ⟨?_⟩
  intro env σ Hs H ds env' hf I R q
  unfold rng1I at hf
  split at hf
  · rename_i n e1 h1
    split at hf
    · rename_i hc
      cases hf
      refine WI.of (pi_range1 hg hm (WA.pa X [a]) (star_plain hp)) ?_
      refine h env σ Hs H _ env' h1 I _ fun vs Hs1 H1 g1 I1 r1 => ?_
      obtain ⟨v, r, rfl, rfl, rfl⟩ := r1
      exact ⟨n, rfl, hc.1, hc.2, q _ Hs1 H1 g1 I1 (walk_rng 0 n.toNat)⟩
    · cases hf
  · cases hf
theorem si_rng2 {tg : Expr} {p : Pos} {f : MEnv → Option (List PyData × MEnv)} (hg : Gl X "range") (hm : X.mg "range" = none) (h : SA X [a, b] f) (hp : plainE a = true) (hp2 : plainE b = true) : SI X tg (.Call (.Name "range" p) [a, b] [] pos) (rng2I f) := by
  refine ⟨?_⟩
  intro env σ Hs H ds env' hf I R q
  unfold rng2I at hf
  split at hf
  · rename_i m n e1 h1
    split at hf
    · rename_i hc
      cases hf
      refine WI.of (pi_range2 hg hm (WA.pa X [a, b]) (by rw [star_plain hp, star_plain hp2]; rfl) (star_plain hp2)) ?_
      refine h env σ Hs H _ env' h1 I _ fun vs Hs1 H1 g1 I1 r1 => ?_
      obtain ⟨v, r, rfl, rfl, v2, r2, rfl, rfl, rfl⟩ := r1
      exact ⟨m, n, rfl, hc, q _ Hs1 H1 g1 I1 (walk_rng m (n - m).toNat)⟩
    · cases hf
  · cases hf
end Ip

set_option Elab.async false
set_option linter.all false
set_option maxRecDepth 100000
set_option maxHeartbeats 4000000
namespace Ip
open PySem L2
open Evl (Ex sz_of fresh_back)
variable [Old]
variable {X : Cx} {a b e : Expr} {pos : Pos} {K : PySem.W.Frag} {Hs Hs' H H' : Hp} {σ : L2.St} {env env' : MEnv}

/-! ### the slots of a comprehension -/
def wipeE (env : MEnv) : List Nat → MEnv
  | [] => env
  | v :: vs => (wipeE env vs).set v .un
def backE (env ew : MEnv) : List Nat → MEnv
  | [] => ew
  | v :: vs => (backE env ew vs).set v (env.getD v .un)
def okW (env : MEnv) (vs : List Nat) : Bool := vs.all fun v => match env[v]? with
  | some s => s.mut.isNone
  | none => false
theorem wipeE_length (env : MEnv) : ∀ vs : List Nat, (wipeE env vs).length = env.length
  | [] => rfl
  | v :: vs => by unfold wipeE; rw [List.length_set, wipeE_length env vs]
theorem backE_length (env ew : MEnv) : ∀ vs : List Nat, (backE env ew vs).length = ew.length
  | [] => rfl
  | v :: vs => by unfold backE; rw [List.length_set, backE_length env ew vs]
theorem wipeE_out {i : Nat} : ∀ {vs : List Nat}, i ∉ vs → (wipeE env vs)[i]? = env[i]?
  | [], _ => rfl
  | v :: vs, h => by
    rw [List.mem_cons, not_or] at h
    unfold wipeE
    rw [List.getElem?_set_ne (fun q => h.1 q.symm), wipeE_out h.2]
theorem wipe_out {i : Nat} : ∀ {vs : List Nat}, i ∉ vs → (wipe σ vs)[i]? = σ[i]?
  | [], _ => rfl
  | v :: vs, h => by
    rw [List.mem_cons, not_or] at h
    unfold wipe
    rw [List.getElem?_set_ne (fun q => h.1 q.symm), wipe_out h.2]
theorem wipe_in {i : Nat} : ∀ {vs : List Nat}, i ∈ vs → i < σ.length → (wipe σ vs)[i]? = some none
  | v :: vs, h, hi => by
    unfold wipe
    by_cases e : v = i
    · subst e
      rw [List.getElem?_set, if_pos rfl, if_pos (by rw [wipe_length]; exact hi)]
    · rw [List.getElem?_set_ne e]
      rcases List.mem_cons.mp h with q | q
      · exact absurd q.symm e
      · exact wipe_in q hi
theorem wipeE_in {i : Nat} : ∀ {vs : List Nat}, i ∈ vs → i < env.length → (wipeE env vs)[i]? = some .un
  | v :: vs, h, hi => by
    unfold wipeE
    by_cases e : v = i
    · subst e
      rw [List.getElem?_set, if_pos rfl, if_pos (by rw [wipeE_length]; exact hi)]
    · rw [List.getElem?_set_ne e]
      rcases List.mem_cons.mp h with q | q
      · exact absurd q.symm e
      · exact wipeE_in q hi
theorem backE_out {ew : MEnv} {i : Nat} : ∀ {vs : List Nat}, i ∉ vs → (backE env ew vs)[i]? = ew[i]?
  | [], _ => rfl
  | v :: vs, h => by
    rw [List.mem_cons, not_or] at h
    unfold backE
    rw [List.getElem?_set_ne (fun q => h.1 q.symm), backE_out h.2]
theorem backE_in {ew : MEnv} {i : Nat} : ∀ {vs : List Nat}, i ∈ vs → i < ew.length → (backE env ew vs)[i]? = some (env.getD i .un)
  | v :: vs, h, hi => by
    unfold backE
    by_cases e : v = i
    · subst e
      rw [List.getElem?_set, if_pos rfl, if_pos (by rw [backE_length]; exact hi)]
    · rw [List.getElem?_set_ne e]
      rcases List.mem_cons.mp h with q | q
      · exact absurd q.symm e
      · exact backE_in q hi
theorem wipe_off {vs : List Nat} {σ2 : L2.St} (o : Off vs (wipe σ vs) σ2) : wipe σ2 vs = wipe σ vs := by
  apply List.ext_getElem?
  intro i
  by_cases hi : i ∈ vs
  · by_cases hl : i < σ.length
    · rw [wipe_in hi hl, wipe_in hi (by rw [o.1, wipe_length]; exact hl)]
    · have l2 : σ2.length = σ.length := by rw [o.1, wipe_length]
      rw [List.getElem?_eq_none (by rw [wipe_length, l2]; omega), List.getElem?_eq_none (by rw [wipe_length]; omega)]
  · rw [wipe_out hi, o.2 i hi]
theorem wipeE_some {i : Nat} {s : Slot} {vs : List Nat} (h : (wipeE env vs)[i]? = some s) (hs : s ≠ .un) : env[i]? = some s ∧ i ∉ vs := by
  by_cases hi : i ∈ vs
  · have hl : i < env.length := by
      have := (List.getElem?_eq_some_iff.mp h).1
      rw [wipeE_length] at this
      exact this
    rw [wipeE_in hi hl] at h
    cases h
    exact absurd rfl hs
  · rw [wipeE_out hi] at h
    exact ⟨h, hi⟩
theorem mut_ne {s : Slot} {xs : List PyData} (h : s.mut = some xs) : s ≠ .un := fun e => by rw [e] at h; cases h
theorem mut_wipe {vs : List Nat} {p : Addr} (m : MutAt (wipe σ vs) (wipeE env vs) p) : MutAt σ env p := by
  obtain ⟨i, s, xs, e1, e2, e3⟩ := m
  obtain ⟨h1, h2⟩ := wipeE_some e1 (mut_ne e2)
  exact ⟨i, s, xs, h1, e2, by rw [← wipe_out h2]; exact e3⟩
theorem loc_wipe {vs : List Nat} {p : Addr} (m : LocAt (wipe σ vs) (wipeE env vs) p) : LocAt σ env p := by
  obtain ⟨i, xs, e1, e3⟩ := m
  obtain ⟨h1, h2⟩ := wipeE_some e1 (fun z => by cases z)
  exact ⟨i, xs, h1, by rw [← wipe_out h2]; exact e3⟩
theorem InvS.wipe (I : InvS K Hs H σ env) (vs : List Nat) : InvS K Hs H (wipe σ vs) (wipeE env vs) where
  len := by rw [wipe_length, wipeE_length]; exact I.len
  sh := I.sh
  vals := fun i d h => by
    obtain ⟨h1, h2⟩ := wipeE_some h (fun z => by cases z)
    rw [wipe_out h2]
    exact I.vals i d h1
  muts := fun i s xs h hm => by
    obtain ⟨h1, h2⟩ := wipeE_some h (mut_ne hm)
    rw [wipe_out h2]
    exact I.muts i s xs h1 hm
  diff := fun i j s t xs ys p h1 m1 h2 m2 g1 g2 => by
    obtain ⟨k1, k2⟩ := wipeE_some h1 (mut_ne m1)
    obtain ⟨k3, k4⟩ := wipeE_some h2 (mut_ne m2)
    rw [wipe_out k2] at g1
    rw [wipe_out k4] at g2
    exact I.diff i j s t xs ys p k1 m1 k3 m2 g1 g2
  old := ⟨I.old.1, fun a m => I.old.2 a (mut_wipe m)⟩
theorem okW_io {vs : List Nat} (ok : okW env vs = true) {i : Nat} {xs : List PyData} (h : env[i]? = some (.io xs)) : i ∉ vs := fun hi => by
  have q := (List.all_eq_true.mp ok) i hi
  rw [h] at q
  cases q
theorem GoS.wipe {vs : List Nat} (ok : okW env vs = true) : GoS σ env Hs H (L2.wipe σ vs) (wipeE env vs) Hs H := ⟨Ex.refl _, fun _ _ h _ => h, fun _ o h => ⟨o, h⟩, fun _ _ h => .inl h, fun _ h => mut_wipe h, fun _ h => loc_wipe h, fun i xs h =>
  ⟨wipe_out (okW_io ok h), xs, by rw [wipeE_out (okW_io ok h)]; exact h⟩⟩
theorem back_some {ew : MEnv} {vs : List Nat} {i : Nat} {s : Slot} (ok : okW env vs = true) (h : (backE env ew vs)[i]? = some s) : (i ∈ vs ∧ env[i]? = some s ∧ s.mut = none) ∨ (i ∉ vs ∧ ew[i]? = some s) := by
  by_cases hi : i ∈ vs
  · have hl := (List.getElem?_eq_some_iff.mp h).1
    rw [backE_length] at hl
    rw [backE_in hi hl] at h
    have q := (List.all_eq_true.mp ok) i hi
    cases he : env[i]? with
    | none => rw [he] at q; cases q
    | some t =>
      rw [he] at q
      rw [List.getD_eq_getElem?_getD, he] at h
      cases h
      exact .inl ⟨hi, rfl, Option.isNone_iff_eq_none.mp q⟩
  · rw [backE_out hi] at h
    exact .inr ⟨hi, h⟩
/-- behind the block: the def's own slots as they were, the rest as the block left it -/
theorem block_end {ew : MEnv} {Hs1 H1 Hs2 H2 : Hp} {vs : List Nat} (I1 : InvS K Hs1 H1 σ env) (ok : okW env vs = true) (g : GoS (wipe σ vs) (wipeE env vs) Hs1 H1 (wipe σ vs) ew Hs2 H2) (I2 : InvS K Hs2 H2 (wipe σ vs) ew) :
    GoE σ env Hs1 H1 (backE env ew vs) Hs2 H2 ∧ InvS K Hs2 H2 σ (backE env ew vs) := by
  have mm : ∀ {i : Nat} {s : Slot} {xs : List PyData}, (backE env ew vs)[i]? = some s → s.mut = some xs → ew[i]? = some s ∧ i ∉ vs := fun {i s xs} h hm => by
    rcases back_some ok h with ⟨_, _, k⟩ | ⟨k, k2⟩
    · rw [k] at hm; cases hm
    · exact ⟨k2, k⟩
  have mb : ∀ a, MutAt σ (backE env ew vs) a → MutAt (L2.wipe σ vs) ew a := fun a ⟨i, s, xs, e1, e2, e3⟩ => by
    obtain ⟨k1, k2⟩ := mm e1 e2
    exact ⟨i, s, xs, k1, e2, by rw [wipe_out k2]; exact e3⟩
  have g0 := (GoS.wipe (σ := σ) (env := env) (Hs := Hs1) (H := H1) ok).trans g
  refine ⟨⟨g0.sh, g0.kp, g0.dm, g0.nw, fun a m => g0.ow a (mb a m), fun a ⟨i, xs, e1, e3⟩ => ?_, fun i xs h => ?_⟩, ?_⟩
  · obtain ⟨k1, k2⟩ := mm e1 (xs := xs) rfl
    exact g0.lo a ⟨i, xs, k1, by rw [wipe_out k2]; exact e3⟩
  · obtain ⟨_, ys, h1⟩ := g0.io i xs h
    exact ⟨ys, by rw [backE_out (okW_io ok h)]; exact h1⟩
  · refine ⟨by rw [backE_length, ← I2.len, wipe_length], I2.sh, fun i d h => ?_, fun i s xs h hm => ?_, fun i j s t xs ys p h1 m1 h2 m2 g1 g2 => ?_, ⟨I2.old.1, fun a m => I2.old.2 a (mb a m)⟩⟩
    · rcases back_some ok h with ⟨_, k, _⟩ | ⟨k, k2⟩
      · obtain ⟨v, e1, e2⟩ := I1.vals i d k
        exact ⟨v, e1, Rep.mono g0.sh d v e2⟩
      · obtain ⟨v, e1, e2⟩ := I2.vals i d k2
        exact ⟨v, by rw [← wipe_out (σ := σ) k]; exact e1, e2⟩
    · obtain ⟨k1, k2⟩ := mm h hm
      obtain ⟨p, ws, e1, e2⟩ := I2.muts i s xs k1 hm
      exact ⟨p, ws, by rw [← wipe_out (σ := σ) k2]; exact e1, e2⟩
    · obtain ⟨k1, k2⟩ := mm h1 m1
      obtain ⟨k3, k4⟩ := mm h2 m2
      exact I2.diff i j s t xs ys p k1 m1 k3 m2 (by rw [wipe_out k2]; exact g1) (by rw [wipe_out k4]; exact g2)
/-- a list that nobody holds may change -/
theorem InvS.priv (I : InvS K Hs H σ env) {p : Addr} (hn : Hs p = none) (nm : ¬ MutAt σ env p) (ho : Old.Ho p = none) (o : HO) : InvS K Hs (upd H p o) σ env where
  len := I.len
  sh := Ex.mut I.sh hn
  vals := I.vals
  muts := fun i s xs h hm => by
    obtain ⟨q, vs, h1, h2, h3, h4⟩ := I.muts i s xs h hm
    have ne : q ≠ p := fun z => nm (z ▸ ⟨i, s, xs, h, hm, h1⟩)
    exact ⟨q, vs, h1, h2, by rw [upd_ne ne]; exact h3, h4⟩
  diff := I.diff
  old := ⟨Ex.mut I.old.1 ho, I.old.2⟩
theorem GoS.priv {σ' : L2.St} (g : GoS σ env Hs H σ' env' Hs' H') {p : Addr} (hp : H p = none) (o : HO) : GoS σ env Hs H σ' env' Hs' (upd H' p o) where
  sh := g.sh
  kp := fun a u h n => by rw [upd_ne (ne_new h hp)]; exact g.kp a u h n
  dm := fun a u h => by
    obtain ⟨w, e⟩ := g.dm a u h
    exact ⟨w, by rw [upd_ne (ne_new h hp)]; exact e⟩
  nw := g.nw
  ow := g.ow
  lo := g.lo
  io := g.io

def compLoop (fg : PyData → MEnv → Option MEnv) (ft : MEnv → Option (Bool × MEnv)) (fe : MEnv → Option (PyData × MEnv)) (vs : List Nat) : List PyData → List PyData → MEnv → Option (List PyData × MEnv)
  | [], acc, env => some (acc, env)
  | d :: ds, acc, env => match fg d env with
    | some e1 => match ft e1 with
      | some (true, e2) => match fe e2 with
        | some (x, e3) => if okW e3 vs = true then compLoop fg ft fe vs ds (acc ++ [x]) (wipeE e3 vs) else none
        | none => none
      | some (false, e2) => if okW e2 vs = true then compLoop fg ft fe vs ds acc (wipeE e2 vs) else none
      | none => none
    | none => none
def compF (fi : MEnv → Option (List PyData × MEnv)) (fg : PyData → MEnv → Option MEnv) (ft : MEnv → Option (Bool × MEnv)) (fe : MEnv → Option (PyData × MEnv)) (vs : List Nat) : MEnv → Option (Slot × MEnv) := fun env => match fi env with
  | some (ds, e1) => if okW e1 vs = true ∧ ds.length ≤ 100000 then match compLoop fg ft fe vs ds [] (wipeE e1 vs) with
      | some (acc, ew) => some (.own acc, backE e1 ew vs)
      | none => none
    else none
  | none => none
/-- the parts of a comprehension's turn, in the block's own context -/
structure CompOk (X : Cx) (scope : Scope) (tg elt : Expr) (ifs : List Expr) (ix : List Nat) (fg : PyData → MEnv → Option MEnv) (ft : MEnv → Option (Bool × MEnv)) (fe : MEnv → Option (PyData × MEnv)) where
  gk : TG
  tk : TT
  ek : TE
  pg : ∀ (s : Shared) (H : Hp) (C : Addr) (cl : List (Str × Addr)) (fp : List Addr), PG (X.blk s H scope (compEnvC scope cl C X.env) fp) tg gk
  pt : ∀ (s : Shared) (H : Hp) (C : Addr) (cl : List (Str × Addr)) (fp : List Addr), PTs (X.blk s H scope (compEnvC scope cl C X.env) fp) ifs tk
  pe : ∀ (s : Shared) (H : Hp) (C : Addr) (cl : List (Str × Addr)) (fp : List Addr), PE (X.blk s H scope (compEnvC scope cl C X.env) fp) elt ek
  sg : ∀ (env : MEnv) (σ : L2.St) (Hs H : Hp) (d : PyData) (v : V) (env' : MEnv), fg d env = some env' → InvS X.K Hs H σ env → Rep X.K Hs d v →
    ∀ Q : L2.St → Hp → Prop, (∀ σ' Hs' H', GoS σ env Hs H σ' env' Hs' H' → InvS X.K Hs' H' σ' env' → Off ix σ σ' → Q σ' H') → gk v σ H Q
  st : ∀ (env : MEnv) (σ : L2.St) (Hs H : Hp) (b : Bool) (env' : MEnv), ft env = some (b, env') → InvS X.K Hs H σ env →
    ∀ Q : Bool → Hp → Prop, (∀ Hs' H', GoE σ env Hs H env' Hs' H' → InvS X.K Hs' H' σ env' → Q b H') → tk σ H Q
  se : ∀ (env : MEnv) (σ : L2.St) (Hs H : Hp) (d : PyData) (env' : MEnv), fe env = some (d, env') → InvS X.K Hs H σ env →
    ∀ Q : VK, (∀ v Hs' H', GoE σ env Hs H env' Hs' H' → InvS X.K Hs' H' σ env' → Rep X.K Hs' d v → Q v H') → ek σ H Q
theorem rd_compT {wi : TI} {scope : Scope} {tg elt : Expr} {ifs : List Expr} {vs : List Nat} {fi : MEnv → Option (List PyData × MEnv)} {fg : PyData → MEnv → Option MEnv} {ft : MEnv → Option (Bool × MEnv)} {fe : MEnv → Option (PyData × MEnv)}
    (hi : ∀ (env : MEnv) (σ : L2.St) (Hs H : Hp) (ds : List PyData) (env' : MEnv), fi env = some (ds, env') → InvS X.K Hs H σ env → ∀ R : It → Hp → Prop, (∀ J Hs' H', GoE σ env Hs H env' Hs' H' → InvS X.K Hs' H' σ env' → WalkD X.K J Hs' ds → R J H') → wi σ H R)
    (C : CompOk X scope tg elt ifs vs fg ft fe) {r : Slot} (hf : compF fi fg ft fe vs env = some (r, env')) (I : InvS X.K Hs H σ env)
    (Q : VK) (q : ∀ v Hs' H', GoE σ env Hs H env' Hs' H' → InvS X.K Hs' H' σ env' → RepR X.K H Hs' H' r v → Q v H') : tLc wi C.gk C.tk C.ek vs σ H Q := by
  unfold compF at hf
  split at hf
  · rename_i ds e1 h1
    split at hf
    · rename_i hc
      obtain ⟨ok, hz⟩ := hc
      split at hf
      · rename_i acc ew hl
        cases hf
        refine hi env σ Hs H ds e1 h1 I _ fun J Hs1 H1 g1 I1 wk => fun D hD => ?_
        have hD1 : Hs1 D = none := fresh_back I1.sh hD
        have Iw := I1.wipe vs
        -- what holds ahead of turn i
        refine lc_it wk (fun i H2 => ∃ acc2 ew2 Hs2 us, compLoop fg ft fe vs (ds.drop i) acc2 ew2 = some (acc, ew) ∧ GoS (wipe σ vs) (wipeE e1 vs) Hs1 H1 (wipe σ vs) ew2 Hs2 H2 ∧ InvS X.K Hs2 H2 (wipe σ vs) ew2 ∧
          H2 D = some (.lst us) ∧ Hs2 D = none ∧ RepL X.K Hs2 acc2 us ∧ acc2.length ≤ i) ?_ ?_ ?_ ?_
        · exact ⟨[], wipeE e1 vs, Hs1, [], hl, GoS.refl.priv hD _, Iw.lay hD _, upd_same, hD1, rfl, Nat.le_refl 0⟩
        · rintro i H2 _ ⟨acc2, ew2, Hs2, us, _, g2, I2, _⟩
          exact ⟨Hs2, g2.sh, I2.sh, I2.old.1⟩
        · rintro i x H2 H3 hlt ⟨acc2, ew2, Hs2, us, k1, g2, I2, k2, k3, k4, k5⟩ ⟨d, hd, hy⟩
          obtain ⟨Hs3, g3, I3, r3⟩ := hy Hs2 g2.sh I2.sh _ _ I2
          have nm2 : ¬ MutAt (wipe σ vs) ew2 D := fun m => by
            obtain ⟨_, _, hh⟩ := Iw.mutAt_some (g2.ow D m)
            rw [hD] at hh
            cases hh
          have k3D : H3 D = some (.lst us) := g3.kp D _ k2 nm2
          have k3s : Hs3 D = none := by
            cases z : Hs3 D with
            | none => rfl
            | some o =>
              rcases g3.nw D o z with z1 | z1 | z1
              · rw [k3] at z1; cases z1
              · rw [k2] at z1; cases z1
              · exact absurd z1.mut nm2
          have ed : ds.drop i = d :: ds.drop (i + 1) := by
            rw [List.drop_eq_getElem_cons hlt]
            rw [List.getElem?_eq_getElem hlt] at hd
            cases hd
            rfl
          rw [ed] at k1
          unfold compLoop at k1
          split at k1
          · rename_i e2 h2
            refine C.sg ew2 (wipe σ vs) Hs3 H3 d x e2 h2 I3 r3 _ fun σ4 Hs4 H4 g4 I4 o4 => ⟨wipe_off o4, ?_⟩
            have nm3 : ¬ MutAt (wipe σ vs) ew2 D := fun m => nm2 (g3.ow D m)
            have k4D : H4 D = some (.lst us) := g4.kp D _ k3D nm3
            have nm4 : ¬ MutAt σ4 e2 D := fun m => nm3 (g4.ow D m)
            have back : ∀ {σ' : L2.St} {e' : MEnv} {Hp1 H5 Hp2 H6 : Hp} {e'' : MEnv} {σ'' : L2.St}, GoS σ' e' Hp1 H5 σ'' e'' Hp2 H6 → Hp1 D = none → H5 D = some (.lst us) → ¬ MutAt σ' e' D → Hp2 D = none := fun g n1 n2 n3 => by
              rename_i Hp2 _ _ _
              cases z : Hp2 D with
              | none => rfl
              | some o =>
                rcases g.nw D o z with z1 | z1 | z1
                · rw [n1] at z1; cases z1
                · rw [n2] at z1; cases z1
                · exact absurd z1.mut n3
            have k4s : Hs4 D = none := back g4 k3s k3D nm3
            split at k1
            · rename_i e3 h3
              refine C.st e2 σ4 Hs4 H4 true e3 h3 I4 _ fun Hs5 H5 g5 I5 => ?_
              have k5D : H5 D = some (.lst us) := g5.kp D _ k4D nm4
              have nm5 : ¬ MutAt σ4 e3 D := fun m => nm4 (g5.ow D m)
              have k5s : Hs5 D = none := back g5.toS k4s k4D nm4
              split at k1
              · rename_i y e4 h4
                split at k1
                rotate_left
                · cases k1
                rename_i okw
                rw [if_pos rfl]
                refine C.se e3 σ4 Hs5 H5 y e4 h4 I5 _ fun z Hs6 H6 g6 I6 r6 => ?_
                have k6D : H6 D = some (.lst us) := g6.kp D _ k5D nm5
                have nm6 : ¬ MutAt σ4 e4 D := fun m => nm5 (g6.ow D m)
                have k6s : Hs6 D = none := back g6.toS k5s k5D nm5
                have g36 := (g4.trans g5.toS).trans g6.toS
                have l6 : us.length < sizeLine := by
                  rw [← RepL.length k4]
                  exact Evl.sz_lt (by omega)
                refine ⟨us, k6D, l6, acc2 ++ [y], wipeE e4 vs, Hs6, us ++ [z], k1, ?_, ?_, upd_same, k6s, RepL.app (RepL.mono (g3.sh.trans g36.sh) _ _ k4) ⟨z, [], rfl, r6, rfl⟩, by rw [List.length_append]; exact Nat.succ_le_succ k5⟩
                · have g7 := ((g2.trans g3.toS).trans g36).trans (GoS.wipe okw)
                  rw [wipe_off o4] at g7
                  exact g7.priv hD _
                · have I7 := I6.wipe vs
                  rw [wipe_off o4] at I7
                  refine I7.priv k6s (fun m => nm6 ?_) (fresh_back I1.old.1 hD) _
                  rw [← wipe_off o4] at m
                  exact mut_wipe m
              · cases k1
            · rename_i e3 h3
              refine C.st e2 σ4 Hs4 H4 false e3 h3 I4 _ fun Hs5 H5 g5 I5 => ?_
              have k5D : H5 D = some (.lst us) := g5.kp D _ k4D nm4
              have k5s : Hs5 D = none := back g5.toS k4s k4D nm4
              split at k1
              rotate_left
              · cases k1
              rename_i okw
              rw [if_neg Bool.false_ne_true]
              have g35 := g4.trans g5.toS
              refine ⟨acc2, wipeE e3 vs, Hs5, us, k1, ?_, ?_, k5D, k5s, RepL.mono (g3.sh.trans g35.sh) _ _ k4, by omega⟩
              · have g7 := ((g2.trans g3.toS).trans g35).trans (GoS.wipe okw)
                rw [wipe_off o4] at g7
                exact g7
              · have I7 := I5.wipe vs
                rw [wipe_off o4] at I7
                exact I7
            · cases k1
          · cases k1
        · rintro H2 ⟨acc2, ew2, Hs2, us, k1, g2, I2, k2, k3, k4, k5⟩
          rw [List.drop_eq_nil_of_le (Nat.le_refl _)] at k1
          unfold compLoop at k1
          cases k1
          obtain ⟨gE, IE⟩ := block_end I1 ok g2 I2
          exact q (.ref D) Hs2 H2 (g1.trans gE) IE ⟨D, us, rfl, g1.none_back hD, k3, k2, k4⟩
      · cases hf
    · cases hf
  · cases hf
theorem rd_comp {scope : Scope} {tg iter elt : Expr} {ifs : List Expr} {vs : List Nat} {fi : MEnv → Option (List PyData × MEnv)} {fg : PyData → MEnv → Option MEnv} {ft : MEnv → Option (Bool × MEnv)} {fe : MEnv → Option (PyData × MEnv)}
    (hi : SI X tg iter fi) (C : CompOk X scope tg elt ifs vs fg ft fe) {r : Slot} (hf : compF fi fg ft fe vs env = some (r, env')) (I : InvS X.K Hs H σ env)
    (Q : VK) (q : ∀ v Hs' H', GoE σ env Hs H env' Hs' H' → InvS X.K Hs' H' σ env' → RepR X.K H Hs' H' r v → Q v H') : tLc (WI X tg iter) C.gk C.tk C.ek vs σ H Q := rd_compT hi.run C hf I Q q
end Ip

set_option Elab.async false
set_option linter.all false
set_option maxRecDepth 100000
set_option maxHeartbeats 4000000
namespace Ip
open PySem L2
open Evl (Ex sz_of fresh_back)
variable [Old]
variable {X : Cx} {a b e : Expr} {pos : Pos} {K : PySem.W.Frag} {Hs Hs' H H' : Hp} {σ : L2.St} {env env' : MEnv}

/-! ### where a statement leads -/
inductive Out where
  | nx (env : MEnv)
  | rt (r : Slot) (env : MEnv)
  | bk (env : MEnv)
  | ct (env : MEnv)
def RepQ (K : PySem.W.Frag) (σ : L2.St) (env : MEnv) (H Hs' H' : Hp) : Slot → V → Prop
  | .val d, v => Rep K Hs' d v
  | .own xs, v => ∃ p vs, v = .ref p ∧ (H p = none ∨ LocAt σ env p) ∧ Hs' p = none ∧ H' p = some (.lst vs) ∧ RepL K Hs' xs vs
  | _, _ => False
theorem RepR.q {s : Slot} {v : V} (r : RepR K H Hs' H' s v) : RepQ K σ env H Hs' H' s v := by
  cases s with
  | val d => exact r
  | own xs =>
    obtain ⟨p, vs, e, h, k⟩ := r
    exact ⟨p, vs, e, .inl h, k⟩
  | un => exact r
  | io xs => exact r
theorem RepQ.back {σ0 : L2.St} {env0 : MEnv} {Hs0 H0 Hs2 H2 : Hp} (g : Go σ0 env0 Hs0 H0 σ env Hs H) {s : Slot} {v : V} (r : RepQ K σ env H Hs2 H2 s v) : RepQ K σ0 env0 H0 Hs2 H2 s v := by
  cases s with
  | val d => exact r
  | own xs =>
    obtain ⟨p, vs, e, h, k⟩ := r
    refine ⟨p, vs, e, ?_, k⟩
    rcases h with h | h
    · exact .inl (g.none_back h)
    · rcases g.lo p h with q | q
      · exact .inr q
      · exact .inl q
  | un => exact r
  | io xs => exact r
def EndsOk (K : PySem.W.Frag) (σ : L2.St) (env : MEnv) (Hs H : Hp) (o : Out) (D : Ends) : Prop := match o with
  | .nx e => ∀ σ' Hs' H', Go σ env Hs H σ' e Hs' H' → InvS K Hs' H' σ' e → D.nx σ' H'
  | .bk e => ∀ σ' Hs' H', Go σ env Hs H σ' e Hs' H' → InvS K Hs' H' σ' e → D.bk σ' H'
  | .ct e => ∀ σ' Hs' H', Go σ env Hs H σ' e Hs' H' → InvS K Hs' H' σ' e → D.ct σ' H'
  | .rt r e => ∀ v σ' Hs' H', Go σ env Hs H σ' e Hs' H' → InvS K Hs' H' σ' e → RepQ K σ env H Hs' H' r v → D.rt v H'
theorem EndsOk.step {σ0 : L2.St} {env0 : MEnv} {Hs0 H0 : Hp} (g : Go σ0 env0 Hs0 H0 σ env Hs H) {o : Out} {D : Ends} (h : EndsOk K σ0 env0 Hs0 H0 o D) : EndsOk K σ env Hs H o D := by
  cases o with
  | nx e => exact fun σ' Hs' H' g' I' => h σ' Hs' H' (g.trans g') I'
  | bk e => exact fun σ' Hs' H' g' I' => h σ' Hs' H' (g.trans g') I'
  | ct e => exact fun σ' Hs' H' g' I' => h σ' Hs' H' (g.trans g') I'
  | rt r e => exact fun v σ' Hs' H' g' I' r' => h v σ' Hs' H' (g.trans g') I' (r'.back g)
structure SS (X : Cx) (st : Stmt) (f : MEnv → Option Out) : Prop where
  run : ∀ (env : MEnv) (σ : L2.St) (Hs H : Hp) (o : Out), f env = some o → InvS X.K Hs H σ env → ∀ D : Ends, EndsOk X.K σ env Hs H o D → WS X st D σ H
instance {X : Cx} {st : Stmt} {f : MEnv → Option Out} : CoeFun (SS X st f) (fun _ => ∀ (env : MEnv) (σ : L2.St) (Hs H : Hp) (o : Out), f env = some o → InvS X.K Hs H σ env → ∀ D : Ends, EndsOk X.K σ env Hs H o D → WS X st D σ H) := ⟨SS.run⟩
structure SB (X : Cx) (sts : List Stmt) (f : MEnv → Option Out) : Prop where
  run : ∀ (env : MEnv) (σ : L2.St) (Hs H : Hp) (o : Out), f env = some o → InvS X.K Hs H σ env → ∀ D : Ends, EndsOk X.K σ env Hs H o D → WSs X sts D σ H
instance {X : Cx} {sts : List Stmt} {f : MEnv → Option Out} : CoeFun (SB X sts f) (fun _ => ∀ (env : MEnv) (σ : L2.St) (Hs H : Hp) (o : Out), f env = some o → InvS X.K Hs H σ env → ∀ D : Ends, EndsOk X.K σ env Hs H o D → WSs X sts D σ H) := ⟨SB.run⟩
def nilB (env : MEnv) : Option Out := some (.nx env)
def seqB (f fs : MEnv → Option Out) : MEnv → Option Out := fun env => match f env with
  | some (.nx e1) => fs e1
  | some (.rt r e1) => some (.rt r e1)
  | some (.bk e1) => some (.bk e1)
  | some (.ct e1) => some (.ct e1)
  | none => none
theorem sb_nil : SB X [] nilB := .mk fun env σ Hs H o hf I D h => by
  cases hf
  exact WSs.of pss_nil (h σ Hs H Go.refl I)
theorem sb_cons {st : Stmt} {sts : List Stmt} {f fs : MEnv → Option Out} (h : SS X st f) (hs : SB X sts fs) : SB X (st :: sts) (seqB f fs) := by
  refine ⟨?_⟩
  intro env σ Hs H o hf I D q
  refine WSs.of (pss_cons (WS.ps X st) (WSs.ps X sts)) ?_
  unfold seqB at hf
  split at hf
  · rename_i e1 h1
    exact h env σ Hs H _ h1 I _ fun σ1 Hs1 H1 g1 I1 => hs e1 σ1 Hs1 H1 o hf I1 D (q.step g1)
  · rename_i r e1 h1
    cases hf
    exact h env σ Hs H _ h1 I _ q
  · rename_i e1 h1
    cases hf
    exact h env σ Hs H _ h1 I _ q
  · rename_i e1 h1
    cases hf
    exact h env σ Hs H _ h1 I _ q
  · cases hf

/-! ### plain statements -/
theorem ss_pass : SS X (.Pass pos) nilB := .mk fun env σ Hs H o hf I D h => by
  cases hf
  exact WS.of ps_pass (h σ Hs H Go.refl I)
theorem ss_break : SS X (.Break pos) (fun env => some (.bk env)) := .mk fun env σ Hs H o hf I D h => by
  cases hf
  exact WS.of ps_break (h σ Hs H Go.refl I)
theorem ss_cont : SS X (.Continue pos) (fun env => some (.ct env)) := .mk fun env σ Hs H o hf I D h => by
  cases hf
  exact WS.of ps_continue (h σ Hs H Go.refl I)
def retB (f : MEnv → Option (Slot × MEnv)) : MEnv → Option Out := fun env => match f env with
  | some (r, e1) => some (.rt r e1)
  | none => none
theorem ss_ret {f : MEnv → Option (Slot × MEnv)} (h : SE X e f) : SS X (.Return (some e) pos) (retB f) := by
  refine ⟨?_⟩
  intro env σ Hs H o hf I D q
  unfold retB at hf
  split at hf
  · rename_i r e1 h1
    cases hf
    exact WS.of (ps_ret (W.pe X e)) (h env σ Hs H r e1 h1 I _ fun v Hs' H' g I' rr => q v σ Hs' H' g.go I' rr.q)
  · cases hf
theorem ss_retN : SS X (.Return none pos) (fun env => some (.rt (.val .none) env)) := .mk fun env σ Hs H o hf I D h => by
  cases hf
  exact WS.of ps_retN (h .non σ Hs H Go.refl I rfl)
/-- return of a name: a list of the def's own goes to the caller as it is -/
def retNm (i : Nat) : MEnv → Option Out := fun env => match env[i]? with
  | some (.val d) => some (.rt (.val d) env)
  | some (.own xs) => some (.rt (.own xs) env)
  | _ => none
theorem ss_retNm {i : Nat} {x : Str} {p2 : Pos} (h : PE X (.Name x pos) (tVar i)) : SS X (.Return (some (.Name x pos)) p2) (retNm i) := by
  refine ⟨?_⟩
  intro env σ Hs H o hf I D q
  unfold retNm at hf
  split at hf
  · rename_i d hd
    cases hf
    obtain ⟨v, h1, h2⟩ := I.vals i d hd
    exact WS.of (ps_ret h) ⟨v, h1, q v σ Hs H Go.refl I h2⟩
  · rename_i xs hx
    cases hf
    obtain ⟨p, vs, h1, h2, h3, h4⟩ := I.muts i _ xs hx rfl
    exact WS.of (ps_ret h) ⟨.ref p, h1, q _ σ Hs H Go.refl I ⟨p, vs, rfl, .inr ⟨i, xs, hx, h1⟩, h2, h3, h4⟩⟩
  · cases hf
def ifB (ft : MEnv → Option (Bool × MEnv)) (fa fb : MEnv → Option Out) : MEnv → Option Out := fun env => match ft env with
  | some (true, e1) => fa e1
  | some (false, e1) => fb e1
  | none => none
theorem ss_if {t : Expr} {sa sb : List Stmt} {ft : MEnv → Option (Bool × MEnv)} {fa fb : MEnv → Option Out} (ht : ST X t ft) (ha : SB X sa fa) (hb : SB X sb fb) : SS X (.If t sa sb pos) (ifB ft fa fb) := by
  refine ⟨?_⟩
  intro env σ Hs H o hf I D q
  refine WS.of (ps_if (WT.pt X t) (WSs.ps X sa) (WSs.ps X sb)) ?_
  unfold ifB at hf
  split at hf
  · rename_i e1 h1
    refine ht env σ Hs H _ e1 h1 I _ fun Hs1 H1 g1 I1 => iteT ?_
    exact ha e1 σ Hs1 H1 o hf I1 D (q.step g1.go)
  · rename_i e1 h1
    refine ht env σ Hs H _ e1 h1 I _ fun Hs1 H1 g1 I1 => iteF ?_
    exact hb e1 σ Hs1 H1 o hf I1 D (q.step g1.go)
  · cases hf

/-! ### assignments -/
def asgB (i : Nat) (f : MEnv → Option (Slot × MEnv)) : MEnv → Option Out := fun env => match f env with
  | some (r, e1) => match setS i r e1 with
    | some e2 => some (.nx e2)
    | none => none
  | none => none
theorem rd_asg {te : TE} {i : Nat} {f : MEnv → Option (Slot × MEnv)} {o : Out} (h : ∀ (r : Slot) (e1 : MEnv), f env = some (r, e1) → ∀ Q : VK, (∀ v Hs' H', GoE σ env Hs H e1 Hs' H' → InvS K Hs' H' σ e1 → RepR K H Hs' H' r v → Q v H') → te σ H Q)
    (hf : asgB i f env = some o) (I : InvS K Hs H σ env) {D : Ends} (q : EndsOk K σ env Hs H o D) : tAsg te (gName i) D σ H := by
  unfold asgB at hf
  split at hf
  · rename_i r e1 h1
    split at hf
    · rename_i e2 h2
      cases hf
      obtain ⟨rfl, hi, hn⟩ := setS_some h2
      refine h r e1 h1 _ fun v Hs' H' g I' rr => ?_
      cases r with
      | val d => exact q _ Hs' H' (g.go.trans (Go.setV hn)) (I'.setV hi rr)
      | own xs =>
        obtain ⟨p, vs, rfl, n1, n2, n3, n4⟩ := rr
        have nm : ¬ MutAt σ e1 p := fun m => by
          obtain ⟨_, vs', hh⟩ := I.mutAt_some (g.ow p m)
          rw [n1] at hh
          cases hh
        exact q _ Hs' H' (Go.setO g.go n1 hn) (I'.setO hi n2 n3 n4 nm (fresh_back I.old.1 n1))
      | un => exact False.elim rr
      | io xs => exact False.elim rr
    · cases hf
  · cases hf
theorem ss_asg {i : Nat} {x : Str} {p2 : Pos} {f : MEnv → Option (Slot × MEnv)} (h : SE X e f) (hp : PS X (.Assign [.Name x p2] e pos) (tAsg (W X e) (gName i))) : SS X (.Assign [.Name x p2] e pos) (asgB i f) := by
  refine ⟨?_⟩
  intro env σ Hs H o hf I D q
  exact WS.of hp (rd_asg (fun r e1 h1 Q k => h env σ Hs H r e1 h1 I Q k) hf I q)
theorem each_cons {t : Expr} {ts : List Expr} {en : PySem.Env} (h : plainE t = true) : assignEach (t :: ts) en = (false, assign t en) :: assignEach ts en := by
  cases t <;> first | rfl | cases h
theorem each_one {t : Expr} {en : PySem.Env} (h : plainE t = true) : (assignEach [t] en).map (·.2) = [assign t en] := by
  rw [each_cons h]
  rfl
def plainIx : Expr → Bool
  | .Slice _ _ _ _ => false
  | _ => true
theorem plainIx_sub {j : Expr} (h : plainIx j = true) : PlainIx j := by
  intro o i
  cases j <;> first | rfl | cases h
theorem plainIx_asg {o j : Expr} {p : Pos} {en : PySem.Env} (h : plainIx j = true) : ∀ v, assign (.Subscript o j p) en v = (do
    let ov ← holding [v] (eval o en)
    let iv ← holding [v, ov] (eval j en)
    standAt p
    holding [v, ov, iv] (setItem ov iv v)
    release [v, ov, iv] []) := by
  intro v
  cases j <;> first | rfl | cases h
/-- to any target -/
def tgtB (f : MEnv → Option (PyData × MEnv)) (g : PyData → MEnv → Option MEnv) : MEnv → Option Out := fun env => match f env with
  | some (d, e1) => match g d e1 with
    | some e2 => some (.nx e2)
    | none => none
  | none => none
theorem ss_tgt {tg : Expr} {ix : List Nat} {f : MEnv → Option (PyData × MEnv)} {g : PyData → MEnv → Option MEnv} (h : SV X e f) (hg : SG X tg ix g) (hs : swapsWithSole [tg] e pos.line X.env = pure false) (hw : swappedStores [tg] e X.env = pure none)
    (hp : plainE tg = true) : SS X (.Assign [tg] e pos) (tgtB f g) := by
  refine ⟨?_⟩
  intro env σ Hs H o hf I D q
  unfold tgtB at hf
  split at hf
  · rename_i d e1 h1
    split at hf
    · rename_i e2 h2
      cases hf
      refine WS.of (ps_asg (W.pe X e) (WG.pg X tg) hs hw (each_one hp)) ?_
      refine h env σ Hs H d e1 h1 I _ fun v Hs1 H1 g1 I1 r1 => ?_
      exact hg e1 σ Hs1 H1 d v e2 h2 I1 r1 _ fun σ2 Hs2 H2 g2 I2 _ => q σ2 Hs2 H2 (g1.go.trans g2.go) I2
    · cases hf
  · cases hf
/-- name op= e, for ints -/
def augB (i : Nat) (f : MEnv → Option (Lr × MEnv)) (g : Int → Int → Int) : MEnv → Option Out := fun env => match env[i]? with
  | some (.val (.int a)) => match f env with
    | some (r, e1) => match look r e1 with
      | some (.int b) => match setS i (.val (.int (g a b))) e1 with
        | some e2 => some (.nx e2)
        | none => none
      | _ => none
    | none => none
  | _ => none
theorem ss_aug {i : Nat} {x : Str} {p2 : Pos} {op : Operator} {g : Int → Int → Int} {f : MEnv → Option (Lr × MEnv)} (h : SL X e f) (hp : PS X (.AugAssign (.Name x p2) op e pos) (tAug i (W X e) (ipI g))) : SS X (.AugAssign (.Name x p2) op e pos) (augB i f g) := by
  refine ⟨?_⟩
  intro env σ Hs H o hf I D q
  unfold augB at hf
  split at hf
  · rename_i a0 ha
    split at hf
    · rename_i r e1 h1
      split at hf
      · rename_i b0 hb
        split at hf
        · rename_i e2 h2
          cases hf
          obtain ⟨rfl, hi, hn⟩ := setS_some h2
          obtain ⟨v, k1, k2⟩ := I.vals i _ ha
          cases (show v = .int a0 from k2)
          refine WS.of hp ⟨.int a0, k1, ?_⟩
          refine h env σ Hs H r e1 h1 I _ fun u Hs1 H1 g1 I1 r1 => ?_
          have hu := rep_int (RepLr.top I1 r1 hb)
          exact ⟨a0, b0, rfl, hu, q _ Hs1 H1 (g1.go.trans (Go.setV hn)) (I1.setV hi rfl)⟩
        · cases hf
      · cases hf
    · cases hf
  · cases hf

/-! ### methods that change a list of the def's -/
def appB (i : Nat) (f : MEnv → Option (PyData × MEnv)) : MEnv → Option Out := fun env => match env[i]? with
  | some s0 => match s0.mut with
    | some _ => match f env with
      | some (d, e1) => match e1[i]? with
        | some s => match s.mut with
          | some xs => if xs.length < 100000 then some (.nx (e1.set i (s.put (xs ++ [d])))) else none
          | none => none
        | none => none
      | none => none
    | none => none
  | none => none
theorem ss_app {i : Nat} {x : Str} {px pa p2 : Pos} {f : MEnv → Option (PyData × MEnv)} (hx : PE X (.Name x px) (tVar i)) (h : SV X e f) (hp : plainE e = true) (hline : (pa.endLine == p2.line) = true) :
    SS X (.Expr (.Call (.Attribute (.Name x px) "append" pa) [e] [] p2) pos) (appB i f) := by
  refine ⟨?_⟩
  intro env σ Hs H o hf I D q
  unfold appB at hf
  split at hf
  · rename_i s0 h0
    split at hf
    · rename_i xs0 m0
      split at hf
      · rename_i d e1 h1
        split at hf
        · rename_i s hs
          split at hf
          · rename_i xs hm
            split at hf
            · rename_i hz
              cases hf
              obtain ⟨p, vs0, k1, k2, k3, k4⟩ := I.muts i s0 xs0 h0 m0
              have pe := pe_bm (X := X) PySem.F.plainAttrs_list PySem.F.slot_list_append PySem.F.type_list_append mt_append hx (pa_cons (W.pe X e) pa_nil (star_plain hp)) (apos := pa) (cpos := p2) (by rfl) (by rw [star_plain hp]; rfl) hline (star_plain hp) rfl
              refine WS.of (ps_expr pe) ?_
              refine ⟨.ref p, k1, .inl ⟨rfl, vs0, Evl.sq_of k3⟩, ?_⟩
              refine h env σ Hs H d e1 h1 I _ fun v Hs1 H1 g1 I1 r1 => ?_
              obtain ⟨p', vs, j1, j2, j3, j4⟩ := I1.muts i s xs hs hm
              rw [k1] at j1
              cases j1
              refine ⟨p, vs, v, rfl, rfl, j3, Evl.sz_lt (by rw [← RepL.length j4]; exact hz), ?_⟩
              have r2 : RepL X.K Hs1 (xs ++ [d]) (vs ++ [v]) := RepL.app j4 ⟨v, [], rfl, r1, rfl⟩
              exact q σ Hs1 _ (g1.trans (GoE.change I1 hs hm k1)).go (I1.change hs hm (Slot.put_mut hm _) k1 r2)
            · cases hf
          · cases hf
        · cases hf
      · cases hf
    · cases hf
  · cases hf
/-- xs[j] = e -/
def setB (i : Nat) (f : MEnv → Option (PyData × MEnv)) (fj : MEnv → Option (Lr × MEnv)) : MEnv → Option Out := fun env => match f env with
  | some (d, e1) => match e1[i]? with
    | some s0 => match s0.mut with
      | some _ => match fj e1 with
        | some (rj, e2) => match look rj e2, e2[i]? with
          | some (.int j), some s => match s.mut with
            | some xs => match ixN xs.length j with
              | some k => some (.nx (e2.set i (s.put (xs.set k d))))
              | none => none
            | none => none
          | _, _ => none
        | none => none
      | none => none
    | none => none
  | none => none
theorem ss_set {i : Nat} {x : Str} {px p2 : Pos} {j : Expr} {f : MEnv → Option (PyData × MEnv)} {fj : MEnv → Option (Lr × MEnv)} (hx : PE X (.Name x px) (tVar i)) (h : SV X e f) (hj : SL X j fj) (hs : swapsWithSole [.Subscript (.Name x px) j p2] e pos.line X.env = pure false)
    (hw : swappedStores [.Subscript (.Name x px) j p2] e X.env = pure none) (hp : plainIx j = true) : SS X (.Assign [.Subscript (.Name x px) j p2] e pos) (setB i f fj) := by
  refine ⟨?_⟩
  intro env σ Hs H o hf I D q
  unfold setB at hf
  split at hf
  · rename_i d e1 h1
    split at hf
    · rename_i s0 h0
      split at hf
      · rename_i xs0 m0
        split at hf
        · rename_i rj e2 h2
          split at hf
          · rename_i jj s hjj hsl
            split at hf
            · rename_i xs hm
              split at hf
              · rename_i k hk
                cases hf
                refine WS.of (ps_asg (W.pe X e) (pg_sub hx (W.pe X j) set_list (plainIx_asg hp)) hs hw (each_one rfl)) ?_
                refine h env σ Hs H d e1 h1 I _ fun v Hs1 H1 g1 I1 r1 => ?_
                obtain ⟨p, vs0, k1, k2, k3, k4⟩ := I1.muts i s0 xs0 h0 m0
                refine ⟨.ref p, k1, ?_⟩
                refine hj e1 σ Hs1 H1 rj e2 h2 I1 _ fun u Hs2 H2 g2 I2 r2 => ?_
                have hu := rep_int (RepLr.top I2 r2 hjj)
                obtain ⟨p', vs, j1, j2, j3, j4⟩ := I2.muts i s xs hsl hm
                rw [k1] at j1
                cases j1
                refine ⟨p, vs, jj, k, rfl, hu, j3, by rw [← RepL.length j4]; exact hk, ?_⟩
                have r3 : RepL X.K Hs2 (xs.set k d) (vs.set k v) := RepL.set (Rep.mono g2.sh d v r1) k j4
                exact q σ Hs2 _ ((g1.trans g2).trans (GoE.change I2 hsl hm k1)).go (I2.change hsl hm (Slot.put_mut hm _) k1 r3)
              · cases hf
            · cases hf
          · cases hf
        · cases hf
      · cases hf
    · cases hf
  · cases hf

/-! ### loops -/
def forLoop (fg : PyData → MEnv → Option MEnv) (fb : MEnv → Option Out) : List PyData → MEnv → Option Out
  | [], env => some (.nx env)
  | d :: ds, env => match fg d env with
    | some e1 => match fb e1 with
      | some (.nx e2) => forLoop fg fb ds e2
      | some (.ct e2) => forLoop fg fb ds e2
      | some (.bk e2) => some (.nx e2)
      | some (.rt r e2) => some (.rt r e2)
      | none => none
    | none => none
def forB (fi : MEnv → Option (List PyData × MEnv)) (fg : PyData → MEnv → Option MEnv) (fb : MEnv → Option Out) : MEnv → Option Out := fun env => match fi env with
  | some (ds, e1) => forLoop fg fb ds e1
  | none => none
theorem ss_for {tg iter : Expr} {body : List Stmt} {ix : List Nat} {fi : MEnv → Option (List PyData × MEnv)} {fg : PyData → MEnv → Option MEnv} {fb : MEnv → Option Out} (hi : SI X tg iter fi) (hg : SG X tg ix fg) (hb : SB X body fb)
    (hp : PassesOwn (model X.prog X.w) X.A X.env X.xe) (hc : X.calm = true) (hs : ∀ x, foldedSetIterable iter X.env x = pure x) : SS X (.For tg iter body [] pos) (forB fi fg fb) := by
  refine ⟨?_⟩
  intro env σ Hs H o hf I D q
  unfold forB at hf
  split at hf
  · rename_i ds e1 h1
    refine WS.of (ps_for hp hc (WI.pi X tg iter) (WG.pg X tg) (WSs.ps X body) hs) ?_
    refine hi env σ Hs H ds e1 h1 I _ fun J Hs1 H1 g1 I1 wk => ?_
    refine for_it wk (fun i σ2 H2 => ∃ e2 Hs2, forLoop fg fb (ds.drop i) e2 = some o ∧ Go σ e1 Hs1 H1 σ2 e2 Hs2 H2 ∧ InvS X.K Hs2 H2 σ2 e2) ?_ ?_ ?_ ?_
    · exact ⟨e1, Hs1, hf, Go.refl, I1⟩
    · rintro i σ2 H2 _ ⟨e2, Hs2, _, g2, I2⟩
      exact ⟨Hs2, g2.sh, I2.sh, I2.old.1⟩
    · rintro i x σ2 H2 H3 hlt ⟨e2, Hs2, k1, g2, I2⟩ ⟨d, hd, hy⟩
      obtain ⟨Hs3, g3, I3, r3⟩ := hy Hs2 g2.sh I2.sh _ _ I2
      have ed : ds.drop i = d :: ds.drop (i + 1) := by
        rw [List.drop_eq_getElem_cons hlt]
        rw [List.getElem?_eq_getElem hlt] at hd
        cases hd
        rfl
      rw [ed] at k1
      unfold forLoop at k1
      split at k1
      · rename_i e3 h3
        refine hg e2 σ2 Hs3 H3 d x e3 h3 I3 r3 _ fun σ4 Hs4 H4 g4 I4 _ => ?_
        have g14 := (g2.trans g3.go).trans g4.go
        have q4 := (q.step g1.go).step g14
        split at k1
        · rename_i e4 h4
          exact hb e3 σ4 Hs4 H4 _ h4 I4 _ fun σ5 Hs5 H5 g5 I5 => ⟨e4, Hs5, k1, g14.trans g5, I5⟩
        · rename_i e4 h4
          exact hb e3 σ4 Hs4 H4 _ h4 I4 _ fun σ5 Hs5 H5 g5 I5 => ⟨e4, Hs5, k1, g14.trans g5, I5⟩
        · rename_i e4 h4
          cases k1
          exact hb e3 σ4 Hs4 H4 _ h4 I4 _ q4
        · rename_i r e4 h4
          cases k1
          exact hb e3 σ4 Hs4 H4 _ h4 I4 _ q4
        · cases k1
      · cases k1
    · rintro σ2 H2 ⟨e2, Hs2, k1, g2, I2⟩
      rw [List.drop_eq_nil_of_le (Nat.le_refl _)] at k1
      unfold forLoop at k1
      cases k1
      exact q σ2 Hs2 H2 (g1.go.trans g2) I2
  · cases hf
def whileLoop (ft : MEnv → Option (Bool × MEnv)) (fb : MEnv → Option Out) : Nat → MEnv → Option Out
  | 0, _ => none
  | n + 1, env => match ft env with
    | some (false, e1) => some (.nx e1)
    | some (true, e1) => match fb e1 with
      | some (.nx e2) => whileLoop ft fb n e2
      | some (.ct e2) => whileLoop ft fb n e2
      | some (.bk e2) => some (.nx e2)
      | some (.rt r e2) => some (.rt r e2)
      | none => none
    | none => none
theorem ss_while {t : Expr} {body : List Stmt} {ft : MEnv → Option (Bool × MEnv)} {fb : MEnv → Option Out} (n : Nat) (ht : ST X t ft) (hb : SB X body fb) (hp : PassesOwn (model X.prog X.w) X.A X.env X.xe) : SS X (.While t body [] pos) (whileLoop ft fb n) := by
  refine ⟨?_⟩
  intro env σ Hs H o hf I D q
  refine WS.of (ps_while hp (WT.pt X t) (WSs.ps X body)) ?_
  refine ⟨fun m σ2 H2 => ∃ e2 Hs2, whileLoop ft fb m e2 = some o ∧ Go σ env Hs H σ2 e2 Hs2 H2 ∧ InvS X.K Hs2 H2 σ2 e2, ⟨n, env, Hs, hf, Go.refl, I⟩, ?_⟩
  rintro m σ2 H2 ⟨e2, Hs2, k1, g2, I2⟩
  cases m with
  | zero => cases k1
  | succ m =>
    unfold whileLoop at k1
    split at k1
    · rename_i e3 h3
      cases k1
      exact ht e2 σ2 Hs2 H2 false e3 h3 I2 _ fun Hs3 H3 g3 I3 => iteF (q σ2 Hs3 H3 (g2.trans g3.go) I3)
    · rename_i e3 h3
      refine ht e2 σ2 Hs2 H2 true e3 h3 I2 _ fun Hs3 H3 g3 I3 => iteT ?_
      have g23 := g2.trans g3.go
      have q3 := q.step g23
      refine ⟨fun σ5 H5 => ∃ e5 Hs5, whileLoop ft fb m e5 = some o ∧ Go σ env Hs H σ5 e5 Hs5 H5 ∧ InvS X.K Hs5 H5 σ5 e5, fun σ5 H5 h5 => ⟨m, Nat.lt_succ_self m, h5⟩, ?_⟩
      split at k1
      · rename_i e4 h4
        exact hb e3 σ2 Hs3 H3 _ h4 I3 _ fun σ5 Hs5 H5 g5 I5 => ⟨e4, Hs5, k1, g23.trans g5, I5⟩
      · rename_i e4 h4
        exact hb e3 σ2 Hs3 H3 _ h4 I3 _ fun σ5 Hs5 H5 g5 I5 => ⟨e4, Hs5, k1, g23.trans g5, I5⟩
      · rename_i e4 h4
        cases k1
        exact hb e3 σ2 Hs3 H3 _ h4 I3 _ q3
      · rename_i r e4 h4
        cases k1
        exact hb e3 σ2 Hs3 H3 _ h4 I3 _ q3
      · cases k1
    · cases k1
end Ip

set_option Elab.async false
set_option linter.all false
set_option maxRecDepth 100000
set_option maxHeartbeats 4000000
namespace Ip
open PySem L2
open Evl (Ex sz_of fresh_back)
variable [Old]
variable {X : Cx} {a b e : Expr} {pos : Pos} {K : PySem.W.Frag} {Hs Hs' H H' : Hp} {σ : L2.St} {env env' : MEnv}

/-! ### built-in functions -/
theorem se_b1 {id : String} {r : List V → Hp → VK → Prop} {x : Str} {p : Pos} {fa : MEnv → Option (Lr × MEnv)} {g : PyData → Option Slot} (hc : CallR X (.builtin id) r) (hg : Gl X x) (hm : X.mg x = none) (hv : bootBuiltins x = some (.builtin id)) (ha : SL X a fa)
    (hr : R1ok X.K (fun v H Q => r [v] H Q) g) (hp : plainE a = true) (hn : x ≠ "__name__") (hd : (x == ("__debug__" : Str)) = false) : SE X (.Call (.Name x p) [a] [] pos) (op1 fa g) :=
  se_op1 ha hr (show PE X _ (tCB r (tCons (W X a) tNil)) from pe_callB hc hg hm hv (pa_cons (W.pe X a) pa_nil (star_plain hp)) hn hd (star_plain hp) rfl)
theorem se_t1 {T : String} {r : List V → Hp → VK → Prop} {x : Str} {p : Pos} {fa : MEnv → Option (Lr × MEnv)} {g : PyData → Option Slot} (hc : CallR X (.type T) r) (hg : Gl X x) (hm : X.mg x = none) (hv : bootBuiltins x = some (.type T)) (ha : SL X a fa)
    (hr : R1ok X.K (fun v H Q => r [v] H Q) g) (hp : plainE a = true) (hn : x ≠ "__name__") (hd : (x == ("__debug__" : Str)) = false) : SE X (.Call (.Name x p) [a] [] pos) (op1 fa g) :=
  se_op1 ha hr (show PE X _ (tCB r (tCons (W X a) tNil)) from pe_callTy hc hg hm hv (pa_cons (W.pe X a) pa_nil (star_plain hp)) hn hd (star_plain hp) rfl)
theorem se_b2 {id : String} {r : List V → Hp → VK → Prop} {x : Str} {p : Pos} {fa fb : MEnv → Option (Lr × MEnv)} {g : PyData → PyData → Option Slot} (hc : CallR X (.builtin id) r) (hg : Gl X x) (hm : X.mg x = none) (hv : bootBuiltins x = some (.builtin id)) (ha : SL X a fa)
    (hb : SL X b fb) (hr : R2ok X.K (fun v u H Q => r [v, u] H Q) g) (hp : plainE a = true) (hp2 : plainE b = true) (hn : x ≠ "__name__") (hd : (x == ("__debug__" : Str)) = false) : SE X (.Call (.Name x p) [a, b] [] pos) (op2 fa fb g) :=
  se_op2 ha hb hr (show PE X _ (tCB r (tCons (W X a) (tCons (W X b) tNil))) from pe_callB hc hg hm hv (pa_cons (W.pe X a) (pa_cons (W.pe X b) pa_nil (star_plain hp2)) (star_plain hp)) hn hd (star_plain hp) (by rw [star_plain hp2]; rfl))
/-- an imported built-in function of two operands -/
theorem se_f2 {id : String} {r : List V → Hp → VK → Prop} {x : Str} {p : Pos} {fa fb : MEnv → Option (Lr × MEnv)} {g : PyData → PyData → Option Slot} (hc : CallR X (.builtin id) r) (hg : Gl X x) (hm : X.mg x = some (.builtin id)) (ha : SL X a fa)
    (hb : SL X b fb) (hr : R2ok X.K (fun v u H Q => r [v, u] H Q) g) (hp : plainE a = true) (hp2 : plainE b = true) (hd : (x == ("__debug__" : Str)) = false) : SE X (.Call (.Name x p) [a, b] [] pos) (op2 fa fb g) :=
  se_op2 ha hb hr (show PE X _ (tCB r (tCons (W X a) (tCons (W X b) tNil))) from pe_callBfun hc hg hm (pa_cons (W.pe X a) (pa_cons (W.pe X b) pa_nil (star_plain hp2)) (star_plain hp)) hd (star_plain hp) (by rw [star_plain hp2]; rfl))

def lenD : PyData → Option Slot
  | .list xs => some (.val (.int xs.length))
  | .tuple xs => some (.val (.int xs.length))
  | .str z => if z.length ≤ 100000 then some (.val (.int z.length)) else none
  | .dict [(.none, .list xs)] => some (.val (.int xs.length))
  | .dict [(.none, .tuple xs)] => some (.val (.int xs.length))
  | _ => none
theorem ok_len : R1ok X.K (fun v H Q => (∃ p ys, [v] = [V.ref p] ∧ (SqL X.K H p ys ∨ SqT X.K H p ys) ∧ Q (.int ys.length) H) ∨ (∃ z, [v] = [V.str z] ∧ z.length ≤ sizeLine ∧ Q (.int z.length) H)) lenD := by
  intro Hs H σ env x v s hs I hx Q q
  by_cases hdic : ∃ kvs, x = .dict kvs
  · obtain ⟨kvs, rfl⟩ := hdic
    unfold lenD at hs
    split at hs
    · cases ‹PyData.dict _ = .list _›
    · cases ‹PyData.dict _ = .tuple _›
    · cases ‹PyData.dict _ = .str _›
    · rename_i xs e
      cases e
      cases hs
      obtain ⟨p, vs, rfl, h1, h2⟩ := old_list (show Rep X.K Hs (oldD (.list xs)) v from hx)
      exact .inl ⟨p, vs, rfl, .inl (Evl.ex_l I.old.1 h1), ok_val I rfl (show Rep X.K Hs (.int _) (.int _) by rw [← RepL.length h2, List.length_map]; rfl) q⟩
    · rename_i xs e
      cases e
      cases hs
      obtain ⟨p, vs, rfl, h1, h2⟩ := old_tup (show Rep X.K Hs (oldD (.tuple xs)) v from hx)
      exact .inl ⟨p, vs, rfl, .inr (Evl.ex_t I.old.1 h1), ok_val I rfl (show Rep X.K Hs (.int _) (.int _) by rw [← RepL.length h2, List.length_map]; rfl) q⟩
    · cases hs
  have hdic' : ∀ kvs, x ≠ .dict kvs := fun kvs e => hdic ⟨kvs, e⟩
  cases x <;> first | (exact absurd rfl (hdic' _)) | skip <;> try (cases hs; done)
  · rename_i z
    unfold lenD at hs
    simp only at hs
    split at hs
    · rename_i hz
      cases hs
      exact .inr ⟨z, by rw [(show v = V.str z from hx)], sz_of hz, ok_val I rfl (show Rep X.K Hs (.int _) (.int _) from rfl) q⟩
    · cases hs
  · rename_i xs
    cases hs
    obtain ⟨p, vs, rfl, h1, h2⟩ := hx
    exact .inl ⟨p, vs, rfl, .inl h1, ok_val I rfl (show Rep X.K Hs (.int _) (.int _) by rw [RepL.length h2]; rfl) q⟩
  · rename_i xs
    cases hs
    obtain ⟨p, vs, rfl, h1, h2⟩ := hx
    exact .inl ⟨p, vs, rfl, .inr (Evl.ex_t I.sh h1), ok_val I rfl (show Rep X.K Hs (.int _) (.int _) by rw [RepL.length h2]; rfl) q⟩
def intD : PyData → Option Slot
  | .int i => some (.val (.int i))
  | .bool b => some (.val (.int (if b then 1 else 0)))
  | _ => none
theorem ok_int : R1ok X.K (fun v H Q => (∃ i, [v] = [V.int i] ∧ Q (.int i) H) ∨ ∃ k, [v] = [V.bl k] ∧ Q (.int (if k then 1 else 0)) H) intD := by
  intro Hs H σ env x v s hs I hx Q q
  cases x <;> try (cases hs; done)
  · rename_i b
    cases hs
    exact .inr ⟨b, by rw [(show v = V.bl b from hx)], ok_val I rfl (show Rep X.K Hs (.int _) (.int _) from rfl) q⟩
  · rename_i i
    cases hs
    exact .inl ⟨i, by rw [(show v = V.int i from hx)], ok_val I rfl (show Rep X.K Hs (.int _) (.int _) from rfl) q⟩
def absD : PyData → Option Slot
  | .int i => some (.val (.int (if i < 0 then -i else i)))
  | _ => none
theorem ok_abs : R1ok X.K (fun v H Q => ∃ i, [v] = [V.int i] ∧ Q (.int (if i < 0 then -i else i)) H) absD := by
  intro Hs H σ env x v s hs I hx Q q
  cases x <;> try (cases hs; done)
  rename_i i
  cases hs
  exact ⟨i, by rw [(show v = V.int i from hx)], ok_val I rfl (show Rep X.K Hs (.int _) (.int _) from rfl) q⟩
/-- str(n) of an int -/
def strD : PyData → Option Slot
  | .int i => if i.natAbs.log2 < 1920 then some (.val (.str (toString i))) else none
  | _ => none
theorem ok_str : R1ok X.K (fun v H Q => ∃ i, [v] = [V.int i] ∧ i.natAbs.log2 < 1920 ∧ Q (.str (toString i)) H) strD := by
  intro Hs H σ env x v s hs I hx Q q
  cases x <;> try (cases hs; done)
  rename_i i
  unfold strD at hs
  simp only at hs
  split at hs
  · rename_i hz
    cases hs
    exact ⟨i, by rw [(show v = V.int i from hx)], hz, ok_val I rfl (show Rep X.K Hs (.str _) (.str _) from rfl) q⟩
  · cases hs
/-- list(xs) -/
def listD : PyData → Option Slot
  | .list xs => some (.own xs)
  | .tuple xs => some (.own xs)
  | .dict [(.none, .list xs)] => some (.own (xs.map oldOf))
  | .dict [(.none, .tuple xs)] => some (.own (xs.map oldOf))
  | _ => none
theorem ok_list : R1ok X.K (fun v H Q => ∃ p ys, [v] = [V.ref p] ∧ (SqL X.K H p ys ∨ SqT X.K H p ys) ∧ ∀ l, H l = none → Q (.ref l) (upd H l (.lst ys))) listD := by
  intro Hs H σ env x v s hs I hx Q q
  by_cases hdic : ∃ kvs, x = .dict kvs
  · obtain ⟨kvs, rfl⟩ := hdic
    unfold listD at hs
    split at hs
    · cases ‹PyData.dict _ = .list _›
    · cases ‹PyData.dict _ = .tuple _›
    · rename_i xs e
      cases e
      cases hs
      obtain ⟨p, vs, rfl, h1, h2⟩ := old_list (show Rep X.K Hs (oldD (.list xs)) v from hx)
      exact ⟨p, vs, rfl, .inl (Evl.ex_l I.old.1 h1), ok_newL (s := .own (xs.map oldOf)) I rfl h2 q⟩
    · rename_i xs e
      cases e
      cases hs
      obtain ⟨p, vs, rfl, h1, h2⟩ := old_tup (show Rep X.K Hs (oldD (.tuple xs)) v from hx)
      exact ⟨p, vs, rfl, .inr (Evl.ex_t I.old.1 h1), ok_newL (s := .own (xs.map oldOf)) I rfl h2 q⟩
    · cases hs
  have hdic' : ∀ kvs, x ≠ .dict kvs := fun kvs e => hdic ⟨kvs, e⟩
  cases x <;> first | (exact absurd rfl (hdic' _)) | skip <;> try (cases hs; done)
  · rename_i xs
    cases hs
    obtain ⟨p, vs, rfl, h1, h2⟩ := hx
    exact ⟨p, vs, rfl, .inl h1, ok_newL (s := .own xs) I rfl h2 q⟩
  · rename_i xs
    cases hs
    obtain ⟨p, vs, rfl, h1, h2⟩ := hx
    exact ⟨p, vs, rfl, .inr (Evl.ex_t I.sh h1), ok_newL (s := .own xs) I rfl h2 q⟩
/-! lists of truths, of ints -/
def boolsOf : List PyData → Option (List Bool)
  | [] => some []
  | .bool b :: r => (boolsOf r).map (b :: ·)
  | _ :: _ => none
def intsOf : List PyData → Option (List Int)
  | [] => some []
  | .int i :: r => (intsOf r).map (i :: ·)
  | _ :: _ => none
theorem boolsOf_rep : ∀ {ds : List PyData} {bs : List Bool} {vs : List V}, boolsOf ds = some bs → RepL K H ds vs → vs = bs.map V.bl
  | [], bs, vs, h, r => by
    cases h
    exact r
  | .bool b :: ds, bs, vs, h, r => by
    obtain ⟨v, w, rfl, h1, h2⟩ := r
    have h : (boolsOf ds).map (b :: ·) = some bs := h
    cases hd : boolsOf ds with
    | none => rw [hd] at h; cases h
    | some cs =>
      rw [hd] at h
      cases h
      rw [boolsOf_rep hd h2, (show v = V.bl b from h1)]
      rfl
  | .none :: _, _, _, h, _ => by cases h
  | .int _ :: _, _, _, h, _ => by cases h
  | .str _ :: _, _, _, h, _ => by cases h
  | .list _ :: _, _, _, h, _ => by cases h
  | .tuple _ :: _, _, _, h, _ => by cases h
  | .dict _ :: _, _, _, h, _ => by cases h
theorem intsOf_rep : ∀ {ds : List PyData} {bs : List Int} {vs : List V}, intsOf ds = some bs → RepL K H ds vs → vs = bs.map V.int
  | [], bs, vs, h, r => by
    cases h
    exact r
  | .int b :: ds, bs, vs, h, r => by
    obtain ⟨v, w, rfl, h1, h2⟩ := r
    have h : (intsOf ds).map (b :: ·) = some bs := h
    cases hd : intsOf ds with
    | none => rw [hd] at h; cases h
    | some cs =>
      rw [hd] at h
      cases h
      rw [intsOf_rep hd h2, (show v = V.int b from h1)]
      rfl
  | .none :: _, _, _, h, _ => by cases h
  | .bool _ :: _, _, _, h, _ => by cases h
  | .str _ :: _, _, _, h, _ => by cases h
  | .list _ :: _, _, _, h, _ => by cases h
  | .tuple _ :: _, _, _, h, _ => by cases h
  | .dict _ :: _, _, _, h, _ => by cases h
def allD : PyData → Option Slot
  | .list xs => (boolsOf xs).map fun bs => .val (.bool (bs.all id))
  | _ => none
def anyD : PyData → Option Slot
  | .list xs => (boolsOf xs).map fun bs => .val (.bool (bs.any id))
  | _ => none
def sumD : PyData → Option Slot
  | .list xs => (intsOf xs).map fun ns => .val (.int ns.sum)
  | _ => none
theorem ok_all : R1ok X.K (fun v H Q => rAll X.K [v] H Q) allD := by
  intro Hs H σ env x v s hs I hx Q q
  cases x <;> try (cases hs; done)
  rename_i xs
  have hs : (boolsOf xs).map (fun bs => Slot.val (.bool (bs.all id))) = some s := hs
  cases hd : boolsOf xs with
  | none => rw [hd] at hs; cases hs
  | some bs =>
    rw [hd] at hs
    cases hs
    obtain ⟨p, vs, rfl, h1, h2⟩ := hx
    exact ⟨p, bs, rfl, by rw [← boolsOf_rep hd h2]; exact h1.1, ok_val I rfl (show Rep X.K Hs (.bool _) (.bl _) from rfl) q⟩
theorem ok_any : R1ok X.K (fun v H Q => rAny X.K [v] H Q) anyD := by
  intro Hs H σ env x v s hs I hx Q q
  cases x <;> try (cases hs; done)
  rename_i xs
  have hs : (boolsOf xs).map (fun bs => Slot.val (.bool (bs.any id))) = some s := hs
  cases hd : boolsOf xs with
  | none => rw [hd] at hs; cases hs
  | some bs =>
    rw [hd] at hs
    cases hs
    obtain ⟨p, vs, rfl, h1, h2⟩ := hx
    exact ⟨p, bs, rfl, by rw [← boolsOf_rep hd h2]; exact h1.1, ok_val I rfl (show Rep X.K Hs (.bool _) (.bl _) from rfl) q⟩
theorem ok_sum : R1ok X.K (fun v H Q => rSum X.K [v] H Q) sumD := by
  intro Hs H σ env x v s hs I hx Q q
  cases x <;> try (cases hs; done)
  rename_i xs
  have hs : (intsOf xs).map (fun ns => Slot.val (.int ns.sum)) = some s := hs
  cases hd : intsOf xs with
  | none => rw [hd] at hs; cases hs
  | some bs =>
    rw [hd] at hs
    cases hs
    obtain ⟨p, vs, rfl, h1, h2⟩ := hx
    exact ⟨p, bs, rfl, by rw [← intsOf_rep hd h2]; exact h1.1, ok_val I rfl (show Rep X.K Hs (.int _) (.int _) from rfl) q⟩
/-! of two ints -/
def gcdD : PyData → PyData → Option Slot
  | .int i, .int j => some (.val (.int ((Nat.gcd i.natAbs j.natAbs : Nat) : Int)))
  | _, _ => none
def max2D : PyData → PyData → Option Slot
  | .int i, .int j => some (.val (.int (if j > i then j else i)))
  | _, _ => none
def min2D : PyData → PyData → Option Slot
  | .int i, .int j => some (.val (.int (if j < i then j else i)))
  | _, _ => none
theorem ok_gcd : R2ok X.K (fun v u H Q => rGcd [v, u] H Q) gcdD := by
  intro Hs H σ env x y v u s hs I hx hy Q q
  cases x <;> cases y <;> try (cases hs; done)
  rename_i i j
  cases hs
  exact ⟨i, j, by rw [(show v = V.int i from hx), (show u = V.int j from hy)], ok_val I rfl (show Rep X.K Hs (.int _) (.int _) from rfl) q⟩
theorem ok_max2 : R2ok X.K (fun v u H Q => ∃ i j, [v, u] = [V.int i, V.int j] ∧ Q (.int (if j > i then j else i)) H) max2D := by
  intro Hs H σ env x y v u s hs I hx hy Q q
  cases x <;> cases y <;> try (cases hs; done)
  rename_i i j
  cases hs
  exact ⟨i, j, by rw [(show v = V.int i from hx), (show u = V.int j from hy)], ok_val I rfl (show Rep X.K Hs (.int _) (.int _) from rfl) q⟩
theorem ok_min2 : R2ok X.K (fun v u H Q => ∃ i j, [v, u] = [V.int i, V.int j] ∧ Q (.int (if j < i then j else i)) H) min2D := by
  intro Hs H σ env x y v u s hs I hx hy Q q
  cases x <;> cases y <;> try (cases hs; done)
  rename_i i j
  cases hs
  exact ⟨i, j, by rw [(show v = V.int i from hx), (show u = V.int j from hy)], ok_val I rfl (show Rep X.K Hs (.int _) (.int _) from rfl) q⟩

/-! ### isinstance of a built-in class -/
def tyOf : PyData → String
  | .none => "NoneType"
  | .bool _ => "bool"
  | .int _ => "int"
  | .str _ => "str"
  | .list _ => "list"
  | .tuple _ => "tuple"
  | .dict _ => "dict"
inductive Ty where
  | int | bool | str | list | tuple
def Ty.nm : Ty → String
  | .int => "int"
  | .bool => "bool"
  | .str => "str"
  | .list => "list"
  | .tuple => "tuple"
def isaB : Ty → PyData → Bool
  | .int, .int _ => true
  | .int, .bool _ => true
  | .bool, .bool _ => true
  | .str, .str _ => true
  | .list, .list _ => true
  | .tuple, .tuple _ => true
  | _, _ => false
theorem isa_kit : ∀ (T : Ty) (d : PyData), kitB (tyOf d) T.nm = some (isaB T d)
  | .int, .none => (by decide +kernel : kitB "NoneType" "int" = some false)
  | .int, .bool _ => (by decide +kernel : kitB "bool" "int" = some true)
  | .int, .int _ => (by decide +kernel : kitB "int" "int" = some true)
  | .int, .str _ => (by decide +kernel : kitB "str" "int" = some false)
  | .int, .list _ => (by decide +kernel : kitB "list" "int" = some false)
  | .int, .tuple _ => (by decide +kernel : kitB "tuple" "int" = some false)
  | .int, .dict _ => (by decide +kernel : kitB "dict" "int" = some false)
  | .bool, .none => (by decide +kernel : kitB "NoneType" "bool" = some false)
  | .bool, .bool _ => (by decide +kernel : kitB "bool" "bool" = some true)
  | .bool, .int _ => (by decide +kernel : kitB "int" "bool" = some false)
  | .bool, .str _ => (by decide +kernel : kitB "str" "bool" = some false)
  | .bool, .list _ => (by decide +kernel : kitB "list" "bool" = some false)
  | .bool, .tuple _ => (by decide +kernel : kitB "tuple" "bool" = some false)
  | .bool, .dict _ => (by decide +kernel : kitB "dict" "bool" = some false)
  | .str, .none => (by decide +kernel : kitB "NoneType" "str" = some false)
  | .str, .bool _ => (by decide +kernel : kitB "bool" "str" = some false)
  | .str, .int _ => (by decide +kernel : kitB "int" "str" = some false)
  | .str, .str _ => (by decide +kernel : kitB "str" "str" = some true)
  | .str, .list _ => (by decide +kernel : kitB "list" "str" = some false)
  | .str, .tuple _ => (by decide +kernel : kitB "tuple" "str" = some false)
  | .str, .dict _ => (by decide +kernel : kitB "dict" "str" = some false)
  | .list, .none => (by decide +kernel : kitB "NoneType" "list" = some false)
  | .list, .bool _ => (by decide +kernel : kitB "bool" "list" = some false)
  | .list, .int _ => (by decide +kernel : kitB "int" "list" = some false)
  | .list, .str _ => (by decide +kernel : kitB "str" "list" = some false)
  | .list, .list _ => (by decide +kernel : kitB "list" "list" = some true)
  | .list, .tuple _ => (by decide +kernel : kitB "tuple" "list" = some false)
  | .list, .dict _ => (by decide +kernel : kitB "dict" "list" = some false)
  | .tuple, .none => (by decide +kernel : kitB "NoneType" "tuple" = some false)
  | .tuple, .bool _ => (by decide +kernel : kitB "bool" "tuple" = some false)
  | .tuple, .int _ => (by decide +kernel : kitB "int" "tuple" = some false)
  | .tuple, .str _ => (by decide +kernel : kitB "str" "tuple" = some false)
  | .tuple, .list _ => (by decide +kernel : kitB "list" "tuple" = some false)
  | .tuple, .tuple _ => (by decide +kernel : kitB "tuple" "tuple" = some true)
  | .tuple, .dict _ => (by decide +kernel : kitB "dict" "tuple" = some false)
def isDic : PyData → Bool
  | .dict _ => true
  | _ => false
theorem top_ty (sh : Ex Hs H) : ∀ {d : PyData} {v : V}, isDic d = false → Top K Hs H d v → TyX K H v (.type (tyOf d))
  | .none, v, _, h => by cases (show v = .non from h); exact .base .non
  | .bool b, v, _, h => by cases (show v = .bl b from h); exact .base (.bl b)
  | .int b, v, _, h => by cases (show v = .int b from h); exact .base (.int b)
  | .str b, v, _, h => by cases (show v = .str b from h); exact .base (.str b)
  | .list xs, v, _, h => by
    obtain ⟨a, vs, rfl, h1, _⟩ := h
    rcases h1 with (h1 | ⟨o, h1⟩) | ⟨o, its, n, hk, hc, _⟩
    · exact .base (.lst h1)
    · exact .base (.frz h1)
    · exact .kList hk hc
  | .tuple xs, v, _, h => by
    obtain ⟨a, vs, rfl, h1, _⟩ := h
    have h1 := Evl.ex_t sh h1
    rcases h1 with (h1 | ⟨o, h1⟩) | ⟨o, its, n, hk, hc, _⟩
    · exact .base (.tup h1)
    · exact .fTuple h1
    · exact .kTuple hk hc
  | .dict _, v, n, h => by cases n
def isaD (T : Ty) (d : PyData) : Option Slot := if isDic d = true then none else some (.val (.bool (isaB T d)))
theorem se_isa {T : Ty} {x n : Str} {p p2 : Pos} {fa : MEnv → Option (Lr × MEnv)} (hx : x = "isinstance") (hg : Gl X x) (hm : X.mg x = none) (ha : SL X a fa) (hp : plainE a = true) (hgT : Gl X n) (hmT : X.mg n = none) (hb : bootBuiltins n = some (.type T.nm)) (hn : n ≠ "__name__") (hdb : (n == ("__debug__" : Str)) = false) :
    SE X (.Call (.Name x p) [a, .Name n p2] [] pos) (op1 fa (isaD T)) := by
  subst hx
  have pT : PE X (.Name n p2) (tC (.ty T.nm)) := pe_bltn hgT hmT hb rfl hn hdb
  refine se_op1 (r := fun v H Q => rIsi X.K [v, .ty T.nm] H Q) ha ?_ (show PE X _ (tCB (rIsi X.K) (tCons (W X a) (tCons (tC (.ty T.nm)) tNil))) from pe_callB call_isi hg hm (by decide +kernel) (pa_cons (W.pe X a) (pa_cons pT pa_nil) (star_plain hp)) (by decide) (by decide) (star_plain hp) rfl)
  intro Hs H σ env d v s hs I hx Q q
  unfold isaD at hs
  split at hs
  · cases hs
  rename_i hnd
  cases hs
  exact ⟨v, _, _, _, isaB T d, rfl, .ty T.nm, top_ty I.sh (by simpa using hnd) hx, kit_ty (isa_kit T d), ok_val I rfl (show Rep X.K Hs (.bool _) (.bl _) from rfl) q⟩

/-! ### the promise of a def -/
def argOk : Slot → Bool
  | .val _ => true
  | .io _ => true
  | _ => false
abbrev Run := List Slot → Option (Slot × List Slot)
def spFo (oo : Old) (K : PySem.W.Frag) (n : Nat) (run : Run) : Sp := fun vs H Q _ => ∃ (args : List Slot) (Hs : Hp) (r : Slot) (args' : List Slot), args.length = n ∧ args.all argOk = true ∧ run args = some (r, args') ∧ InvS K Hs H (vs.map some) args ∧
  ∀ v Hs' H', Go (vs.map some) args Hs H (vs.map some) args' Hs' H' → InvS K Hs' H' (vs.map some) args' → RepR K H Hs' H' r v → Q v H'
def spF (K : PySem.W.Frag) (n : Nat) (run : Run) : Sp := fun vs H Q E => ∃ oo : Old, spFo oo K n run vs H Q E
/-- a call with plain data alone -/
def callF (n : Nat) (run : Run) (fs : MEnv → Option (List PyData × MEnv)) : MEnv → Option (Slot × MEnv) := fun env => match fs env with
  | some (ds, e1) => if ds.length = n then match run (ds.map .val) with
      | some (r, _) => some (r, e1)
      | none => none
    else none
  | none => none
theorem map_val_some {ds : List PyData} {i : Nat} {s : Slot} (h : (ds.map Slot.val)[i]? = some s) : ∃ d, ds[i]? = some d ∧ s = .val d := by
  rw [List.getElem?_map] at h
  cases hd : ds[i]? with
  | none => rw [hd] at h; cases h
  | some d =>
    rw [hd] at h
    cases h
    exact ⟨d, rfl, rfl⟩
theorem rd_call {n : Nat} {run : Run} {es : List Expr} {fs : MEnv → Option (List PyData × MEnv)} (ha : SA X es fs) {r : Slot} (hf : callF n run fs env = some (r, env')) (I : InvS X.K Hs H σ env) (Q : VK)
    (q : ∀ v Hs' H', GoE σ env Hs H env' Hs' H' → InvS X.K Hs' H' σ env' → RepR X.K H Hs' H' r v → Q v H') (E : XK) : tCall (spF X.K n run) [] E (WA X es) σ H Q := by
  unfold callF at hf
  split at hf
  · rename_i ds e1 h1
    split at hf
    · rename_i hl
      split at hf
      · rename_i r0 args' hr
        cases hf
        refine ha env σ Hs H ds env' h1 I _ fun vs Hs1 H1 g1 I1 r1 => ?_
        rw [List.append_nil]
        have nomut : ∀ a, ¬ MutAt (vs.map some) (ds.map .val) a := fun a ⟨i, s, xs, e1, e2, _⟩ => by
          obtain ⟨d, _, rfl⟩ := map_val_some e1
          cases e2
        have noloc : ∀ a, ¬ LocAt (vs.map some) (ds.map .val) a := fun a m => nomut a m.mut
        refine ⟨inferInstance, ds.map .val, Hs1, r, args', by rw [List.length_map]; exact hl, by simp [argOk], hr, ⟨by rw [List.length_map, List.length_map, RepL.length r1], I1.sh, fun i d h => ?_, fun i s xs h hm => ?_, fun i j s t xs ys p h1 m1 _ _ _ _ => ?_, ⟨I1.old.1, fun a m => absurd m (nomut a)⟩⟩, fun v Hs' H' g I' rr => ?_⟩
        · obtain ⟨d', hd, e⟩ := map_val_some h
          cases e
          obtain ⟨w, k1, k2⟩ := RepL.get r1 hd
          exact ⟨w, by rw [List.getElem?_map, k1]; rfl, k2⟩
        · obtain ⟨d', _, rfl⟩ := map_val_some h
          cases hm
        · obtain ⟨d', _, rfl⟩ := map_val_some h1
          cases m1
        · have back : ∀ p o, H1 p = some o → Hs1 p = none → Hs' p = none := fun p o hp hn => by
            cases z : Hs' p with
            | none => rfl
            | some u =>
              rcases g.nw p u z with z1 | z1 | z1
              · rw [hn] at z1; cases z1
              · rw [hp] at z1; cases z1
              · exact absurd z1 (noloc p)
          have ge : GoE σ env' Hs1 H1 env' Hs' H' := ⟨g.sh, fun a o h _ => g.kp a o h (nomut a), g.dm, fun a o h => (g.nw a o h).elim .inl fun z => z.elim (fun z => .inr (.inl z)) fun z => absurd z (noloc a), fun _ h => h, fun _ h => h, fun _ xs h => ⟨xs, h⟩⟩
          refine q v Hs' H' (g1.trans ge) ⟨I1.len, I'.sh, fun i d h => ?_, fun i s xs h hm => ?_, I1.diff, ⟨I'.old.1, I1.old.2⟩⟩ (RepR.mono (fun p hp => g1.none_back hp) rr)
          · obtain ⟨w, k1, k2⟩ := I1.vals i d h
            exact ⟨w, k1, Rep.mono g.sh d w k2⟩
          · obtain ⟨p, us, k1, k2, k3, k4⟩ := I1.muts i s xs h hm
            exact ⟨p, us, k1, back p _ k3 k2, g.kp p _ k3 (nomut p), RepL.mono g.sh xs us k4⟩
      · cases hf
    · cases hf
  · cases hf

/-! ### a def keeps the promise -/
def ioB : Slot → Slot → Slot
  | .io _, e => e
  | a, _ => a
def runB (N n : Nat) (fB : MEnv → Option Out) : Run := fun args => match fB (args ++ List.replicate (N - n) .un) with
  | some (.rt r e) => if args.length ≤ e.length then some (r, List.zipWith ioB args e) else none
  | some (.nx e) => if args.length ≤ e.length then some (.val .none, List.zipWith ioB args e) else none
  | _ => none
theorem start_eq {N : List Str} {vs : List V} : start N vs = vs.map some ++ List.replicate (N.length - vs.length) none := rfl
theorem app_un {args : List Slot} {m i : Nat} {s : Slot} (h : (args ++ List.replicate m Slot.un)[i]? = some s) (hs : s ≠ .un) : args[i]? = some s ∧ i < args.length := by
  by_cases hi : i < args.length
  · rw [List.getElem?_append_left hi] at h
    exact ⟨h, hi⟩
  · rw [List.getElem?_append_right (by omega), List.getElem?_replicate] at h
    split at h
    · cases h; exact absurd rfl hs
    · cases h
theorem app_left {vs : List V} {m i : Nat} (h : i < vs.length) : (vs.map some ++ List.replicate m (none : Option V))[i]? = (vs.map some)[i]? := List.getElem?_append_left (by rw [List.length_map]; exact h)
omit [Old] in
theorem fn_bodyO (oo : Old) {N : List Str} {n : Nat} {fB : MEnv → Option Out} {sts : List Stmt} {vs : List V} {Q : VK} {E : XK} (hX : X.N = N) (hb : @SB oo X sts fB) (hn : n ≤ N.length) (h : spFo oo X.K n (runB N.length n fB) vs H Q E) :
    WSs X sts { nx := fun _ H' => Q .non H', rt := Q } (start N vs) H := by
  obtain ⟨args, Hs, r, args', hl, hok, hr, I, post⟩ := h
  have lv : vs.length = args.length := by have := I.len; rwa [List.length_map] at this
  rw [start_eq, lv, hl]
  have slotOf : ∀ {i : Nat} {s : Slot}, args[i]? = some s → (∃ d, s = .val d) ∨ ∃ xs, s = .io xs := fun {i s} e => by
    have k := (List.all_eq_true.mp hok) s (List.mem_of_getElem? e)
    cases s with
    | val d => exact .inl ⟨d, rfl⟩
    | io xs => exact .inr ⟨xs, rfl⟩
    | un => cases k
    | own xs => cases k
  have same : ∀ i, i < args.length → (vs.map some ++ List.replicate (N.length - n) (none : Option V))[i]? = (vs.map some)[i]? := fun i hi => app_left (by rw [lv]; exact hi)
  have mm : ∀ a, MutAt (vs.map some ++ List.replicate (N.length - n) none) (args ++ List.replicate (N.length - n) .un) a ↔ MutAt (vs.map some) args a := fun a => by
    constructor
    · rintro ⟨i, s, xs, e1, e2, e3⟩
      obtain ⟨k1, k2⟩ := app_un e1 (mut_ne e2)
      exact ⟨i, s, xs, k1, e2, by rw [← same i k2]; exact e3⟩
    · rintro ⟨i, s, xs, e1, e2, e3⟩
      have k2 := (List.getElem?_eq_some_iff.mp e1).1
      exact ⟨i, s, xs, by rw [List.getElem?_append_left k2]; exact e1, e2, by rw [same i k2]; exact e3⟩
  have noloc0 : ∀ a, ¬ LocAt (vs.map some) args a := fun a ⟨i, xs, e1, _⟩ => by
    rcases slotOf e1 with ⟨d, z⟩ | ⟨ys, z⟩ <;> cases z
  have noloc : ∀ a, ¬ LocAt (vs.map some ++ List.replicate (N.length - n) none) (args ++ List.replicate (N.length - n) .un) a := fun a ⟨i, xs, e1, e3⟩ => by
    obtain ⟨k1, k2⟩ := app_un e1 (fun z => by cases z)
    exact noloc0 a ⟨i, xs, k1, by rw [← same i k2]; exact e3⟩
  have I0 : InvS X.K Hs H (vs.map some ++ List.replicate (N.length - n) none) (args ++ List.replicate (N.length - n) .un) := by
    refine ⟨by rw [List.length_append, List.length_append, List.length_map, List.length_replicate, List.length_replicate, lv], I.sh, fun i d e => ?_, fun i s xs e em => ?_, fun i j s t xs ys p e1 m1 e2 m2 g1 g2 => ?_, ⟨I.old.1, fun a m => I.old.2 a ((mm a).mp m)⟩⟩
    · obtain ⟨k1, k2⟩ := app_un e (fun z => by cases z)
      rw [same i k2]
      exact I.vals i d k1
    · obtain ⟨k1, k2⟩ := app_un e (mut_ne em)
      rw [same i k2]
      exact I.muts i s xs k1 em
    · obtain ⟨k1, k2⟩ := app_un e1 (mut_ne m1)
      obtain ⟨k3, k4⟩ := app_un e2 (mut_ne m2)
      rw [same i k2] at g1
      rw [same j k4] at g2
      exact I.diff i j s t xs ys p k1 m1 k3 m2 g1 g2
  -- what holds where the def ends
  have fin : ∀ (e : MEnv) (σ' : L2.St) (Hs' H' : Hp), args.length ≤ e.length → Go (vs.map some ++ List.replicate (N.length - n) none) (args ++ List.replicate (N.length - n) .un) Hs H σ' e Hs' H' → InvS X.K Hs' H' σ' e →
      Go (vs.map some) args Hs H (vs.map some) (List.zipWith ioB args e) Hs' H' ∧ InvS X.K Hs' H' (vs.map some) (List.zipWith ioB args e) := fun e σ' Hs' H' l2 g I' => by
    have ioOf : ∀ {i : Nat} {xs : List PyData}, args[i]? = some (.io xs) → ∃ ys, e[i]? = some (.io ys) ∧ σ'[i]? = (vs.map some)[i]? := fun {i xs} h => by
      have k2 := (List.getElem?_eq_some_iff.mp h).1
      obtain ⟨j1, ys, j2⟩ := g.io i xs (by rw [List.getElem?_append_left k2]; exact h)
      exact ⟨ys, j2, by rw [j1, same i k2]⟩
    have back : ∀ {i : Nat} {s : Slot}, (List.zipWith ioB args e)[i]? = some s → (∃ d, s = .val d ∧ args[i]? = some (.val d)) ∨ ∃ xs ys, s = .io ys ∧ args[i]? = some (.io xs) ∧ e[i]? = some (.io ys) ∧ σ'[i]? = (vs.map some)[i]? := fun {i s} h => by
      rw [List.getElem?_zipWith] at h
      split at h
      · rename_i a0 b0 ha hb0
        cases h
        rcases slotOf ha with ⟨d, rfl⟩ | ⟨xs, rfl⟩
        · exact .inl ⟨d, rfl, ha⟩
        · obtain ⟨ys, j1, j2⟩ := ioOf ha
          rw [hb0] at j1
          cases j1
          exact .inr ⟨xs, ys, rfl, ha, hb0, j2⟩
      · cases h
    have mback : ∀ a, MutAt (vs.map some) (List.zipWith ioB args e) a → MutAt (vs.map some) args a := fun a ⟨i, s, xs, e1, e2, e3⟩ => by
      rcases back e1 with ⟨d, rfl, _⟩ | ⟨zs, ys, rfl, h1, _⟩
      · cases e2
      · exact ⟨i, _, zs, h1, rfl, e3⟩
    refine ⟨⟨g.sh, fun a o h nm => g.kp a o h fun m => nm ((mm a).mp m), g.dm, fun a o h => ?_, fun a m => .inl (mback a m), fun a ⟨i, xs, e1, e3⟩ => ?_, fun i xs h => ⟨rfl, ?_⟩⟩, ⟨?_, I'.sh, fun i d h => ?_, fun i s xs h hm => ?_, fun i j s t xs ys p h1 m1 h2 m2 g1 g2 => ?_, ⟨I'.old.1, fun a m => I.old.2 a (mback a m)⟩⟩⟩
    · rcases g.nw a o h with z | z | z
      · exact .inl z
      · exact .inr (.inl z)
      · exact absurd z (noloc a)
    · rcases back e1 with ⟨d, z, _⟩ | ⟨zs, ys, z, _⟩ <;> cases z
    · obtain ⟨ys, j1, _⟩ := ioOf h
      exact ⟨ys, by rw [List.getElem?_zipWith, h, j1]; rfl⟩
    · have l1 := I'.len
      rw [List.length_map, List.length_zipWith, lv]
      omega
    · rcases back h with ⟨d', z, h1⟩ | ⟨zs, ys, z, _⟩
      · cases z
        obtain ⟨v, k1, k2⟩ := I.vals i d h1
        exact ⟨v, k1, Rep.mono g.sh d v k2⟩
      · cases z
    · rcases back h with ⟨d', rfl, h1⟩ | ⟨zs, ys, rfl, h1, h2, h3⟩
      · cases hm
      · cases hm
        obtain ⟨p, us, k1, k2⟩ := I'.muts i _ _ h2 rfl
        exact ⟨p, us, by rw [← h3]; exact k1, k2⟩
    · rcases back h1 with ⟨d', rfl, _⟩ | ⟨zs, us, rfl, k1, _⟩
      · cases m1
      · rcases back h2 with ⟨d', rfl, _⟩ | ⟨ws, ts, rfl, k2, _⟩
        · cases m2
        · exact I.diff i j _ _ zs ws p k1 rfl k2 rfl g1 g2
  unfold runB at hr
  split at hr
  · rename_i r0 e0 h0
    split at hr
    · rename_i l2
      cases hr
      refine hb _ _ Hs H _ h0 I0 _ fun v σ' Hs' H' g I' rr => ?_
      obtain ⟨g2, I2⟩ := fin e0 σ' Hs' H' l2 g I'
      refine post v Hs' H' g2 I2 ?_
      cases r with
      | val d => exact rr
      | own xs =>
        obtain ⟨p, us, e1, h1, h2⟩ := rr
        exact ⟨p, us, e1, h1.elim id fun z => absurd z (noloc p), h2⟩
      | un => exact rr
      | io xs => exact rr
    · cases hr
  · rename_i e0 h0
    split at hr
    · rename_i l2
      cases hr
      refine hb _ _ Hs H _ h0 I0 _ fun σ' Hs' H' g I' => ?_
      obtain ⟨g2, I2⟩ := fin e0 σ' Hs' H' l2 g I'
      exact post .non Hs' H' g2 I2 rfl
    · cases hr
  · cases hr
omit [Old] in
theorem fn_body {N : List Str} {n : Nat} {fB : MEnv → Option Out} {sts : List Stmt} {vs : List V} {Q : VK} {E : XK} (hX : X.N = N) (hb : ∀ _ : Old, SB X sts fB) (hn : n ≤ N.length) (h : spF X.K n (runB N.length n fB) vs H Q E) :
    WSs X sts { nx := fun _ H' => Q .non H', rt := Q } (start N vs) H := by
  obtain ⟨oo, h⟩ := h
  exact fn_bodyO oo hX (hb oo) hn h
end Ip

set_option Elab.async false
set_option linter.all false
set_option maxRecDepth 100000
set_option maxHeartbeats 4000000
namespace Ip
open PySem L2
open Evl (Ex sz_of fresh_back)
variable [Old]
variable {X : Cx} {a b e : Expr} {pos : Pos} {K : PySem.W.Frag} {Hs Hs' H H' : Hp} {σ : L2.St} {env env' : MEnv}

/-! ### comprehensions, put together -/
def WTs (X : Cx) (ifs : List Expr) : TT := fun σ H Q => ∀ pins s, Inv X pins σ H s →
  wpAny (model X.prog X.w) X.A (forIn ifs true fun c r => if r = true then do let ok ← PySem.isTrue c X.env (eval c X.env); pure (ForInStep.yield ok) else pure (ForInStep.yield r)) (TP X pins σ Q) X.xe s
structure STs (X : Cx) (ifs : List Expr) (f : MEnv → Option (Bool × MEnv)) : Prop where
  run : ∀ (env : MEnv) (σ : L2.St) (Hs H : Hp) (b : Bool) (env' : MEnv), f env = some (b, env') → InvS X.K Hs H σ env → ∀ Q : Bool → Hp → Prop, (∀ Hs' H', GoE σ env Hs H env' Hs' H' → InvS X.K Hs' H' σ env' → Q b H') → WTs X ifs σ H Q
instance {X : Cx} {ifs : List Expr} {f : MEnv → Option (Bool × MEnv)} : CoeFun (STs X ifs f) (fun _ => ∀ (env : MEnv) (σ : L2.St) (Hs H : Hp) (b : Bool) (env' : MEnv), f env = some (b, env') → InvS X.K Hs H σ env → ∀ Q : Bool → Hp → Prop, (∀ Hs' H', GoE σ env Hs H env' Hs' H' → InvS X.K Hs' H' σ env' → Q b H') → WTs X ifs σ H Q) := ⟨STs.run⟩
def yesT (env : MEnv) : Option (Bool × MEnv) := some (true, env)
theorem sts_nil : STs X [] yesT := .mk fun env σ Hs H b env' hf I Q q => by
  cases hf
  exact fun pins s I0 => pts_nil.run pins s σ H Q I0 (q Hs H GoE.refl I)
theorem sts_one {c : Expr} {f : MEnv → Option (Bool × MEnv)} (h : ST X c f) : STs X [c] f := .mk fun env σ Hs H b env' hf I Q q => fun pins s I0 => (pts_one (WT.pt X c)).run pins s σ H Q I0 (h env σ Hs H b env' hf I Q q)
abbrev Bk (X : Cx) (scope : Scope) (s : Shared) (H : Hp) (C : Addr) (cl : List (Str × Addr)) (fp : List Addr) : Cx := X.blk s H scope (compEnvC scope cl C X.env) fp
def compOk {scope : Scope} {tg elt : Expr} {ifs : List Expr} {ix : List Nat} {fg : PyData → MEnv → Option MEnv} {ft : MEnv → Option (Bool × MEnv)} {fe : MEnv → Option (PyData × MEnv)}
    (hg : ∀ s H C cl fp, SG (Bk X scope s H C cl fp) tg ix fg) (ht : ∀ s H C cl fp, STs (Bk X scope s H C cl fp) ifs ft) (he : ∀ s H C cl fp, SV (Bk X scope s H C cl fp) elt fe) : CompOk X scope tg elt ifs ix fg ft fe where
  gk := fun v σ H Q => ∀ s H0 C cl fp, WG (Bk X scope s H0 C cl fp) tg v σ H Q
  tk := fun σ H Q => ∀ s H0 C cl fp, WTs (Bk X scope s H0 C cl fp) ifs σ H Q
  ek := fun σ H Q => ∀ s H0 C cl fp, W (Bk X scope s H0 C cl fp) elt σ H Q
  pg := fun s H0 C cl fp => ⟨fun pins s1 σ H v u Q I r h => h s H0 C cl fp pins s1 u I r⟩
  pt := fun s H0 C cl fp => ⟨fun pins s1 σ H Q I h => h s H0 C cl fp pins s1 I⟩
  pe := fun s H0 C cl fp => ⟨fun pins s1 σ H Q I h => h s H0 C cl fp pins s1 I⟩
  sg := fun env σ Hs H d v env' hf I r Q q s H0 C cl fp => hg s H0 C cl fp env σ Hs H d v env' hf I r Q q
  st := fun env σ Hs H b env' hf I Q q s H0 C cl fp => ht s H0 C cl fp env σ Hs H b env' hf I Q q
  se := fun env σ Hs H d env' hf I Q q s H0 C cl fp => he s H0 C cl fp env σ Hs H d env' hf I Q q
theorem se_comp {scope : Scope} {tg iter elt : Expr} {ifs : List Expr} {own : List (Str × Nat)} {fi : MEnv → Option (List PyData × MEnv)} {fg : PyData → MEnv → Option MEnv} {ft : MEnv → Option (Bool × MEnv)} {fe : MEnv → Option (PyData × MEnv)}
    (hc : X.calm = true) (hN : X.N.Nodup) (ok : BlkOk X.N X.env.scope scope own) (hi : SI X tg iter fi) (hg : ∀ s H C cl fp, SG (Bk X scope s H C cl fp) tg (own.map (·.2)) fg) (ht : ∀ s H C cl fp, STs (Bk X scope s H C cl fp) ifs ft) (he : ∀ s H C cl fp, SV (Bk X scope s H C cl fp) elt fe)
    (hs : ∀ x, foldedSetIterable iter X.env x = pure x) : SE X (.ListComp elt [⟨tg, iter, ifs, 0⟩] scope pos) (compF fi fg ft fe (own.map (·.2))) := by
  refine ⟨?_⟩
  intro env σ Hs H r env' hf I Q q
  have C := compOk (X := X) hg ht he
  exact W.of (pe_lc hc hN (WI.pi X tg iter) ok C.pg C.pt C.pe hs) (rd_comp hi C hf I Q q)
/-- name = [..], on one line -/
theorem ss_asgC {scope : Scope} {tg iter elt : Expr} {ifs : List Expr} {own : List (Str × Nat)} {fi : MEnv → Option (List PyData × MEnv)} {fg : PyData → MEnv → Option MEnv} {ft : MEnv → Option (Bool × MEnv)} {fe : MEnv → Option (PyData × MEnv)} {i : Nat} {y : Str} {py spos : Pos}
    (hc : X.calm = true) (hN : X.N.Nodup) (hy : X.N[i]? = some y) (hyl : X.env.scope.names.lookup y = some .local) (hsw : swapsWith (.ListComp elt [⟨tg, iter, ifs, 0⟩] scope pos) (some (.Name y py)) spos.line X.env = pure true)
    (ok : BlkOk X.N X.env.scope scope own) (hi : SI X tg iter fi) (hg : ∀ s H C cl fp, SG (Bk X scope s H C cl fp) tg (own.map (·.2)) fg) (ht : ∀ s H C cl fp, STs (Bk X scope s H C cl fp) ifs ft) (he : ∀ s H C cl fp, SV (Bk X scope s H C cl fp) elt fe)
    (hs : ∀ x, foldedSetIterable iter X.env x = pure x) : SS X (.Assign [.Name y py] (.ListComp elt [⟨tg, iter, ifs, 0⟩] scope pos) spos) (asgB i (compF fi fg ft fe (own.map (·.2)))) := by
  refine ⟨?_⟩
  intro env σ Hs H o hf I D q
  have C := compOk (X := X) hg ht he
  refine WS.of (ps_setLc hc hN hy hyl hsw (WI.pi X tg iter) ok C.pg C.pt C.pe hs) ?_
  exact rd_asg (fun r e1 h1 Q k => rd_comp hi C h1 I Q k) hf I q

/-! ### own defs -/
/-- f, a def of the text, keeps the promise at some level that there is room for -/
structure Own (P : Program) (w : World) (K : PySem.W.Frag) (mg : Str → Option Value) (base : Heap) (k : Nat) (x : Str) (n : Nat) (run : Run) where
  f : Addr
  fd : FuncData
  ps : List Str
  ok : FnOk P w K mg base CX0 k f fd ps (spF K n run)
  at_ : mg x = some (.ref f)
  kp : PySem.W.keepIn K (.ref f) = true
  bi : Binds K fd ps []
theorem se_call {k n : Nat} {run : Run} {x : Str} {p : Pos} {es : List Expr} {fs : MEnv → Option (List PyData × MEnv)} (o : Own X.prog X.w X.K X.mg X.base k x n run) (hr : Room k X.A) (hg : Gl X x) (ha : SA X (e :: es) fs) (hp : (e :: es).all plainE = true) (hd : (x == ("__debug__" : Str)) = false) :
    SE X (.Call (.Name x p) (e :: es) [] pos) (callF n run fs) := by
  refine ⟨?_⟩
  intro env σ Hs H r env' hf I Q q
  rw [List.all_cons, Bool.and_eq_true] at hp
  exact W.of (pe_call o.ok hr hg o.at_ o.kp o.bi .nil (pass0 (X := X)) (WA.pa X (e :: es)) hd (star_plain hp.1) (star_any hp.2)) (rd_call ha hf I Q q E0)
end Ip

set_option Elab.async false
set_option linter.all false
set_option maxRecDepth 100000
set_option maxHeartbeats 4000000
namespace Ip
open PySem L2
open Evl (Ex sz_of fresh_back)
variable [Old]
variable {K : PySem.W.Frag} {H : Hp}
omit [Old] in
theorem spF_len {n : Nat} {run : Ip.Run} {vs : List V} {Q : VK} {E : XK} (h : spF K n run vs H Q E) : vs.length = n := by
  obtain ⟨_, args, Hs, r, args', hl, _, _, I, _⟩ := h
  have := I.len
  rw [List.length_map] at this
  rw [this, hl]
section
variable {X : Cx}
theorem op_addA : OpR X (binaryOp .Add) (fun x y H Q => ((rI0 fun i j => .int (i + j)) x y H Q ∨ (∃ i j, x = .str i ∧ y = .str j ∧ i.length + j.length ≤ sizeLine ∧ Q (.str (i ++ j)) H)) ∨ (rCatX X.K x y H Q ∨ rCatT X.K x y H Q)) :=
  Ip.OpR.or (Ip.OpR.or op_add op_add_str) (Ip.OpR.or op_catX op_catT)
theorem op_isA : OpR X (compareOp .Is) rIsX := Ip.OpR.or op_isN op_is_bl
theorem op_isnA : OpR X (compareOp .IsNot) rIsnX := Ip.OpR.or op_notN op_isnot_bl
theorem call_lenA : CallR X (.builtin "len") (fun xs H Q => (∃ p ys, xs = [.ref p] ∧ (SqL X.K H p ys ∨ SqT X.K H p ys) ∧ Q (.int ys.length) H) ∨ (∃ z, xs = [.str z] ∧ z.length ≤ sizeLine ∧ Q (.int z.length) H)) := CallR.or call_len_seq call_len_str
end
section
variable {X : Cx} {a b : Expr} {pos : Pos}
theorem se_bin {op : Operator} {fa fb : MEnv → Option (Lr × MEnv)} {g : PyData → PyData → Option Slot} {r : R2} (ha : SL X a fa) (hb : SL X b fb) (ho : OpR X (binaryOp op) r) (hr : R2ok X.K r g) : SE X (.BinOp a op b pos) (op2 fa fb g) :=
  se_op2 ha hb hr (pe_op ho (W.pe X a) (W.pe X b))
theorem se_neg {fa : MEnv → Option (Lr × MEnv)} (ha : SL X a fa) : SE X (.UnaryOp .USub a pos) (op1 fa negD) := se_op1 ha ok_neg (pe_un un_neg (W.pe X a))
end
theorem bt_len : bootBuiltins "len" = some (.builtin "len") := PySem.boot_len
theorem bt_abs : bootBuiltins "abs" = some (.builtin "abs") := by decide +kernel
theorem bt_all : bootBuiltins "all" = some (.builtin "all") := by decide +kernel
theorem bt_any : bootBuiltins "any" = some (.builtin "any") := by decide +kernel
theorem bt_sum : bootBuiltins "sum" = some (.builtin "sum") := by decide +kernel
theorem bt_max : bootBuiltins "max" = some (.builtin "max") := by decide +kernel
theorem bt_min : bootBuiltins "min" = some (.builtin "min") := by decide +kernel
theorem bt_int : bootBuiltins "int" = some (.type "int") := by decide +kernel
theorem bt_bool : bootBuiltins "bool" = some (.type "bool") := by decide +kernel
theorem bt_str : bootBuiltins "str" = some (.type "str") := by decide +kernel
theorem bt_list : bootBuiltins "list" = some (.type "list") := by decide +kernel
theorem bt_tuple : bootBuiltins "tuple" = some (.type "tuple") := by decide +kernel
/-! ### the facts of a context, by computation on closed terms -/
structure CtxF (X : Cx) (N : List Str) (sc : Scope) (fl : Bool) : Prop where
  hN : X.N = N
  hsc : X.env.scope = sc
  nd : N.Nodup
  calm : X.calm = true
  fn : fl = true → ∀ x, X.fn x = true
  own : PassesOwn (model X.prog X.w) X.A X.env X.xe
def visB (sc : Scope) (x : Str) : Bool := match sc.names.lookup x with
  | some .local => true
  | some .cell => true
  | some .free => true
  | _ => false
def gloB (sc : Scope) (x : Str) : Bool := match sc.names.lookup x with
  | some .globalImplicit => true
  | _ => false
/-- may be stored: a local, or a cell of the def's own -/
def locB (sc : Scope) (fl : Bool) (x : Str) : Bool := match sc.names.lookup x with
  | some .local => true
  | some .cell => fl
  | _ => false
section
variable {X : Cx} {N : List Str} {sc : Scope} {fl : Bool} {x : Str} {pos : Pos}
theorem pvc (c : CtxF X N sc fl) (i : Nat) (h : (decide (N[i]? = some x) && visB sc x && !(x == ("__debug__" : Str)) && !(x == ("__classdict__" : Str))) = true) : PE X (.Name x pos) (tVar i) := by
  simp only [Bool.and_eq_true, Bool.not_eq_true', decide_eq_true_eq] at h
  obtain ⟨⟨⟨h1, h2⟩, h3⟩, h4⟩ := h
  refine pe_var (by rw [c.hN]; exact h1) ?_ h3 h4
  unfold Vis
  rw [c.hsc]
  unfold visB at h2
  split at h2
  · exact .inl (by assumption)
  · exact .inr (.inl (by assumption))
  · exact .inr (.inr (by assumption))
  · cases h2
theorem glc (c : CtxF X N sc fl) (h : gloB sc x = true) : Gl X x := by
  unfold gloB at h
  split at h
  · show X.env.scope.names.lookup x = some .globalImplicit
    rw [c.hsc]
    assumption
  · cases h
theorem loc_of (c : CtxF X N sc fl) (h : locB sc fl x = true) : L2.Loc X.env.scope x ∧ (X.fn x = true ∨ X.env.scope.names.lookup x = some .local) := by
  unfold L2.Loc
  rw [c.hsc]
  unfold locB at h
  split at h
  · exact ⟨.inl (by assumption), .inr (by assumption)⟩
  · exact ⟨.inr (by assumption), .inl (c.fn h x)⟩
  · cases h
theorem tgc (c : CtxF X N sc fl) (i : Nat) (h : (decide (N[i]? = some x) && locB sc fl x) = true) : PG X (.Name x pos) (gName i) := by
  simp only [Bool.and_eq_true, decide_eq_true_eq] at h
  obtain ⟨h1, h2⟩ := h
  obtain ⟨k1, k2⟩ := loc_of c h2
  exact pg_name (by rw [c.hN]; exact c.nd) (by rw [c.hN]; exact h1) k1 k2
theorem psc (c : CtxF X N sc fl) (i : Nat) {e : Expr} {p2 : Pos} (h : (decide (N[i]? = some x) && locB sc fl x) = true) (hs : swapsWith e (some (.Name x p2)) pos.line X.env = pure false) : PS X (.Assign [.Name x p2] e pos) (tAsg (W X e) (gName i)) := by
  simp only [Bool.and_eq_true, decide_eq_true_eq] at h
  obtain ⟨h1, h2⟩ := h
  obtain ⟨k1, k2⟩ := loc_of c h2
  exact ps_set (by rw [c.hN]; exact c.nd) (by rw [c.hN]; exact h1) k1 (W.pe X e) hs k2
theorem pauc (c : CtxF X N sc fl) (i : Nat) {e : Expr} {p2 : Pos} {op : Operator} {g : Int → Int → Int} (h : (decide (N[i]? = some x) && locB sc fl x) = true) (ho : PIp X op (ipI g)) : PS X (.AugAssign (.Name x p2) op e pos) (tAug i (W X e) (ipI g)) := by
  simp only [Bool.and_eq_true, decide_eq_true_eq] at h
  obtain ⟨h1, h2⟩ := h
  obtain ⟨k1, k2⟩ := loc_of c h2
  exact ps_aug (by rw [c.hN]; exact c.nd) (by rw [c.hN]; exact h1) k1 (W.pe X e) ho k2
theorem CtxF.blk (c : CtxF X N sc fl) (scope : Scope) (s : Shared) (H : Hp) (C : Addr) (cl : List (Str × Addr)) (fp : List Addr) : CtxF (Bk X scope s H C cl fp) N (relS scope sc) false where
  hN := c.hN
  hsc := by
    show PySem.relabel scope X.env = relS scope sc
    rw [← c.hsc]
    rfl
  nd := c.nd
  calm := c.calm
  fn := fun h => by cases h
  own := PassesOwn.never
theorem bkc (c : CtxF X N sc fl) {scope : Scope} {own : List (Str × Nat)} (h : blkC N sc scope own = true) : BlkOk X.N X.env.scope scope own := by
  rw [c.hN, c.hsc]
  exact blkOk_by h
end
section
variable {X : Cx} {N : List Str} {sc : Scope} {fl : Bool} {scope : Scope} {tg iter elt : Expr} {ifs : List Expr} {fi : MEnv → Option (List PyData × MEnv)} {fg : PyData → MEnv → Option MEnv} {ft : MEnv → Option (Bool × MEnv)} {fe : MEnv → Option (PyData × MEnv)} {pos spos py : Pos} {y : Str}
theorem se_compC (own : List (Str × Nat)) (c : CtxF X N sc fl) (hb : blkC N sc scope own = true) (hi : SI X tg iter fi) (hg : ∀ s H C cl fp, CtxF (Bk X scope s H C cl fp) N (relS scope sc) false → SG (Bk X scope s H C cl fp) tg (own.map (·.2)) fg)
    (ht : ∀ s H C cl fp, CtxF (Bk X scope s H C cl fp) N (relS scope sc) false → STs (Bk X scope s H C cl fp) ifs ft) (he : ∀ s H C cl fp, CtxF (Bk X scope s H C cl fp) N (relS scope sc) false → SV (Bk X scope s H C cl fp) elt fe)
    (hs : ∀ x, foldedSetIterable iter X.env x = pure x) : SE X (.ListComp elt [⟨tg, iter, ifs, 0⟩] scope pos) (compF fi fg ft fe (own.map (·.2))) :=
  se_comp c.calm (by rw [c.hN]; exact c.nd) (bkc c hb) hi (fun s H C cl fp => hg s H C cl fp (c.blk scope s H C cl fp)) (fun s H C cl fp => ht s H C cl fp (c.blk scope s H C cl fp)) (fun s H C cl fp => he s H C cl fp (c.blk scope s H C cl fp)) hs
/-- what the store of a comprehension asks, by computation -/
def swC (N : List Str) (sc scope : Scope) (i : Nat) (y : Str) (py pos : Pos) : Bool := decide (N[i]? = some y) && decide (sc.names.lookup y = some .local) && (match sc.kind with | .function => true | _ => false) && (py.line == pos.line) && !(scope.names.any fun (n, k) => n == y && (k == .local || k == .cell))
theorem ss_asgCC (own : List (Str × Nat)) (i : Nat) (c : CtxF X N sc fl) (hw : swC N sc scope i y py pos = true) (hb : blkC N sc scope own = true) (hi : SI X tg iter fi) (hg : ∀ s H C cl fp, CtxF (Bk X scope s H C cl fp) N (relS scope sc) false → SG (Bk X scope s H C cl fp) tg (own.map (·.2)) fg)
    (ht : ∀ s H C cl fp, CtxF (Bk X scope s H C cl fp) N (relS scope sc) false → STs (Bk X scope s H C cl fp) ifs ft) (he : ∀ s H C cl fp, CtxF (Bk X scope s H C cl fp) N (relS scope sc) false → SV (Bk X scope s H C cl fp) elt fe)
    (hs : ∀ x, foldedSetIterable iter X.env x = pure x) : SS X (.Assign [.Name y py] (.ListComp elt [⟨tg, iter, ifs, 0⟩] scope pos) spos) (asgB i (compF fi fg ft fe (own.map (·.2)))) := by
  unfold swC at hw
  simp only [Bool.and_eq_true, decide_eq_true_eq, Bool.not_eq_true'] at hw
  obtain ⟨⟨⟨⟨h1, h2⟩, h3⟩, h4⟩, h5⟩ := hw
  have h3' : X.env.scope.kind = .function := by
    rw [c.hsc]
    split at h3
    · assumption
    · cases h3
  have h2' : X.env.scope.names.lookup y = some .local := by rw [c.hsc]; exact h2
  exact ss_asgC c.calm (by rw [c.hN]; exact c.nd) (by rw [c.hN]; exact h1) h2' (sw_true h3' h2' h4 h5) (bkc c hb) hi (fun s H C cl fp => hg s H C cl fp (c.blk scope s H C cl fp)) (fun s H C cl fp => ht s H C cl fp (c.blk scope s H C cl fp))
    (fun s H C cl fp => he s H C cl fp (c.blk scope s H C cl fp)) hs
end
omit [Old] in
/-- the end: what the machine says of law(script) is what is claimed -/
theorem law_endO {n : Nat} (run : Ip.Run) (main : ∀ ns : List Int, ns.length ≤ n → ∃ args', run [.val (.list (ns.map .int))] = some (.val (.bool true), args')) {a : Addr} {ns : List Int} {E : XK} (hS : SqL K H a (ns.map V.int)) (hl : ns.length ≤ n) :
    spFo noOld K 1 run [.ref a] H (fun v _ => v = .bl true) E := by
  obtain ⟨args', hm⟩ := main ns hl
  refine ⟨[.val (.list (ns.map .int))], H, .val (.bool true), args', rfl, rfl, hm, ⟨rfl, Ex.refl H, fun i d h => ?_, fun i s xs h hm => ?_, fun i j s t xs ys p h1 m1 _ _ _ _ => ?_, ⟨fun a o h => (by cases h), fun a m => rfl⟩⟩, fun v Hs' H' _ _ r => r⟩
  · cases i with
    | zero =>
      cases h
      exact ⟨.ref a, rfl, a, _, rfl, ⟨hS, fun z => (by cases z)⟩, RepL.ints ns⟩
    | succ i => cases i <;> cases h
  · cases i with
    | zero => cases h; cases hm
    | succ i => cases i <;> cases h
  · cases i with
    | zero => cases h1; cases m1
    | succ i => cases i <;> cases h1
omit [Old] in
theorem law_endN {n : Nat} (run : Ip.Run) (main : ∀ ns : List Int, ns.length ≤ n → ∃ args', run [.val (.list (ns.map .int))] = some (.val (.bool true), args')) {a : Addr} {ns : List Int} {E : XK} (hS : SqL K H a (ns.map V.int)) (hl : ns.length ≤ n) :
    spF K 1 run [.ref a] H (fun v _ => v = .bl true) E := ⟨noOld, law_endO run main hS hl⟩
end Ip

set_option Elab.async false
set_option linter.all false
set_option maxRecDepth 100000
set_option maxHeartbeats 4000000
/-! The law's own level: nothing is being shown when it is called, so repr works there. -/
namespace Ip
open PySem L2 PyProof.Rows
open Evl (Ex sz_of fresh_back)
variable [Old]

/-- the promise of a def where no guard is set -/
structure FnG (P : Program) (w : World) (K : PySem.W.Frag) (mg : Str → Option Value) (base : Heap) (k : Nat) (f : Addr) (fd : FuncData) (ps : List Str) (sp : Sp) : Prop where
  cnt : ∀ a h q x, sp a h q x → a.length = ps.length
  go : ∀ {B : Around} {up : List PySem.Env} {t : Shared} {h : Hp} {ar : Args} {cs : List Value} {a : List V} {q : VK} {x : XK},
    B.guards = some [] → Room k B → Env0 P w K mg base B up t h → BindsTo t fd ar (ps.zip cs) → Vals a cs → sp a h q x →
    codeAny (model P w) B (.call (.ref f) ar) (CR CX0 up P w h t q x) t

section
variable {P : Program} {w : World} {K : PySem.W.Frag} {mg : Str → Option Value} {base : Heap}
theorem fun_ok {nm qn : Str} {st : Stmt} {f : Addr} {fd : FuncData} {N ps : List Str} {k : Nat} {sp : Sp} (F : Fun K nm qn st f fd) (S : FnScope N ps (defScope st))
    (cnt : ∀ a h q x, sp a h q x → a.length = ps.length)
    (body : ∀ (cd : Value) (B : Around) (up : List PySem.Env) (t : Shared) (h : Hp) (a : List V) (q : VK) (x : XK),
      (B.deeper (envOfC qn (defScope st) t.heap.objs.size f cd)).guards = some [] → Room k (B.deeper (envOfC qn (defScope st) t.heap.objs.size f cd)) → sp a h q x →
      ∃ r, PSs (cxOf CX0 P w K mg base N qn (defScope st) f cd B up t h x).nox (defBody st) r ∧ r { nx := fun _ h1 => q .non h1, rt := q } (start N a) h) :
    FnG P w K mg base (k + 1) f fd ps sp := by
  obtain ⟨oc, od, kV, doc, pm, an, cd, ct, osl, rfl, at_, code⟩ := F.ex
  refine ⟨cnt, ?_⟩
  intro B up t h ar cs a q x nog room e0 bnd va hs
  have la := cnt _ _ _ _ hs
  have inK := e0.mod.kin.keeps fun b o e => (e0.bs b o e).1
  have nolim := e0.mod.nolimit.keeps fun b o e => (e0.bs b o e).1
  have kinds : ∀ y ∈ ps.zip cs, (defScope st).names.lookup y.1 = some .local ∨ ((defScope st).names.lookup y.1 = some .cell ∧
      ((cellsFrom (t.heap.objs.size + 1) (defScope st).names []).lookup y.1).isSome = true) := by
    rintro ⟨n, v⟩ hy
    cases S.par n (List.of_mem_zip hy).1 with
    | inl z => exact .inl z
    | inr z => exact .inr ⟨z, PySem.W.cellsFrom_some _ _ _ (.inl z)⟩
  apply codeAny_call_function room.depth (inK _ _ at_) rfl S.co S.gen rfl (PySem.W.codeRec_of inK code)
  apply bnd
  apply wpAny_newFunctionEnv_cells S.kind kinds
  intro en hen t1 inC
  cases hen
  refine ⟨nolim.keeps inC.toInCall.keep, codeAny_func ?_⟩
  obtain ⟨r, pr, hq⟩ := body cd B up t h a q x nog (room.deeper _) hs
  have I := inv_start (CX := CX0) (E := x) S room.hd e0 la va inC
  refine wpAny_mono (pr.nox.run [] t1 (start N a) h _ I hq) ?_ (fun _ _ z => z)
  intro fl t2 z
  cases fl with
  | next =>
    obtain ⟨_, h2, J, z⟩ := z
    exact ⟨.non, h2, J.os, J.bare, J.base, J.hok, rfl, z⟩
  | ret u =>
    obtain ⟨v, _, h2, J, rv, z⟩ := z
    exact ⟨v, h2, J.os, J.bare, J.base, J.hok, rv, z⟩
  | brk => exact z.elim fun _ z => z.elim fun _ z => z.2.elim
  | cont => exact z.elim fun _ z => z.elim fun _ z => z.2.elim
end
/-- a heap that tracks at most the object at a -/
def oneAt (a : Addr) (u : Option HO) : Hp := fun b => if b = a then u else none
theorem oneAt_at {a : Addr} {u : Option HO} : oneAt a u a = u := if_pos rfl
theorem oneAt_ne {a b : Addr} {u : Option HO} (n : b ≠ a) : oneAt a u b = none := if_neg n
/-- the call of the law where no guard is set -/
theorem law_go {P : Program} {w : World} {K : PySem.W.Frag} {mg mb : Str → Option Value} {k : Nat} {fa a : Addr} {fd : FuncData} {nm : Str} {sp : Sp} {t : Shared} {us : List Value} {ns : List Int}
    (inK : K.In t.heap) (nsG : t.heap.Ns mainGlobals mg) (nsB : t.heap.Ns builtinsNs mb) (boot : ∀ y : Str, y ≠ "__name__" → mb y = bootBuiltins y) (lim : t.heap.NoLimit) (gens : t.gens = #[])
    (obj : t.heap.get? a = some { cls := .type "list", data := .seq us.toArray }) (its : IntsAre us ns) (short : ns.length ≤ sizeLine) (room : Room k callerA)
    (F : ∀ base : Heap, K.In base → base.Ns mainGlobals mg → FnG P w K mg base k fa fd [nm] sp) (bnd : ∀ (s : Shared) (u : Value), BindsTo s fd ⟨[u], []⟩ [(nm, u)])
    (want : ∀ H : Hp, Only H → SqL K H a (ns.map V.int) → sp [.ref a] H (fun v _ => v = .bl true) E0) :
    codeAny (model P w) callerA (.call (.ref fa) ⟨[.ref a], []⟩) (fun r s' => r = .ok (.ret (.bool true)) ∧ OldK t.heap s'.heap ∧ s'.os = t.os ∧ AllBare s'.gens) t := by
  have vals := vals_ints its
  have size := its.length
  have main : ∀ u : Option HO, (∀ o, u = some o → K.lookup a = none ∧ ∃ ob, o = .frz ob (.lst (ns.map V.int))) → HOk P w (oneAt a u) t.heap → SqL K (oneAt a u) a (ns.map V.int) →
      codeAny (model P w) callerA (.call (.ref fa) ⟨[.ref a], []⟩) (fun r s' => r = .ok (.ret (.bool true)) ∧ OldK t.heap s'.heap ∧ s'.os = t.os ∧ AllBare s'.gens) t := by
    intro u hu ok sq
    have only : Only (oneAt a u) := fun b => by
      by_cases e : b = a
      · cases hc : u with
        | none => exact .inl (by rw [e, oneAt_at])
        | some o => exact .inr (by rw [e, oneAt_at]; obtain ⟨_, ob, rfl⟩ := hu o hc; exact ⟨ob, _, rfl⟩)
      · exact .inl (oneAt_ne e)
    have free : ∀ {b : Addr} {o : Obj}, t.heap.get? b = some o → (b = a → u = none) → (hidT t.heap (oneAt a u)).get? b = some o := fun {b o} e n => hidT_get e (by
      by_cases z : b = a
      · rw [z, oneAt_at, n z]
      · exact oneAt_ne z)
    have dict : ∀ {b : Addr} {m : Str → Option Value}, t.heap.Ns b m → (hidT t.heap (oneAt a u)).Ns b m := by
      rintro b m ⟨o, es, ep, e, d, r⟩
      refine ⟨o, es, ep, free e (fun z => ?_), d, r⟩
      rw [z, obj] at e
      cases e
      cases (show Data.seq us.toArray _ = Data.dict es ep from d)
    have kin : K.In (hidT t.heap (oneAt a u)) := fun b o e => free (inK b o e) fun z => by
      cases hc : u with
      | none => rfl
      | some q => rw [z, (hu q hc).1] at e; cases e
    obtain ⟨mc, l1, l2⟩ := lim
    have env : Env0 P w K mg (hidT t.heap (oneAt a u)) callerA [] t (oneAt a u) := {
      frames := rfl, mod := ⟨kin, dict nsG, ⟨mb, dict nsB, boot⟩, ⟨mc, dict l1, l2⟩⟩, bs := fun b o e => of_hidT e, bsz := Nat.le_of_eq (hidT_size _ _),
      funs := trivial, frf := fun b z => (List.not_mem_nil z).elim, hok := ok, bare := .of_eq gens }
    refine codeAny_mono ((F _ kin (dict nsG)).go (cs := [.ref a]) (a := [.ref a]) rfl room env (bnd t (.ref a)) (.cons rfl .nil) (want _ only sq)) ?_
    intro r t2 z
    match r, z with
    | .ok (.ret x), ⟨v, H2, os, bare, un, ok2, rv, e⟩ =>
      cases (show v = .bl true from e)
      cases (show x = Value.bool true from rv)
      refine ⟨rfl, .of_keep ?_, os, bare⟩
      intro b o hb
      by_cases z : b = a
      · cases hc : u with
        | none => exact un.keep b o hb (by rw [z, oneAt_at, hc]) (fun m => (List.not_mem_nil m).elim) (by simp)
        | some q =>
          obtain ⟨_, ob, rfl⟩ := hu q hc
          have fz := un.frzs b ob (.lst (ns.map V.int)) (by rw [z, oneAt_at, hc])
          obtain ⟨g1, _⟩ := ok b (.frz ob (.lst (ns.map V.int))) (by rw [z, oneAt_at, hc])
          obtain ⟨g2, _⟩ := ok2 b _ fz
          rw [hb] at g1
          cases g1
          exact g2
      · exact un.keep b o hb (oneAt_ne z) (fun m => (List.not_mem_nil m).elim) (by simp)
    | .ok .next, z => exact False.elim z
    | .ok .brk, z => exact False.elim z
    | .ok .cont, z => exact False.elim z
    | .error e, z => exact False.elim z
  cases own : K.lookup a with
  | some o =>
    have e := inK a o own
    rw [obj] at e
    cases e
    refine main none (fun _ z => nomatch z) (fun b o z => ?_) (.inr ⟨_, us.toArray, _, own, rfl, rfl, rfl, by simpa [size] using short, by simpa using vals⟩)
    unfold oneAt at z
    split at z <;> cases z
  | none =>
    refine main (some (.frz ⟨.type "list", none, .seq us.toArray, #[]⟩ (.lst (ns.map V.int)))) (fun o z => ?_) (fun b o z => ?_) (.inl (.inr ⟨_, oneAt_at⟩))
    · cases z
      exact ⟨own, _, rfl⟩
    · unfold oneAt at z
      split at z
      · rename_i hb
        cases z
        rw [hb]
        exact ⟨obj, by simpa using short, us, _, vals, obj⟩
      · cases z
/-- the end of a law -/
theorem walk_go {l : PySem.W.OpenLaw} {n k : Nat} {q : Program} {loose : List Str} {XP : (Str → Option Value) → Heap → Prop} {YP : World → Heap → Prop} {d : DefRec} {K : Params → PySem.W.Frag} {run : Ip.Run} {x : Str}
    (most : l.most = some n) (small : n ≤ sizeLine) (nodef : d.params.defaults = []) (room : Room k callerA) (hY : ∀ (w : World) (h : Heap), YP w h → (K w.params).In h)
    (F : ∀ (w : World) (mg : Str → Option Value) (fa : Addr) (h : Heap), (K w.params).In h → h.Ns mainGlobals mg → mg d.name = some (.ref fa) →
      ∃ fd : FuncData, (∀ (s : Shared) (u : Value), BindsTo s fd ⟨[u], []⟩ [(x, u)]) ∧ ∀ base : Heap, (K w.params).In base → base.Ns mainGlobals mg → FnG l.prog w (K w.params) mg base k fa fd [x] (spF (K w.params) 1 run))
    (main : ∀ ns : List Int, ns.length ≤ n → ∃ args', run [.val (.list (ns.map .int))] = some (.val (.bool true), args')) :
    PySem.W.WalkO q loose XP YP l.row.toRowW d [] (fun f vs => PySem.call f vs) :=
  Att.attach_call most nodef fun w _ s mg _ fa _ _ _ _ a us ns G Y _ _ _ at_ obj its short gens =>
    let ⟨_, b, f⟩ := F w mg fa _ (hY w _ Y) G.T.g at_
    law_go (hY w _ Y) G.T.g G.T.b G.T.builtins G.T.nolimit gens obj its (Nat.le_trans short small) room f b fun H _ sq => law_endN run main sq short
/-- the end of a law that is run as what it is alone -/
theorem walk_goO {l : PySem.W.OpenLaw} {n k : Nat} {q : Program} {loose : List Str} {XP : (Str → Option Value) → Heap → Prop} {YP : World → Heap → Prop} {d : DefRec} {K : Params → PySem.W.Frag} {run : Ip.Run} {x : Str}
    (most : l.most = some n) (small : n ≤ sizeLine) (nodef : d.params.defaults = []) (room : Room k callerA) (hY : ∀ (w : World) (h : Heap), YP w h → (K w.params).In h)
    (F : ∀ (w : World) (mg : Str → Option Value) (fa : Addr) (h : Heap), (K w.params).In h → h.Ns mainGlobals mg → mg d.name = some (.ref fa) →
      ∃ fd : FuncData, (∀ (s : Shared) (u : Value), BindsTo s fd ⟨[u], []⟩ [(x, u)]) ∧ ∀ base : Heap, (K w.params).In base → base.Ns mainGlobals mg → FnG l.prog w (K w.params) mg base k fa fd [x] (spFo noOld (K w.params) 1 run))
    (main : ∀ ns : List Int, ns.length ≤ n → ∃ args', run [.val (.list (ns.map .int))] = some (.val (.bool true), args')) :
    PySem.W.WalkO q loose XP YP l.row.toRowW d [] (fun f vs => PySem.call f vs) :=
  Att.attach_call most nodef fun w _ s mg _ fa _ _ _ _ a us ns G Y _ _ _ at_ obj its short gens =>
    let ⟨_, b, f⟩ := F w mg fa _ (hY w _ Y) G.T.g at_
    law_go (hY w _ Y) G.T.g G.T.b G.T.builtins G.T.nolimit gens obj its (Nat.le_trans short small) room f b fun H _ sq => law_endO run main sq short
end Ip

set_option Elab.async false
set_option linter.all false
set_option maxRecDepth 100000
set_option maxHeartbeats 4000000
namespace Ip
open PySem L2
open Evl (Ex sz_of fresh_back)
variable [Old]
variable {X : Cx} {a b e o : Expr} {pos : Pos} {K : PySem.W.Frag} {Hs Hs' H H' : Hp} {σ : L2.St} {env env' : MEnv}

/-! ### texts: split and join -/
def splitF (fo fe : MEnv → Option (PyData × MEnv)) : MEnv → Option (Slot × MEnv) := fun env => match fo env with
  | some (.str x, e1) => match fe e1 with
    | some (.str y, e2) => if (y.length == 0) = false ∧ x.length + 2 ≤ 100000 then some (.own ((Txt.split x y).map .str), e2) else none
    | _ => none
  | _ => none
theorem repL_strs : ∀ (ys : List Str), RepL K H (ys.map .str) (ys.map V.str)
  | [] => rfl
  | y :: ys => ⟨.str y, ys.map V.str, rfl, rfl, repL_strs ys⟩
theorem se_split {apos : Pos} {fo fe : MEnv → Option (PyData × MEnv)} (ho : SV X o fo) (he : SV X e fe) (hp : plainE e = true) (hbase : attributeBase o "split" X.env (eval o X.env) = eval o X.env) (hline : (apos.endLine == pos.line) = true) :
    SE X (.Call (.Attribute o "split" apos) [e] [] pos) (splitF fo fe) := by
  refine ⟨?_⟩
  intro env σ Hs H r env' hf I Q q
  unfold splitF at hf
  split at hf
  · rename_i x e1 h1
    split at hf
    · rename_i y e2 h2
      split at hf
      · rename_i hc
        cases hf
        refine W.of (pe_split (W.pe X o) (W.pe X e) (by rw [star_plain hp]; rfl) hbase hline) ?_
        refine ho env σ Hs H _ e1 h1 I _ fun v Hs1 H1 g1 I1 r1 => ?_
        cases (show v = .str x from r1)
        refine ⟨⟨x, rfl⟩, ?_⟩
        refine he e1 σ Hs1 H1 _ env' h2 I1 _ fun u Hs2 H2 g2 I2 r2 => ?_
        cases (show u = .str y from r2)
        have g := g1.trans g2
        exact ⟨x, y, rfl, rfl, hc.1, sz_of hc.2, ok_newL I2 rfl (repL_strs _) fun z Hs' H' g' I' r' => q z Hs' H' (g.trans g') I' (RepR.mono (fun p hp => g.none_back hp) r')⟩
      · cases hf
    · cases hf
  · cases hf
def strsOf : List PyData → Option (List Str)
  | [] => some []
  | .str s :: r => (strsOf r).map (s :: ·)
  | _ :: _ => none
theorem strsOf_map : ∀ ys : List Str, strsOf (ys.map .str) = some ys
  | [] => rfl
  | y :: ys => by
    show (strsOf (ys.map .str)).map (y :: ·) = _
    rw [strsOf_map ys]
    rfl
theorem strsOf_rep : ∀ {ds : List PyData} {bs : List Str} {vs : List V}, strsOf ds = some bs → RepL K H ds vs → vs = bs.map V.str
  | [], bs, vs, h, r => by
    cases h
    exact r
  | .str b :: ds, bs, vs, h, r => by
    obtain ⟨v, w, rfl, h1, h2⟩ := r
    have h : (strsOf ds).map (b :: ·) = some bs := h
    cases hd : strsOf ds with
    | none => rw [hd] at h; cases h
    | some cs =>
      rw [hd] at h
      cases h
      rw [strsOf_rep hd h2, (show v = V.str b from h1)]
      rfl
  | .none :: _, _, _, h, _ => by cases h
  | .bool _ :: _, _, _, h, _ => by cases h
  | .int _ :: _, _, _, h, _ => by cases h
  | .list _ :: _, _, _, h, _ => by cases h
  | .tuple _ :: _, _, _, h, _ => by cases h
  | .dict _ :: _, _, _, h, _ => by cases h
def joinF (fo fe : MEnv → Option (PyData × MEnv)) : MEnv → Option (Slot × MEnv) := fun env => match fo env with
  | some (.str x, e1) => match fe e1 with
    | some (.list ds, e2) => match strsOf ds with
      | some ys => if (ys.map (·.length)).sum + ys.length * x.length ≤ 100000 then some (.val (.str (Txt.join x ys)), e2) else none
      | none => none
    | _ => none
  | _ => none
theorem se_join {apos : Pos} {fo fe : MEnv → Option (PyData × MEnv)} (ho : SV X o fo) (he : SV X e fe) (hp : plainE e = true) (hbase : attributeBase o "join" X.env (eval o X.env) = eval o X.env) (hline : (apos.endLine == pos.line) = true) :
    SE X (.Call (.Attribute o "join" apos) [e] [] pos) (joinF fo fe) := by
  refine ⟨?_⟩
  intro env σ Hs H r env' hf I Q q
  unfold joinF at hf
  split at hf
  · rename_i x e1 h1
    split at hf
    · rename_i ds e2 h2
      split at hf
      · rename_i ys hy
        split at hf
        · rename_i hc
          cases hf
          refine W.of (pe_join (W.pe X o) (W.pe X e) (by rw [star_plain hp]; rfl) hbase hline) ?_
          refine ho env σ Hs H _ e1 h1 I _ fun v Hs1 H1 g1 I1 r1 => ?_
          cases (show v = .str x from r1)
          refine ⟨⟨x, rfl⟩, ?_⟩
          refine he e1 σ Hs1 H1 _ env' h2 I1 _ fun u Hs2 H2 g2 I2 r2 => ?_
          obtain ⟨p, vs, rfl, k1, k2⟩ := r2
          cases strsOf_rep hy k2
          exact ⟨x, p, ys, rfl, rfl, .inl (Evl.ex_l I2.sh k1), by omega, q _ Hs2 H2 (g1.trans g2) I2 rfl⟩
        · cases hf
      · cases hf
    · cases hf
  · cases hf
end Ip

set_option Elab.async false
set_option linter.all false
set_option maxRecDepth 100000
set_option maxHeartbeats 4000000
namespace Ip
open PySem L2
open Evl (Ex sz_of fresh_back)
variable [Old]
variable {X : Cx} {a b e o : Expr} {pos : Pos} {K : PySem.W.Frag} {Hs Hs' H H' : Hp} {σ : L2.St} {env env' : MEnv}
/-! ### repr, where nothing is being shown -/
def rRepr (K : PySem.W.Frag) : List V → Hp → VK → Prop := fun xs H Q => ∃ x d, xs = [x] ∧ Dp K H x d ∧ d.showable = true ∧ d.hasDict = false ∧ d.depth ≤ 100 ∧ d.shown.length ≤ sizeLine ∧ Q (.str d.shown) H
theorem cr_repr (hG : X.A.guards = some []) (hu : X.A.units + 200 < cLine) : CallR X (.builtin "repr") (rRepr X.K) := by
  intro pins s σ H xs us Q I r h
  obtain ⟨x, d, rfl, hd, h1, h2, h3, h4, q⟩ := h
  cases r with
  | cons r1 r2 =>
    cases r2
    rename_i u
    have fin : ∀ {h' : Heap} {t tk : Nat}, (∀ b o, s.heap.get? b = some o → h'.get? b = some o) → EP X pins σ Q (.str d.shown t) { s with heap := h', toks := tk } := fun k => ⟨.str d.shown, H, I.kept k, ⟨_, rfl⟩, q⟩
    have here : ∀ {t tk : Nat}, EP X pins σ Q (.str d.shown t) { s with toks := tk } := fun {t tk} => ⟨.str d.shown, H, I.tok _, ⟨_, rfl⟩, q⟩
    obtain ⟨as, rd⟩ := Dp.reads I d x u hd r1
    cases d with
    | none =>
      cases rd
      exact PySem.P.repr_of_none here
    | bool b =>
      cases rd
      exact PySem.P.repr_of_bool here
    | int i =>
      cases rd
      exact PySem.P.repr_of_int (by simpa [PyData.showable] using h1) here
    | str z =>
      cases rd
      exact PySem.P.repr_of_str here h4
    | list ds =>
      obtain ⟨p, rfl⟩ : ∃ p, u = .ref p := by cases rd; exact ⟨_, rfl⟩
      exact PySem.repr_of_reads' rd h1 (PyData.noDict_hsm h2) hG (by omega) (fun _ _ e => e) (fun h' t tk k => fin k) h4
    | tuple ds =>
      obtain ⟨p, rfl⟩ : ∃ p, u = .ref p := by cases rd; exact ⟨_, rfl⟩
      exact PySem.repr_of_reads' rd h1 (PyData.noDict_hsm h2) hG (by omega) (fun _ _ e => e) (fun h' t tk k => fin k) h4
    | dict kvs => cases hd
def reprOk (d : PyData) : Bool := d.showable && !d.hasDict && decide (d.depth ≤ 100) && decide (d.shown.length ≤ 100000)
def reprD (d : PyData) : Option Slot := if reprOk d = true then some (.val (.str d.shown)) else none
theorem ok_repr : R1ok X.K (fun v H Q => rRepr X.K [v] H Q) reprD := by
  intro Hs H σ env x v s hs I hx Q q
  unfold reprD at hs
  split at hs
  · rename_i hc
    cases hs
    unfold reprOk at hc
    simp only [Bool.and_eq_true, decide_eq_true_eq, Bool.not_eq_true'] at hc
    obtain ⟨⟨⟨h1, h2⟩, h3⟩, h4⟩ := hc
    exact ⟨v, x, rfl, Rep.dp x v (Top.rep I.sh hx) h2, h1, h2, h3, sz_of h4, ok_val I rfl (show Rep X.K Hs (.str _) (.str _) from rfl) q⟩
  · cases hs
theorem bt_repr : bootBuiltins "repr" = some (.builtin "repr") := by decide +kernel
end Ip
namespace Ip
open PySem L2
open Evl (Ex sz_of fresh_back)
variable [Old]
variable {X : Cx} {a b e o : Expr} {pos : Pos} {K : PySem.W.Frag} {Hs Hs' H H' : Hp} {σ : L2.St} {env env' : MEnv}
/-! ### calls of own defs where nothing is being shown -/
theorem run_go {k : Nat} {f : Addr} {fd : FuncData} {ps : List Str} {sp : Sp} {pins : List (Addr × Obj)} {s : Shared} {Q : VK} {us : List Value} {vs : List V} (F : FnG X.prog X.w X.K X.mg X.base k f fd ps sp)
    (hG : X.A.guards = some []) (hr : Room k X.A) (hb : Binds X.K fd ps []) (I : Inv X pins σ H s) (r : Vals vs us) (h : sp vs H Q E0) : wpAny (model X.prog X.w) X.A (call (.ref f) us) (EP X pins σ Q) X.xe s := by
  have len : us.length = ps.length := by rw [← r.length]; exact F.cnt _ _ _ _ h
  have bnd := hb s us I.kIn (by simpa using len)
  rw [List.append_nil] at bnd
  apply wpAny_call
  refine codeAny_mono (F.go hG hr I.env0 bnd r h) ?_
  intro fl t z
  match fl, z with
  | .ok (.ret u), z => exact I.after z
  | .ok .next, z => exact z.elim
  | .ok .brk, z => exact z.elim
  | .ok .cont, z => exact z.elim
  | .error _, z => exact z.elim
theorem pe_go {k : Nat} {f : Addr} {fd : FuncData} {ps : List Str} {sp : Sp} {x : Str} {p : Pos} {es : List Expr} {t : TA} (F : FnG X.prog X.w X.K X.mg X.base k f fd ps sp) (hG : X.A.guards = some []) (hr : Room k X.A) (hg : Gl X x)
    (hm : X.mg x = some (.ref f)) (hk : PySem.W.keepIn X.K (.ref f) = true) (hb : Binds X.K fd ps []) (ha : PA X (e :: es) t) (hd : (x == ("__debug__" : Str)) = false) (h0 : starEach (e :: es) X.env = (false, eval e X.env) :: starEach es X.env)
    (hs : (backTo pos (starEach es X.env)).any (·.1) = false) : PE X (.Call (.Name x p) (e :: es) [] pos) (tCall sp [] E0 t) :=
  .mk fun pins s σ H Q I h => wpAny_Call_Name_kw (ld_glob I hg hm (PySem.W.callWith_K (h₀ := X.base) I.ok.mod.kin hk (thn (ha.run pos pins s σ H _ I h) fun _ _ ⟨_, _, J, r, q⟩ => ⟨J.kIn, run_go F hG hr hb J r (by simpa using q)⟩) h0 hs) hd)
/-- f, a def of the text, keeps the promise -/
structure OwnG (P : Program) (w : World) (K : PySem.W.Frag) (mg : Str → Option Value) (base : Heap) (k : Nat) (x : Str) (n : Nat) (run : Run) where
  f : Addr
  fd : FuncData
  ps : List Str
  ok : FnG P w K mg base k f fd ps (spF K n run)
  at_ : mg x = some (.ref f)
  kp : PySem.W.keepIn K (.ref f) = true
  bi : Binds K fd ps []
theorem se_go {k n : Nat} {run : Run} {x : Str} {p : Pos} {es : List Expr} {fs : MEnv → Option (List PyData × MEnv)} (o : OwnG X.prog X.w X.K X.mg X.base k x n run) (hG : X.A.guards = some []) (hr : Room k X.A) (hg : Gl X x) (ha : SA X (e :: es) fs)
    (hp : (e :: es).all plainE = true) (hd : (x == ("__debug__" : Str)) = false) : SE X (.Call (.Name x p) (e :: es) [] pos) (callF n run fs) := by
  refine ⟨?_⟩
  intro env σ Hs H r env' hf I Q q
  rw [List.all_cons, Bool.and_eq_true] at hp
  exact W.of (pe_go o.ok hG hr hg o.at_ o.kp o.bi (WA.pa X (e :: es)) hd (star_plain hp.1) (star_any hp.2)) (rd_call ha hf I Q q E0)
/-- a def that calls itself, by how often it may yet do so -/
theorem FnG.none {P : Program} {w : World} {mg : Str → Option Value} {base : Heap} {k n : Nat} {f : Addr} {fd : FuncData} {ps : List Str} : FnG P w K mg base k f fd ps (spF K n fun _ => Option.none) :=
by
  constructor
  · intro _ _ _ _ h
    obtain ⟨_, _, _, _, _, _, _, z, _⟩ := h
    cases z
  · intro _ _ _ _ _ _ _ _ _ _ _ _ _ _ h
    obtain ⟨_, _, _, _, _, _, _, z, _⟩ := h
    cases z
theorem FnG.mono {P : Program} {w : World} {mg : Str → Option Value} {base : Heap} {j k : Nat} {f : Addr} {fd : FuncData} {ps : List Str} {sp : Sp} (F : FnG P w K mg base j f fd ps sp) (h : j ≤ k) : FnG P w K mg base k f fd ps sp :=
  ⟨F.cnt, fun g r e b v z => F.go g (r.mono h) e b v z⟩
end Ip

set_option Elab.async false
set_option linter.all false
set_option maxRecDepth 100000
set_option maxHeartbeats 4000000
namespace Ip
open PySem L2
open Evl (Ex sz_of fresh_back)
variable [Old]
variable {X : Cx} {a b e o : Expr} {pos : Pos} {K : PySem.W.Frag} {H0 Hs Hs' H H' : Hp} {σ : L2.St} {env env' : MEnv}
/-! ### lists that are handed in and changed by the called one -/
inductive Arg where
  | v (d : PyData)
  | io (i : Nat)
  | nw (xs : List PyData)
def ArgRep (K : PySem.W.Frag) (H0 Hs H : Hp) (σ : L2.St) (env : MEnv) : Arg → V → Prop
  | .v d, v => Rep K Hs d v
  | .io i, v => σ[i]? = some (some v)
  | .nw xs, v => ∃ p vs, v = .ref p ∧ H0 p = none ∧ H p = some (.lst vs) ∧ Hs p = none ∧ RepL K Hs xs vs ∧ ¬ MutAt σ env p
structure ArgsRep (K : PySem.W.Frag) (H0 Hs H : Hp) (σ : L2.St) (env : MEnv) (as : List Arg) (vs : List V) : Prop where
  len : as.length = vs.length
  at_ : ∀ (j : Nat) (a : Arg) (v : V), as[j]? = some a → vs[j]? = some v → ArgRep K H0 Hs H σ env a v
  nd : ∀ (j k : Nat) (xs ys : List PyData) (p : Addr), as[j]? = some (.nw xs) → as[k]? = some (.nw ys) → vs[j]? = some (.ref p) → vs[k]? = some (.ref p) → j = k
theorem ArgRep.mono {H1 Hs1 H2 Hs2 : Hp} {e1 e2 : MEnv} (g : GoE σ e1 Hs1 H1 e2 Hs2 H2) : ∀ {a : Arg} {v : V}, ArgRep K H0 Hs1 H1 σ e1 a v → ArgRep K H0 Hs2 H2 σ e2 a v
  | .v d, v, h => Rep.mono g.sh d v h
  | .io i, v, h => h
  | .nw xs, v, ⟨p, vs, e, h0, h1, h2, h3, h4⟩ => ⟨p, vs, e, h0, g.kp p _ h1 h4, by
      cases z : Hs2 p with
      | none => rfl
      | some u =>
        rcases g.nw p u z with z1 | z1 | z1
        · rw [h2] at z1; cases z1
        · rw [h1] at z1; cases z1
        · exact absurd z1.mut h4, RepL.mono g.sh xs vs h3, fun m => h4 (g.ow p m)⟩
theorem ArgRep.back {H1 : Hp} (n : ∀ p, H1 p = none → H0 p = none) : ∀ {a : Arg} {v : V}, ArgRep K H1 Hs H σ env a v → ArgRep K H0 Hs H σ env a v
  | .v d, v, h => h
  | .io i, v, h => h
  | .nw xs, v, ⟨p, vs, e, h0, h⟩ => ⟨p, vs, e, n p h0, h⟩
structure SX (X : Cx) (es : List Expr) (f : MEnv → Option (List Arg × MEnv)) : Prop where
  run : ∀ (env : MEnv) (σ : L2.St) (Hs H : Hp) (as : List Arg) (env' : MEnv), f env = some (as, env') → InvS X.K Hs H σ env → ∀ Q : List V → Hp → Prop,
    (∀ vs Hs' H', GoE σ env Hs H env' Hs' H' → InvS X.K Hs' H' σ env' → ArgsRep X.K H Hs' H' σ env' as vs → Q vs H') → WA X es σ H Q
theorem sx_nil : SX X [] (fun env => some ([], env)) := .mk fun env σ Hs H as env' hf I Q q => by
  cases hf
  exact WA.of pa_nil (q [] Hs H GoE.refl I ⟨rfl, fun j a v h => by simp at h, fun j k xs ys p h => by simp at h⟩)
/-- an argument and then the others -/
theorem args_cons {H1 Hs1 H2 Hs2 : Hp} {e1 e2 : MEnv} {a : Arg} {v : V} {as : List Arg} {vs : List V} (n : ∀ p, H1 p = none → H0 p = none) (g : GoE σ e1 Hs1 H1 e2 Hs2 H2) (ha : ArgRep K H0 Hs1 H1 σ e1 a v) (hs : ArgsRep K H1 Hs2 H2 σ e2 as vs) :
    ArgsRep K H0 Hs2 H2 σ e2 (a :: as) (v :: vs) where
  len := by rw [List.length_cons, List.length_cons, hs.len]
  at_ := fun j b w hb hw => by
    cases j with
    | zero =>
      simp at hb hw
      subst hb hw
      exact ha.mono g
    | succ j =>
      simp at hb hw
      exact (hs.at_ j b w hb hw).back n
  nd := fun j k xs ys p h1 h2 h3 h4 => by
    have key : ∀ (us ws : List PyData) (m : Nat), a = .nw us → v = .ref p → as[m]? = some (.nw ws) → vs[m]? = some (.ref p) → False := fun us ws m e1 e2 g2 g4 => by
      subst e1 e2
      obtain ⟨_, _, e, _, h, _⟩ := ha
      cases e
      obtain ⟨_, _, e, h', _⟩ := hs.at_ m _ _ g2 g4
      cases e
      rw [h] at h'
      cases h'
    cases j with
    | zero =>
      cases k with
      | zero => rfl
      | succ k =>
        simp at h1 h2 h3 h4
        exact (key _ _ _ h1 h3 h2 h4).elim
    | succ j =>
      cases k with
      | zero =>
        simp at h1 h2 h3 h4
        exact (key _ _ _ h2 h4 h1 h3).elim
      | succ k =>
        simp at h1 h2 h3 h4
        rw [hs.nd j k xs ys p h1 h2 h3 h4]
def consX (fe : MEnv → Option (Arg × MEnv)) (fs : MEnv → Option (List Arg × MEnv)) : MEnv → Option (List Arg × MEnv) := fun env => match fe env with
  | some (d, e1) => match fs e1 with
    | some (ds, e2) => some (d :: ds, e2)
    | none => none
  | none => none
theorem consX_some {fe : MEnv → Option (Arg × MEnv)} {fs : MEnv → Option (List Arg × MEnv)} {as : List Arg} (h : consX fe fs env = some (as, env')) : ∃ a e1 r, fe env = some (a, e1) ∧ fs e1 = some (r, env') ∧ as = a :: r := by
  unfold consX at h
  split at h
  · rename_i d e1 h1
    split at h
    · rename_i ds e2 h2
      cases h
      exact ⟨d, e1, ds, h1, h2, rfl⟩
    · cases h
  · cases h
def argV (fe : MEnv → Option (PyData × MEnv)) : MEnv → Option (Arg × MEnv) := fun env => match fe env with
  | some (d, e1) => some (.v d, e1)
  | none => none
def argI (i : Nat) : MEnv → Option (Arg × MEnv) := fun env => some (.io i, env)
def argN (fe : MEnv → Option (Slot × MEnv)) : MEnv → Option (Arg × MEnv) := fun env => match fe env with
  | some (.own xs, e1) => some (.nw xs, e1)
  | _ => none
theorem sx_v {es : List Expr} {fe : MEnv → Option (PyData × MEnv)} {fs : MEnv → Option (List Arg × MEnv)} (h : SV X e fe) (hs : SX X es fs) (hp : plainE e = true) : SX X (e :: es) (consX (argV fe) fs) := by
  refine ⟨?_⟩
  intro env σ Hs H as env' hf I Q q
  obtain ⟨a, e1, r, h1, h2, rfl⟩ := consX_some hf
  unfold argV at h1
  split at h1
  · rename_i d e1' h0
    cases h1
    refine WA.of (pa_cons (W.pe X e) (WA.pa X es) (star_plain hp)) ?_
    refine h env σ Hs H d e1 h0 I _ fun v Hs1 H1 g1 I1 r1 => ?_
    exact hs.run e1 σ Hs1 H1 r env' h2 I1 _ fun vs Hs2 H2 g2 I2 r2 => q (v :: vs) Hs2 H2 (g1.trans g2) I2 (args_cons (fun p hp => g1.none_back hp) g2 (a := .v d) r1 r2)
  · cases h1
def ioA (i : Nat) (fs : MEnv → Option (List Arg × MEnv)) : MEnv → Option (List Arg × MEnv) := fun env => if (env.getD i .un).mut.isSome = true then consX (argI i) fs env else none
theorem sx_io {i : Nat} {x : Str} {p : Pos} {es : List Expr} {fs : MEnv → Option (List Arg × MEnv)} (hx : PE X (.Name x p) (tVar i)) (hs : SX X es fs) : SX X (.Name x p :: es) (ioA i fs) := by
  refine ⟨?_⟩
  intro env σ Hs H as env' hf I Q q
  unfold ioA at hf
  split at hf
  · rename_i hm
    obtain ⟨a, e1, r, h1, h2, rfl⟩ := consX_some hf
    cases h1
    obtain ⟨xs, hxs⟩ := Option.isSome_iff_exists.mp hm
    have hg : env[i]? = some (env.getD i .un) := by
      rw [List.getD_eq_getElem?_getD] at hxs ⊢
      cases z : env[i]? with
      | none => rw [z] at hxs; cases hxs
      | some s => rfl
    obtain ⟨p1, vs1, k1, k2, k3, k4⟩ := I.muts i _ xs hg hxs
    refine WA.of (pa_cons hx (WA.pa X es) (star_plain rfl)) ?_
    refine ⟨.ref p1, k1, ?_⟩
    exact hs.run env σ Hs H r env' h2 I _ fun vs Hs2 H2 g2 I2 r2 => q (.ref p1 :: vs) Hs2 H2 g2 I2 (args_cons (fun p hp => hp) g2 (a := .io i) k1 r2)
  · cases hf
theorem sx_nw {es : List Expr} {fe : MEnv → Option (Slot × MEnv)} {fs : MEnv → Option (List Arg × MEnv)} (h : SE X e fe) (hs : SX X es fs) (hp : plainE e = true) : SX X (e :: es) (consX (argN fe) fs) := by
  refine ⟨?_⟩
  intro env σ Hs H as env' hf I Q q
  obtain ⟨a, e1, r, h1, h2, rfl⟩ := consX_some hf
  unfold argN at h1
  split at h1
  · rename_i xs e1' h0
    cases h1
    refine WA.of (pa_cons (W.pe X e) (WA.pa X es) (star_plain hp)) ?_
    refine h env σ Hs H _ e1 h0 I _ fun v Hs1 H1 g1 I1 r1 => ?_
    obtain ⟨p, vs0, rfl, k1, k2, k3, k4⟩ := r1
    have nm : ¬ MutAt σ e1 p := fun m => by
      obtain ⟨_, _, hh⟩ := I.mutAt_some (g1.ow p m)
      rw [k1] at hh
      cases hh
    exact hs.run e1 σ Hs1 H1 r env' h2 I1 _ fun vs Hs2 H2 g2 I2 r2 => q (.ref p :: vs) Hs2 H2 (g1.trans g2) I2 (args_cons (fun p hp => g1.none_back hp) g2 (a := .nw xs) ⟨p, vs0, rfl, k1, k3, k2, k4, nm⟩ r2)
  · cases h1
def argS (env : MEnv) : Arg → Option Slot
  | .v d => some (.val d)
  | .io i => (env.getD i .un).mut.map .io
  | .nw xs => some (.io xs)
def argsS (env : MEnv) : List Arg → Option (List Slot)
  | [] => some []
  | a :: as => match argS env a with
    | some s => (argsS env as).map (s :: ·)
    | none => none
def ioIx : List Arg → List Nat
  | [] => []
  | .io i :: as => i :: ioIx as
  | _ :: as => ioIx as
def putB : List Arg → List Slot → MEnv → MEnv
  | .io i :: as, .io ys :: ss, env => (putB as ss env).set i ((env.getD i .un).put ys)
  | _ :: as, _ :: ss, env => putB as ss env
  | _, _, env => env
def callX (n : Nat) (run : Run) (fs : MEnv → Option (List Arg × MEnv)) : MEnv → Option (Slot × MEnv) := fun env => match fs env with
  | some (as, e1) => match argsS e1 as with
    | some ss => if ss.length = n ∧ (ioIx as).Nodup then match run ss with
        | some (r, ss') => some (r, putB as ss' e1)
        | none => none
      else none
    | none => none
  | none => none
theorem argsS_len : ∀ {as : List Arg} {ss : List Slot}, argsS env as = some ss → ss.length = as.length
  | [], ss, h => by cases h; rfl
  | a :: as, ss, h => by
    unfold argsS at h
    split at h
    · rename_i s hs
      cases hr : argsS env as with
      | none => rw [hr] at h; cases h
      | some r =>
        rw [hr] at h
        cases h
        rw [List.length_cons, List.length_cons, argsS_len hr]
    · cases h
theorem argsS_get : ∀ {as : List Arg} {ss : List Slot} {j : Nat} {s : Slot}, argsS env as = some ss → ss[j]? = some s → ∃ a, as[j]? = some a ∧ argS env a = some s
  | [], ss, j, s, h, e => by cases h; simp at e
  | a :: as, ss, j, s, h, e => by
    unfold argsS at h
    split at h
    · rename_i s0 hs
      cases hr : argsS env as with
      | none => rw [hr] at h; cases h
      | some r =>
        rw [hr] at h
        cases h
        cases j with
        | zero =>
          simp at e
          subst e
          exact ⟨a, rfl, hs⟩
        | succ j =>
          simp at e
          obtain ⟨a', h1, h2⟩ := argsS_get hr e
          exact ⟨a', by simpa using h1, h2⟩
    · cases h
theorem ioIx_mem : ∀ {as : List Arg} {i : Nat}, i ∈ ioIx as ↔ ∃ j : Nat, as[j]? = some (Arg.io i)
  | [], i => by simp [ioIx]
  | a :: as, i => by
    have ih := ioIx_mem (as := as) (i := i)
    have tail : (∃ j : Nat, (a :: as)[j]? = some (Arg.io i)) ↔ a = Arg.io i ∨ ∃ j : Nat, as[j]? = some (Arg.io i) := by
      constructor
      · rintro ⟨j, h⟩
        cases j with
        | zero => exact .inl (by simpa using h)
        | succ j => exact .inr ⟨j, by simpa using h⟩
      · rintro (h | ⟨j, h⟩)
        · exact ⟨0, by simpa using h⟩
        · exact ⟨j + 1, by simpa using h⟩
    rw [tail]
    cases a with
    | v d => simp [ioIx, ih]
    | io k => simp [ioIx, ih, eq_comm]
    | nw xs => simp [ioIx, ih]
theorem io_once : ∀ {as : List Arg} {i j k : Nat}, (ioIx as).Nodup → as[j]? = some (.io i) → as[k]? = some (.io i) → j = k
  | [], i, j, k, _, h, _ => by simp at h
  | a :: as, i, j, k, nd, h1, h2 => by
    have nd2 : (ioIx as).Nodup := by
      cases a with
      | v d => exact nd
      | io m => exact (List.nodup_cons.mp nd).2
      | nw xs => exact nd
    have out : ∀ {j : Nat}, a = .io i → as[j]? = some (.io i) → False := fun {j} e h => by
      subst e
      exact (List.nodup_cons.mp nd).1 (ioIx_mem.mpr ⟨j, h⟩)
    cases j with
    | zero =>
      cases k with
      | zero => rfl
      | succ k =>
        simp at h1 h2
        exact (out h1 h2).elim
    | succ j =>
      cases k with
      | zero =>
        simp at h1 h2
        exact (out h2 h1).elim
      | succ k =>
        simp at h1 h2
        rw [io_once nd2 h1 h2]
theorem putB_out {i : Nat} : ∀ {as : List Arg} {ss : List Slot}, i ∉ ioIx as → (putB as ss env)[i]? = env[i]?
  | [], ss, _ => by cases ss <;> rfl
  | a :: as, [], _ => by cases a <;> rfl
  | .v d :: as, s :: ss, h => putB_out (as := as) (ss := ss) h
  | .nw d :: as, s :: ss, h => putB_out (as := as) (ss := ss) h
  | .io k :: as, s :: ss, h => by
    have h' : i ≠ k ∧ i ∉ ioIx as := by simpa [ioIx, List.mem_cons, not_or] using h
    have ih := putB_out (as := as) (ss := ss) h'.2
    cases s with
    | io ys =>
      show ((putB as ss env).set k _)[i]? = _
      rw [List.getElem?_set_ne (fun e => h'.1 e.symm), ih]
    | un => exact ih
    | val d => exact ih
    | own xs => exact ih
theorem putB_length : ∀ {as : List Arg} {ss : List Slot}, (putB as ss env).length = env.length
  | [], ss => by cases ss <;> rfl
  | a :: as, [] => by cases a <;> rfl
  | .v d :: as, s :: ss => putB_length (as := as) (ss := ss)
  | .nw d :: as, s :: ss => putB_length (as := as) (ss := ss)
  | .io k :: as, s :: ss => by
    have ih := putB_length (as := as) (ss := ss)
    cases s with
    | io ys =>
      show ((putB as ss env).set k _).length = _
      rw [List.length_set, ih]
    | un => exact ih
    | val d => exact ih
    | own xs => exact ih
theorem putB_in {i : Nat} (hi : i < env.length) : ∀ {as : List Arg} {ss : List Slot} {j : Nat} {ys : List PyData}, (ioIx as).Nodup → as[j]? = some (.io i) → ss[j]? = some (.io ys) → (putB as ss env)[i]? = some ((env.getD i .un).put ys)
  | [], ss, j, ys, _, h, _ => by simp at h
  | a :: as, [], j, ys, _, _, h => by simp at h
  | a :: as, s :: ss, j, ys, nd, h1, h2 => by
    have nd2 : (ioIx as).Nodup := by
      cases a with
      | v d => exact nd
      | io m => exact (List.nodup_cons.mp nd).2
      | nw xs => exact nd
    cases j with
    | zero =>
      simp at h1 h2
      subst h1 h2
      show ((putB as ss env).set i _)[i]? = _
      rw [List.getElem?_set, if_pos rfl, if_pos (by rw [putB_length]; exact hi)]
    | succ j =>
      simp at h1 h2
      have ih := putB_in hi (as := as) (ss := ss) nd2 h1 h2
      cases a with
      | v d => exact ih
      | nw d => exact ih
      | io k =>
        have ne : k ≠ i := fun e => by
          subst e
          exact (List.nodup_cons.mp nd).1 (ioIx_mem.mpr ⟨j, h1⟩)
        cases s with
        | io zs =>
          show ((putB as ss env).set k _)[i]? = _
          rw [List.getElem?_set_ne ne, ih]
        | un => exact ih
        | val d => exact ih
        | own xs => exact ih
end Ip

set_option Elab.async false
set_option linter.all false
set_option maxRecDepth 100000
set_option maxHeartbeats 4000000
namespace Ip
open PySem L2
open Evl (Ex sz_of fresh_back)
variable [Old]
variable {X : Cx} {a b e o : Expr} {pos : Pos} {K : PySem.W.Frag} {H0 Hs Hs' H H' : Hp} {σ : L2.St} {env env' : MEnv}
theorem map_some_get {vs : List V} {j : Nat} {v : V} : (vs.map some)[j]? = some (some v) ↔ vs[j]? = some v := by
  rw [List.getElem?_map]
  cases vs[j]? <;> simp
/-- what the called one is handed -/
theorem argS_cases {a : Arg} {s : Slot} (h : argS env a = some s) : (∃ d, a = .v d ∧ s = .val d) ∨ (∃ i t xs, a = .io i ∧ env[i]? = some t ∧ t.mut = some xs ∧ s = .io xs) ∨ (∃ xs, a = .nw xs ∧ s = .io xs) := by
  cases a with
  | v d => cases h; exact .inl ⟨d, rfl, rfl⟩
  | nw xs => cases h; exact .inr (.inr ⟨xs, rfl, rfl⟩)
  | io i =>
    have h : (env.getD i .un).mut.map Slot.io = some s := h
    cases hm : (env.getD i .un).mut with
    | none => rw [hm] at h; cases h
    | some xs =>
      rw [hm] at h
      cases h
      refine .inr (.inl ⟨i, env.getD i .un, xs, rfl, ?_, hm, rfl⟩)
      rw [List.getD_eq_getElem?_getD] at hm ⊢
      cases z : env[i]? with
      | none => rw [z] at hm; cases hm
      | some t => rfl
theorem callX_inv (ox0 : Ex Old.Ho H0) (I : InvS K Hs H σ env) {as : List Arg} {vs : List V} {ss : List Slot} (r : ArgsRep K H0 Hs H σ env as vs) (hs : argsS env as = some ss) (nd : (ioIx as).Nodup) : InvS K Hs H (vs.map some) ss ∧
    ∀ (j : Nat) (s : Slot) (xs : List PyData) (p : Addr), ss[j]? = some s → s.mut = some xs → vs[j]? = some (.ref p) → (∃ i, as[j]? = some (.io i) ∧ σ[i]? = some (some (.ref p)) ∧ ∃ t, env[i]? = some t ∧ t.mut = some xs) ∨ (∃ us, as[j]? = some (.nw us) ∧ H0 p = none ∧ ¬ MutAt σ env p) := by
  have len : vs.length = ss.length := by rw [argsS_len hs, r.len]
  have spot : ∀ (j : Nat) (s : Slot) (xs : List PyData) (p : Addr), ss[j]? = some s → s.mut = some xs → vs[j]? = some (.ref p) → (∃ i, as[j]? = some (.io i) ∧ σ[i]? = some (some (.ref p)) ∧ ∃ t, env[i]? = some t ∧ t.mut = some xs) ∨ (∃ us, as[j]? = some (.nw us) ∧ H0 p = none ∧ ¬ MutAt σ env p) := fun j s xs p h1 h2 h3 => by
    obtain ⟨a, ha, hsa⟩ := argsS_get hs h1
    have q := r.at_ j a _ ha h3
    rcases argS_cases hsa with ⟨d, rfl, rfl⟩ | ⟨i, t, ys, rfl, k1, k2, rfl⟩ | ⟨ys, rfl, rfl⟩
    · cases h2
    · cases h2
      exact .inl ⟨i, ha, q, t, k1, k2⟩
    · cases h2
      obtain ⟨p', us, e, k1, _, _, _, k2⟩ := q
      cases e
      exact .inr ⟨_, ha, k1, k2⟩
  refine ⟨⟨by rw [List.length_map]; exact len, I.sh, fun j d h => ?_, fun j s xs h hm => ?_, fun j k s t xs ys p h1 m1 h2 m2 g1 g2 => ?_, ⟨I.old.1, fun a ⟨j, s, xs, h1, h2, h3⟩ => by
    rcases spot j s xs a h1 h2 (map_some_get.mp h3) with ⟨i, _, a2, t1, a3, a4⟩ | ⟨us, _, a1, _⟩
    · exact I.old.2 a ⟨i, t1, xs, a3, a4, a2⟩
    · exact fresh_back ox0 a1⟩⟩, spot⟩
  · obtain ⟨a, ha, hsa⟩ := argsS_get hs h
    have hj : j < vs.length := by rw [← r.len]; exact (List.getElem?_eq_some_iff.mp ha).1
    have q := r.at_ j a _ ha (List.getElem?_eq_getElem hj)
    rcases argS_cases hsa with ⟨d', rfl, e⟩ | ⟨_, _, _, _, _, _, e⟩ | ⟨_, _, e⟩
    · cases e
      exact ⟨vs[j], map_some_get.mpr (List.getElem?_eq_getElem hj), q⟩
    · cases e
    · cases e
  · obtain ⟨a, ha, hsa⟩ := argsS_get hs h
    have hj : j < vs.length := by rw [← r.len]; exact (List.getElem?_eq_some_iff.mp ha).1
    have hv := List.getElem?_eq_getElem hj
    have q := r.at_ j a _ ha hv
    rcases argS_cases hsa with ⟨d', rfl, rfl⟩ | ⟨i, t, ys, rfl, k1, k2, rfl⟩ | ⟨ys, rfl, rfl⟩
    · cases hm
    · cases hm
      obtain ⟨p, us, j1, j2, j3, j4⟩ := I.muts i t _ k1 k2
      have q : σ[i]? = some (some vs[j]) := q
      rw [j1] at q
      have e : vs[j] = V.ref p := by injection q with q; injection q with q; exact q.symm
      exact ⟨p, us, map_some_get.mpr (by rw [hv, e]), j2, j3, j4⟩
    · cases hm
      obtain ⟨p, us, e, _, j3, j2, j4, _⟩ := q
      exact ⟨p, us, map_some_get.mpr (by rw [hv, e]), j2, j3, j4⟩
  · have g1 := map_some_get.mp g1
    have g2 := map_some_get.mp g2
    rcases spot j s xs p h1 m1 g1 with ⟨i, a1, a2, t1, a3, a4⟩ | ⟨us, a1, _, a2⟩
    · rcases spot k t ys p h2 m2 g2 with ⟨i', b1, b2, t2, b3, b4⟩ | ⟨ws, b1, _, b2⟩
      · have := I.diff i i' t1 t2 _ _ p a3 a4 b3 b4 a2 b2
        subst this
        exact io_once nd a1 b1
      · exact absurd ⟨i, t1, _, a3, a4, a2⟩ b2
    · rcases spot k t ys p h2 m2 g2 with ⟨i', b1, b2, t2, b3, b4⟩ | ⟨ws, b1, _, b2⟩
      · exact absurd ⟨i', t2, _, b3, b4, b2⟩ a2
      · exact r.nd j k _ _ p a1 b1 g1 g2
theorem put_own {s : Slot} {xs ys : List PyData} (h : s.put ys = .own xs) : ∃ zs, s = .own zs := by
  cases s with
  | own zs => exact ⟨zs, rfl⟩
  | _ => cases h
theorem put_val {s : Slot} {us ys : List PyData} (hm : s.mut = some us) (d : PyData) : s.put ys ≠ .val d := by
  intro h
  cases s
  · cases hm
  · cases hm
  · cases h
  · cases h
/-- behind the call -/
theorem callX_end {Hsa Ha Hs1 H1 : Hp} {e0 e1 : MEnv} (g0 : GoE σ e0 Hsa Ha e1 Hs1 H1) (I0 : InvS K Hsa Ha σ e0) (I : InvS K Hs1 H1 σ e1) {as : List Arg} {vs : List V} {ss ss' : List Slot} (r : ArgsRep K Ha Hs1 H1 σ e1 as vs) (hs : argsS e1 as = some ss) (nd : (ioIx as).Nodup)
    (g : Go (vs.map some) ss Hs1 H1 (vs.map some) ss' Hs' H') (I' : InvS K Hs' H' (vs.map some) ss') : GoE σ e0 Hsa Ha (putB as ss' e1) Hs' H' ∧ InvS K Hs' H' σ (putB as ss' e1) := by
  obtain ⟨IS, spot⟩ := callX_inv I0.old.1 I r hs nd
  have noloc : ∀ p, ¬ LocAt (vs.map some) ss p := fun p ⟨j, xs, h1, _⟩ => by
    obtain ⟨a, _, hsa⟩ := argsS_get hs h1
    rcases argS_cases hsa with ⟨_, _, e⟩ | ⟨_, _, _, _, _, _, e⟩ | ⟨_, _, e⟩ <;> cases e
  have mutOf : ∀ p, MutAt (vs.map some) ss p → (∃ i t xs, i ∈ ioIx as ∧ e1[i]? = some t ∧ t.mut = some xs ∧ σ[i]? = some (some (.ref p))) ∨ (Ha p = none ∧ ¬ MutAt σ e1 p) := fun p ⟨j, s, xs, h1, h2, h3⟩ => by
    rcases spot j s xs p h1 h2 (map_some_get.mp h3) with ⟨i, a1, a2, t1, a3, a4⟩ | ⟨us, _, a1, a2⟩
    · exact .inl ⟨i, t1, xs, ioIx_mem.mpr ⟨j, a1⟩, a3, a4, a2⟩
    · exact .inr ⟨a1, a2⟩
  -- the slot of an io argument, behind the call
  have inn : ∀ i, i ∈ ioIx as → ∃ (j : Nat) (t : Slot) (xs ys : List PyData), as[j]? = some (Arg.io i) ∧ e1[i]? = some t ∧ t.mut = some xs ∧ ss'[j]? = some (Slot.io ys) ∧ (putB as ss' e1)[i]? = some (t.put ys) ∧ ∃ v, vs[j]? = some v ∧ σ[i]? = some (some v) := fun i hi => by
    obtain ⟨j, hj⟩ := ioIx_mem.mp hi
    have hjl : j < ss.length := by rw [argsS_len hs]; exact (List.getElem?_eq_some_iff.mp hj).1
    have hjv : j < vs.length := by rw [← r.len]; exact (List.getElem?_eq_some_iff.mp hj).1
    obtain ⟨a, ha, hsa⟩ := argsS_get hs (List.getElem?_eq_getElem hjl)
    rw [hj] at ha
    cases ha
    rcases argS_cases hsa with ⟨_, e, _⟩ | ⟨i', t, xs, e, k1, k2, k3⟩ | ⟨_, e, _⟩
    · cases e
    · cases e
      have hio : ss[j]? = some (.io xs) := by rw [List.getElem?_eq_getElem hjl, k3]
      obtain ⟨_, ys, hys⟩ := g.io j xs hio
      have hl : i < e1.length := (List.getElem?_eq_some_iff.mp k1).1
      refine ⟨j, t, xs, ys, hj, k1, k2, hys, ?_, vs[j], List.getElem?_eq_getElem hjv, r.at_ j _ _ hj (List.getElem?_eq_getElem hjv)⟩
      rw [putB_in hl nd hj hys, List.getD_eq_getElem?_getD, k1]
      rfl
    · cases e
  have out : ∀ i, i ∉ ioIx as → (putB as ss' e1)[i]? = e1[i]? := fun i hi => putB_out hi
  have getm : ∀ {i : Nat} {s : Slot} {xs : List PyData}, (putB as ss' e1)[i]? = some s → s.mut = some xs → ∃ t zs, e1[i]? = some t ∧ t.mut = some zs ∧ (s = .own xs → t = .own zs) := fun {i s xs} h hm => by
    by_cases hi : i ∈ ioIx as
    · obtain ⟨j, t, zs, ys, _, k1, k2, _, k3, _⟩ := inn i hi
      rw [k3] at h
      cases h
      refine ⟨t, zs, k1, k2, fun e => ?_⟩
      obtain ⟨ws, rfl⟩ := put_own e
      cases k2
      rfl
    · rw [out i hi] at h
      refine ⟨s, xs, h, hm, fun e => e⟩
  refine ⟨⟨g0.sh.trans g.sh, fun p u h n => ?_, fun p u h => ?_, fun p u h => ?_, fun p m => ?_, fun p m => ?_, fun i xs h => ?_⟩, ⟨by rw [putB_length]; exact I.len, I'.sh, fun i d h => ?_, fun i s xs h hm => ?_, fun i j s t xs ys p h1 m1 h2 m2 g1 g2 => ?_, ⟨I'.old.1, fun a ⟨i, s, xs, k1, k2, k3⟩ => by
    obtain ⟨t, zs, k4, k5, _⟩ := getm k1 k2
    exact I.old.2 a ⟨i, t, zs, k4, k5, k3⟩⟩⟩⟩
  · refine g.kp p u (g0.kp p u h n) fun m => ?_
    rcases mutOf p m with ⟨i, t, xs, _, k1, k2, k3⟩ | ⟨k1, _⟩
    · exact n (g0.ow p ⟨i, t, xs, k1, k2, k3⟩)
    · rw [h] at k1
      cases k1
  · obtain ⟨w, hw⟩ := g0.dm p u h
    exact g.dm p w hw
  · rcases g.nw p u h with z | z | z
    · exact g0.nw p u z
    · exact .inr (.inl (g0.none_back z))
    · exact absurd z (noloc p)
  · obtain ⟨i, s, xs, k1, k2, k3⟩ := m
    obtain ⟨t, zs, k4, k5, _⟩ := getm k1 k2
    exact g0.ow p ⟨i, t, zs, k4, k5, k3⟩
  · obtain ⟨i, xs, k1, k3⟩ := m
    obtain ⟨t, zs, k4, k5, k6⟩ := getm k1 (xs := xs) rfl
    have := k6 rfl
    subst this
    exact g0.lo p ⟨i, zs, k4, k3⟩
  · obtain ⟨ys, hy⟩ := g0.io i xs h
    by_cases hi : i ∈ ioIx as
    · obtain ⟨j, t, zs, ws, _, k1, k2, _, k3, _⟩ := inn i hi
      rw [hy] at k1
      cases k1
      exact ⟨ws, k3⟩
    · exact ⟨ys, by rw [out i hi]; exact hy⟩
  · by_cases hi : i ∈ ioIx as
    · obtain ⟨j, t, zs, ws, _, k1, k2, _, k3, _⟩ := inn i hi
      rw [k3] at h
      injection h with h
      exact absurd h (put_val k2 d)
    · rw [out i hi] at h
      obtain ⟨v, h1, h2⟩ := I.vals i d h
      exact ⟨v, h1, Rep.mono g.sh d v h2⟩
  · by_cases hi : i ∈ ioIx as
    · obtain ⟨j, t, zs, ws, _, k1, k2, k4, k3, v, k5, k6⟩ := inn i hi
      rw [k3] at h
      cases h
      rw [Slot.put_mut k2] at hm
      cases hm
      obtain ⟨p, us, j1, j2, j3, j4⟩ := I'.muts j _ _ k4 rfl
      have e := map_some_get.mp j1
      rw [k5] at e
      cases e
      exact ⟨p, us, k6, j2, j3, j4⟩
    · rw [out i hi] at h
      obtain ⟨p, us, j1, j2, j3, j4⟩ := I.muts i s xs h hm
      have nm : ¬ MutAt (vs.map some) ss p := fun m => by
        rcases mutOf p m with ⟨i', t, zs, a1, k1, k2, k3⟩ | ⟨_, k2⟩
        · have := I.diff i i' s t _ _ p h hm k1 k2 j1 k3
          subst this
          exact hi a1
        · exact k2 ⟨i, s, xs, h, hm, j1⟩
      refine ⟨p, us, j1, ?_, g.kp p _ j3 nm, RepL.mono g.sh xs us j4⟩
      cases z : Hs' p with
      | none => rfl
      | some u =>
        rcases g.nw p u z with z1 | z1 | z1
        · rw [j2] at z1; cases z1
        · rw [j3] at z1; cases z1
        · exact absurd z1 (noloc p)
  · obtain ⟨t1, z1, a1, a2, _⟩ := getm h1 m1
    obtain ⟨t2, z2, b1, b2, _⟩ := getm h2 m2
    exact I.diff i j t1 t2 z1 z2 p a1 a2 b1 b2 g1 g2
theorem argOk_all {as : List Arg} {ss : List Slot} (hs : argsS env as = some ss) : ss.all argOk = true := by
  rw [List.all_eq_true]
  intro s hsm
  obtain ⟨j, hj⟩ := List.getElem?_of_mem hsm
  obtain ⟨a, _, hsa⟩ := argsS_get hs hj
  rcases argS_cases hsa with ⟨_, _, e⟩ | ⟨_, _, _, _, _, _, e⟩ | ⟨_, _, e⟩ <;> subst e <;> rfl
theorem rd_callX {n : Nat} {run : Run} {es : List Expr} {fs : MEnv → Option (List Arg × MEnv)} (ha : SX X es fs) {r : Slot} (hf : callX n run fs env = some (r, env')) (I : InvS X.K Hs H σ env) (Q : VK)
    (q : ∀ v Hs' H', GoE σ env Hs H env' Hs' H' → InvS X.K Hs' H' σ env' → RepR X.K H Hs' H' r v → Q v H') (E : XK) : tCall (spF X.K n run) [] E (WA X es) σ H Q := by
  unfold callX at hf
  split at hf
  · rename_i as e1 h1
    split at hf
    · rename_i ss hss
      split at hf
      · rename_i hc
        split at hf
        · rename_i r0 ss' hr
          cases hf
          refine ha.run env σ Hs H as e1 h1 I _ fun vs Hs1 H1 g1 I1 r1 => ?_
          rw [List.append_nil]
          refine ⟨inferInstance, ss, Hs1, r, ss', hc.1, argOk_all hss, hr, (callX_inv I.old.1 I1 r1 hss hc.2).1, fun v Hs' H' g I' rr => ?_⟩
          obtain ⟨ge, ie⟩ := callX_end g1 I I1 r1 hss hc.2 g I'
          exact q v Hs' H' ge ie (RepR.mono (fun p hp => g1.none_back hp) rr)
        · cases hf
      · cases hf
    · cases hf
  · cases hf
theorem se_goX {k n : Nat} {run : Run} {x : Str} {p : Pos} {es : List Expr} {fs : MEnv → Option (List Arg × MEnv)} (o : OwnG X.prog X.w X.K X.mg X.base k x n run) (hG : X.A.guards = some []) (hr : Room k X.A) (hg : Gl X x) (ha : SX X (e :: es) fs)
    (hp : (e :: es).all plainE = true) (hd : (x == ("__debug__" : Str)) = false) : SE X (.Call (.Name x p) (e :: es) [] pos) (callX n run fs) := by
  refine ⟨?_⟩
  intro env σ Hs H r env' hf I Q q
  rw [List.all_cons, Bool.and_eq_true] at hp
  exact W.of (pe_go o.ok hG hr hg o.at_ o.kp o.bi (WA.pa X (e :: es)) hd (star_plain hp.1) (star_any hp.2)) (rd_callX ha hf I Q q E0)
end Ip

set_option Elab.async false
set_option linter.all false
set_option maxRecDepth 100000
set_option maxHeartbeats 4000000
namespace Ip
open PySem L2
open Evl (Ex sz_of fresh_back)
variable [Old]
variable {X : Cx} {a b e o : Expr} {pos : Pos} {K : PySem.W.Frag} {H0 Hs Hs' H H' : Hp} {σ : L2.St} {env env' : MEnv}
/-! ### xs.pop() -/
def popF (i : Nat) : MEnv → Option (Slot × MEnv) := fun env => match env[i]? with
  | some s => match s.mut with
    | some xs => match xs[xs.length - 1]? with
      | some d => some (.val d, env.set i (s.put xs.dropLast))
      | none => none
    | none => none
  | none => none
theorem repL_init : ∀ {ds : List PyData} {vs : List V}, RepL K H ds vs → RepL K H ds.dropLast vs.dropLast := fun {ds vs} h => by
  rw [List.dropLast_eq_take, List.dropLast_eq_take, ← RepL.length h]
  exact RepL.take _ h
theorem se_pop {i : Nat} {x : Str} {px pa : Pos} (hx : PE X (.Name x px) (tVar i)) (hline : (pa.endLine == pos.line) = true) : SE X (.Call (.Attribute (.Name x px) "pop" pa) [] [] pos) (popF i) := by
  refine ⟨?_⟩
  intro env σ Hs H r env' hf I Q q
  unfold popF at hf
  split at hf
  · rename_i s hs
    split at hf
    · rename_i xs hm
      split at hf
      · rename_i d hd
        cases hf
        obtain ⟨p, vs, k1, k2, k3, k4⟩ := I.muts i s xs hs hm
        refine W.of (pe_bm0 (X := X) PySem.F.plainAttrs_list PySem.F.slot_list_pop PySem.F.type_list_pop mt_pop hx rfl hline) ?_
        obtain ⟨v, h1, h2⟩ := RepL.get k4 hd
        refine ⟨.ref p, k1, .inl ⟨rfl, vs, Evl.sq_of k3⟩, p, vs, v, rfl, rfl, k3, by rw [← RepL.length k4]; exact h1, ?_⟩
        have r2 := repL_init k4
        exact q v Hs _ (GoE.change I hs hm k1) (I.change hs hm (Slot.put_mut hm _) k1 r2) h2
      · cases hf
    · cases hf
  · cases hf
/-- an expression for itself -/
def exprB (f : MEnv → Option (Slot × MEnv)) : MEnv → Option Out := fun env => match f env with
  | some (_, e1) => some (.nx e1)
  | none => none
theorem ss_expr {f : MEnv → Option (Slot × MEnv)} (h : SE X e f) (hs : swapsWith e none pos.line X.env = pure false) : SS X (.Expr e pos) (exprB f) := by
  refine ⟨?_⟩
  intro env σ Hs H o hf I D q
  unfold exprB at hf
  split at hf
  · rename_i r e1 h1
    cases hf
    refine WS.of (ps_expr (W.pe X e) hs) ?_
    exact h env σ Hs H r e1 h1 I _ fun v Hs1 H1 g1 I1 _ => q σ Hs1 H1 g1.go I1
  · cases hf
/-! ### in, not in -/
def flatD : PyData → Bool
  | .none => true
  | .bool _ => true
  | .int _ => true
  | .str _ => true
  | _ => false
theorem flat_rep : ∀ {d : PyData} {v : V}, flatD d = true → Rep K H d v → flatV v = true
  | .none, v, _, h => by cases (show v = .non from h); rfl
  | .bool _, v, _, h => by cases (show v = .bl _ from h); rfl
  | .int _, v, _, h => by cases (show v = .int _ from h); rfl
  | .str _, v, _, h => by cases (show v = .str _ from h); rfl
  | .list _, _, h, _ => by cases h
  | .tuple _, _, h, _ => by cases h
  | .dict _, _, h, _ => by cases h
theorem flat_eq : ∀ {c d : PyData} {u v : V}, flatD c = true → flatD d = true → Rep K H c u → Rep K H d v → eqV u v = PyData.eqv c d := by
  intro c d u v hc hd hu hv
  cases c <;> first | (cases hc; done) | skip
  all_goals cases d <;> first | (cases hd; done) | skip
  all_goals
    simp only [Rep] at hu hv
    subst hu hv
    first | rfl | simp [eqV, PyData.eqv]
theorem flats_rep {ds : List PyData} {vs : List V} (h : RepL K H ds vs) (hf : ds.all flatD = true) : vs.all flatV = true := by
  rw [List.all_eq_true] at hf ⊢
  intro v hv
  obtain ⟨j, hj⟩ := List.getElem?_of_mem hv
  have hl : j < ds.length := by rw [RepL.length h]; exact (List.getElem?_eq_some_iff.mp hj).1
  obtain ⟨w, e1, e2⟩ := RepL.get h (List.getElem?_eq_getElem hl)
  rw [hj] at e1
  cases e1
  exact flat_rep (hf _ (List.getElem_mem hl)) e2
theorem in_rep {x : PyData} {u : V} (hx : flatD x = true) (hu : Rep K H x u) : ∀ {ds : List PyData} {vs : List V}, RepL K H ds vs → ds.all flatD = true → inV u vs = ds.any fun z => PyData.eqv z x
  | [], vs, h, _ => by cases (show vs = [] from h); rfl
  | d :: ds, vs, h, hf => by
    obtain ⟨v, r, rfl, h1, h2⟩ := h
    rw [List.all_cons, Bool.and_eq_true] at hf
    have ih := in_rep hx hu h2 hf.2
    unfold inV at ih ⊢
    rw [List.any_cons, List.any_cons, ih, flat_eq hf.1 hx h1 hu]
def inD (neg : Bool) (x : PyData) : PyData → Option Slot
  | .list ds => if flatD x = true ∧ ds.all flatD = true then bV (if neg then !ds.any (fun z => PyData.eqv z x) else ds.any fun z => PyData.eqv z x) else none
  | .tuple ds => if flatD x = true ∧ ds.all flatD = true then bV (if neg then !ds.any (fun z => PyData.eqv z x) else ds.any fun z => PyData.eqv z x) else none
  | _ => none
theorem ok_in {neg : Bool} : R2ok X.K (rIn X.K neg) (inD neg) := by
  intro Hs H σ env x y v u s hs I hx hy Q q
  have rx := Top.rep I.sh hx
  cases y <;> try (cases hs; done)
  · rename_i ds
    unfold inD at hs
    simp only at hs
    split at hs
    · rename_i hc
      cases hs
      obtain ⟨p, vs, rfl, h1, h2⟩ := hy
      have h2' := RepL.mono I.sh ds vs h2
      exact ⟨p, vs, rfl, .inl h1, flat_rep hc.1 rx, flats_rep h2 hc.2, by rw [in_rep hc.1 rx h2' hc.2]; exact ok_val I rfl (show Rep X.K Hs (.bool _) (.bl _) from rfl) q⟩
    · cases hs
  · rename_i ds
    unfold inD at hs
    simp only at hs
    split at hs
    · rename_i hc
      cases hs
      obtain ⟨p, vs, rfl, h1, h2⟩ := hy
      have h2' := RepL.mono I.sh ds vs h2
      exact ⟨p, vs, rfl, .inr (Evl.ex_t I.sh h1), flat_rep hc.1 rx, flats_rep h2 hc.2, by rw [in_rep hc.1 rx h2' hc.2]; exact ok_val I rfl (show Rep X.K Hs (.bool _) (.bl _) from rfl) q⟩
    · cases hs
/-! ### max, min of a list of ints -/
def maxI (n : Int) (ns : List Int) : Int := ns.foldl max n
def minI (n : Int) (ns : List Int) : Int := ns.foldl min n
theorem maxI_ge : ∀ (ns : List Int) (n : Int), n ≤ maxI n ns ∧ ∀ y ∈ ns, y ≤ maxI n ns
  | [], n => ⟨Int.le_refl _, fun y h => by cases h⟩
  | m :: ns, n => by
    obtain ⟨h1, h2⟩ := maxI_ge ns (max n m)
    have e : maxI n (m :: ns) = maxI (max n m) ns := rfl
    rw [e]
    refine ⟨by omega, fun y hy => ?_⟩
    rcases List.mem_cons.mp hy with rfl | h
    · omega
    · exact h2 y h
theorem minI_le : ∀ (ns : List Int) (n : Int), minI n ns ≤ n ∧ ∀ y ∈ ns, minI n ns ≤ y
  | [], n => ⟨Int.le_refl _, fun y h => by cases h⟩
  | m :: ns, n => by
    obtain ⟨h1, h2⟩ := minI_le ns (min n m)
    have e : minI n (m :: ns) = minI (min n m) ns := rfl
    rw [e]
    refine ⟨by omega, fun y hy => ?_⟩
    rcases List.mem_cons.mp hy with rfl | h
    · omega
    · exact h2 y h
theorem maxI_mem : ∀ (ns : List Int) (n : Int), maxI n ns ∈ n :: ns
  | [], n => List.mem_cons_self
  | m :: ns, n => by
    have e : maxI n (m :: ns) = maxI (max n m) ns := rfl
    have h := maxI_mem ns (max n m)
    rw [e]
    rcases List.mem_cons.mp h with h | h
    · rw [h]
      by_cases c : n ≤ m
      · rw [show max n m = m by omega]; simp
      · rw [show max n m = n by omega]; simp
    · exact List.mem_cons_of_mem _ (List.mem_cons_of_mem _ h)
theorem minI_mem : ∀ (ns : List Int) (n : Int), minI n ns ∈ n :: ns
  | [], n => List.mem_cons_self
  | m :: ns, n => by
    have e : minI n (m :: ns) = minI (min n m) ns := rfl
    have h := minI_mem ns (min n m)
    rw [e]
    rcases List.mem_cons.mp h with h | h
    · rw [h]
      by_cases c : n ≤ m
      · rw [show min n m = n by omega]; simp
      · rw [show min n m = m by omega]; simp
    · exact List.mem_cons_of_mem _ (List.mem_cons_of_mem _ h)
def maxD : PyData → Option Slot
  | .list xs => match intsOf xs with
    | some (n :: ns) => some (.val (.int (maxI n ns)))
    | _ => none
  | _ => none
def minD : PyData → Option Slot
  | .list xs => match intsOf xs with
    | some (n :: ns) => some (.val (.int (minI n ns)))
    | _ => none
  | _ => none
theorem ok_max : R1ok X.K (fun v H Q => rMax X.K [v] H Q) maxD := by
  intro Hs H σ env x v s hs I hx Q q
  cases x <;> try (cases hs; done)
  rename_i xs
  unfold maxD at hs
  simp only at hs
  split at hs
  · rename_i n ns hi
    cases hs
    obtain ⟨p, vs, rfl, h1, h2⟩ := hx
    refine ⟨p, n :: ns, rfl, by rw [← intsOf_rep hi h2]; exact h1.1, by simp, fun m hm hle => ?_⟩
    have e : m = maxI n ns := by
      have h3 := hle _ (maxI_mem ns n)
      obtain ⟨h4, h5⟩ := maxI_ge ns n
      rcases List.mem_cons.mp hm with rfl | h
      · omega
      · have := h5 m h; omega
    rw [e]
    exact ok_val I rfl (show Rep X.K Hs (.int _) (.int _) from rfl) q
  · cases hs
theorem ok_min : R1ok X.K (fun v H Q => rMin X.K [v] H Q) minD := by
  intro Hs H σ env x v s hs I hx Q q
  cases x <;> try (cases hs; done)
  rename_i xs
  unfold minD at hs
  simp only at hs
  split at hs
  · rename_i n ns hi
    cases hs
    obtain ⟨p, vs, rfl, h1, h2⟩ := hx
    refine ⟨p, n :: ns, rfl, by rw [← intsOf_rep hi h2]; exact h1.1, by simp, fun m hm hle => ?_⟩
    have e : m = minI n ns := by
      have h3 := hle _ (minI_mem ns n)
      obtain ⟨h4, h5⟩ := minI_le ns n
      rcases List.mem_cons.mp hm with rfl | h
      · omega
      · have := h5 m h; omega
    rw [e]
    exact ok_val I rfl (show Rep X.K Hs (.int _) (.int _) from rfl) q
  · cases hs
/-! ### a display of a dict, and one of its values -/
def baseV : PyData → V
  | .bool b => .bl b
  | .int i => .int i
  | .str s => .str s
  | _ => .non
def isBase : PyData → Bool
  | .none => true
  | .bool _ => true
  | .int _ => true
  | .str _ => true
  | _ => false
theorem base_rep : ∀ {d : PyData}, isBase d = true → Rep K H d (baseV d)
  | .none, _ => rfl
  | .bool _, _ => rfl
  | .int _, _ => rfl
  | .str _, _ => rfl
  | .list _, h => by cases h
  | .tuple _, h => by cases h
  | .dict _, h => by cases h
def keyD : PyData → Option Key
  | .int i => some (.inl i)
  | .str s => some (.inr s)
  | _ => none
def dictD (kvs : List (Key × PyData)) (d : PyData) : Option Slot := match keyD d with
  | some k => ((kvs.find? fun kv => decide (kv.1 = k)).map fun kv => .val kv.2)
  | none => none
def dictF (kvs : List (Key × PyData)) (fe : MEnv → Option (Lr × MEnv)) : MEnv → Option (Slot × MEnv) := op1 fe (dictD kvs)
theorem find_map {κ α β : Type} [DecidableEq κ] (f : α → β) (k : κ) : ∀ kvs : List (κ × α), ((kvs.map fun kv => (kv.1, f kv.2)).find? fun kv => decide (kv.1 = k)) = (kvs.find? fun kv => decide (kv.1 = k)).map fun kv => (kv.1, f kv.2)
  | [] => rfl
  | kv :: kvs => by
    rw [List.map_cons, List.find?_cons, List.find?_cons]
    by_cases h : kv.1 = k
    · simp [h]
    · simp [h, find_map f k kvs]
theorem se_dictix {keys : List (Option Expr)} {values : List Expr} {trs : List (TE × TE)} {p2 : Pos} {fe : MEnv → Option (Lr × MEnv)} (kvs : List (Key × PyData)) (hu : X.A.units + 1 < cLine) (h : PPs X p2 keys values trs) (hall : keys.all (·.isSome) = true) (hl : keys.length = values.length)
    (h0 : keys ≠ []) (h15 : keys.length ≤ 15) (htr : ∀ σ H Q, Q (kvs.map fun kv => (kV kv.1, baseV kv.2)) H → tPairs trs σ H Q) (hk15 : kvs.length ≤ 15) (hm : mergeK [] (kvs.map fun kv => (kv.1, baseV kv.2)) = kvs.map fun kv => (kv.1, baseV kv.2))
    (hb : kvs.all (fun kv => isBase kv.2) = true) (he : SL X e fe) (hp : plainIx e = true) : SE X (.Subscript (.Dict keys values p2) e pos) (dictF kvs fe) := by
  refine ⟨?_⟩
  intro env σ Hs H r env' hf I Q q
  unfold dictF op1 at hf
  split at hf
  · rename_i ra e1 h1
    split at hf
    · rename_i x hx
      split at hf
      · rename_i s hs
        cases hf
        unfold dictD at hs
        split at hs
        · rename_i k hk
          have NS : NoSl e := by
            intro o i
            cases e <;> first | rfl | cases hp
          refine W.of (pe_dget hu (pe_disp h hall hl h0 h15) (W.pe X e) NS) ?_
          intro p hp1
          refine htr _ _ _ ?_
          refine ⟨upd_same, kvs.map fun kv => (kv.1, baseV kv.2), by rw [List.map_map]; rfl, by rw [List.length_map]; exact hk15, ?_⟩
          have I1 := I.lay hp1 (.dK (mergeK [] (kvs.map fun kv => (kv.1, baseV kv.2))))
          have g1 : GoE σ env Hs H env Hs (upd H p (.dK (mergeK [] (kvs.map fun kv => (kv.1, baseV kv.2))))) := GoE.lay hp1 _
          have eu : upd (upd H p (.dK [])) p (.dK (mergeK [] (kvs.map fun kv => (kv.1, baseV kv.2)))) = upd H p (.dK (mergeK [] (kvs.map fun kv => (kv.1, baseV kv.2)))) := by
            funext b
            by_cases e : b = p
            · subst e; rw [upd_same, upd_same]
            · rw [upd_ne e, upd_ne e, upd_ne e]
          rw [eu]
          refine he env σ Hs _ ra env' h1 I1 _ fun v Hs2 H2 g2 I2 r2 => ?_
          have hv := RepLr.top I2 r2 hx
          have nm : ¬ MutAt σ env p := fun m => by
            obtain ⟨_, _, hh⟩ := I.mutAt_some m
            rw [hp1] at hh
            cases hh
          have hd2 : H2 p = some (.dK (mergeK [] (kvs.map fun kv => (kv.1, baseV kv.2)))) := g2.kp p _ upd_same nm
          cases hfnd : kvs.find? fun kv => decide (kv.1 = k) with
          | none => rw [hfnd] at hs; cases hs
          | some kv =>
            rw [hfnd] at hs
            cases hs
            have hbv : isBase kv.2 = true := List.all_eq_true.mp hb kv (List.mem_of_find?_eq_some hfnd)
            refine ⟨p, baseV kv.2, rfl, ?_, q _ Hs2 H2 (g1.trans g2) I2 (base_rep hbv)⟩
            have kv_ : v = kV k := by
              cases x <;> first | (cases hk; done) | skip
              · cases hk; exact hv
              · cases hk; exact hv
            rw [kv_]
            have := DGet.k (k := k) hd2
            unfold valV at this
            rw [hm, find_map baseV k kvs, hfnd] at this
            exact this
        · cases hs
      · cases hf
    · cases hf
  · cases hf
/-! ### xs[::-1] -/
def revD : PyData → Option Slot
  | .list xs => some (.own xs.reverse)
  | _ => none
theorem se_rev {k : Nat} {p1 p2 p3 : Pos} {fa : MEnv → Option (Lr × MEnv)} (ha : SL X a fa) : SE X (.Subscript a (.Slice none none (some (.UnaryOp .USub (.Constant (.int 1) k p1) p2)) p3) pos) (op1 fa revD) := by
  refine se_op1 (r := fun v H Q => ∃ p xs, v = .ref p ∧ SqL X.K H p xs ∧ ∀ q, H q = none → Q (.ref q) (upd H q (.lst xs.reverse))) ha ?_ (pe_revL (W.pe X a))
  intro Hs H σ env x v s hs I hx Q q
  cases x <;> try (cases hs; done)
  cases hs
  obtain ⟨p, vs, rfl, h1, h2⟩ := hx
  exact ⟨p, vs, rfl, h1, ok_newL I rfl (RepL.reverse h2) q⟩
end Ip
namespace Ip
open PySem L2
variable [Old]
theorem rm200 {k : Nat} {A : Around} (r : Room k A) : A.units + 200 < cLine := by have := r.un; omega
theorem rm1 {k : Nat} {A : Around} (r : Room k A) : A.units + 1 < cLine := by have := r.un; omega
end Ip
namespace Ip
open PySem L2
variable [Old]
def cellB (sc : Scope) (y : Str) : Bool := match sc.names.lookup y with
  | some .cell => true
  | _ => false
/-- a comprehension stored in a cell -/
theorem swCell {X : Cx} {N : List Str} {sc : Scope} {fl : Bool} (c : CtxF X N sc fl) {elt : Expr} {gs : List Comprehension} {scope : Scope} {pos py : Pos} {y : Str} {l : Nat} (h : cellB sc y = true) : swapsWith (.ListComp elt gs scope pos) (some (.Name y py)) l X.env = pure false := by
  have k : X.env.kindOf y = some .cell := by
    show X.env.scope.names.lookup y = some .cell
    rw [c.hsc]
    unfold cellB at h
    split at h
    · assumption
    · cases h
  unfold swapsWith
  simp only [k]
  have e : (some NameKind.cell == some NameKind.local) = false := by decide
  rw [e]
  simp
end Ip

set_option Elab.async false
set_option linter.all false
set_option maxRecDepth 100000
set_option maxHeartbeats 4000000
namespace Ip
open PySem L2
open Evl (Ex sz_of fresh_back)
variable [Old]
variable {X : Cx} {a b e o : Expr} {pos : Pos} {K : PySem.W.Frag} {H0 Hs Hs' H H' : Hp} {σ : L2.St} {env env' : MEnv}
/-! ### xs.extend(e), e a new list -/
def extB (i : Nat) (f : MEnv → Option (Slot × MEnv)) : MEnv → Option Out := fun env => match env[i]? with
  | some s0 => match s0.mut with
    | some _ => match f env with
      | some (.own ys, e1) => match e1[i]? with
        | some s => match s.mut with
          | some xs => if xs.length + ys.length ≤ 100000 then some (.nx (e1.set i (s.put (xs ++ ys)))) else none
          | none => none
        | none => none
      | _ => none
    | none => none
  | none => none
theorem ss_ext {i : Nat} {x : Str} {px pa p2 : Pos} {f : MEnv → Option (Slot × MEnv)} (hx : PE X (.Name x px) (tVar i)) (h : SE X e f) (hp : plainE e = true) (hline : (pa.endLine == p2.line) = true) :
    SS X (.Expr (.Call (.Attribute (.Name x px) "extend" pa) [e] [] p2) pos) (extB i f) := by
  refine ⟨?_⟩
  intro env σ Hs H o hf I D q
  unfold extB at hf
  split at hf
  · rename_i s0 h0
    split at hf
    · rename_i xs0 m0
      split at hf
      · rename_i ys e1 h1
        split at hf
        · rename_i s hs
          split at hf
          · rename_i xs hm
            split at hf
            · rename_i hz
              cases hf
              obtain ⟨p, vs0, k1, k2, k3, k4⟩ := I.muts i s0 xs0 h0 m0
              have pe := pe_bm (X := X) PySem.F.plainAttrs_list PySem.F.slot_list_extend PySem.F.type_list_extend mt_extend hx (pa_cons (W.pe X e) pa_nil (star_plain hp)) (apos := pa) (cpos := p2) (by rfl) (by rw [star_plain hp]; rfl) hline (star_plain hp) rfl
              refine WS.of (ps_expr pe) ?_
              refine ⟨.ref p, k1, .inl ⟨rfl, vs0, Evl.sq_of k3⟩, ?_⟩
              refine h env σ Hs H _ e1 h1 I _ fun v Hs1 H1 g1 I1 r1 => ?_
              obtain ⟨p2, us, rfl, n1, n2, n3, n4⟩ := r1
              obtain ⟨p', vs, j1, j2, j3, j4⟩ := I1.muts i s xs hs hm
              rw [k1] at j1
              cases j1
              refine ⟨p, p2, vs, us, rfl, rfl, j3, n3, sz_of (by rw [← RepL.length j4, ← RepL.length n4]; exact hz), ?_⟩
              have r2 : RepL X.K Hs1 (xs ++ ys) (vs ++ us) := RepL.app j4 n4
              exact q σ Hs1 _ (g1.trans (GoE.change I1 hs hm k1)).go (I1.change hs hm (Slot.put_mut hm _) k1 r2)
            · cases hf
          · cases hf
        · cases hf
      · cases hf
    · cases hf
  · cases hf
/-! ### a starred list among the items of a display -/
def consS (fe : MEnv → Option (PyData × MEnv)) (fs : MEnv → Option (List PyData × MEnv)) : MEnv → Option (List PyData × MEnv) := fun env => match fe env with
  | some (.list xs, e1) => match fs e1 with
    | some (ds, e2) => some (xs ++ ds, e2)
    | none => none
  | some (.tuple xs, e1) => match fs e1 with
    | some (ds, e2) => some (xs ++ ds, e2)
    | none => none
  | some (.dict [(.none, .list xs)], e1) => match fs e1 with
    | some (ds, e2) => some (xs.map oldOf ++ ds, e2)
    | none => none
  | _ => none
theorem sa_star {es : List Expr} {p : Pos} {fe : MEnv → Option (PyData × MEnv)} {fs : MEnv → Option (List PyData × MEnv)} (h : SV X e fe) (hs : SA X es fs) : SA X (.Starred e p :: es) (consS fe fs) := by
  refine ⟨?_⟩
  intro env σ Hs H ds env' hf I Q q
  unfold consS at hf
  split at hf
  · rename_i xs e1 h1
    split at hf
    · rename_i ds2 e2 h2
      cases hf
      refine WA.of (StX.pa_star (W.pe X e) (WA.pa X es)) ?_
      refine h env σ Hs H _ e1 h1 I _ fun v Hs1 H1 g1 I1 r1 => ?_
      obtain ⟨a, us, rfl, k1, k2⟩ := r1
      refine ⟨a, us, rfl, .inr (ex_nl I1.sh k1), ?_⟩
      exact hs e1 σ Hs1 H1 ds2 env' h2 I1 _ fun vs Hs2 H2 g2 I2 r2 => q (us ++ vs) Hs2 H2 (g1.trans g2) I2 (RepL.app (RepL.mono g2.sh _ _ k2) r2)
    · cases hf
  · rename_i xs e1 h1
    split at hf
    · rename_i ds2 e2 h2
      cases hf
      refine WA.of (StX.pa_star (W.pe X e) (WA.pa X es)) ?_
      refine h env σ Hs H _ e1 h1 I _ fun v Hs1 H1 g1 I1 r1 => ?_
      obtain ⟨a, us, rfl, k1, k2⟩ := r1
      refine ⟨a, us, rfl, .inl (Evl.ex_t I1.sh k1), ?_⟩
      exact hs e1 σ Hs1 H1 ds2 env' h2 I1 _ fun vs Hs2 H2 g2 I2 r2 => q (us ++ vs) Hs2 H2 (g1.trans g2) I2 (RepL.app (RepL.mono g2.sh _ _ k2) r2)
    · cases hf
  · rename_i xs e1 h1
    split at hf
    · rename_i ds2 e2 h2
      cases hf
      refine WA.of (StX.pa_star (W.pe X e) (WA.pa X es)) ?_
      refine h env σ Hs H _ e1 h1 I _ fun v Hs1 H1 g1 I1 r1 => ?_
      obtain ⟨a, us, rfl, k1, k2⟩ := old_list (show Rep X.K Hs1 (oldD (.list xs)) v from r1)
      refine ⟨a, us, rfl, .inr (Evl.ex_l I1.old.1 k1), ?_⟩
      exact hs e1 σ Hs1 H1 ds2 env' h2 I1 _ fun vs Hs2 H2 g2 I2 r2 => q (us ++ vs) Hs2 H2 (g1.trans g2) I2 (RepL.app (RepL.mono g2.sh _ _ k2) r2)
    · cases hf
  · cases hf
end Ip

set_option Elab.async false
set_option linter.all false
set_option maxRecDepth 100000
set_option maxHeartbeats 4000000
namespace Ip
open PySem L2
open Evl (Ex sz_of fresh_back)
variable [Old]
variable {X : Cx} {a b e o : Expr} {pos : Pos} {K : PySem.W.Frag} {H0 Hs Hs' H H' : Hp} {σ : L2.St} {env env' : MEnv}
/-! ### own defs without arguments -/
theorem pe_go0 {k : Nat} {f : Addr} {fd : FuncData} {ps : List Str} {sp : Sp} {x : Str} {p : Pos} (F : FnG X.prog X.w X.K X.mg X.base k f fd ps sp) (hG : X.A.guards = some []) (hr : Room k X.A) (hg : Gl X x)
    (hm : X.mg x = some (.ref f)) (hk : PySem.W.keepIn X.K (.ref f) = true) (hb : Binds X.K fd ps []) (hd : (x == ("__debug__" : Str)) = false) : PE X (.Call (.Name x p) [] [] pos) (fun σ H Q => sp [] H Q E0) :=
  .mk fun pins s σ H Q I h => wpAny_Call_Name_kw (ld_glob I hg hm (PySem.W.callWith_K0 I.kIn hk (run_go F hG hr hb I .nil h)) hd)
theorem se_go0 {k : Nat} {run : Run} {x : Str} {p : Pos} (o : OwnG X.prog X.w X.K X.mg X.base k x 0 run) (hG : X.A.guards = some []) (hr : Room k X.A) (hg : Gl X x)
    (hd : (x == ("__debug__" : Str)) = false) : SE X (.Call (.Name x p) [] [] pos) (callF 0 run (fun env => some ([], env))) := by
  refine ⟨?_⟩
  intro env σ Hs H r env' hf I Q q
  refine W.of (pe_go0 o.ok hG hr hg o.at_ o.kp o.bi hd) ?_
  unfold callF at hf
  simp only [List.length_nil, if_true, List.map_nil] at hf
  split at hf
  · rename_i r0 args' hr
    cases hf
    refine ⟨inferInstance, [], Hs, r, args', rfl, rfl, hr, ⟨rfl, I.sh, fun i d h => (by cases h), fun i s xs h hm => (by cases h), fun i j s t xs ys p h1 m1 _ _ _ _ => (by cases h1), ⟨I.old.1, fun a ⟨i, s, xs, h, _⟩ => (by cases h)⟩⟩, fun v Hs' H' g I' rr => ?_⟩
    have nomut : ∀ a, ¬ MutAt [] [] a := fun a ⟨i, s, xs, e1, e2, _⟩ => (by cases e1)
    have noloc : ∀ a, ¬ LocAt [] [] a := fun a m => nomut a m.mut
    have back : ∀ p o, H p = some o → Hs p = none → Hs' p = none := fun p o hp hn => by
      cases z : Hs' p with
      | none => rfl
      | some u =>
        rcases g.nw p u z with z1 | z1 | z1
        · rw [hn] at z1; cases z1
        · rw [hp] at z1; cases z1
        · exact absurd z1 (noloc p)
    have ge : GoE σ env Hs H env Hs' H' := ⟨g.sh, fun a o h _ => g.kp a o h (nomut a), g.dm, fun a o h => (g.nw a o h).elim .inl fun z => z.elim (fun z => .inr (.inl z)) fun z => absurd z (noloc a), fun _ h => h, fun _ h => h, fun _ xs h => ⟨xs, h⟩⟩
    refine q v Hs' H' ge ⟨I.len, I'.sh, fun i d h => ?_, fun i s xs h hm => ?_, I.diff, ⟨I'.old.1, I.old.2⟩⟩ rr
    · obtain ⟨w, k1, k2⟩ := I.vals i d h
      exact ⟨w, k1, Rep.mono g.sh d w k2⟩
    · obtain ⟨p, us, k1, k2, k3, k4⟩ := I.muts i s xs h hm
      exact ⟨p, us, k1, back p _ k3 k2, g.kp p _ k3 (nomut p), RepL.mono g.sh xs us k4⟩
  · cases hf
/-! ### in, not in of lists of data -/
def inA (neg : Bool) (x : PyData) : PyData → Option Slot
  | .list ds => if SeqAt.shaped x = true ∧ SeqAt.shaped (.list ds) = true then bV (if neg then !ds.any (fun z => PyData.eqv z x) else ds.any fun z => PyData.eqv z x) else none
  | _ => none
theorem ok_inA : R2ok X.K (rInD X.K) (inA false) := by
  intro Hs H σ env x y v u s hs I hx hy Q q
  cases y <;> try (cases hs; done)
  rename_i ds
  unfold inA at hs
  simp only at hs
  split at hs
  · rename_i hc
    cases hs
    exact ⟨x, ds, Rep.dp x v (Top.rep I.sh hx) (nd_shaped hc.1), Rep.dp _ u (Top.rep I.sh hy) (nd_shaped hc.2), hc.1, hc.2, ok_val I rfl (show Rep X.K Hs (.bool _) (.bl _) from rfl) q⟩
  · cases hs
theorem ok_ninA : R2ok X.K (rNotInD X.K) (inA true) := by
  intro Hs H σ env x y v u s hs I hx hy Q q
  cases y <;> try (cases hs; done)
  rename_i ds
  unfold inA at hs
  simp only at hs
  split at hs
  · rename_i hc
    cases hs
    exact ⟨x, ds, Rep.dp x v (Top.rep I.sh hx) (nd_shaped hc.1), Rep.dp _ u (Top.rep I.sh hy) (nd_shaped hc.2), hc.1, hc.2, ok_val I rfl (show Rep X.K Hs (.bool _) (.bl _) from rfl) q⟩
  · cases hs
/-! ### reversed, enumerate, zip -/
theorem walk_rvL {a : Addr} {ds : List PyData} {vs : List V} (h : SqL K Hs a vs) (r : RepL K Hs ds vs) : WalkD K (Itv K a vs.length) Hs ds.reverse := by
  unfold WalkD
  rw [List.length_reverse, RepL.length r]
  refine Walk.mono (walk_rev (K := K) (a := a) (xs := vs)) (fun H ⟨Hx, h1, h2, _⟩ => Evl.ex_l (h1.trans h2) h) fun i H x H' hi hg y => ?_
  obtain ⟨rfl, e⟩ := y
  have hl := RepL.length r
  have hi' : vs.length - 1 - i < ds.length := by omega
  obtain ⟨w, h1, h2⟩ := RepL.get r (List.getElem?_eq_getElem hi')
  rw [e] at h1
  cases h1
  refine ⟨ds[vs.length - 1 - i], ?_, fun Hx h3 h4 σ env I => ⟨Hx, GoE.refl, I, Rep.mono h3 _ _ h2⟩⟩
  rw [List.getElem?_reverse (by omega), List.getElem?_eq_some_iff]
  exact ⟨by omega, by simp only [hl]⟩
theorem walk_rvT {a : Addr} {ds : List PyData} {vs : List V} (h : SqT K Hs a vs) (r : RepL K Hs ds vs) : WalkD K (RT.ItvT K a vs.length) Hs ds.reverse := by
  have w : Walk (RT.ItvT K a vs.length) vs.length (fun H => SqT K H a vs) (fun i H x H' => H' = H ∧ vs[vs.length - 1 - i]? = some x) :=
    ⟨fun i _ hi q => ⟨hi, vs, vs[vs.length - 1 - i]'(by omega), q, by simp [show vs.length - 1 - i < vs.length by omega]⟩, fun _ _ => Nat.le_refl _, fun _ _ _ _ _ q y => ⟨y.1, y.2 vs q⟩⟩
  unfold WalkD
  rw [List.length_reverse, RepL.length r]
  refine Walk.mono w (fun H ⟨Hx, h1, h2, _⟩ => Evl.ex_t (h1.trans h2) h) fun i H x H' hi hg y => ?_
  obtain ⟨rfl, e⟩ := y
  have hl := RepL.length r
  have hi' : vs.length - 1 - i < ds.length := by omega
  obtain ⟨w, h1, h2⟩ := RepL.get r (List.getElem?_eq_getElem hi')
  rw [e] at h1
  cases h1
  refine ⟨ds[vs.length - 1 - i], ?_, fun Hx h3 h4 σ env I => ⟨Hx, GoE.refl, I, Rep.mono h3 _ _ h2⟩⟩
  rw [List.getElem?_reverse (by omega), List.getElem?_eq_some_iff]
  exact ⟨by omega, by simp only [hl]⟩
def revI (f : MEnv → Option (PyData × MEnv)) : MEnv → Option (List PyData × MEnv) := fun env => match f env with
  | some (.list xs, e1) => some (xs.reverse, e1)
  | some (.tuple xs, e1) => some (xs.reverse, e1)
  | _ => none
theorem si_rev {tg : Expr} {p : Pos} {f : MEnv → Option (PyData × MEnv)} (hg : Gl X "reversed") (hm : X.mg "reversed" = none) (h : SV X e f) (hs : plainE e = true) : SI X tg (.Call (.Name "reversed" p) [e] [] pos) (revI f) := by
  refine ⟨?_⟩
  intro env σ Hs H ds env' hf I R q
  unfold revI at hf
  split at hf
  · rename_i xs e1 h1
    cases hf
    refine WI.of (RT.pi_revA hg hm (W.pe X e) (star_plain hs)) ?_
    refine h env σ Hs H _ env' h1 I _ fun v Hs1 H1 g1 I1 r1 => ?_
    obtain ⟨a, vs, rfl, k1, k2⟩ := r1
    exact ⟨a, vs, rfl, .inl ⟨ex_nl I1.sh k1, q _ Hs1 H1 g1 I1 (walk_rvL k1 k2)⟩⟩
  · rename_i xs e1 h1
    cases hf
    refine WI.of (RT.pi_revA hg hm (W.pe X e) (star_plain hs)) ?_
    refine h env σ Hs H _ env' h1 I _ fun v Hs1 H1 g1 I1 r1 => ?_
    obtain ⟨a, vs, rfl, k1, k2⟩ := r1
    exact ⟨a, vs, rfl, .inr ⟨Evl.ex_t I1.sh k1, q _ Hs1 H1 g1 I1 (walk_rvT k1 k2)⟩⟩
  · cases hf
/-- new pairs -/
theorem pair_new {T : Addr} {x y : V} {c d : PyData} (hT : H T = none) (rc : Rep K Hs c x) (rd : Rep K Hs d y) (I : InvS K Hs H σ env) :
    GoE σ env Hs H env (upd Hs T (.tup [x, y])) (upd H T (.tup [x, y])) ∧ InvS K (upd Hs T (.tup [x, y])) (upd H T (.tup [x, y])) σ env ∧ Rep K (upd Hs T (.tup [x, y])) (.tuple [c, d]) (.ref T) := by
  have ex : Ex Hs (upd Hs T (.tup [x, y])) := Ex.new (fresh_back I.sh hT)
  exact ⟨GoE.share I hT _, I.share hT _, T, [x, y], rfl, .inl (.inl upd_same), x, [y], rfl, Rep.mono ex c x rc, y, [], rfl, Rep.mono ex d y rd, rfl⟩
def enumL : Nat → List PyData → List PyData
  | _, [] => []
  | i, d :: ds => .tuple [.int (i : Int), d] :: enumL (i + 1) ds
theorem enumL_len : ∀ (ds : List PyData) (i : Nat), (enumL i ds).length = ds.length
  | [], _ => rfl
  | d :: ds, i => congrArg (· + 1) (enumL_len ds (i + 1))
theorem enumL_get : ∀ (ds : List PyData) (j i : Nat) (d : PyData), ds[i]? = some d → (enumL j ds)[i]? = some (.tuple [.int ((j + i : Nat) : Int), d])
  | [], _, _, _, h => by simp at h
  | c :: ds, j, 0, d, h => by cases h; rfl
  | c :: ds, j, i + 1, d, h => by
    have := enumL_get ds (j + 1) i d h
    rw [show j + (i + 1) = j + 1 + i by omega]
    exact this
theorem ex_lo {a : Addr} {vs : List V} (h : SqL K Hs a vs ∨ SqL K Old.Ho a vs) {Hx : Hp} (h1 : Ex Hs Hx) (h2 : Ex Hx H) (h3 : Ex Old.Ho H) : SqL K H a vs := by
  rcases h with h | h
  · exact Evl.ex_l (h1.trans h2) h
  · exact Evl.ex_l h3 h
theorem walk_en {a : Addr} {ds : List PyData} {vs : List V} (h : SqL K Hs a vs ∨ SqL K Old.Ho a vs) (r : RepL K Hs ds vs) : WalkD K (Ite K a) Hs (enumL 0 ds) := by
  unfold WalkD
  rw [enumL_len, RepL.length r]
  refine Walk.mono (walk_enum (K := K) (a := a) (xs := vs)) (fun H ⟨Hx, h1, h2, h3⟩ => ex_lo h h1 h2 h3) fun i H v H' hi hg y => ?_
  obtain ⟨T, x, z, rfl, hT, rfl, e1, e2⟩ := y
  cases e1
  have hi' : i < ds.length := by rw [RepL.length r]; exact hi
  obtain ⟨w, h1, h2⟩ := RepL.get r (List.getElem?_eq_getElem hi')
  have e2 : vs[i]? = some z := e2
  rw [e2] at h1
  cases h1
  refine ⟨.tuple [.int ((0 + i : Nat) : Int), ds[i]], enumL_get ds 0 i _ (List.getElem?_eq_getElem hi'), fun Hx h3 h4 σ env I => ?_⟩
  have hh := pair_new (c := .int ((0 + i : Nat) : Int)) (x := .int (i : Nat)) hT (show V.int (i : Nat) = V.int _ by rw [Nat.zero_add]) (Rep.mono h3 _ _ h2) I
  exact ⟨_, hh⟩
def enumI (f : MEnv → Option (PyData × MEnv)) : MEnv → Option (List PyData × MEnv) := fun env => match f env with
  | some (.list xs, e1) => some (enumL 0 xs, e1)
  | some (.dict [(.none, .list xs)], e1) => some (enumL 0 (xs.map oldOf), e1)
  | _ => none
theorem si_enum {elts : List Expr} {kk : Nat} {tpos p : Pos} {f : MEnv → Option (PyData × MEnv)} (hg : Gl X "enumerate") (hm : X.mg "enumerate" = none) (h : SV X e f) (hs : plainE e = true) : SI X (.Tuple elts kk tpos) (.Call (.Name "enumerate" p) [e] [] pos) (enumI f) := by
  refine ⟨?_⟩
  intro env σ Hs H ds env' hf I R q
  unfold enumI at hf
  split at hf
  · rename_i xs e1 h1
    cases hf
    refine WI.of (pi_enum hg hm (pa_cons (W.pe X e) pa_nil (star_plain hs)) (star_plain hs)) ?_
    refine h env σ Hs H _ env' h1 I _ fun v Hs1 H1 g1 I1 r1 => ?_
    obtain ⟨a, vs, rfl, k1, k2⟩ := r1
    exact ⟨a, vs, rfl, ex_nl I1.sh k1, q _ Hs1 H1 g1 I1 (walk_en (.inl k1) k2)⟩
  · rename_i xs e1 h1
    cases hf
    refine WI.of (pi_enum hg hm (pa_cons (W.pe X e) pa_nil (star_plain hs)) (star_plain hs)) ?_
    refine h env σ Hs H _ env' h1 I _ fun v Hs1 H1 g1 I1 r1 => ?_
    obtain ⟨a, vs, rfl, k1, k2⟩ := old_list (show Rep X.K Hs1 (oldD (.list xs)) v from r1)
    exact ⟨a, vs, rfl, Evl.ex_l I1.old.1 k1, q _ Hs1 H1 g1 I1 (walk_en (.inr k1) k2)⟩
  · cases hf
def zipL : List PyData → List PyData → List PyData
  | c :: cs, d :: ds => .tuple [c, d] :: zipL cs ds
  | _, _ => []
theorem zipL_len : ∀ (cs ds : List PyData), (zipL cs ds).length = min cs.length ds.length
  | [], _ => by simp [zipL]
  | _ :: _, [] => by simp [zipL]
  | c :: cs, d :: ds => by simp [zipL, zipL_len cs ds, Nat.succ_min_succ]
theorem zipL_get : ∀ (cs ds : List PyData) (i : Nat) (c d : PyData), cs[i]? = some c → ds[i]? = some d → (zipL cs ds)[i]? = some (.tuple [c, d])
  | [], _, _, _, _, h, _ => by simp at h
  | _ :: _, [], _, _, _, _, h => by simp at h
  | c :: cs, d :: ds, 0, _, _, h1, h2 => by cases h1; cases h2; rfl
  | c :: cs, d :: ds, i + 1, x, y, h1, h2 => zipL_get cs ds i x y h1 h2
theorem walk_zp {a b : Addr} {cs ds : List PyData} {xs ys : List V} (ha : SqL K Hs a xs ∨ SqL K Old.Ho a xs) (hb : SqL K Hs b ys ∨ SqL K Old.Ho b ys) (ra : RepL K Hs cs xs) (rb : RepL K Hs ds ys) : WalkD K (Itz K a b) Hs (zipL cs ds) := by
  unfold WalkD
  rw [zipL_len, RepL.length ra, RepL.length rb]
  refine Walk.mono (walk_zip (K := K) (a := a) (b := b) (xs := xs) (ys := ys) rfl) (fun H ⟨Hx, h1, h2, h3⟩ => ⟨ex_lo ha h1 h2 h3, ex_lo hb h1 h2 h3⟩) fun i H v H' hi hg y => ?_
  obtain ⟨T, x, z, rfl, hT, rfl, e1, e2⟩ := y
  have la := RepL.length ra
  have lb := RepL.length rb
  have i1 : i < cs.length := by omega
  have i2 : i < ds.length := by omega
  obtain ⟨w, h1, h2⟩ := RepL.get ra (List.getElem?_eq_getElem i1)
  obtain ⟨w', h1', h2'⟩ := RepL.get rb (List.getElem?_eq_getElem i2)
  have e1 : xs[i]? = some x := e1
  have e2 : ys[i]? = some z := e2
  rw [e1] at h1
  rw [e2] at h1'
  cases h1
  cases h1'
  exact ⟨.tuple [cs[i], ds[i]], zipL_get cs ds i _ _ (List.getElem?_eq_getElem i1) (List.getElem?_eq_getElem i2), fun Hx h3 h4 σ env I => ⟨_, pair_new hT (Rep.mono h3 _ _ h2) (Rep.mono h3 _ _ h2') I⟩⟩
def zipI (f : MEnv → Option (List PyData × MEnv)) : MEnv → Option (List PyData × MEnv) := fun env => match f env with
  | some ([.list xs, .list ys], e1) => some (zipL xs ys, e1)
  | some ([.dict [(.none, .list xs)], .list ys], e1) => some (zipL (xs.map oldOf) ys, e1)
  | some ([.list xs, .dict [(.none, .list ys)]], e1) => some (zipL xs (ys.map oldOf), e1)
  | some ([.dict [(.none, .list xs)], .dict [(.none, .list ys)]], e1) => some (zipL (xs.map oldOf) (ys.map oldOf), e1)
  | _ => none
theorem si_zip {elts : List Expr} {kk : Nat} {tpos p : Pos} {f : MEnv → Option (List PyData × MEnv)} (hg : Gl X "zip") (hm : X.mg "zip" = none) (h : SA X [a, b] f) (hp : plainE a = true) (hp2 : plainE b = true) : SI X (.Tuple elts kk tpos) (.Call (.Name "zip" p) [a, b] [] pos) (zipI f) := by
  refine ⟨?_⟩
  intro env σ Hs H ds env' hf I R q
  unfold zipI at hf
  split at hf
  · rename_i xs ys e1 h1
    cases hf
    refine WI.of (RZ.pi_zipA hg hm (WA.pa X [a, b]) (by rw [star_plain hp]) (star_any (by simp [hp2]))) ?_
    refine h env σ Hs H _ env' h1 I _ fun vs Hs1 H1 g1 I1 r1 => ?_
    obtain ⟨v, r, rfl, ⟨p1, us, rfl, k1, k2⟩, w, r', rfl, ⟨p2, ws, rfl, k3, k4⟩, r0⟩ := r1
    cases (show r' = [] from r0)
    exact ⟨p1, p2, us, ws, rfl, .inl ⟨ex_nl I1.sh k1, ex_nl I1.sh k3, q _ Hs1 H1 g1 I1 (walk_zp (.inl k1) (.inl k3) k2 k4)⟩⟩
  · rename_i xs ys e1 h1
    cases hf
    refine WI.of (RZ.pi_zipA hg hm (WA.pa X [a, b]) (by rw [star_plain hp]) (star_any (by simp [hp2]))) ?_
    refine h env σ Hs H _ env' h1 I _ fun vs Hs1 H1 g1 I1 r1 => ?_
    obtain ⟨v, r, rfl, rv, w, r', rfl, ⟨p2, ws, rfl, k3, k4⟩, r0⟩ := r1
    obtain ⟨p1, us, rfl, k1, k2⟩ := old_list (show Rep X.K Hs1 (oldD (.list xs)) v from rv)
    cases (show r' = [] from r0)
    exact ⟨p1, p2, us, ws, rfl, .inl ⟨Evl.ex_l I1.old.1 k1, ex_nl I1.sh k3, q _ Hs1 H1 g1 I1 (walk_zp (.inr k1) (.inl k3) k2 k4)⟩⟩
  · rename_i xs ys e1 h1
    cases hf
    refine WI.of (RZ.pi_zipA hg hm (WA.pa X [a, b]) (by rw [star_plain hp]) (star_any (by simp [hp2]))) ?_
    refine h env σ Hs H _ env' h1 I _ fun vs Hs1 H1 g1 I1 r1 => ?_
    obtain ⟨v, r, rfl, ⟨p1, us, rfl, k1, k2⟩, w, r', rfl, rw', r0⟩ := r1
    obtain ⟨p2, ws, rfl, k3, k4⟩ := old_list (show Rep X.K Hs1 (oldD (.list ys)) w from rw')
    cases (show r' = [] from r0)
    exact ⟨p1, p2, us, ws, rfl, .inl ⟨ex_nl I1.sh k1, Evl.ex_l I1.old.1 k3, q _ Hs1 H1 g1 I1 (walk_zp (.inl k1) (.inr k3) k2 k4)⟩⟩
  · rename_i xs ys e1 h1
    cases hf
    refine WI.of (RZ.pi_zipA hg hm (WA.pa X [a, b]) (by rw [star_plain hp]) (star_any (by simp [hp2]))) ?_
    refine h env σ Hs H _ env' h1 I _ fun vs Hs1 H1 g1 I1 r1 => ?_
    obtain ⟨v, r, rfl, rv, w, r', rfl, rw', r0⟩ := r1
    obtain ⟨p1, us, rfl, k1, k2⟩ := old_list (show Rep X.K Hs1 (oldD (.list xs)) v from rv)
    obtain ⟨p2, ws, rfl, k3, k4⟩ := old_list (show Rep X.K Hs1 (oldD (.list ys)) w from rw')
    cases (show r' = [] from r0)
    exact ⟨p1, p2, us, ws, rfl, .inl ⟨Evl.ex_l I1.old.1 k1, Evl.ex_l I1.old.1 k3, q _ Hs1 H1 g1 I1 (walk_zp (.inr k1) (.inr k3) k2 k4)⟩⟩
  · cases hf
/-! ### a, b = x, y -/
section
variable {N : List Str} {sc : Scope} {fl : Bool}
def starB : Expr → Bool
  | .Starred .. => true
  | _ => false
def funB (sc : Scope) : Bool := (if sc.kind.isAnnotationScope then ScopeKind.function else sc.kind) == .function
def parSc (sc : Scope) (x y : Str) : Bool := (sc.names.lookup x == some .local) && ((sc.names.lookup y == some .local) && (funB sc && !(x == y)))
theorem sw2 (c : CtxF X N sc fl) {x y : Str} {px py pt pt2 : Pos} {kt k2} (h : parSc sc x y = true) (hl : (py.line == px.line) = true) (ha : starB a = false) (hb : starB b = false)
    (hf : [a, b].all (foldedForSure 8) = false) (hk : [a, b].all (constantsAlone 8) = false) :
    swappedStores [.Tuple [.Name x px, .Name y py] kt pt] (.Tuple [a, b] k2 pt2) X.env = pure (some [x, y]) := by
  unfold parSc at h
  simp only [Bool.and_eq_true, Bool.not_eq_true'] at h
  obtain ⟨h1, h2, h3, h4⟩ := h
  have k1 : (X.env.kindOf x == some .local) = true := by unfold Env.kindOf; rw [c.hsc]; exact h1
  have k2' : (X.env.kindOf y == some .local) = true := by unfold Env.kindOf; rw [c.hsc]; exact h2
  have k3 : (X.env.blockKind == .function) = true := by unfold Env.blockKind; rw [c.hsc]; exact h3
  have k3' : (X.env.blockKind != .function) = false := by simp only [bne, k3]; rfl
  unfold swappedStores
  have e1 : ([a, b].any fun | .Starred .. => true | _ => false) = false := by
    simp only [List.any_cons, List.any_nil, Bool.or_false]
    have g : ∀ e, starB e = false → (match e with | .Starred .. => true | _ => false) = false := by
      intro e he; cases e <;> first | rfl | cases he
    rw [g a ha, g b hb]; rfl
  have e2 : (y == x) = false := by
    rw [Bool.eq_false_iff] at h4 ⊢
    intro z; apply h4; rw [eq_of_beq z]; exact beq_self_eq_true _
  simp only [List.length_cons, List.length_nil, k3']
  rw [if_neg (by decide)]
  refine Eq.trans (if_neg ?_) ?_
  · intro z
    have z' : ([a, b].any fun | .Starred .. => true | _ => false) = true := z
    rw [e1] at z'
    cases z'
  have fm : (List.filterMap (fun x_1 : Expr => match x_1 with
      | Expr.Name id pos => if (X.env.kindOf id == some NameKind.local && pos.line == (Option.map (fun x : Expr => x.pos.line) [Expr.Name x px, Expr.Name y py].head?).getD 0) = true then some id else none
      | x => none) [Expr.Name x px, Expr.Name y py]) = [x, y] := by
    simp [List.filterMap_cons, k1, k2', Expr.pos, hl]
    rw [eq_of_beq k1, eq_of_beq k2', eq_of_beq hl]
    simp
  have ed : [x, y].eraseDups = [x, y] := by
    simp [List.eraseDups_cons, e2]
  generalize hF : (List.filterMap _ [Expr.Name x px, Expr.Name y py]) = F
  have hF2 : F = [x, y] := hF.symm.trans fm
  subst hF2
  rw [ed, hf, hk]
  rfl
def parB (i j : Nat) (fs : MEnv → Option (List PyData × MEnv)) : MEnv → Option Out := fun env => match fs env with
  | some ([c, d], e1) => match setS i (.val c) e1 with
    | some e2 => match setS j (.val d) e2 with
      | some e3 => some (.nx e3)
      | none => none
    | none => none
  | _ => none
theorem ss_par (c : CtxF X N sc fl) (i j : Nat) {x y : Str} {px py pt pt2 : Pos} {kt k2} {f : MEnv → Option (List PyData × MEnv)} (h : SA X [a, b] f) (hN : (decide (N[i]? = some x) && decide (N[j]? = some y) && parSc sc x y) = true) (hl : (py.line == px.line) = true) (ha : starB a = false) (hb : starB b = false)
    (hf : [a, b].all (foldedForSure 8) = false) (hk : [a, b].all (constantsAlone 8) = false)
    (hs : swapsWithSole [.Tuple [.Name x px, .Name y py] kt pt] (.Tuple [a, b] k2 pt2) pos.line X.env = pure false) :
    SS X (.Assign [.Tuple [.Name x px, .Name y py] kt pt] (.Tuple [a, b] k2 pt2) pos) (parB i j f) := by
  refine ⟨?_⟩
  intro env σ Hs H o hf' I D q
  simp only [Bool.and_eq_true, decide_eq_true_eq] at hN
  obtain ⟨⟨n1, n2⟩, hp⟩ := hN
  have hw := sw2 (pt := pt) (pt2 := pt2) (kt := kt) (k2 := k2) c hp hl ha hb hf hk
  have hp' := hp
  unfold parSc at hp'
  simp only [Bool.and_eq_true, Bool.not_eq_true'] at hp'
  obtain ⟨h1, h2, _, h4⟩ := hp'
  have hij : i ≠ j := fun z => by
    rw [z] at n1
    rw [n1] at n2
    cases n2
    rw [beq_self_eq_true] at h4
    cases h4
  unfold parB at hf'
  split at hf'
  · rename_i cc dd e1 k1
    split at hf'
    · rename_i e2 k2'
      split at hf'
      · rename_i e3 k3
        cases hf'
        obtain ⟨rfl, hi, hn⟩ := setS_some k2'
        obtain ⟨rfl, hj, hm⟩ := setS_some k3
        refine WS.of (ps_par c.calm (by rw [c.hN]; exact c.nd) (by rw [c.hN]; exact n1) (by rw [c.hN]; exact n2) hij (by rw [c.hsc]; exact eq_of_beq h1) (by rw [c.hsc]; exact eq_of_beq h2) (WA.pa X [a, b]) hw hs) ?_
        refine h env σ Hs H _ e1 k1 I _ fun vs Hs1 H1 g1 I1 r1 => ?_
        obtain ⟨v, r, rfl, r2, w, r', rfl, r3, r0⟩ := r1
        cases (show r' = [] from r0)
        have I2 := I1.setV hi r2
        exact ⟨v, w, rfl, q _ Hs1 H1 ((g1.go.trans (Go.setV hn)).trans (Go.setV hm)) (I2.setV hj r3)⟩
      · cases hf'
    · cases hf'
  · cases hf'
end
/-! ### xs[i] op= e -/
theorem get_listN : PGet X (fun x y H Q => ∃ (p : Addr) (xs : List V) (i : Int) (v : V), x = .ref p ∧ y = .int i ∧ SqL X.K H p xs ∧ 0 ≤ i ∧ xs[i.toNat]? = some v ∧ Q v H) := by
  intro pins s σ H o i ov iv Q I ro ri h
  obtain ⟨p, xs, k, v, rfl, rfl, hq, h0, he, q⟩ := h
  cases ro
  obtain ⟨t, rfl⟩ := ri
  obtain ⟨its, r, pl, hz⟩ := I.list hq
  obtain ⟨w, ew, rw'⟩ := r.get he
  have hl := r.length
  have hn := line63
  have hlt : k.toNat < xs.length := (List.getElem?_eq_some_iff.mp he).1
  exact wpAny_getItem_list pl.isList h0 (by omega) (by simpa using ew) ⟨v, H, I, rw', q⟩
def augSB (i : Nat) (fj f : MEnv → Option (Lr × MEnv)) (g : Int → Int → Int) : MEnv → Option Out := fun env => match env[i]? with
  | some s0 => match s0.mut with
    | some _ => match fj env with
      | some (rj, e1) => match look rj e1, e1[i]? with
        | some (.int j), some s1 => match s1.mut with
          | some xs1 => match xs1[j.toNat]? with
            | some (.int a0) => match f e1 with
              | some (r, e2) => match look r e2, e2[i]? with
                | some (.int b0), some s => match s.mut with
                  | some xs => if 0 ≤ j ∧ j.toNat < xs.length then some (.nx (e2.set i (s.put (xs.set j.toNat (.int (g a0 b0)))))) else none
                  | none => none
                | _, _ => none
              | none => none
            | _ => none
          | none => none
        | _, _ => none
      | none => none
    | none => none
  | none => none
theorem ss_augS {i : Nat} {x : Str} {px p2 : Pos} {j : Expr} {op : Operator} {g : Int → Int → Int} {f fj : MEnv → Option (Lr × MEnv)} (hx : PE X (.Name x px) (tVar i)) (hj : SL X j fj) (h : SL X e f) (ho : PIp X op (ipI g))
    (ha : ∀ ov iv new, augStore j ov iv new = (do holding [new, ov, iv] (setItem ov iv new); release [new, ov, iv] []; pure .next)) : SS X (.AugAssign (.Subscript (.Name x px) j p2) op e pos) (augSB i fj f g) := by
  refine ⟨?_⟩
  intro env σ Hs H o hf I D q
  unfold augSB at hf
  split at hf
  · rename_i s0 h0
    split at hf
    · rename_i xs0 m0
      split at hf
      · rename_i rj e1 k1
        split at hf
        · rename_i jj s1 hjj hs1
          split at hf
          · rename_i xs1 m1
            split at hf
            · rename_i a0 ha0
              split at hf
              · rename_i r e2 k2
                split at hf
                · rename_i b0 s hb0 hs2
                  split at hf
                  · rename_i xs m2
                    split at hf
                    · rename_i hc
                      cases hf
                      refine WS.of (ps_augS hx (W.pe X j) get_listN (W.pe X e) ho set_list ha) ?_
                      obtain ⟨p, vs0, q1, q2, q3, q4⟩ := I.muts i s0 xs0 h0 m0
                      refine ⟨.ref p, q1, ?_⟩
                      refine hj env σ Hs H rj e1 k1 I _ fun u Hs1 H1 g1 I1 r1 => ?_
                      have hu := rep_int (RepLr.top I1 r1 hjj)
                      obtain ⟨p', vs1, j1, j2, j3, j4⟩ := I1.muts i s1 xs1 hs1 m1
                      rw [q1] at j1
                      cases j1
                      obtain ⟨va, w1, w2⟩ := RepL.get j4 ha0
                      cases (show va = .int a0 from w2)
                      refine ⟨p, vs1, jj, .int a0, rfl, hu, .inl (.inl j3), hc.1, w1, ?_⟩
                      refine h e1 σ Hs1 H1 r e2 k2 I1 _ fun u2 Hs2 H2 g2 I2 r2 => ?_
                      have hu2 := rep_int (RepLr.top I2 r2 hb0)
                      refine ⟨a0, b0, rfl, hu2, ?_⟩
                      obtain ⟨p', vs, t1, t2, t3, t4⟩ := I2.muts i s xs hs2 m2
                      rw [q1] at t1
                      cases t1
                      have hix : ixN vs.length jj = some jj.toNat := by
                        unfold ixN
                        have := RepL.length t4
                        rw [if_pos hc.1, if_pos (by omega)]
                      refine ⟨p, vs, jj, jj.toNat, rfl, hu, t3, hix, ?_⟩
                      have r3 : RepL X.K Hs2 (xs.set jj.toNat (.int (g a0 b0))) (vs.set jj.toNat (.int (g a0 b0))) := RepL.set (show Rep X.K Hs2 (.int (g a0 b0)) (.int (g a0 b0)) from rfl) jj.toNat t4
                      exact q σ Hs2 _ ((g1.trans g2).trans (GoE.change I2 hs2 m2 q1)).go (I2.change hs2 m2 (Slot.put_mut m2 _) q1 r3)
                    · cases hf
                  · cases hf
                · cases hf
              · cases hf
            · cases hf
          · cases hf
        · cases hf
      · cases hf
    · cases hf
  · cases hf
end Ip

set_option Elab.async false
set_option linter.all false
set_option maxRecDepth 100000
set_option maxHeartbeats 4000000
namespace Ip
open PySem L2
open Evl (Ex sz_of fresh_back)
variable [Old]
variable {X : Cx} {a b e : Expr} {pos : Pos} {K : PySem.W.Frag} {Hs Hs' H H' : Hp} {σ : L2.St} {env env' : MEnv}

/-! ### a dict of the module: D[e] -/
def kdD (kvs : List (Str × PyData)) : PyData → Option Slot
  | .str x => (kvs.lookup x).map .val
  | _ => none
def KdOk (K : PySem.W.Frag) (w : World) (p : Addr) (kvs : List (Str × PyData)) : Prop := ∀ x d, kvs.lookup x = some d → ∃ v, KDct K w p x v ∧ ∀ Hs, Rep K Hs d v
theorem se_kdict {n : Str} {p1 : Pos} {p : Addr} {kvs : List (Str × PyData)} {fe : MEnv → Option (Lr × MEnv)} (hg : Gl X n) (hm : X.mg n = some (.ref p)) (kd : KdOk X.K X.w p kvs) (he : SL X e fe) (hp : PlainIx e) (hd : (n == ("__debug__" : Str)) = false) :
    SE X (.Subscript (.Name n p1) e pos) (op1 fe (kdD kvs)) := by
  refine ⟨?_⟩
  intro env σ Hs H r env' hf I Q q
  unfold op1 at hf
  split at hf
  · rename_i ra e1 h1
    split at hf
    · rename_i x hx
      split at hf
      · rename_i s hs
        cases hf
        cases x <;> try (cases hs; done)
        rename_i z
        have hs : (kvs.lookup z).map Slot.val = some r := hs
        cases hl : kvs.lookup z with
        | none => rw [hl] at hs; cases hs
        | some d =>
          rw [hl] at hs
          cases hs
          obtain ⟨v, k1, k2⟩ := kd z d hl
          refine W.of (pe_ix ix_kdict (pe_glob (v := .ref p) hg hm rfl hd) (W.pe X e) hp) ?_
          refine he env σ Hs H ra env' h1 I _ fun u Hs1 H1 g1 I1 r1 => ?_
          have hu : u = .str z := RepLr.top I1 r1 hx
          exact ⟨p, z, v, rfl, hu, k1, q v Hs1 H1 g1 I1 (k2 Hs1)⟩
      · cases hf
    · cases hf
  · cases hf

inductive KdL (K : PySem.W.Frag) (a : Addr) : List (Str × PyData) → Prop
  | nil : KdL K a []
  | cons {k : Str} {d : PyData} {u : Value} {v : V} {r : List (Str × PyData)} (x : PySem.W.nsIn K a k = some (some u)) (rv : RelV v u) (rep : ∀ Hs, Rep K Hs d v) (t : KdL K a r) : KdL K a ((k, d) :: r)
theorem KdOk.of {w : World} {a : Addr} {es : Array DictEntry} {n : Nat} {kvs : List (Str × PyData)} (hl : K.lookup a = some ⟨.type "dict", none, .dict es n, #[]⟩) (hk : PySem.W.KeysLit w.params es.toList) (h : KdL K a kvs) : KdOk K w a kvs := by
  induction h with
  | nil => intro x d e; cases e
  | @cons k d0 u v r x rv rep t ih =>
    intro y d e
    rw [List.lookup_cons] at e
    by_cases hy : y = k
    · subst hy
      rw [beq_self_eq_true] at e
      cases e
      exact ⟨v, ⟨es, n, u, hl, hk, x, rv⟩, rep⟩
    · rw [beq_eq_false_iff_ne.mpr hy] at e
      exact ih y d e
theorem krep_tup {b : Addr} {od : Option Addr} {its : Array Value} {n : Nat} {sl : Array (Option Value)} {vs : List V} {ds : List PyData} (hl : K.lookup b = some ⟨.type "tuple", od, .seq its n, sl⟩) (hz : its.size ≤ sizeLine) (hv : Vals vs its.toList) (h : ∀ Hs, RepL K Hs ds vs) : ∀ Hs, Rep K Hs (.tuple ds) (.ref b) :=
  fun Hs => ⟨b, vs, rfl, .inr ⟨_, its, n, hl, rfl, rfl, hz, hv⟩, h Hs⟩

/-! ### a display of a dict whose values are expressions, and one of its values -/
inductive SPr (X : Cx) (p2 : Pos) : List (Option Expr) → List Expr → List (TE × TE) → List (Key × (MEnv → Option (PyData × MEnv))) → Prop
  | nil : SPr X p2 [] [] [] []
  | cons {k v : Expr} {ks : List (Option Expr)} {vs : List Expr} {trs : List (TE × TE)} {kfs : List (Key × (MEnv → Option (PyData × MEnv)))} {key : Key} {f : MEnv → Option (PyData × MEnv)} (hk : PE X k (tC (kV key))) (hv : SV X v f) (r : SPr X p2 ks vs trs kfs) :
      SPr X p2 (some k :: ks) (v :: vs) ((tC (kV key), W X v) :: trs) ((key, f) :: kfs)
theorem SPr.pps {p2 : Pos} {ks : List (Option Expr)} {vs : List Expr} {trs : List (TE × TE)} {kfs : List (Key × (MEnv → Option (PyData × MEnv)))} (h : SPr X p2 ks vs trs kfs) : PPs X p2 ks vs trs := by
  induction h with
  | nil => exact pps_nil
  | cons hk hv r ih => exact pps_cons hk (W.pe X _) ih
def pairsF : List (Key × (MEnv → Option (PyData × MEnv))) → MEnv → Option (List (Key × PyData) × MEnv)
  | [], env => some ([], env)
  | (k, f) :: r, env => match f env with
    | some (d, e1) => match pairsF r e1 with
      | some (kds, e2) => some ((k, d) :: kds, e2)
      | none => none
    | none => none
/-- the same keys, values that stand for the data -/
inductive RepK (K : PySem.W.Frag) (H : Hp) : List (Key × PyData) → List (Key × V) → Prop
  | nil : RepK K H [] []
  | cons {k : Key} {d : PyData} {v : V} {kds : List (Key × PyData)} {kvs : List (Key × V)} (h : Rep K H d v) (r : RepK K H kds kvs) : RepK K H ((k, d) :: kds) ((k, v) :: kvs)
theorem RepK.find {K : PySem.W.Frag} {H : Hp} {kds : List (Key × PyData)} {kvs : List (Key × V)} (h : RepK K H kds kvs) (k : Key) {kd : Key × PyData} (hk : (kds.find? fun kv => decide (kv.1 = k)) = some kd) : ∃ v, valV kvs k = some v ∧ Rep K H kd.2 v := by
  induction h with
  | nil => cases hk
  | @cons k0 d v kds kvs h r ih =>
    by_cases e : k0 = k
    · rw [List.find?_cons] at hk
      simp only [e, decide_true] at hk
      cases hk
      exact ⟨v, valV_pos e, h⟩
    · rw [List.find?_cons] at hk
      simp only [e, decide_false] at hk
      obtain ⟨u, h1, h2⟩ := ih hk
      exact ⟨u, by rw [valV_neg e]; exact h1, h2⟩
theorem RepK.keys {K : PySem.W.Frag} {H : Hp} {kds : List (Key × PyData)} {kvs : List (Key × V)} (h : RepK K H kds kvs) : kvs.map (·.1) = kds.map (·.1) := by
  induction h with
  | nil => rfl
  | cons h r ih => rw [List.map_cons, List.map_cons, ih]
theorem valV_notin {k : Key} : ∀ {kvs : List (Key × V)}, k ∉ kvs.map (·.1) → valV kvs k = none
  | [], _ => rfl
  | p :: r, h => by
    rw [List.map_cons, List.mem_cons] at h
    rw [valV_neg fun e => h (.inl e.symm)]
    exact valV_notin fun m => h (.inr m)
theorem mergeK_app : ∀ (more kvs : List (Key × V)), (more.map (·.1)).Nodup → (∀ k ∈ more.map (·.1), k ∉ kvs.map (·.1)) → mergeK kvs more = kvs ++ more
  | [], kvs, _, _ => by unfold mergeK; simp
  | p :: r, kvs, hn, hd => by
    rw [List.map_cons, List.nodup_cons] at hn
    have h1 : putK kvs p.1 p.2 = kvs ++ [p] := putK_new p.2 (valV_notin (hd p.1 (by simp)))
    show mergeK (putK kvs p.1 p.2) r = _
    rw [h1, mergeK_app r _ hn.2]
    · simp
    · intro k hk m
      rw [List.map_append, List.mem_append] at m
      rcases m with m | m
      · exact hd k (by rw [List.map_cons]; exact List.mem_cons_of_mem _ hk) m
      · have e : k = p.1 := by simpa using m
        exact hn.1 (e ▸ hk)
theorem RepK.mono {K : PySem.W.Frag} {H H' : Hp} (e : Ex H H') {kds : List (Key × PyData)} {kvs : List (Key × V)} (h : RepK K H kds kvs) : RepK K H' kds kvs := by
  induction h with
  | nil => exact .nil
  | cons h r ih => exact .cons (Rep.mono e _ _ h) ih
theorem SPr.run {p2 : Pos} {ks : List (Option Expr)} {vs : List Expr} {trs : List (TE × TE)} {kfs : List (Key × (MEnv → Option (PyData × MEnv)))} (h : SPr X p2 ks vs trs kfs) :
    ∀ (env : MEnv) (σ : L2.St) (Hs H : Hp) (kds : List (Key × PyData)) (env' : MEnv), pairsF kfs env = some (kds, env') → InvS X.K Hs H σ env → ∀ Q : List (V × V) → Hp → Prop,
      (∀ kvs Hs' H', GoE σ env Hs H env' Hs' H' → InvS X.K Hs' H' σ env' → RepK X.K Hs' kds kvs → Q (kvs.map fun kv => (kV kv.1, kv.2)) H') → tPairs trs σ H Q := by
  induction h with
  | nil =>
    intro env σ Hs H kds env' hf I Q q
    cases hf
    exact q [] Hs H GoE.refl I .nil
  | @cons k v ks vs trs kfs key f hk hv r ih =>
    intro env σ Hs H kds env' hf I Q q
    unfold pairsF at hf
    split at hf
    · rename_i d e1 h1
      split at hf
      · rename_i kds1 e2 h2
        cases hf
        show W X v σ H _
        refine hv env σ Hs H d e1 h1 I _ fun u Hs1 H1 g1 I1 r1 => ?_
        refine ih e1 σ Hs1 H1 kds1 env' h2 I1 _ fun kvs Hs2 H2 g2 I2 r2 => ?_
        exact q ((key, u) :: kvs) Hs2 H2 (g1.trans g2) I2 (.cons (Rep.mono g2.sh d u r1) r2)
      · cases hf
    · cases hf
/-- an object that is neither shared nor a slot's may be another one -/
theorem _root_.Ip.InvS.over (I : InvS K Hs H σ env) {p : Addr} {o : HO} (hp : Hs p = none) (hm : ¬ MutAt σ env p) (ho : Old.Ho p = none) : InvS K Hs (upd H p o) σ env where
  len := I.len
  sh := fun a u h => by
    have ne : a ≠ p := fun e => by subst e; rw [hp] at h; cases h
    rw [upd_ne ne]
    exact I.sh a u h
  vals := I.vals
  muts := fun i s xs h hmm => by
    obtain ⟨q, vs, h1, h2, h3, h4⟩ := I.muts i s xs h hmm
    have ne : q ≠ p := fun e => hm (e ▸ ⟨i, s, xs, h, hmm, h1⟩)
    exact ⟨q, vs, h1, h2, by rw [upd_ne ne]; exact h3, h4⟩
  diff := I.diff
  old := ⟨Ex.mut I.old.1 ho, I.old.2⟩
theorem _root_.Ip.GoE.over {p : Addr} {o o' : HO} (g : GoE σ env Hs (upd H p o) env' Hs' H') (hp : H p = none) : GoE σ env Hs H env' Hs' (upd H' p o') where
  sh := g.sh
  kp := fun a u h n => by
    have ne : a ≠ p := fun e => by subst e; rw [hp] at h; cases h
    rw [upd_ne ne]
    exact g.kp a u (by rw [upd_ne ne]; exact h) n
  dm := fun a u h => by
    have ne : a ≠ p := fun e => by subst e; rw [hp] at h; cases h
    rw [upd_ne ne]
    exact g.dm a u (by rw [upd_ne ne]; exact h)
  nw := fun a u h => by
    rcases g.nw a u h with z | z | z
    · exact .inl z
    · by_cases e : a = p
      · subst e; rw [upd_same] at z; cases z
      · rw [upd_ne e] at z; exact .inr (.inl z)
    · exact .inr (.inr z)
  ow := g.ow
  lo := g.lo
  io := g.io
def dictXF (kfs : List (Key × (MEnv → Option (PyData × MEnv)))) (fe : MEnv → Option (Lr × MEnv)) : MEnv → Option (Slot × MEnv) := fun env => match pairsF kfs env with
  | some (kds, e1) => op1 fe (dictD kds) e1
  | none => none
theorem pairsF_keys : ∀ (kfs : List (Key × (MEnv → Option (PyData × MEnv)))) (env : MEnv) (kds : List (Key × PyData)) (env' : MEnv), pairsF kfs env = some (kds, env') → kds.map (·.1) = kfs.map (·.1)
  | [], env, kds, env', h => by cases h; rfl
  | (k, f) :: r, env, kds, env', h => by
    unfold pairsF at h
    split at h
    · split at h
      · rename_i h2
        cases h
        rw [List.map_cons, List.map_cons, pairsF_keys r _ _ _ h2]
      · cases h
    · cases h
theorem se_dictX {keys : List (Option Expr)} {values : List Expr} {trs : List (TE × TE)} {p2 : Pos} {fe : MEnv → Option (Lr × MEnv)} {kfs : List (Key × (MEnv → Option (PyData × MEnv)))} (hu : X.A.units + 1 < cLine) (h : SPr X p2 keys values trs kfs) (hall : keys.all (·.isSome) = true) (hl : keys.length = values.length)
    (h0 : keys ≠ []) (h15 : keys.length ≤ 15) (hk15 : kfs.length ≤ 15) (hnd : (kfs.map (·.1)).Nodup) (he : SL X e fe) (hp : plainIx e = true) : SE X (.Subscript (.Dict keys values p2) e pos) (dictXF kfs fe) := by
  refine ⟨?_⟩
  intro env σ Hs H r env' hf I Q q
  unfold dictXF at hf
  split at hf
  · rename_i kds e0 h00
    unfold op1 at hf
    split at hf
    · rename_i ra e1 h1
      split at hf
      · rename_i x hx
        split at hf
        · rename_i s hs
          cases hf
          unfold dictD at hs
          split at hs
          · rename_i k hk
            have NS : NoSl e := by
              intro o i
              cases e <;> first | rfl | cases hp
            refine W.of (pe_dget hu (pe_disp h.pps hall hl h0 h15) (W.pe X e) NS) ?_
            intro p hp1
            have I0 := I.lay hp1 (.dK [])
            have g0 : GoE σ env Hs H env Hs (upd H p (.dK [])) := GoE.lay hp1 _
            have nm0 : ¬ MutAt σ env p := fun m => by
              obtain ⟨_, _, hh⟩ := I.mutAt_some m
              rw [hp1] at hh
              cases hh
            refine h.run env σ Hs _ kds e0 h00 I0 _ fun kvs Hs1 H1 g1 I1 r1 => ?_
            have hp2 : H1 p = some (.dK []) := g1.kp p _ upd_same nm0
            have hk1 := pairsF_keys _ _ _ _ h00
            have hkv : kvs.map (·.1) = kfs.map (·.1) := by rw [r1.keys, hk1]
            have hlen : kvs.length = kfs.length := by
              have := congrArg List.length hkv
              simpa using this
            refine ⟨hp2, kvs, rfl, by omega, ?_⟩
            have hm : mergeK [] kvs = kvs := by
              rw [mergeK_app kvs [] (by rw [hkv]; exact hnd) (by simp), List.nil_append]
            rw [hm]
            have nm1 : ¬ MutAt σ e0 p := fun m => nm0 (g1.ow p m)
            have hs1 : Hs1 p = none := by
              cases hh : Hs1 p with
              | none => rfl
              | some o =>
                rcases g1.nw p o hh with z | z | z
                · rw [I.sh p o z] at hp1; cases hp1
                · rw [upd_same] at z; cases z
                · exact absurd z.mut nm0
            have gt : GoE σ env Hs H e0 Hs1 (upd H1 p (.dK kvs)) := GoE.over g1 hp1
            refine he e0 σ Hs1 _ ra env' h1 (I1.over hs1 nm1 (fresh_back I.old.1 hp1)) _ fun v Hs2 H2 g2 I2 r2 => ?_
            have hv := RepLr.top I2 r2 hx
            have hd2 : H2 p = some (.dK kvs) := g2.kp p _ upd_same nm1
            cases hfnd : kds.find? fun kv => decide (kv.1 = k) with
            | none => rw [hfnd] at hs; cases hs
            | some kv =>
              rw [hfnd] at hs
              cases hs
              obtain ⟨u, hu1, hu2⟩ := r1.find k hfnd
              have kv_ : v = kV k := by
                cases x <;> first | (cases hk; done) | skip
                · cases hk; exact hv
                · cases hk; exact hv
              refine ⟨p, u, rfl, ?_, q u Hs2 H2 (gt.trans g2) I2 (Rep.mono g2.sh _ u hu2)⟩
              rw [kv_]
              have := DGet.k (k := k) hd2
              rw [hu1] at this
              exact this
          · cases hs
        · cases hf
      · cases hf
    · cases hf
  · cases hf
end Ip

set_option Elab.async false
set_option linter.all false
set_option maxRecDepth 100000
set_option maxHeartbeats 4000000
/-! marks taken off; a block that tells old from new -/
namespace Ip
open PySem L2
open Evl (Ex sz_of fresh_back)
variable {X : Cx} {a b e : Expr} {pos : Pos} {K : PySem.W.Frag} {Hs Hs' H H' : Hp} {σ σ' : L2.St} {env env' : MEnv}
/-! ### both parts at once -/
def bothH (Ho Hs : Hp) : Hp := fun a => match Hs a with
  | some o => some o
  | none => Ho a
theorem both_s {Ho : Hp} : Ex Hs (bothH Ho Hs) := fun a o h => by unfold bothH; rw [h]
theorem both_o {Ho : Hp} (h1 : Ex Ho H) (h2 : Ex Hs H) : Ex Ho (bothH Ho Hs) := fun a o h => by
  unfold bothH
  cases z : Hs a with
  | none => exact h
  | some u =>
    have := h1 a o h
    rw [h2 a u z] at this
    exact this
theorem both_ex {Ho : Hp} (h1 : Ex Ho H) (h2 : Ex Hs H) : Ex (bothH Ho Hs) H := fun a o h => by
  unfold bothH at h
  cases z : Hs a with
  | none => rw [z] at h; exact h1 a o h
  | some w => rw [z] at h; cases h; exact h2 a o z
theorem both_none {Ho : Hp} {p : Addr} (h1 : Hs p = none) (h2 : Ho p = none) : bothH Ho Hs p = none := by unfold bothH; rw [h1]; exact h2
/-! ### marks taken off -/
mutual
/-- no instance and no mark -/
def pltD : PyData → Bool
  | .list xs => pltL xs
  | .tuple xs => pltL xs
  | .dict _ => false
  | _ => true
def pltL : List PyData → Bool
  | [] => true
  | d :: ds => pltD d && pltL ds
end
mutual
def unD : PyData → Option PyData
  | .list xs => (unL xs).map .list
  | .tuple xs => (unL xs).map .tuple
  | .dict kvs => match kvs with
    | [(.none, d)] => if pltD d = true then some d else none
    | _ => none
  | d => some d
def unL : List PyData → Option (List PyData)
  | [] => some []
  | d :: ds => match unD d, unL ds with
    | some x, some xs => some (x :: xs)
    | _, _ => none
end
mutual
theorem unD_plt : ∀ (d : PyData), pltD d = true → unD d = some d
  | .none, _ => rfl
  | .bool _, _ => rfl
  | .int _, _ => rfl
  | .str _, _ => rfl
  | .list xs, h => by
    have h : pltL xs = true := h
    show (unL xs).map PyData.list = _
    rw [unL_plt xs h]
    rfl
  | .tuple xs, h => by
    have h : pltL xs = true := h
    show (unL xs).map PyData.tuple = _
    rw [unL_plt xs h]
    rfl
  | .dict _, h => by cases h
theorem unL_plt : ∀ (ds : List PyData), pltL ds = true → unL ds = some ds
  | [], _ => rfl
  | d :: ds, h => by
    have h : (pltD d && pltL ds) = true := h
    rw [Bool.and_eq_true] at h
    show (match unD d, unL ds with | some x, some xs => some (x :: xs) | _, _ => none) = _
    rw [unD_plt d h.1, unL_plt ds h.2]
end
theorem unD_old {d : PyData} (h : pltD d = true) : unD (oldD d) = some d := by
  show (if pltD d = true then some d else none) = _
  rw [if_pos h]
mutual
theorem rep0_rep {M : Hp} (e : Ex H M) : ∀ (d : PyData) (v : V), Rep0 K H d v → @Rep noOld K M d v
  | .none, _, h => h
  | .bool _, _, h => h
  | .int _, _, h => h
  | .str _, _, h => h
  | .list xs, _, h => by
    obtain ⟨a, vs, e1, h1, h2⟩ := h
    exact ⟨a, vs, e1, ⟨Evl.ex_l e h1, fun z => (by cases z)⟩, rep0_repL e xs vs h2⟩
  | .tuple xs, _, h => by
    obtain ⟨a, vs, e1, h1, h2⟩ := h
    exact ⟨a, vs, e1, Evl.ex_t e h1, rep0_repL e xs vs h2⟩
  | .dict _, _, h => by cases (show False from h)
theorem rep0_repL {M : Hp} (e : Ex H M) : ∀ (ds : List PyData) (vs : List V), Rep0L K H ds vs → @RepL noOld K M ds vs
  | [], _, h => h
  | d :: ds, _, h => by
    obtain ⟨v, r, e1, h1, h2⟩ := h
    exact ⟨v, r, e1, rep0_rep e d v h1, rep0_repL e ds r h2⟩
end
mutual
theorem rep_rep0 [Old] : ∀ (d : PyData) (v : V), pltD d = true → Rep K H d v → Rep0 K H d v
  | .none, _, _, h => h
  | .bool _, _, _, h => h
  | .int _, _, _, h => h
  | .str _, _, _, h => h
  | .list xs, _, p, h => by
    obtain ⟨a, vs, e1, h1, h2⟩ := h
    exact ⟨a, vs, e1, h1.1, rep_rep0L xs vs p h2⟩
  | .tuple xs, _, p, h => by
    obtain ⟨a, vs, e1, h1, h2⟩ := h
    exact ⟨a, vs, e1, h1, rep_rep0L xs vs p h2⟩
  | .dict _, _, p, _ => by cases p
theorem rep_rep0L [Old] : ∀ (ds : List PyData) (vs : List V), pltL ds = true → RepL K H ds vs → Rep0L K H ds vs
  | [], _, _, h => h
  | d :: ds, _, p, h => by
    have p : (pltD d && pltL ds) = true := p
    rw [Bool.and_eq_true] at p
    obtain ⟨v, r, e1, h1, h2⟩ := h
    exact ⟨v, r, e1, rep_rep0 d v p.1 h1, rep_rep0L ds r p.2 h2⟩
end
mutual
theorem un_rep (oo : Old) {M : Hp} (e1 : Ex Hs M) (e2 : Ex oo.Ho M) : ∀ (d d' : PyData) (v : V), unD d = some d' → @Rep oo K Hs d v → @Rep noOld K M d' v
  | .none, _, _, u, h => by cases u; exact h
  | .bool _, _, _, u, h => by cases u; exact h
  | .int _, _, _, u, h => by cases u; exact h
  | .str _, _, _, u, h => by cases u; exact h
  | .list xs, d', v, u, h => by
    have u : (unL xs).map PyData.list = some d' := u
    cases z : unL xs with
    | none => rw [z] at u; cases u
    | some ys =>
      rw [z] at u
      cases u
      obtain ⟨a, vs, e, h1, h2⟩ := h
      exact ⟨a, vs, e, ⟨Evl.ex_l e1 h1.1, fun z => (by cases z)⟩, un_repL oo e1 e2 xs ys vs z h2⟩
  | .tuple xs, d', v, u, h => by
    have u : (unL xs).map PyData.tuple = some d' := u
    cases z : unL xs with
    | none => rw [z] at u; cases u
    | some ys =>
      rw [z] at u
      cases u
      obtain ⟨a, vs, e, h1, h2⟩ := h
      exact ⟨a, vs, e, Evl.ex_t e1 h1, un_repL oo e1 e2 xs ys vs z h2⟩
  | .dict kvs, d', v, u, h => by
    unfold unD at u
    split at u
    · rename_i d0
      split at u
      · cases u
        exact @rep0_rep _ _ _ e2 _ _ (@rep_old oo K Hs _ v h).2
      · cases u
    · cases u
theorem un_repL (oo : Old) {M : Hp} (e1 : Ex Hs M) (e2 : Ex oo.Ho M) : ∀ (ds ds' : List PyData) (vs : List V), unL ds = some ds' → @RepL oo K Hs ds vs → @RepL noOld K M ds' vs
  | [], _, _, u, h => by cases u; exact h
  | d :: ds, ds', vs, u, h => by
    have u : (match unD d, unL ds with | some x, some xs => some (x :: xs) | _, _ => none) = some ds' := u
    obtain ⟨v, r, e, h1, h2⟩ := h
    cases z1 : unD d with
    | none => rw [z1] at u; cases u
    | some x =>
      cases z2 : unL ds with
      | none => rw [z1, z2] at u; cases u
      | some xs =>
        rw [z1, z2] at u
        cases u
        exact ⟨v, r, e, un_rep oo e1 e2 d x v z1 h1, un_repL oo e1 e2 ds xs r z2 h2⟩
end
/-! ### slots without marks -/
def atomD : PyData → Bool
  | .none => true
  | .bool _ => true
  | .int _ => true
  | .str _ => true
  | _ => false
theorem atom_rep {o1 o2 : Old} {H1 H2 : Hp} : ∀ {d : PyData} {v : V}, atomD d = true → @Rep o1 K H1 d v → @Rep o2 K H2 d v
  | .none, _, _, h => h
  | .bool _, _, _, h => h
  | .int _, _, _, h => h
  | .str _, _, _, h => h
theorem atom_repL {o1 o2 : Old} {H1 H2 : Hp} : ∀ {ds : List PyData} {vs : List V}, ds.all atomD = true → @RepL o1 K H1 ds vs → @RepL o2 K H2 ds vs
  | [], _, _, h => h
  | d :: ds, _, p, h => by
    rw [List.all_cons, Bool.and_eq_true] at p
    obtain ⟨v, r, e, h1, h2⟩ := h
    exact ⟨v, r, e, atom_rep p.1 h1, atom_repL p.2 h2⟩
/-- a slot for a test: the marks off, or unknown -/
def unS : Slot → Slot
  | .un => .un
  | .val d => match unD d with
    | some d' => .val d'
    | none => .un
  | .own xs => match unL xs with
    | some ys => .own ys
    | none => .un
  | .io xs => .io xs
def noIo : MEnv → Bool
  | [] => true
  | .io _ :: _ => false
  | _ :: r => noIo r
theorem noIo_at : ∀ {env : MEnv} {i : Nat} {xs : List PyData}, noIo env = true → env[i]? ≠ some (.io xs)
  | [], _, _, _, h => by simp at h
  | s :: r, 0, xs, n, h => by
    simp at h
    subst h
    cases n
  | s :: r, i + 1, xs, n, h => by
    simp at h
    cases s with
    | io _ => cases n
    | un => exact noIo_at (show noIo r = true from n) h
    | val _ => exact noIo_at (show noIo r = true from n) h
    | own _ => exact noIo_at (show noIo r = true from n) h
def backT : Slot → Slot → Slot
  | .val d, _ => .val d
  | .own _, .own ys => if ys.all atomD = true then .own ys else .un
  | _, _ => .un
theorem unS_get {i : Nat} {s : Slot} (h : (env.map unS)[i]? = some s) : ∃ t, env[i]? = some t ∧ unS t = s := by
  rw [List.getElem?_map] at h
  cases z : env[i]? with
  | none => rw [z] at h; cases h
  | some t => rw [z] at h; cases h; exact ⟨t, rfl, rfl⟩
theorem unS_own {t : Slot} {xs : List PyData} (h : unS t = .own xs) : ∃ ys, t = .own ys ∧ unL ys = some xs := by
  cases t with
  | un => cases h
  | io _ => cases h
  | val d =>
    unfold unS at h
    simp only at h
    split at h <;> cases h
  | own ys =>
    unfold unS at h
    simp only at h
    split at h
    · rename_i zs hz; cases h; exact ⟨ys, rfl, hz⟩
    · cases h
theorem unS_val {t : Slot} {d : PyData} (h : unS t = .val d) : ∃ d0, t = .val d0 ∧ unD d0 = some d := by
  cases t with
  | un => cases h
  | io _ => cases h
  | own ys =>
    unfold unS at h
    simp only at h
    split at h <;> cases h
  | val d0 =>
    unfold unS at h
    simp only at h
    split at h
    · rename_i zs hz; cases h; exact ⟨d0, rfl, hz⟩
    · cases h
theorem unS_io {t : Slot} {xs : List PyData} (h : unS t = .io xs) : t = .io xs := by
  cases t with
  | un => cases h
  | io _ => exact h
  | own ys =>
    unfold unS at h
    simp only at h
    split at h <;> cases h
  | val d0 =>
    unfold unS at h
    simp only at h
    split at h <;> cases h
theorem mut_unS {a : Addr} (m : MutAt σ (env.map unS) a) : MutAt σ env a := by
  obtain ⟨i, s, xs, h1, h2, h3⟩ := m
  obtain ⟨t, k1, k2⟩ := unS_get h1
  cases s with
  | un => cases h2
  | val d => cases h2
  | own ys =>
    obtain ⟨zs, rfl, _⟩ := unS_own k2
    exact ⟨i, _, zs, k1, rfl, h3⟩
  | io ys =>
    cases unS_io k2
    exact ⟨i, _, ys, k1, rfl, h3⟩
theorem inv_un (oo : Old) (I : @InvS oo K Hs H σ env) (hn : noIo env = true) : @InvS noOld K (bothH oo.Ho Hs) H σ (env.map unS) := by
  have ex := both_ex I.old.1 I.sh
  refine @InvS.mk noOld _ _ _ _ _ (by rw [List.length_map]; exact I.len) ex (fun i d h => ?_) (fun i s xs h hm => ?_) (fun i j s t xs ys p h1 m1 h2 m2 g1 g2 => ?_) ⟨fun a o h => (by cases h), fun a m => rfl⟩
  · obtain ⟨t, k1, k2⟩ := unS_get h
    obtain ⟨d0, rfl, hu⟩ := unS_val k2
    obtain ⟨v, e1, e2⟩ := I.vals i d0 k1
    exact ⟨v, e1, un_rep oo both_s (both_o I.old.1 I.sh) d0 d v hu e2⟩
  · obtain ⟨t, k1, k2⟩ := unS_get h
    cases s with
    | un => cases hm
    | val d => cases hm
    | io ys => cases unS_io k2; exact absurd k1 (noIo_at hn)
    | own ys =>
      cases hm
      obtain ⟨zs, rfl, hu⟩ := unS_own k2
      obtain ⟨p, vs, e1, e2, e3, e4⟩ := I.muts i _ zs k1 rfl
      exact ⟨p, vs, e1, both_none e2 (I.old.2 p ⟨i, _, zs, k1, rfl, e1⟩), e3, un_repL oo both_s (both_o I.old.1 I.sh) zs xs vs hu e4⟩
  · have back : ∀ {i : Nat} {s : Slot} {xs : List PyData}, (env.map unS)[i]? = some s → s.mut = some xs → ∃ t zs, env[i]? = some t ∧ t.mut = some zs := fun {i s xs} h m => by
      obtain ⟨t, k1, k2⟩ := unS_get h
      cases s with
      | un => cases m
      | val d => cases m
      | io ys => cases unS_io k2; exact ⟨_, ys, k1, rfl⟩
      | own ys =>
        obtain ⟨zs, rfl, hu⟩ := unS_own k2
        exact ⟨_, zs, k1, rfl⟩
    obtain ⟨t1, z1, a1, a2⟩ := back h1 m1
    obtain ⟨t2, z2, b1, b2⟩ := back h2 m2
    exact I.diff i j t1 t2 z1 z2 p a1 a2 b1 b2 g1 g2
/-- a test, the marks off -/
def unT (f : MEnv → Option (Bool × MEnv)) : MEnv → Option (Bool × MEnv) := fun env => if noIo env = true then match f (env.map unS) with
    | some (b, e') => some (b, List.zipWith backT env e')
    | none => none
  else none
theorem backT_get {e' : MEnv} {i : Nat} {s : Slot} (h : (List.zipWith backT env e')[i]? = some s) : ∃ t u, env[i]? = some t ∧ e'[i]? = some u ∧ backT t u = s := by
  rw [List.getElem?_zipWith] at h
  split at h
  · rename_i t u h1 h2
    cases h
    exact ⟨t, u, h1, h2, rfl⟩
  · cases h
theorem backT_mut {t u s : Slot} {xs : List PyData} (h : backT t u = s) (m : s.mut = some xs) : ∃ zs, t = .own zs ∧ u = .own xs ∧ s = .own xs ∧ xs.all atomD = true := by
  cases t with
  | un => cases h; cases m
  | io _ => cases h; cases m
  | val d => cases h; cases m
  | own zs =>
    cases u with
    | un => cases h; cases m
    | io _ => cases h; cases m
    | val d => cases h; cases m
    | own ys =>
      unfold backT at h
      simp only at h
      split at h
      · rename_i ha; subst h; cases m; exact ⟨zs, rfl, rfl, rfl, ha⟩
      · subst h; cases m
theorem st_un [oo : Old] {f : MEnv → Option (Bool × MEnv)} (h : @ST noOld X e f) : ST X e (unT f) := by
  refine ⟨?_⟩
  intro env σ Hs H b env' hf I Q q
  unfold unT at hf
  split at hf
  rotate_left
  · cases hf
  rename_i hn
  split at hf
  rotate_left
  · cases hf
  rename_i b0 e1 h1
  cases hf
  have I0 := inv_un oo I hn
  have exM := both_ex I.old.1 I.sh
  refine @ST.run noOld X e f h (env.map unS) σ (bothH oo.Ho Hs) H b e1 h1 I0 Q fun Hs1 H1 g1 I1 => ?_
  have mm : ∀ a, MutAt σ (List.zipWith backT env e1) a → MutAt σ env a := fun a ⟨i, s, xs, k1, k2, k3⟩ => by
    obtain ⟨t, u, j1, j2, j3⟩ := backT_get k1
    obtain ⟨zs, rfl, _⟩ := backT_mut j3 k2
    exact ⟨i, _, zs, j1, rfl, k3⟩
  have sh1 : Ex Hs H1 := (both_s.trans g1.sh).trans (@InvS.sh noOld _ _ _ _ _ I1)
  have ox1 : Ex oo.Ho H1 := ((both_o I.old.1 I.sh).trans g1.sh).trans (@InvS.sh noOld _ _ _ _ _ I1)
  refine q Hs H1 ⟨Ex.refl _, fun a o ha nm => g1.kp a o ha fun m => nm (mut_unS m), g1.dm, fun a o ha => .inl ha, mm, fun a ⟨i, xs, k1, k3⟩ => ?_, fun i xs k => absurd k (noIo_at hn)⟩ ⟨?_, sh1, fun i d k => ?_, fun i s xs k hm => ?_, fun i j s t xs ys p k1 m1 k2 m2 g1 g2 => ?_, ⟨ox1, fun a m => I.old.2 a (mm a m)⟩⟩
  · obtain ⟨t, u, j1, j2, j3⟩ := backT_get k1
    obtain ⟨zs, rfl, _⟩ := backT_mut j3 (xs := xs) rfl
    exact ⟨i, zs, j1, k3⟩
  · have l1 := @InvS.len noOld _ _ _ _ _ I1
    have l0 := I.len
    rw [List.length_zipWith]
    omega
  · obtain ⟨t, u, j1, j2, j3⟩ := backT_get k
    have : t = .val d := by
      cases t with
      | un => cases j3
      | io _ => cases j3
      | val d0 => exact j3
      | own zs =>
        cases u with
        | un => cases j3
        | io _ => cases j3
        | val _ => cases j3
        | own ys =>
          unfold backT at j3
          simp only at j3
          split at j3 <;> cases j3
    subst this
    exact I.vals i d j1
  · obtain ⟨t, u, j1, j2, j3⟩ := backT_get k
    obtain ⟨zs, rfl, rfl, rfl, ha⟩ := backT_mut j3 hm
    obtain ⟨p, vs, e1, e2, e3, e4⟩ := @InvS.muts noOld _ _ _ _ _ I1 i _ xs j2 rfl
    refine ⟨p, vs, e1, ?_, e3, atom_repL ha e4⟩
    cases z : Hs p with
    | none => rfl
    | some o => rw [g1.sh p o (both_s p o z)] at e2; cases e2
  · obtain ⟨t1, u1, j1, _, j3⟩ := backT_get k1
    obtain ⟨zs, rfl, _⟩ := backT_mut j3 m1
    obtain ⟨t2, u2, j1', _, j3'⟩ := backT_get k2
    obtain ⟨zs', rfl, _⟩ := backT_mut j3' m2
    exact I.diff i j _ _ zs zs' p j1 rfl j1' rfl g1 g2
end Ip

set_option Elab.async false
set_option linter.all false
set_option maxRecDepth 100000
set_option maxHeartbeats 4000000
/-! a block in which what stood before is told from what is new; what is new may be spoilt at its end -/
namespace Ip
open PySem L2
open Evl (Ex sz_of fresh_back)
variable {X : Cx} {a b e : Expr} {pos : Pos} {K : PySem.W.Frag} {Hs Hs' H H' : Hp} {σ σ' : L2.St} {env env' : MEnv}
def noH : Hp := fun _ => none
def markS : Slot → Slot
  | .val d => if pltD d = true then .val (oldOf d) else .un
  | .own xs => if xs.all atomD = true then .own xs else .un
  | _ => .un
def backS : Slot → Slot
  | .val (.dict [(.none, d)]) => if pltD d = true then .val d else .un
  | .val d => if atomD d = true then .val d else .un
  | .own xs => if xs.all atomD = true then .own xs else .un
  | _ => .un
def backL (L : List Nat) : Nat → MEnv → MEnv
  | _, [] => []
  | i, s :: r => (if i ∈ L then .un else backS s) :: backL L (i + 1) r
theorem backL_len (L : List Nat) : ∀ (i : Nat) (env : MEnv), (backL L i env).length = env.length
  | _, [] => rfl
  | i, s :: r => by
    show (backL L (i + 1) r).length + 1 = r.length + 1
    rw [backL_len L (i + 1) r]
theorem backL_get {L : List Nat} : ∀ {env : MEnv} {i j : Nat} {s : Slot}, (backL L i env)[j]? = some s → ∃ t, env[j]? = some t ∧ ((i + j ∈ L ∧ s = .un) ∨ (i + j ∉ L ∧ s = backS t))
  | [], _, _, _, h => by simp [backL] at h
  | t :: r, i, 0, s, h => by
    have h : (if i ∈ L then Slot.un else backS t) = s := by simpa [backL] using h
    refine ⟨t, rfl, ?_⟩
    by_cases hi : i ∈ L
    · rw [if_pos hi] at h; exact .inl ⟨hi, h.symm⟩
    · rw [if_neg hi] at h; exact .inr ⟨hi, h.symm⟩
  | t :: r, i, j + 1, s, h => by
    have h : (backL L (i + 1) r)[j]? = some s := by simpa [backL] using h
    obtain ⟨u, h1, h2⟩ := backL_get h
    refine ⟨u, by simpa using h1, ?_⟩
    rw [show i + (j + 1) = i + 1 + j by omega]
    exact h2
theorem backS_val {t : Slot} {d : PyData} (h : backS t = .val d) : (t = .val (oldD d) ∧ pltD d = true) ∨ (t = .val d ∧ atomD d = true) := by
  unfold backS at h
  split at h
  · rename_i d0
    split at h
    · rename_i hp; cases h; exact .inl ⟨rfl, hp⟩
    · cases h
  · split at h
    · rename_i hp; cases h; exact .inr ⟨rfl, hp⟩
    · cases h
  · split at h <;> cases h
  · cases h
theorem backS_mut {t s : Slot} {xs : List PyData} (h : backS t = s) (m : s.mut = some xs) : t = .own xs ∧ s = .own xs ∧ xs.all atomD = true := by
  unfold backS at h
  split at h
  · split at h <;> subst h <;> cases m
  · split at h <;> subst h <;> cases m
  · split at h
    · rename_i ha; subst h; cases m; exact ⟨rfl, rfl, ha⟩
    · subst h; cases m
  · subst h; cases m
theorem markS_val {t : Slot} {d : PyData} (h : markS t = .val d) : ∃ d0, t = .val d0 ∧ pltD d0 = true ∧ d = oldOf d0 := by
  unfold markS at h
  split at h
  · rename_i d0
    split at h
    · rename_i hp; cases h; exact ⟨d0, rfl, hp, rfl⟩
    · cases h
  · split at h <;> cases h
  · cases h
theorem markS_mut {t s : Slot} {xs : List PyData} (h : markS t = s) (m : s.mut = some xs) : t = .own xs ∧ s = .own xs ∧ xs.all atomD = true := by
  unfold markS at h
  split at h
  · split at h <;> subst h <;> cases m
  · split at h
    · rename_i ha; subst h; cases m; exact ⟨rfl, rfl, ha⟩
    · subst h; cases m
  · subst h; cases m
theorem mark_get {i : Nat} {s : Slot} (h : (env.map markS)[i]? = some s) : ∃ t, env[i]? = some t ∧ markS t = s := by
  rw [List.getElem?_map] at h
  cases z : env[i]? with
  | none => rw [z] at h; cases h
  | some t => rw [z] at h; cases h; exact ⟨t, rfl, rfl⟩
theorem inv_mark (I : @InvS noOld K Hs H σ env) : @InvS ⟨Hs, true⟩ K noH H σ (env.map markS) := by
  have mm : ∀ a, MutAt σ (env.map markS) a → MutAt σ env a := fun a ⟨i, s, xs, h1, h2, h3⟩ => by
    obtain ⟨t, k1, k2⟩ := mark_get h1
    obtain ⟨rfl, _⟩ := markS_mut k2 h2
    exact ⟨i, _, xs, k1, rfl, h3⟩
  refine @InvS.mk ⟨Hs, true⟩ _ _ _ _ _ (by rw [List.length_map]; exact I.len) (fun a o h => (by cases h)) (fun i d h => ?_) (fun i s xs h hm => ?_) (fun i j s t xs ys p h1 m1 h2 m2 g1 g2 => ?_) ⟨I.sh, fun a m => (I.mutAt_some (mm a m)).1⟩
  · obtain ⟨t, k1, k2⟩ := mark_get h
    obtain ⟨d0, rfl, hp, rfl⟩ := markS_val k2
    obtain ⟨v, e1, e2⟩ := I.vals i d0 k1
    exact ⟨v, e1, @rep_oldOf ⟨Hs, true⟩ K noH d0 v (rep_rep0 d0 v hp e2)⟩
  · obtain ⟨t, k1, k2⟩ := mark_get h
    obtain ⟨rfl, rfl, ha⟩ := markS_mut k2 hm
    obtain ⟨p, vs, e1, e2, e3, e4⟩ := I.muts i _ xs k1 rfl
    exact ⟨p, vs, e1, rfl, e3, atom_repL ha e4⟩
  · obtain ⟨t1, k1, k2⟩ := mark_get h1
    obtain ⟨rfl, _⟩ := markS_mut k2 m1
    obtain ⟨t2, k3, k4⟩ := mark_get h2
    obtain ⟨rfl, _⟩ := markS_mut k4 m2
    exact I.diff i j _ _ xs ys p k1 rfl k3 rfl g1 g2
/-- the block behind the moment -/
structure SQ (X : Cx) (sts : List Stmt) (g : MEnv → Option Out) : Prop where
  run : ∀ (Ho H0 : Hp) (σ0 : L2.St) (env0 env : MEnv) (σ : L2.St) (Hs H : Hp) (o : Out), Ex Ho H0 → (∀ a, MutAt σ0 env0 a → Ho a = none) → noIo env0 = true → g env = some o → @InvS ⟨Ho, true⟩ X.K Hs H σ env → Go σ0 env0 noH H0 σ env Hs H →
    ∀ D : Ends, @EndsOk noOld X.K σ0 env0 Ho H0 o D → WSs X sts D σ H
def shB (g : MEnv → Option Out) : MEnv → Option Out := fun env => if noIo env = true then g (env.map markS) else none
theorem sq_start {sts : List Stmt} {g : MEnv → Option Out} (h : SQ X sts g) : SB X sts (shB g) := by
  refine ⟨?_⟩
  intro env σ Hs H o hf I D q
  unfold shB at hf
  split at hf
  rotate_left
  · cases hf
  rename_i hn
  have mm : ∀ a, MutAt σ (env.map markS) a → MutAt σ env a := fun a ⟨i, s, xs, h1, h2, h3⟩ => by
    obtain ⟨t, k1, k2⟩ := mark_get h1
    obtain ⟨rfl, _⟩ := markS_mut k2 h2
    exact ⟨i, _, xs, k1, rfl, h3⟩
  refine h.run Hs H σ env _ σ noH H o I.sh (fun a m => (I.mutAt_some m).1) hn hf (inv_mark I) ⟨fun a o h => (by cases h), fun a o h _ => h, fun a o h => ⟨o, h⟩, fun a o h => (by cases h), fun a m => .inl (mm a m), fun a ⟨i, xs, h1, h3⟩ => ?_, fun i xs h => absurd h (noIo_at hn)⟩ D q
  obtain ⟨t, k1, k2⟩ := mark_get h1
  obtain ⟨rfl, _⟩ := markS_mut k2 (xs := xs) rfl
  exact .inl ⟨i, xs, k1, h3⟩
def blankE (env : MEnv) : MEnv := env.map fun _ => .un
theorem blank_get {i : Nat} {s : Slot} (h : (blankE env)[i]? = some s) : s = .un := by
  unfold blankE at h
  rw [List.getElem?_map] at h
  cases z : env[i]? with
  | none => rw [z] at h; cases h
  | some t => rw [z] at h; cases h; rfl
def seqQ (f g : MEnv → Option Out) : MEnv → Option Out := fun env => match f env with
  | some (.nx e1) => g e1
  | some (.rt (.val (.bool b)) e1) => some (.rt (.val (.bool b)) (blankE e1))
  | _ => none
theorem rt_blank {Ho H0 : Hp} {σ0 : L2.St} {env0 : MEnv} (hn : noIo env0 = true) (I : @InvS ⟨Ho, true⟩ K Hs H σ env) (g : Go σ0 env0 noH H0 σ env Hs H) {k : Bool} {D : Ends} (q : @EndsOk noOld K σ0 env0 Ho H0 (.rt (.val (.bool k)) (blankE env)) D) : D.rt (.bl k) H := by
  refine q (.bl k) σ Ho H ⟨Ex.refl _, g.kp, g.dm, fun a o h => .inl h, fun a ⟨i, s, xs, h1, h2, _⟩ => ?_, fun a ⟨i, xs, h1, _⟩ => ?_, fun i xs h => absurd h (noIo_at hn)⟩ ?_ rfl
  · rw [blank_get h1] at h2; cases h2
  · cases blank_get h1
  · have hl := @InvS.len ⟨Ho, true⟩ _ _ _ _ _ I
    refine @InvS.mk noOld _ _ _ _ _ (by unfold blankE; rw [List.length_map]; exact hl) (@InvS.old ⟨Ho, true⟩ _ _ _ _ _ I).1 (fun i d h => ?_) (fun i s xs h hm => ?_) (fun i j s t xs ys p h1 m1 h2 m2 g1 g2 => ?_) ⟨fun a o h => (by cases h), fun a m => rfl⟩
    · cases blank_get h
    · rw [blank_get h] at hm; cases hm
    · rw [blank_get h1] at m1; cases m1
theorem sq_cons {st : Stmt} {sts : List Stmt} {f g : MEnv → Option Out} (h : ∀ _ : Old, SS X st f) (hs : SQ X sts g) : SQ X (st :: sts) (seqQ f g) := by
  refine ⟨?_⟩
  intro Ho H0 σ0 env0 env σ Hs H o ox mo hn hf I gg D q
  refine WSs.of (pss_cons (WS.ps X st) (WSs.ps X sts)) ?_
  unfold seqQ at hf
  split at hf
  · rename_i e1 h1
    exact @SS.run ⟨Ho, true⟩ X st f (h ⟨Ho, true⟩) env σ Hs H _ h1 I _ fun σ1 Hs1 H1 g1 I1 => hs.run Ho H0 σ0 env0 e1 σ1 Hs1 H1 o ox mo hn hf I1 (gg.trans g1) D q
  · rename_i k e1 h1
    cases hf
    exact @SS.run ⟨Ho, true⟩ X st f (h ⟨Ho, true⟩) env σ Hs H _ h1 I _ fun v σ1 Hs1 H1 g1 I1 rr => by
      cases (show v = .bl k from rr)
      exact rt_blank hn I1 (gg.trans g1) q
  · cases hf
/-- a statement that spoils what is new -/
structure MS (X : Cx) (st : Stmt) (L : List Nat) (chk : MEnv → Bool) : Prop where
  run : ∀ (oo : Old) (env : MEnv) (σ : L2.St) (Hs H : Hp), oo.strict = true → chk env = true → @InvS oo X.K Hs H σ env → ∀ D : Ends,
    (∀ σ' H', Off L σ σ' → (∀ a o, H a = some o → Hs a = none → ¬ (∃ i xs, i ∈ L ∧ env[i]? = some (.own xs) ∧ σ[i]? = some (some (.ref a))) → H' a = some o) → (∀ a o, H a = some o → ∃ u, H' a = some u) → D.nx σ' H') → WS X st D σ H
def messB (L : List Nat) (chk : MEnv → Bool) (f : MEnv → Option Out) : MEnv → Option Out := fun env => if chk env = true then f (backL L 0 env) else none
theorem sq_mess {st : Stmt} {sts : List Stmt} {L : List Nat} {chk : MEnv → Bool} {f : MEnv → Option Out} (h : MS X st L chk) (hs : @SB noOld X sts f) : SQ X (st :: sts) (messB L chk f) := by
  refine ⟨?_⟩
  intro Ho H0 σ0 env0 env σ Hs H o ox mo hn hf I gg D q
  refine WSs.of (pss_cons (WS.ps X st) (WSs.ps X sts)) ?_
  unfold messB at hf
  split at hf
  rotate_left
  · cases hf
  rename_i hc
  refine h.run ⟨Ho, true⟩ env σ Hs H rfl hc I _ fun σ' H' off kp dm => ?_
  have Il := @InvS.len ⟨Ho, true⟩ _ _ _ _ _ I
  have Iold := @InvS.old ⟨Ho, true⟩ _ _ _ _ _ I
  have own_mut : ∀ a, (∃ i xs, i ∈ L ∧ env[i]? = some (.own xs) ∧ σ[i]? = some (some (.ref a))) → MutAt σ env a := fun a ⟨i, xs, _, h1, h2⟩ => ⟨i, _, xs, h1, rfl, h2⟩
  have hsnone : ∀ a o, H0 a = some o → ¬ MutAt σ0 env0 a → Hs a = none := fun a o h1 h2 => by
    cases z : Hs a with
    | none => rfl
    | some u =>
      rcases gg.nw a u z with y | y | y
      · cases y
      · rw [h1] at y; cases y
      · exact absurd y.mut h2
  have kp0 : ∀ a o, H0 a = some o → ¬ MutAt σ0 env0 a → H' a = some o := fun a o h1 h2 => kp a o (gg.kp a o h1 h2) (hsnone a o h1 h2) fun m => by
    rcases gg.ow a (own_mut a m) with y | y
    · exact h2 y
    · rw [h1] at y; cases y
  have shH : Ex Ho H' := fun a o h1 => kp0 a o (ox a o h1) fun m => by rw [mo a m] at h1; cases h1
  have mback : ∀ {i : Nat} {s : Slot} {xs : List PyData}, (backL L 0 env)[i]? = some s → s.mut = some xs → env[i]? = some (.own xs) ∧ i ∉ L ∧ s = .own xs ∧ xs.all atomD = true := fun {i s xs} h1 h2 => by
    obtain ⟨t, k1, k2⟩ := backL_get h1
    rw [Nat.zero_add] at k2
    rcases k2 with ⟨_, rfl⟩ | ⟨k2, k3⟩
    · cases h2
    · obtain ⟨rfl, r2, r3⟩ := backS_mut k3.symm h2
      exact ⟨k1, k2, r2, r3⟩
  have mm : ∀ a, MutAt σ' (backL L 0 env) a → MutAt σ env a := fun a ⟨i, s, xs, h1, h2, h3⟩ => by
    obtain ⟨k1, k2, _⟩ := mback h1 h2
    exact ⟨i, _, xs, k1, rfl, by rw [← off.2 i k2]; exact h3⟩
  have IN : @InvS noOld X.K Ho H' σ' (backL L 0 env) := by
    refine @InvS.mk noOld _ _ _ _ _ (by rw [backL_len, off.1]; exact Il) shH (fun i d h1 => ?_) (fun i s xs h1 hm => ?_) (fun i j s t xs ys p h1 m1 h2 m2 g1 g2 => ?_) ⟨fun a o h => (by cases h), fun a m => rfl⟩
    · obtain ⟨t, k1, k2⟩ := backL_get h1
      rw [Nat.zero_add] at k2
      rcases k2 with ⟨_, z⟩ | ⟨k2, k3⟩
      · cases z
      · rcases backS_val k3.symm with ⟨rfl, hp⟩ | ⟨rfl, ha⟩
        · obtain ⟨v, e1, e2⟩ := @InvS.vals ⟨Ho, true⟩ _ _ _ _ _ I i _ k1
          exact ⟨v, by rw [off.2 i k2]; exact e1, @rep0_rep _ _ _ (Ex.refl Ho) d v (@rep_old ⟨Ho, true⟩ _ _ _ _ e2).2⟩
        · obtain ⟨v, e1, e2⟩ := @InvS.vals ⟨Ho, true⟩ _ _ _ _ _ I i _ k1
          exact ⟨v, by rw [off.2 i k2]; exact e1, atom_rep ha e2⟩
    · obtain ⟨k1, k2, rfl, ha⟩ := mback h1 hm
      obtain ⟨p, vs, e1, e2, e3, e4⟩ := @InvS.muts ⟨Ho, true⟩ _ _ _ _ _ I i _ xs k1 rfl
      have pm : MutAt σ env p := ⟨i, _, xs, k1, rfl, e1⟩
      refine ⟨p, vs, by rw [off.2 i k2]; exact e1, Iold.2 p pm, kp p _ e3 e2 fun ⟨j, ys, j1, j2, j3⟩ => ?_, atom_repL ha e4⟩
      have := @InvS.diff ⟨Ho, true⟩ _ _ _ _ _ I i j _ _ xs ys p k1 rfl j2 rfl e1 j3
      exact k2 (this ▸ j1)
    · obtain ⟨k1, k2, _⟩ := mback h1 m1
      obtain ⟨k3, k4, _⟩ := mback h2 m2
      rw [off.2 i k2] at g1
      rw [off.2 j k4] at g2
      exact @InvS.diff ⟨Ho, true⟩ _ _ _ _ _ I i j _ _ xs ys p k1 rfl k3 rfl g1 g2
  have GN : Go σ0 env0 Ho H0 σ' (backL L 0 env) Ho H' := by
    refine ⟨Ex.refl _, kp0, fun a o h1 => ?_, fun a o h1 => .inl h1, fun a m => gg.ow a (mm a m), fun a ⟨i, xs, h1, h3⟩ => ?_, fun i xs h1 => absurd h1 (noIo_at hn)⟩
    · obtain ⟨u, hu⟩ := gg.dm a o h1
      exact dm a u hu
    · obtain ⟨k1, k2, _⟩ := mback h1 (xs := xs) rfl
      exact gg.lo a ⟨i, xs, k1, by rw [← off.2 i k2]; exact h3⟩
  exact @SB.run noOld X sts f hs (backL L 0 env) σ' Ho H' o hf IN D (@EndsOk.step noOld _ _ _ _ _ _ _ _ _ GN _ _ q)
end Ip
namespace Ip
open PySem L2
variable {X : Cx} {pos : Pos}
theorem sq_if {t : Expr} {A B sts : List Stmt} {ft : MEnv → Option (Bool × MEnv)} {fa fb g : MEnv → Option Out} (ht : @ST noOld X t ft) (ha : ∀ _ : Old, SB X A fa) (hb : ∀ _ : Old, SB X B fb) (hs : SQ X sts g) : SQ X (.If t A B pos :: sts) (seqQ (ifB (unT ft) fa fb) g) :=
  sq_cons (fun _ => ss_if (st_un ht) (ha _) (hb _)) hs
end Ip

set_option Elab.async false
set_option linter.all false
set_option maxRecDepth 100000
set_option maxHeartbeats 4000000
/-! lists that are spoilt: what is known of them is their kind and a bound of their length -/
namespace Ip
open PySem L2
open Evl (Ex sz_of fresh_back)
variable {X : Cx} {a b e : Expr} {pos : Pos} {K : PySem.W.Frag} {Hs Hs' H H' H'' F F' F'' : Hp} {σ σ' : L2.St}
inductive GT where
  | any
  | s (z : Str)
  | lst (n : Nat) (e : GT)
  | t3 (x y z : GT)
abbrev TA := Addr → Option (Nat × GT)
abbrev TE' := List (Option GT)
def HasT (K : PySem.W.Frag) (F : Hp) (T : TA) : GT → V → Prop
  | .any, _ => True
  | .s z, v => v = .str z
  | .lst n e, v => ∃ a, v = .ref a ∧ T a = some (n, e)
  | .t3 x y z, v => ∃ a p q r, v = .ref a ∧ SqT K F a [p, q, r] ∧ HasT K F T x p ∧ HasT K F T y q ∧ HasT K F T z r
variable {T T' T'' : TA}
theorem HasT.mono (eF : Ex F F') (eT : ∀ a e, T a = some e → T' a = some e) : ∀ {τ : GT} {v : V}, HasT K F T τ v → HasT K F' T' τ v
  | .any, _, _ => trivial
  | .s _, _, h => h
  | .lst n e, _, ⟨a, h1, h2⟩ => ⟨a, h1, eT a _ h2⟩
  | .t3 x y z, _, ⟨a, p, q, r, h1, h2, h3, h4, h5⟩ => ⟨a, p, q, r, h1, Evl.ex_t eF h2, HasT.mono eF eT h3, HasT.mono eF eT h4, HasT.mono eF eT h5⟩
def gr : GT → Nat × Nat → Nat
  | .any, g => g.1
  | .lst _ .any, g => g.2
  | _, _ => 0
theorem gr_mono {g g' : Nat × Nat} (h1 : g.1 ≤ g'.1) (h2 : g.2 ≤ g'.2) : ∀ e : GT, gr e g ≤ gr e g'
  | .any => h1
  | .s _ => Nat.le_refl _
  | .t3 _ _ _ => Nat.le_refl _
  | .lst _ .any => h2
  | .lst _ (.s _) => Nat.le_refl _
  | .lst _ (.lst _ _) => Nat.le_refl _
  | .lst _ (.t3 _ _ _) => Nat.le_refl _
structure HV (K : PySem.W.Frag) (F : Hp) (T : TA) (g : Nat × Nat) (H : Hp) : Prop where
  fr : Ex F H
  ls : ∀ a n e, T a = some (n, e) → F a = none ∧ ∃ vs, H a = some (.lst vs) ∧ vs.length ≤ n + gr e g ∧ ∀ v ∈ vs, HasT K F T e v
structure Gw (F : Hp) (T : TA) (H : Hp) (F' : Hp) (T' : TA) (H' : Hp) : Prop where
  f : Ex F F'
  t : ∀ a e, T a = some e → T' a = some e
  tn : ∀ a e, T' a = some e → T a = some e ∨ H a = none
  kp : ∀ a o, H a = some o → T a = none → H' a = some o
  dm : ∀ a o, H a = some o → ∃ u, H' a = some u
theorem Gw.refl : Gw F T H F T H := ⟨Ex.refl _, fun _ _ h => h, fun _ _ h => .inl h, fun _ _ h _ => h, fun _ o h => ⟨o, h⟩⟩
theorem Gw.trans (g : Gw F T H F' T' H') (g' : Gw F' T' H' F'' T'' H'') : Gw F T H F'' T'' H'' where
  f := g.f.trans g'.f
  t := fun a e h => g'.t a e (g.t a e h)
  tn := fun a e h => by
    rcases g'.tn a e h with z | z
    · exact g.tn a e z
    · refine .inr ?_
      cases q : H a with
      | none => rfl
      | some o => obtain ⟨u, hu⟩ := g.dm a o q; rw [hu] at z; cases z
  kp := fun a o h n => g'.kp a o (g.kp a o h n) (by
    cases q : T' a with
    | none => rfl
    | some e =>
      rcases g.tn a e q with z | z
      · rw [n] at z; cases z
      · rw [h] at z; cases z)
  dm := fun a o h => by
    obtain ⟨u, hu⟩ := g.dm a o h
    exact g'.dm a u hu
structure TEok (K : PySem.W.Frag) (F : Hp) (T : TA) (te : TE') (σ : L2.St) : Prop where
  len : te.length = σ.length
  at_ : ∀ (i : Nat) (τ : GT), te[i]? = some (some τ) → ∃ v, σ[i]? = some (some v) ∧ HasT K F T τ v
def freeT (te : TE') (ix : List Nat) : Bool := ix.all fun i => match te[i]? with
  | some (some _) => false
  | _ => true
theorem TEok.step {te : TE'} (h : TEok K F T te σ) {ix : List Nat} (hf : freeT te ix = true) (o : Off ix σ σ') (eF : Ex F F') (eT : ∀ a e, T a = some e → T' a = some e) : TEok K F' T' te σ' := ⟨h.len.trans o.1.symm, fun i τ hi => by
  obtain ⟨v, h1, h2⟩ := h.at_ i τ hi
  refine ⟨v, ?_, HasT.mono eF eT h2⟩
  rw [o.2 i fun hm => ?_]
  · exact h1
  · have := List.all_eq_true.mp hf i hm
    rw [hi] at this
    cases this⟩
/-! ### expressions that only look -/
structure TX (X : Cx) (e : Expr) (f : TE' → Option GT) : Prop where
  run : ∀ (F : Hp) (T : TA) (g : Nat × Nat) (H : Hp) (σ : L2.St) (te : TE') (τ : GT), f te = some τ → HV X.K F T g H → TEok X.K F T te σ → ∀ Q : VK, (∀ v, HasT X.K F T τ v → Q v H) → W X e σ H Q
theorem tx_name {i : Nat} {x : Str} (h : PE X (.Name x pos) (tVar i)) : TX X (.Name x pos) (fun te => (te[i]?).join) := .mk fun F T g H σ te τ hf hv ht Q q => by
  have hi : te[i]? = some (some τ) := by
    cases z : te[i]? with
    | none => rw [z] at hf; cases hf
    | some o => rw [z] at hf; cases o with
      | none => cases hf
      | some t => cases hf; rfl
  obtain ⟨v, h1, h2⟩ := ht.at_ i τ hi
  exact W.of h ⟨v, h1, q v h2⟩
def ixT (k : Int) : Option GT → Option GT
  | some (.t3 x y z) => if k = 0 then some x else if k = 1 then some y else if k = 2 then some z else none
  | _ => none
theorem tx_ix {k : Int} {j : Nat} {p p2 : Pos} {f : TE' → Option GT} (h : TX X e f) : TX X (.Subscript e (.Constant (.int k) j p) p2) (fun te => ixT k (f te)) := .mk fun F T g H σ te τ hf hv ht Q q => by
  refine W.of (pe_ix ix_seq (W.pe X e) pe_int (fun _ _ => rfl)) ?_
  unfold ixT at hf
  split at hf
  · rename_i x y z hz
    refine h.run F T g H σ te _ hz hv ht _ fun v hvt => ?_
    obtain ⟨a, p1, p2, p3, rfl, h1, h2, h3, h4⟩ := hvt
    have sq := Evl.ex_t hv.fr h1
    split at hf
    · rename_i hk; cases hf; subst hk
      exact .inr (.inl ⟨a, _, 0, p1, rfl, rfl, sq, rfl, q p1 h2⟩)
    · split at hf
      · rename_i hk; cases hf; subst hk
        exact .inr (.inl ⟨a, _, 1, p2, rfl, rfl, sq, rfl, q p2 h3⟩)
      · split at hf
        · rename_i hk; cases hf; subst hk
          exact .inr (.inl ⟨a, _, 2, p3, rfl, rfl, sq, rfl, q p3 h4⟩)
        · cases hf
  · cases hf
/-! ### statements: te says what they need; ix are the names that they store, c how much lists grow -/
def Post (K : PySem.W.Frag) (F : Hp) (T : TA) (g : Nat × Nat) (H : Hp) (σ : L2.St) (te : TE') (c : Nat × Nat) (ix : List Nat) (P : L2.St → Hp → Prop) : Prop :=
  ∀ σ' F' T' g' H', Gw F T H F' T' H' → HV K F' T' g' H' → TEok K F' T' te σ' → g.1 ≤ g'.1 → g.2 ≤ g'.2 → g'.1 ≤ g.1 + c.1 → g'.2 ≤ g.2 + c.2 → Off ix σ σ' → P σ' H'
structure T1 (X : Cx) (st : Stmt) (chk : TE' → Bool) (c : Nat × Nat) (ix : List Nat) : Prop where
  run : ∀ (F : Hp) (T : TA) (g : Nat × Nat) (H : Hp) (σ : L2.St) (te : TE'), chk te = true → HV X.K F T g H → TEok X.K F T te σ → g.1 + c.1 ≤ 90000 → g.2 + c.2 ≤ 1000 → ∀ D : Ends, Post X.K F T g H σ te c ix D.nx → WS X st D σ H
structure TS' (X : Cx) (sts : List Stmt) (chk : TE' → Bool) (c : Nat × Nat) (ix : List Nat) : Prop where
  run : ∀ (F : Hp) (T : TA) (g : Nat × Nat) (H : Hp) (σ : L2.St) (te : TE'), chk te = true → HV X.K F T g H → TEok X.K F T te σ → g.1 + c.1 ≤ 90000 → g.2 + c.2 ≤ 1000 → ∀ D : Ends, Post X.K F T g H σ te c ix D.nx → WSs X sts D σ H
theorem ts_nil : TS' X [] (fun _ => true) (0, 0) [] := .mk fun F T g H σ te hc hv ht h1 h2 D q => WSs.of pss_nil (q σ F T g H Gw.refl hv ht (Nat.le_refl _) (Nat.le_refl _) (Nat.le_refl _) (Nat.le_refl _) Off.refl)
theorem ts_cons {st : Stmt} {sts : List Stmt} {k1 k2 : TE' → Bool} {c1 c2 : Nat × Nat} {ix jx : List Nat} (h : T1 X st k1 c1 ix) (hs : TS' X sts k2 c2 jx) : TS' X (st :: sts) (fun te => k1 te && k2 te) (c1.1 + c2.1, c1.2 + c2.2) (ix ++ jx) := .mk fun F T g H σ te hc hv ht h1 h2 D q => by
  rw [Bool.and_eq_true] at hc
  refine WSs.of (pss_cons (WS.ps X st) (WSs.ps X sts)) ?_
  have h1 : g.1 + (c1.1 + c2.1) ≤ 90000 := h1
  have h2 : g.2 + (c1.2 + c2.2) ≤ 1000 := h2
  refine h.run F T g H σ te hc.1 hv ht (by omega) (by omega) _ fun σ1 F1 T1 g1 H1 gw1 hv1 ht1 a1 a2 a3 a4 o1 => ?_
  refine hs.run F1 T1 g1 H1 σ1 te hc.2 hv1 ht1 (by omega) (by omega) D fun σ2 F2 T2 g2 H2 gw2 hv2 ht2 b1 b2 b3 b4 o2 => ?_
  refine q σ2 F2 T2 g2 H2 (gw1.trans gw2) hv2 ht2 (by omega) (by omega) ?_ ?_ (o1.trans o2)
  · show g2.1 ≤ g.1 + (c1.1 + c2.1); omega
  · show g2.2 ≤ g.2 + (c1.2 + c2.2); omega
def isLst (e : GT) : Option GT → Bool
  | some (.lst n e') => decide (n ≤ 9) && match e, e' with
    | .any, .any => true
    | .lst n _, .lst m .any => decide (n ≤ m)
    | _, _ => false
  | _ => false
theorem HV.app (hv : HV K F T g H) {a : Addr} {n : Nat} {e : GT} (hT : T a = some (n, e)) {vs : List V} (hH : H a = some (.lst vs)) {v : V} (ht : HasT K F T e v) {g' : Nat × Nat} (k1 : g.1 ≤ g'.1) (k2 : g.2 ≤ g'.2) (k3 : gr e g + 1 ≤ gr e g') : HV K F T g' (upd H a (.lst (vs ++ [v]))) where
  fr := fun b o h => by
    have ne : b ≠ a := fun z => by subst z; rw [(hv.ls b n e hT).1] at h; cases h
    rw [upd_ne ne]; exact hv.fr b o h
  ls := fun b m e' h => by
    obtain ⟨h1, us, h2, h3, h4⟩ := hv.ls b m e' h
    refine ⟨h1, ?_⟩
    by_cases z : b = a
    · subst z
      rw [hT] at h
      cases h
      rw [hH] at h2
      cases h2
      refine ⟨vs ++ [v], upd_same, by rw [List.length_append, List.length_singleton]; omega, fun u hu => ?_⟩
      rcases List.mem_append.mp hu with y | y
      · exact h4 u y
      · cases List.mem_singleton.mp y; exact ht
    · have := gr_mono k1 k2 e'
      exact ⟨us, by rw [upd_ne z]; exact h2, by omega, h4⟩
theorem Gw.upd {a : Addr} {x : Nat × GT} (hT : T a = some x) (o : HO) : Gw F T H F T (upd H a o) := ⟨Ex.refl _, fun _ _ h => h, fun _ _ h => .inl h, fun b u h n => by
    have ne : b ≠ a := fun z => by subst z; rw [hT] at n; cases n
    rw [upd_ne ne]; exact h, fun b u h => by
    by_cases z : b = a
    · exact ⟨o, by rw [z]; exact upd_same⟩
    · exact ⟨u, by rw [upd_ne z]; exact h⟩⟩
/-- o.append(a whole number) -/
theorem t1_appN {o : Expr} {k : Int} {j : Nat} {pa p2 p3 : Pos} {f : TE' → Option GT} (h : TX X o f) (hb : attributeBase o "append" X.env (eval o X.env) = eval o X.env) (hline : (pa.endLine == p2.line) = true) :
    T1 X (.Expr (.Call (.Attribute o "append" pa) [.Constant (.int k) j p3] [] p2) pos) (fun te => isLst .any (f te)) (1, 0) [] := .mk fun F T g H σ te hc hv ht h1 h2 D q => by
  have pe := pe_bm (X := X) PySem.F.plainAttrs_list PySem.F.slot_list_append PySem.F.type_list_append mt_append (W.pe X o) (pa_cons ((show PE X (.Constant (.int k) j p3) (tC (.int k)) from pe_int)) pa_nil (star_plain rfl)) (apos := pa) (cpos := p2) hb (by rw [star_plain rfl]; rfl) hline (star_plain rfl) rfl
  refine WS.of (ps_expr pe) ?_
  cases hτ : f te with
  | none => rw [hτ] at hc; cases hc
  | some τ =>
    rw [hτ] at hc
    cases τ <;> try (cases hc; done)
    rename_i n e
    cases e <;> try (simp [isLst] at hc; done)
    simp only [isLst, Bool.and_true, decide_eq_true_eq] at hc
    refine h.run F T g H σ te _ hτ hv ht _ fun v hvt => ?_
    obtain ⟨a, rfl, hT⟩ := hvt
    obtain ⟨_, vs, hH, hl, hall⟩ := hv.ls a n _ hT
    have hl : vs.length ≤ n + g.1 := hl
    have h1 : g.1 + 1 ≤ 90000 := h1
    refine ⟨.inl ⟨rfl, vs, Evl.sq_of hH⟩, ?_⟩
    refine ⟨a, vs, .int k, rfl, rfl, hH, Evl.sz_lt (by omega), ?_⟩
    exact q σ F T (g.1 + 1, g.2) _ (Gw.upd hT _) (hv.app hT hH (g' := (g.1 + 1, g.2)) trivial (Nat.le_succ _) (Nat.le_refl _) (Nat.le_refl _)) ht (Nat.le_succ _) (Nat.le_refl _) (Nat.le_refl _) (Nat.le_refl _) Off.refl
/-- o.clear() -/
theorem t1_clear {o : Expr} {pa p2 : Pos} {f : TE' → Option GT} (h : TX X o f) (hb : attributeBase o "clear" X.env (eval o X.env) = eval o X.env) (hline : (pa.endLine == p2.line) = true) :
    T1 X (.Expr (.Call (.Attribute o "clear" pa) [] [] p2) pos) (fun te => match f te with | some (.lst _ _) => true | _ => false) (0, 0) [] := .mk fun F T g H σ te hc hv ht h1 h2 D q => by
  have pe := pe_bm0 (X := X) PySem.F.plainAttrs_list PySem.F.slot_list_clear PySem.F.type_list_clear mt_clear (W.pe X o) (apos := pa) (cpos := p2) hb hline
  refine WS.of (ps_expr pe) ?_
  cases hτ : f te with
  | none => rw [hτ] at hc; cases hc
  | some τ =>
    rw [hτ] at hc
    cases τ <;> try (cases hc; done)
    rename_i n e
    refine h.run F T g H σ te _ hτ hv ht _ fun v hvt => ?_
    obtain ⟨a, rfl, hT⟩ := hvt
    obtain ⟨hn, vs, hH, hl, hall⟩ := hv.ls a n _ hT
    refine ⟨.inl ⟨rfl, vs, Evl.sq_of hH⟩, ?_⟩
    refine ⟨a, vs, rfl, rfl, hH, ?_⟩
    refine q σ F T g _ (Gw.upd hT _) ⟨fun b o h => ?_, fun b m e' hb => ?_⟩ ht (Nat.le_refl _) (Nat.le_refl _) (Nat.le_refl _) (Nat.le_refl _) Off.refl
    · have ne : b ≠ a := fun z => by subst z; rw [hn] at h; cases h
      rw [upd_ne ne]; exact hv.fr b o h
    · obtain ⟨k1, us, k2, k3, k4⟩ := hv.ls b m e' hb
      refine ⟨k1, ?_⟩
      by_cases z : b = a
      · subst z
        exact ⟨[], upd_same, Nat.zero_le _, fun v hv => (by cases hv)⟩
      · exact ⟨us, by rw [upd_ne z]; exact k2, k3, k4⟩
/-- o.append([k]) -/
theorem t1_appL {o : Expr} {k : Int} {j : Nat} {pa p2 p3 p4 : Pos} {f : TE' → Option GT} (h : TX X o f) (hb : attributeBase o "append" X.env (eval o X.env) = eval o X.env) (hline : (pa.endLine == p2.line) = true) :
    T1 X (.Expr (.Call (.Attribute o "append" pa) [.List [.Constant (.int k) j p3] p4] [] p2) pos) (fun te => isLst (.lst 1 .any) (f te)) (0, 1) [] := .mk fun F T g H σ te hc hv ht h1 h2 D q => by
  have pe := pe_bm (X := X) PySem.F.plainAttrs_list PySem.F.slot_list_append PySem.F.type_list_append mt_append (W.pe X o) (pa_cons (pe_lst (pos := p4) (pa_cons ((show PE X (.Constant (.int k) j p3) (tC (.int k)) from pe_int)) pa_nil (star_plain rfl))) pa_nil (star_plain rfl)) (apos := pa) (cpos := p2) hb (by rw [star_plain rfl]; rfl) hline (star_plain rfl) rfl
  refine WS.of (ps_expr pe) ?_
  cases hτ : f te with
  | none => rw [hτ] at hc; cases hc
  | some τ =>
    rw [hτ] at hc
    cases τ <;> try (cases hc; done)
    rename_i n e
    cases e <;> try (simp [isLst] at hc; done)
    rename_i m e2
    cases e2 <;> try (simp [isLst] at hc; done)
    simp only [isLst, Bool.and_eq_true, decide_eq_true_eq] at hc
    refine h.run F T g H σ te _ hτ hv ht _ fun v hvt => ?_
    obtain ⟨a, rfl, hT⟩ := hvt
    obtain ⟨hn, vs, hH, hl, hall⟩ := hv.ls a n _ hT
    have hl : vs.length ≤ n + g.2 := hl
    have h2 : g.2 + 1 ≤ 1000 := h2
    refine ⟨.inl ⟨rfl, vs, Evl.sq_of hH⟩, ?_⟩
    refine ⟨sz_of (n := 1) (by omega), fun p hp => ?_⟩
    have ne : a ≠ p := ne_of_none hH hp
    have hHp : upd H p (.lst [V.int k]) a = some (.lst vs) := by rw [upd_ne ne]; exact hH
    refine ⟨a, vs, .ref p, rfl, rfl, hHp, Evl.sz_lt (by omega), ?_⟩
    -- the new list gets its kind
    have tp : T p = none := by
      cases z : T p with
      | none => rfl
      | some x => obtain ⟨_, us, z2, _⟩ := hv.ls p x.1 x.2 z; rw [hp] at z2; cases z2
    let T1 : TA := fun b => if b = p then some (m, .any) else T b
    have eT : ∀ b e, T b = some e → T1 b = some e := fun b e hb => by
      show (if b = p then _ else T b) = _
      rw [if_neg fun z => by subst z; rw [tp] at hb; cases hb]
      exact hb
    have hv1 : HV X.K F T1 g (upd H p (.lst [V.int k])) := by
      refine ⟨hv.fr.trans (Ex.new hp), fun b m' e' hb => ?_⟩
      by_cases z : b = p
      · subst z
        have : (some (m, GT.any) : Option (Nat × GT)) = some (m', e') := by
          rw [← hb]; show _ = (if b = b then _ else T b); rw [if_pos rfl]
        cases this
        refine ⟨?_, [V.int k], upd_same, ?_, fun v hv => trivial⟩
        · cases z : F b with
          | none => rfl
          | some o => rw [hv.fr b o z] at hp; cases hp
        · show 1 ≤ _ + g.1; omega
      · have hb' : T b = some (m', e') := by rw [← hb]; show T b = (if b = p then _ else T b); rw [if_neg z]
        obtain ⟨k1, us, k2, k3, k4⟩ := hv.ls b m' e' hb'
        exact ⟨k1, us, by rw [upd_ne z]; exact k2, k3, fun v hv' => HasT.mono (Ex.refl _) eT (k4 v hv')⟩
    have hT1 : T1 a = some (n, .lst m .any) := eT a _ hT
    have gw1 : Gw F T H F T1 (upd H p (.lst [V.int k])) := ⟨Ex.refl _, eT, fun b e hb => by
      by_cases z : b = p
      · exact .inr (z ▸ hp)
      · refine .inl ?_
        rw [← hb]; show T b = (if b = p then _ else T b); rw [if_neg z], fun b u h _ => by rw [upd_ne (ne_of_none h hp)]; exact h, fun b u h => ⟨u, by rw [upd_ne (ne_of_none h hp)]; exact h⟩⟩
    have hp1 : T1 p = some (m, .any) := by show (if p = p then _ else T p) = _; rw [if_pos rfl]
    refine q σ F T1 (g.1, g.2 + 1) _ (gw1.trans (Gw.upd hT1 _)) (hv1.app hT1 hHp (v := .ref p) (g' := (g.1, g.2 + 1)) ⟨p, rfl, hp1⟩ (Nat.le_refl _) (Nat.le_succ _) (Nat.le_refl _)) ⟨ht.len, fun i τ hi => ?_⟩ (Nat.le_refl _) (Nat.le_succ _) (Nat.le_refl _) (Nat.le_refl _) Off.refl
    obtain ⟨v, w1, w2⟩ := ht.at_ i τ hi
    exact ⟨v, w1, HasT.mono (Ex.refl _) eT w2⟩
theorem iteD {α : Type} [DecidableEq α] {x : α} {A B : Prop} (h : A) : if decide (x = x) = true then A else B := by
  rw [if_pos (decide_eq_true rfl)]; exact h
theorem iteN {c : Prop} [Decidable c] {A B : Prop} (n : ¬ c) (h : B) : if decide c = true then A else B := by
  rw [if_neg (fun z => n (of_decide_eq_true z))]; exact h
/-- if o == 'z': .. else: .. -/
def chkIf (o : Option GT) (z : Str) (a b : Bool) : Bool := match o with
  | some (.s w) => if w = z then a else b
  | _ => false
theorem t1_if {o : Expr} {z : Str} {j : Nat} {p1 p2 : Pos} {A B : List Stmt} {f : TE' → Option GT} {kA kB : TE' → Bool} {cA cB : Nat × Nat} {ix jx : List Nat} (h : TX X o f) (hA : TS' X A kA cA ix) (hB : TS' X B kB cB jx) :
    T1 X (.If (.Compare o [.Eq] [.Constant (.str z) j p1] p2) A B pos) (fun te => chkIf (f te) z (kA te) (kB te)) (cA.1 + cB.1, cA.2 + cB.2) (ix ++ jx) := .mk fun F T g H σ te hc hv ht h1 h2 D q => by
  have h1 : g.1 + (cA.1 + cB.1) ≤ 90000 := h1
  have h2 : g.2 + (cA.2 + cB.2) ≤ 1000 := h2
  refine WS.of (ps_if (pt_cmpR op_eq (W.pe X o) pe_str (nomark _)) (WSs.ps X A) (WSs.ps X B)) ?_
  unfold chkIf at hc
  split at hc
  · rename_i w hw
    refine h.run F T g H σ te _ hw hv ht _ fun v hvt => ?_
    cases (show v = .str w from hvt)
    refine ⟨rfl, _, rfl, ?_⟩
    split at hc
    · rename_i e
      subst e
      refine iteD ?_
      exact hA.run F T g H σ te hc hv ht (by omega) (by omega) D fun σ' F' T' g' H' k1 k2 k3 k4 k5 k6 k7 k8 => q σ' F' T' g' H' k1 k2 k3 k4 k5 (by show g'.1 ≤ g.1 + (cA.1 + cB.1); omega) (by show g'.2 ≤ g.2 + (cA.2 + cB.2); omega) ⟨k8.1, fun i hi => k8.2 i fun y => hi (List.mem_append_left _ y)⟩
    · rename_i e
      refine iteN (fun y => e (by injection y)) ?_
      exact hB.run F T g H σ te hc hv ht (by omega) (by omega) D fun σ' F' T' g' H' k1 k2 k3 k4 k5 k6 k7 k8 => q σ' F' T' g' H' k1 k2 k3 k4 k5 (by show g'.1 ≤ g.1 + (cA.1 + cB.1); omega) (by show g'.2 ≤ g.2 + (cA.2 + cB.2); omega) ⟨k8.1, fun i hi => k8.2 i fun y => hi (List.mem_append_right _ y)⟩
  · cases hc
end Ip

set_option Elab.async false
set_option linter.all false
set_option maxRecDepth 100000
set_option maxHeartbeats 4000000
/-! loops and calls over lists that are spoilt; where their kinds come from -/
namespace Ip
open PySem L2
open Evl (Ex sz_of fresh_back)
variable {X : Cx} {a b e : Expr} {pos : Pos} {K : PySem.W.Frag} {Hs Hs' H H' H'' F F' F'' : Hp} {σ σ' : L2.St} {T T' T'' : TA}
def capT : GT → Option Nat
  | .any => none
  | .lst _ .any => some 1000
  | _ => some 0
def forChk (o : Option GT) (N : Nat) (ix : List Nat) (i : Nat) (te : TE') (k : TE' → Bool) : Bool := match o with
  | some (.lst n e) => match capT e with
    | some m => decide (n + m ≤ N) && freeT te (i :: ix) && decide (i < te.length) && k (te.set i (some e))
    | none => false
  | _ => false
theorem capT_le {e : GT} {m : Nat} (h : capT e = some m) {g : Nat × Nat} (hg : g.2 ≤ 1000) : gr e g ≤ m := by
  cases e with
  | any => cases h
  | s _ => cases h; exact Nat.le_refl _
  | t3 _ _ _ => cases h; exact Nat.le_refl _
  | lst n e => cases e <;> cases h <;> first | exact hg | exact Nat.le_refl _
theorem TEok.free {te : TE'} {i : Nat} {τ : GT} {v : V} (h : TEok K F T te σ) (hi : i < te.length) (hv : HasT K F T τ v) : TEok K F T (te.set i (some τ)) (σ.set i (some v)) := by
  refine ⟨by rw [List.length_set, List.length_set]; exact h.len, fun j τ' hj => ?_⟩
  rcases getElem?_set_some hj with ⟨e1, e2, _⟩ | ⟨ne, e2⟩
  · cases e2
    subst e1
    exact ⟨v, st_set (by rw [← h.len]; exact hi), hv⟩
  · obtain ⟨w, h1, h2⟩ := h.at_ j τ' e2
    exact ⟨w, by rw [List.getElem?_set_ne ne]; exact h1, h2⟩
theorem TEok.unset {te : TE'} {i : Nat} {τ : GT} (h : TEok K F T (te.set i (some τ)) σ) (hf : freeT te [i] = true) : TEok K F T te σ := by
  refine ⟨by rw [← h.len, List.length_set], fun j τ' hj => h.at_ j τ' ?_⟩
  have ne : i ≠ j := fun z => by
    subst z
    have := List.all_eq_true.mp hf i (List.mem_singleton.mpr rfl)
    rw [hj] at this
    cases this
  rw [List.getElem?_set_ne ne]
  exact hj
theorem freeT_tail {te : TE'} {i : Nat} {ix : List Nat} (h : freeT te (i :: ix) = true) : freeT te [i] = true ∧ freeT te ix = true := by
  unfold freeT at h ⊢
  rw [List.all_cons, Bool.and_eq_true] at h
  exact ⟨by rw [List.all_cons, Bool.and_eq_true]; exact ⟨h.1, rfl⟩, h.2⟩
/-- the turns of a loop over values of known kinds -/
theorem turns {J : It} {vs : List V} {te : TE'} {i : Nat} {ix : List Nat} {body : List Stmt} {kb : TE' → Bool} {c : Nat × Nat} {F T g H σ} {ad : Addr} (hb : TS' X body kb c ix) (hv : HV X.K F T g H) (ht : TEok X.K F T te σ) (hJ : J = Itl X.K ad) (hs : SqL X.K H ad vs)
    (keep : ∀ F' T' H', Gw F T H F' T' H' → vs ≠ [] → HV X.K F' T' (0, 0) H' ∨ True → SqL X.K H' ad vs) (hf : freeT te (i :: ix) = true) (hi : i < te.length) (el : ∀ v ∈ vs, ∃ τ, HasT X.K F T τ v ∧ kb (te.set i (some τ)) = true) (h1 : g.1 + vs.length * c.1 ≤ 90000) (h2 : g.2 + vs.length * c.2 ≤ 1000) {D : Ends}
    (q : ∀ σ' F' T' g' H', Gw F T H F' T' H' → HV X.K F' T' g' H' → TEok X.K F' T' te σ' → g.1 ≤ g'.1 → g.2 ≤ g'.2 → g'.1 ≤ g.1 + vs.length * c.1 → g'.2 ≤ g.2 + vs.length * c.2 → Off (i :: ix) σ σ' → D.nx σ' H') :
    ∃ W' : Nat → Nat → St → Hp → Prop, (∃ m, W' 0 m σ H) ∧ ∀ k m σ H, W' k m σ H →
      (J.stop k H ∧ D.nx σ H) ∨ (J.go k H ∧ ∃ N : St → Hp → Prop, (∀ σ' H', N σ' H' → ∃ m', m' < m ∧ W' (k + 1) m' σ' H') ∧ ∀ x H', J.yld k H x H' → gName i x σ H' fun σ2 H2 => WSs X body { D with nx := N, ct := N, bk := D.nx } σ2 H2) := by
  subst hJ
  obtain ⟨hf1, hf2⟩ := freeT_tail hf
  refine for_it (walk_list (K := X.K) (a := ad) (xs := vs)) (fun k σ2 H2 => ∃ F2 T2 g2, Gw F T H F2 T2 H2 ∧ HV X.K F2 T2 g2 H2 ∧ TEok X.K F2 T2 te σ2 ∧ g.1 ≤ g2.1 ∧ g.2 ≤ g2.2 ∧ g2.1 ≤ g.1 + k * c.1 ∧ g2.2 ≤ g.2 + k * c.2 ∧ Off (i :: ix) σ σ2 ∧ SqL X.K H2 ad vs) ?_ ?_ ?_ ?_
  · exact ⟨F, T, g, Gw.refl, hv, ht, Nat.le_refl _, Nat.le_refl _, by omega, by omega, Off.refl, hs⟩
  · rintro k σ2 H2 _ ⟨F2, T2, g2, _, _, _, _, _, _, _, _, h⟩
    exact h
  · rintro k x σ2 H2 H3 hlt ⟨F2, T2, g2, gw, hv2, ht2, a1, a2, a3, a4, o2, sq⟩ ⟨rfl, hx⟩
    have hx : vs[k]? = some x := hx
    have hmem : x ∈ vs := List.mem_of_getElem? hx
    obtain ⟨τ, hτ, hk⟩ := el x hmem
    have ht3 := ht2.free (τ := τ) hi (HasT.mono gw.f gw.t hτ)
    have m1 : k * c.1 + c.1 ≤ vs.length * c.1 := by rw [← Nat.succ_mul]; exact Nat.mul_le_mul_right _ hlt
    have m2 : k * c.2 + c.2 ≤ vs.length * c.2 := by rw [← Nat.succ_mul]; exact Nat.mul_le_mul_right _ hlt
    show WSs X body _ (σ2.set i (some x)) _
    have hne : vs ≠ [] := fun z => by subst z; cases hmem
    refine hb.run F2 T2 g2 _ _ _ hk hv2 ht3 (by omega) (by omega) _ fun σ4 F4 T4 g4 H4 gw4 hv4 ht4 b1 b2 b3 b4 o4 => ?_
    have ho : Off (i :: ix) σ σ4 := by
      refine ⟨o4.1.trans (List.length_set.trans o2.1), fun j hj => ?_⟩
      have j1 : j ∉ ix := fun z => hj (List.mem_cons_of_mem _ z)
      have j2 : i ≠ j := fun z => hj (z ▸ List.mem_cons_self)
      rw [o4.2 j j1, List.getElem?_set_ne j2, o2.2 j hj]
    exact ⟨F4, T4, g4, gw.trans gw4, hv4, ht4.unset hf1, by omega, by omega, by rw [Nat.succ_mul]; omega, by rw [Nat.succ_mul]; omega, ho, keep F4 T4 H4 (gw.trans gw4) hne (.inr trivial)⟩
  · rintro σ2 H2 ⟨F2, T2, g2, gw, hv2, ht2, a1, a2, a3, a4, o2, _⟩
    exact q σ2 F2 T2 g2 H2 gw hv2 ht2 a1 a2 a3 a4 o2
/-- for x in list(o): .. -/
theorem t1_forL {o : Expr} {N i : Nat} {x lname : Str} {px p1 p2 : Pos} {body : List Stmt} {f : TE' → Option GT} {kb : TE' → Bool} {c : Nat × Nat} {ix : List Nat} (hl : lname = "list") (h : TX X o f) (hg : Gl X lname) (hm : X.mg lname = none) (hp : plainE o = true) (ht : PG X (.Name x px) (gName i)) (hb : TS' X body kb c ix)
    (hpo : PassesOwn (model X.prog X.w) X.A X.env X.xe) (hc : X.calm = true) (hs : ∀ y, foldedSetIterable (.Call (.Name lname p1) [o] [] p2) X.env y = pure y) :
    T1 X (.For (.Name x px) (.Call (.Name lname p1) [o] [] p2) body [] pos) (fun te => forChk (f te) N ix i te kb) (N * c.1, N * c.2) (i :: ix) := .mk fun F T g H σ te hchk hv hte h1 h2 D q => by
  subst hl
  have h1 : g.1 + N * c.1 ≤ 90000 := h1
  have h2 : g.2 + N * c.2 ≤ 1000 := h2
  unfold forChk at hchk
  split at hchk
  rotate_left
  · cases hchk
  rename_i n e he
  split at hchk
  rotate_left
  · cases hchk
  rename_i m hm'
  simp only [Bool.and_eq_true, decide_eq_true_eq] at hchk
  obtain ⟨⟨⟨c1, c2⟩, c3⟩, c4⟩ := hchk
  have hcap := capT_le hm' (g := g) (by omega)
  refine WS.of (ps_for hpo hc (pi_list (pe_callTy call_list_of hg hm (by decide +kernel) (pa_cons (W.pe X o) pa_nil (star_plain hp)) (by decide) (by decide) (star_plain hp) rfl)) ht (WSs.ps X body) hs) ?_
  refine h.run F T g H σ te _ he hv hte _ fun v hvt => ?_
  obtain ⟨a, rfl, hT⟩ := hvt
  obtain ⟨hn, vs, hH, hlen, hall⟩ := hv.ls a n e hT
  refine ⟨a, vs, rfl, .inl (Evl.sq_of hH), fun l hl => ?_⟩
  have hF : F l = none := by
    cases z : F l with
    | none => rfl
    | some o => rw [hv.fr l o z] at hl; cases hl
  have gw0 : Gw F T H (upd F l (.lst vs)) T (upd H l (.lst vs)) := ⟨Ex.new hF, fun _ _ h => h, fun _ _ h => .inl h, fun b u h _ => by rw [upd_ne (ne_of_none h hl)]; exact h, fun b u h => ⟨u, by rw [upd_ne (ne_of_none h hl)]; exact h⟩⟩
  have hv0 : HV X.K (upd F l (.lst vs)) T g (upd H l (.lst vs)) := by
    refine ⟨fun b u h => ?_, fun b m' e' hb => ?_⟩
    · by_cases z : b = l
      · subst z; rw [upd_same] at h ⊢; exact h
      · rw [upd_ne z] at h ⊢; exact hv.fr b u h
    · obtain ⟨k1, us, k2, k3, k4⟩ := hv.ls b m' e' hb
      have ne : b ≠ l := ne_of_none k2 hl
      exact ⟨by rw [upd_ne ne]; exact k1, us, by rw [upd_ne ne]; exact k2, k3, fun v hv' => HasT.mono (Ex.new hF) (fun _ _ h => h) (k4 v hv')⟩
  have hte0 : TEok X.K (upd F l (.lst vs)) T te σ := ⟨hte.len, fun j τ hj => by
    obtain ⟨w, w1, w2⟩ := hte.at_ j τ hj
    exact ⟨w, w1, HasT.mono (Ex.new hF) (fun _ _ h => h) w2⟩⟩
  have hlN : vs.length ≤ N := by omega
  have d1 : vs.length * c.1 ≤ N * c.1 := Nat.mul_le_mul_right _ hlN
  have d2 : vs.length * c.2 ≤ N * c.2 := Nat.mul_le_mul_right _ hlN
  refine ⟨l, rfl, ⟨vs, Evl.sq_of upd_same⟩, ?_⟩
  refine turns hb hv0 hte0 rfl (Evl.sq_of upd_same) (fun F' T' H' gw _ _ => Evl.sq_of (gw.kp l _ upd_same (by
    cases z : T l with
    | none => rfl
    | some y => obtain ⟨_, us, k2, _⟩ := hv.ls l y.1 y.2 z; rw [hl] at k2; cases k2))) c2 c3 (fun v hv' => ⟨e, HasT.mono (Ex.new hF) (fun _ _ h => h) (hall v hv'), c4⟩) (by omega) (by omega) fun σ' F' T' g' H' gw hv' ht' a1 a2 a3 a4 o => ?_
  exact q σ' F' T' g' H' (gw0.trans gw) hv' ht' a1 a2 (by show g'.1 ≤ g.1 + N * c.1; omega) (by show g'.2 ≤ g.2 + N * c.2; omega) o
/-! ### a def that spoils its argument -/
def spG (K : PySem.W.Frag) (chk : GT → Bool) (c : Nat × Nat) : Sp := fun vs H Q _ => ∃ F T g τ x, vs = [x] ∧ HV K F T g H ∧ HasT K F T τ x ∧ chk τ = true ∧ g.1 + c.1 ≤ 90000 ∧ g.2 + c.2 ≤ 1000 ∧
  ∀ F' T' g' H', Gw F T H F' T' H' → HV K F' T' g' H' → g.1 ≤ g'.1 → g.2 ≤ g'.2 → g'.1 ≤ g.1 + c.1 → g'.2 ≤ g.2 + c.2 → Q .non H'
theorem spG_len {chk : GT → Bool} {c : Nat × Nat} (vs : List V) (H : Hp) (Q : VK) (E : XK) (h : spG K chk c vs H Q E) : vs.length = 1 := by
  obtain ⟨_, _, _, _, _, rfl, _⟩ := h
  rfl
def te1 (n : Nat) (τ : GT) : TE' := some τ :: List.replicate (n - 1) none
theorem fn_spoil {N : List Str} {sts : List Stmt} {chk : GT → Bool} {kb : TE' → Bool} {c : Nat × Nat} {ix : List Nat} {vs : List V} {Q : VK} {E : XK} (hb : TS' X sts kb c ix) (hN : 1 ≤ N.length) (hk : ∀ τ, chk τ = true → kb (te1 N.length τ) = true) (h : spG X.K chk c vs H Q E) :
    WSs X sts { nx := fun _ H' => Q .non H', rt := Q } (start N vs) H := by
  obtain ⟨F, T, g, τ, x, rfl, hv, hx, hc, h1, h2, q⟩ := h
  refine hb.run F T g H _ (te1 N.length τ) (hk τ hc) hv ⟨?_, fun i τ' hi => ?_⟩ h1 h2 _ fun σ' F' T' g' H' gw hv' _ a1 a2 a3 a4 _ => q F' T' g' H' gw hv' a1 a2 a3 a4
  · rw [start_eq]; unfold te1; simp
  · cases i with
    | zero =>
      cases hi
      exact ⟨x, rfl, hx⟩
    | succ i =>
      unfold te1 at hi
      simp [List.getElem?_replicate] at hi
/-- f(o) as a statement -/
theorem t1_call {k : Nat} {fd : FuncData} {ps : List Str} {fa : Addr} {x : Str} {p : Pos} {o : Expr} {chk : GT → Bool} {c : Nat × Nat} {f : TE' → Option GT} {p2 : Pos} (F0 : FnG X.prog X.w X.K X.mg X.base k fa fd ps (spG X.K chk c)) (h : TX X o f) (hG : X.A.guards = some []) (hr : Room k X.A) (hg : Gl X x)
    (hm : X.mg x = some (.ref fa)) (hk : PySem.W.keepIn X.K (.ref fa) = true) (hb : Binds X.K fd ps []) (hp : plainE o = true) (hd : (x == ("__debug__" : Str)) = false) :
    T1 X (.Expr (.Call (.Name x p) [o] [] p2) pos) (fun te => match f te with | some τ => chk τ | none => false) c [] := .mk fun F T g H σ te hc hv ht h1 h2 D q => by
  cases hτ : f te with
  | none => rw [hτ] at hc; cases hc
  | some τ =>
    rw [hτ] at hc
    refine WS.of (ps_expr (pe_go F0 hG hr hg hm hk hb (pa_cons (W.pe X o) pa_nil (star_plain hp)) hd (star_plain hp) (by rfl))) ?_
    refine h.run F T g H σ te τ hτ hv ht _ fun v hvt => ?_
    exact ⟨F, T, g, τ, v, rfl, hv, hvt, hc, h1, h2, fun F' T' g' H' gw hv' a1 a2 a3 a4 => q σ F' T' g' H' gw hv' ⟨ht.len, fun j τ' hj => by
      obtain ⟨w, w1, w2⟩ := ht.at_ j τ' hj
      exact ⟨w, w1, HasT.mono gw.f gw.t w2⟩⟩ a1 a2 a3 a4 Off.refl⟩
end Ip
namespace Ip
open PySem L2
/-- a def of the text that spoils its argument -/
structure OwnS (P : Program) (w : World) (K : PySem.W.Frag) (mg : Str → Option Value) (base : Heap) (k : Nat) (x : Str) (chk : GT → Bool) (c : Nat × Nat) where
  f : Addr
  fd : FuncData
  ps : List Str
  ok : FnG P w K mg base k f fd ps (spG K chk c)
  at_ : mg x = some (.ref f)
  kp : PySem.W.keepIn K (.ref f) = true
  bi : Binds K fd ps []
end Ip

set_option Elab.async false
set_option linter.all false
set_option maxRecDepth 100000
set_option maxHeartbeats 4000000
/-! the kinds of new lists, by what stands in them -/
namespace Ip
open PySem L2
open Evl (Ex sz_of fresh_back)
variable {X : Cx} {a b e : Expr} {pos : Pos} {K : PySem.W.Frag} {Hs Hs' H H' H'' F F' F'' : Hp} {σ σ' : L2.St} {T T' T'' : TA}
/-- all but the lists -/
def nl (Hs : Hp) : Hp := fun a => match Hs a with
  | some (.lst _) => none
  | o => o
theorem nl_ex : Ex (nl Hs) Hs := fun a o h => by
  unfold nl at h
  split at h
  · cases h
  · exact h
theorem nl_lst {a : Addr} {vs : List V} (h : Hs a = some (.lst vs)) : nl Hs a = none := by unfold nl; rw [h]
theorem nl_tup {a : Addr} {xs : List V} (h : SqT K Hs a xs) : SqT K (nl Hs) a xs := by
  rcases h with (h | ⟨o, h⟩) | h
  · exact .inl (.inl (by unfold nl; rw [h]))
  · exact .inl (.inr ⟨o, by unfold nl; rw [h]⟩)
  · exact .inr h
/-- what a true heap rules out -/
structure NKp (K : PySem.W.Frag) (Hs : Hp) (T : TA) : Prop where
  lt : ∀ b us, Hs b = some (.lst us) → T b ≠ none → ∀ ys, ¬ SqT K (nl Hs) b ys
  tt : ∀ b z xs r ys, SqT K (nl Hs) b (.str z :: xs) → SqT K (nl Hs) b (.ref r :: ys) → False
theorem nk_of {pins : List (Addr × Obj)} {s : Shared} {T2 : TA} {g2 : Nat × Nat} {F2 H2 : Hp} {H1 : Hp} (I : Inv X pins σ H2 s) (gw : Gw (nl Hs) T H1 F2 T2 H2) (hv : HV X.K F2 T2 g2 H2) : NKp X.K Hs T where
  lt := fun b us h1 h2 ys h3 => by
    cases z : T b with
    | none => exact h2 z
    | some x =>
      obtain ⟨_, vs, k2, _⟩ := hv.ls b x.1 x.2 (gw.t b _ z)
      obtain ⟨its, _, ⟨o, n, e1, e2, _⟩, _⟩ := I.list (.inl (.inl k2))
      obtain ⟨its', _, ⟨o', e1', e2', _⟩, _⟩ := I.tuple (Evl.ex_t hv.fr (Evl.ex_t gw.f h3))
      rw [e1] at e1'
      cases e1'
      rw [e2] at e2'
      exact absurd e2' (by decide)
  tt := fun b z xs r ys h1 h2 => by
    obtain ⟨its, r1, ⟨o, e1, _, n, e3⟩, _⟩ := I.tuple (Evl.ex_t hv.fr (Evl.ex_t gw.f h1))
    obtain ⟨its', r2, ⟨o', e1', _, n', e3'⟩, _⟩ := I.tuple (Evl.ex_t hv.fr (Evl.ex_t gw.f h2))
    rw [e1] at e1'
    cases e1'
    rw [e3] at e3'
    have ei : its.toArray = its'.toArray := by injection e3'
    have : its = its' := by simpa using ei
    subst this
    cases r1 with
    | cons ra rb =>
      cases r2 with
      | cons rc rd =>
        rename_i u us _
        cases rc
        obtain ⟨t, q⟩ := ra
        cases q
def ownIn (L : List Nat) : Nat → MEnv → Bool
  | _, [] => true
  | k, .own _ :: r => decide (k ∈ L) && ownIn L (k + 1) r
  | _, .io _ :: _ => false
  | k, _ :: r => ownIn L (k + 1) r
theorem ownIn_at {L : List Nat} : ∀ {env : MEnv} {k i : Nat} {s : Slot} {xs : List PyData}, ownIn L k env = true → env[i]? = some s → s.mut = some xs → s = .own xs ∧ k + i ∈ L
  | [], _, _, _, _, _, h, _ => by simp at h
  | t :: r, k, 0, s, xs, w, h, m => by
    simp at h
    subst h
    cases t with
    | un => cases m
    | val _ => cases m
    | io _ => cases w
    | own ys =>
      cases m
      have w : (decide (k ∈ L) && ownIn L (k + 1) r) = true := w
      rw [Bool.and_eq_true, decide_eq_true_eq] at w
      exact ⟨rfl, w.1⟩
  | t :: r, k, i + 1, s, xs, w, h, m => by
    simp at h
    have w' : ownIn L (k + 1) r = true := by
      cases t with
      | un => exact w
      | val _ => exact w
      | io _ => cases w
      | own ys =>
        have w : (decide (k ∈ L) && ownIn L (k + 1) r) = true := w
        rw [Bool.and_eq_true] at w
        exact w.2
    obtain ⟨e, h1⟩ := ownIn_at w' h m
    exact ⟨e, by rw [show k + (i + 1) = k + 1 + i by omega]; exact h1⟩
/-- a way to tell kinds by what stands in lists -/
structure Kinds (K : PySem.W.Frag) (kind : PyData → Option GT) (Tc : Hp → TA) : Prop where
  hv : ∀ Hs H, Ex Hs H → HV K (nl Hs) (Tc Hs) (0, 0) H
  dom : ∀ Hs a x, Tc Hs a = some x → ∃ vs, Hs a = some (.lst vs)
  el : ∀ (oo : Old) Hs d v τ, oo.strict = true → NKp K Hs (Tc Hs) → @Rep oo K Hs d v → kind d = some τ → HasT K (nl Hs) (Tc Hs) τ v
  ad : ∀ (oo : Old) Hs d ds vs a τ, oo.strict = true → NKp K Hs (Tc Hs) → Hs a = some (.lst vs) → @RepL oo K Hs (d :: ds) vs → kind d = some τ → Tc Hs a = none
def kindsOk (kind : PyData → Option GT) (n i : Nat) (kb : TE' → Bool) (xs : List PyData) : Bool := xs.all fun d => match kind d with
  | some τ => kb ((List.replicate n none).set i (some τ))
  | none => false
theorem free_rep : ∀ {n : Nat} {ix : List Nat}, freeT (List.replicate n none) ix = true := fun {n ix} => by
  unfold freeT
  rw [List.all_eq_true]
  intro i _
  rw [List.getElem?_replicate]
  split <;> simp_all
theorem ms_for {x : Str} {px : Pos} {iter : Expr} {i : Nat} {body : List Stmt} {fi : MEnv → Option (PyData × MEnv)} {kb : TE' → Bool} {c : Nat × Nat} {ix : List Nat} {kind : PyData → Option GT} {Tc : Hp → TA} (L : List Nat) (KD : Kinds X.K kind Tc) (h : ∀ oo : Old, SV X iter fi) (ht : PG X (.Name x px) (gName i)) (hb : TS' X body kb c ix)
    (hpo : PassesOwn (model X.prog X.w) X.A X.env X.xe) (hc : X.calm = true) (hs : ∀ y, foldedSetIterable iter X.env y = pure y) : MS X (.For (.Name x px) iter body [] pos) L (fun env => match fi env with | some (.list xs, e1) => ownIn L 0 env && decide (xs.length * c.1 ≤ 90000) && decide (xs.length * c.2 ≤ 1000) && decide (i < env.length) && kindsOk kind env.length i kb xs && (i :: ix).all (fun j => decide (j ∈ L)) | _ => false) := by
  refine ⟨?_⟩
  intro oo env σ Hs H hst hchk I D q
  split at hchk
  rotate_left
  · cases hchk
  rename_i xs e1 h1
  simp only [Bool.and_eq_true, decide_eq_true_eq] at hchk
  obtain ⟨⟨⟨⟨⟨c1, c2⟩, c3⟩, c4⟩, c5⟩, c6⟩ := hchk
  have inL : ∀ j, j ∈ i :: ix → j ∈ L := fun j hj => by simpa using List.all_eq_true.mp c6 j hj
  refine WS.of (ps_for hpo hc (pi_list (W.pe X iter)) ht (WSs.ps X body) hs) ?_
  refine (h oo).run env σ Hs H _ e1 h1 I _ fun v Hs1 H1 g1 I1 r1 => ?_
  obtain ⟨ad, vs, rfl, sq, rl⟩ := r1
  have hHs : Hs1 ad = some (.lst vs) := sq.2 hst
  have hH1 : H1 ad = some (.lst vs) := I1.sh ad _ hHs
  refine ⟨ad, rfl, ⟨vs, Evl.sq_of hH1⟩, ?_⟩
  have hv := KD.hv Hs1 H1 I1.sh
  have hlen := RepL.length rl
  have hi : i < (List.replicate env.length (none : Option GT)).length := by rw [List.length_replicate]; exact c4
  have hte : TEok X.K (nl Hs1) (Tc Hs1) (List.replicate env.length none) σ := ⟨by rw [List.length_replicate]; exact I.len.symm, fun j τ hj => by
    rw [List.getElem?_replicate] at hj
    split at hj <;> cases hj⟩
  -- the end
  have fin : ∀ σ' F' T' g' H', Gw (nl Hs1) (Tc Hs1) H1 F' T' H' → HV X.K F' T' g' H' → Off (i :: ix) σ σ' → D.nx σ' H' := fun σ' F' T' g' H' gw hv' off => by
    refine q σ' H' ⟨off.1, fun j hj => off.2 j fun z => hj (inL j z)⟩ (fun a o ha hn nown => ?_) fun a o ha => ?_
    · have hm : ¬ MutAt σ env a := fun ⟨j, s, ys, k1, k2, k3⟩ => by
        obtain ⟨rfl, k4⟩ := ownIn_at c1 k1 k2
        rw [Nat.zero_add] at k4
        exact nown ⟨j, ys, k4, k1, k3⟩
      refine gw.kp a o (g1.kp a o ha hm) ?_
      cases z : Tc Hs1 a with
      | none => rfl
      | some y =>
        obtain ⟨us, hu⟩ := KD.dom Hs1 a y z
        rcases g1.nw a _ hu with w | w | w
        · rw [hn] at w; cases w
        · rw [ha] at w; cases w
        · exact absurd w.mut hm
    · obtain ⟨u, hu⟩ := g1.dm a o ha
      exact gw.dm a u hu
  refine for_it (walk_list (K := X.K) (a := ad) (xs := vs)) (fun k σ2 H2 => ∃ F2 T2 g2, Gw (nl Hs1) (Tc Hs1) H1 F2 T2 H2 ∧ HV X.K F2 T2 g2 H2 ∧ TEok X.K F2 T2 (List.replicate env.length none) σ2 ∧ g2.1 ≤ k * c.1 ∧ g2.2 ≤ k * c.2 ∧ Off (i :: ix) σ σ2 ∧ SqL X.K H2 ad vs) ?_ ?_ ?_ ?_
  · exact ⟨_, _, (0, 0), Gw.refl, hv, hte, Nat.zero_le _, Nat.zero_le _, Off.refl, Evl.sq_of hH1⟩
  · rintro k σ2 H2 _ ⟨F2, T2, g2, _, _, _, _, _, _, h⟩
    exact h
  · rintro k x σ2 H2 H3 hlt ⟨F2, T2, g2, gw, hv2, ht2, a3, a4, o2, sq2⟩ ⟨rfl, hx⟩
    have hx : vs[k]? = some x := hx
    have hk : k < xs.length := by rw [hlen]; exact hlt
    obtain ⟨w, w1, w2⟩ := RepL.get rl (List.getElem?_eq_getElem hk)
    rw [hx] at w1
    cases w1
    have hkd := List.all_eq_true.mp c5 xs[k] (List.getElem_mem hk)
    have m1 : k * c.1 + c.1 ≤ vs.length * c.1 := by rw [← Nat.succ_mul]; exact Nat.mul_le_mul_right _ hlt
    have m2 : k * c.2 + c.2 ≤ vs.length * c.2 := by rw [← Nat.succ_mul]; exact Nat.mul_le_mul_right _ hlt
    show WSs X body _ (σ2.set i (some x)) _
    intro pins s II
    have NK := nk_of (Hs := Hs1) II gw hv2
    cases hτ : kind xs[k] with
    | none => rw [hτ] at hkd; cases hkd
    | some τ =>
      rw [hτ] at hkd
      have hkd : kb ((List.replicate env.length none).set i (some τ)) = true := hkd
      have hT := KD.el oo Hs1 _ _ τ hst NK w2 hτ
      have tad : Tc Hs1 ad = none := by
        cases xs with
        | nil => cases hk
        | cons d ds =>
          have k0 := List.all_eq_true.mp c5 d List.mem_cons_self
          cases hd : kind d with
          | none => rw [hd] at k0; cases k0
          | some τ0 => exact KD.ad oo Hs1 d ds vs ad τ0 hst NK hHs rl hd
      have ht3 := ht2.free (τ := τ) hi (HasT.mono gw.f gw.t hT)
      rw [hlen] at c2 c3
      refine hb.run F2 T2 g2 _ _ _ hkd hv2 ht3 (by omega) (by omega) _ (fun σ4 F4 T4 g4 H4 gw4 hv4 ht4 b1 b2 b3 b4 o4 => ?_) pins s II
      have ho : Off (i :: ix) σ σ4 := by
        refine ⟨o4.1.trans (List.length_set.trans o2.1), fun j hj => ?_⟩
        have j1 : j ∉ ix := fun z => hj (List.mem_cons_of_mem _ z)
        have j2 : i ≠ j := fun z => hj (z ▸ List.mem_cons_self)
        rw [o4.2 j j1, List.getElem?_set_ne j2, o2.2 j hj]
      have gw5 := gw.trans gw4
      exact ⟨F4, T4, g4, gw5, hv4, ht4.unset free_rep, by rw [Nat.succ_mul]; omega, by rw [Nat.succ_mul]; omega, ho, Evl.sq_of (gw5.kp ad _ hH1 tad)⟩
  · rintro σ2 H2 ⟨F2, T2, g2, gw, hv2, ht2, a3, a4, o2, _⟩
    exact fin σ2 F2 T2 g2 H2 gw hv2 o2
/-! ### polynomials, rows, atoms -/
def intB : PyData → Bool
  | .int _ => true
  | _ => false
def polyB : PyData → Bool
  | .list xs => decide (xs.length ≤ 9) && xs.all intB
  | _ => false
def plistB : PyData → Bool
  | .list xs => decide (xs ≠ []) && decide (xs.length ≤ 9) && xs.all polyB
  | _ => false
def rowB : PyData → Bool
  | .tuple [x, y, _] => plistB x && polyB y
  | _ => false
def rowsB : PyData → Bool
  | .list xs => decide (xs ≠ []) && decide (xs.length ≤ 5) && xs.all rowB
  | _ => false
def rowT : GT := .t3 (.lst 9 (.lst 9 .any)) (.lst 9 .any) .any
def kindA : PyData → Option GT
  | .tuple [.str z, y, w] => if polyB y then some (.t3 (.s z) (.lst 9 .any) .any) else if rowsB w then some (.t3 (.s z) .any (.lst 5 rowT)) else none
  | _ => none
def PP (vs : List V) : Prop := vs.length ≤ 9 ∧ ∀ v ∈ vs, ∃ n, v = .int n
def PL (Hs : Hp) (vs : List V) : Prop := vs ≠ [] ∧ vs.length ≤ 9 ∧ ∀ v ∈ vs, ∃ b us, v = .ref b ∧ Hs b = some (.lst us) ∧ PP us
def PR (K : PySem.W.Frag) (Hs : Hp) (vs : List V) : Prop := vs ≠ [] ∧ vs.length ≤ 5 ∧ ∀ v ∈ vs, ∃ b r1 r2 z us ws, v = .ref b ∧ SqT K (nl Hs) b [.ref r1, .ref r2, z] ∧ Hs r1 = some (.lst us) ∧ PL Hs us ∧ Hs r2 = some (.lst ws) ∧ PP ws
open Classical in
noncomputable def TcA (K : PySem.W.Frag) (Hs : Hp) : TA := fun a => match Hs a with
  | some (.lst vs) => if PP vs then some (9, .any) else if PL Hs vs then some (9, .lst 9 .any) else if PR K Hs vs then some (5, rowT) else none
  | _ => none
theorem PL.np {vs : List V} (h : PL Hs vs) : ¬ PP vs := fun p => by
  obtain ⟨h1, _, h3⟩ := h
  cases vs with
  | nil => exact h1 rfl
  | cons v r =>
    obtain ⟨b, us, e, _⟩ := h3 v List.mem_cons_self
    obtain ⟨n, e'⟩ := p.2 v List.mem_cons_self
    rw [e] at e'; cases e'
theorem PR.np {vs : List V} (h : PR K Hs vs) : ¬ PP vs := fun p => by
  obtain ⟨h1, _, h3⟩ := h
  cases vs with
  | nil => exact h1 rfl
  | cons v r =>
    obtain ⟨b, _, _, _, _, _, e, _⟩ := h3 v List.mem_cons_self
    obtain ⟨n, e'⟩ := p.2 v List.mem_cons_self
    rw [e] at e'; cases e'
theorem TcA_p {a : Addr} {vs : List V} (h : Hs a = some (.lst vs)) (p : PP vs) : TcA K Hs a = some (9, .any) := by
  unfold TcA; rw [h]; simp only; rw [if_pos p]
theorem TcA_l {a : Addr} {vs : List V} (h : Hs a = some (.lst vs)) (p : PL Hs vs) : TcA K Hs a = some (9, .lst 9 .any) := by
  unfold TcA; rw [h]; simp only; rw [if_neg p.np, if_pos p]
theorem TcA_r {a : Addr} {vs : List V} (h : Hs a = some (.lst vs)) (p : PR K Hs vs) (n : ¬ PL Hs vs) : TcA K Hs a = some (5, rowT) := by
  unfold TcA; rw [h]; simp only; rw [if_neg p.np, if_neg n, if_pos p]
theorem TcA_n {a : Addr} {vs : List V} (h : Hs a = some (.lst vs)) (p : ¬ PP vs) (l : ¬ PL Hs vs) (r : ¬ PR K Hs vs) : TcA K Hs a = none := by
  unfold TcA; rw [h]; simp only; rw [if_neg p, if_neg l, if_neg r]
theorem TcA_dom {a : Addr} {x : Nat × GT} (h : TcA K Hs a = some x) : ∃ vs, Hs a = some (.lst vs) ∧ ((PP vs ∧ x = (9, .any)) ∨ (PL Hs vs ∧ x = (9, .lst 9 .any)) ∨ (PR K Hs vs ∧ x = (5, rowT))) := by
  unfold TcA at h
  split at h
  · rename_i vs hv
    refine ⟨vs, hv, ?_⟩
    split at h
    · rename_i p; cases h; exact .inl ⟨p, rfl⟩
    · split at h
      · rename_i p; cases h; exact .inr (.inl ⟨p, rfl⟩)
      · split at h
        · rename_i p; cases h; exact .inr (.inr ⟨p, rfl⟩)
        · cases h
  · cases h
theorem pl_elem {vs : List V} (h : PL Hs vs) : ∀ v ∈ vs, HasT K (nl Hs) (TcA K Hs) (.lst 9 .any) v := fun v hv => by
  obtain ⟨b, us, e, h1, h2⟩ := h.2.2 v hv
  exact ⟨b, e, TcA_p h1 h2⟩
theorem pr_elem {vs : List V} (h : PR K Hs vs) : ∀ v ∈ vs, HasT K (nl Hs) (TcA K Hs) rowT v := fun v hv => by
  obtain ⟨b, r1, r2, z, us, ws, e, h1, h2, h3, h4, h5⟩ := h.2.2 v hv
  exact ⟨b, _, _, z, e, h1, ⟨r1, rfl, TcA_l h2 h3⟩, ⟨r2, rfl, TcA_p h4 h5⟩, trivial⟩
theorem rep_poly (oo : Old) (st : oo.strict = true) {d : PyData} {v : V} (h : polyB d = true) (r : @Rep oo K Hs d v) : ∃ a vs, v = .ref a ∧ Hs a = some (.lst vs) ∧ PP vs := by
  cases d <;> try (cases h; done)
  rename_i xs
  unfold polyB at h
  simp only [Bool.and_eq_true, decide_eq_true_eq] at h
  obtain ⟨a, vs, e, sq, rl⟩ := r
  refine ⟨a, vs, e, sq.2 st, by rw [← @RepL.length oo _ _ _ _ rl]; exact h.1, fun v hv => ?_⟩
  obtain ⟨j, hj⟩ := List.getElem?_of_mem hv
  have hl : j < xs.length := by rw [@RepL.length oo _ _ _ _ rl]; exact (List.getElem?_eq_some_iff.mp hj).1
  obtain ⟨w, w1, w2⟩ := @RepL.get oo _ _ _ _ _ _ rl (List.getElem?_eq_getElem hl)
  rw [hj] at w1
  cases w1
  have := List.all_eq_true.mp h.2 xs[j] (List.getElem_mem hl)
  cases hx : xs[j] <;> rw [hx] at this <;> try (cases this; done)
  rw [hx] at w2
  exact ⟨_, w2⟩
theorem rep_plist (oo : Old) (st : oo.strict = true) {d : PyData} {v : V} (h : plistB d = true) (r : @Rep oo K Hs d v) : ∃ a vs, v = .ref a ∧ Hs a = some (.lst vs) ∧ PL Hs vs := by
  cases d <;> try (cases h; done)
  rename_i xs
  unfold plistB at h
  simp only [Bool.and_eq_true, decide_eq_true_eq] at h
  obtain ⟨a, vs, e, sq, rl⟩ := r
  have hlen := @RepL.length oo _ _ _ _ rl
  refine ⟨a, vs, e, sq.2 st, fun z => h.1.1 (List.eq_nil_of_length_eq_zero (by rw [hlen, z]; rfl)), by rw [← hlen]; exact h.1.2, fun v hv => ?_⟩
  obtain ⟨j, hj⟩ := List.getElem?_of_mem hv
  have hl : j < xs.length := by rw [hlen]; exact (List.getElem?_eq_some_iff.mp hj).1
  obtain ⟨w, w1, w2⟩ := @RepL.get oo _ _ _ _ _ _ rl (List.getElem?_eq_getElem hl)
  rw [hj] at w1
  cases w1
  obtain ⟨b, us, e1, e2, e3⟩ := rep_poly oo st (List.all_eq_true.mp h.2 xs[j] (List.getElem_mem hl)) w2
  exact ⟨b, us, e1, e2, e3⟩
theorem rep_rows (oo : Old) (st : oo.strict = true) {d : PyData} {v : V} (h : rowsB d = true) (r : @Rep oo K Hs d v) : ∃ a vs, v = .ref a ∧ Hs a = some (.lst vs) ∧ PR K Hs vs := by
  cases d <;> try (cases h; done)
  rename_i xs
  unfold rowsB at h
  simp only [Bool.and_eq_true, decide_eq_true_eq] at h
  obtain ⟨a, vs, e, sq, rl⟩ := r
  have hlen := @RepL.length oo _ _ _ _ rl
  refine ⟨a, vs, e, sq.2 st, fun z => h.1.1 (List.eq_nil_of_length_eq_zero (by rw [hlen, z]; rfl)), by rw [← hlen]; exact h.1.2, fun v hv => ?_⟩
  obtain ⟨j, hj⟩ := List.getElem?_of_mem hv
  have hl : j < xs.length := by rw [hlen]; exact (List.getElem?_eq_some_iff.mp hj).1
  obtain ⟨w, w1, w2⟩ := @RepL.get oo _ _ _ _ _ _ rl (List.getElem?_eq_getElem hl)
  rw [hj] at w1
  cases w1
  have hr := List.all_eq_true.mp h.2 xs[j] (List.getElem_mem hl)
  unfold rowB at hr
  split at hr
  · rename_i x y z hxyz
    rw [Bool.and_eq_true] at hr
    rw [hxyz] at w2
    obtain ⟨b, us, rfl, sb, u1, s1, rfl, k1, u2, s2, rfl, k2, u3, s3, rfl, k3, k4⟩ := w2
    cases (show s3 = [] from k4)
    obtain ⟨r1, us1, rfl, f1, f2⟩ := rep_plist oo st hr.1 k1
    obtain ⟨r2, us2, rfl, f3, f4⟩ := rep_poly oo st hr.2 k2
    exact ⟨b, r1, r2, u3, us1, us2, rfl, nl_tup sb, f1, f2, f3, f4⟩
  · cases hr
theorem kindsA : Kinds K kindA (TcA K) where
  hv := fun Hs H ex => ⟨nl_ex.trans ex, fun a n e h => by
    obtain ⟨vs, h1, h2⟩ := TcA_dom h
    refine ⟨nl_lst h1, vs, ex a _ h1, ?_⟩
    rcases h2 with ⟨p, z⟩ | ⟨p, z⟩ | ⟨p, z⟩ <;> cases z
    · exact ⟨p.1, fun v _ => trivial⟩
    · exact ⟨p.2.1, pl_elem p⟩
    · exact ⟨p.2.1, pr_elem p⟩⟩
  dom := fun Hs a x h => by
    obtain ⟨vs, h1, _⟩ := TcA_dom h
    exact ⟨vs, h1⟩
  el := fun oo Hs d v τ st nk r hk => by
    unfold kindA at hk
    split at hk
    · rename_i z y w
      obtain ⟨b, us, rfl, sb, u1, s1, rfl, k1, u2, s2, rfl, k2, u3, s3, rfl, k3, k4⟩ := r
      cases (show s3 = [] from k4)
      split at hk
      · rename_i hp
        cases hk
        obtain ⟨r2, us2, rfl, f3, f4⟩ := rep_poly oo st hp k2
        exact ⟨b, _, _, _, rfl, nl_tup sb, k1, ⟨r2, rfl, TcA_p f3 f4⟩, trivial⟩
      · split at hk
        · rename_i hr
          cases hk
          obtain ⟨r2, us2, rfl, f3, f4⟩ := rep_rows oo st hr k3
          refine ⟨b, _, _, _, rfl, nl_tup sb, k1, trivial, r2, rfl, TcA_r f3 f4 fun l => ?_⟩
          obtain ⟨ne, _, f5⟩ := f4
          cases us2 with
          | nil => exact ne rfl
          | cons v rr =>
            obtain ⟨b1, _, _, _, _, _, e1, e2, _⟩ := f5 v List.mem_cons_self
            obtain ⟨b2, us, e3, e4, e5⟩ := l.2.2 v List.mem_cons_self
            rw [e1] at e3
            cases e3
            exact nk.lt b1 us e4 (by rw [TcA_p e4 e5]; exact fun z => by cases z) _ e2
        · cases hk
    · cases hk
  ad := fun oo Hs d ds vs a τ st nk h1 rl hk => by
    unfold kindA at hk
    split at hk
    · rename_i z y w
      obtain ⟨v, rr, rfl, r, _⟩ := rl
      obtain ⟨b, us, rfl, sb, u1, s1, rfl, k1, _⟩ := r
      cases (show u1 = .str z from k1)
      refine TcA_n h1 (fun p => ?_) (fun p => ?_) (fun p => ?_)
      · obtain ⟨n, e⟩ := p.2 _ List.mem_cons_self
        cases e
      · obtain ⟨b2, us, e3, e4, e5⟩ := p.2.2 _ List.mem_cons_self
        cases e3
        exact nk.lt b us e4 (by rw [TcA_p e4 e5]; exact fun z => by cases z) _ (nl_tup sb)
      · obtain ⟨b1, r1, _, _, _, _, e1, e2, _⟩ := p.2.2 _ List.mem_cons_self
        cases e1
        exact nk.tt b z _ r1 _ (nl_tup sb) e2
    · cases hk
end Ip

set_option Elab.async false
set_option linter.all false
set_option maxRecDepth 100000
set_option maxHeartbeats 4000000
/-! a small dict of constants in a name of the def -/
namespace Ip
open PySem L2
open Evl (Ex sz_of fresh_back)
variable [Old]
variable {X : Cx} {a b e : Expr} {pos : Pos} {K : PySem.W.Frag} {Hs Hs' H H' : Hp} {σ : L2.St} {env env' : MEnv}
def ldLook (z : Str) : List (PyData × PyData) → Option PyData
  | [] => none
  | (.str k, d) :: r => if k = z then some d else ldLook z r
  | _ :: _ => none
def ldD : PyData → PyData → Option Slot
  | .dict ((.bool true, .none) :: kvs), .str z => (ldLook z kvs).map .val
  | _, _ => none
theorem atomV_rep : ∀ {d : PyData} {v : V}, atomV d v = true → Rep K Hs d v
  | .str a, v, h => by
    cases v <;> try (cases h; done)
    rename_i z
    have : a = z := of_decide_eq_true h
    rw [this]
    rfl
  | .int a, v, h => by
    cases v <;> try (cases h; done)
    rename_i z
    have : a = z := of_decide_eq_true h
    rw [this]
    rfl
theorem kd_look {z : Str} : ∀ {kvs : List (PyData × PyData)} {ks : List (Key × V)} {d : PyData}, kdRep kvs ks → ldLook z kvs = some d → ∃ v, valV ks (.inr z) = some v ∧ atomV d v = true
  | [], _, _, _, h => by cases h
  | (k, d0) :: r, ks, d, h, e => by
    obtain ⟨y, v, ks', rfl, rfl, h1, h2⟩ := h
    have e : (if y = z then some d0 else ldLook z r) = some d := e
    by_cases hy : y = z
    · rw [if_pos hy] at e
      cases e
      exact ⟨v, valV_pos (by rw [hy]), h1⟩
    · rw [if_neg hy] at e
      obtain ⟨w, g1, g2⟩ := kd_look h2 e
      exact ⟨w, by rw [valV_neg (fun q => hy (Sum.inr.inj q))]; exact g1, g2⟩
def rLd : R2 := fun x y H Q => ∃ a v, x = .ref a ∧ DGet H a y (some v) ∧ Q v H
theorem ok_ld : R2ok X.K rLd ldD := by
  intro Hs H σ env x y v u s hs I hx hy Q q
  unfold ldD at hs
  split at hs
  · rename_i kvs z
    cases hd : ldLook z kvs with
    | none => rw [hd] at hs; cases hs
    | some d =>
      rw [hd] at hs
      cases hs
      have hx : Rep X.K Hs (.dict ((.bool true, .none) :: kvs)) v := hx
      rcases hx with h | ⟨_, e, _⟩ | ⟨kvs', a, ks, e1, rfl, e3, e4⟩ | ⟨_, _, e, _⟩ | ⟨_, _, _, _, e, _⟩
      · obtain ⟨_, _, _, _, _, _, _, _, _, h⟩ := h
        obtain ⟨w, r, e, h1, _⟩ := h
        cases (show PyData.bool true = .str w.1 from h1.1)
      · cases e
      · cases e1
        obtain ⟨w, w1, w2⟩ := kd_look e4 hd
        cases (show u = .str z from hy)
        have := DGet.k (k := Sum.inr z) (I.sh a _ e3)
        rw [w1] at this
        exact ⟨a, w, rfl, this, ok_val I rfl (atomV_rep w2) q⟩
      · cases e
      · cases e
  · cases hs
theorem se_ld {fa fb : MEnv → Option (Lr × MEnv)} (hu : X.A.units + 1 < cLine) (ha : SL X a fa) (hb : SL X b fb) (hp : plainIx b = true) : SE X (.Subscript a b pos) (op2 fa fb ldD) :=
  se_op2 ha hb ok_ld (pe_dget hu (W.pe X a) (W.pe X b) (by intro o i; cases b <;> first | rfl | cases hp))
/-! the display -/
inductive SPk (X : Cx) (p2 : Pos) : List (Option Expr) → List Expr → List (PyData × PyData) → Prop
  | nil : SPk X p2 [] [] []
  | cons {k v : Expr} {ks : List (Option Expr)} {vs : List Expr} {z : Str} {w : V} {d : PyData} {kvs : List (PyData × PyData)} (hk : PE X k (tC (.str z))) (hv : PE X v (tC w)) (hd : atomV d w = true) (r : SPk X p2 ks vs kvs) :
      SPk X p2 (some k :: ks) (v :: vs) ((.str z, d) :: kvs)
theorem SPk.pps {p2 : Pos} {ks : List (Option Expr)} {vs : List Expr} {kvs : List (PyData × PyData)} (h : SPk X p2 ks vs kvs) : ∃ trs qs, PPs X p2 ks vs trs ∧ kdRep kvs qs ∧ (qs.map (·.1)) = kvs.map (fun p => match p.1 with | .str z => Sum.inr z | _ => Sum.inr "") ∧
    ∀ (σ : L2.St) (H : Hp) (Q : List (V × V) → Hp → Prop), Q (qs.map fun kv => (kV kv.1, kv.2)) H → tPairs trs σ H Q := by
  induction h with
  | nil => exact ⟨[], [], pps_nil, rfl, rfl, fun σ H Q q => q⟩
  | @cons k v ks vs z w d kvs hk hv hd r ih =>
    obtain ⟨trs, qs, h1, h2, h3, h4⟩ := ih
    exact ⟨(tC (.str z), tC w) :: trs, (.inr z, w) :: qs, pps_cons hk hv h1, ⟨z, w, qs, rfl, rfl, hd, h2⟩, by rw [List.map_cons, List.map_cons, h3], fun σ H Q q => h4 σ H _ q⟩
def keysOf (kvs : List (PyData × PyData)) : List Key := kvs.map (fun p => match p.1 with | .str z => Sum.inr z | _ => Sum.inr "")
theorem se_ldisp {keys : List (Option Expr)} {values : List Expr} {kvs : List (PyData × PyData)} (h : SPk X pos keys values kvs) (hall : keys.all (·.isSome) = true) (hl : keys.length = values.length) (h0 : keys ≠ []) (h15 : keys.length ≤ 15) (hk15 : kvs.length ≤ 15) (hnd : (keysOf kvs).Nodup) :
    SE X (.Dict keys values pos) (fun env => some (.val (.dict ((.bool true, .none) :: kvs)), env)) := by
  refine ⟨?_⟩
  intro env σ Hs H r env' hf I Q q
  cases hf
  obtain ⟨trs, qs, h1, h2, h3, h4⟩ := h.pps
  refine W.of (pe_disp h1 hall hl h0 h15) ?_
  intro p hp
  refine h4 σ _ _ ?_
  have hlen : qs.length = kvs.length := by
    have := congrArg List.length h3
    simpa using this
  have hm : mergeK [] qs = qs := by
    rw [mergeK_app qs [] (by rw [h3]; exact hnd) (by simp), List.nil_append]
  refine ⟨upd_same, qs, rfl, by omega, ?_⟩
  rw [hm]
  have e1 : upd (upd H p (.dK [])) p (.dK qs) = upd H p (.dK qs) := by
    funext b
    by_cases e : b = p
    · subst e; rw [upd_same, upd_same]
    · rw [upd_ne e, upd_ne e, upd_ne e]
  rw [e1]
  exact q (.ref p) (upd Hs p (.dK qs)) _ (GoE.share I hp _) (I.share hp _) (.inr (.inr (.inl ⟨kvs, p, qs, rfl, rfl, upd_same, h2⟩)))
/-- tuple(xs) of a list -/
def tupleD : PyData → Option Slot
  | .list xs => some (.val (.tuple xs))
  | _ => none
theorem ok_tuple : R1ok X.K (fun v H Q => ∃ p ys, [v] = [V.ref p] ∧ ((SqL X.K H p ys ∧ ∀ l, H l = none → Q (.ref l) (upd H l (.tup ys))) ∨ (SqT X.K H p ys ∧ Q (.ref p) H))) tupleD := by
  intro Hs H σ env x v s hs I hx Q q
  cases x <;> try (cases hs; done)
  rename_i xs
  cases hs
  obtain ⟨p, vs, rfl, h1, h2⟩ := hx
  exact ⟨p, vs, rfl, .inl ⟨h1.1, ok_newT (s := .val (.tuple xs)) I rfl h2 q⟩⟩
/-! ### xs.count('z'), a list of texts -/
def rCntF (K : PySem.W.Frag) : V → List V → Hp → VK → Prop := fun x xs H Q => ∃ (p : Addr) (ys : List V) (y : V), x = .ref p ∧ xs = [y] ∧ SqL K H p ys ∧ flatV y = true ∧ ys.all flatV = true ∧ Q (.int ((ys.countP fun z => eqV z y : Nat) : Int)) H
omit [Old] in
theorem countP_flat {y : V} : ∀ {ys : List V} {us : List Value}, Vals ys us → ys.all flatV = true → us.countP (eqU y) = ys.countP fun z => eqV z y
  | _, _, .nil, _ => rfl
  | z :: ys, u :: us, .cons r t, f => by
    rw [List.all_cons, Bool.and_eq_true] at f
    rw [List.countP_cons, List.countP_cons, countP_flat t f.2, eqU_of r f.1]
omit [Old] in
theorem mt_countF : MtR X "list.count" (rCntF X.K) := by
  intro pins s σ H x xs v us Q I rx rxs h
  obtain ⟨p, ys, y, rfl, rfl, hs, fy, fys, q⟩ := h
  cases rx
  obtain ⟨u, rfl, ru⟩ := rxs.one
  obtain ⟨its, rv, ⟨⟨cls, dd, data, sl⟩, n, ho, hc, hdn, hd⟩, hlen⟩ := I.list hs
  simp only at hc hd
  subst hc hd
  refine call_meets PySem.F.slot_list_count ⟨_, ho, rfl⟩ PySem.F.entry_list_count (PySem.F.args_list_count_2 _ _)
    (SeqAt.list_countAt p its.toArray n dd sl u (eqU y)) ⟨ho, fun u' hu' => mem_eqAt ru fy rv fys u' (by simpa using hu'), ?_⟩
  have ec : its.toArray.toList.countP (eqU y) = ys.countP fun z => eqV z y := by rw [countP_flat rv fys]
  refine ⟨.int ((ys.countP fun z => eqV z y : Nat) : Int), H, I.tok _, ⟨s.toks, ?_⟩, q⟩
  show Value.int ((its.toArray.toList.countP (eqU y) : Nat) : Int) s.toks = _
  rw [ec]
def countF (fo fe : MEnv → Option (PyData × MEnv)) : MEnv → Option (Slot × MEnv) := fun env => match fo env with
  | some (.list xs, e1) => match fe e1 with
    | some (.str z, e2) => match strsOf xs with
      | some zs => some (.val (.int ((zs.countP fun y => y == z : Nat) : Int)), e2)
      | none => none
    | _ => none
  | _ => none
omit [Old] in
theorem strs_flat : ∀ zs : List Str, (zs.map V.str).all flatV = true
  | [] => rfl
  | z :: zs => by
    rw [List.map_cons, List.all_cons, strs_flat zs]
    rfl
theorem se_count {apos : Pos} {fo fe : MEnv → Option (PyData × MEnv)} (ho : SV X a fo) (he : SV X e fe) (hp : plainE e = true) (hbase : attributeBase a "count" X.env (eval a X.env) = eval a X.env) (hline : (apos.endLine == pos.line) = true) :
    SE X (.Call (.Attribute a "count" apos) [e] [] pos) (countF fo fe) := by
  refine ⟨?_⟩
  intro env σ Hs H r env' hf I Q q
  unfold countF at hf
  split at hf
  · rename_i xs e1 h1
    split at hf
    · rename_i z e2 h2
      split at hf
      · rename_i zs hz
        cases hf
        refine W.of (pe_bm (X := X) PySem.F.plainAttrs_list PySem.F.slot_list_count PySem.F.type_list_count mt_countF (W.pe X a) (pa_cons (W.pe X e) pa_nil (star_plain hp)) hbase (by rw [star_plain hp]; rfl) hline (star_plain hp) rfl) ?_
        refine ho env σ Hs H _ e1 h1 I _ fun v Hs1 H1 g1 I1 r1 => ?_
        obtain ⟨p, vs, rfl, k1, k2⟩ := r1
        refine ⟨.inl ⟨rfl, vs, ex_nl I1.sh k1⟩, ?_⟩
        refine he e1 σ Hs1 H1 _ env' h2 I1 _ fun u Hs2 H2 g2 I2 r2 => ?_
        cases (show u = .str z from r2)
        have hv := strsOf_rep hz k2
        refine ⟨p, vs, .str z, rfl, rfl, ex_nl I2.sh (ex_n g2.sh k1), rfl, by rw [hv]; exact strs_flat zs, ?_⟩
        refine q _ Hs2 H2 (g1.trans g2) I2 ?_
        show V.int _ = V.int _
        rw [hv, List.countP_map]
        rfl
      · cases hf
    · cases hf
  · cases hf
end Ip

set_option Elab.async false
set_option linter.all false
set_option maxRecDepth 100000
set_option maxHeartbeats 4000000
/-! a loop that spoils what is in a list, and then the list itself -/
namespace Ip
open PySem L2
open Evl (Ex sz_of fresh_back)
variable {X : Cx} {a b e : Expr} {pos : Pos} {K : PySem.W.Frag} {Hs Hs' H H' H'' F F' F'' : Hp} {σ σ' : L2.St} {T T' T'' : TA}
theorem ms_core {x : Str} {px : Pos} {iter : Expr} {i : Nat} {body : List Stmt} {fi : MEnv → Option (PyData × MEnv)} {kb : TE' → Bool} {c : Nat × Nat} {ix : List Nat} {kind : PyData → Option GT} {Tc : Hp → TA} (L : List Nat) (KD : Kinds X.K kind Tc) (h : ∀ oo : Old, SV X iter fi) (ht : PG X (.Name x px) (gName i)) (hb : TS' X body kb c ix)
    (hpo : PassesOwn (model X.prog X.w) X.A X.env X.xe) (hc : X.calm = true) (hs : ∀ y, foldedSetIterable iter X.env y = pure y) (oo : Old) (env : MEnv) (σ : L2.St) (Hs H : Hp) (hst : oo.strict = true)
    (hchk : (match fi env with | some (.list xs, e1) => ownIn L 0 env && decide (xs.length * c.1 ≤ 90000) && decide (xs.length * c.2 ≤ 1000) && decide (i < env.length) && kindsOk kind env.length i kb xs && (i :: ix).all (fun j => decide (j ∈ L)) | _ => false) = true)
    (I : @InvS oo X.K Hs H σ env) (D : Ends)
    (q : ∀ σ' H', Off (i :: ix) σ σ' → (∀ a o, H a = some o → Hs a = none → ¬ MutAt σ env a → H' a = some o) → (∀ a o, H a = some o → ∃ u, H' a = some u) → (∀ a vs, Hs a = some (.lst vs) → vs.length ≤ 9000 → ∃ us, H' a = some (.lst us) ∧ us.length < 100000) → D.nx σ' H') (hn9 : ∀ Hs a n e, Tc Hs a = some (n, e) → n ≤ 9) : WS X (.For (.Name x px) iter body [] pos) D σ H := by
  split at hchk
  rotate_left
  · cases hchk
  rename_i xs e1 h1
  simp only [Bool.and_eq_true, decide_eq_true_eq] at hchk
  obtain ⟨⟨⟨⟨⟨c1, c2⟩, c3⟩, c4⟩, c5⟩, c6⟩ := hchk
  refine WS.of (ps_for hpo hc (pi_list (W.pe X iter)) ht (WSs.ps X body) hs) ?_
  refine (h oo).run env σ Hs H _ e1 h1 I _ fun v Hs1 H1 g1 I1 r1 => ?_
  obtain ⟨ad, vs, rfl, sq, rl⟩ := r1
  have hHs : Hs1 ad = some (.lst vs) := sq.2 hst
  have hH1 : H1 ad = some (.lst vs) := I1.sh ad _ hHs
  refine ⟨ad, rfl, ⟨vs, Evl.sq_of hH1⟩, ?_⟩
  have hv := KD.hv Hs1 H1 I1.sh
  have hlen := RepL.length rl
  have hi : i < (List.replicate env.length (none : Option GT)).length := by rw [List.length_replicate]; exact c4
  have hte : TEok X.K (nl Hs1) (Tc Hs1) (List.replicate env.length none) σ := ⟨by rw [List.length_replicate]; exact I.len.symm, fun j τ hj => by
    rw [List.getElem?_replicate] at hj
    split at hj <;> cases hj⟩
  have fin : ∀ σ' F' T' g' H', Gw (nl Hs1) (Tc Hs1) H1 F' T' H' → HV X.K F' T' g' H' → Off (i :: ix) σ σ' → g'.1 ≤ 90000 → g'.2 ≤ 1000 → D.nx σ' H' := fun σ' F' T' g' H' gw hv' off b1 b2 => by
    refine q σ' H' off (fun a o ha hn hm => ?_) (fun a o ha => ?_) fun a us ha h9 => ?_
    · refine gw.kp a o (g1.kp a o ha hm) ?_
      cases z : Tc Hs1 a with
      | none => rfl
      | some y =>
        obtain ⟨us, hu⟩ := KD.dom Hs1 a y z
        rcases g1.nw a _ hu with w | w | w
        · rw [hn] at w; cases w
        · rw [ha] at w; cases w
        · exact absurd w.mut hm
    · obtain ⟨u, hu⟩ := g1.dm a o ha
      exact gw.dm a u hu
    · have k1 := g1.sh a _ ha
      have k2 := I1.sh a _ k1
      cases z : Tc Hs1 a with
      | none => exact ⟨us, gw.kp a _ k2 z, by omega⟩
      | some y =>
        obtain ⟨_, us', w, wl, _⟩ := hv'.ls a y.1 y.2 (gw.t a _ z)
        have := hn9 _ _ _ _ z
        refine ⟨us', w, ?_⟩
        have : gr y.2 g' ≤ 90000 := by
          unfold gr
          split <;> omega
        omega
  refine for_it (walk_list (K := X.K) (a := ad) (xs := vs)) (fun k σ2 H2 => ∃ F2 T2 g2, Gw (nl Hs1) (Tc Hs1) H1 F2 T2 H2 ∧ HV X.K F2 T2 g2 H2 ∧ TEok X.K F2 T2 (List.replicate env.length none) σ2 ∧ g2.1 ≤ k * c.1 ∧ g2.2 ≤ k * c.2 ∧ Off (i :: ix) σ σ2 ∧ SqL X.K H2 ad vs) ?_ ?_ ?_ ?_
  · exact ⟨_, _, (0, 0), Gw.refl, hv, hte, Nat.zero_le _, Nat.zero_le _, Off.refl, Evl.sq_of hH1⟩
  · rintro k σ2 H2 _ ⟨F2, T2, g2, _, _, _, _, _, _, h⟩
    exact h
  · rintro k x σ2 H2 H3 hlt ⟨F2, T2, g2, gw, hv2, ht2, a3, a4, o2, sq2⟩ ⟨rfl, hx⟩
    have hx : vs[k]? = some x := hx
    have hk : k < xs.length := by rw [hlen]; exact hlt
    obtain ⟨w, w1, w2⟩ := RepL.get rl (List.getElem?_eq_getElem hk)
    rw [hx] at w1
    cases w1
    have hkd := List.all_eq_true.mp c5 xs[k] (List.getElem_mem hk)
    have m1 : k * c.1 + c.1 ≤ vs.length * c.1 := by rw [← Nat.succ_mul]; exact Nat.mul_le_mul_right _ hlt
    have m2 : k * c.2 + c.2 ≤ vs.length * c.2 := by rw [← Nat.succ_mul]; exact Nat.mul_le_mul_right _ hlt
    show WSs X body _ (σ2.set i (some x)) _
    intro pins s II
    have NK := nk_of (Hs := Hs1) II gw hv2
    cases hτ : kind xs[k] with
    | none => rw [hτ] at hkd; cases hkd
    | some τ =>
      rw [hτ] at hkd
      have hkd : kb ((List.replicate env.length none).set i (some τ)) = true := hkd
      have hT := KD.el oo Hs1 _ _ τ hst NK w2 hτ
      have tad : Tc Hs1 ad = none := by
        cases xs with
        | nil => cases hk
        | cons d ds =>
          have k0 := List.all_eq_true.mp c5 d List.mem_cons_self
          cases hd : kind d with
          | none => rw [hd] at k0; cases k0
          | some τ0 => exact KD.ad oo Hs1 d ds vs ad τ0 hst NK hHs rl hd
      have ht3 := ht2.free (τ := τ) hi (HasT.mono gw.f gw.t hT)
      rw [hlen] at c2 c3
      refine hb.run F2 T2 g2 _ _ _ hkd hv2 ht3 (by omega) (by omega) _ (fun σ4 F4 T4 g4 H4 gw4 hv4 ht4 b1 b2 b3 b4 o4 => ?_) pins s II
      have ho : Off (i :: ix) σ σ4 := by
        refine ⟨o4.1.trans (List.length_set.trans o2.1), fun j hj => ?_⟩
        have j1 : j ∉ ix := fun z => hj (List.mem_cons_of_mem _ z)
        have j2 : i ≠ j := fun z => hj (z ▸ List.mem_cons_self)
        rw [o4.2 j j1, List.getElem?_set_ne j2, o2.2 j hj]
      have gw5 := gw.trans gw4
      exact ⟨F4, T4, g4, gw5, hv4, ht4.unset free_rep, by rw [Nat.succ_mul]; omega, by rw [Nat.succ_mul]; omega, ho, Evl.sq_of (gw5.kp ad _ hH1 tad)⟩
  · rintro σ2 H2 ⟨F2, T2, g2, gw, hv2, ht2, a3, a4, o2, _⟩
    rw [hlen] at c2 c3
    exact fin σ2 F2 T2 g2 H2 gw hv2 o2 (by omega) (by omega)
/-- two statements that spoil what is new -/
structure MS2 (X : Cx) (st1 st2 : Stmt) (L : List Nat) (chk : MEnv → Bool) : Prop where
  run : ∀ (oo : Old) (env : MEnv) (σ : L2.St) (Hs H : Hp), oo.strict = true → chk env = true → @InvS oo X.K Hs H σ env → ∀ D : Ends,
    (∀ σ' H', Off L σ σ' → (∀ a o, H a = some o → Hs a = none → ¬ (∃ i xs, i ∈ L ∧ env[i]? = some (.own xs) ∧ σ[i]? = some (some (.ref a))) → H' a = some o) → (∀ a o, H a = some o → ∃ u, H' a = some u) → D.nx σ' H') → ∀ D1 : Ends, (∀ σ' H', WS X st2 D σ' H' → D1.nx σ' H') → WS X st1 D1 σ H
def isVL : Option Slot → Bool
  | some (.val (.list xs)) => decide (xs.length ≤ 9000)
  | _ => false
theorem off_sub {L L' : List Nat} (h : ∀ j, j ∈ L → j ∈ L') (o : Off L σ σ') : Off L' σ σ' := ⟨o.1, fun j hj => o.2 j fun z => hj (h j z)⟩
theorem ms_for2 {x : Str} {px : Pos} {iter : Expr} {i j : Nat} {body : List Stmt} {st2 : Stmt} {fi : MEnv → Option (PyData × MEnv)} {kb : TE' → Bool} {c : Nat × Nat} {ix : List Nat} {kind : PyData → Option GT} {Tc : Hp → TA} (L : List Nat) (KD : Kinds X.K kind Tc) (h : ∀ oo : Old, SV X iter fi) (ht : PG X (.Name x px) (gName i)) (hb : TS' X body kb c ix)
    (hpo : PassesOwn (model X.prog X.w) X.A X.env X.xe) (hc : X.calm = true) (hs : ∀ y, foldedSetIterable iter X.env y = pure y)
    (hn9 : ∀ Hs a n e, Tc Hs a = some (n, e) → n ≤ 9) (h2 : ∀ (σ : L2.St) (H : Hp) (a : Addr) (vs : List V), vs.length < 100000 → ∀ D : Ends, σ[j]? = some (some (.ref a)) → H a = some (.lst vs) → (∀ H', (∀ b o, H b = some o → b ≠ a → H' b = some o) → (∃ u, H' a = some u) → D.nx σ H') → WS X st2 D σ H) :
    MS2 X (.For (.Name x px) iter body [] pos) st2 L (fun env => (match fi env with | some (.list xs, e1) => ownIn L 0 env && decide (xs.length * c.1 ≤ 90000) && decide (xs.length * c.2 ≤ 1000) && decide (i < env.length) && kindsOk kind env.length i kb xs && (i :: ix).all (fun j => decide (j ∈ L)) | _ => false) && isVL env[j]? && decide (j ∉ i :: ix)) := by
  refine ⟨?_⟩
  intro oo env σ Hs H hst hchk I D q D1 hD1
  rw [Bool.and_eq_true, Bool.and_eq_true, decide_eq_true_eq] at hchk
  obtain ⟨⟨hc1, hc2⟩, hc3⟩ := hchk
  refine ms_core L KD h ht hb hpo hc hs oo env σ Hs H hst hc1 I D1 (fun σ' H' off kp dm ls => ?_) hn9
  refine hD1 σ' H' ?_
  have hown : ownIn L 0 env = true ∧ ∀ k, k ∈ i :: ix → k ∈ L := by
    revert hc1
    split
    · intro w
      simp only [Bool.and_eq_true] at w
      exact ⟨w.1.1.1.1.1, fun k hk => by simpa using List.all_eq_true.mp w.2 k hk⟩
    · intro w; cases w
  cases z : env[j]? with
  | none => rw [z] at hc2; cases hc2
  | some s =>
    rw [z] at hc2
    cases s with
    | un => cases hc2
    | own _ => cases hc2
    | io _ => cases hc2
    | val d =>
      cases d <;> try (cases hc2; done)
      rename_i xs
      obtain ⟨v, e1, e2⟩ := I.vals j _ z
      obtain ⟨a, vs, rfl, sq, rl⟩ := e2
      have hHs : Hs a = some (.lst vs) := sq.2 hst
      have hc2 : decide (xs.length ≤ 9000) = true := hc2
      obtain ⟨us, hu, hl⟩ := ls a vs hHs (by rw [← RepL.length rl]; exact of_decide_eq_true hc2)
      refine h2 σ' H' a us hl D (by rw [off.2 j hc3]; exact e1) hu fun H2 k1 k2 => ?_
      refine q σ' H2 (off_sub hown.2 off) (fun b o hb hn nown => ?_) fun b o hb => ?_
      · have hm : ¬ MutAt σ env b := fun ⟨i, s, ys, k1, k2, k3⟩ => by
          obtain ⟨rfl, k4⟩ := ownIn_at hown.1 k1 k2
          rw [Nat.zero_add] at k4
          exact nown ⟨i, ys, k4, k1, k3⟩
        exact k1 b o (kp b o hb hn hm) fun z => by subst z; rw [hn] at hHs; cases hHs
      · by_cases hz : b = a
        · subst hz; exact k2
        · obtain ⟨u, hu⟩ := dm b o hb
          exact ⟨u, k1 b u hu hz⟩
/-- x.clear() -/
theorem raw_clear {x : Str} {j : Nat} {pa p1 p2 : Pos} (hx : PE X (.Name x p1) (tVar j)) (hb : attributeBase (.Name x p1) "clear" X.env (eval (.Name x p1) X.env) = eval (.Name x p1) X.env) (hline : (pa.endLine == p2.line) = true)
    (σ : L2.St) (H : Hp) (a : Addr) (vs : List V) (_ : vs.length < 100000) (D : Ends) (h1 : σ[j]? = some (some (.ref a))) (h2 : H a = some (.lst vs)) (q : ∀ H', (∀ b o, H b = some o → b ≠ a → H' b = some o) → (∃ u, H' a = some u) → D.nx σ H') :
    WS X (.Expr (.Call (.Attribute (.Name x p1) "clear" pa) [] [] p2) pos) D σ H := by
  have pe := pe_bm0 (X := X) PySem.F.plainAttrs_list PySem.F.slot_list_clear PySem.F.type_list_clear mt_clear (W.pe X (.Name x p1)) (apos := pa) (cpos := p2) hb hline
  refine WS.of (ps_expr pe) ?_
  refine W.of hx ⟨.ref a, h1, ?_⟩
  refine ⟨.inl ⟨rfl, vs, Evl.sq_of h2⟩, ?_⟩
  refine ⟨a, vs, rfl, rfl, h2, ?_⟩
  exact q _ (fun b o hb hne => by rw [upd_ne hne]; exact hb) ⟨_, upd_same⟩
/-- x.append([]) -/
theorem raw_appE {x : Str} {j : Nat} {pa p1 p2 p4 : Pos} (hx : PE X (.Name x p1) (tVar j)) (hb : attributeBase (.Name x p1) "append" X.env (eval (.Name x p1) X.env) = eval (.Name x p1) X.env) (hline : (pa.endLine == p2.line) = true)
    (σ : L2.St) (H : Hp) (a : Addr) (vs : List V) (hsz : vs.length < 100000) (D : Ends) (h1 : σ[j]? = some (some (.ref a))) (h2 : H a = some (.lst vs)) (q : ∀ H', (∀ b o, H b = some o → b ≠ a → H' b = some o) → (∃ u, H' a = some u) → D.nx σ H') :
    WS X (.Expr (.Call (.Attribute (.Name x p1) "append" pa) [.List [] p4] [] p2) pos) D σ H := by
  have pe := pe_bm (X := X) PySem.F.plainAttrs_list PySem.F.slot_list_append PySem.F.type_list_append mt_append (W.pe X (.Name x p1)) (pa_cons (pe_lst (pos := p4) (pa_nil (X := X))) pa_nil (star_plain rfl)) (apos := pa) (cpos := p2) hb (by rw [star_plain rfl]; rfl) hline (star_plain rfl) rfl
  refine WS.of (ps_expr pe) ?_
  refine W.of hx ⟨.ref a, h1, ?_⟩
  refine ⟨.inl ⟨rfl, vs, Evl.sq_of h2⟩, ?_⟩
  refine ⟨sz_of (n := 0) (by omega), fun p hp => ?_⟩
  have ne : a ≠ p := ne_of_none h2 hp
  have hHp : upd H p (.lst []) a = some (.lst vs) := by rw [upd_ne ne]; exact h2
  refine ⟨a, vs, .ref p, rfl, rfl, hHp, Evl.sz_lt (by omega), ?_⟩
  refine q _ (fun b o hb hne => ?_) ⟨_, upd_same⟩
  rw [upd_ne hne, upd_ne (ne_of_none hb hp)]
  exact hb
theorem sq_mess2 {st st2 : Stmt} {sts : List Stmt} {L : List Nat} {chk : MEnv → Bool} {f : MEnv → Option Out} (h : MS2 X st st2 L chk) (hs : @SB noOld X sts f) : SQ X (st :: st2 :: sts) (messB L chk f) := by
  refine ⟨?_⟩
  intro Ho H0 σ0 env0 env σ Hs H o ox mo hn hf I gg D q
  refine WSs.of (pss_cons (WS.ps X st) (WSs.ps X (st2 :: sts))) ?_
  unfold messB at hf
  split at hf
  rotate_left
  · cases hf
  rename_i hc
  refine h.run ⟨Ho, true⟩ env σ Hs H rfl hc I _ (fun σ' H' off kp dm => ?_) _ fun σ' H' w => WSs.of (pss_cons (WS.ps X st2) (WSs.ps X sts)) w
  have Il := @InvS.len ⟨Ho, true⟩ _ _ _ _ _ I
  have Iold := @InvS.old ⟨Ho, true⟩ _ _ _ _ _ I
  have own_mut : ∀ a, (∃ i xs, i ∈ L ∧ env[i]? = some (.own xs) ∧ σ[i]? = some (some (.ref a))) → MutAt σ env a := fun a ⟨i, xs, _, h1, h2⟩ => ⟨i, _, xs, h1, rfl, h2⟩
  have hsnone : ∀ a o, H0 a = some o → ¬ MutAt σ0 env0 a → Hs a = none := fun a o h1 h2 => by
    cases z : Hs a with
    | none => rfl
    | some u =>
      rcases gg.nw a u z with y | y | y
      · cases y
      · rw [h1] at y; cases y
      · exact absurd y.mut h2
  have kp0 : ∀ a o, H0 a = some o → ¬ MutAt σ0 env0 a → H' a = some o := fun a o h1 h2 => kp a o (gg.kp a o h1 h2) (hsnone a o h1 h2) fun m => by
    rcases gg.ow a (own_mut a m) with y | y
    · exact h2 y
    · rw [h1] at y; cases y
  have shH : Ex Ho H' := fun a o h1 => kp0 a o (ox a o h1) fun m => by rw [mo a m] at h1; cases h1
  have mback : ∀ {i : Nat} {s : Slot} {xs : List PyData}, (backL L 0 env)[i]? = some s → s.mut = some xs → env[i]? = some (.own xs) ∧ i ∉ L ∧ s = .own xs ∧ xs.all atomD = true := fun {i s xs} h1 h2 => by
    obtain ⟨t, k1, k2⟩ := backL_get h1
    rw [Nat.zero_add] at k2
    rcases k2 with ⟨_, rfl⟩ | ⟨k2, k3⟩
    · cases h2
    · obtain ⟨rfl, r2, r3⟩ := backS_mut k3.symm h2
      exact ⟨k1, k2, r2, r3⟩
  have mm : ∀ a, MutAt σ' (backL L 0 env) a → MutAt σ env a := fun a ⟨i, s, xs, h1, h2, h3⟩ => by
    obtain ⟨k1, k2, _⟩ := mback h1 h2
    exact ⟨i, _, xs, k1, rfl, by rw [← off.2 i k2]; exact h3⟩
  have IN : @InvS noOld X.K Ho H' σ' (backL L 0 env) := by
    refine @InvS.mk noOld _ _ _ _ _ (by rw [backL_len, off.1]; exact Il) shH (fun i d h1 => ?_) (fun i s xs h1 hm => ?_) (fun i j s t xs ys p h1 m1 h2 m2 g1 g2 => ?_) ⟨fun a o h => (by cases h), fun a m => rfl⟩
    · obtain ⟨t, k1, k2⟩ := backL_get h1
      rw [Nat.zero_add] at k2
      rcases k2 with ⟨_, z⟩ | ⟨k2, k3⟩
      · cases z
      · rcases backS_val k3.symm with ⟨rfl, hp⟩ | ⟨rfl, ha⟩
        · obtain ⟨v, e1, e2⟩ := @InvS.vals ⟨Ho, true⟩ _ _ _ _ _ I i _ k1
          exact ⟨v, by rw [off.2 i k2]; exact e1, @rep0_rep _ _ _ (Ex.refl Ho) d v (@rep_old ⟨Ho, true⟩ _ _ _ _ e2).2⟩
        · obtain ⟨v, e1, e2⟩ := @InvS.vals ⟨Ho, true⟩ _ _ _ _ _ I i _ k1
          exact ⟨v, by rw [off.2 i k2]; exact e1, atom_rep ha e2⟩
    · obtain ⟨k1, k2, rfl, ha⟩ := mback h1 hm
      obtain ⟨p, vs, e1, e2, e3, e4⟩ := @InvS.muts ⟨Ho, true⟩ _ _ _ _ _ I i _ xs k1 rfl
      have pm : MutAt σ env p := ⟨i, _, xs, k1, rfl, e1⟩
      refine ⟨p, vs, by rw [off.2 i k2]; exact e1, Iold.2 p pm, kp p _ e3 e2 fun ⟨j, ys, j1, j2, j3⟩ => ?_, atom_repL ha e4⟩
      have := @InvS.diff ⟨Ho, true⟩ _ _ _ _ _ I i j _ _ xs ys p k1 rfl j2 rfl e1 j3
      exact k2 (this ▸ j1)
    · obtain ⟨k1, k2, _⟩ := mback h1 m1
      obtain ⟨k3, k4, _⟩ := mback h2 m2
      rw [off.2 i k2] at g1
      rw [off.2 j k4] at g2
      exact @InvS.diff ⟨Ho, true⟩ _ _ _ _ _ I i j _ _ xs ys p k1 rfl k3 rfl g1 g2
  have GN : Go σ0 env0 Ho H0 σ' (backL L 0 env) Ho H' := by
    refine ⟨Ex.refl _, kp0, fun a o h1 => ?_, fun a o h1 => .inl h1, fun a m => gg.ow a (mm a m), fun a ⟨i, xs, h1, h3⟩ => ?_, fun i xs h1 => absurd h1 (noIo_at hn)⟩
    · obtain ⟨u, hu⟩ := gg.dm a o h1
      exact dm a u hu
    · obtain ⟨k1, k2, _⟩ := mback h1 (xs := xs) rfl
      exact gg.lo a ⟨i, xs, k1, by rw [← off.2 i k2]; exact h3⟩
  exact @SB.run noOld X sts f hs (backL L 0 env) σ' Ho H' o hf IN D (@EndsOk.step noOld _ _ _ _ _ _ _ _ _ GN _ _ q)
theorem nine_A (Hs : Hp) (a : Addr) (n : Nat) (e : GT) (h : TcA K Hs a = some (n, e)) : n ≤ 9 := by
  obtain ⟨vs, _, h2⟩ := TcA_dom h
  rcases h2 with ⟨_, z⟩ | ⟨_, z⟩ | ⟨_, z⟩ <;> cases z <;> decide
/-! ### polynomials alone -/
def kindP : PyData → Option GT := fun d => if polyB d then some (.lst 9 .any) else none
open Classical in
noncomputable def TcP (Hs : Hp) : TA := fun a => match Hs a with
  | some (.lst vs) => if PP vs then some (9, .any) else none
  | _ => none
theorem TcP_p {a : Addr} {vs : List V} (h : Hs a = some (.lst vs)) (p : PP vs) : TcP Hs a = some (9, .any) := by
  unfold TcP; rw [h]; simp only; rw [if_pos p]
theorem TcP_n {a : Addr} {vs : List V} (h : Hs a = some (.lst vs)) (p : ¬ PP vs) : TcP Hs a = none := by
  unfold TcP; rw [h]; simp only; rw [if_neg p]
theorem TcP_dom {a : Addr} {x : Nat × GT} (h : TcP Hs a = some x) : ∃ vs, Hs a = some (.lst vs) ∧ PP vs ∧ x = (9, .any) := by
  unfold TcP at h
  split at h
  · rename_i vs hv
    split at h
    · rename_i p; cases h; exact ⟨vs, hv, p, rfl⟩
    · cases h
  · cases h
theorem nine_P (Hs : Hp) (a : Addr) (n : Nat) (e : GT) (h : TcP Hs a = some (n, e)) : n ≤ 9 := by
  obtain ⟨vs, _, _, z⟩ := TcP_dom h
  cases z
  decide
theorem kindsP : Kinds K kindP TcP where
  hv := fun Hs H ex => ⟨nl_ex.trans ex, fun a n e h => by
    obtain ⟨vs, h1, p, z⟩ := TcP_dom h
    cases z
    exact ⟨nl_lst h1, vs, ex a _ h1, p.1, fun v _ => trivial⟩⟩
  dom := fun Hs a x h => by
    obtain ⟨vs, h1, _⟩ := TcP_dom h
    exact ⟨vs, h1⟩
  el := fun oo Hs d v τ st nk r hk => by
    unfold kindP at hk
    split at hk
    · rename_i hp
      cases hk
      obtain ⟨a, us, rfl, f1, f2⟩ := rep_poly oo st hp r
      exact ⟨a, rfl, TcP_p f1 f2⟩
    · cases hk
  ad := fun oo Hs d ds vs a τ st nk h1 rl hk => by
    unfold kindP at hk
    split at hk
    · rename_i hp
      obtain ⟨v, rr, rfl, r, _⟩ := rl
      obtain ⟨b, us, rfl, f1, f2⟩ := rep_poly oo st hp r
      refine TcP_n h1 fun p => ?_
      obtain ⟨n, e⟩ := p.2 _ List.mem_cons_self
      cases e
    · cases hk
end Ip

set_option Elab.async false
set_option linter.all false
set_option maxRecDepth 100000
set_option maxHeartbeats 4000000
/-! xs.extend(ys), where ys is somebody's list -/
namespace Ip
open PySem L2 PyProof.Rows
open Evl (Ex sz_of fresh_back)
variable [Old]
variable {X : Cx} {a b e : Expr} {pos : Pos} {K : PySem.W.Frag} {Hs Hs' H H' : Hp} {σ σ' : L2.St} {env env' : MEnv}
omit [Old] in
theorem list_extend_gen (l : Addr) (items : Array Value) (n : Nat) (b : Addr) (items2 : Array Value) (n2 : Nat) (dd : Option Addr) (sl : Array (Option Value)) (hc0 : ¬(!items.isEmpty && Builtin.List.listTooLong (items.size + items2.size)) = true) (hc1 : items.size ≤ sizeLine) (hs2 : items.size + items2.size ≤ sizeLine + 1) :
    Meets (Builtin.«list.extend» ⟨[.ref l, .ref b], []⟩) (fun _ R s => s.heap.get? l = some { cls := .type "list", dict := none, data := .seq items n, slots := #[] } ∧ s.heap.get? b = some { cls := .type "list", dict := dd, data := .seq items2 n2, slots := sl } ∧ R (.ok (.ret Value.none)) { s with heap := s.heap.update l (Obj.mapSeq fun x => x ++ items2), toks := s.toks }) :=
  .of_wp fun prog w A R s h => by
    obtain ⟨hp, g, d, tk, os⟩ := s; obtain ⟨hl, hb, h⟩ := h; have f1 := AutoSeq1.idx_int; have f2 := AutoSeq1.sub_tuple_tuple; have f3 := AutoSeq1.sub_list_list; have f4 := AutoSeq1.sub_tuple_list; have f5 := AutoSeq1.sub_list_tuple;
    have hz' : (items ++ items2).size ≤ sizeLine + 1 := by rw [Array.size_append]; exact hs2
    wp_walk using (wpAny_updateSeq hl rfl (hz := hc1) (_hz' := hz')), AutoSeq1.wpAny_loadPart' hl, AutoSeq1.wpAny_loadPart' hb; exact ⟨_, rfl, h⟩
def rExtG (K : PySem.W.Frag) : V → List V → Hp → VK → Prop := fun x vs H Q => ∃ l b xs zs, x = .ref l ∧ vs = [.ref b] ∧ H l = some (.lst xs) ∧ SqL K H b zs ∧ xs.length + zs.length ≤ sizeLine ∧ Q .non (upd H l (.lst (xs ++ zs)))
omit [Old] in
theorem mt_extG : MtM X "list.extend" (rExtG X.K) := by
  intro pins s σ H x vs v us Q I rx rv h
  obtain ⟨l, b, xs, zs, rfl, rfl, hH, hB, hz, q⟩ := h
  cases rx
  obtain ⟨u, rfl, ru⟩ := rv.one
  cases ru
  obtain ⟨z, its, n, r, hl, e⟩ := I.lstM hH
  obtain ⟨its2, r2, ⟨⟨cls, dd, data, sl⟩, n2, ho, hc, hdn, hd⟩, hlen⟩ := I.list hB
  simp only at hc hd
  subst hc hd
  have hl2 : its2.length = zs.length := r2.length.symm
  have hsz : its.toArray.size + its2.toArray.size ≤ sizeLine := by rw [List.size_toArray, List.size_toArray]; omega
  have hlong : ¬ (!its.toArray.isEmpty && Builtin.List.listTooLong (its.toArray.size + its2.toArray.size)) = true := by
    rw [show Builtin.List.listTooLong (its.toArray.size + its2.toArray.size) = false by
      unfold Builtin.List.listTooLong
      exact decide_eq_false (by omega), Bool.and_false]
    exact Bool.false_ne_true
  refine call_meets PySem.F.slot_list_extend ⟨_, e, rfl⟩ PySem.F.entry_list_extend (PySem.F.args_list_extend_2 _ _)
    (list_extend_gen l its.toArray n b its2.toArray n2 dd sl hlong (by rw [List.size_toArray]; omega) (by omega)) ⟨e, ho, ?_⟩
  refine ⟨.non, _, I.lset (its' := its ++ its2) hH e (by simp) (r.append r2) ?_, rfl, q⟩
  rw [List.length_append]
  omega
def extVB (i : Nat) (f : MEnv → Option (PyData × MEnv)) : MEnv → Option Out := fun env => match env[i]? with
  | some s0 => match s0.mut with
    | some _ => match f env with
      | some (.list ys, e1) => match e1[i]? with
        | some s => match s.mut with
          | some xs => if xs.length + ys.length ≤ 100000 then some (.nx (e1.set i (s.put (xs ++ ys)))) else none
          | none => none
        | none => none
      | _ => none
    | none => none
  | none => none
theorem ss_extV {i : Nat} {x : Str} {px pa p2 : Pos} {f : MEnv → Option (PyData × MEnv)} (hx : PE X (.Name x px) (tVar i)) (h : SV X e f) (hp : plainE e = true) (hline : (pa.endLine == p2.line) = true) :
    SS X (.Expr (.Call (.Attribute (.Name x px) "extend" pa) [e] [] p2) pos) (extVB i f) := by
  refine ⟨?_⟩
  intro env σ Hs H o hf I D q
  unfold extVB at hf
  split at hf
  · rename_i s0 h0
    split at hf
    · rename_i xs0 m0
      split at hf
      · rename_i ys e1 h1
        split at hf
        · rename_i s hs
          split at hf
          · rename_i xs hm
            split at hf
            · rename_i hz
              cases hf
              obtain ⟨p, vs0, k1, k2, k3, k4⟩ := I.muts i s0 xs0 h0 m0
              have pe := pe_bm (X := X) PySem.F.plainAttrs_list PySem.F.slot_list_extend PySem.F.type_list_extend mt_extG hx (pa_cons (W.pe X e) pa_nil (star_plain hp)) (apos := pa) (cpos := p2) (by rfl) (by rw [star_plain hp]; rfl) hline (star_plain hp) rfl
              refine WS.of (ps_expr pe) ?_
              refine ⟨.ref p, k1, .inl ⟨rfl, vs0, Evl.sq_of k3⟩, ?_⟩
              refine h env σ Hs H _ e1 h1 I _ fun v Hs1 H1 g1 I1 r1 => ?_
              obtain ⟨p2, us, rfl, n3, n4⟩ := r1
              obtain ⟨p', vs, j1, j2, j3, j4⟩ := I1.muts i s xs hs hm
              rw [k1] at j1
              cases j1
              refine ⟨p, p2, vs, us, rfl, rfl, j3, ex_nl I1.sh n3, sz_of (by rw [← RepL.length j4, ← RepL.length n4]; exact hz), ?_⟩
              have r2 : RepL X.K Hs1 (xs ++ ys) (vs ++ us) := RepL.app j4 n4
              exact q σ Hs1 _ (g1.trans (GoE.change I1 hs hm k1)).go (I1.change hs hm (Slot.put_mut hm _) k1 r2)
            · cases hf
          · cases hf
        · cases hf
      · cases hf
    · cases hf
  · cases hf
end Ip

set_option Elab.async false
set_option linter.all false
set_option maxRecDepth 100000
set_option maxHeartbeats 4000000
/-! for a, b, c in o: b.append(n) -/
namespace Ip
open PySem L2
open Evl (Ex sz_of fresh_back)
variable {X : Cx} {a b e : Expr} {pos : Pos} {K : PySem.W.Frag} {Hs Hs' H H' H'' F F' F'' : Hp} {σ σ' : L2.St} {T T' T'' : TA}
def forTChk (o : Option GT) (te : TE') (i j k : Nat) : Bool := match o with
  | some (.lst n (.t3 _ (.lst m .any) _)) => decide (n ≤ 5) && decide (m ≤ 9) && freeT te [i, j, k] && decide (j ≠ k) && decide (j < te.length)
  | _ => false
theorem t1_forApp {o : Expr} {i j k : Nat} {xa xb xc : Str} {pa pb pc pt q1 q2 q3 q4 q5 : Pos} {kt jn : Nat} {n0 : Int} {f : TE' → Option GT} (h : TX X o f) (ha : PG X (.Name xa pa) (gName i)) (hb : PG X (.Name xb pb) (gName j)) (hc3 : PG X (.Name xc pc) (gName k)) (hv : PE X (.Name xb q1) (tVar j))
    (hbase : attributeBase (.Name xb q1) "append" X.env (eval (.Name xb q1) X.env) = eval (.Name xb q1) X.env) (hline : (q2.endLine == q4.line) = true)
    (hpo : PassesOwn (model X.prog X.w) X.A X.env X.xe) (hc : X.calm = true) (hs : ∀ y, foldedSetIterable o X.env y = pure y)
    (hn : (assignEach [.Name xa pa, .Name xb pb, .Name xc pc] X.env).length = 3) (hst : (assignEach [.Name xa pa, .Name xb pb, .Name xc pc] X.env).findIdx? (·.1) = none)
    (e1 : (assignEach [.Name xa pa, .Name xb pb, .Name xc pc] X.env).map (·.2) = assign (.Name xa pa) X.env :: (assignEach [.Name xb pb, .Name xc pc] X.env).map (·.2))
    (e2 : (assignEach [.Name xb pb, .Name xc pc] X.env).map (·.2) = assign (.Name xb pb) X.env :: (assignEach [.Name xc pc] X.env).map (·.2))
    (e3 : (assignEach [.Name xc pc] X.env).map (·.2) = assign (.Name xc pc) X.env :: (assignEach [] X.env).map (·.2)) :
    T1 X (.For (.Tuple [.Name xa pa, .Name xb pb, .Name xc pc] kt pt) o [.Expr (.Call (.Attribute (.Name xb q1) "append" q2) [.Constant (.int n0) jn q3] [] q4) q5] [] pos) (fun te => forTChk (f te) te i j k) (5, 0) [i, j, k] := .mk fun F T g H σ te hchk hV hte h1 h2 D q => by
  have h1 : g.1 + 5 ≤ 90000 := h1
  unfold forTChk at hchk
  split at hchk
  rotate_left
  · cases hchk
  rename_i n tx m tz he
  simp only [Bool.and_eq_true, decide_eq_true_eq] at hchk
  obtain ⟨⟨⟨⟨c1, c2⟩, c3⟩, c4⟩, c5⟩ := hchk
  have pe := pe_bm (X := X) PySem.F.plainAttrs_list PySem.F.slot_list_append PySem.F.type_list_append mt_append hv (pa_cons ((show PE X (.Constant (.int n0) jn q3) (tC (.int n0)) from pe_int)) pa_nil (star_plain rfl)) (apos := q2) (cpos := q4) hbase (by rw [star_plain rfl]; rfl) hline (star_plain rfl) rfl
  refine WS.of (ps_for hpo hc (pi_list (W.pe X o)) (pg_tup hc (pgs_cons ha (pgs_cons hb (pgs_cons hc3 pgs_nil e3) e2) e1) hn hst) (pss_cons (ps_expr (pos := q5) pe) pss_nil) hs) ?_
  refine h.run F T g H σ te _ he hV hte _ fun v hvt => ?_
  obtain ⟨ad, rfl, hT⟩ := hvt
  obtain ⟨hFa, vs, hH, hlen, hall⟩ := hV.ls ad n _ hT
  have hlen : vs.length ≤ n + 0 := hlen
  refine ⟨ad, rfl, ⟨vs, Evl.sq_of hH⟩, ?_⟩
  refine for_it (walk_list (K := X.K) (a := ad) (xs := vs)) (fun s σ2 H2 => ∃ g2 : Nat × Nat, Gw F T H F T H2 ∧ HV X.K F T g2 H2 ∧ g.1 ≤ g2.1 ∧ g2.1 ≤ g.1 + s ∧ g2.2 = g.2 ∧ Off [i, j, k] σ σ2 ∧ H2 ad = some (.lst vs)) ?_ ?_ ?_ ?_
  · exact ⟨g, Gw.refl, hV, Nat.le_refl _, Nat.le_refl _, rfl, Off.refl, hH⟩
  · rintro s σ2 H2 _ ⟨g2, _, _, _, _, _, _, h⟩
    exact Evl.sq_of h
  · rintro s x σ2 H2 H3 hlt ⟨g2, gw, hv2, a1, a3, a4, o2, ha2⟩ ⟨rfl, hx⟩
    have hx : vs[s]? = some x := hx
    have hmem : x ∈ vs := List.mem_of_getElem? hx
    obtain ⟨b0, v1, v2, v3, rfl, sb, _, ⟨b, rfl, hTb⟩, _⟩ := hall x hmem
    refine ⟨b0, [v1, .ref b, v3], rfl, Evl.ex_t hv2.fr sb, rfl, ?_⟩
    refine ⟨v1, [.ref b, v3], rfl, ?_⟩
    refine ⟨.ref b, [v3], rfl, ?_⟩
    refine ⟨v3, [], rfl, ?_⟩
    refine ⟨rfl, ?_⟩
    have hlj : j < σ2.length := by rw [o2.1, ← hte.len]; exact c5
    have hget : (((σ2.set i (some v1)).set j (some (.ref b))).set k (some v3))[j]? = some (some (.ref b)) := by
      rw [List.getElem?_set_ne (fun z => c4 z.symm)]
      exact st_set (by rw [List.length_set]; exact hlj)
    obtain ⟨_, us, hb2, hl2, _⟩ := hv2.ls b m _ hTb
    have hl2 : us.length ≤ m + g2.1 := hl2
    refine ⟨.ref b, hget, ?_⟩
    refine ⟨.inl ⟨rfl, us, Evl.sq_of hb2⟩, ?_⟩
    refine ⟨b, us, .int n0, rfl, rfl, hb2, Evl.sz_lt (by omega), ?_⟩
    have nab : ad ≠ b := fun z => by subst z; rw [hT] at hTb; cases hTb
    refine ⟨(g2.1 + 1, g2.2), gw.trans (Gw.upd hTb _), hv2.app hTb hb2 (g' := (g2.1 + 1, g2.2)) trivial (Nat.le_succ _) (Nat.le_refl _) (Nat.le_refl _), by show g.1 ≤ g2.1 + 1; omega, by show g2.1 + 1 ≤ g.1 + (s + 1); omega, a4, ?_, by rw [upd_ne nab]; exact ha2⟩
    refine ⟨by rw [List.length_set, List.length_set, List.length_set]; exact o2.1, fun l hl => ?_⟩
    simp only [List.mem_cons, List.not_mem_nil, or_false, not_or] at hl
    rw [List.getElem?_set_ne (fun z => hl.2.2 z.symm), List.getElem?_set_ne (fun z => hl.2.1 z.symm), List.getElem?_set_ne (fun z => hl.1 z.symm)]
    exact o2.2 l (by simp only [List.mem_cons, List.not_mem_nil, or_false, not_or]; exact hl)
  · rintro σ2 H2 ⟨g2, gw, hv2, a1, a3, a4, o2, ha2⟩
    exact q σ2 F T g2 H2 gw hv2 (hte.step c3 o2 (Ex.refl _) fun _ _ h => h) a1 (by omega) (by show g2.1 ≤ g.1 + 5; omega) (by show g2.2 ≤ g.2 + 0; omega) o2
end Ip

set_option Elab.async false
set_option linter.all false
set_option maxRecDepth 100000
set_option maxHeartbeats 4000000
/-! texts: slices, walks, in, int(..), removeprefix, index, chained comparisons -/
namespace Ip
open PySem L2
open Evl (Ex sz_of fresh_back)
variable [Old]
variable {X : Cx} {a b c e o : Expr} {pos : Pos} {K : PySem.W.Frag} {Hs Hs' H H' : Hp} {σ σ' : L2.St} {env env' : MEnv}
/-- a slice of a text -/
def slTF (fa : MEnv → Option (Lr × MEnv)) (fl fh : MEnv → Option (Option Int × MEnv)) : MEnv → Option (Slot × MEnv) := fun env => match fa env with
  | some (ra, e1) => match fl e1 with
    | some (lo, e2) => match fh e2 with
      | some (hi, e3) => match look ra e3 with
        | some (.str z) => if z.length ≤ 100000 then some (.val (.str (cutS z lo hi)), e3) else none
        | _ => none
      | none => none
    | none => none
  | none => none
theorem se_slT {fa : MEnv → Option (Lr × MEnv)} {fl fh : MEnv → Option (Option Int × MEnv)} {lo hi : Option Expr} {p2 : Pos} (ha : SL X a fa) (hl : SO X lo fl) (hh : SO X hi fh) : SE X (.Subscript a (.Slice lo hi none p2) pos) (slTF fa fl fh) := by
  refine ⟨?_⟩
  intro env σ Hs H s env' hf I Q q
  unfold slTF at hf
  split at hf
  · rename_i ra e1 h1
    split at hf
    · rename_i l e2 h2
      split at hf
      · rename_i h e3 h3
        refine W.of (pe_slice sl_str (W.pe X a) (so_po lo) (so_po hi)) ?_
        refine ha env σ Hs H ra e1 h1 I _ fun v Hs1 H1 g1 I1 r1 => ?_
        refine hl e1 σ Hs1 H1 l e2 h2 I1 _ fun Hs2 H2 g2 I2 => ?_
        refine hh e2 σ Hs2 H2 h e3 h3 I2 _ fun Hs3 H3 g3 I3 => ?_
        have g := (g1.trans g2).trans g3
        have top : ∀ {d : PyData}, look ra e3 = some d → Top X.K Hs3 H3 d v := fun hd => RepLr.top I3 (r1.mono (g2.trans g3).sh) hd
        split at hf
        · rename_i z hx
          split at hf
          · rename_i hz
            cases hf
            have := top hx
            cases (show v = .str z from this)
            exact ⟨z, rfl, sz_of hz, q _ Hs3 H3 g I3 rfl⟩
          · cases hf
        · cases hf
      · cases hf
    · cases hf
  · cases hf
/-- a walk over a text -/
def chL (z : Str) : List PyData := z.cps.toList.map fun c => .str ⟨#[c]⟩
def strI (f : MEnv → Option (PyData × MEnv)) : MEnv → Option (List PyData × MEnv) := fun env => match f env with
  | some (.str z, e1) => some (chL z, e1)
  | _ => none
theorem walk_txt (z : Str) : WalkD K (Its z) Hs (chL z) := by
  unfold WalkD
  have hl : (chL z).length = z.cps.size := by unfold chL; simp
  rw [hl]
  refine Walk.mono (walk_str (z := z)) (fun H _ => trivial) fun i H x H' hi hg y => ?_
  obtain ⟨rfl, c, h1, rfl⟩ := y
  refine ⟨.str ⟨#[c]⟩, ?_, fun Hx h3 h4 σ env I => ⟨Hx, GoE.refl, I, rfl⟩⟩
  unfold chL
  rw [List.getElem?_map, Array.getElem?_toList, h1]
  rfl
theorem si_str {tg : Expr} {f : MEnv → Option (PyData × MEnv)} (h : SV X e f) : SI X tg e (strI f) := by
  refine ⟨?_⟩
  intro env σ Hs H ds env' hf I R q
  unfold strI at hf
  split at hf
  · rename_i z e1 h1
    cases hf
    refine WI.of (pi_str (W.pe X e)) ?_
    refine h env σ Hs H _ env' h1 I _ fun v Hs1 H1 g1 I1 r1 => ?_
    cases (show v = .str z from r1)
    exact ⟨z, rfl, q _ Hs1 H1 g1 I1 (walk_txt z)⟩
  · cases hf
/-- a text in a text -/
def inSD : PyData → PyData → Option Slot
  | .str x, .str y => some (.val (.bool (!(Builtin.Str.occurrences y x 0 y.length 1).isEmpty)))
  | _, _ => none
theorem ok_inS : R2ok X.K (fun x y H Q => ∃ i j, x = .str i ∧ y = .str j ∧ Q (.bl (!(Builtin.Str.occurrences j i 0 j.length 1).isEmpty)) H) inSD := by
  intro Hs H σ env x y v u s hs I hx hy Q q
  cases x <;> try (cases hs; done)
  cases y <;> try (cases hs; done)
  rename_i x y
  cases hs
  cases (show v = .str x from hx)
  cases (show u = .str y from hy)
  exact ⟨x, y, rfl, rfl, q _ Hs H GoE.refl I rfl⟩
/-- int(text) -/
def intTD : PyData → Option Slot
  | .str z => match PySem.intText? z with
    | some n => if z.length ≤ 640 then some (.val (.int n)) else none
    | none => none
  | _ => none
theorem ok_intT : R1ok X.K (fun v H Q => ∃ z n, [v] = [V.str z] ∧ PySem.intText? z = some n ∧ z.length ≤ 640 ∧ Q (.int n) H) intTD := by
  intro Hs H σ env x v s hs I hx Q q
  cases x <;> try (cases hs; done)
  rename_i z
  unfold intTD at hs
  simp only at hs
  split at hs
  · rename_i n hn
    split at hs
    · rename_i hl
      cases hs
      cases (show v = .str z from hx)
      exact ⟨z, n, rfl, hn, hl, q _ Hs H GoE.refl I rfl⟩
    · cases hs
  · cases hs
/-- s.removeprefix(t) -/
def rmpF (fo fe : MEnv → Option (PyData × MEnv)) : MEnv → Option (Slot × MEnv) := fun env => match fo env with
  | some (.str x, e1) => match fe e1 with
    | some (.str y, e2) => if x.length ≤ 100000 then some (.val (.str (Txt.removeprefix x y)), e2) else none
    | _ => none
  | _ => none
theorem se_rmp {apos : Pos} {fo fe : MEnv → Option (PyData × MEnv)} (ho : SV X o fo) (he : SV X e fe) (hp : plainE e = true) (hbase : attributeBase o "removeprefix" X.env (eval o X.env) = eval o X.env) (hline : (apos.endLine == pos.line) = true) :
    SE X (.Call (.Attribute o "removeprefix" apos) [e] [] pos) (rmpF fo fe) := by
  refine ⟨?_⟩
  intro env σ Hs H r env' hf I Q q
  unfold rmpF at hf
  split at hf
  · rename_i x e1 h1
    split at hf
    · rename_i y e2 h2
      split at hf
      · rename_i hc
        cases hf
        refine W.of (pe_m1 PySem.F.slot_str_removeprefix PySem.F.type_str_removeprefix mt_removeprefix (W.pe X o) (W.pe X e) (by rw [star_plain hp]; rfl) hbase hline) ?_
        refine ho env σ Hs H _ e1 h1 I _ fun v Hs1 H1 g1 I1 r1 => ?_
        cases (show v = .str x from r1)
        refine ⟨⟨x, rfl⟩, ?_⟩
        refine he e1 σ Hs1 H1 _ env' h2 I1 _ fun u Hs2 H2 g2 I2 r2 => ?_
        cases (show u = .str y from r2)
        exact ⟨x, y, rfl, rfl, sz_of hc, q _ Hs2 H2 (g1.trans g2) I2 rfl⟩
      · cases hf
    · cases hf
  · cases hf
/-- s.index(t) -/
def sixF (fo fe : MEnv → Option (PyData × MEnv)) : MEnv → Option (Slot × MEnv) := fun env => match fo env with
  | some (.str x, e1) => match fe e1 with
    | some (.str y, e2) => match Builtin.Str.occurrences x y 0 x.length 1 with
      | i :: _ => some (.val (.int (i : Nat)), e2)
      | [] => none
    | _ => none
  | _ => none
theorem se_six {apos : Pos} {fo fe : MEnv → Option (PyData × MEnv)} (ho : SV X o fo) (he : SV X e fe) (hp : plainE e = true) (hbase : attributeBase o "index" X.env (eval o X.env) = eval o X.env) (hline : (apos.endLine == pos.line) = true) :
    SE X (.Call (.Attribute o "index" apos) [e] [] pos) (sixF fo fe) := by
  refine ⟨?_⟩
  intro env σ Hs H r env' hf I Q q
  unfold sixF at hf
  split at hf
  · rename_i x e1 h1
    split at hf
    · rename_i y e2 h2
      split at hf
      · rename_i i rest hc
        cases hf
        refine W.of (pe_m1 PySem.F.slot_str_index PySem.F.type_str_index mt_sindex (W.pe X o) (W.pe X e) (by rw [star_plain hp]; rfl) hbase hline) ?_
        refine ho env σ Hs H _ e1 h1 I _ fun v Hs1 H1 g1 I1 r1 => ?_
        cases (show v = .str x from r1)
        refine ⟨⟨x, rfl⟩, ?_⟩
        refine he e1 σ Hs1 H1 _ env' h2 I1 _ fun u Hs2 H2 g2 I2 r2 => ?_
        cases (show u = .str y from r2)
        exact ⟨x, y, i, rest, rfl, rfl, hc, q _ Hs2 H2 (g1.trans g2) I2 rfl⟩
      · cases hf
    · cases hf
  · cases hf
/-- a <= b <= c, whole numbers -/
def chnT (fa fb fc : MEnv → Option (PyData × MEnv)) : MEnv → Option (Bool × MEnv) := fun env => match fa env with
  | some (.int i, e1) => match fb e1 with
    | some (.int j, e2) => if i ≤ j then match fc e2 with
        | some (.int k, e3) => some (decide (j ≤ k), e3)
        | _ => none
      else some (false, e2)
    | _ => none
  | _ => none
theorem st_chn {fa fb fc : MEnv → Option (PyData × MEnv)} (ha : SV X a fa) (hb : SV X b fb) (hc : SV X c fc) (hm : lastMarks [.LtE, .LtE] [b, c] = false) :
    ST X (.Compare a [.LtE, .LtE] [b, c] pos) (chnT fa fb fc) := by
  refine ⟨?_⟩
  intro env σ Hs H k env' hf I Q q
  refine WT.of (pt_chain op_le op_le (W.pe X a) (W.pe X b) (W.pe X c) hm) ?_
  unfold chnT at hf
  split at hf
  · rename_i i e1 h1
    split at hf
    · rename_i j e2 h2
      refine ha env σ Hs H _ e1 h1 I _ fun v Hs1 H1 g1 I1 r1 => ?_
      cases (show v = .int i from r1)
      refine hb e1 σ Hs1 H1 _ e2 h2 I1 _ fun u Hs2 H2 g2 I2 r2 => ?_
      cases (show u = .int j from r2)
      split at hf
      · rename_i hij
        split at hf
        · rename_i l e3 h3
          cases hf
          refine ⟨i, j, rfl, rfl, decide (i ≤ j), rfl, ?_⟩
          rw [if_pos (decide_eq_true hij)]
          refine hc e2 σ Hs2 H2 _ env' h3 I2 _ fun w Hs3 H3 g3 I3 r3 => ?_
          cases (show w = .int l from r3)
          exact ⟨j, l, rfl, rfl, _, rfl, q Hs3 H3 ((g1.trans g2).trans g3) I3⟩
        · cases hf
      · rename_i hij
        cases hf
        refine ⟨i, j, rfl, rfl, decide (i ≤ j), rfl, ?_⟩
        rw [if_neg (by rw [decide_eq_false hij]; decide)]
        exact ⟨false, rfl, q Hs2 H2 (g1.trans g2) I2⟩
    · cases hf
  · cases hf
end Ip

set_option Elab.async false
set_option linter.all false
set_option maxRecDepth 100000
set_option maxHeartbeats 4000000
/-! range(i, j, c) -/
namespace Ip
open PySem L2
variable [Old]
variable {X : Cx} {a b c e : Expr} {pos : Pos} {K : PySem.W.Frag} {Hs Hs' H H' : Hp} {σ σ' : L2.St} {env env' : MEnv}
def intsBy (lo c : Int) (n : Nat) : List PyData := (List.range n).map fun i => .int (lo + (i : Nat) * c)
theorem walk_rngC (lo c : Int) (n : Nat) : WalkD K (Itc lo c n) Hs (intsBy lo c n) := by
  unfold WalkD
  have hl : (intsBy lo c n).length = n := by unfold intsBy; simp
  rw [hl]
  refine Walk.mono (walk_rangeC (lo := lo) (c := c) (n := n)) (fun H _ => trivial) fun i H x H' hi hg y => ?_
  obtain ⟨rfl, rfl⟩ := y
  refine ⟨.int (lo + (i : Nat) * c), ?_, fun Hx h3 h4 σ env I => ⟨Hx, GoE.refl, I, rfl⟩⟩
  unfold intsBy
  rw [List.getElem?_map, List.getElem?_range hi]
  rfl
def rng3I (f : MEnv → Option (List PyData × MEnv)) : MEnv → Option (List PyData × MEnv) := fun env => match f env with
  | some ([.int i, .int j, .int c], e1) => if c ≠ 0 ∧ c.natAbs < 1073741824 ∧ Builtin.Range.small i j c = true ∧ 0 ≤ Builtin.Range.rangeSize i j c then some (intsBy i c (Builtin.Range.rangeSize i j c).toNat, e1) else none
  | _ => none
theorem si_rng3 {tg : Expr} {p : Pos} {f : MEnv → Option (List PyData × MEnv)} (hg : Gl X "range") (hm : X.mg "range" = none) (h : SA X [a, b, c] f) (hp : plainE a = true) (hp2 : plainE b = true) (hp3 : plainE c = true) : SI X tg (.Call (.Name "range" p) [a, b, c] [] pos) (rng3I f) := by
  refine ⟨?_⟩
  intro env σ Hs H ds env' hf I R q
  unfold rng3I at hf
  split at hf
  · rename_i i j k e1 h1
    split at hf
    · rename_i hc
      cases hf
      refine WI.of (pi_range3 hg hm (WA.pa X [a, b, c]) (by rw [star_plain hp, star_plain hp2, star_plain hp3]) (by rw [star_plain hp2, star_plain hp3]; first | rfl | skip)) ?_
      refine h env σ Hs H _ env' h1 I _ fun vs Hs1 H1 g1 I1 r1 => ?_
      obtain ⟨v, r, rfl, rfl, v2, r2, rfl, rfl, v3, r3, rfl, rfl, rfl⟩ := r1
      exact ⟨i, j, k, _, rfl, ⟨hc.1, hc.2.1, hc.2.2.1, (Int.toNat_of_nonneg hc.2.2.2).symm⟩, q _ Hs1 H1 g1 I1 (walk_rngC i k _)⟩
    · cases hf
  · cases hf
/-- a tuple times a number -/
def repTD : PyData → PyData → Option Slot
  | .tuple xs, .int k => if xs ≠ [] ∧ xs.length ≤ 1000 ∧ 2 ≤ k ∧ k ≤ 1000 then some (.val (.tuple (List.replicate k.toNat xs).flatten)) else none
  | _, _ => none
theorem repL_rep {ds : List PyData} {vs : List V} (h : RepL K H ds vs) : ∀ n : Nat, RepL K H (List.replicate n ds).flatten (List.replicate n vs).flatten
  | 0 => rfl
  | n + 1 => by
    rw [List.replicate_succ, List.replicate_succ, List.flatten_cons, List.flatten_cons]
    exact RepL.app h (repL_rep h n)
theorem ok_repT : R2ok X.K (rRepT X.K) repTD := by
  intro Hs H σ env x y v u s hs I hx hy Q q
  cases x <;> try (cases hs; done)
  cases y <;> try (cases hs; done)
  rename_i xs k
  unfold repTD at hs
  simp only at hs
  split at hs
  · rename_i hc
    cases hs
    obtain ⟨hc1, hc2, hc3, hc4⟩ := hc
    obtain ⟨p, vs, rfl, h1, h2⟩ := hx
    cases (show u = .int k from hy)
    have hlen := RepL.length h2
    refine ⟨p, k, vs, rfl, rfl, Evl.ex_t I.sh h1, fun z => hc1 (List.eq_nil_of_length_eq_zero (by rw [hlen, z]; rfl)), hc3, hc4, by omega, ok_newT (s := .val (.tuple (List.replicate k.toNat xs).flatten)) I rfl (repL_rep h2 k.toNat) q⟩
  · cases hs
end Ip

set_option Elab.async false
set_option linter.all false
set_option maxRecDepth 100000
set_option maxHeartbeats 4000000
/-! D.get(x), D a dict of the module with texts as keys -/
namespace L2
open PySem PySem.Spec PyProof.Rows
variable {X : Cx} {o e : Expr} {apos cpos : Pos} {td ty : TE}
def KDic (K : PySem.W.Frag) (w : World) (a : Addr) : Prop := ∃ es n, K.lookup a = some ⟨.type "dict", none, .dict es n, #[]⟩ ∧ PySem.W.KeysLit w.params es.toList ∧ (a == sysModules) = false
def tKGet (K : PySem.W.Frag) (w : World) (td ty : TE) : TE := fun σ H Q => td σ H fun x H1 => ∃ a, x = .ref a ∧ KDic K w a ∧ ty σ H1 fun y H2 => ∃ z, y = .str z ∧ ((PySem.W.nsIn K a z = some none ∧ Q .non H2) ∨ ∃ v u, PySem.W.nsIn K a z = some (some u) ∧ RelV v u ∧ Q v H2)
theorem pe_kget (ho : PE X o td) (he : PE X e ty) (m : M1 X o "get" apos e cpos) : PE X (.Call (.Attribute o "get" apos) [e] [] cpos) (tKGet X.K X.w td ty) := by
  refine ⟨fun pins s σ H Q I h => ?_⟩
  refine wpAny_Call_method m.base m.few m.line PySem.F.plainAttrs_dict PySem.F.slot_dict_get PySem.F.type_dict_get (thn (ho.run pins s σ H _ I h) fun u s1 ⟨x, H1, I1, rx, a, ex, ⟨es, n, hl, hk, low⟩, q1⟩ => ?_)
  subst ex
  obtain rfl : u = Value.ref a := rx
  have hm := PySem.W.mapOf_K (prog := X.prog) (w := X.w) I1.kIn hl hk
  refine ⟨hm.typeIs, fun b q => ?_, ?_⟩
  · cases q
    exact ⟨_, I1.kIn a _ hl, rfl⟩
  rw [m.trees]
  refine Calls.callWith_builtin rfl (Calls.evalArgs_plain (Calls.spliced_cons (thn (he.run pins s1 σ H1 _ I1 q1) fun iv s2 ⟨y, H2, I2, ry, z, ey, q2⟩ => Calls.spliced_nil ?_)))
  subst ey
  obtain ⟨t, rfl⟩ := (show ∃ t, iv = Value.str z t from ry)
  have hm2 := PySem.W.mapOf_K (prog := X.prog) (w := X.w) I2.kIn hl hk
  refine call_meetsIn PySem.F.slot_dict_get hm2.typeIs PySem.F.entry_dict_get (PySem.F.args_dict_get_2 _ _) (meets_dict_get (strKind X.prog X.w) a (strKind_is X.prog X.w z t) low) ⟨_, hm2, ?_⟩
  rcases q2 with ⟨hn, q2⟩ | ⟨v, u, hn, rv, q2⟩
  · rw [PySem.W.find_K hl hn]
    exact ⟨.non, H2, I2.tok _, rfl, q2⟩
  · rw [PySem.W.find_K hl hn]
    exact ⟨v, H2, I2.tok _, rv, q2⟩
end L2

set_option Elab.async false
set_option linter.all false
set_option maxRecDepth 100000
set_option maxHeartbeats 4000000
/-! keywords for own calls; reversed(range(..)); range of three -/
namespace Ip
open PySem L2
open PyProof.Rows hiding St
open Evl (Ex sz_of fresh_back)
variable [Old]
variable {X : Cx} {a b e o : Expr} {pos : Pos} {K : PySem.W.Frag} {Hs Hs' H H' : Hp} {σ : L2.St} {env env' : MEnv}
def WK (X : Cx) (kws : List Keyword) : L2.TA := fun σ H Q => ∀ pos pins s, L2.Inv X pins σ H s → wpAny (model X.prog X.w) X.A (evalAll ((backToKw pos (keywordEach kws X.env)).map (·.2))) (AP X pins σ Q) X.xe s
theorem WK.pk (X : Cx) (kws : List Keyword) : PK X kws (WK X kws) := ⟨fun pos pins s σ H Q I h => h pos pins s I⟩
theorem WK.of {X : Cx} {kws : List Keyword} {t : L2.TA} (h : PK X kws t) {σ : St} {H : Hp} {Q : List V → Hp → Prop} (ht : t σ H Q) : WK X kws σ H Q := fun pos pins s I => h.run pos pins s σ H Q I ht
structure SK (X : Cx) (kws : List Keyword) (f : MEnv → Option (List PyData × MEnv)) : Prop where
  run : ∀ (env : MEnv) (σ : L2.St) (Hs H : Hp) (ds : List PyData) (env' : MEnv), f env = some (ds, env') → InvS X.K Hs H σ env → ∀ Q : List V → Hp → Prop, (∀ vs Hs' H', GoE σ env Hs H env' Hs' H' → InvS X.K Hs' H' σ env' → RepL X.K Hs' ds vs → Q vs H') → WK X kws σ H Q
theorem sk_nil : SK X [] (fun env => some ([], env)) := .mk fun env σ Hs H ds env' hf I Q q => by
  cases hf
  exact WK.of pk_nil (q [] Hs H GoE.refl I rfl)
theorem sk_cons {nm : Option Str} {kpos : Pos} {kws : List Keyword} {fe : MEnv → Option (PyData × MEnv)} {fs : MEnv → Option (List PyData × MEnv)} (h : SV X e fe) (hs : SK X kws fs) : SK X (⟨nm, e, kpos⟩ :: kws) (consA fe fs) := by
  refine ⟨?_⟩
  intro env σ Hs H ds env' hf I Q q
  unfold consA at hf
  split at hf
  · rename_i d e1 h1
    split at hf
    · rename_i ds2 e2 h2
      cases hf
      refine WK.of (pk_cons (W.pe X e) (WK.pk X kws)) ?_
      refine h env σ Hs H d e1 h1 I _ fun v Hs1 H1 g1 I1 r1 => ?_
      exact hs.run e1 σ Hs1 H1 ds2 env' h2 I1 _ fun vs Hs2 H2 g2 I2 r2 => q (v :: vs) Hs2 H2 (g1.trans g2) I2 ⟨v, vs, rfl, Rep.mono g2.sh d v r1, r2⟩
    · cases hf
  · cases hf
/-- positional arguments, then keywords -/
def appA (m : Nat) (fs gs : MEnv → Option (List PyData × MEnv)) : MEnv → Option (List PyData × MEnv) := fun env => match fs env with
  | some (ds, e1) => if ds.length = m then match gs e1 with
      | some (es, e2) => some (ds ++ es, e2)
      | none => none
    else none
  | none => none
/-- what a call with plain data asks -/
theorem sp_call {n : Nat} {run : Run} {ds : List PyData} {r : Slot} {args' : List Slot} {vs : List V} {Hs1 H1 Hs0 H0 : Hp} {env0 : MEnv} (hl : ds.length = n) (hr : run (ds.map .val) = some (r, args')) (g1 : GoE σ env0 Hs0 H0 env' Hs1 H1) (I1 : InvS K Hs1 H1 σ env') (r1 : RepL K Hs1 ds vs) {Q : VK}
    (q : ∀ v Hs' H', GoE σ env0 Hs0 H0 env' Hs' H' → InvS K Hs' H' σ env' → RepR K H0 Hs' H' r v → Q v H') (E : XK) : spF K n run vs H1 Q E := by
  have nomut : ∀ a, ¬ MutAt (vs.map some) (ds.map .val) a := fun a ⟨i, s, xs, e1, e2, _⟩ => by
    obtain ⟨d, _, rfl⟩ := map_val_some e1
    cases e2
  have noloc : ∀ a, ¬ LocAt (vs.map some) (ds.map .val) a := fun a m => nomut a m.mut
  refine ⟨inferInstance, ds.map .val, Hs1, r, args', by rw [List.length_map]; exact hl, by simp [argOk], hr, ⟨by rw [List.length_map, List.length_map, RepL.length r1], I1.sh, fun i d h => ?_, fun i s xs h hm => ?_, fun i j s t xs ys p h1 m1 _ _ _ _ => ?_, ⟨I1.old.1, fun a m => absurd m (nomut a)⟩⟩, fun v Hs' H' g I' rr => ?_⟩
  · obtain ⟨d', hd, e⟩ := map_val_some h
    cases e
    obtain ⟨w, k1, k2⟩ := RepL.get r1 hd
    exact ⟨w, by rw [List.getElem?_map, k1]; rfl, k2⟩
  · obtain ⟨d', _, rfl⟩ := map_val_some h
    cases hm
  · obtain ⟨d', _, rfl⟩ := map_val_some h1
    cases m1
  · have back : ∀ p o, H1 p = some o → Hs1 p = none → Hs' p = none := fun p o hp hn => by
      cases z : Hs' p with
      | none => rfl
      | some u =>
        rcases g.nw p u z with z1 | z1 | z1
        · rw [hn] at z1; cases z1
        · rw [hp] at z1; cases z1
        · exact absurd z1 (noloc p)
    have ge : GoE σ env' Hs1 H1 env' Hs' H' := ⟨g.sh, fun a o h _ => g.kp a o h (nomut a), g.dm, fun a o h => (g.nw a o h).elim .inl fun z => z.elim (fun z => .inr (.inl z)) fun z => absurd z (noloc a), fun _ h => h, fun _ h => h, fun _ xs h => ⟨xs, h⟩⟩
    refine q v Hs' H' (g1.trans ge) ⟨I1.len, I'.sh, fun i d h => ?_, fun i s xs h hm => ?_, I1.diff, ⟨I'.old.1, I1.old.2⟩⟩ (RepR.mono (fun p hp => g1.none_back hp) rr)
    · obtain ⟨w, k1, k2⟩ := I1.vals i d h
      exact ⟨w, k1, Rep.mono g.sh d w k2⟩
    · obtain ⟨p, us, k1, k2, k3, k4⟩ := I1.muts i s xs h hm
      exact ⟨p, us, k1, back p _ k3 k2, g.kp p _ k3 (nomut p), RepL.mono g.sh xs us k4⟩
def kwG (m n : Nat) (us ws : List Value) : List Value := if us.length = m ∧ ws.length = n then us ++ ws else []
def kwV (m n : Nat) (vs zs : List V) : List V := if vs.length = m ∧ zs.length = n then vs ++ zs else []
theorem kw_rel {m n : Nat} {vs : List V} {us : List Value} {zs : List V} {ws : List Value} (h : Vals vs us) (g : Vals zs ws) : Vals (kwV m n vs zs) (kwG m n us ws) := by
  unfold kwV kwG
  rw [h.length, g.length]
  split
  · exact h.append g
  · exact .nil
theorem kw_to {m n : Nat} {us ws : List Value} {ps ks : List Str} {s : Shared} {fd : FuncData} (hl : (kwG m n us ws).length = ps.length) (h : ∀ us ws : List Value, us.length = m → ws.length = n → BindsTo s fd ⟨us, ks.zip ws⟩ (ps.zip (us ++ ws))) (h0 : ps.length ≠ 0) : BindsTo s fd ⟨us, ks.zip ws⟩ (ps.zip (kwG m n us ws)) := by
  unfold kwG at *
  split
  · rename_i c
    exact h us ws c.1 c.2
  · rename_i c
    rw [if_neg c] at hl
    exact absurd hl.symm h0
theorem fun_kbinds {x qual : Str} {st : Stmt} {f : Addr} {fd : FuncData} {ps ks : List Str} {m n : Nat} (F : Fun K x qual st f fd) (h0 : ps.length ≠ 0)
    (h : ∀ (kV doc pm : Value) (an : Option Addr) (cdv ct : Value) (us ws : List Value), us.length = m → ws.length = n → bindArgs (PySem.W.fnOf x qual (defArgs st) (defBody st) (defScope st) .none kV doc pm an cdv ct) ⟨us, ks.zip ws⟩ = pure (ps.zip (us ++ ws))) : KBinds K fd ps ks (kwG m n) (kwV m n) := by
  obtain ⟨oc, od, kV, doc, pm, an, cdv, ct, osl, rfl, lk, hcd⟩ := F.ex
  exact ⟨fun s us ws _ hl => kw_to hl (fun us ws h1 h2 => .of_eq (h kV doc pm an cdv ct us ws h1 h2)) h0, fun h g => kw_rel h g⟩
theorem run_goK {k : Nat} {f : Addr} {fd : FuncData} {ps ks : List Str} {g : List Value → List Value → List Value} {gV : List V → List V → List V} {sp : Sp} {pins : List (Addr × Obj)} {s : Shared} {Q : VK} {us ws : List Value} {vs zs : List V} (F : FnG X.prog X.w X.K X.mg X.base k f fd ps sp)
    (hG : X.A.guards = some []) (hr : Room k X.A) (hb : KBinds X.K fd ps ks g gV) (I : L2.Inv X pins σ H s) (r : Vals vs us) (rz : Vals zs ws) (h : sp (gV vs zs) H Q E0) : wpAny (model X.prog X.w) X.A (call (.ref f) us (ks.zip ws)) (EP X pins σ Q) X.xe s := by
  have r2 := hb.rel r rz
  have len : (g us ws).length = ps.length := by rw [← r2.length]; exact F.cnt _ _ _ _ h
  apply wpAny_call
  refine codeAny_mono (F.go hG hr I.env0 (hb.to s us ws I.kIn len) r2 h) ?_
  intro fl t z
  match fl, z with
  | .ok (.ret u), z => exact I.after z
  | .ok .next, z => exact z.elim
  | .ok .brk, z => exact z.elim
  | .ok .cont, z => exact z.elim
  | .error _, z => exact z.elim
theorem pe_goK {k : Nat} {f : Addr} {fd : FuncData} {ps ks : List Str} {g : List Value → List Value → List Value} {gV : List V → List V → List V} {sp : Sp} {x : Str} {p : Pos} {es : List Expr} {kws : List Keyword} {t tk : L2.TA} (F : FnG X.prog X.w X.K X.mg X.base k f fd ps sp) (hG : X.A.guards = some []) (hr : Room k X.A) (hg : Gl X x)
    (hm : X.mg x = some (.ref f)) (hk : PySem.W.keepIn X.K (.ref f) = true) (hb : KBinds X.K fd ps ks g gV) (ha : PA X (e :: es) t) (hkw : PK X kws tk) (hall : (backToKw pos (keywordEach kws X.env)).all (·.1.isSome) = true) (hks : (backToKw pos (keywordEach kws X.env)).filterMap (·.1) = ks)
    (hd : (x == ("__debug__" : Str)) = false) (h0 : starEach (e :: es) X.env = (false, eval e X.env) :: starEach es X.env) (hpl : ((backTo pos (starEach (e :: es) X.env)).any (·.1) || (backToKw pos (keywordEach kws X.env)).any (·.1.isNone)) = false) : PE X (.Call (.Name x p) (e :: es) kws pos) (tCallK sp gV E0 t tk) := by
  refine ⟨fun pins s σ H Q I h => ?_⟩
  refine wpAny_Call_Name_kw (ld_glob I hg hm ?_ hd)
  refine PySem.W.callWith_KW (h₀ := X.base) I.ok.mod.kin hk hall (thn (ha.run pos pins s σ H _ I h) fun us s1 ⟨vs, H1, I1, r, q⟩ => ?_) hpl h0
  refine thn (hkw.run pos pins s1 σ H1 _ I1 q) fun ws s2 ⟨zs, H2, I2, rz, q2⟩ => ⟨I2.kIn, ?_⟩
  rw [hks]
  exact run_goK F hG hr hb I2 r rz q2
/-- f, a def of the text with parameters that only keywords name, keeps the promise -/
structure OwnK (P : Program) (w : World) (K : PySem.W.Frag) (mg : Str → Option Value) (base : Heap) (k : Nat) (x : Str) (m n : Nat) (ks : List Str) (run : Run) where
  f : Addr
  fd : FuncData
  ps : List Str
  ok : FnG P w K mg base k f fd ps (spF K (m + n) run)
  at_ : mg x = some (.ref f)
  kp : PySem.W.keepIn K (.ref f) = true
  kb : KBinds K fd ps ks (kwG m n) (kwV m n)
theorem se_goK {k m n : Nat} {ks : List Str} {run : Run} {x : Str} {p : Pos} {es : List Expr} {kws : List Keyword} {fs gs : MEnv → Option (List PyData × MEnv)} (o : OwnK X.prog X.w X.K X.mg X.base k x m n ks run) (hG : X.A.guards = some []) (hr : Room k X.A) (hg : Gl X x) (ha : SA X (e :: es) fs) (hkw : SK X kws gs)
    (hp : (e :: es).all plainE = true) (hall : (backToKw pos (keywordEach kws X.env)).all (·.1.isSome) = true) (hks : (backToKw pos (keywordEach kws X.env)).filterMap (·.1) = ks) (hno : (backToKw pos (keywordEach kws X.env)).any (·.1.isNone) = false) (hd : (x == ("__debug__" : Str)) = false) : SE X (.Call (.Name x p) (e :: es) kws pos) (callF (m + n) run (appA m fs gs)) := by
  refine ⟨?_⟩
  intro env σ Hs H r env' hf I Q q
  have hp2 := hp
  rw [List.all_cons, Bool.and_eq_true] at hp
  refine W.of (pe_goK o.ok hG hr hg o.at_ o.kp o.kb (WA.pa X (e :: es)) (WK.pk X kws) hall hks hd (star_plain hp.1) (by rw [star_any hp2, hno]; rfl)) ?_
  unfold callF at hf
  split at hf
  · rename_i ds e1 h1
    split at hf
    · rename_i hl
      split at hf
      · rename_i r0 args' hr
        cases hf
        unfold appA at h1
        split at h1
        · rename_i d1 e2 h2
          split at h1
          · rename_i hm
            split at h1
            · rename_i d2 e3 h3
              cases h1
              refine ha env σ Hs H d1 e2 h2 I _ fun vs Hs1 H1 g1 I1 r1 => ?_
              refine hkw.run e2 σ Hs1 H1 d2 env' h3 I1 _ fun zs Hs2 H2 g2 I2 r2 => ?_
              have lv : vs.length = m := by rw [← RepL.length r1]; exact hm
              have lz : zs.length = n := by
                rw [← RepL.length r2]
                rw [List.length_append] at hl
                omega
              show spF X.K (m + n) run (kwV m n vs zs) H2 Q E0
              unfold kwV
              rw [if_pos ⟨lv, lz⟩]
              exact sp_call hl hr (g1.trans g2) I2 (RepL.app (RepL.mono g2.sh d1 vs r1) r2) q E0
            · cases h1
          · cases h1
        · cases h1
      · cases hf
    · cases hf
  · cases hf
end Ip

set_option Elab.async false
set_option linter.all false
set_option maxRecDepth 100000
set_option maxHeartbeats 4000000
/-! what the hand layer lacks of errors with fields -/
namespace Ip
open PySem L2 PySem.W PySem.Calls PyProof.Rows
section
variable {prog : Program} {w : World} {A : Around} {E : Value → Shared → Prop} {s : Shared} {K : Frag} {x D : Addr} {ox : Obj}
theorem find_cls {C : Addr} {n : Str} {a g : Value} {od : Option Obj} (hc : (clsIn K C).isSome = true) (ha : findIn K (.ref C) n = some (some a))
    (hg : specialIn K a "__get__" = some (some g)) (ht : takesIn K a = some true) : findObj K C od n = some (.bind g a) := by
  obtain ⟨cd, hc⟩ := Option.isSome_iff_exists.mp hc
  unfold findObj
  rw [hc, Option.bind_some, ha, Option.bind_some]
  simp [hg, ht]
theorem class_of_exc {od : Option Obj} {Q : Option Value → Shared → Prop} (c : ExcC K D) (X : K.In s.heap) (I : W.InstAt s.heap x ox D od) (h : Q (some (.ref D)) { s with toks := s.toks + 1 }) :
    wpAny (model prog w) A (getAttr? (.ref x) "__class__") Q E s := by
  have hcs : (clsIn K D).isSome = true := by
    obtain ⟨cd, hc, _⟩ := any_some c.hd
    rw [hc]
    rfl
  have hf := find_cls (n := "__class__") (od := od) hcs c.ha c.hn c.ht
  obtain ⟨hp, g, d, t, os⟩ := s
  have L0 := I.type (M := model prog w)
  have L3 := looks_find (M := model prog w) X I hf
  have sub : Looks (model prog w) hp (isInstance (.ref x) (.type "BaseException")) true := L0.andThen (looks_subIn X c.hs)
  have ne : (Value.builtin "BaseException.__getattribute__" == Value.builtin "object.__getattribute__") = false := by decide +kernel
  have ne2 : (onTheHeap (Value.ref D) && Value.builtin "BaseException.__getattribute__" == Value.builtin "object.__getattribute__") = false := by rw [ne]; rfl
  unfold getAttr? getAttrBy? getAttrBy
  refine wpAny_bind (wpAny_mkText (wpAny_bind (wpAny_attempt (wpAny_holding (wpAny_bind (L0.at (wpAny_bind ((looks_findIn (M := model prog w) X c.hg).at ?_))))))))
  show wpAny _ _ (if (onTheHeap (Value.ref D) && Value.builtin "BaseException.__getattribute__" == Value.builtin "object.__getattribute__") = true then _ else _) _ _ _
  rw [ne2, if_neg Bool.false_ne_true]
  unfold getAttrByItsOwn hookBefore
  refine wpAny_bind ?_
  rw [if_pos (show onTheHeap (Value.ref D) = true from rfl)]
  refine (looks_findIn (M := model prog w) X c.hk).at (wpAny_bind (wpAny_attempt (wpAny_holding ?_)))
  unfold callGetattribute
  rw [show (false && onTheHeap (Value.builtin "BaseException.__getattribute__")) = false from rfl, if_neg Bool.false_ne_true]
  unfold boundAndCalled
  rw [PySem.F.excAttr_ValueError.ga.bind (.ref x)]
  refine wpAny_bind (wpAny_pure ?_)
  show wpAny _ _ (call (.builtin "BaseException.__getattribute__") [.ref x, .str "__class__" t]) _ _ _
  refine wpAny_call (codeAny_call_builtin PySem.F.excAttr_ValueError.ga.plain PySem.F.entry_bexc_ga
    (@check_slot (model prog w) _ _ ⟨hp, g, d, t + 1, os⟩ "BaseException.__getattribute__" "BaseException" "__getattribute__" (.ref x) [.str "__class__" t] [] _
      (by decide +kernel) (by decide +kernel) sub (PySem.F.args_bexc_ga (.ref x) (.str "__class__" t)) ?_))
  unfold Builtin.«object.__getattribute__»
  refine wpAny_bind (wpAny_of_eq (a := ((Value.ref x : Value), [Value.str "__class__" t])) (by first | rfl | (simp only [slotArgs]; rfl)) ?_)
  refine wpAny_bind (wpAny_pure (wpAny_bind (L0.at (wpAny_bind (L3.at ?_)))))
  show wpAny _ _ (holding [Value.builtin "object.__class__"] (call (.builtin "getset_descriptor.__get__") [.builtin "object.__class__", .ref x, .ref D]) >>= ret) _ _ _
  refine wpAny_bind (wpAny_holding (wpAny_call (class_get (s := ⟨hp, g, d, t + 1, os⟩) (ox := ox) (od := od) X I c.hm (wpAny_pure ?_))))
  show wpAny _ _ (handedOut (.ref D)) _ _ _
  rw [handedOut_of (v := .ref D) rfl]
  first
    | exact wpAny_pure (wpAny_pure h)
    | exact wpAny_pure h
    | exact wpAny_pure (wpAny_bind (wpAny_pure (wpAny_pure h)))
theorem kitx_exc (c : ExcC K D) : KitX K (.ref x) (.ref D) (fun h => ∃ od, W.InstAt h x ox D od) where
  ty := fun _ _ _ ⟨_, I⟩ => I.type
  it := fun _ _ X _ => by
    obtain ⟨cd, hc, _⟩ := any_some c.hd
    unfold clsIn at hc
    split at hc
    · rename_i ho
      intro A' Q' E' s' k q
      unfold isType loadHead
      exact wpAny_bind (wpAny_loadPart (k _ _ (X _ _ ho)) (wpAny_pure q))
    · cases hc
  ne := fun h tp dd its n sl X htp => by
    obtain ⟨cd, hc, _⟩ := any_some c.hd
    refine Bool.eq_false_iff.mpr fun q => ?_
    have e : D = tp := Value.ref.inj (beq_iff_eq.mp q)
    subst e
    unfold clsIn at hc
    split at hc
    · rename_i ho
      cases (X _ _ ho).symm.trans htp
    · cases hc
  ca := fun X ⟨_, I⟩ k => class_of_exc c X I k
end
/-! ### C(e, ..), C with an own __init__ -/
open L2
section
variable {X : Cx} {CX : CXT} {x : Str} {C fI : Addr} {k : Nat} {fd : FuncData} {ps : List Str} {sp : Sp} {e : Expr} {es : List Expr} {ta : L2.TA} {p pos : Pos}
theorem pmk_init (T : OexC X.K C) (iC : PySem.W.findIn X.K (.ref C) "__init__" = some (some (.ref fI))) (tI : PySem.W.typeIn X.K (.ref fI) = some (.type "function"))
    (F1 : FnOk X.prog X.w X.K X.mg X.base CX k fI fd ps sp) (hr : Room (k + 1) X.A) (hb : Binds X.K fd ps []) (hx : Passes CX X (fun _ _ _ => False)) (hg : Gl X x) (hm : X.mg x = some (.ref C)) (ha : PA X (e :: es) ta)
    (hdb : (x == ("__debug__" : Str)) = false) (he : starEach (e :: es) X.env = (false, eval e X.env) :: starEach es X.env) (hpl : (backTo pos (starEach es X.env)).any (·.1) = false) :
    L2N.PMk X (.Call (.Name x p) (e :: es) [] pos) (tMkO C sp [] ta) := by
  intro pins s σ H Q I h
  obtain ⟨nm, q, N, bs, bm, sn, sub, ab, col, dd, k0, k1, k2, k3, k5, hC, hbm⟩ := T.cls
  refine wpAny_Call_Name_kw (ld_glob I hg hm ?_ hdb)
  refine PySem.W.callWith_K (h₀ := X.base) I.ok.mod.kin T.kC (thn (ha.run pos pins s σ H _ I h) fun us s1 ⟨vs, H1, I1, r1, hz, q1⟩ => ⟨I1.kIn, ?_⟩) he hpl
  show wpAny _ _ (call (.ref C) us) _ _ _
  obtain ⟨hp, g, dr, tk, os⟩ := s1
  obtain ⟨a, ea⟩ : ∃ a, a = hp.objs.size + 1 := ⟨_, rfl⟩
  have hsz : hp.objs.size ≤ a := by omega
  have hn : H1 a = none := I1.hok.fresh hsz
  have hq := q1 a hn
  rw [List.append_nil] at hq
  have kk : ∀ b o, hp.get? b = some o → ((hp.push (PySem.W.kdv_tup us)).push (PySem.HandSPX.excO C hp.objs.size)).get? b = some o := fun b o z => Heap.get?_push_of_some _ (Heap.get?_push_of_some _ z)
  have hget : ((hp.push (PySem.W.kdv_tup us)).push (PySem.HandSPX.excO C hp.objs.size)).get? a = some (PySem.HandSPX.excO C hp.objs.size) := by subst ea; heap_get
  have I2 := I1.laid (t' := tk) (a := a) (o := exo a C none) (h' := (hp.push (PySem.W.kdv_tup us)).push (PySem.HandSPX.excO C hp.objs.size)) kk hsz (exo_ok hget)
  have r2 : Vals (V.ref a :: vs) (Value.ref a :: us) := .cons rfl r1
  have hl : (Value.ref a :: us).length = ps.length := by
    have z := r2.length
    rw [F1.len _ _ _ _ hq] at z
    exact z.symm
  have hus : us.length ≤ sizeLine := by rw [← Paired.length r1, sizeLine_eq]; omega
  have b2 := hb _ (Value.ref a :: us) I2.kIn (by rw [List.append_nil]; exact hl)
  rw [List.append_nil] at b2
  subst ea
  refine wpAny_call (PySem.HandSPX.call_own F.excBase_ValueError (fun Y => PySem.HandSPX.refsVE_contains Y bm hbm) (I1.kIn _ _ hC) (PySem.W.looks_findIn I1.kIn iC) (fun self => PySem.W.bind_fn I1.kIn self tI) hus
    (codeAny_mono (F1.run _ X.stack _ _ _ (Value.ref (hp.objs.size + 1) :: us) _ _ (fun _ _ _ => False) (hr.make C us []) (I2.env0.make C us []) b2 r2 hq) fun r s' z => ?_))
  match r, z with
  | .error er, z => exact hx pins σ _ _ er s' I2 z
  | .ok (.ret u), z =>
    obtain ⟨v, H2, os2, bare2, un2, hok2, rv, ev, d, fs, ea, ed, hd1, q2⟩ := z
    subst ev
    obtain ⟨h2, g2, d2, t2, os'⟩ := s'
    obtain ⟨t0, G, J, kG, ge, hoe, na⟩ := mk_end0 (d2 := d2) (t2 := t2) I1 hsz kk un2 hok2 os2 bare2 ea ed hd1
    exact ⟨rv, _, _, _, ⟨G, g2, d2, t2, os'⟩, _, .ref C, some d, rfl, J, kG, ge, hoe, ⟨rfl, rfl, fun vs hv => by cases hv; rfl⟩, rfl, rfl, na, rfl, bare2, raises_own T.exC T.tyC, q2⟩
  | .ok .next, z => exact z.elim
  | .ok .brk, z => exact z.elim
  | .ok .cont, z => exact z.elim
end
/-! ### e.f of the error that is held -/
theorem pe_xfP {X : Cx} {a C : Addr} {oe : Obj} {cls : Value} {d : Option Addr} {e : Expr} {te : TE} {pos : Pos} {n : Str} (hpn : (a, oe) ∈ X.pn) (T : XfC X.K C) (hno : PySem.W.findIn X.K (.ref C) n = some none)
    (hz : Zc cls d oe) (hf : ∃ vs, oe.data = .fields vs) (he : PE X e te) (hb : attributeBase e n X.env (eval e X.env) = eval e X.env) : PE X (.Attribute e n pos) (tXf a cls d C n te) := by
  refine ⟨fun pins s σ H Q I h => attr_of hb (thn (he.run pins s σ H _ I h) fun u s1 hh => ?_)⟩
  obtain ⟨x, H1, I1, rx, ex, ec, dd, fs, v, ed, ea, l, q⟩ := hh
  subst ex ec ed
  obtain rfl : u = Value.ref a := rx
  obtain ⟨vs, hd⟩ := hf
  obtain ⟨mA, hns, hr⟩ := (show ObjOk X.prog X.w H1 s1.heap dd (.xd fs) from I1.hok dd _ ea)
  obtain ⟨od, ho, hl⟩ := lookIn_ns hns
  obtain ⟨u, hu, ru⟩ := RelO.some_of (v := v) (o := mA n) (by rw [← l]; exact hr n)
  have J : PySem.W.InstAt s1.heap a oe C (some od) := ⟨(I1.pin (a, oe) (List.mem_append_left _ hpn)).1, hz.1, by unfold PySem.W.notCls; rw [hd] <;> rfl, by rw [hz.2]; exact ho⟩
  exact HandSPX.exc_get I1.kIn J T.ga T.gg T.exC (PySem.W.findObj_own T.hdC hno rfl (by rw [hl, hu])) (handed_of ru) ⟨v, H1, I1.tok _, ru, q⟩
end Ip

set_option Elab.async false
set_option linter.all false
set_option maxRecDepth 100000
set_option maxHeartbeats 4000000
/-! errors: what a statement raises, what a def lets out -/
namespace Ip
open PySem L2
open Evl (Ex sz_of fresh_back)
/-- an error: the name of its class, its fields -/
structure Err where
  cls : Str
  fs : List (Str × Int) := []
def RepE (mg : Str → Option Value) (H : Hp) (x : Err) (cls : Value) (d : Option Addr) : Prop :=
  ∃ C : Addr, mg x.cls = some (.ref C) ∧ cls = .ref C ∧ ((x.fs = [] ∧ d = none) ∨ ∃ dd, x.fs ≠ [] ∧ d = some dd ∧ H dd = some (.xd (x.fs.map fun p => (p.1, V.int p.2))))
inductive OutX where
  | o (o : Out)
  | rs (x : Err) (env : MEnv)
variable [Old]
variable {X : Cx} {a b e : Expr} {pos : Pos} {K : PySem.W.Frag} {Hs Hs' H H' : Hp} {σ : L2.St} {env env' : MEnv} {mg : Str → Option Value}
def EndsX (mg : Str → Option Value) (K : PySem.W.Frag) (σ : L2.St) (env : MEnv) (Hs H : Hp) (o : OutX) (D : Ends) (Wr : WX) : Prop := match o with
  | .o o => EndsOk K σ env Hs H o D
  | .rs x e => ∀ cls d σ' Hs' H', Go σ env Hs H σ' e Hs' H' → InvS K Hs' H' σ' e → RepE mg Hs' x cls d → Wr cls d σ' H'
theorem EndsX.step {σ0 : L2.St} {env0 : MEnv} {Hs0 H0 : Hp} (g : Go σ0 env0 Hs0 H0 σ env Hs H) {o : OutX} {D : Ends} {Wr : WX} (h : EndsX mg K σ0 env0 Hs0 H0 o D Wr) : EndsX mg K σ env Hs H o D Wr := by
  cases o with
  | o o => exact EndsOk.step g h
  | rs x e => exact fun cls d σ' Hs' H' g' I' r => h cls d σ' Hs' H' (g.trans g') I' r
structure XS (X : Cx) (st : Stmt) (f : MEnv → Option OutX) : Prop where
  run : ∀ (Wr : WX), L2N.Takes X Wr → ∀ (env : MEnv) (σ : L2.St) (Hs H : Hp) (o : OutX), f env = some o → InvS X.K Hs H σ env → ∀ D : Ends, EndsX X.mg X.K σ env Hs H o D Wr → WS X st D σ H
structure XB (X : Cx) (sts : List Stmt) (f : MEnv → Option OutX) : Prop where
  run : ∀ (Wr : WX), L2N.Takes X Wr → ∀ (env : MEnv) (σ : L2.St) (Hs H : Hp) (o : OutX), f env = some o → InvS X.K Hs H σ env → ∀ D : Ends, EndsX X.mg X.K σ env Hs H o D Wr → WSs X sts D σ H
/-- a statement that raises nothing -/
def okX (f : MEnv → Option Out) : MEnv → Option OutX := fun env => match f env with
  | some o => some (.o o)
  | none => none
theorem xs_of {st : Stmt} {f : MEnv → Option Out} (h : SS X st f) : XS X st (okX f) := by
  refine ⟨?_⟩
  intro Wr tk env σ Hs H o hf I D q
  unfold okX at hf
  split at hf
  · rename_i o' h1
    cases hf
    exact h env σ Hs H o' h1 I D q
  · cases hf
def nilX : MEnv → Option OutX := fun env => some (.o (.nx env))
def seqX (f fs : MEnv → Option OutX) : MEnv → Option OutX := fun env => match f env with
  | some (.o (.nx e1)) => fs e1
  | some (.o (.rt r e1)) => some (.o (.rt r e1))
  | some (.o (.bk e1)) => some (.o (.bk e1))
  | some (.o (.ct e1)) => some (.o (.ct e1))
  | some (.rs x e1) => some (.rs x e1)
  | none => none
theorem xb_nil : XB X [] nilX := .mk fun Wr tk env σ Hs H o hf I D h => by
  cases hf
  exact WSs.of pss_nil (h σ Hs H Go.refl I)
theorem xb_cons {st : Stmt} {sts : List Stmt} {f fs : MEnv → Option OutX} (h : XS X st f) (hs : XB X sts fs) : XB X (st :: sts) (seqX f fs) := by
  refine ⟨?_⟩
  intro Wr tk env σ Hs H o hf I D q
  refine WSs.of (pss_cons (WS.ps X st) (WSs.ps X sts)) ?_
  unfold seqX at hf
  split at hf
  · rename_i e1 h1
    exact h.run Wr tk env σ Hs H _ h1 I _ fun σ1 Hs1 H1 g1 I1 => hs.run Wr tk e1 σ1 Hs1 H1 o hf I1 D (q.step g1)
  · rename_i r e1 h1
    cases hf
    exact h.run Wr tk env σ Hs H _ h1 I _ q
  · rename_i e1 h1
    cases hf
    exact h.run Wr tk env σ Hs H _ h1 I _ q
  · rename_i e1 h1
    cases hf
    exact h.run Wr tk env σ Hs H _ h1 I _ q
  · rename_i x e1 h1
    cases hf
    exact h.run Wr tk env σ Hs H _ h1 I _ q
  · cases hf
def ifX (ft : MEnv → Option (Bool × MEnv)) (fa fb : MEnv → Option OutX) : MEnv → Option OutX := fun env => match ft env with
  | some (true, e1) => fa e1
  | some (false, e1) => fb e1
  | none => none
theorem xs_if {t : Expr} {sa sb : List Stmt} {ft : MEnv → Option (Bool × MEnv)} {fa fb : MEnv → Option OutX} (ht : ST X t ft) (ha : XB X sa fa) (hb : XB X sb fb) : XS X (.If t sa sb pos) (ifX ft fa fb) := by
  refine ⟨?_⟩
  intro Wr tk env σ Hs H o hf I D q
  refine WS.of (ps_if (WT.pt X t) (WSs.ps X sa) (WSs.ps X sb)) ?_
  unfold ifX at hf
  split at hf
  · rename_i e1 h1
    refine ht env σ Hs H _ e1 h1 I _ fun Hs1 H1 g1 I1 => iteT ?_
    exact ha.run Wr tk e1 σ Hs1 H1 o hf I1 D (q.step g1.go)
  · rename_i e1 h1
    refine ht env σ Hs H _ e1 h1 I _ fun Hs1 H1 g1 I1 => iteF ?_
    exact hb.run Wr tk e1 σ Hs1 H1 o hf I1 D (q.step g1.go)
  · cases hf
def forLoopX (fg : PyData → MEnv → Option MEnv) (fb : MEnv → Option OutX) : List PyData → MEnv → Option OutX
  | [], env => some (.o (.nx env))
  | d :: ds, env => match fg d env with
    | some e1 => match fb e1 with
      | some (.o (.nx e2)) => forLoopX fg fb ds e2
      | some (.o (.ct e2)) => forLoopX fg fb ds e2
      | some (.o (.bk e2)) => some (.o (.nx e2))
      | some (.o (.rt r e2)) => some (.o (.rt r e2))
      | some (.rs x e2) => some (.rs x e2)
      | none => none
    | none => none
def forX (fi : MEnv → Option (List PyData × MEnv)) (fg : PyData → MEnv → Option MEnv) (fb : MEnv → Option OutX) : MEnv → Option OutX := fun env => match fi env with
  | some (ds, e1) => forLoopX fg fb ds e1
  | none => none
theorem xs_for {tg iter : Expr} {body : List Stmt} {ix : List Nat} {fi : MEnv → Option (List PyData × MEnv)} {fg : PyData → MEnv → Option MEnv} {fb : MEnv → Option OutX} (hi : SI X tg iter fi) (hg : SG X tg ix fg) (hb : XB X body fb)
    (hp : PassesOwn (model X.prog X.w) X.A X.env X.xe) (hc : X.calm = true) (hs : ∀ x, foldedSetIterable iter X.env x = pure x) : XS X (.For tg iter body [] pos) (forX fi fg fb) := by
  refine ⟨?_⟩
  intro Wr tk env σ Hs H o hf I D q
  unfold forX at hf
  split at hf
  · rename_i ds e1 h1
    refine WS.of (ps_for hp hc (WI.pi X tg iter) (WG.pg X tg) (WSs.ps X body) hs) ?_
    refine hi env σ Hs H ds e1 h1 I _ fun J Hs1 H1 g1 I1 wk => ?_
    refine for_it wk (fun i σ2 H2 => ∃ e2 Hs2, forLoopX fg fb (ds.drop i) e2 = some o ∧ Go σ e1 Hs1 H1 σ2 e2 Hs2 H2 ∧ InvS X.K Hs2 H2 σ2 e2) ?_ ?_ ?_ ?_
    · exact ⟨e1, Hs1, hf, Go.refl, I1⟩
    · rintro i σ2 H2 _ ⟨e2, Hs2, _, g2, I2⟩
      exact ⟨Hs2, g2.sh, I2.sh, I2.old.1⟩
    · rintro i x σ2 H2 H3 hlt ⟨e2, Hs2, k1, g2, I2⟩ ⟨d, hd, hy⟩
      obtain ⟨Hs3, g3, I3, r3⟩ := hy Hs2 g2.sh I2.sh _ _ I2
      have ed : ds.drop i = d :: ds.drop (i + 1) := by
        rw [List.drop_eq_getElem_cons hlt]
        rw [List.getElem?_eq_getElem hlt] at hd
        cases hd
        rfl
      rw [ed] at k1
      unfold forLoopX at k1
      split at k1
      · rename_i e3 h3
        refine hg e2 σ2 Hs3 H3 d x e3 h3 I3 r3 _ fun σ4 Hs4 H4 g4 I4 _ => ?_
        have g14 := (g2.trans g3.go).trans g4.go
        have q4 := (q.step g1.go).step g14
        split at k1
        · rename_i e4 h4
          exact hb.run Wr tk e3 σ4 Hs4 H4 _ h4 I4 _ fun σ5 Hs5 H5 g5 I5 => ⟨e4, Hs5, k1, g14.trans g5, I5⟩
        · rename_i e4 h4
          exact hb.run Wr tk e3 σ4 Hs4 H4 _ h4 I4 _ fun σ5 Hs5 H5 g5 I5 => ⟨e4, Hs5, k1, g14.trans g5, I5⟩
        · rename_i e4 h4
          cases k1
          exact hb.run Wr tk e3 σ4 Hs4 H4 _ h4 I4 _ q4
        · rename_i r e4 h4
          cases k1
          exact hb.run Wr tk e3 σ4 Hs4 H4 _ h4 I4 _ q4
        · rename_i x e4 h4
          cases k1
          exact hb.run Wr tk e3 σ4 Hs4 H4 _ h4 I4 _ q4
        · cases k1
      · cases k1
    · rintro σ2 H2 ⟨e2, Hs2, k1, g2, I2⟩
      rw [List.drop_eq_nil_of_le (Nat.le_refl _)] at k1
      unfold forLoopX at k1
      cases k1
      exact q σ2 Hs2 H2 (g1.go.trans g2) I2
  · cases hf

/-! ### raise C() -/
/-- what the text says of the class x of errors, an own one without own __init__ -/
structure ExcCl (K : PySem.W.Frag) (mg : Str → Option Value) (x : Str) where
  C : Addr
  at_ : mg x = some (.ref C)
  ex : PySem.W.excIn K C [.type "ValueError", .type "Exception", .type "BaseException", .type "object"] "ValueError.__new__" = true
  kp : PySem.W.keepIn K (.ref C) = true
  sb : PySem.W.subIn K (.ref C) (.type "BaseException") = some true
  ty : PySem.W.typeIn K (.ref C) = some (.type "type")
omit [Old] in
theorem pmk_own0 {x : Str} {p pos : Pos} (c : ExcCl X.K X.mg x) (hg : Gl X x) (hdb : (x == ("__debug__" : Str)) = false) : L2N.PMk X (.Call (.Name x p) [] [] pos) (fun _ H Q => Q (.ref c.C) none H) := by
  intro pins s σ H Q I h
  refine wpAny_Call_Name_kw (ld_glob I hg c.at_ ?_ hdb)
  refine PySem.W.callWith_K0 I.kIn c.kp ?_
  show wpAny _ _ (call (.ref c.C) []) _ _ _
  obtain ⟨bm, N, nm, qn, bs, hdct, sn, sub, ab, col, dd, k0, k1, k2, k3, k5, mN, hC, hN, hni, T⟩ := exc_obj I.kIn c.ex
  refine wpAny_call_exc_subT PySem.F.excBase_ValueError T hC hN hni (fun h' e hm => ?_) (Nat.zero_le _)
  exact L2N.mk_of I hm (raises_own c.sb c.ty) h (I.hok.gone hm.new)
def rsB (x : Str) : MEnv → Option OutX := fun env => some (.rs ⟨x, []⟩ env)
theorem xs_raise0 {x : Str} {p p2 : Pos} (c : ExcCl X.K X.mg x) (hg : Gl X x) (hdb : (x == ("__debug__" : Str)) = false) (hc : X.calm = true) : XS X (.Raise (some (.Call (.Name x p) [] [] p2)) none pos) (rsB x) := by
  refine ⟨?_⟩
  intro Wr tk env σ Hs H o hf I D q
  cases hf
  exact WS.of (L2N.ps_raise hc tk (pmk_own0 c hg hdb)) (q _ _ σ Hs H Go.refl I ⟨c.C, c.at_, rfl, .inl ⟨rfl, rfl⟩⟩)

/-! ### raise C(e, ..) with fields -/
theorem del_new {a d : Addr} {H : Hp} {C : Addr} {u w : HO} (ha : H a = none) (hda : d ≠ a) : upd (del (upd (upd H d u) a (exo a C (some d))) a) d w = upd H d w := by
  funext b
  by_cases e : b = d
  · rw [e, upd_same, upd_same]
  · rw [upd_ne e, upd_ne e]
    by_cases e2 : b = a
    · rw [e2, del_same, ha]
    · rw [del_ne e2, upd_ne e2, upd_ne e]
theorem upd_turn {a d : Addr} {H : Hp} {C : Addr} {u w : HO} (hda : d ≠ a) : upd (upd (upd H d u) a (exo a C (some d))) d w = upd (upd H d w) a (exo a C (some d)) := by
  funext b
  by_cases e : b = d
  · rw [e, upd_same, upd_ne hda, upd_same]
  · rw [upd_ne e]
    by_cases e2 : b = a
    · rw [e2, upd_same, upd_same]
    · rw [upd_ne e2, upd_ne e2, upd_ne e, upd_ne e]
/-- __init__ of an error: it puts its arguments into the fields -/
def spXI (K : PySem.W.Frag) (C : Addr) (ns : List Str) : Sp := fun vs H Q _ => ∃ (a : Addr) (ys : List V), vs = .ref a :: ys ∧ ys.length = ns.length ∧ H a = some (exo a C none) ∧ OexC K C ∧ (∀ n ∈ ns, PySem.W.findIn K (.ref C) n = some none) ∧
  ∀ d, H d = none → d ≠ a → Q .non (upd (upd H d (exd d (ns.zip ys).reverse)) a (exo a C (some d)))
/-- C, an own class of errors with own __init__ of the fields ns -/
structure OwnE (P : Program) (w : World) (K : PySem.W.Frag) (mg : Str → Option Value) (base : Heap) (x : Str) (ns : List Str) where
  C : Addr
  fI : Addr
  fd : FuncData
  ps : List Str
  at_ : mg x = some (.ref C)
  T : OexC K C
  iC : PySem.W.findIn K (.ref C) "__init__" = some (some (.ref fI))
  tI : PySem.W.typeIn K (.ref fI) = some (.type "function")
  nf : ∀ n ∈ ns, PySem.W.findIn K (.ref C) n = some none
  F1 : FnOk P w K mg base CX0 1 fI fd ps (spXI K C ns)
  bi : Binds K fd ps []
def intsX : List PyData → Option (List Int)
  | [] => some []
  | .int i :: r => (intsX r).map (i :: ·)
  | _ => none
theorem intsX_map : ∀ (is : List Int), intsX (is.map .int) = some is
  | [] => rfl
  | i :: r => by rw [List.map_cons, intsX, intsX_map r]; rfl
omit [Old] in
theorem intsX_rep [Old] : ∀ {ds : List PyData} {is : List Int} {vs : List V}, intsX ds = some is → RepL K H ds vs → vs = is.map V.int
  | [], is, vs, h, r => by cases h; exact r
  | d :: ds, is, vs, h, r => by
    obtain ⟨v, r', rfl, h1, h2⟩ := r
    cases d <;> first | (cases h; done) | skip
    rename_i i
    unfold intsX at h
    cases hr : intsX ds with
    | none => rw [hr] at h; cases h
    | some js =>
      rw [hr] at h
      cases h
      rw [List.map_cons, ← intsX_rep hr h2]
      rw [show v = V.int i from h1]
def rsFB (x : Str) (ns : List Str) (fs : MEnv → Option (List PyData × MEnv)) : MEnv → Option OutX := fun env => match fs env with
  | some (ds, e1) => match intsX ds with
    | some is => if is.length = ns.length ∧ ns ≠ [] ∧ ns.length ≤ 900 then some (.rs ⟨x, (ns.zip is).reverse⟩ e1) else none
    | none => none
  | none => none
theorem zip_ints (ns : List Str) (is : List Int) : (ns.zip (is.map V.int)).reverse = ((ns.zip is).reverse).map fun p => (p.1, V.int p.2) := by
  rw [List.map_reverse]
  congr 1
  induction ns generalizing is with
  | nil => rfl
  | cons n ns ih =>
    cases is with
    | nil => rfl
    | cons i is => rw [List.map_cons, List.zip_cons_cons, List.zip_cons_cons, List.map_cons, ih]
theorem xs_raiseF {x : Str} {ns : List Str} {fs : MEnv → Option (List PyData × MEnv)} {es : List Expr} {p p2 : Pos} (o : OwnE X.prog X.w X.K X.mg X.base x ns) (hr : Room 2 X.A) (hg : Gl X x) (ha : SA X (e :: es) fs)
    (hp : (e :: es).all plainE = true) (hdb : (x == ("__debug__" : Str)) = false) (hc : X.calm = true) : XS X (.Raise (some (.Call (.Name x p) (e :: es) [] p2)) none pos) (rsFB x ns fs) := by
  refine ⟨?_⟩
  intro Wr tk env σ Hs H r hf I D q
  rw [List.all_cons, Bool.and_eq_true] at hp
  refine WS.of (L2N.ps_raise hc tk (pmk_init o.T o.iC o.tI o.F1 hr o.bi pass0 hg o.at_ (WA.pa X (e :: es)) hdb (star_plain hp.1) (star_any hp.2))) ?_
  unfold rsFB at hf
  split at hf
  · rename_i ds e1 h1
    split at hf
    · rename_i is h2
      split at hf
      · rename_i hc2
        cases hf
        refine ha env σ Hs H ds e1 h1 I _ fun vs Hs1 H1 g1 I1 r1 => ?_
        have ev := intsX_rep h2 r1
        subst ev
        refine ⟨by rw [List.length_map, hc2.1]; omega, fun a na => ⟨a, is.map V.int, by rw [List.append_nil], by rw [List.length_map]; exact hc2.1, upd_same, o.T, o.nf, fun d nd hda => ⟨rfl, d, (ns.zip (is.map V.int)).reverse, upd_same, ?_, ?_, ?_⟩⟩⟩
        · rw [upd_ne hda, upd_same]
        · rw [upd_ne hda] at nd
          exact nd
        · rw [upd_ne hda] at nd
          have e0 : upd (upd H1 a (exo a o.C none)) d (exd d (ns.zip (is.map V.int)).reverse) = upd (upd H1 d (exd d (ns.zip (is.map V.int)).reverse)) a (exo a o.C none) := by
            funext b
            by_cases z : b = d
            · rw [z, upd_same, upd_ne hda, upd_same]
            · rw [upd_ne z]
              by_cases z2 : b = a
              · rw [z2, upd_same, upd_same]
              · rw [upd_ne z2, upd_ne z2, upd_ne z]
          have e2 : upd (del (upd (upd (upd H1 a (exo a o.C none)) d (exd d (ns.zip (is.map V.int)).reverse)) a (exo a o.C (some d))) a) d (.xd (ns.zip (is.map V.int)).reverse) = upd H1 d (.xd (ns.zip (is.map V.int)).reverse) := by
            funext b
            by_cases z : b = d
            · rw [z, upd_same, upd_same]
            · rw [upd_ne z, upd_ne z]
              by_cases z2 : b = a
              · rw [z2, del_same, na]
              · rw [del_ne z2, upd_ne z2, upd_ne z, upd_ne z2]
          show Wr (.ref o.C) (some d) σ (upd (del (upd (upd (upd H1 a (exo a o.C none)) d (exd d (ns.zip (is.map V.int)).reverse)) a (exo a o.C (some d))) a) d (.xd (ns.zip (is.map V.int)).reverse))
          rw [e2]
          refine q (.ref o.C) (some d) σ _ _ (g1.go.trans (GoE.share I1 nd _).go) (I1.share nd _) ⟨o.C, o.at_, rfl, .inr ⟨d, ?_, rfl, ?_⟩⟩
          · intro z
            have := congrArg List.length z
            rw [List.length_reverse, List.length_zip, hc2.1] at this
            cases ns with
            | nil => exact hc2.2.1 rfl
            | cons n ns => simp at this
          · rw [upd_same, zip_ints]
      · cases hf
    · cases hf
  · cases hf
/-! ### an expression that may raise: a call -/
inductive VX where
  | v (r : Slot) (env : MEnv)
  | rs (x : Err) (env : MEnv)
def VXok (mg : Str → Option Value) (K : PySem.W.Frag) (σ : L2.St) (env : MEnv) (Hs H : Hp) (r : VX) (Q : VK) (Wr : WX) : Prop := match r with
  | .v r e => ∀ v Hs' H', GoE σ env Hs H e Hs' H' → InvS K Hs' H' σ e → RepR K H Hs' H' r v → Q v H'
  | .rs x e => ∀ cls d Hs' H', GoE σ env Hs H e Hs' H' → InvS K Hs' H' σ e → RepE mg Hs' x cls d → Wr cls d σ H'
structure XE (X : Cx) (e : Expr) (f : MEnv → Option VX) : Prop where
  run : ∀ (Wr : WX), L2N.Takes X Wr → ∀ (env : MEnv) (σ : L2.St) (Hs H : Hp) (r : VX), f env = some r → InvS X.K Hs H σ env → ∀ Q : VK, VXok X.mg X.K σ env Hs H r Q Wr → W X e σ H Q
/-- f(..) -/
def exprX (f : MEnv → Option VX) : MEnv → Option OutX := fun env => match f env with
  | some (.v _ e1) => some (.o (.nx e1))
  | some (.rs x e1) => some (.rs x e1)
  | none => none
theorem xs_expr {f : MEnv → Option VX} (h : XE X e f) (hs : swapsWith e none pos.line X.env = pure false) : XS X (.Expr e pos) (exprX f) := by
  refine ⟨?_⟩
  intro Wr tk env σ Hs H o hf I D q
  unfold exprX at hf
  split at hf
  · rename_i r e1 h1
    cases hf
    exact WS.of (ps_expr (W.pe X e) hs) (h.run Wr tk env σ Hs H _ h1 I _ fun v Hs' H' g I' _ => q σ Hs' H' g.go I')
  · rename_i x e1 h1
    cases hf
    exact WS.of (ps_expr (W.pe X e) hs) (h.run Wr tk env σ Hs H _ h1 I _ fun cls d Hs' H' g I' r => q cls d σ Hs' H' g.go I' r)
  · cases hf
def retX (f : MEnv → Option VX) : MEnv → Option OutX := fun env => match f env with
  | some (.v r e1) => some (.o (.rt r e1))
  | some (.rs x e1) => some (.rs x e1)
  | none => none
theorem xs_ret {f : MEnv → Option VX} (h : XE X e f) : XS X (.Return (some e) pos) (retX f) := by
  refine ⟨?_⟩
  intro Wr tk env σ Hs H o hf I D q
  unfold retX at hf
  split at hf
  · rename_i r e1 h1
    cases hf
    exact WS.of (ps_ret (W.pe X e)) (h.run Wr tk env σ Hs H _ h1 I _ fun v Hs' H' g I' rr => q v σ Hs' H' g.go I' rr.q)
  · rename_i x e1 h1
    cases hf
    exact WS.of (ps_ret (W.pe X e)) (h.run Wr tk env σ Hs H _ h1 I _ fun cls d Hs' H' g I' r => q cls d σ Hs' H' g.go I' r)
  · cases hf
def asgX (i : Nat) (f : MEnv → Option VX) : MEnv → Option OutX := fun env => match f env with
  | some (.v r e1) => match setS i r e1 with
    | some e2 => some (.o (.nx e2))
    | none => none
  | some (.rs x e1) => some (.rs x e1)
  | none => none
theorem xs_asg {i : Nat} {x : Str} {p2 : Pos} {f : MEnv → Option VX} (h : XE X e f) (hp : PS X (.Assign [.Name x p2] e pos) (tAsg (W X e) (gName i))) : XS X (.Assign [.Name x p2] e pos) (asgX i f) := by
  refine ⟨?_⟩
  intro Wr tk env σ Hs H o hf I D q
  refine WS.of hp ?_
  unfold asgX at hf
  split at hf
  · rename_i r e1 h1
    split at hf
    · rename_i e2 h2
      cases hf
      have ha : asgB i (fun _ => some (r, e1)) env = some (.nx e2) := by
        show (match setS i r e1 with | some e2 => some (Out.nx e2) | none => none) = _
        rw [h2]
      refine rd_asg (f := fun _ => some (r, e1)) (o := .nx e2) (fun r' e1' k Q kq => ?_) ha I q
      cases k
      exact h.run Wr tk env σ Hs H _ h1 I _ kq
    · cases hf
  · rename_i x e1 h1
    cases hf
    exact h.run Wr tk env σ Hs H _ h1 I _ fun cls d Hs' H' g I' r => q cls d σ Hs' H' g.go I' r
  · cases hf
/-- if f(..) is None: .. else .. -/
def ifNX (f : MEnv → Option VX) (fa fb : MEnv → Option OutX) : MEnv → Option OutX := fun env => match f env with
  | some (.v (.val .none) e1) => fa e1
  | some (.v (.val d) e1) => match d with
    | .dict _ => none
    | _ => fb e1
  | some (.v _ _) => none
  | some (.rs x e1) => some (.rs x e1)
  | none => none
theorem xs_ifN {p2 p3 : Pos} {j : Nat} {sa sb : List Stmt} {f : MEnv → Option VX} {fa fb : MEnv → Option OutX} (h : XE X e f) (ha : XB X sa fa) (hb : XB X sb fb) : XS X (.If (.Compare e [.Is] [.Constant .none j p3] p2) sa sb pos) (ifNX f fa fb) := by
  refine ⟨?_⟩
  intro Wr tk env σ Hs H o hf I D q
  refine WS.of (ps_if (pt_cmpR op_isN (W.pe X e) pe_non rfl) (WSs.ps X sa) (WSs.ps X sb)) ?_
  have go : ∀ {r : Slot} {d : PyData} {e1 : MEnv}, f env = some (.v (.val d) e1) → (∀ kvs, d ≠ .dict kvs) → (if isNone d = true then fa e1 else fb e1) = some o → tTest (tOp (fun x y H Q => y = .non ∧ Q (.bl (decide (x = .non))) H) (W X e) (tC .non)) σ H (fun b H1 => if b = true then WSs X sa D σ H1 else WSs X sb D σ H1) := by
    intro r d e1 h1 hd h2
    refine h.run Wr tk env σ Hs H _ h1 I _ fun v Hs1 H1 g1 I1 r1 => ?_
    have hdec : decide (v = V.non) = isNone d := isNone_v (Top.of I1.sh r1)
    refine ⟨rfl, decide (v = V.non), rfl, ?_⟩
    rw [hdec]
    cases hn : isNone d with
    | true =>
      rw [hn, if_pos rfl] at h2
      exact iteT (ha.run Wr tk e1 σ Hs1 H1 o h2 I1 D (q.step g1.go))
    | false =>
      rw [hn, if_neg Bool.false_ne_true] at h2
      exact iteF (hb.run Wr tk e1 σ Hs1 H1 o h2 I1 D (q.step g1.go))
  unfold ifNX at hf
  split at hf
  · rename_i e1 h1
    exact go (r := .un) h1 (fun _ z => by cases z) hf
  · rename_i d e1 hnn h1
    split at hf
    · cases hf
    · rename_i hnd
      have hnn' : isNone d = false := by
        cases d <;> first | rfl | exact (hnn rfl).elim | exact (hnn _ rfl).elim | exact (hnn _).elim
      exact go (r := .un) h1 (fun kvs z => hnd kvs z) (by rw [hnn']; exact hf)
  · cases hf
  · rename_i x e1 h1
    cases hf
    exact h.run Wr tk env σ Hs H _ h1 I _ fun cls d Hs' H' g I' r => q cls d σ Hs' H' g.go I' r
  · cases hf
end Ip

set_option Elab.async false
set_option linter.all false
set_option maxRecDepth 100000
set_option maxHeartbeats 4000000
/-! defs that may raise -/
namespace Ip
open PySem L2
open Evl (Ex sz_of fresh_back)
inductive ResX where
  | ret (r : Slot)
  | exc (x : Err)
abbrev RunX := List PyData → Option ResX
def spXo (oo : Old) (mg : Str → Option Value) (K : PySem.W.Frag) (n : Nat) (run : RunX) : Sp := fun vs H Q E => ∃ (ds : List PyData) (Hs : Hp) (r : ResX), ds.length = n ∧ run ds = some r ∧ InvS K Hs H (vs.map some) (ds.map .val) ∧
  match r with
  | .ret s => ∀ v Hs' H', Go (vs.map some) (ds.map .val) Hs H (vs.map some) (ds.map .val) Hs' H' → InvS K Hs' H' (vs.map some) (ds.map .val) → RepR K H Hs' H' s v → Q v H'
  | .exc x => ∀ cls d Hs' H', Go (vs.map some) (ds.map .val) Hs H (vs.map some) (ds.map .val) Hs' H' → InvS K Hs' H' (vs.map some) (ds.map .val) → RepE mg Hs' x cls d → E cls d H'
def spX (mg : Str → Option Value) (K : PySem.W.Frag) (n : Nat) (run : RunX) : Sp := fun vs H Q E => ∃ oo : Old, spXo oo mg K n run vs H Q E
theorem spX_len {mg : Str → Option Value} {K : PySem.W.Frag} {H : Hp} {n : Nat} {run : RunX} {vs : List V} {Q : VK} {E : XK} (h : spX mg K n run vs H Q E) : vs.length = n := by
  obtain ⟨oo, ds, Hs, r, hl, _, I, _⟩ := h
  have := @InvS.len oo _ _ _ _ _ I
  rw [List.length_map, List.length_map] at this
  rw [this, hl]
def runX (N n : Nat) (fB : MEnv → Option OutX) : RunX := fun ds => match fB (ds.map .val ++ List.replicate (N - n) .un) with
  | some (.o (.rt r e)) => if ds.length ≤ e.length then some (.ret r) else none
  | some (.o (.nx e)) => if ds.length ≤ e.length then some (.ret (.val .none)) else none
  | some (.rs x e) => if ds.length ≤ e.length then some (.exc x) else none
  | _ => none
theorem zip_val : ∀ (ds : List PyData) (e : MEnv), ds.length ≤ e.length → List.zipWith ioB (ds.map Slot.val) e = ds.map Slot.val
  | [], _, _ => by simp
  | d :: ds, [], h => by simp at h
  | d :: ds, s :: e, h => by
    rw [List.map_cons, List.zipWith_cons_cons, zip_val ds e (by simpa using h)]
    rfl
variable {X : Cx} {a b e : Expr} {pos : Pos} {K : PySem.W.Frag} {Hs Hs' H H' : Hp} {σ : L2.St} {env env' : MEnv} {mg : Str → Option Value}
theorem fn_bodyXo (oo : Old) {N : List Str} {n : Nat} {fB : MEnv → Option OutX} {sts : List Stmt} {vs : List V} {Q : VK} {E : XK} (hX : X.N = N) (tk : L2N.Takes X (fun cls d _ H => E cls d H)) (hb : @XB oo X sts fB) (hn : n ≤ N.length) (h : spXo oo X.mg X.K n (runX N.length n fB) vs H Q E) :
    WSs X sts { nx := fun _ H' => Q .non H', rt := Q } (start N vs) H := by
  obtain ⟨ds, Hs, r, hlD, hr, I, post⟩ := h
  obtain ⟨args, hargs⟩ : ∃ args, args = ds.map Slot.val := ⟨_, rfl⟩
  have hl : args.length = n := by rw [hargs, List.length_map]; exact hlD
  have hok : args.all argOk = true := by rw [hargs]; simp [argOk]
  rw [← hargs] at I
  have lv : vs.length = args.length := by have := I.len; rwa [List.length_map] at this
  rw [start_eq, lv, hl]
  have slotOf : ∀ {i : Nat} {s : Slot}, args[i]? = some s → (∃ d, s = .val d) ∨ ∃ xs, s = .io xs := fun {i s} e => by
    have k := (List.all_eq_true.mp hok) s (List.mem_of_getElem? e)
    cases s with
    | val d => exact .inl ⟨d, rfl⟩
    | io xs => exact .inr ⟨xs, rfl⟩
    | un => cases k
    | own xs => cases k
  have same : ∀ i, i < args.length → (vs.map some ++ List.replicate (N.length - n) (none : Option V))[i]? = (vs.map some)[i]? := fun i hi => app_left (by rw [lv]; exact hi)
  have mm : ∀ a, MutAt (vs.map some ++ List.replicate (N.length - n) none) (args ++ List.replicate (N.length - n) .un) a ↔ MutAt (vs.map some) args a := fun a => by
    constructor
    · rintro ⟨i, s, xs, e1, e2, e3⟩
      obtain ⟨k1, k2⟩ := app_un e1 (mut_ne e2)
      exact ⟨i, s, xs, k1, e2, by rw [← same i k2]; exact e3⟩
    · rintro ⟨i, s, xs, e1, e2, e3⟩
      have k2 := (List.getElem?_eq_some_iff.mp e1).1
      exact ⟨i, s, xs, by rw [List.getElem?_append_left k2]; exact e1, e2, by rw [same i k2]; exact e3⟩
  have noloc0 : ∀ a, ¬ LocAt (vs.map some) args a := fun a ⟨i, xs, e1, _⟩ => by
    rcases slotOf e1 with ⟨d, z⟩ | ⟨ys, z⟩ <;> cases z
  have noloc : ∀ a, ¬ LocAt (vs.map some ++ List.replicate (N.length - n) none) (args ++ List.replicate (N.length - n) .un) a := fun a ⟨i, xs, e1, e3⟩ => by
    obtain ⟨k1, k2⟩ := app_un e1 (fun z => by cases z)
    exact noloc0 a ⟨i, xs, k1, by rw [← same i k2]; exact e3⟩
  have I0 : InvS X.K Hs H (vs.map some ++ List.replicate (N.length - n) none) (args ++ List.replicate (N.length - n) .un) := by
    refine ⟨by rw [List.length_append, List.length_append, List.length_map, List.length_replicate, List.length_replicate, lv], I.sh, fun i d e => ?_, fun i s xs e em => ?_, fun i j s t xs ys p e1 m1 e2 m2 g1 g2 => ?_, ⟨I.old.1, fun a m => I.old.2 a ((mm a).mp m)⟩⟩
    · obtain ⟨k1, k2⟩ := app_un e (fun z => by cases z)
      rw [same i k2]
      exact I.vals i d k1
    · obtain ⟨k1, k2⟩ := app_un e (mut_ne em)
      rw [same i k2]
      exact I.muts i s xs k1 em
    · obtain ⟨k1, k2⟩ := app_un e1 (mut_ne m1)
      obtain ⟨k3, k4⟩ := app_un e2 (mut_ne m2)
      rw [same i k2] at g1
      rw [same j k4] at g2
      exact I.diff i j s t xs ys p k1 m1 k3 m2 g1 g2
  -- what holds where the def ends
  have fin : ∀ (e : MEnv) (σ' : L2.St) (Hs' H' : Hp), args.length ≤ e.length → Go (vs.map some ++ List.replicate (N.length - n) none) (args ++ List.replicate (N.length - n) .un) Hs H σ' e Hs' H' → InvS X.K Hs' H' σ' e →
      Go (vs.map some) args Hs H (vs.map some) (List.zipWith ioB args e) Hs' H' ∧ InvS X.K Hs' H' (vs.map some) (List.zipWith ioB args e) := fun e σ' Hs' H' l2 g I' => by
    have ioOf : ∀ {i : Nat} {xs : List PyData}, args[i]? = some (.io xs) → ∃ ys, e[i]? = some (.io ys) ∧ σ'[i]? = (vs.map some)[i]? := fun {i xs} h => by
      have k2 := (List.getElem?_eq_some_iff.mp h).1
      obtain ⟨j1, ys, j2⟩ := g.io i xs (by rw [List.getElem?_append_left k2]; exact h)
      exact ⟨ys, j2, by rw [j1, same i k2]⟩
    have back : ∀ {i : Nat} {s : Slot}, (List.zipWith ioB args e)[i]? = some s → (∃ d, s = .val d ∧ args[i]? = some (.val d)) ∨ ∃ xs ys, s = .io ys ∧ args[i]? = some (.io xs) ∧ e[i]? = some (.io ys) ∧ σ'[i]? = (vs.map some)[i]? := fun {i s} h => by
      rw [List.getElem?_zipWith] at h
      split at h
      · rename_i a0 b0 ha hb0
        cases h
        rcases slotOf ha with ⟨d, rfl⟩ | ⟨xs, rfl⟩
        · exact .inl ⟨d, rfl, ha⟩
        · obtain ⟨ys, j1, j2⟩ := ioOf ha
          rw [hb0] at j1
          cases j1
          exact .inr ⟨xs, ys, rfl, ha, hb0, j2⟩
      · cases h
    have mback : ∀ a, MutAt (vs.map some) (List.zipWith ioB args e) a → MutAt (vs.map some) args a := fun a ⟨i, s, xs, e1, e2, e3⟩ => by
      rcases back e1 with ⟨d, rfl, _⟩ | ⟨zs, ys, rfl, h1, _⟩
      · cases e2
      · exact ⟨i, _, zs, h1, rfl, e3⟩
    refine ⟨⟨g.sh, fun a o h nm => g.kp a o h fun m => nm ((mm a).mp m), g.dm, fun a o h => ?_, fun a m => .inl (mback a m), fun a ⟨i, xs, e1, e3⟩ => ?_, fun i xs h => ⟨rfl, ?_⟩⟩, ⟨?_, I'.sh, fun i d h => ?_, fun i s xs h hm => ?_, fun i j s t xs ys p h1 m1 h2 m2 g1 g2 => ?_, ⟨I'.old.1, fun a m => I.old.2 a (mback a m)⟩⟩⟩
    · rcases g.nw a o h with z | z | z
      · exact .inl z
      · exact .inr (.inl z)
      · exact absurd z (noloc a)
    · rcases back e1 with ⟨d, z, _⟩ | ⟨zs, ys, z, _⟩ <;> cases z
    · obtain ⟨ys, j1, _⟩ := ioOf h
      exact ⟨ys, by rw [List.getElem?_zipWith, h, j1]; rfl⟩
    · have l1 := I'.len
      rw [List.length_map, List.length_zipWith, lv]
      omega
    · rcases back h with ⟨d', z, h1⟩ | ⟨zs, ys, z, _⟩
      · cases z
        obtain ⟨v, k1, k2⟩ := I.vals i d h1
        exact ⟨v, k1, Rep.mono g.sh d v k2⟩
      · cases z
    · rcases back h with ⟨d', rfl, h1⟩ | ⟨zs, ys, rfl, h1, h2, h3⟩
      · cases hm
      · cases hm
        obtain ⟨p, us, k1, k2⟩ := I'.muts i _ _ h2 rfl
        exact ⟨p, us, by rw [← h3]; exact k1, k2⟩
    · rcases back h1 with ⟨d', rfl, _⟩ | ⟨zs, us, rfl, k1, _⟩
      · cases m1
      · rcases back h2 with ⟨d', rfl, _⟩ | ⟨ws, ts, rfl, k2, _⟩
        · cases m2
        · exact I.diff i j _ _ zs ws p k1 rfl k2 rfl g1 g2
  have fin2 : ∀ (e : MEnv) (σ' : L2.St) (Hs' H' : Hp), ds.length ≤ e.length → Go (vs.map some ++ List.replicate (N.length - n) none) (args ++ List.replicate (N.length - n) .un) Hs H σ' e Hs' H' → InvS X.K Hs' H' σ' e →
      Go (vs.map some) (ds.map .val) Hs H (vs.map some) (ds.map .val) Hs' H' ∧ InvS X.K Hs' H' (vs.map some) (ds.map .val) := fun e σ' Hs' H' l2 g I' => by
    have z := fin e σ' Hs' H' (by rw [hargs, List.length_map]; exact l2) g I'
    rw [hargs, zip_val ds e l2] at z
    exact z
  unfold runX at hr
  rw [← hargs] at hr
  split at hr
  · rename_i r0 e0 h0
    split at hr
    · rename_i l2
      cases hr
      refine hb.run _ tk _ _ Hs H _ h0 I0 _ fun v σ' Hs' H' g I' rr => ?_
      obtain ⟨g2, I2⟩ := fin2 e0 σ' Hs' H' l2 g I'
      refine post v Hs' H' g2 I2 ?_
      cases r0 with
      | val d => exact rr
      | own xs =>
        obtain ⟨p, us, e1, h1, h2⟩ := rr
        exact ⟨p, us, e1, h1.elim id fun z => absurd z (noloc p), h2⟩
      | un => exact rr
      | io xs => exact rr
    · cases hr
  · rename_i e0 h0
    split at hr
    · rename_i l2
      cases hr
      refine hb.run _ tk _ _ Hs H _ h0 I0 _ fun σ' Hs' H' g I' => ?_
      obtain ⟨g2, I2⟩ := fin2 e0 σ' Hs' H' l2 g I'
      exact post .non Hs' H' g2 I2 rfl
    · cases hr
  · rename_i x e0 h0
    split at hr
    · rename_i l2
      cases hr
      refine hb.run _ tk _ _ Hs H _ h0 I0 _ fun cls d σ' Hs' H' g I' rr => ?_
      obtain ⟨g2, I2⟩ := fin2 e0 σ' Hs' H' l2 g I'
      exact post cls d Hs' H' g2 I2 rr
    · cases hr
  · cases hr
theorem fn_bodyX {N : List Str} {n : Nat} {fB : MEnv → Option OutX} {sts : List Stmt} {vs : List V} {Q : VK} {E : XK} (hX : X.N = N) (tk : L2N.Takes X (fun cls d _ H => E cls d H)) (hb : ∀ _ : Old, XB X sts fB) (hn : n ≤ N.length) (h : spX X.mg X.K n (runX N.length n fB) vs H Q E) :
    WSs X sts { nx := fun _ H' => Q .non H', rt := Q } (start N vs) H := by
  obtain ⟨oo, h⟩ := h
  exact fn_bodyXo oo hX tk (hb oo) hn h
/-- the promise of a def that may raise, where no guard is set -/
structure FnGX (P : Program) (w : World) (K : PySem.W.Frag) (mg : Str → Option Value) (base : Heap) (k : Nat) (f : Addr) (fd : FuncData) (ps : List Str) (sp : Sp) : Prop where
  cnt : ∀ a h q x, sp a h q x → a.length = ps.length
  go : ∀ {B : Around} {up : List PySem.Env} {t : Shared} {h : Hp} {ar : Args} {cs : List Value} {a : List V} {q : VK} {x : XK},
    B.guards = some [] → Room k B → Env0 P w K mg base B up t h → BindsTo t fd ar (ps.zip cs) → Vals a cs → sp a h q x →
    codeAny (model P w) B (.call (.ref f) ar) (CR (L2N.CX P w) up P w h t q x) t
section
open PyProof.Rows
variable {P : Program} {w : World} {base : Heap}
theorem fun_okX {nm qn : Str} {st : Stmt} {f : Addr} {fd : FuncData} {N ps : List Str} {k : Nat} {sp : Sp} (F : Fun K nm qn st f fd) (S : FnScope N ps (defScope st))
    (cnt : ∀ a h q x, sp a h q x → a.length = ps.length)
    (body : ∀ (cd : Value) (B : Around) (up : List PySem.Env) (t : Shared) (h : Hp) (a : List V) (q : VK) (x : XK),
      (B.deeper (envOfC qn (defScope st) t.heap.objs.size f cd)).guards = some [] → Room k (B.deeper (envOfC qn (defScope st) t.heap.objs.size f cd)) → sp a h q x →
      ∃ r, PSs (cxOf (L2N.CX P w) P w K mg base N qn (defScope st) f cd B up t h x) (defBody st) r ∧ r { nx := fun _ h1 => q .non h1, rt := q } (start N a) h) :
    FnGX P w K mg base (k + 1) f fd ps sp := by
  obtain ⟨oc, od, kV, doc, pm, an, cd, ct, osl, rfl, at_, code⟩ := F.ex
  refine ⟨cnt, ?_⟩
  intro B up t h ar cs a q x nog room e0 bnd va hs
  have la := cnt _ _ _ _ hs
  have inK := e0.mod.kin.keeps fun b o e => (e0.bs b o e).1
  have nolim := e0.mod.nolimit.keeps fun b o e => (e0.bs b o e).1
  have kinds : ∀ y ∈ ps.zip cs, (defScope st).names.lookup y.1 = some .local ∨ ((defScope st).names.lookup y.1 = some .cell ∧
      ((cellsFrom (t.heap.objs.size + 1) (defScope st).names []).lookup y.1).isSome = true) := by
    rintro ⟨n, v⟩ hy
    cases S.par n (List.of_mem_zip hy).1 with
    | inl z => exact .inl z
    | inr z => exact .inr ⟨z, PySem.W.cellsFrom_some _ _ _ (.inl z)⟩
  apply codeAny_call_function room.depth (inK _ _ at_) rfl S.co S.gen rfl (PySem.W.codeRec_of inK code)
  apply bnd
  apply wpAny_newFunctionEnv_cells S.kind kinds
  intro en hen t1 inC
  cases hen
  refine ⟨nolim.keeps inC.toInCall.keep, codeAny_func ?_⟩
  obtain ⟨r, pr, hq⟩ := body cd B up t h a q x nog (room.deeper _) hs
  have I := inv_start (CX := L2N.CX P w) (E := x) S room.hd e0 la va inC
  refine wpAny_mono (pr.run [] t1 (start N a) h _ I hq) ?_ (fun _ _ z => z)
  intro fl t2 z
  cases fl with
  | next =>
    obtain ⟨_, h2, J, z⟩ := z
    exact ⟨.non, h2, J.os, J.bare, J.base, J.hok, rfl, z⟩
  | ret u =>
    obtain ⟨v, _, h2, J, rv, z⟩ := z
    exact ⟨v, h2, J.os, J.bare, J.base, J.hok, rv, z⟩
  | brk => exact z.elim fun _ z => z.elim fun _ z => z.2.elim
  | cont => exact z.elim fun _ z => z.elim fun _ z => z.2.elim
theorem FnGX.none {k n : Nat} {f : Addr} {fd : FuncData} {ps : List Str} : FnGX P w K mg base k f fd ps (spX mg K n fun _ => Option.none) := by
  constructor
  · intro _ _ _ _ h
    obtain ⟨_, _, _, _, _, z, _⟩ := h
    cases z
  · intro _ _ _ _ _ _ _ _ _ _ _ _ _ _ h
    obtain ⟨_, _, _, _, _, z, _⟩ := h
    cases z
theorem FnGX.mono {j k : Nat} {f : Addr} {fd : FuncData} {ps : List Str} {sp : Sp} (F : FnGX P w K mg base j f fd ps sp) (h : j ≤ k) : FnGX P w K mg base k f fd ps sp :=
  ⟨F.cnt, fun g r e b v z => F.go g (r.mono h) e b v z⟩
end
/-! ### calls -/
theorem run_goX {k : Nat} {f : Addr} {fd : FuncData} {ps : List Str} {sp : Sp} {pins : List (Addr × Obj)} {s : Shared} {Q : VK} {us : List Value} {vs : List V} {Wr : WX} {ar : Args} (F : FnGX X.prog X.w X.K X.mg X.base k f fd ps sp)
    (hG : X.A.guards = some []) (hr : Room k X.A) (tk : L2N.Takes X Wr) (bnd : us.length = ps.length → BindsTo s fd ar (ps.zip us)) (I : Inv X pins σ H s) (r : Vals vs us) (h : sp vs H Q (WE Wr σ)) : codeAny (model X.prog X.w) X.A (.call (.ref f) ar) (fun fl t => match fl with
      | .ok (.ret u) => EP X pins σ Q u t
      | .ok _ => False
      | .error e => X.xe e t) s := by
  have len : us.length = ps.length := by rw [← r.length]; exact F.cnt _ _ _ _ h
  refine codeAny_mono (F.go hG hr I.env0 (bnd len) r h) ?_
  intro fl t z
  match fl, z with
  | .ok (.ret u), z => exact I.after z
  | .ok .next, z => exact z.elim
  | .ok .brk, z => exact z.elim
  | .ok .cont, z => exact z.elim
  | .error e, z => exact L2N.passAt tk σ pins H s e t I z
def tCallW (sp : Sp) (Wr : WX) (t : L2.TA) : TE := fun σ H Q => t σ H fun vs H1 => sp vs H1 Q (WE Wr σ)
theorem pe_goX {k : Nat} {f : Addr} {fd : FuncData} {ps : List Str} {sp : Sp} {x : Str} {p : Pos} {es : List Expr} {t : L2.TA} {Wr : WX} (F : FnGX X.prog X.w X.K X.mg X.base k f fd ps sp) (hG : X.A.guards = some []) (hr : Room k X.A) (tk : L2N.Takes X Wr) (hg : Gl X x)
    (hm : X.mg x = some (.ref f)) (hk : PySem.W.keepIn X.K (.ref f) = true) (hb : Binds X.K fd ps []) (ha : PA X (e :: es) t) (hd : (x == ("__debug__" : Str)) = false) (h0 : starEach (e :: es) X.env = (false, eval e X.env) :: starEach es X.env)
    (hs : (backTo pos (starEach es X.env)).any (·.1) = false) : PE X (.Call (.Name x p) (e :: es) [] pos) (tCallW sp Wr t) :=
  .mk fun pins s σ H Q I h => wpAny_Call_Name_kw (ld_glob I hg hm (PySem.W.callWith_K (h₀ := X.base) I.ok.mod.kin hk (thn (ha.run pos pins s σ H _ I h) fun us s1 ⟨_, _, J, r, q⟩ => ⟨J.kIn, wpAny_call (codeAny_mono (run_goX F hG hr tk (fun len => by
    have bnd := hb s1 us J.kIn (by simpa using len)
    rw [List.append_nil] at bnd
    exact bnd) J r q) fun fl t z => by
      match fl, z with
      | .ok (.ret u), z => exact z
      | .ok .next, z => exact z.elim
      | .ok .brk, z => exact z.elim
      | .ok .cont, z => exact z.elim
      | .error e, z => exact z)⟩) h0 hs) hd)
theorem pe_goXK {k : Nat} {f : Addr} {fd : FuncData} {ps ks : List Str} {g : List Value → List Value → List Value} {gV : List V → List V → List V} {sp : Sp} {x : Str} {p : Pos} {es : List Expr} {kws : List Keyword} {t tk : L2.TA} {Wr : WX} (F : FnGX X.prog X.w X.K X.mg X.base k f fd ps sp) (hG : X.A.guards = some []) (hr : Room k X.A) (tkW : L2N.Takes X Wr) (hg : Gl X x)
    (hm : X.mg x = some (.ref f)) (hk : PySem.W.keepIn X.K (.ref f) = true) (hb : KBinds X.K fd ps ks g gV) (ha : PA X (e :: es) t) (hkw : PK X kws tk) (hall : (backToKw pos (keywordEach kws X.env)).all (·.1.isSome) = true) (hks : (backToKw pos (keywordEach kws X.env)).filterMap (·.1) = ks)
    (hd : (x == ("__debug__" : Str)) = false) (h0 : starEach (e :: es) X.env = (false, eval e X.env) :: starEach es X.env) (hpl : ((backTo pos (starEach (e :: es) X.env)).any (·.1) || (backToKw pos (keywordEach kws X.env)).any (·.1.isNone)) = false) :
    PE X (.Call (.Name x p) (e :: es) kws pos) (fun σ H Q => t σ H fun vs H1 => tk σ H1 fun zs H2 => sp (gV vs zs) H2 Q (WE Wr σ)) := by
  refine ⟨fun pins s σ H Q I h => ?_⟩
  refine wpAny_Call_Name_kw (ld_glob I hg hm ?_ hd)
  refine PySem.W.callWith_KW (h₀ := X.base) I.ok.mod.kin hk hall (thn (ha.run pos pins s σ H _ I h) fun us s1 ⟨vs, H1, I1, r, q⟩ => ?_) hpl h0
  refine thn (hkw.run pos pins s1 σ H1 _ I1 q) fun ws s2 ⟨zs, H2, I2, rz, q2⟩ => ⟨I2.kIn, ?_⟩
  rw [hks]
  have r2 := hb.rel r rz
  refine wpAny_call (codeAny_mono (run_goX F hG hr tkW (fun len => hb.to s2 us ws I2.kIn len) I2 r2 q2) fun fl t z => ?_)
  match fl, z with
  | .ok (.ret u), z => exact z
  | .ok .next, z => exact z.elim
  | .ok .brk, z => exact z.elim
  | .ok .cont, z => exact z.elim
  | .error e, z => exact z
/-- f, a def of the text that may raise, keeps the promise -/
structure OwnX (P : Program) (w : World) (K : PySem.W.Frag) (mg : Str → Option Value) (base : Heap) (k : Nat) (x : Str) (n : Nat) (run : RunX) where
  f : Addr
  fd : FuncData
  ps : List Str
  ok : FnGX P w K mg base k f fd ps (spX mg K n run)
  at_ : mg x = some (.ref f)
  kp : PySem.W.keepIn K (.ref f) = true
  bi : Binds K fd ps []
structure OwnXK (P : Program) (w : World) (K : PySem.W.Frag) (mg : Str → Option Value) (base : Heap) (k : Nat) (x : Str) (m n : Nat) (ks : List Str) (run : RunX) where
  f : Addr
  fd : FuncData
  ps : List Str
  ok : FnGX P w K mg base k f fd ps (spX mg K (m + n) run)
  at_ : mg x = some (.ref f)
  kp : PySem.W.keepIn K (.ref f) = true
  kb : KBinds K fd ps ks (kwG m n) (kwV m n)
variable [Old]
def callV (n : Nat) (run : RunX) (fs : MEnv → Option (List PyData × MEnv)) : MEnv → Option VX := fun env => match fs env with
  | some (ds, e1) => if ds.length = n then match run ds with
      | some (.ret r) => some (.v r e1)
      | some (.exc x) => some (.rs x e1)
      | none => none
    else none
  | none => none
/-- what holds behind a call with plain data, in the caller's words -/
theorem call_back {ds : List PyData} {vs : List V} {Hs1 H1 : Hp} (I1 : InvS K Hs1 H1 σ env') (r1 : RepL K Hs1 ds vs) (g : Go (vs.map some) (ds.map .val) Hs1 H1 (vs.map some) (ds.map .val) Hs' H') (I' : InvS K Hs' H' (vs.map some) (ds.map .val)) : GoE σ env' Hs1 H1 env' Hs' H' ∧ InvS K Hs' H' σ env' := by
  have nomut : ∀ a, ¬ MutAt (vs.map some) (ds.map .val) a := fun a ⟨i, s, xs, e1, e2, _⟩ => by
    obtain ⟨d, _, rfl⟩ := map_val_some e1
    cases e2
  have noloc : ∀ a, ¬ LocAt (vs.map some) (ds.map .val) a := fun a m => nomut a m.mut
  have back : ∀ p o, H1 p = some o → Hs1 p = none → Hs' p = none := fun p o hp hn => by
    cases z : Hs' p with
    | none => rfl
    | some u =>
      rcases g.nw p u z with z1 | z1 | z1
      · rw [hn] at z1; cases z1
      · rw [hp] at z1; cases z1
      · exact absurd z1 (noloc p)
  refine ⟨⟨g.sh, fun a o h _ => g.kp a o h (nomut a), g.dm, fun a o h => (g.nw a o h).elim .inl fun z => z.elim (fun z => .inr (.inl z)) fun z => absurd z (noloc a), fun _ h => h, fun _ h => h, fun _ xs h => ⟨xs, h⟩⟩, ⟨I1.len, I'.sh, fun i d h => ?_, fun i s xs h hm => ?_, I1.diff, ⟨I'.old.1, I1.old.2⟩⟩⟩
  · obtain ⟨w, k1, k2⟩ := I1.vals i d h
    exact ⟨w, k1, Rep.mono g.sh d w k2⟩
  · obtain ⟨p, us, k1, k2, k3, k4⟩ := I1.muts i s xs h hm
    exact ⟨p, us, k1, back p _ k3 k2, g.kp p _ k3 (nomut p), RepL.mono g.sh xs us k4⟩
theorem args_inv {ds : List PyData} {vs : List V} {Hs1 H1 : Hp} (I1 : InvS K Hs1 H1 σ env') (r1 : RepL K Hs1 ds vs) : InvS K Hs1 H1 (vs.map some) (ds.map .val) := by
  have nomut : ∀ a, ¬ MutAt (vs.map some) (ds.map .val) a := fun a ⟨i, s, xs, e1, e2, _⟩ => by
    obtain ⟨d, _, rfl⟩ := map_val_some e1
    cases e2
  refine ⟨by rw [List.length_map, List.length_map, RepL.length r1], I1.sh, fun i d h => ?_, fun i s xs h hm => ?_, fun i j s t xs ys p h1 m1 _ _ _ _ => ?_, ⟨I1.old.1, fun a m => absurd m (nomut a)⟩⟩
  · obtain ⟨d', hd, e⟩ := map_val_some h
    cases e
    obtain ⟨w, k1, k2⟩ := RepL.get r1 hd
    exact ⟨w, by rw [List.getElem?_map, k1]; rfl, k2⟩
  · obtain ⟨d', _, rfl⟩ := map_val_some h
    cases hm
  · obtain ⟨d', _, rfl⟩ := map_val_some h1
    cases m1
def vxOf (r : ResX) (e : MEnv) : VX := match r with
  | .ret s => .v s e
  | .exc x => .rs x e
theorem sp_callV {n : Nat} {run : RunX} {ds : List PyData} {vs : List V} {Hs1 H1 Hs0 H0 : Hp} {env0 : MEnv} {r : ResX} {Wr : WX} (hl : ds.length = n) (hr : run ds = some r) (g1 : GoE σ env0 Hs0 H0 env' Hs1 H1) (I1 : InvS K Hs1 H1 σ env') (r1 : RepL K Hs1 ds vs) {Q : VK}
    (q : VXok mg K σ env0 Hs0 H0 (vxOf r env') Q Wr) : spX mg K n run vs H1 Q (WE Wr σ) := by
  refine ⟨inferInstance, ds, Hs1, r, hl, hr, args_inv I1 r1, ?_⟩
  cases r with
  | ret s =>
    intro v Hs' H' g I' rr
    obtain ⟨ge, I2⟩ := call_back I1 r1 g I'
    exact q v Hs' H' (g1.trans ge) I2 (RepR.mono (fun p hp => g1.none_back hp) rr)
  | exc x =>
    intro cls d Hs' H' g I' rr
    obtain ⟨ge, I2⟩ := call_back I1 r1 g I'
    exact q cls d Hs' H' (g1.trans ge) I2 rr
theorem xe_call {k n : Nat} {run : RunX} {x : Str} {p : Pos} {es : List Expr} {fs : MEnv → Option (List PyData × MEnv)} (o : OwnX X.prog X.w X.K X.mg X.base k x n run) (hG : X.A.guards = some []) (hr : Room k X.A) (hg : Gl X x) (ha : SA X (e :: es) fs)
    (hp : (e :: es).all plainE = true) (hd : (x == ("__debug__" : Str)) = false) : XE X (.Call (.Name x p) (e :: es) [] pos) (callV n run fs) := by
  refine ⟨?_⟩
  intro Wr tk env σ Hs H r hf I Q q
  rw [List.all_cons, Bool.and_eq_true] at hp
  refine W.of (pe_goX o.ok hG hr tk hg o.at_ o.kp o.bi (WA.pa X (e :: es)) hd (star_plain hp.1) (star_any hp.2)) ?_
  unfold callV at hf
  split at hf
  · rename_i ds e1 h1
    split at hf
    · rename_i hl
      split at hf
      · rename_i r0 hr0
        cases hf
        exact ha env σ Hs H ds e1 h1 I _ fun vs Hs1 H1 g1 I1 r1 => sp_callV hl hr0 g1 I1 r1 q
      · rename_i x0 hr0
        cases hf
        exact ha env σ Hs H ds e1 h1 I _ fun vs Hs1 H1 g1 I1 r1 => sp_callV hl hr0 g1 I1 r1 q
      · cases hf
    · cases hf
  · cases hf
theorem xe_callK {k m n : Nat} {ks : List Str} {run : RunX} {x : Str} {p : Pos} {es : List Expr} {kws : List Keyword} {fs gs : MEnv → Option (List PyData × MEnv)} (o : OwnXK X.prog X.w X.K X.mg X.base k x m n ks run) (hG : X.A.guards = some []) (hr : Room k X.A) (hg : Gl X x) (ha : SA X (e :: es) fs) (hkw : SK X kws gs)
    (hp : (e :: es).all plainE = true) (hall : (backToKw pos (keywordEach kws X.env)).all (·.1.isSome) = true) (hks : (backToKw pos (keywordEach kws X.env)).filterMap (·.1) = ks) (hno : (backToKw pos (keywordEach kws X.env)).any (·.1.isNone) = false) (hd : (x == ("__debug__" : Str)) = false) : XE X (.Call (.Name x p) (e :: es) kws pos) (callV (m + n) run (appA m fs gs)) := by
  refine ⟨?_⟩
  intro Wr tk env σ Hs H r hf I Q q
  have hp2 := hp
  rw [List.all_cons, Bool.and_eq_true] at hp
  refine W.of (pe_goXK o.ok hG hr tk hg o.at_ o.kp o.kb (WA.pa X (e :: es)) (WK.pk X kws) hall hks hd (star_plain hp.1) (by rw [star_any hp2, hno]; rfl)) ?_
  unfold callV at hf
  split at hf
  · rename_i ds e1 h1
    split at hf
    · rename_i hl
      have main : ∀ r0, run ds = some r0 → VXok X.mg X.K σ env Hs H (vxOf r0 e1) Q Wr → WA X (e :: es) σ H fun vs H1 => WK X kws σ H1 fun zs H2 => spX X.mg X.K (m + n) run (kwV m n vs zs) H2 Q (WE Wr σ) := by
        intro r0 hr0 q
        unfold appA at h1
        split at h1
        · rename_i d1 e2 h2
          split at h1
          · rename_i hm
            split at h1
            · rename_i d2 e3 h3
              cases h1
              refine ha env σ Hs H d1 e2 h2 I _ fun vs Hs1 H1 g1 I1 r1 => ?_
              refine hkw.run e2 σ Hs1 H1 d2 _ h3 I1 _ fun zs Hs2 H2 g2 I2 r2 => ?_
              have lv : vs.length = m := by rw [← RepL.length r1]; exact hm
              have lz : zs.length = n := by
                rw [← RepL.length r2]
                rw [List.length_append] at hl
                omega
              unfold kwV
              rw [if_pos ⟨lv, lz⟩]
              exact sp_callV hl hr0 (g1.trans g2) I2 (RepL.app (RepL.mono g2.sh d1 vs r1) r2) q
            · cases h1
          · cases h1
        · cases h1
      split at hf
      · rename_i r0 hr0
        cases hf
        exact main _ hr0 q
      · rename_i x0 hr0
        cases hf
        exact main _ hr0 q
      · cases hf
    · cases hf
  · cases hf
end Ip

set_option Elab.async false
set_option linter.all false
set_option maxRecDepth 100000
set_option maxHeartbeats 4000000
/-! comprehensions over range where an error is being handled -/
namespace L2
open PySem PySem.Spec PyProof.Rows
section
variable {X : Cx}
theorem lc_coreH {pp : Addr × Obj} {pins : List (Addr × Obj)} {s : Shared} {σ : St} {H : Hp} {Q : VK} {elt tg iter : Expr} {ifs : List Expr} {scope : Scope} {own : List (Str × Nat)} {pos pos' : Pos} {wi : TI} {g : TG} {tt : TT} {te : TE} {use : Option (Value → Sem Unit)} {Qf : Value → Shared → Prop}
    (hot1 : L2H.Hot1 X.A pp) (hpp : pp ∈ X.pn) (hN : X.N.Nodup) (I : Inv X pins σ H s) (hi : L2H.PIH X tg iter wi) (ok : BlkOk X.N X.env.scope scope own)
    (hg : ∀ (s : Shared) (H : Hp) (C : Addr) (cl : List (Str × Addr)) (fp : List Addr), PG (X.blk s H scope (compEnvC scope cl C X.env) fp) tg g) (ht : ∀ (s : Shared) (H : Hp) (C : Addr) (cl : List (Str × Addr)) (fp : List Addr), PTs (X.blk s H scope (compEnvC scope cl C X.env) fp) ifs tt)
    (he : ∀ (s : Shared) (H : Hp) (C : Addr) (cl : List (Str × Addr)) (fp : List Addr), PE (X.blk s H scope (compEnvC scope cl C X.env) fp) elt te) (hs : ∀ x, foldedSetIterable iter X.env x = pure x)
    (h : tLc wi g tt te (own.map (·.2)) σ H Q)
    (hRR : ∀ D C s' m H', Inv X pins σ H' s' → Q (.ref D) H' → s'.heap.Ns C m → FpOk X pins H' C → compPost (model X.prog X.w) X.A X.xe use Qf (.ref D) C (.ok .next) s') :
    wpAny (model X.prog X.w) X.A (comprehension (.ListComp elt [⟨tg, iter, ifs, 0⟩] scope pos) scope X.env pos' (newList []) false (eval iter X.env) use) Qf X.xe s := by
  have hfree : ∀ y ∈ scope.names, y.2 = .free → ∃ c, X.env.cells.lookup y.1 = some c := fun y hy e => by
    rcases ok.free y hy e with k | k
    · exact I.ok.has _ (.inl k)
    · exact I.ok.has _ (.inr k)
  refine wpAny_comprehension_free (use := use) rfl hs (closure_ok hfree) ok.kind (fun y hy e => by rw [ok.uniq y hy, e])
    (thn (hi.run pins s σ H _ I h) fun xv s1 hx => thn hx fun itv s2 h2 => ?_)
  obtain ⟨it, fp, tn, J, H2, e, I2, T, st2, f2, q⟩ := h2
  subst e
  refine wpAny_newObj_type (newEnv_comp ?_) (by show 0 ≤ sizeLine; decide)
  generalize hD : s2.heap.objs.size = D
  have hDn : H2 D = none := I2.hok.fresh (Nat.le_of_eq hD)
  obtain ⟨W, ⟨m0, w0⟩, turn⟩ := q D hDn
  -- the new list
  generalize hs3 : ({ s2 with heap := s2.heap.push { cls := .type "list", data := .seq ([] : List Value).toArray } } : Shared) = s3
  have I3 : Inv X pins σ (upd H2 D (.lst [])) s3 := by
    rw [← hs3]
    refine I2.laid (t' := s2.toks) (fun b o e => Heap.get?_push_of_some _ e) (Nat.le_of_eq hD) ⟨Nat.zero_le _, [], 0, .nil, ?_⟩
    rw [← hD]
    exact Heap.get?_push_size _ rfl
  have h3 : s3.heap = s2.heap.push { cls := .type "list", data := .seq ([] : List Value).toArray } := by rw [← hs3]
  have sz : ∀ b ∈ fp, b < s2.heap.objs.size := fun b hb => by
    obtain ⟨o, e, _⟩ := T.obj _ _ st2 b hb
    exact Heap.lt_size e
  have f3 : ∀ b ∈ fp, FpOk X pins (upd H2 D (.lst [])) b ∧ b < s3.heap.objs.size := fun b hb => by
    have hlt := sz b hb
    refine ⟨⟨?_, (f2 b hb).2⟩, by rw [h3, Heap.size_push]; exact Nat.lt_succ_of_lt hlt⟩
    rw [upd_ne (by rw [← hD]; exact Nat.ne_of_lt hlt)]
    exact (f2 b hb).1
  have st3 : tn 0 s3.heap := T.keep _ _ _ st2 fun b _ o e => by rw [h3]; exact Heap.get?_push_of_some _ e
  -- the error that is being handled, seen from the block
  have p3 := I3.pin pp (List.mem_append_left _ hpp)
  have pfs : pp.1 ∉ frs X.stack := fun hm => by
    rcases List.mem_cons.mp (I3.stkSub pp.1 hm) with z | z
    · exact p3.2.2.1 z
    · exact p3.2.2.2.1 z
  have pfp : pp.1 ∉ fp := fun hm => (f3 pp.1 hm).1.2.2.2.2.2 pp (List.mem_append_left _ hpp) rfl
  have I4 := block_start I3 ok hN f3
  have pg := hg s3 (upd H2 D (.lst [])) s3.heap.objs.size (cellsFrom (s3.heap.objs.size + 1) scope.names (cloFrom X.env.cells scope.names [])) fp
  have pt := ht s3 (upd H2 D (.lst [])) s3.heap.objs.size (cellsFrom (s3.heap.objs.size + 1) scope.names (cloFrom X.env.cells scope.names [])) fp
  have pe := he s3 (upd H2 D (.lst [])) s3.heap.objs.size (cellsFrom (s3.heap.objs.size + 1) scope.names (cloFrom X.env.cells scope.names [])) fp
  show codeAny _ _ (.compStart (.ListComp elt [⟨tg, iter, ifs, 0⟩] scope pos) 0 (.ref it) (.ref D) (compEnvC scope (cellsFrom (s3.heap.objs.size + 1) scope.names (cloFrom X.env.cells scope.names [])) s3.heap.objs.size X.env)) (compPost (model X.prog X.w) X.A X.xe use Qf (.ref D) s3.heap.objs.size) { s3 with heap := pushCells (s3.heap.push { cls := .type "dict", data := .dict #[] }) scope.names }
  have nfp : ∀ b ∈ fp, (upd H2 D (.lst [])) b = none := fun b hb => (f3 b hb).1.1
  generalize hce : compEnvC scope (cellsFrom (s3.heap.objs.size + 1) scope.names (cloFrom X.env.cells scope.names [])) s3.heap.objs.size X.env = ce at I4 pg pt pe ⊢
  have cL : ce.locals = s3.heap.objs.size := by subst hce; rfl
  generalize hH3 : upd H2 D (.lst []) = H3 at I3 I4 pg pt pe w0 nfp f3 p3
  generalize hs4 : ({ s3 with heap := pushCells (s3.heap.push { cls := .type "dict", data := .dict #[] }) scope.names } : Shared) = s4 at I4 ⊢
  have st4 : tn 0 s4.heap := T.keep _ _ _ st3 fun b _ o e => by rw [← hs4]; exact pushCells_keeps _ _ _ _ (Heap.get?_push_of_some _ e)
  have stat : ∀ {σ' : St} {H' : Hp} {s' : Shared}, Inv (X.blk s3 H3 scope ce fp) [] σ' H' s' → (∀ b ∈ fp, H' b = none) → ∀ b ∈ fp, FpOk (X.blk s3 H3 scope ce fp) [] H' b := fun {σ' H' s'} I' hn b hb =>
    ⟨hn b hb, (I'.ok.exf b hb).1, I'.ok.exfs b hb, .inl hb, fun x c e => (I'.ok.exf b hb).2 x c e, fun p hp => absurd (show p ∈ ([] : List (Addr × Obj)) ++ [] from hp) (by simp)⟩
  have lft : ∀ {pl : List (Addr × Obj)} {σ' : St} {H' : Hp} {s' : Shared}, Inv (X.blk s3 H3 scope ce fp) pl σ' H' s' → Inv { X.blk s3 H3 scope ce fp with pn := [pp] } pl σ' H' s' := fun {pl σ' H' s'} I' =>
    ⟨⟨I'.ok.mod, I'.ok.kind, I'.ok.glob, I'.ok.blt, I'.ok.above, I'.ok.inj, I'.ok.has, I'.ok.cab, I'.ok.hd, I'.ok.frames, I'.ok.stk, I'.ok.exf, I'.ok.bs, I'.ok.bsz, I'.ok.noex, I'.ok.exfs, I'.ok.funs, I'.ok.frf⟩, I'.os, I'.bare, I'.base, I'.loc, I'.cell, I'.free, I'.freeC, fun q hq => by
      rcases List.mem_append.mp hq with z | z
      · have e : q = pp := by simpa using z
        subst e
        refine ⟨I'.base.keep _ _ p3.1 p3.2.1 pfs pfp, I'.base.free _ _ p3.1 p3.2.1 pfp, ?_, pfs, p3.2.2.2.2⟩
        show q.1 ≠ ce.locals
        rw [cL]
        exact Nat.ne_of_lt (Heap.lt_size p3.1)
      · exact I'.pin q (List.mem_append_right _ z), I'.hok, I'.len⟩
  have drp : ∀ {pl : List (Addr × Obj)} {σ' : St} {H' : Hp} {s' : Shared}, Inv { X.blk s3 H3 scope ce fp with pn := [pp] } pl σ' H' s' → Inv (X.blk s3 H3 scope ce fp) pl σ' H' s' := fun {pl σ' H' s'} I' =>
    ⟨⟨I'.ok.mod, I'.ok.kind, I'.ok.glob, I'.ok.blt, I'.ok.above, I'.ok.inj, I'.ok.has, I'.ok.cab, I'.ok.hd, I'.ok.frames, I'.ok.stk, I'.ok.exf, I'.ok.bs, I'.ok.bsz, I'.ok.noex, I'.ok.exfs, I'.ok.funs, I'.ok.frf⟩, I'.os, I'.bare, I'.base, I'.loc, I'.cell, I'.free, I'.freeC, fun q hq => I'.pin q (List.mem_append_right _ hq), I'.hok, I'.len⟩
  have hotB : L2H.HotC { X.blk s3 H3 scope ce fp with pn := [pp] } := ⟨pp, hot1, List.mem_singleton.mpr rfl⟩
  have statY : ∀ {σ' : St} {H' : Hp} {s' : Shared}, Inv (X.blk s3 H3 scope ce fp) [] σ' H' s' → (∀ b ∈ fp, H' b = none) → ∀ b ∈ fp, FpOk { X.blk s3 H3 scope ce fp with pn := [pp] } [] H' b := fun {σ' H' s'} I' hn b hb =>
    ⟨hn b hb, (I'.ok.exf b hb).1, I'.ok.exfs b hb, .inl hb, fun x c e => (I'.ok.exf b hb).2 x c e, fun q hq z => by
      have e : q = pp := by simpa using hq
      subst e
      exact pfp (z ▸ hb)⟩
  have loop : codeAny (model X.prog X.w) X.A (.compLoop (.ListComp elt [⟨tg, iter, ifs, 0⟩] scope pos) 0 (.ref it) (.ref D) ce) (compPost (model X.prog X.w) X.A X.xe use Qf (.ref D) s3.heap.objs.size) s4 := by
    refine compLoop_any (fun n s' => ∃ i H', Inv (X.blk s3 H3 scope ce fp) [] (wipe σ (own.map (·.2))) H' s' ∧ tn i s'.heap ∧ (∀ b ∈ fp, H' b = none) ∧ W i n H') ?_ m0 ⟨0, H3, I4, st4, nfp, w0⟩
    rintro n s5 ⟨i, H5, I5, st5, n5, w5⟩
    rcases turn i n H5 w5 with ⟨stop, qq⟩ | ⟨go, Nx, hNx, step⟩
    · have td := T.done { X.blk s3 H3 scope ce fp with pn := [pp] } rfl rfl rfl hotB i [] s5 _ H5 (fun _ _ => False) (lft I5) (statY I5 n5) st5 stop
      refine thnF td fun r s6 ⟨hr, I6'⟩ => ?_
      have I6 := drp I6'
      subst hr
      -- back in the def's context
      have I7 : Inv X pins σ H5 s6 := I3.call' (ch := fp) I6.os I6.base I6.hok I6.bare fun b hb => ⟨(f3 b hb).1.2.2.2.1, (f3 b hb).1.2.1, (f3 b hb).1.2.2.2.2.1, (f3 b hb).1.2.2.2.2.2⟩
      have nC : H5 s3.heap.objs.size = none := by
        have z : H5 ce.locals = none := I6.free
        rw [cL] at z
        exact z
      obtain ⟨m, hn, _⟩ := I6.loc
      have hn : s6.heap.Ns ce.locals m := hn
      rw [cL] at hn
      exact hRR D s3.heap.objs.size s6 m H5 I7 qq hn (I3.fpOk (Nat.le_refl _) nC)
    · have ti := T.item { X.blk s3 H3 scope ce fp with pn := [pp] } rfl rfl rfl hotB i [] s5 _ H5 (fun _ _ => False) (lft I5) (statY I5 n5) st5 go
      refine thnF ti fun r s6 ⟨u, hr, h6⟩ => ?_
      subst hr
      refine thnF h6 fun _ s7 ⟨x, H7, I7y, r7, y7, st7, n7⟩ => ?_
      have I7 := drp I7y
      have I7' := I7.pinned (stat I7 n7) (T.obj _ _ st7)
      refine thnF (pg.run _ s7 _ H7 x u _ I7' r7 (step x H7 y7)) fun _ s8 ⟨σ8, H8, I8, hw8, q8⟩ => ?_
      refine thnF (pt.run _ s8 σ8 H8 _ I8 q8) fun b s9 ⟨H9, I9, q9⟩ => ?_
      -- the turn's end
      have fin : ∀ {s' : Shared} {H' : Hp}, Inv (X.blk s3 H3 scope ce fp) ([] ++ pinsAt fp s7.heap) σ8 H' s' → Nx H' → ∃ m, m < n ∧ ∃ i H', Inv (X.blk s3 H3 scope ce fp) [] (wipe σ (own.map (·.2))) H' s' ∧ tn i s'.heap ∧ (∀ b ∈ fp, H' b = none) ∧ W i m H' := fun {s' H'} I' nx => by
        obtain ⟨m', hm, w'⟩ := hNx H' nx
        have pin' : ∀ b ∈ fp, ∀ o, s7.heap.get? b = some o → s'.heap.get? b = some o ∧ H' b = none := fun b hb o e =>
          let z := I'.pin (b, o) (List.mem_append_right _ (List.mem_append_right _ (mem_pinsAt hb e)))
          ⟨z.1, z.2.1⟩
        have hl : (wipe σ (own.map (·.2))).length = σ8.length := by rw [← hw8, wipe_length]
        refine ⟨m', hm, i + 1, H', (I'.unpinned (pins := [])).weak hl (fun j v e => ?_), T.keep _ _ _ st7 fun b hb o e => (pin' b hb o e).1, fun b hb => ?_, w'⟩
        · rw [← hw8] at e
          exact (wipe_some e).1
        · obtain ⟨o, e, _⟩ := T.obj _ _ st7 b hb
          exact (pin' b hb o e).2
      cases b with
      | false =>
        simp only [Bool.false_eq_true, if_false] at q9 ⊢
        exact fin I9 q9
      | true =>
        simp only [if_true] at q9 ⊢
        refine thnF (pe.run _ s9 σ8 H9 _ I9 q9) fun z s10 ⟨yv, H10, I10, r10, acc, hD10, hz10, nx⟩ => ?_
        exact app_ok (X := X.blk s3 H3 scope ce fp) I10 hD10 hz10 r10 fun s11 I11 => fin I11 nx
  exact codeAny_compStart_list loop (T.self X.A 0 _ _ _ st4 loop)
/-- as a value -/
theorem pe_lcH {pp : Addr × Obj} {elt tg iter : Expr} {ifs : List Expr} {scope : Scope} {own : List (Str × Nat)} {pos : Pos} {wi : TI} {g : TG} {tt : TT} {te : TE} (hot1 : L2H.Hot1 X.A pp) (hpp : pp ∈ X.pn) (hN : X.N.Nodup) (hi : L2H.PIH X tg iter wi) (ok : BlkOk X.N X.env.scope scope own)
    (hg : ∀ (s : Shared) (H : Hp) (C : Addr) (cl : List (Str × Addr)) (fp : List Addr), PG (X.blk s H scope (compEnvC scope cl C X.env) fp) tg g) (ht : ∀ (s : Shared) (H : Hp) (C : Addr) (cl : List (Str × Addr)) (fp : List Addr), PTs (X.blk s H scope (compEnvC scope cl C X.env) fp) ifs tt)
    (he : ∀ (s : Shared) (H : Hp) (C : Addr) (cl : List (Str × Addr)) (fp : List Addr), PE (X.blk s H scope (compEnvC scope cl C X.env) fp) elt te) (hs : ∀ x, foldedSetIterable iter X.env x = pure x := by intro _; rfl) :
    PE X (.ListComp elt [⟨tg, iter, ifs, 0⟩] scope pos) (tLc wi g tt te (own.map (·.2))) := by
  refine ⟨fun pins s σ H Q I h => ?_⟩
  rw [eval_ListComp]
  refine lc_coreH hot1 hpp hN I hi ok hg ht he hs h fun D C s' m H' I' q hn f => ⟨m, hn, fun h'' sb => ?_⟩
  obtain ⟨f0, f1, f2, f3, f4, f5⟩ := f
  exact ⟨.ref D, H', I'.turned (t' := s'.toks) (fun b o hb e => (sb.2 b hb).trans e) f0 f1 f3 f4 f5, rfl, q⟩
/-- name = [..] on one line, the name a local -/
theorem ps_setLcH {pp : Addr × Obj} {i : Nat} {y : Str} {py : Pos} {elt tg iter : Expr} {ifs : List Expr} {scope : Scope} {own : List (Str × Nat)} {pos spos : Pos} {wi : TI} {g : TG} {tt : TT} {te : TE} (hot1 : L2H.Hot1 X.A pp) (hpp : pp ∈ X.pn) (hN : X.N.Nodup) (hy : X.N[i]? = some y) (hyl : X.env.scope.names.lookup y = some .local)
    (hsw : swapsWith (.ListComp elt [⟨tg, iter, ifs, 0⟩] scope pos) (some (.Name y py)) spos.line X.env = pure true) (hi : L2H.PIH X tg iter wi) (ok : BlkOk X.N X.env.scope scope own)
    (hg : ∀ (s : Shared) (H : Hp) (C : Addr) (cl : List (Str × Addr)) (fp : List Addr), PG (X.blk s H scope (compEnvC scope cl C X.env) fp) tg g) (ht : ∀ (s : Shared) (H : Hp) (C : Addr) (cl : List (Str × Addr)) (fp : List Addr), PTs (X.blk s H scope (compEnvC scope cl C X.env) fp) ifs tt)
    (he : ∀ (s : Shared) (H : Hp) (C : Addr) (cl : List (Str × Addr)) (fp : List Addr), PE (X.blk s H scope (compEnvC scope cl C X.env) fp) elt te) (hs : ∀ x, foldedSetIterable iter X.env x = pure x := by intro _; rfl) :
    PS X (.Assign [.Name y py] (.ListComp elt [⟨tg, iter, ifs, 0⟩] scope pos) spos) (tAsg (tLc wi g tt te (own.map (·.2))) (gName i)) := by
  refine ⟨fun pins s σ H D I h => ?_⟩
  rw [exec_Assign_Name_used _ _ _ _ hsw]
  refine wpAny_bind (wpAny_standAt (wpAny_bind ?_))
  show wpAny _ X.A (do let _ ← comprehension (.ListComp elt [⟨tg, iter, ifs, 0⟩] scope pos) scope X.env (firstIterPos [⟨tg, iter, ifs, 0⟩] pos) (newList []) false (eval iter X.env) (some (assign (.Name y py) X.env))) _ _ s
  have h : tLc wi g tt te (own.map (·.2)) σ H (fun x H1 => gName i x σ H1 D.nx) := h
  refine wpAny_bind (thn (lc_coreH (Qf := fun _ s' => SP X pins D .next s') hot1 hpp hN I hi ok hg ht he hs h fun L C s' m H' I' q hn f => ?_) fun _ s' hq => wpAny_pure (wpAny_pure hq))
  show wpAny _ _ (assign (.Name y py) X.env (.ref L)) _ _ _
  refine wpAny_assign_Name (store_ok2 (v := V.ref L) I' hN hy (.inl hyl) rfl (fun s2 I2 ⟨a, sb, ha⟩ => ?_) (.inr hyl))
  obtain ⟨f0, f1, f2, f3, f4, f5⟩ := f
  have haC : C ≠ a := by
    rcases ha with z | z
    · rw [z]; exact f1
    · exact fun e => f4 y a z e.symm
  refine ⟨m, hn.sameBut sb haC, fun h3 sb3 => ?_⟩
  exact ⟨_, H', I2.turned (t' := s2.toks) (fun b o hb e => (sb3.2 b hb).trans e) f0 f1 f3 f4 f5, q⟩
end
end L2

set_option Elab.async false
set_option linter.all false
set_option maxRecDepth 100000
set_option maxHeartbeats 4000000
/-! try; what stands in an except suite -/
namespace Ip
open PySem L2
open Evl (Ex sz_of fresh_back)
/-! ### the facts of a context where an error is being handled -/
structure CtxW (X : Cx) (N : List Str) (sc : Scope) (fl : Bool) : Prop where
  hN : X.N = N
  hsc : X.env.scope = sc
  nd : N.Nodup
  fn : fl = true → ∀ x, X.fn x = true
section
variable {X : Cx} {N : List Str} {sc : Scope} {fl : Bool} {x : Str} {pos : Pos}
theorem pvcW (c : CtxW X N sc fl) (i : Nat) (h : (decide (N[i]? = some x) && visB sc x && !(x == ("__debug__" : Str)) && !(x == ("__classdict__" : Str))) = true) : PE X (.Name x pos) (tVar i) := by
  simp only [Bool.and_eq_true, Bool.not_eq_true', decide_eq_true_eq] at h
  obtain ⟨⟨⟨h1, h2⟩, h3⟩, h4⟩ := h
  refine pe_var (by rw [c.hN]; exact h1) ?_ h3 h4
  unfold Vis
  rw [c.hsc]
  unfold visB at h2
  split at h2
  · exact .inl (by assumption)
  · exact .inr (.inl (by assumption))
  · exact .inr (.inr (by assumption))
  · cases h2
theorem glcW (c : CtxW X N sc fl) (h : gloB sc x = true) : Gl X x := by
  unfold gloB at h
  split at h
  · show X.env.scope.names.lookup x = some .globalImplicit
    rw [c.hsc]
    assumption
  · cases h
theorem loc_ofW (c : CtxW X N sc fl) (h : locB sc fl x = true) : L2.Loc X.env.scope x ∧ (X.fn x = true ∨ X.env.scope.names.lookup x = some .local) := by
  unfold L2.Loc
  rw [c.hsc]
  unfold locB at h
  split at h
  · exact ⟨.inl (by assumption), .inr (by assumption)⟩
  · exact ⟨.inr (by assumption), .inl (c.fn h x)⟩
  · cases h
theorem tgcW (c : CtxW X N sc fl) (i : Nat) (h : (decide (N[i]? = some x) && locB sc fl x) = true) : PG X (.Name x pos) (gName i) := by
  simp only [Bool.and_eq_true, decide_eq_true_eq] at h
  obtain ⟨h1, h2⟩ := h
  obtain ⟨k1, k2⟩ := loc_ofW c h2
  exact pg_name (by rw [c.hN]; exact c.nd) (by rw [c.hN]; exact h1) k1 k2
theorem pscW (c : CtxW X N sc fl) (i : Nat) {e : Expr} {p2 : Pos} (h : (decide (N[i]? = some x) && locB sc fl x) = true) (hs : swapsWith e (some (.Name x p2)) pos.line X.env = pure false) : PS X (.Assign [.Name x p2] e pos) (tAsg (W X e) (gName i)) := by
  simp only [Bool.and_eq_true, decide_eq_true_eq] at h
  obtain ⟨h1, h2⟩ := h
  obtain ⟨k1, k2⟩ := loc_ofW c h2
  exact ps_set (by rw [c.hN]; exact c.nd) (by rw [c.hN]; exact h1) k1 (W.pe X e) hs k2
theorem CtxW.blk (c : CtxW X N sc fl) (scope : Scope) (s : Shared) (H : Hp) (C : Addr) (cl : List (Str × Addr)) (fp : List Addr) : CtxW (Bk X scope s H C cl fp) N (relS scope sc) false where
  hN := c.hN
  hsc := by
    show PySem.relabel scope X.env = relS scope sc
    rw [← c.hsc]
    rfl
  nd := c.nd
  fn := fun h => by cases h
theorem bkcW (c : CtxW X N sc fl) {scope : Scope} {own : List (Str × Nat)} (h : blkC N sc scope own = true) : BlkOk X.N X.env.scope scope own := by
  rw [c.hN, c.hsc]
  exact blkOk_by h
theorem CtxF.tr (c : CtxF X N sc fl) (pn : List (Addr × Obj)) (xe : Value → Shared → Prop) (po : PassesOwn (model X.prog X.w) X.A X.env xe) : CtxF (X.tr pn xe) N sc fl := ⟨c.hN, c.hsc, c.nd, c.calm, c.fn, po⟩
theorem CtxF.suite (c : CtxF X N sc fl) (a : Addr) (pn : List (Addr × Obj)) : CtxW (X.suite a pn) N sc fl := ⟨c.hN, c.hsc, c.nd, c.fn⟩
end
variable [Old]
/-! ### comprehensions over range there -/
structure SIH (X : Cx) (tg iter : Expr) (wi : TI) (f : MEnv → Option (List PyData × MEnv)) : Prop where
  pi : L2H.PIH X tg iter wi
  run : ∀ (env : MEnv) (σ : L2.St) (Hs H : Hp) (ds : List PyData) (env' : MEnv), f env = some (ds, env') → InvS X.K Hs H σ env → ∀ R : It → Hp → Prop, (∀ J Hs' H', GoE σ env Hs H env' Hs' H' → InvS X.K Hs' H' σ env' → WalkD X.K J Hs' ds → R J H') → wi σ H R
theorem sih_rng1 {X : Cx} {a tg : Expr} {p pos : Pos} {f : MEnv → Option (List PyData × MEnv)} (hg : Gl X "range") (hm : X.mg "range" = none) (h : SA X [a] f) (hp : plainE a = true) : SIH X tg (.Call (.Name "range" p) [a] [] pos) (iRng1 (WA X [a])) (rng1I f) := by
  refine ⟨L2H.pi_range1H hg hm (WA.pa X [a]) (star_plain hp), ?_⟩
  intro env σ Hs H ds env' hf I R q
  unfold rng1I at hf
  split at hf
  · rename_i n e1 h1
    split at hf
    · rename_i hc
      cases hf
      refine h env σ Hs H _ env' h1 I _ fun vs Hs1 H1 g1 I1 r1 => ?_
      obtain ⟨v, r, rfl, rfl, rfl⟩ := r1
      exact ⟨n, rfl, hc.1, hc.2, q _ Hs1 H1 g1 I1 (walk_rng 0 n.toNat)⟩
    · cases hf
  · cases hf
section
variable {X : Cx} {N : List Str} {sc : Scope} {fl : Bool} {scope : Scope} {tg iter elt : Expr} {ifs : List Expr} {fi : MEnv → Option (List PyData × MEnv)} {fg : PyData → MEnv → Option MEnv} {ft : MEnv → Option (Bool × MEnv)} {fe : MEnv → Option (PyData × MEnv)} {pos spos py : Pos} {y : Str} {wi : TI} {pp : Addr × Obj}
theorem se_compH (own : List (Str × Nat)) (c : CtxW X N sc fl) (hot1 : L2H.Hot1 X.A pp) (hpp : pp ∈ X.pn) (hb : blkC N sc scope own = true) (hi : SIH X tg iter wi fi) (hg : ∀ s H C cl fp, CtxW (Bk X scope s H C cl fp) N (relS scope sc) false → SG (Bk X scope s H C cl fp) tg (own.map (·.2)) fg)
    (ht : ∀ s H C cl fp, CtxW (Bk X scope s H C cl fp) N (relS scope sc) false → STs (Bk X scope s H C cl fp) ifs ft) (he : ∀ s H C cl fp, CtxW (Bk X scope s H C cl fp) N (relS scope sc) false → SV (Bk X scope s H C cl fp) elt fe)
    (hs : ∀ x, foldedSetIterable iter X.env x = pure x) : SE X (.ListComp elt [⟨tg, iter, ifs, 0⟩] scope pos) (compF fi fg ft fe (own.map (·.2))) := by
  refine ⟨?_⟩
  intro env σ Hs H r env' hf I Q q
  have C := compOk (X := X) (fun s H C cl fp => hg s H C cl fp (c.blk scope s H C cl fp)) (fun s H C cl fp => ht s H C cl fp (c.blk scope s H C cl fp)) (fun s H C cl fp => he s H C cl fp (c.blk scope s H C cl fp))
  exact W.of (pe_lcH hot1 hpp (by rw [c.hN]; exact c.nd) hi.pi (bkcW c hb) C.pg C.pt C.pe hs) (rd_compT hi.run C hf I Q q)
theorem ss_asgCH (own : List (Str × Nat)) (i : Nat) (c : CtxW X N sc fl) (hot1 : L2H.Hot1 X.A pp) (hpp : pp ∈ X.pn) (hw : swC N sc scope i y py pos = true) (hb : blkC N sc scope own = true) (hi : SIH X tg iter wi fi) (hg : ∀ s H C cl fp, CtxW (Bk X scope s H C cl fp) N (relS scope sc) false → SG (Bk X scope s H C cl fp) tg (own.map (·.2)) fg)
    (ht : ∀ s H C cl fp, CtxW (Bk X scope s H C cl fp) N (relS scope sc) false → STs (Bk X scope s H C cl fp) ifs ft) (he : ∀ s H C cl fp, CtxW (Bk X scope s H C cl fp) N (relS scope sc) false → SV (Bk X scope s H C cl fp) elt fe)
    (hs : ∀ x, foldedSetIterable iter X.env x = pure x) : SS X (.Assign [.Name y py] (.ListComp elt [⟨tg, iter, ifs, 0⟩] scope pos) spos) (asgB i (compF fi fg ft fe (own.map (·.2)))) := by
  unfold swC at hw
  simp only [Bool.and_eq_true, decide_eq_true_eq, Bool.not_eq_true'] at hw
  obtain ⟨⟨⟨⟨h1, h2⟩, h3⟩, h4⟩, h5⟩ := hw
  have h3' : X.env.scope.kind = .function := by
    rw [c.hsc]
    split at h3
    · assumption
    · cases h3
  have h2' : X.env.scope.names.lookup y = some .local := by rw [c.hsc]; exact h2
  refine ⟨?_⟩
  intro env σ Hs H o hf I D q
  have C := compOk (X := X) (fun s H C cl fp => hg s H C cl fp (c.blk scope s H C cl fp)) (fun s H C cl fp => ht s H C cl fp (c.blk scope s H C cl fp)) (fun s H C cl fp => he s H C cl fp (c.blk scope s H C cl fp))
  refine WS.of (ps_setLcH hot1 hpp (by rw [c.hN]; exact c.nd) (by rw [c.hN]; exact h1) h2' (sw_true h3' h2' h4 h5) hi.pi (bkcW c hb) C.pg C.pt C.pe hs) ?_
  exact rd_asg (fun r e1 h1 Q k => rd_compT hi.run C h1 I Q k) hf I q
end
/-! ### the error that is being handled -/
def errD (a : Nat) : PyData := .dict [(.bool false, .int a)]
/-- the error x, at a, its fields' dict at dd -/
def errX (x : Err) (a dd : Nat) : PyData := match x.fs with
  | [] => errD a
  | p :: r => .dict ((.bool false, .int a) :: (.int dd, .none) :: (p :: r).map fun p => (.str p.1, .int p.2))
theorem rep_err {K : PySem.W.Frag} {H : Hp} {n : Int} {r : List (PyData × PyData)} {v : V} (h : Rep K H (.dict ((.bool false, .int n) :: r)) v) : ∃ a : Nat, n = (a : Int) ∧ v = .ref a ∧ xfRep H r := by
  rcases (show Rep K H (.dict ((.bool false, .int n) :: r)) v from h) with h | ⟨d', e, _⟩ | ⟨_, _, _, e, _⟩ | ⟨m, r', e, rfl, h⟩ | ⟨_, _, _, _, e, _⟩
  · obtain ⟨a, C, dx, fs, c, v0, _, _, _, h⟩ := h
    obtain ⟨w, r, e, h1, _⟩ := h
    cases (show PyData.bool false = .str w.1 from h1.1)
  · cases e
  · cases e
  · cases e
    exact ⟨m, rfl, rfl, h⟩
  · cases e
/-- is it the error that is held? -/
def errB (d : PyData) (a dd : Nat) (f : Bool) : Bool := match d with
  | .dict [(.bool false, .int n)] => decide (n = (a : Int)) && !f
  | .dict ((.bool false, .int n) :: (.int m, _) :: _) => decide (n = (a : Int)) && decide (m = (dd : Int)) && f
  | _ => false
theorem errB_spec {K : PySem.W.Frag} {H : Hp} {d : PyData} {a dd : Nat} {f : Bool} {v : V} (h : errB d a dd f = true) (r : Rep K H d v) : v = .ref a ∧ ((f = false ∧ d = errD a) ∨
    (f = true ∧ ∃ fs : List (Str × Int), (∃ y, d = .dict ((.bool false, .int a) :: (.int dd, y) :: fs.map fun p => (.str p.1, .int p.2))) ∧ H dd = some (.xd (fs.map fun p => (p.1, V.int p.2))))) := by
  unfold errB at h
  split at h
  · rename_i n
    simp only [Bool.and_eq_true, decide_eq_true_eq, Bool.not_eq_true'] at h
    obtain ⟨b, e1, e2, _⟩ := rep_err r
    obtain ⟨h1, h2⟩ := h
    subst h1
    have e3 : a = b := by omega
    subst e3
    exact ⟨e2, .inl ⟨h2, rfl⟩⟩
  · rename_i n m y q _
    simp only [Bool.and_eq_true, decide_eq_true_eq] at h
    obtain ⟨⟨h1, h2⟩, h3⟩ := h
    obtain ⟨b, e1, e2, e3⟩ := rep_err r
    obtain ⟨dd', fs, k1, k2, k3⟩ := e3
    cases k1
    subst h1
    have e4 : a = b := by omega
    have e5 : dd' = dd := by omega
    subst e4
    subst e5
    subst k2
    exact ⟨e2, .inr ⟨h3, fs, ⟨_, rfl⟩, k3⟩⟩
  · cases h
/-- has the class an own __init__? -/
def ownInit (x : Str) : Bool := decide (x = ("BadText" : Str)) || decide (x = ("BadEntry" : Str))
/-- what the text says of a class of errors -/
structure ErrCl (K : PySem.W.Frag) (mg : Str → Option Value) (x : Str) where
  C : Addr
  at_ : mg x = some (.ref C)
  ex : ownInit x = false → PySem.W.excIn K C [.type "ValueError", .type "Exception", .type "BaseException", .type "object"] "ValueError.__new__" = true
  kp : PySem.W.keepIn K (.ref C) = true
  sb : PySem.W.subIn K (.ref C) (.type "BaseException") = some true
  ty : PySem.W.typeIn K (.ref C) = some (.type "type")
  hg : PySem.W.findIn K (.ref C) "__getattribute__" = some (some (.builtin "BaseException.__getattribute__"))
  hk : PySem.W.findIn K (.ref C) "__getattr__" = some none
  hd : PySem.W.hasDictIn K C = true
  ha : PySem.W.findIn K (.ref C) "__class__" = some (some (.builtin "object.__class__"))
  hm : PySem.W.mroIn K C (.type "object") = some true
  ve : PySem.W.subIn K (.ref C) (.type "ValueError") = some true
  sf : PySem.W.subIn K (.ref C) (.ref C) = some true
structure ErrG (K : PySem.W.Frag) : Prop where
  hn : PySem.W.specialIn K (.builtin "object.__class__") "__get__" = some (some (.builtin "getset_descriptor.__get__"))
  ht : PySem.W.takesIn K (.builtin "object.__class__") = some true
theorem ErrCl.excC {K : PySem.W.Frag} {mg : Str → Option Value} {x : Str} (c : ErrCl K mg x) (g : ErrG K) : ExcC K c.C := ⟨c.hg, c.hk, c.sb, c.hd, c.ha, g.hn, g.ht, c.hm⟩
def ErrCl.toExcCl {K : PySem.W.Frag} {mg : Str → Option Value} {x : Str} (c : ErrCl K mg x) (h : ownInit x = false) : ExcCl K mg x := ⟨c.C, c.at_, c.ex h, c.kp, c.sb, c.ty⟩
/-- is an error of the class c one of the class t? -/
def isaT (c t : Str) : Bool := decide (c = t) || decide (t = ("WhereError" : Str)) || decide (t = ("ValueError" : Str))
/-- the class x of an error that may come, seen from the class t -/
structure ErrSub (K : PySem.W.Frag) (mg : Str → Option Value) (x t : Str) (C : Addr) : Prop where
  sub : ∀ D : Addr, mg x = some (.ref D) → PySem.W.subIn K (.ref D) (.ref C) = some (isaT x t)
/-- the error x lies at a and is being handled in X -/
structure ErrH (X : Cx) (x : Err) (a dd : Addr) (oe : Obj) : Prop where
  pn : (a, oe) ∈ X.pn
  hot : L2H.Hot1 X.A (a, oe)
  fld : ∃ vs, oe.data = .fields vs
  cl : ∃ D : Addr, X.mg x.cls = some (.ref D) ∧ oe.cls = .ref D ∧ ExcC X.K D ∧ PySem.W.subIn X.K (.ref D) (.type "ValueError") = some true
  dict : oe.dict = if x.fs.isEmpty = true then none else some dd
theorem kit_own {K : PySem.W.Frag} {D C : Addr} {b : Bool} (hd : PySem.W.hasDictIn K C = true) (ht : PySem.W.typeIn K (.ref C) = some (.type "type")) (hs : PySem.W.subIn K (.ref C) (.ref C) = some true) (h : PySem.W.subIn K (.ref D) (.ref C) = some b) : PySem.W.kitOne K (.ref D) (.ref C) = some b := by
  unfold PySem.W.kitOne
  split
  · rename_i e
    have e : D = C := Value.ref.inj (beq_iff_eq.mp e)
    subst e
    rw [hs] at h
    exact h
  · obtain ⟨cd, hc, _⟩ := PySem.W.any_some hd
    show (if ((PySem.W.clsIn K C).isSome && PySem.W.typeIn K (.ref C) == some (.type "type")) = true then PySem.W.subIn K (.ref D) (.ref C) else none) = some b
    rw [if_pos (by rw [hc, ht]; rfl)]
    exact h
theorem kit_ve {K : PySem.W.Frag} {D : Addr} (h : PySem.W.subIn K (.ref D) (.type "ValueError") = some true) : PySem.W.kitOne K (.ref D) (.type "ValueError") = some true := by
  unfold PySem.W.kitOne
  split
  · rfl
  · show (if PySem.W.kitMeta "ValueError" = true then PySem.W.subIn K (.ref D) (.type "ValueError") else none) = some true
    rw [if_pos (by decide +kernel)]
    exact h
omit [Old] in
theorem call_isEP {X : Cx} {a D : Addr} {oe : Obj} (hpn : (a, oe) ∈ X.pn) (C : ExcC X.K D) (hc : oe.cls = .ref D) (hf : ∃ vs, oe.data = .fields vs) :
    CallR X (.builtin "isinstance") (fun xs H Q => (∀ dx, oe.dict = some dx → ∃ o, H dx = some o) ∧ rIsE X.K D a xs H Q) := by
  intro pins s σ H xs us Q I r ⟨hdx, c, cv, b, e0, hcv, e, q⟩
  subst e0
  match us, r with
  | [_, _], .cons rx (.cons rt .nil) =>
    cases rx
    have ec := hcv _ rt
    subst ec
    have hget := (I.pin (a, oe) (List.mem_append.mpr (.inl hpn))).1
    obtain ⟨vs, hv⟩ := hf
    have J : ∃ od, PySem.W.InstAt s.heap a oe D od := by
      cases hd : oe.dict with
      | none => exact ⟨none, hget, hc, by unfold PySem.W.notCls; rw [hv] <;> rfl, by rw [hd]; exact trivial⟩
      | some dx =>
        obtain ⟨o, ho⟩ := hdx dx hd
        obtain ⟨u, hu⟩ := objOk_get (I.hok dx o ho)
        exact ⟨some u, hget, hc, by unfold PySem.W.notCls; rw [hv] <;> rfl, by rw [hd]; exact hu⟩
    exact PySem.W.kia_one (kitx_exc C) I.kIn J e (fun z => nomatch z) fun tk => ⟨.bl b, H, I.kept (t' := tk) fun _ _ z => z, rfl, q⟩
def isaF (i : Nat) (x : Err) (a dd : Nat) (t : Str) : MEnv → Option (Slot × MEnv) := fun env => match env[i]? with
  | some (.val d) => if errB d a dd (!x.fs.isEmpty) = true then some (.val (.bool (isaT x.cls t)), env) else none
  | _ => none
/-- e.f -/
def lookX (f : Str) : List (PyData × PyData) → Option Int
  | [] => none
  | (.str z, .int v) :: r => if z = f then some v else lookX f r
  | _ :: r => lookX f r
def xfF (i : Nat) (x : Err) (a dd : Nat) (f : Str) : MEnv → Option (Slot × MEnv) := fun env => match env[i]? with
  | some (.val (.dict ((.bool false, .int n) :: (.int m, y) :: q))) => if errB (.dict ((.bool false, .int n) :: (.int m, y) :: q)) a dd (!x.fs.isEmpty) = true then match lookX f q with
      | some v => some (.val (.int v), env)
      | none => none
    else none
  | _ => none
omit [Old] in
theorem lookX_map (f : Str) : ∀ fs : List (Str × Int), lookX f (fs.map fun p => (PyData.str p.1, PyData.int p.2)) = fs.lookup f
  | [] => rfl
  | (z, v) :: r => by
    rw [List.map_cons, lookX, lookX_map f r, List.lookup_cons]
    by_cases h : z = f
    · subst h
      simp
    · have : (f == z) = false := by simpa using fun e => h e.symm
      rw [if_neg h, this]
omit [Old] in
theorem lookup_ints (f : Str) (v : Int) : ∀ fs : List (Str × Int), fs.lookup f = some v → (fs.map fun p => (p.1, V.int p.2)).lookup f = some (V.int v)
  | [], h => by cases h
  | (z, u) :: r, h => by
    rw [List.map_cons, List.lookup_cons]
    rw [List.lookup_cons] at h
    cases hz : (f == z) with
    | true => rw [hz] at h; cases h; rfl
    | false => rw [hz] at h; exact lookup_ints f v r h
/-- none of the classes cs has one of the fields' names -/
structure ErrFl (K : PySem.W.Frag) (mg : Str → Option Value) (cs fls : List Str) : Prop where
  no : ∀ x ∈ cs, ∀ f ∈ fls, ∀ D : Addr, mg x = some (.ref D) → PySem.W.findIn K (.ref D) f = some none
section
variable {X : Cx} {x : Err} {a dd : Addr} {oe : Obj} {i : Nat} {en t : Str} {p p1 p2 pos : Pos}
theorem se_xf {cs fls : List Str} {f : Str} (H0 : ErrH X x a dd oe) (hx : x.cls ∈ cs) (fl : ErrFl X.K X.mg cs fls) (hf : decide (f ∈ fls) = true) (v : PE X (.Name en p1) (tVar i)) (hb : attributeBase (.Name en p1) f X.env (eval (.Name en p1) X.env) = eval (.Name en p1) X.env) :
    SE X (.Attribute (.Name en p1) f pos) (xfF i x a dd f) := by
  refine ⟨?_⟩
  intro env σ Hs H r env' hf' I Q q
  obtain ⟨D, m1, m2, m3, m4⟩ := H0.cl
  refine W.of (pe_xfP (C := D) (cls := oe.cls) (d := oe.dict) H0.pn ⟨m3.hg, m3.hk, m3.hs, m3.hd⟩ (fl.no x.cls hx f (of_decide_eq_true hf) D m1) ⟨rfl, rfl⟩ H0.fld v hb) ?_
  unfold xfF at hf'
  split at hf'
  · rename_i n m y q0 hn
    split at hf'
    · rename_i he
      split at hf'
      · rename_i vv hv
        cases hf'
        obtain ⟨w, k1, k2⟩ := I.vals i _ hn
        obtain ⟨e1, e2⟩ := errB_spec he k2
        subst e1
        rcases e2 with ⟨_, e2⟩ | ⟨e3, fs, ⟨y', e4⟩, e5⟩
        · cases e2
        · cases e4
          rw [lookX_map] at hv
          have hd : oe.dict = some dd := by
            rw [H0.dict]
            have : x.fs.isEmpty = false := by simpa using e3
            rw [this]
            rfl
          exact ⟨.ref a, k1, rfl, m2, dd, _, _, hd, I.sh dd _ e5, lookup_ints f vv fs hv, q _ Hs H GoE.refl I (show Rep X.K Hs (.int vv) (.int vv) from rfl)⟩
      · cases hf'
    · cases hf'
  · cases hf'
theorem rd_isE {cv : Value} {c : V} (H0 : ErrH X x a dd oe) (v : PE X (.Name en p1) (tVar i)) (pt : PE X (.Name t p2) (tC c)) (hcv : ∀ u, RelV c u → u = cv) (hk : ∀ D, X.mg x.cls = some (.ref D) → PySem.W.subIn X.K (.ref D) (.type "ValueError") = some true → PySem.W.kitOne X.K (.ref D) cv = some (isaT x.cls t))
    (hg : Gl X "isinstance") (hm : X.mg "isinstance" = none) : SE X (.Call (.Name "isinstance" p) [.Name en p1, .Name t p2] [] pos) (isaF i x a dd t) := by
  refine ⟨?_⟩
  intro env σ Hs H r env' hf I Q q
  obtain ⟨D, m1, m2, m3, m4⟩ := H0.cl
  refine W.of (pe_callB (call_isEP H0.pn m3 m2 H0.fld) hg hm (by decide +kernel) (pa_cons v (pa_cons pt pa_nil)) (by decide) (by decide)) ?_
  unfold isaF at hf
  split at hf
  · rename_i d hn
    split at hf
    · rename_i he
      cases hf
      obtain ⟨w, k1, k2⟩ := I.vals i _ hn
      obtain ⟨e1, e2⟩ := errB_spec he k2
      subst e1
      refine ⟨.ref a, k1, fun dx hd => ?_, c, cv, isaT x.cls t, rfl, hcv, hk D m1 m4, q _ Hs H GoE.refl I rfl⟩
      rw [H0.dict] at hd
      rcases e2 with ⟨e3, _⟩ | ⟨e3, fs, _, e5⟩
      · have : x.fs.isEmpty = true := by simpa using e3
        rw [this] at hd
        cases hd
      · have : x.fs.isEmpty = false := by simpa using e3
        rw [this] at hd
        cases hd
        exact ⟨_, I.sh dd _ e5⟩
    · cases hf
  · cases hf
theorem se_isE (H0 : ErrH X x a dd oe) (v : PE X (.Name en p1) (tVar i)) (gt : Gl X t) (tc : ErrCl X.K X.mg t) (hs : ErrSub X.K X.mg x.cls t tc.C) (hg : Gl X "isinstance") (hm : X.mg "isinstance" = none) (hd : (t == ("__debug__" : Str)) = false) :
    SE X (.Call (.Name "isinstance" p) [.Name en p1, .Name t p2] [] pos) (isaF i x a dd t) :=
  rd_isE (cv := .ref tc.C) (c := .ref tc.C) H0 v (pe_glob gt tc.at_ rfl hd) (fun u h => h) (fun D m _ => kit_own tc.hd tc.ty tc.sf (hs.sub D m)) hg hm
theorem se_isEV (H0 : ErrH X x a dd oe) (v : PE X (.Name en p1) (tVar i)) (gt : Gl X "ValueError") (mt : X.mg "ValueError" = none) (hg : Gl X "isinstance") (hm : X.mg "isinstance" = none) :
    SE X (.Call (.Name "isinstance" p) [.Name en p1, .Name "ValueError" p2] [] pos) (isaF i x a dd "ValueError") :=
  rd_isE (cv := .type "ValueError") (c := .ty "ValueError") H0 v (pe_bltn gt mt (by decide +kernel) rfl (by decide) (by decide)) (fun u h => h) (fun D m hv => by
    rw [kit_ve hv]
    have : isaT x.cls "ValueError" = true := by unfold isaT; simp
    rw [this]) hg hm
end
/-! ### try: .. except C as n: .. return -/
open Classical in
/-- the error's address is not known: what is returned must not depend on it -/
noncomputable def tryB (i : Nat) (cs : List Str) (fb : MEnv → Option OutX) (fs : Err → Nat → Nat → MEnv → Option Out) : MEnv → Option Out := fun env => match fb env with
  | some (.o o) => some o
  | some (.rs x e) => if h : x.cls ∈ cs ∧ noIo env = true ∧ ∃ d : PyData, ∀ a dd : Nat, ∃ e1 e2, setS i (.val (errX x a dd)) e = some e1 ∧ fs x a dd e1 = some (.rt (.val d) e2) ∧ e2.length = e.length then some (.rt (.val (choose h.2.2)) (blankE e)) else none
  | none => none
theorem try_rs {i : Nat} {cs : List Str} {fb : MEnv → Option OutX} {fs : Err → Nat → Nat → MEnv → Option Out} {env e : MEnv} {x : Err} {d : PyData} (h1 : fb env = some (.rs x e)) (h2 : cs.contains x.cls = true) (h3 : noIo env = true)
    (h : ∀ a dd : Nat, ∃ e1 e2, setS i (.val (errX x a dd)) e = some e1 ∧ fs x a dd e1 = some (.rt (.val d) e2) ∧ e2.length = e.length) : tryB i cs fb fs env = some (.rt (.val d) (blankE e)) := by
  unfold tryB
  rw [h1]
  have hx : x.cls ∈ cs ∧ noIo env = true ∧ ∃ d : PyData, ∀ a dd : Nat, ∃ e1 e2, setS i (.val (errX x a dd)) e = some e1 ∧ fs x a dd e1 = some (.rt (.val d) e2) ∧ e2.length = e.length := ⟨by simpa using h2, h3, d, h⟩
  refine Eq.trans (dif_pos hx) ?_
  have hc := Classical.choose_spec hx.2.2
  obtain ⟨e1, e2, k1, k2, _⟩ := hc 0 0
  obtain ⟨e3, e4, k3, k4, _⟩ := h 0 0
  rw [k1] at k3
  cases k3
  rw [k2] at k4
  injection k4 with k5
  injection k5 with k6 k7
  rw [k6]
theorem try_o {i : Nat} {cs : List Str} {fb : MEnv → Option OutX} {fs : Err → Nat → Nat → MEnv → Option Out} {env : MEnv} {o : Out} (h1 : fb env = some (.o o)) : tryB i cs fb fs env = some o := by
  unfold tryB
  rw [h1]
omit [Old] in
/-- nothing is let out -/
theorem takes0N {X : Cx} : L2N.Takes X (fun _ _ _ _ => False) := fun _ _ x => by
  obtain ⟨_, _, _, _, _, _, _, _, _, _, _, _, _, _, _, _, z⟩ := x
  exact z.elim
theorem ss_try {X : Cx} {N : List Str} {sc : Scope} {fl : Bool} {i : Nat} {n t : Str} {np pos pos' : Pos} {body suite : List Stmt} {b₀ : Stmt} {cs : List Str} {fb : MEnv → Option OutX} {fs : Err → Nat → Nat → MEnv → Option Out} (c : CtxF X N sc fl) (tc : ErrCl X.K X.mg t) (gt : Gl X t) (hdt : (t == ("__debug__" : Str)) = false)
    (hst : X.stack = X.env :: X.outer) (hfr : X.env.frame = some X.env.locals) (hi : (decide (N[i]? = some n) && decide (sc.names.lookup n = some .local)) = true)
    (hcl : ∀ x ∈ cs, ∃ D : Addr, X.mg x = some (.ref D) ∧ ExcC X.K D ∧ PySem.W.subIn X.K (.ref D) (.type "ValueError") = some true ∧ PySem.W.subIn X.K (.ref D) (.ref tc.C) = some true)
    (hb : ∀ (pn : List (Addr × Obj)) (xe : Value → Shared → Prop), PassesOwn (model X.prog X.w) X.A X.env xe → XB (X.tr pn xe) body fb)
    (hsu : ∀ (x : Err) (a dd : Addr) (oe : Obj) (pn : List (Addr × Obj)), x.cls ∈ cs → ErrH (X.suite a ((a, oe) :: pn)) x a dd oe → SB (X.suite a ((a, oe) :: pn)) (b₀ :: suite) (fs x a dd)) :
    SS X (.Try body [.ExceptHandler (some (.Name t np)) (some n) (b₀ :: suite) pos'] [] [] pos) (tryB i cs fb fs) := by
  simp only [Bool.and_eq_true, decide_eq_true_eq] at hi
  obtain ⟨hi1, hi2⟩ := hi
  refine ⟨?_⟩
  intro env σ Hs H o hf I D q
  have hN : X.N.Nodup := by rw [c.hN]; exact c.nd
  have hl : X.env.kindOf n = some .local := by
    show X.env.scope.names.lookup n = some .local
    rw [c.hsc]
    exact hi2
  refine WS.of (L2N.ps_try_as (x := t) (c := .ref tc.C) (i := i) (Wout := fun _ _ _ _ => False)
    (tb := fun W D σ H => ∀ (pn : List (Addr × Obj)) (xe : Value → Shared → Prop), L2N.Takes (X.tr pn xe) W → PassesOwn (model X.prog X.w) X.A X.env xe → WSs (X.tr pn xe) body D σ H)
    (ts := fun a cls d D σ H => ∀ (oe : Obj) (pn : List (Addr × Obj)), L2N.Zn cls d oe → (∃ vs, oe.data = .fields vs) → WSs (X.suite a ((a, oe) :: pn)) (b₀ :: suite) D σ H)
    hst hfr hN (by rw [c.hN]; exact hi1) hl ⟨gt, hdt, .inl tc.at_⟩ takes0N
    (fun W pn xe tk po => ⟨fun pins s σ H D I h => h pn xe tk po pins s I⟩) (fun a oe cls d pn hz hf => ⟨fun pins s σ H D I h => h oe pn hz hf pins s I⟩)) ?_
  intro pn xe tk po
  unfold tryB at hf
  split at hf
  · rename_i o' h1
    cases hf
    exact (hb pn xe po).run _ tk env σ Hs H _ h1 I _ q
  · rename_i x e h1
    split at hf
    rotate_left
    · cases hf
    rename_i hx
    cases hf
    obtain ⟨hx2, hx3, hx4⟩ := hx
    refine (hb pn xe po).run _ tk env σ Hs H _ h1 I _ fun cls d σ1 Hs1 H1 g1 I1 r1 => ?_
    obtain ⟨C, rc1, rc2, rc3⟩ := r1
    obtain ⟨dd, hdd, hrep⟩ : ∃ dd : Addr, (d = if x.fs.isEmpty = true then none else some dd) ∧ ∀ a : Nat, Rep X.K Hs1 (errX x a dd) (.ref a) := by
      rcases rc3 with ⟨z1, z2⟩ | ⟨dd, z1, z2, z3⟩
      · refine ⟨0, by rw [z1]; exact z2, fun a => ?_⟩
        unfold errX
        rw [z1]
        exact .inr (.inr (.inr (.inl ⟨a, [], rfl, rfl, True.intro⟩)))
      · refine ⟨dd, ?_, fun a => ?_⟩
        · cases hq : x.fs with
          | nil => exact absurd hq z1
          | cons p r => exact z2
        · unfold errX
          cases hq : x.fs with
          | nil => exact absurd hq z1
          | cons p r =>
            rw [hq] at z3
            exact .inr (.inr (.inr (.inl ⟨a, _, rfl, rfl, dd, p :: r, rfl, rfl, z3⟩)))
    subst rc2
    obtain ⟨D1, m1, m2, m3, m4⟩ := hcl x.cls hx2
    rw [rc1] at m1
    cases m1
    refine ⟨true, PySem.W.exm_ref tc.sb tc.hd tc.ty m4, fun _ a na oe pn2 hz hf2 => ?_, fun z => by cases z⟩
    obtain ⟨e1, e2, k1, k2, k3⟩ := Classical.choose_spec hx4 a dd
    obtain ⟨rfl, hi3, hn3⟩ := setS_some k1
    have hot : L2H.Hot1 (X.suite a ((a, oe) :: pn2)).A (a, oe) := by
      obtain ⟨vs, hv⟩ := hf2
      exact ⟨rfl, vs, hv, hz.2.2 vs hv⟩
    have HH : ErrH (X.suite a ((a, oe) :: pn2)) x a dd oe := ⟨List.mem_cons_self, hot, hf2, ⟨C, rc1, hz.1, m2, m3⟩, hz.2.1.trans hdd⟩
    refine (hsu x a dd oe pn2 hx2 HH).run _ _ Hs1 H1 _ k2 (I1.setV hi3 (d := errX x a dd) (v := .ref a) (hrep a)) _ fun v σ2 Hs2 H2 g2 I2 r2 => ?_
    have g12 := (g1.trans (Go.setV hn3)).trans g2
    refine q v σ2 Hs2 H2 ⟨g12.sh, g12.kp, g12.dm, g12.nw, fun p ⟨j, s, xs, h1, h2, _⟩ => ?_, fun p ⟨j, xs, h1, _⟩ => ?_, fun j xs h => absurd h (noIo_at hx3)⟩ ⟨?_, I2.sh, fun j d h => ?_, fun j s xs h hm => ?_, fun j1 j2 s t xs ys p h1 m1 h2 m2 g1 g2 => ?_, ⟨I2.old.1, fun p ⟨j, s, xs, h1, h2, _⟩ => ?_⟩⟩ r2
    · rw [blank_get h1] at h2; cases h2
    · cases blank_get h1
    · have hl2 := I2.len
      unfold blankE
      rw [List.length_map, hl2, k3]
    · cases blank_get h
    · rw [blank_get h] at hm; cases hm
    · rw [blank_get h1] at m1; cases m1
    · rw [blank_get h1] at h2; cases h2
  · cases hf
end Ip
namespace Ip
open PySem L2
/-- what the text says of all classes of errors that may come -/
structure ErrAll (K : PySem.W.Frag) (mg : Str → Option Value) (cs : List Str) : Prop where
  cl' : ∀ x ∈ cs, Nonempty (ErrCl K mg x)
  sub : ∀ x ∈ cs, ∀ t ∈ cs, ∀ D C : Addr, mg x = some (.ref D) → mg t = some (.ref C) → PySem.W.subIn K (.ref D) (.ref C) = some (isaT x t)
  g : ErrG K
noncomputable def ErrAll.cl {K : PySem.W.Frag} {mg : Str → Option Value} {cs : List Str} (e : ErrAll K mg cs) (x : Str) (h : decide (x ∈ cs) = true) : ErrCl K mg x := Classical.choice (e.cl' x (of_decide_eq_true h))
theorem ErrAll.es {K : PySem.W.Frag} {mg : Str → Option Value} {cs : List Str} (e : ErrAll K mg cs) {x t : Str} (hx : x ∈ cs) (h : decide (t ∈ cs) = true) : ErrSub K mg x t (e.cl t h).C :=
  ⟨fun D m => e.sub x hx t (of_decide_eq_true h) D _ m (e.cl t h).at_⟩
def tryBody : Stmt → List Stmt
  | .Try b _ _ _ _ => b
  | _ => []
def trySuite : Stmt → List Stmt
  | .Try _ [.ExceptHandler _ _ s _] _ _ _ => s
  | _ => []
theorem ss_tryE [Old] {X : Cx} {N : List Str} {sc : Scope} {fl : Bool} {i : Nat} {n t : Str} {np pos pos' : Pos} {body suite : List Stmt} {b₀ : Stmt} {cs : List Str} {fb : MEnv → Option OutX} {fs : Err → Nat → Nat → MEnv → Option Out} (c : CtxF X N sc fl) (ea : ErrAll X.K X.mg cs) (ht : decide (t ∈ cs) = true) (gt : Gl X t) (hdt : (t == ("__debug__" : Str)) = false)
    (hst : X.stack = X.env :: X.outer) (hfr : X.env.frame = some X.env.locals) (hi : (decide (N[i]? = some n) && decide (sc.names.lookup n = some .local)) = true)
    (hb : ∀ (pn : List (Addr × Obj)) (xe : Value → Shared → Prop), PassesOwn (model X.prog X.w) X.A X.env xe → XB (X.tr pn xe) body fb)
    (hsu : ∀ (x : Err) (a dd : Addr) (oe : Obj) (pn : List (Addr × Obj)), x.cls ∈ cs → ErrH (X.suite a ((a, oe) :: pn)) x a dd oe → SB (X.suite a ((a, oe) :: pn)) (b₀ :: suite) (fs x a dd)) :
    SS X (.Try body [.ExceptHandler (some (.Name t np)) (some n) (b₀ :: suite) pos'] [] [] pos) (tryB i (cs.filter fun x => isaT x t) fb fs) :=
  ss_try c (ea.cl t ht) gt hdt hst hfr hi (fun x hx => by
    obtain ⟨h1, h2⟩ := List.mem_filter.mp hx
    obtain ⟨k⟩ := ea.cl' x h1
    refine ⟨k.C, k.at_, k.excC ea.g, k.ve, ?_⟩
    rw [ea.sub x h1 t (of_decide_eq_true ht) _ _ k.at_ (ea.cl t ht).at_, h2]) hb (fun x a dd oe pn hx H => hsu x a dd oe pn (List.mem_filter.mp hx).1 H)
end Ip

set_option Elab.async false
set_option linter.all false
set_option maxRecDepth 100000
set_option maxHeartbeats 4000000
/-! list.index over truths; a < b < c; D.get(x); del xs[-n:] -/
namespace Ip
open PySem L2
open Evl (Ex sz_of fresh_back)
variable [Old]
variable {X : Cx} {a b e o : Expr} {pos : Pos} {K : PySem.W.Frag} {Hs Hs' H H' : Hp} {σ : L2.St} {env env' : MEnv}
/-- xs.index(b), xs a list of truths -/
def bixF (fo fe : MEnv → Option (PyData × MEnv)) : MEnv → Option (Slot × MEnv) := fun env => match fo env with
  | some (.list xs, e1) => match fe e1 with
    | some (.bool b, e2) => match boolsOf xs with
      | some bs => match bs.findIdx? (fun c => c == b) with
        | some j => some (.val (.int (j : Nat)), e2)
        | none => none
      | none => none
    | _ => none
  | _ => none
theorem se_bix {apos : Pos} {fo fe : MEnv → Option (PyData × MEnv)} (ho : SV X a fo) (he : SV X e fe) (hp : plainE e = true) (hbase : attributeBase a "index" X.env (eval a X.env) = eval a X.env) (hline : (apos.endLine == pos.line) = true) :
    SE X (.Call (.Attribute a "index" apos) [e] [] pos) (bixF fo fe) := by
  refine ⟨?_⟩
  intro env σ Hs H r env' hf I Q q
  unfold bixF at hf
  split at hf
  · rename_i xs e1 h1
    split at hf
    · rename_i k e2 h2
      split at hf
      · rename_i bs hb
        split at hf
        · rename_i j hj
          cases hf
          refine W.of (pe_bm (X := X) PySem.F.plainAttrs_list PySem.F.slot_list_index PySem.F.type_list_index mt_index (W.pe X a) (pa_cons (W.pe X e) pa_nil (star_plain hp)) hbase (by rw [star_plain hp]; rfl) hline (star_plain hp) rfl) ?_
          refine ho env σ Hs H _ e1 h1 I _ fun v Hs1 H1 g1 I1 r1 => ?_
          obtain ⟨p, vs, rfl, k1, k2⟩ := r1
          refine ⟨.inl ⟨rfl, vs, ex_nl I1.sh k1⟩, ?_⟩
          refine he e1 σ Hs1 H1 _ env' h2 I1 _ fun u Hs2 H2 g2 I2 r2 => ?_
          cases (show u = .bl k from r2)
          have hv := boolsOf_rep hb k2
          obtain ⟨hjl, hjt, hjf⟩ := List.findIdx?_eq_some_iff_getElem.mp hj
          refine ⟨p, vs, .bl k, j, .bl bs[j], rfl, rfl, ex_nl I2.sh (ex_n g2.sh k1), rfl, ?_, ?_, ?_, ?_, q _ Hs2 H2 (g1.trans g2) I2 rfl⟩
          · rw [hv, List.all_eq_true]
            intro x hx
            obtain ⟨y, _, rfl⟩ := List.mem_map.mp hx
            rfl
          · rw [hv, List.getElem?_map, List.getElem?_eq_getElem hjl]
            rfl
          · have : bs[j] = k := by simpa using hjt
            rw [this]
            cases k <;> rfl
          · intro m z hm hz
            rw [hv, List.getElem?_map, List.getElem?_eq_getElem (by omega)] at hz
            cases hz
            have := hjf m hm
            have h3 : bs[m] ≠ k := by simpa using this
            cases hbm : bs[m] <;> cases k <;> first | (exact absurd hbm h3) | rfl
        · cases hf
      · cases hf
    · cases hf
  · cases hf
end Ip

set_option Elab.async false
set_option linter.all false
set_option maxRecDepth 100000
set_option maxHeartbeats 4000000
/-! D.get(x) and x in D for a dict of the module; a < b < c -/
namespace Ip
open PySem L2
open Evl (Ex sz_of fresh_back)
variable [Old]
variable {X : Cx} {a b c e o : Expr} {pos : Pos} {K : PySem.W.Frag} {Hs Hs' H H' : Hp} {σ : L2.St} {env env' : MEnv}
def kgD (kvs : List (Str × PyData)) : PyData → Option Slot
  | .str x => some (.val ((kvs.lookup x).getD .none))
  | _ => none
def inkD (neg : Bool) (kvs : List (Str × PyData)) : PyData → Option Slot
  | .str x => some (.val (.bool ((kvs.lookup x).isSome != neg)))
  | _ => none
def kName (e : DictEntry) : Str := match e.key with
  | .str x _ => x
  | _ => ""
structure KdM (K : PySem.W.Frag) (w : World) (p : Addr) (kvs : List (Str × PyData)) : Prop where
  dic : ∃ es n, L2.KDict K w p es n
  miss : ∀ z, kvs.lookup z = none → PySem.W.nsIn K p z = some none
omit [Old] in
theorem lookup_none {kvs : List (Str × PyData)} {z : Str} (h : kvs.lookup z = none) : z ∉ kvs.map Prod.fst := by
  induction kvs with
  | nil => simp
  | cons kv kvs ih =>
    obtain ⟨k, d⟩ := kv
    rw [List.lookup_cons] at h
    by_cases hz : z = k
    · subst hz
      rw [beq_self_eq_true] at h
      cases h
    · rw [beq_eq_false_iff_ne.mpr hz] at h
      intro hm
      rcases List.mem_cons.mp hm with e | hm
      · exact hz e
      · exact ih h hm
omit [Old] in
theorem KdM.of {w : World} {a : Addr} {es : Array DictEntry} {n : Nat} {kvs : List (Str × PyData)} (hl : K.lookup a = some ⟨.type "dict", none, .dict es n, #[]⟩) (hk : PySem.W.KeysLit w.params es.toList) (low : (a == sysModules) = false) (hn : es.toList.map kName = kvs.map Prod.fst) : KdM K w a kvs := by
  refine ⟨⟨es, n, hl, hk, low⟩, fun z hz => ?_⟩
  have hz := lookup_none hz
  unfold PySem.W.nsIn
  rw [hl]
  dsimp only
  have h1 : es.toList.find? (·.key.isStr z) = none := by
    rw [List.find?_eq_none]
    intro e he hs
    obtain ⟨x, t, hx, _⟩ := hk.all e he
    rw [hx] at hs
    have hs : (x == z) = true := hs
    have hm : kName e ∈ kvs.map Prod.fst := hn ▸ List.mem_map_of_mem he
    unfold kName at hm
    rw [hx] at hm
    rw [eq_of_beq hs] at hm
    exact hz hm
  have h2 : es.toList.any (·.refKey) = false := by
    rw [List.any_eq_false]
    intro e he
    obtain ⟨x, t, hx, _⟩ := hk.all e he
    unfold DictEntry.refKey
    rw [hx]
    simp
  rw [h1]
  simp only [h2]
  rfl
theorem se_kget {n : Str} {p1 apos : Pos} {p : Addr} {kvs : List (Str × PyData)} {fe : MEnv → Option (Lr × MEnv)} (hg : Gl X n) (hm : X.mg n = some (.ref p)) (kd : KdOk X.K X.w p kvs) (km : KdM X.K X.w p kvs) (he : SL X e fe) (hp : plainE e = true)
    (hbase : attributeBase (.Name n p1) "get" X.env (eval (.Name n p1) X.env) = eval (.Name n p1) X.env) (hline : (apos.endLine == pos.line) = true) (hd : (n == ("__debug__" : Str)) = false) :
    SE X (.Call (.Attribute (.Name n p1) "get" apos) [e] [] pos) (op1 fe (kgD kvs)) := by
  refine ⟨?_⟩
  intro env σ Hs H r env' hf I Q q
  unfold op1 at hf
  split at hf
  · rename_i ra e1 h1
    split at hf
    · rename_i x hx
      split at hf
      · rename_i s hs
        cases hf
        cases x <;> try (cases hs; done)
        rename_i z
        have hs : some (Slot.val ((kvs.lookup z).getD .none)) = some r := hs
        refine W.of (pe_kget (pe_glob (v := .ref p) hg hm rfl hd) (W.pe X e) ⟨hbase, by rw [star_plain hp]; rfl, hline, by rw [star_plain hp]; rfl⟩) ?_
        obtain ⟨es, n', D⟩ := km.dic
        refine ⟨p, rfl, ⟨es, n', D.at_, D.lit, D.low⟩, ?_⟩
        refine he env σ Hs H ra env' h1 I _ fun u Hs1 H1 g1 I1 r1 => ?_
        have hu : u = .str z := RepLr.top I1 r1 hx
        refine ⟨z, hu, ?_⟩
        cases hl : kvs.lookup z with
        | none =>
          rw [hl] at hs
          cases hs
          exact .inl ⟨km.miss z hl, q .non Hs1 H1 g1 I1 rfl⟩
        | some d =>
          rw [hl] at hs
          cases hs
          obtain ⟨v, ⟨_, _, u', _, _, k1, k3⟩, k2⟩ := kd z d hl
          exact .inr ⟨v, u', k1, k3, q v Hs1 H1 g1 I1 (k2 Hs1)⟩
      · cases hf
    · cases hf
  · cases hf
theorem rd_ink {p : Addr} {neg : Bool} {kvs : List (Str × PyData)} {fe : MEnv → Option (Lr × MEnv)} {r : R2} {k : Bool} (kd : KdOk X.K X.w p kvs) (km : KdM X.K X.w p kvs) (he : SL X e fe)
    (hr : ∀ (z : Str) (o : Option Value) (H : Hp) (Q : VK), PySem.W.nsIn X.K p z = some o → Q (.bl (o.isSome != neg)) H → r (.str z) (.ref p) H Q) (h : op1 fe (inkD neg kvs) env = some (.val (.bool k), env')) {σ : L2.St} {Hs H : Hp} (I : InvS X.K Hs H σ env) (Q : VK) (q : ∀ Hs' H', GoE σ env Hs H env' Hs' H' → InvS X.K Hs' H' σ env' → Q (.bl k) H') :
    tOp r (W X e) (tC (.ref p)) σ H Q := by
  show W X e σ H (fun x H1 => r x (.ref p) H1 Q)
  unfold op1 at h
  split at h
  · rename_i ra e1 h1
    split at h
    · rename_i x hx
      split at h
      · rename_i s hs
        cases h
        cases x <;> try (cases hs; done)
        rename_i z
        have hs : some (Slot.val (.bool ((kvs.lookup z).isSome != neg))) = some (.val (.bool k)) := hs
        refine he env σ Hs H ra env' h1 I _ fun u Hs1 H1 g1 I1 r1 => ?_
        have hu : u = .str z := RepLr.top I1 r1 hx
        subst hu
        cases hl : kvs.lookup z with
        | none =>
          rw [hl] at hs
          cases hs
          exact hr z none H1 Q (km.miss z hl) (q Hs1 H1 g1 I1)
        | some d =>
          rw [hl] at hs
          cases hs
          obtain ⟨v, ⟨_, _, u', _, _, k1, k3⟩, k2⟩ := kd z d hl
          exact hr z (some u') H1 Q k1 (q Hs1 H1 g1 I1)
      · cases h
    · cases h
  · cases h
theorem ink_bool {neg : Bool} {kvs : List (Str × PyData)} {fe : MEnv → Option (Lr × MEnv)} {r : Slot} (h : op1 fe (inkD neg kvs) env = some (r, env')) : ∃ k, r = .val (.bool k) := by
  have key : ∀ (x : PyData) (s : Slot), inkD neg kvs x = some s → ∃ k, s = .val (.bool k) := by
    intro x s hs
    cases x <;> try (cases hs; done)
    exact ⟨_, (Option.some.inj hs).symm⟩
  unfold op1 at h
  split at h
  · split at h
    · split at h
      · rename_i s hs
        cases h
        exact key _ _ hs
      · cases h
    · cases h
  · cases h
theorem se_ink {n : Str} {p1 : Pos} {p : Addr} {kvs : List (Str × PyData)} {fe : MEnv → Option (Lr × MEnv)} (hg : Gl X n) (hm : X.mg n = some (.ref p)) (kd : KdOk X.K X.w p kvs) (km : KdM X.K X.w p kvs) (he : SL X e fe) (hd : (n == ("__debug__" : Str)) = false) (hmk : behindInMarks .In (.Name n p1) = false) :
    SE X (.Compare e [.In] [.Name n p1] pos) (op1 fe (inkD false kvs)) := by
  refine ⟨?_⟩
  intro env σ Hs H r env' hf I Q q
  obtain ⟨k, rfl⟩ := ink_bool hf
  obtain ⟨es, n', D⟩ := km.dic
  refine W.of (pe_cmpR (op_in_kd D) (W.pe X e) (pe_glob (v := .ref p) hg hm rfl hd) hmk) ?_
  exact rd_ink kd km he (fun z o H Q h1 h2 => ⟨z, o, rfl, rfl, h1, by cases o <;> exact h2⟩) hf I Q fun Hs' H' g I' => q _ Hs' H' g I' rfl
theorem se_nink {n : Str} {p1 : Pos} {p : Addr} {kvs : List (Str × PyData)} {fe : MEnv → Option (Lr × MEnv)} (hg : Gl X n) (hm : X.mg n = some (.ref p)) (kd : KdOk X.K X.w p kvs) (km : KdM X.K X.w p kvs) (he : SL X e fe) (hd : (n == ("__debug__" : Str)) = false) (hmk : behindInMarks .NotIn (.Name n p1) = false) :
    SE X (.Compare e [.NotIn] [.Name n p1] pos) (op1 fe (inkD true kvs)) := by
  refine ⟨?_⟩
  intro env σ Hs H r env' hf I Q q
  obtain ⟨k, rfl⟩ := ink_bool hf
  obtain ⟨es, n', D⟩ := km.dic
  refine W.of (pe_cmpR (op_notIn_kd D) (W.pe X e) (pe_glob (v := .ref p) hg hm rfl hd) hmk) ?_
  exact rd_ink kd km he (fun z o H Q h1 h2 => ⟨z, o, rfl, rfl, h1, by cases o <;> exact h2⟩) hf I Q fun Hs' H' g I' => q _ Hs' H' g I' rfl
theorem st_ink {n : Str} {p1 : Pos} {p : Addr} {kvs : List (Str × PyData)} {fe : MEnv → Option (Lr × MEnv)} (hg : Gl X n) (hm : X.mg n = some (.ref p)) (kd : KdOk X.K X.w p kvs) (km : KdM X.K X.w p kvs) (he : SL X e fe) (hd : (n == ("__debug__" : Str)) = false) (hmk : behindInMarks .In (.Name n p1) = false) :
    ST X (.Compare e [.In] [.Name n p1] pos) (boolT (op1 fe (inkD false kvs))) := by
  refine ⟨?_⟩
  intro env σ Hs H k env' hf I Q q
  obtain ⟨es, n', D⟩ := km.dic
  refine WT.of (pt_cmpR (op_in_kd D) (W.pe X e) (pe_glob (v := .ref p) hg hm rfl hd) hmk) ?_
  exact rd_ink kd km he (fun z o H Q h1 h2 => ⟨z, o, rfl, rfl, h1, by cases o <;> exact h2⟩) (boolT_some hf) I _ fun Hs' H' g I' => ⟨k, rfl, q Hs' H' g I'⟩
theorem st_nink {n : Str} {p1 : Pos} {p : Addr} {kvs : List (Str × PyData)} {fe : MEnv → Option (Lr × MEnv)} (hg : Gl X n) (hm : X.mg n = some (.ref p)) (kd : KdOk X.K X.w p kvs) (km : KdM X.K X.w p kvs) (he : SL X e fe) (hd : (n == ("__debug__" : Str)) = false) (hmk : behindInMarks .NotIn (.Name n p1) = false) :
    ST X (.Compare e [.NotIn] [.Name n p1] pos) (boolT (op1 fe (inkD true kvs))) := by
  refine ⟨?_⟩
  intro env σ Hs H k env' hf I Q q
  obtain ⟨es, n', D⟩ := km.dic
  refine WT.of (pt_cmpR (op_notIn_kd D) (W.pe X e) (pe_glob (v := .ref p) hg hm rfl hd) hmk) ?_
  exact rd_ink kd km he (fun z o H Q h1 h2 => ⟨z, o, rfl, rfl, h1, by cases o <;> exact h2⟩) (boolT_some hf) I _ fun Hs' H' g I' => ⟨k, rfl, q Hs' H' g I'⟩
/-- a < b < c, whole numbers -/
def chnL (fa fb fc : MEnv → Option (PyData × MEnv)) : MEnv → Option (Bool × MEnv) := fun env => match fa env with
  | some (.int i, e1) => match fb e1 with
    | some (.int j, e2) => if i < j then match fc e2 with
        | some (.int k, e3) => some (decide (j < k), e3)
        | _ => none
      else some (false, e2)
    | _ => none
  | _ => none
theorem st_chnL {fa fb fc : MEnv → Option (PyData × MEnv)} (ha : SV X a fa) (hb : SV X b fb) (hc : SV X c fc) (hm : lastMarks [.Lt, .Lt] [b, c] = false) :
    ST X (.Compare a [.Lt, .Lt] [b, c] pos) (chnL fa fb fc) := by
  refine ⟨?_⟩
  intro env σ Hs H k env' hf I Q q
  refine WT.of (pt_chain op_lt op_lt (W.pe X a) (W.pe X b) (W.pe X c) hm) ?_
  unfold chnL at hf
  split at hf
  · rename_i i e1 h1
    split at hf
    · rename_i j e2 h2
      refine ha env σ Hs H _ e1 h1 I _ fun v Hs1 H1 g1 I1 r1 => ?_
      cases (show v = .int i from r1)
      refine hb e1 σ Hs1 H1 _ e2 h2 I1 _ fun u Hs2 H2 g2 I2 r2 => ?_
      cases (show u = .int j from r2)
      split at hf
      · rename_i hij
        split at hf
        · rename_i l e3 h3
          cases hf
          refine ⟨i, j, rfl, rfl, decide (i < j), rfl, ?_⟩
          rw [if_pos (decide_eq_true hij)]
          refine hc e2 σ Hs2 H2 _ env' h3 I2 _ fun w Hs3 H3 g3 I3 r3 => ?_
          cases (show w = .int l from r3)
          exact ⟨j, l, rfl, rfl, _, rfl, q Hs3 H3 ((g1.trans g2).trans g3) I3⟩
        · cases hf
      · rename_i hij
        cases hf
        refine ⟨i, j, rfl, rfl, decide (i < j), rfl, ?_⟩
        rw [if_neg (by rw [decide_eq_false hij]; decide)]
        exact ⟨false, rfl, q Hs2 H2 (g1.trans g2) I2⟩
    · cases hf
  · cases hf
end Ip

set_option Elab.async false
set_option linter.all false
set_option maxRecDepth 100000
set_option maxHeartbeats 4000000
/-! any(xs) where an error is being handled: xs has a true item -/
namespace L2
open PySem PySem.Spec PyProof.Rows
section
variable {prog : Program} {w : World} {A : Around}
theorem codeAny_any_loopT {R : Result → Shared → Prop} {I ax : Addr} {items : Array Value} {bs : List Bool} (hne : ax ≠ I) (hb : items.toList = bs.map Value.bool) : ∀ (k i : Nat) (s : Shared), bs.length - i = k → (∃ j, i ≤ j ∧ bs[j]? = some true) → (s.heap.IsListIter I ax i ∧ s.heap.IsList ax items) →
    (∀ h' tk, (∀ b o, b ∉ [I] → s.heap.get? b = some o → h'.get? b = some o) → R (.ok (.ret (.bool true))) { s with heap := h', toks := tk }) →
    codeAny (model prog w) A (.builtin "any.loop" ⟨[.ref I], []⟩) R s := by
  intro k
  induction k with
  | zero =>
    intro i s hk hj hst hR
    obtain ⟨j, h1, h2⟩ := hj
    have := (List.getElem?_eq_some_iff.mp h2).1
    omega
  | succ k ih =>
    intro i s hk hj hst hR
    have hlt : i < bs.length := by omega
    have hsz : items.size = bs.length := by rw [← Array.length_toList, hb, List.length_map]
    have hx : items[i]? = some (.bool bs[i]) := by
      rw [← Array.getElem?_toList, hb, List.getElem?_map, List.getElem?_eq_getElem hlt]
      rfl
    refine codeAny_builtin F.entry_any_loop ?_
    rw [Around.under_plainId F.plain_any_loop _]
    show wpAny _ A.in1 (pyNext (.ref I) >>= _) _ _ s
    refine wpAny_bind (wpAny_pyNext_list_item hst.1 hst.2 (x := .bool bs[i]) hx fun h' hit' hs' => ?_)
    refine wpAny_bind (wpAny_holding (wpAny_truthy_bool ?_))
    refine wpAny_bind (wpAny_letGo ?_)
    have hk' : ∀ b o, b ∉ [I] → s.heap.get? b = some o → h'.get? b = some o := fun b o hb e => hs'.extBut b o (fun h => hb (by simp [h])) e
    cases hbi : bs[i] with
    | false =>
      simp only [Bool.false_eq_true, if_false]
      refine wpAny_pure ⟨plainId_quiet F.plain_any_loop _, ih (i + 1) _ (by omega) ?_ ⟨hit', hst.2.extBut hs'.extBut hne⟩ fun h'' tk'' hk'' => ?_⟩
      · obtain ⟨j, h1, h2⟩ := hj
        refine ⟨j, ?_, h2⟩
        have : i ≠ j := by
          rintro rfl
          rw [List.getElem?_eq_getElem hlt, hbi] at h2
          cases h2
        omega
      · exact hR h'' tk'' fun b o hbw e => hk'' b o hbw (hk' b o hbw e)
    | true =>
      simp only [if_true]
      refine wpAny_bind (wpAny_rule (wpAny_pure ?_))
      exact hR h' _ hk'
end
section
variable {X : Cx}
def rAnyT (K : PySem.W.Frag) : List V → Hp → VK → Prop := fun vs H Q => ∃ (a : Addr) (bs : List Bool), vs = [V.ref a] ∧ SqL K H a (bs.map V.bl) ∧ (∃ j : Nat, bs[j]? = some true) ∧ Q (.bl true) H
theorem cr_anyT : CallR X (.builtin "any") (rAnyT X.K) := by
  intro pins s σ H vs us Q I r h
  obtain ⟨a, bs, rfl, hs, ⟨j, hj⟩, q⟩ := h
  obtain ⟨its, rv, hl, _⟩ := I.list hs
  rw [Vals.ref1 r]
  have hb := rv.bls
  refine call_function_tree F.kind_any F.plain_any F.entry_any (F.args_any1 _) ?_
  unfold Builtin.«any»
  refine wpAny_bind (m := oneArg "any" _) (wpAny_pure ?_)
  refine wpAny_bind (iter_any hl.isList fun s₂ e2 st hne => ?_)
  subst e2
  refine wpAny_pure ⟨plainId_quiet F.plain_any_loop _, codeAny_any_loopT hne (bs := bs) (by rw [List.toList_toArray]; exact hb) _ 0 _ rfl ⟨j, Nat.zero_le _, hj⟩ st fun h' tk hk => ?_⟩
  refine ⟨.bl true, H, I.kept fun b o eo => hk b o (fun hmem => ?_) (Heap.get?_push_of_some _ eo), rfl, q⟩
  rcases List.mem_cons.mp hmem with e1 | hmem
  · exact absurd (e1 ▸ Heap.lt_size eo) (Nat.lt_irrefl _)
  · cases hmem
end
end L2
namespace Ip
open PySem L2
open Evl (Ex sz_of fresh_back)
variable [Old]
variable {X : Cx}
def anyTD : PyData → Option Slot
  | .list xs => (boolsOf xs).bind fun bs => if bs.any id then some (.val (.bool true)) else none
  | _ => none
theorem ok_anyT : R1ok X.K (fun v H Q => rAnyT X.K [v] H Q) anyTD := by
  intro Hs H σ env x v s hs I hx Q q
  cases x <;> try (cases hs; done)
  rename_i xs
  have hs : ((boolsOf xs).bind fun bs => if bs.any id then some (Slot.val (.bool true)) else none) = some s := hs
  cases hd : boolsOf xs with
  | none => rw [hd] at hs; cases hs
  | some bs =>
    rw [hd] at hs
    simp only [Option.bind_some] at hs
    split at hs
    · rename_i ha
      cases hs
      obtain ⟨p, vs, rfl, h1, h2⟩ := hx
      obtain ⟨b, hb, ht⟩ := List.any_eq_true.mp ha
      obtain ⟨j, hj⟩ := List.getElem?_of_mem hb
      cases b with
      | false => cases ht
      | true => exact ⟨p, bs, rfl, by rw [← boolsOf_rep hd h2]; exact h1.1, ⟨j, hj⟩, ok_val I rfl (show Rep X.K Hs (.bool _) (.bl _) from rfl) q⟩
    · cases hs
end Ip

set_option Elab.async false
set_option linter.all false
set_option maxRecDepth 100000
set_option maxHeartbeats 4000000
/-! x in a small dict of the def -/
namespace Ip
open PySem L2
open Evl (Ex sz_of fresh_back)
variable [Old]
variable {X : Cx} {a b e : Expr} {pos : Pos} {K : PySem.W.Frag} {Hs Hs' H H' : Hp} {σ : L2.St} {env env' : MEnv}
def ldInD (neg : Bool) : PyData → PyData → Option Slot
  | .str z, .dict ((.bool true, .none) :: kvs) => some (.val (.bool ((ldLook z kvs).isSome != neg)))
  | _, _ => none
theorem kd_miss {z : Str} : ∀ {kvs : List (PyData × PyData)} {ks : List (Key × V)}, kdRep kvs ks → ldLook z kvs = none → valV ks (.inr z) = none
  | [], ks, h, _ => by
    cases (show ks = [] from h)
    rfl
  | (k, d0) :: r, ks, h, e => by
    obtain ⟨y, v, ks', rfl, rfl, h1, h2⟩ := h
    have e : (if y = z then some d0 else ldLook z r) = none := e
    by_cases hy : y = z
    · rw [if_pos hy] at e
      cases e
    · rw [if_neg hy] at e
      rw [valV_neg (fun q => hy (Sum.inr.inj q))]
      exact kd_miss h2 e
def rInLd (neg : Bool) : R2 := fun x y H Q => ∃ a o, y = .ref a ∧ DGet H a x o ∧ Q (.bl (o.isSome != neg)) H
theorem op_inLd (hu : X.A.units + 1 < cLine) : OpR X (compareOp .In) (rInLd false) := by
  intro pins s σ H x y v u Q I rx ry h
  obtain ⟨a, o, rfl, g, q⟩ := h
  cases ry
  exact d_in hu I g rx fun s' I' => ⟨.bl _, H, I', rfl, by cases o <;> exact q⟩
theorem op_ninLd (hu : X.A.units + 1 < cLine) : OpR X (compareOp .NotIn) (rInLd true) := by
  intro pins s σ H x y v u Q I rx ry h
  obtain ⟨a, o, rfl, g, q⟩ := h
  cases ry
  exact d_notIn hu I g rx fun s' I' => ⟨.bl _, H, I', rfl, by cases o <;> exact q⟩
theorem ok_inLd {neg : Bool} : R2ok X.K (rInLd neg) (ldInD neg) := by
  intro Hs H σ env x y v u s hs I hx hy Q q
  unfold ldInD at hs
  split at hs
  · rename_i z kvs
    cases hs
    cases (show v = .str z from hx)
    have hy : Rep X.K Hs (.dict ((.bool true, .none) :: kvs)) u := hy
    rcases hy with h | ⟨_, e, _⟩ | ⟨kvs', a, ks, e1, rfl, e3, e4⟩ | ⟨_, _, e, _⟩ | ⟨_, _, _, _, e, _⟩
    · obtain ⟨_, _, _, _, _, _, _, _, _, h⟩ := h
      obtain ⟨w, r, e, h1, _⟩ := h
      cases (show PyData.bool true = .str w.1 from h1.1)
    · cases e
    · cases e1
      have g := DGet.k (k := Sum.inr z) (I.sh a _ e3)
      have hsome : (valV ks (Sum.inr z)).isSome = (ldLook z kvs).isSome := by
        cases hd : ldLook z kvs with
        | none => rw [kd_miss e4 hd]; rfl
        | some d =>
          obtain ⟨w, w1, w2⟩ := kd_look e4 hd
          rw [w1]; rfl
      refine ⟨a, _, rfl, g, ?_⟩
      rw [hsome]
      exact ok_val I rfl (show Rep X.K Hs (.bool _) (.bl _) from rfl) q
    · cases e
    · cases e
  · cases hs
end Ip

set_option Elab.async false
set_option linter.all false
set_option maxRecDepth 100000
set_option maxHeartbeats 4000000
/-! a list that is about times a whole number -/
namespace L2
open PySem PySem.Spec PyProof.Rows
section
variable {X : Cx}
theorem q_mul_int (l : Addr) (items : Array Value) (n : Nat) (d : Option Addr) (sl : Array (Option Value)) (x : Int) (u : Tok) (hc0 : ¬(!Builtin.List.listFitsIndex x) = true)
    (hc1 : ¬items.size * x.toNat > (2 ^ 63 - 1) / 8) (hc2 : ¬Builtin.List.listTooLong (items.size * x.toNat) = true) :
    Meets (Builtin.«list.__mul__» ⟨[.ref l, .int x u], []⟩) (fun _ R s => s.heap.get? l = some { cls := .type "list", dict := d, data := .seq items n, slots := sl } ∧ R (.ok (.ret (Value.ref s.heap.objs.size))) { s with heap := s.heap.push { cls := Value.type "list", data := Data.seq (List.foldl (fun x1 x2 => x1 ++ x2) #[] (List.replicate (if items.isEmpty = true then 0 else x.toNat) items)) }, toks := s.toks }) :=
  .of_wp fun prog w A R s h => by
    obtain ⟨hp, g, d, tk, os⟩ := s; obtain ⟨hl, h⟩ := h
    have hsz := AutoListH.joined_fits hc2
    wp_walk; refine wpAny_ite_false (decide_eq_false (Nat.not_lt.mpr hsz)) ?_; wp_walk; exact ⟨_, rfl, h⟩
theorem q_rmul_int (a : Int) (t : Tok) (l : Addr) (items : Array Value) (n : Nat) (d : Option Addr) (sl : Array (Option Value)) :
    Meets (Builtin.«int.__rmul__» ⟨[.int a t, .ref l], []⟩) (fun _ R s => s.heap.get? l = some { cls := .type "list", dict := d, data := .seq items n, slots := sl } ∧ R (.ok (.ret Value.notImplemented)) s) :=
  .of_wp fun prog w A R s h => by obtain ⟨hp, g, d, tk, os⟩ := s; obtain ⟨hl, h⟩ := h; wp_walk; exact ⟨_, rfl, h⟩
def rRepS (K : PySem.W.Frag) : R2 := fun x y H Q => ∃ l k xs, x = .ref l ∧ y = .int k ∧ SqL K H l xs ∧ -(2 ^ 63) ≤ k ∧ k < 2 ^ 63 ∧ xs.length * k.toNat ≤ sizeLine ∧
  ∀ p, H p = none → Q (.ref p) (upd H p (.lst (List.replicate k.toNat xs).flatten))
theorem op_repS : OpR X (binaryOp .Mult) (rRepS X.K) := by
  intro pins s σ H x y v u Q I rx ry h
  obtain ⟨l, k, xs, rfl, rfl, hs, h1, h2, hz, q⟩ := h
  obtain rfl : v = Value.ref l := rx
  obtain ⟨t, rfl⟩ := ry
  obtain ⟨its, r, ⟨⟨cls, dd, data, sl⟩, n, e, hc, hdn, hd⟩, hlen0⟩ := I.list hs
  have hcc : cls = Value.type "list" := hc
  have hd1 : data = Data.seq its.toArray n := hd
  subst hcc hd1
  have hl : xs.length = its.length := r.length
  have hlen : its.toArray.size * k.toNat ≤ sizeLine := by rw [List.size_toArray, ← hl]; exact hz
  have hcap : ¬ its.toArray.size * k.toNat > (2 ^ 63 - 1) / 8 := by
    have : (sizeLine : Nat) ≤ (2 ^ 63 - 1) / 8 := by decide
    omega
  have hfit : ¬ (!Builtin.List.listFitsIndex k) = true := by
    rw [fitsIndex_both h1 h2]
    exact Bool.false_ne_true
  have hlong : ¬ Builtin.List.listTooLong (its.toArray.size * k.toNat) = true := by
    rw [notLongL hlen]
    exact Bool.false_ne_true
  have hnew : List.foldl (fun x1 x2 => x1 ++ x2) #[] (List.replicate (if its.toArray.isEmpty = true then 0 else k.toNat) its.toArray) = (List.replicate k.toNat its).flatten.toArray := by
    have f0 : ∀ m : Nat, List.foldl (fun x1 x2 => x1 ++ x2) #[] (List.replicate m its.toArray) = (List.replicate m its).flatten.toArray := fun m => by
      have := foldl_rep its m []
      rw [List.nil_append] at this
      exact this
    rw [f0]
    cases its with
    | nil => simp
    | cons a r' => rw [if_neg (by simp)]
  refine wpAny_binaryOp_repeat_ref (T := "list") (U := "int") (by decide) ⟨_, e, rfl⟩ (fun s' => typeIs_int s' k t) noFill_list_mul F.fills_int_mul F.slot_int_rmul repeat_list F.slot_int_index.lookup
    (call_meets F.slot_int_rmul (typeIs_int s k t) F.entry_int_rmul (F.args_int_rmul_2 _ _) (q_rmul_int k t l its.toArray n dd sl)
      ⟨e, rfl, ⟨_, e, rfl⟩, call_meets F.slot_list_mul ⟨_, e, rfl⟩ F.entry_list_mul (F.args_list_mul_2 _ _) (q_mul_int l its.toArray n dd sl k t hfit hcap hlong) ⟨e, ?_⟩⟩)
  rw [hnew]
  exact ⟨.ref _, _, I.lnew (t' := s.toks) (r.rep k.toNat) (by rw [PyProof.Rows.lm_len_rep_flat, Nat.mul_comm]; exact hz), rfl, q _ I.fresh⟩
end
end L2
namespace Ip
open PySem L2
open Evl (Ex sz_of fresh_back)
variable [Old]
variable {X : Cx}
def repLD : PyData → PyData → Option Slot
  | .list xs, .int k => if xs.length * k.toNat ≤ 100000 ∧ 0 ≤ k ∧ k < 1000 then some (.own (List.replicate k.toNat xs).flatten) else none
  | _, _ => none
theorem ok_repL : R2ok X.K (rRepS X.K) repLD := by
  intro Hs H σ env x y v u s hs I hx hy Q q
  cases x <;> try (cases hs; done)
  cases y <;> try (cases hs; done)
  rename_i xs k
  unfold repLD at hs
  simp only at hs
  split at hs
  · rename_i hc
    cases hs
    obtain ⟨hc1, hc2, hc3⟩ := hc
    obtain ⟨p, vs, rfl, h1, h2⟩ := hx
    cases (show u = .int k from hy)
    have hlen := RepL.length h2
    refine ⟨p, k, vs, rfl, rfl, h1.1, by omega, by omega, sz_of (by rw [← hlen]; exact hc1), ok_newL (s := .own (List.replicate k.toNat xs).flatten) I rfl (repL_rep h2 k.toNat) q⟩
  · cases hs
end Ip

set_option Elab.async false
set_option linter.all false
set_option maxRecDepth 100000
set_option maxHeartbeats 4000000
/-! a tuple plus a tuple that may be empty -/
namespace Ip
open PySem L2
open Evl (Ex sz_of fresh_back)
variable [Old]
variable {X : Cx}
def addTD : PyData → PyData → Option Slot
  | .tuple xs, .tuple ys => if xs.length + ys.length ≤ 100000 ∧ xs ≠ [] then some (.val (.tuple (xs ++ ys))) else none
  | _, _ => none
theorem ok_addT : R2ok X.K (rCatT X.K) addTD := by
  intro Hs H σ env x y v u s hs I hx hy Q q
  cases x <;> cases y <;> try (cases hs; done)
  rename_i xs ys
  unfold addTD at hs
  simp only at hs
  split at hs
  · rename_i hc
    cases hs
    obtain ⟨hc, n1⟩ := hc
    obtain ⟨l, vs, e1, h1, h2⟩ := hx
    obtain ⟨m, us, e2, h3, h4⟩ := hy
    have l1 := RepL.length h2
    have l2 := RepL.length h4
    have m1 : vs ≠ [] := fun e => n1 (List.eq_nil_of_length_eq_zero (by rw [l1, e]; rfl))
    refine ⟨l, m, vs, us, e1, e2, Evl.ex_t I.sh h1, Evl.ex_t I.sh h3, m1, sz_of (by rw [← l1, ← l2]; exact hc), fun e => ?_, fun _ => ok_newT I rfl (RepL.app h2 h4) q⟩
    have : ys = [] := List.eq_nil_of_length_eq_zero (by rw [l2, e]; rfl)
    subst this
    rw [List.append_nil] at q
    rw [← e1]
    exact ok_val I rfl (show Rep X.K Hs (.tuple xs) v from ⟨l, vs, e1, h1, h2⟩) q
  · cases hs
end Ip

set_option Elab.async false
set_option linter.all false
set_option maxRecDepth 100000
set_option maxHeartbeats 4000000
/-! repr of greater data -/
namespace Ip
open PySem L2
open Evl (Ex sz_of fresh_back)
variable [Old]
variable {X : Cx}
def reprBOk (d : PyData) : Bool := d.showable && !d.hasDict && decide (d.depth ≤ 100) && decide (d.shown.length ≤ 16777216)
def reprBD (d : PyData) : Option Slot := if reprBOk d = true then some (.val (.str d.shown)) else none
theorem ok_reprB : R1ok X.K (fun v H Q => rRepr X.K [v] H Q) reprBD := by
  intro Hs H σ env x v s hs I hx Q q
  unfold reprBD at hs
  split at hs
  · rename_i hc
    cases hs
    unfold reprBOk at hc
    simp only [Bool.and_eq_true, decide_eq_true_eq, Bool.not_eq_true'] at hc
    obtain ⟨⟨⟨h1, h2⟩, h3⟩, h4⟩ := hc
    exact ⟨v, x, rfl, Rep.dp x v (Top.rep I.sh hx) h2, h1, h2, h3, (by rw [PySem.sizeLine_eq]; exact h4), ok_val I rfl (show Rep X.K Hs (.str _) (.str _) from rfl) q⟩
  · cases hs
end Ip

set_option Elab.async false
set_option linter.all false
set_option maxRecDepth 100000
set_option maxHeartbeats 4000000
/-! del xs[-m:] -/
namespace L2
open PySem PySem.Spec PyProof.Rows
section
variable {prog : Program} {w : World} {A : Around} {E : Value → Shared → Prop} {s : Shared}
theorem bounds_back {m n : Nat} (h1 : 1 ≤ m) (hm : m ≤ n) : sliceBounds (some (-(m : Int))) none none n = (((n - m : Nat) : Int), (n : Int), 1) := by
  simp only [sliceBounds, Option.getD_none]
  have h1 : -(m : Int) < 0 := by omega
  simp only [h1, if_true, show (1 : Int) > 0 by decide]
  congr 1
  omega
theorem kept_front {α : Type} (f : Nat → Bool) {n m : Nat} (xs : List α) (hn : xs.length = n) (hm : m ≤ n) (hf : ∀ i, i < n → f i = decide (n - m ≤ i)) : xs.zipIdx.filterMap (fun p => if f p.2 then none else some p.1) = xs.take (n - m) := by
  have gen : ∀ (xs : List α) (k : Nat), k + xs.length = n → (xs.zipIdx k).filterMap (fun p => if f p.2 then none else some p.1) = xs.take (n - m - k) := by
    intro xs
    induction xs with
    | nil => intro k _; simp
    | cons x xs ih =>
      intro k hk
      rw [List.length_cons] at hk
      rw [List.zipIdx_cons, List.filterMap_cons]
      have h1 := hf k (by omega)
      by_cases hlt : k < n - m
      · have : f k = false := by rw [h1]; exact decide_eq_false (by omega)
        simp only [this, Bool.false_eq_true, if_false]
        rw [ih (k + 1) (by omega)]
        rw [show n - m - k = (n - m - (k + 1)) + 1 by omega, List.take_succ_cons]
      · have : f k = true := by rw [h1]; exact decide_eq_true (by omega)
        simp only [this, if_true]
        rw [ih (k + 1) (by omega)]
        rw [show n - m - k = 0 by omega, show n - m - (k + 1) = 0 by omega]
        simp
  have := gen xs 0 (by omega)
  simpa using this
theorem delItem_back {l sl : Addr} {items : Array Value} {n : Nat} {vl : Value} {m : Nat} {Q : Unit → Shared → Prop}
    (e : s.heap.get? l = some { cls := .type "list", data := .seq items n }) (hs : s.heap.IsSliceOf sl vl .none .none) (pl : IsPart vl (some (-(m : Int)))) (h1 : 1 ≤ m) (hm : m ≤ items.size) (hz : items.size ≤ sizeLine)
    (h : ∀ f : Array Value → Array Value, f items = (items.toList.take (items.size - m)).toArray → Q () { s with heap := s.heap.update l (Obj.mapSeq f) }) :
    wpAny (model prog w) A (delItem (.ref l) (.ref sl)) Q E s := by
  have hl : s.heap.IsList l items := PySem.IsL.isList e
  obtain ⟨os, hos, hcs, hds⟩ := id hs
  have hTs : s.TypeIs (.ref sl) "slice" := ⟨os, hos, hcs⟩
  have hstep : ¬ ((rawPart none == rawInt 0) = true) := Bool.false_ne_true
  refine wpAny_delItem_slot hl.typeIs (by decide) PySem.F.slot_list_delitem (wpAny_call_entry PySem.F.slot_list_delitem hl.typeIs PySem.F.entry_list_delitem ?_ (PySem.F.args_list_delitem_2 _ _))
  show wpAny _ _ (Builtin.List.listSubscript? (.ref sl) >>= _) _ _ s
  refine wpAny_bind ?_
  unfold Builtin.List.listSubscript?
  refine wpAny_bind (wpAny_specialOf hTs slice_no_index ?_)
  simp only [Option.isNone_none, if_true]
  refine wpAny_pure ?_
  show wpAny _ _ (typeOf (.ref sl) >>= _) _ _ s
  refine wpAny_bind (wpAny_typeOf hTs ?_)
  first
    | rw [if_neg (by decide)]
    | refine PySem.W.KFB.if_not (by decide) ?_
  rw [listSliceParts_eq]
  refine wpAny_bind (wpAny_bind (wpAny_field hos hds (x := .none) rfl (wpAny_bind (wpAny_listPart .none ?_))))
  rw [if_neg hstep]
  refine wpAny_bind (wpAny_field hos hds (x := vl) rfl (wpAny_bind (wpAny_listPart pl ?_)))
  refine wpAny_bind (wpAny_field hos hds (x := .none) rfl (wpAny_bind (wpAny_listPart .none (wpAny_pure ?_))))
  dsimp only
  refine wpAny_bind (m := Builtin.List.listItems (.ref l)) ?_
  unfold Builtin.List.listItems
  refine wpAny_bind (wpAny_seqItems e rfl (wpAny_pure ?_))
  refine wpAny_bind (wpAny_of_eq ((sliceIndices_raw (some (-(m : Int))) none none items.size (by simp)).trans (congrArg (pure : Int × Int × Int → Sem (Int × Int × Int)) (bounds_back h1 hm))) ?_)
  refine wpAny_bind (wpAny_rule ?_)
  unfold Builtin.List.listUpdate
  have hsel : ∀ f : Nat → Bool, (∀ i, i < items.size → f i = decide (items.size - m ≤ i)) → (items.toList.zipIdx.filterMap fun p => if f p.2 then none else some p.1).toArray = (items.toList.take (items.size - m)).toArray := fun f hf =>
    congrArg List.toArray (kept_front f items.toList (by rw [Array.length_toList]) hm hf)
  have hsz : (items.toList.take (items.size - m)).toArray.size ≤ sizeLine + 1 := by
    rw [List.size_toArray, List.length_take, Array.length_toList]
    omega
  refine wpAny_bind (wpAny_updateSeq (hz := hz) (_hz' := ?hz) e rfl ?hq)
  case hz =>
    refine Nat.le_trans (Nat.le_of_eq (congrArg Array.size (hsel _ fun i hi => ?_))) hsz
    show (if (1 : Int) > 0 then decide (((items.size - m : Nat) : Int) ≤ (i : Int)) && decide ((i : Int) < ((items.size : Nat) : Int)) && (((i : Int) - ((items.size - m : Nat) : Int)) % 1 == 0) else _) = _
    rw [if_pos (by decide)]
    have e1 : decide ((i : Int) < ((items.size : Nat) : Int)) = true := decide_eq_true (by omega)
    have e2 : ((((i : Int) - ((items.size - m : Nat) : Int)) % 1 == 0) : Bool) = true := by simp
    rw [e1, e2, Bool.and_true, Bool.and_true]
    exact decide_eq_decide.mpr (by omega)
  case hq =>
    refine wpAny_bind (wpAny_letGo ?_)
    refine wpAny_pure ⟨.none, rfl, h _ (hsel _ fun i hi => ?_)⟩
    show (if (1 : Int) > 0 then decide (((items.size - m : Nat) : Int) ≤ (i : Int)) && decide ((i : Int) < ((items.size : Nat) : Int)) && (((i : Int) - ((items.size - m : Nat) : Int)) % 1 == 0) else _) = _
    rw [if_pos (by decide)]
    have e1 : decide ((i : Int) < ((items.size : Nat) : Int)) = true := decide_eq_true (by omega)
    have e2 : ((((i : Int) - ((items.size - m : Nat) : Int)) % 1 == 0) : Bool) = true := by simp
    rw [e1, e2, Bool.and_true, Bool.and_true]
    exact decide_eq_decide.mpr (by omega)
end
end L2
namespace L2
open PySem PySem.Spec PyProof.Rows
section
variable {X : Cx} {o : Expr} {pos p2 : Pos}
def tDelB (to : TE) (tl : TO) : TS := fun D σ H => to σ H fun x H1 => tl σ H1 fun l H2 => ∃ (p : Addr) (xs : List V) (m : Nat), x = .ref p ∧ l = some (-(m : Int)) ∧ H2 p = some (.lst xs) ∧ 1 ≤ m ∧ m ≤ xs.length ∧ D.nx σ (upd H2 p (.lst (xs.take (xs.length - m))))
theorem ps_delB {lo : Option Expr} {to : TE} {tl : TO} {tpos : Pos} (ho : PE X o to) (hl : PO X lo tl) : PS X (.Delete [.Subscript o (.Slice lo none none p2) tpos] pos) (tDelB to tl) := by
  refine ⟨fun pins s σ H D I h => ?_⟩
  refine wpAny_Delete (wpAny_deleteEach_cons (wpAny_delete_Subscript (thn (ho.run pins s σ H _ I h) fun u s1 ⟨x, H1, I1, rx, q1⟩ => ?_)))
  refine wpAny_Slice (thn (hl.run pins s1 σ H1 _ I1 q1) fun vl s2 ⟨l, H2, I2, pl, q2⟩ => ?_)
  obtain ⟨p, xs, m, ex, el, hH, h1, hm, q2⟩ := q2
  subst ex
  subst el
  cases (show u = Value.ref p from rx)
  rw [evalPart_none]
  refine wpAny_pure ?_
  refine wpAny_pure ?_
  have I4 : Inv X pins σ H2 { s2 with heap := s2.heap.push { cls := .type "slice", data := .fields #[vl, .none, .none] } } := I2.kept (t' := s2.toks) fun b ob q => Heap.get?_push_of_some _ q
  obtain ⟨z, its, n, r, hl', e⟩ := I4.lstM hH
  show wpAny (model X.prog X.w) X.A (delItem (.ref p) (.ref s2.heap.objs.size)) _ X.xe { s2 with heap := s2.heap.push { cls := .type "slice", data := .fields #[vl, .none, .none] } }
  refine delItem_back e (Heap.IsSliceOf.new ..) pl h1 (by rw [List.size_toArray, ← hl']; exact hm) (by rw [List.size_toArray, ← hl']; exact z) fun f hf => ?_
  refine wpAny_deleteEach_nil ⟨σ, _, I4.lset (its' := its.take (its.length - m)) (t' := s2.toks) hH e ?_ (r.take _) ?_, ?_⟩
  · rw [hf, List.size_toArray]
  · rw [List.length_take]; omega
  · rw [← hl']
    exact q2
end
end L2
namespace Ip
open PySem L2
open Evl (Ex sz_of fresh_back)
variable [Old]
variable {X : Cx} {a b e o : Expr} {pos : Pos} {K : PySem.W.Frag} {Hs Hs' H H' : Hp} {σ : L2.St} {env env' : MEnv}
def delB (i : Nat) (fl : MEnv → Option (Option Int × MEnv)) : MEnv → Option Out := fun env => match env[i]? with
  | some s0 => match s0.mut with
    | some _ => match fl env with
      | some (some k, e1) => match e1[i]? with
        | some s => match s.mut with
          | some xs => if k < 0 ∧ k.natAbs ≤ xs.length then some (.nx (e1.set i (s.put (xs.take (xs.length - k.natAbs))))) else none
          | none => none
        | none => none
      | _ => none
    | none => none
  | none => none
theorem repL_take {K : PySem.W.Frag} {H : Hp} : ∀ {ds : List PyData} {vs : List V} (k : Nat), RepL K H ds vs → RepL K H (ds.take k) (vs.take k)
  | _, _, 0, _ => by rw [List.take_zero, List.take_zero]; rfl
  | [], vs, k + 1, h => by
    cases (show vs = [] from h)
    rfl
  | d :: ds, vs, k + 1, h => by
    obtain ⟨v, r, rfl, h1, h2⟩ := h
    rw [List.take_succ_cons, List.take_succ_cons]
    exact ⟨v, r.take k, rfl, h1, repL_take k h2⟩
theorem ss_delB {i : Nat} {x : Str} {px p2 tpos : Pos} {fl : MEnv → Option (Option Int × MEnv)} (hx : PE X (.Name x px) (tVar i)) (h : SO X (some e) fl) :
    SS X (.Delete [.Subscript (.Name x px) (.Slice (some e) none none p2) tpos] pos) (delB i fl) := by
  refine ⟨?_⟩
  intro env σ Hs H o hf I D q
  unfold delB at hf
  split at hf
  · rename_i s0 h0
    split at hf
    · rename_i xs0 m0
      split at hf
      · rename_i k e1 h1
        split at hf
        · rename_i s hs
          split at hf
          · rename_i xs hm
            split at hf
            · rename_i hz
              cases hf
              obtain ⟨p, vs0, k1, k2, k3, k4⟩ := I.muts i s0 xs0 h0 m0
              refine WS.of (ps_delB hx (so_po (some e))) ?_
              refine ⟨.ref p, k1, ?_⟩
              refine h env σ Hs H _ e1 h1 I _ fun Hs1 H1 g1 I1 => ?_
              obtain ⟨p', vs, j1, j2, j3, j4⟩ := I1.muts i s xs hs hm
              rw [k1] at j1
              cases j1
              have hlen := RepL.length j4
              refine ⟨p, vs, k.natAbs, rfl, by rw [show -(k.natAbs : Int) = k by omega], j3, by omega, by rw [← hlen]; exact hz.2, ?_⟩
              rw [← hlen]
              exact q σ Hs1 _ (g1.trans (GoE.change I1 hs hm k1)).go (I1.change hs hm (Slot.put_mut hm _) k1 (repL_take _ j4))
            · cases hf
          · cases hf
        · cases hf
      · cases hf
    · cases hf
  · cases hf
end Ip

set_option Elab.async false
set_option linter.all false
set_option maxRecDepth 100000
set_option maxHeartbeats 4000000
/-! a text times a number -/
namespace L2
open PySem PySem.Spec PyProof.Rows
section
variable {X : Cx}
def repS (z : Str) (k : Nat) : Str := ⟨(List.replicate k z.cps).foldl (· ++ ·) #[]⟩
theorem fold_len (z : Array Nat) : ∀ (k : Nat) (a : Array Nat), ((List.replicate k z).foldl (· ++ ·) a).size = a.size + k * z.size
  | 0, a => by simp
  | k + 1, a => by rw [List.replicate_succ, List.foldl_cons, fold_len z k, Array.size_append, Nat.succ_mul]; omega
def rRepStr : R2 := fun x y H Q => ∃ z k, x = .str z ∧ y = .int k ∧ 2 ≤ k ∧ k ≤ 1000 ∧ 1 ≤ z.length ∧ z.length ≤ 1000 ∧ Q (.str (repS z k.toNat)) H
theorem op_repStr : OpR X (binaryOp .Mult) rRepStr := by
  intro pins s σ H x y v u Q I rx ry h
  obtain ⟨z, k, rfl, rfl, h1, h2, h3, h4, q⟩ := h
  obtain ⟨t, rfl⟩ := rx
  obtain ⟨u', rfl⟩ := ry
  have hsz := sizeLine_eq
  have hlen : (repS z k.toNat).length = k.toNat * z.length := by
    show ((List.replicate k.toNat z.cps).foldl (· ++ ·) #[]).size = _
    rw [fold_len]
    simp
    rfl
  have hb : k.toNat * z.length ≤ 1000 * 1000 := Nat.mul_le_mul (by omega) h4
  refine PySem.P.mul_str ?_ (fun _ _ => ?_) (fun _ _ => ?_) ?_
  · rw [decide_eq_false (by omega), decide_eq_false (by omega)] <;> rfl
  · have hk : (0 : Int) < k := by omega
    have : (1000 : Int) ≤ (2 ^ 63 - 1) / k := by
      rw [Int.le_ediv_iff_mul_le hk]
      omega
    omega
  · unfold Builtin.Str.tooLong
    rw [Nat.mul_comm]
    exact decide_eq_false (by omega)
  · rw [if_neg (by omega)]
    have e0 : (k == 1 || z.length == 0) = false := by
      rw [beq_eq_false_iff_ne.mpr (by omega), beq_eq_false_iff_ne.mpr (by omega)] <;> rfl
    rw [if_neg (by rw [e0]; exact Bool.false_ne_true)]
    refine ⟨?_, .str (repS z k.toNat), H, I.tok _, ⟨_, rfl⟩, q⟩
    show (repS z k.toNat).length ≤ sizeLine
    rw [hlen]
    omega
end
end L2
namespace Ip
open PySem L2
open Evl (Ex sz_of fresh_back)
variable [Old]
variable {X : Cx}
def repSD : PyData → PyData → Option Slot
  | .str z, .int k => if 2 ≤ k ∧ k ≤ 1000 ∧ 1 ≤ z.length ∧ z.length ≤ 1000 then some (.val (.str (repS z k.toNat))) else none
  | _, _ => none
theorem ok_repStr : R2ok X.K rRepStr repSD := by
  intro Hs H σ env x y v u s hs I hx hy Q q
  cases x <;> cases y <;> try (cases hs; done)
  rename_i z k
  unfold repSD at hs
  simp only at hs
  split at hs
  · rename_i hc
    cases hs
    exact ⟨z, k, hx, hy, hc.1, hc.2.1, hc.2.2.1, hc.2.2.2, ok_val I rfl (show Rep X.K Hs (.str _) (.str _) from rfl) q⟩
  · cases hs
/-- a statement that is never reached -/
def noB : MEnv → Option Out := fun _ => none
theorem ss_never {st : Stmt} : SS X st noB := .mk fun _ _ _ _ _ hf => by cases hf
end Ip

set_option Elab.async false
set_option linter.all false
set_option maxRecDepth 100000
set_option maxHeartbeats 4000000
/-! t[::-1] of a tuple; xs.extend(t) of a tuple -/
namespace HT
open PySem PySem.Spec PyProof.Rows
section
variable {prog : Program} {w : World} {A : Around} {E : Value → Shared → Prop} {s : Shared}
theorem back_places (n : Nat) : Builtin.Slice.sliceAdjust none none (-1) (n : Int) = ((n : Int) - 1, -1) ∧ Builtin.Slice.slicePlaces ((n : Int) - 1) (-1) (-1) = n := by
  constructor
  · unfold Builtin.Slice.sliceAdjust
    simp
  · unfold Builtin.Slice.slicePlaces
    rw [if_neg (by decide)]
    split
    · rw [show -(-1 : Int) = 1 by decide, Int.ediv_one]; omega
    · omega
theorem sliceApplied_back {sl : Addr} {vs : Value} {n : Nat} {Q : Int × Int × Nat → Shared → Prop} (hs : s.heap.IsSliceOf sl .none .none vs) (ps : IsPart vs (some (-1)))
    (h : Q ((n : Int) - 1, -1, n) s) : wpAny (model prog w) A (Builtin.Slice.sliceApplied (.ref sl) (pure (n : Int))) Q E s := by
  obtain ⟨os, hos, hcs, hds⟩ := id hs
  unfold Builtin.Slice.sliceApplied Builtin.Slice.sliceFields
  refine wpAny_bind (wpAny_bind (wpAny_field hos hds (x := .none) rfl (wpAny_bind (wpAny_field hos hds (x := .none) rfl (wpAny_bind (wpAny_field hos hds (x := vs) rfl (wpAny_pure ?_)))))))
  refine wpAny_bind (slicePart_ ps ?_)
  show wpAny _ _ (if ((-1 : Int) == 0) = true then _ else _) _ _ s
  rw [if_neg (by decide)]
  refine wpAny_bind (slicePart_ .none (wpAny_bind (slicePart_ .none (wpAny_bind (wpAny_pure ?_)))))
  show wpAny _ _ (match Builtin.Slice.sliceAdjust none none (-1) (n : Int) with | (lo, hi) => pure (lo, (-1 : Int), Builtin.Slice.slicePlaces lo hi (-1))) _ _ s
  rw [(back_places n).1]
  show wpAny _ _ (pure ((n : Int) - 1, (-1 : Int), Builtin.Slice.slicePlaces ((n : Int) - 1) (-1) (-1))) _ _ s
  rw [(back_places n).2]
  exact wpAny_pure h
theorem fm_map {α β : Type} {f : α → Option β} {g : α → β} : ∀ l : List α, (∀ x ∈ l, f x = some (g x)) → l.filterMap f = l.map g
  | [], _ => rfl
  | x :: l, h => by
    rw [List.filterMap_cons, h x List.mem_cons_self, List.map_cons]
    simp only
    rw [fm_map l fun y hy => h y (List.mem_cons_of_mem _ hy)]
theorem pick_back (xs : Array Value) : ((List.range xs.size).filterMap fun (m : Nat) => xs[(((xs.size : Int) - 1) + (m : Int) * (-1)).toNat]?).toArray = xs.toList.reverse.toArray := by
  congr 1
  apply List.ext_getElem?
  intro i
  have e : (List.range xs.size).filterMap (fun (m : Nat) => xs[(((xs.size : Int) - 1) + (m : Int) * (-1)).toNat]?) = (List.range xs.size).map (fun m => xs.getD (xs.size - 1 - m) .none) := by
    refine fm_map _ fun m hm => ?_
    have := List.mem_range.mp hm
    have e1 : (((xs.size : Int) - 1) + (m : Int) * (-1)).toNat = xs.size - 1 - m := by omega
    rw [e1]
    have hl : xs.size - 1 - m < xs.size := by omega
    simp [Array.getD, hl]
  rw [e]
  by_cases hi : i < xs.size
  · rw [List.getElem?_map, List.getElem?_range hi, List.getElem?_reverse (by rw [Array.length_toList]; exact hi), Array.length_toList]
    have hl : xs.size - 1 - i < xs.size := by omega
    simp [Array.getD, hl]
  · rw [List.getElem?_eq_none (by rw [List.length_map, List.length_range]; omega), List.getElem?_eq_none (by rw [List.length_reverse, Array.length_toList]; omega)]
theorem getItem_tuple_back {t sl : Addr} {items : Array Value} {vs : Value} {Q : Value → Shared → Prop} (ht : IsTup s.heap t items) (hs : s.heap.IsSliceOf sl .none .none vs) (ps : IsPart vs (some (-1)))
    (h : Q (.ref s.heap.objs.size) { s with heap := s.heap.push { cls := .type "tuple", data := .seq items.toList.reverse.toArray } })
    (hsz : items.size ≤ sizeLine) : wpAny (model prog w) A (getItem (.ref t) (.ref sl)) Q E s := by
  have htake : sizeOk (.seq items.toList.reverse.toArray) := by
    show items.toList.reverse.toArray.size ≤ sizeLine
    rw [List.size_toArray, List.length_reverse, Array.length_toList]
    exact hsz
  obtain ⟨os, hos, hcs, hds⟩ := id hs
  have hTs : s.TypeIs (.ref sl) "slice" := ⟨os, hos, hcs⟩
  unfold getItem
  try with_reducible refine wpAny_holding ?_
  first | refine wpAny_bind (wpAny_pure ?_) | skip
  refine wpAny_bind (wpAny_sequenceKey ht.typeIs (by decide) ?_)
  refine wpAny_bind (wpAny_callSpecial?_slot (name := Str.ofString "__getitem__") ht.typeIs PyProof.Rows.slot_tuple_getitem
    (wpAny_call_entry PyProof.Rows.slot_tuple_getitem ht.typeIs entry_tuple_getitem ?_ (args_tuple_getitem _ _)))
  show wpAny _ _ (Builtin.Tuple.tupleItemsOf (.ref t) >>= _) _ _ s
  refine wpAny_bind (tupleItemsOf_ ht ?_)
  refine wpAny_bind (wpAny_typeOf hTs ?_)
  rw [if_pos (by decide)]
  refine wpAny_bind (sliceApplied_back hs ps ?_)
  have hno : ¬ ((((items.size : Int) - 1) == 0 && (-1 : Int) == 1 && items.size == items.size) = true) := by
    rw [show ((-1 : Int) == 1) = false by decide, Bool.and_false, Bool.false_and]
    exact Bool.false_ne_true
  show wpAny _ _ (if (((items.size : Int) - 1) == 0 && (-1 : Int) == 1 && items.size == items.size) = true then _ else _) _ _ s
  rw [if_neg hno, pick_back]
  first
    | exact wpAny_bind (m := Builtin.Tuple.tupleExact _) (wpAny_newObj_type (wpAny_pure ⟨_, rfl, wpAny_pure h⟩) htake)
    | exact wpAny_bind (m := Builtin.Tuple.tupleExact _) (wpAny_newObj_type (wpAny_bind (wpAny_pure (wpAny_pure ⟨_, rfl, wpAny_pure h⟩))) htake)
    | exact wpAny_bind (wpAny_bind (m := Builtin.Tuple.tupleExact _) (wpAny_newObj_type (wpAny_pure (wpAny_pure ⟨_, rfl, wpAny_pure h⟩)) htake))
    | exact wpAny_bind (wpAny_bind (m := Builtin.Tuple.tupleExact _) (wpAny_newObj_type (wpAny_pure ⟨_, rfl, wpAny_pure h⟩) htake))
end
end HT
namespace L2
open PySem PySem.Spec PyProof.Rows
section
variable {X : Cx}
def tRevT (K : PySem.W.Frag) (te : TE) : TE := fun σ H Q => te σ H fun x H1 => ∃ a xs, x = .ref a ∧ SqT K H1 a xs ∧ ∀ p, H1 p = none → Q (.ref p) (upd H1 p (.tup xs.reverse))
theorem pe_revT {e : Expr} {te : TE} {k : Nat} {p1 p2 p3 pos : Pos} (he : PE X e te) : PE X (.Subscript e (.Slice none none (some (.UnaryOp .USub (.Constant (.int 1) k p1) p2)) p3) pos) (tRevT X.K te) := by
  refine ⟨fun pins s σ H Q I h => ?_⟩
  refine Subscript_ (thn (he.run pins s σ H _ I h) fun v s1 ⟨x, H1, I1, r1, q1⟩ => ?_)
  obtain ⟨a, xs, ex, hx, q⟩ := q1
  subst ex
  cases r1
  have hst : PO X (some (.UnaryOp .USub (.Constant (.int 1) k p1) p2)) (tPart (tUn (rU fun i => .int (-i)) (tC (.int 1)))) := po_some (pe_un un_neg pe_int)
  refine wpAny_Slice (thn (po_none.run pins s1 σ H1 (fun o H2 => o = none ∧ H2 = H1) I1 ⟨rfl, rfl⟩) fun vl s2 ⟨l, H2, I2, pl, el, e2⟩ => ?_)
  subst el e2
  refine thn (po_none.run pins s2 σ H2 (fun o H3 => o = none ∧ H3 = H2) I2 ⟨rfl, rfl⟩) fun vu s3 ⟨u, H3, I3, pu, eu, e3⟩ => ?_
  subst eu e3
  refine thn (hst.run pins s3 σ H3 (fun o H4 => o = some (-1) ∧ H4 = H3) I3 ⟨1, rfl, -1, rfl, rfl, rfl⟩) fun vs s4 ⟨o, H4, I4, ps, eo, e4⟩ => ?_
  subst eo e4
  cases pl
  cases pu
  have I5 : Inv X pins σ H4 { s4 with heap := s4.heap.push { cls := .type "slice", data := .fields #[.none, .none, vs] } } := I4.kept (t' := s4.toks) fun b ob q => Heap.get?_push_of_some _ q
  obtain ⟨its, r, ht, hz⟩ := I5.tuple hx
  have hlen := r.length
  show wpAny (model X.prog X.w) X.A (subscriptTail e (.Slice none none (some (.UnaryOp .USub (.Constant (.int 1) k p1) p2)) p3) (.ref a) (.ref s4.heap.objs.size)) (EP X pins σ Q) X.xe { s4 with heap := s4.heap.push { cls := .type "slice", data := .fields #[.none, .none, vs] } }
  refine tail_any (ops := [.ref a, .ref s4.heap.objs.size]) ht.typeIs PyProof.Rows.slot_tuple_getitem.lookup ?_ (by with_unfolding_all rfl)
  refine HT.getItem_tuple_back ht (Heap.IsSliceOf.new _ _ _ vs) ps ?_ (by rw [List.size_toArray]; omega)
  refine ⟨.ref _, _, I5.laid (t' := s4.toks) (o := .tup xs.reverse) (fun b ob q => Heap.get?_push_of_some _ q) (Nat.le_refl _) ?_, rfl, q _ (I5.hok.fresh (Nat.le_refl _))⟩
  exact ⟨by rw [List.length_reverse]; exact hz, _, r.reverse, IsTup.new _ _⟩
theorem list_extend_tup (l : Addr) (items : Array Value) (n : Nat) (b : Addr) (items2 : Array Value) (n2 : Nat) (dd : Option Addr) (sl : Array (Option Value)) (hc0 : ¬(!items.isEmpty && Builtin.List.listTooLong (items.size + items2.size)) = true) (hc1 : items.size ≤ sizeLine) (hs2 : items.size + items2.size ≤ sizeLine + 1) :
    Meets (Builtin.«list.extend» ⟨[.ref l, .ref b], []⟩) (fun _ R s => s.heap.get? l = some { cls := .type "list", dict := none, data := .seq items n, slots := #[] } ∧ s.heap.get? b = some { cls := .type "tuple", dict := dd, data := .seq items2 n2, slots := sl } ∧ R (.ok (.ret Value.none)) { s with heap := s.heap.update l (Obj.mapSeq fun x => x ++ items2), toks := s.toks }) :=
  .of_wp fun prog w A R s h => by
    obtain ⟨hp, g, d, tk, os⟩ := s; obtain ⟨hl, hb, h⟩ := h; have f1 := AutoSeq1.idx_int; have f2 := AutoSeq1.sub_tuple_tuple; have f3 := AutoSeq1.sub_list_list; have f4 := AutoSeq1.sub_tuple_list; have f5 := AutoSeq1.sub_list_tuple;
    have hz' : (items ++ items2).size ≤ sizeLine + 1 := by rw [Array.size_append]; exact hs2
    wp_walk using (wpAny_updateSeq hl rfl (hz := hc1) (_hz' := hz')), AutoSeq1.wpAny_loadPart' hl, AutoSeq1.wpAny_loadPart' hb; exact ⟨_, rfl, h⟩
def rExtT (K : PySem.W.Frag) : V → List V → Hp → VK → Prop := fun x vs H Q => ∃ l b xs zs, x = .ref l ∧ vs = [.ref b] ∧ H l = some (.lst xs) ∧ SqT K H b zs ∧ xs.length + zs.length ≤ sizeLine ∧ Q .non (upd H l (.lst (xs ++ zs)))
theorem mt_extT : MtM X "list.extend" (rExtT X.K) := by
  intro pins s σ H x vs v us Q I rx rv h
  obtain ⟨l, b, xs, zs, rfl, rfl, hH, hB, hz, q⟩ := h
  cases rx
  obtain ⟨u, rfl, ru⟩ := rv.one
  cases ru
  obtain ⟨z, its, n, r, hl, e⟩ := I.lstM hH
  obtain ⟨its2, r2, ⟨⟨cls, dd, data, sl⟩, ho, hc, n2, hd⟩, hlen⟩ := I.tuple hB
  simp only at hc hd
  subst hc hd
  have hl2 : its2.length = zs.length := r2.length.symm
  have hsz : its.toArray.size + its2.toArray.size ≤ sizeLine := by rw [List.size_toArray, List.size_toArray]; omega
  have hlong : ¬ (!its.toArray.isEmpty && Builtin.List.listTooLong (its.toArray.size + its2.toArray.size)) = true := by
    rw [show Builtin.List.listTooLong (its.toArray.size + its2.toArray.size) = false by
      unfold Builtin.List.listTooLong
      exact decide_eq_false (by omega), Bool.and_false]
    exact Bool.false_ne_true
  refine call_meets PySem.F.slot_list_extend ⟨_, e, rfl⟩ PySem.F.entry_list_extend (PySem.F.args_list_extend_2 _ _)
    (list_extend_tup l its.toArray n b its2.toArray n2 dd sl hlong (by rw [List.size_toArray]; omega) (by omega)) ⟨e, ho, ?_⟩
  refine ⟨.non, _, I.lset (its' := its ++ its2) hH e (by simp) (r.append r2) ?_, rfl, q⟩
  rw [List.length_append]
  omega
end
end L2
namespace Ip
open PySem L2
open Evl (Ex sz_of fresh_back)
variable [Old]
variable {X : Cx} {a b e o : Expr} {pos : Pos} {K : PySem.W.Frag} {Hs Hs' H H' : Hp} {σ : L2.St} {env env' : MEnv}
def revTD : PyData → Option Slot
  | .tuple xs => some (.val (.tuple xs.reverse))
  | _ => none
theorem se_revT {k : Nat} {p1 p2 p3 : Pos} {fa : MEnv → Option (Lr × MEnv)} (ha : SL X a fa) : SE X (.Subscript a (.Slice none none (some (.UnaryOp .USub (.Constant (.int 1) k p1) p2)) p3) pos) (op1 fa revTD) := by
  refine se_op1 (r := fun v H Q => ∃ p xs, v = .ref p ∧ SqT X.K H p xs ∧ ∀ q, H q = none → Q (.ref q) (upd H q (.tup xs.reverse))) ha ?_ (pe_revT (W.pe X a))
  intro Hs H σ env x v s hs I hx Q q
  cases x <;> try (cases hs; done)
  cases hs
  obtain ⟨p, vs, rfl, h1, h2⟩ := hx
  exact ⟨p, vs, rfl, Evl.ex_t I.sh h1, ok_newT I rfl (RepL.reverse h2) q⟩
def extTB (i : Nat) (f : MEnv → Option (PyData × MEnv)) : MEnv → Option Out := fun env => match env[i]? with
  | some s0 => match s0.mut with
    | some _ => match f env with
      | some (.tuple ys, e1) => match e1[i]? with
        | some s => match s.mut with
          | some xs => if xs.length + ys.length ≤ 100000 then some (.nx (e1.set i (s.put (xs ++ ys)))) else none
          | none => none
        | none => none
      | _ => none
    | none => none
  | none => none
theorem ss_extT {i : Nat} {x : Str} {px pa p2 : Pos} {f : MEnv → Option (PyData × MEnv)} (hx : PE X (.Name x px) (tVar i)) (h : SV X e f) (hp : plainE e = true) (hline : (pa.endLine == p2.line) = true) :
    SS X (.Expr (.Call (.Attribute (.Name x px) "extend" pa) [e] [] p2) pos) (extTB i f) := by
  refine ⟨?_⟩
  intro env σ Hs H o hf I D q
  unfold extTB at hf
  split at hf
  · rename_i s0 h0
    split at hf
    · rename_i xs0 m0
      split at hf
      · rename_i ys e1 h1
        split at hf
        · rename_i s hs
          split at hf
          · rename_i xs hm
            split at hf
            · rename_i hz
              cases hf
              obtain ⟨p, vs0, k1, k2, k3, k4⟩ := I.muts i s0 xs0 h0 m0
              have pe := pe_bm (X := X) PySem.F.plainAttrs_list PySem.F.slot_list_extend PySem.F.type_list_extend mt_extT hx (pa_cons (W.pe X e) pa_nil (star_plain hp)) (apos := pa) (cpos := p2) (by rfl) (by rw [star_plain hp]; rfl) hline (star_plain hp) rfl
              refine WS.of (ps_expr pe) ?_
              refine ⟨.ref p, k1, .inl ⟨rfl, vs0, Evl.sq_of k3⟩, ?_⟩
              refine h env σ Hs H _ e1 h1 I _ fun v Hs1 H1 g1 I1 r1 => ?_
              obtain ⟨p2, us, rfl, n3, n4⟩ := r1
              obtain ⟨p', vs, j1, j2, j3, j4⟩ := I1.muts i s xs hs hm
              rw [k1] at j1
              cases j1
              refine ⟨p, p2, vs, us, rfl, rfl, j3, Evl.ex_t I1.sh n3, sz_of (by rw [← RepL.length j4, ← RepL.length n4]; exact hz), ?_⟩
              have r2 : RepL X.K Hs1 (xs ++ ys) (vs ++ us) := RepL.app j4 n4
              exact q σ Hs1 _ (g1.trans (GoE.change I1 hs hm k1)).go (I1.change hs hm (Slot.put_mut hm _) k1 r2)
            · cases hf
          · cases hf
        · cases hf
      · cases hf
    · cases hf
  · cases hf
end Ip

set_option Elab.async false
set_option linter.all false
set_option maxRecDepth 100000
set_option maxHeartbeats 4000000
/-! a tuple times 1 -/
namespace L2
open PySem PySem.Spec PyProof.Rows
theorem tuple_mul1 (l : Addr) (items : Array Value) (n : Nat) (dd : Option Addr) (sl : Array (Option Value)) (u : Tok) :
    Meets (Builtin.«tuple.__mul__» ⟨[.ref l, .int 1 u], []⟩) (fun _ R s => s.heap.get? l = some { cls := .type "tuple", dict := dd, data := .seq items n, slots := sl } ∧
      R (.ok (.ret (Value.ref l))) s) :=
  .of_wp fun prog w A R s h => by
    obtain ⟨hp, g, d, tk, os⟩ := s
    obtain ⟨hl, h⟩ := h
    have f1 := AutoSeq1.idx_int
    have c1 : (items.isEmpty || (1 : Int) == 1) = true := by simp
    wp_walk using wpAny_loadPart' hl
    exact ⟨_, rfl, h⟩
def rRepT1 (K : PySem.W.Frag) : R2 := fun x y H Q => rRepT K x y H Q ∨ ∃ l xs, x = .ref l ∧ y = .int 1 ∧ SqT K H l xs ∧ Q (.ref l) H
theorem op_repT1 {X : Cx} : OpR X (binaryOp .Mult) (rRepT1 X.K) := by
  intro pins s σ H x y v u Q I rx ry h
  rcases h with h | ⟨l, xs, rfl, rfl, hT, q⟩
  · exact op_repT pins s σ H x y v u Q I rx ry h
  · obtain rfl : v = Value.ref l := rx
    obtain ⟨t, rfl⟩ := (show ∃ t, u = Value.int 1 t from ry)
    obtain ⟨its, r, ⟨⟨cls, dd, data, sl⟩, ho, hc, n, hd⟩, hs⟩ := I.tuple hT
    simp only at hc hd
    subst hc hd
    refine wpAny_binaryOp_repeat_ref (T := "tuple") (U := "int") (by decide) ⟨_, ho, rfl⟩ (fun s' => typeIs_int s' 1 t) noFill_tuple_mul F.fills_int_mul F.slot_int_rmul repeat_tuple F.slot_int_index.lookup
      (call_meets F.slot_int_rmul (typeIs_int s 1 t) F.entry_int_rmul (F.args_int_rmul_2 _ _) (int_rmul_tuple 1 t l its.toArray n dd sl)
        ⟨ho, rfl, ⟨_, ho, rfl⟩, call_meets F.slot_tuple_mul ⟨_, ho, rfl⟩ F.entry_tuple_mul (F.args_tuple_mul_2 _ _) (tuple_mul1 l its.toArray n dd sl t) ⟨ho, ?_⟩⟩)
    exact ⟨.ref l, H, I, rfl, q⟩
end L2
namespace Ip
open PySem L2
open Evl (Ex sz_of fresh_back)
variable [Old]
variable {X : Cx}
def repT1D : PyData → PyData → Option Slot
  | .tuple xs, .int k => if k = 1 then some (.val (.tuple xs)) else repTD (.tuple xs) (.int k)
  | _, _ => none
theorem ok_repT1 : R2ok X.K (rRepT1 X.K) repT1D := by
  intro Hs H σ env x y v u s hs I hx hy Q q
  cases x <;> try (cases hs; done)
  cases y <;> try (cases hs; done)
  rename_i xs k
  have hs : (if k = 1 then some (Slot.val (.tuple xs)) else repTD (.tuple xs) (.int k)) = some s := hs
  by_cases hk : k = 1
  · rw [if_pos hk] at hs
    cases hs
    subst hk
    obtain ⟨p, vs, rfl, h1, h2⟩ := hx
    cases (show u = .int 1 from hy)
    exact .inr ⟨p, vs, rfl, rfl, Evl.ex_t I.sh h1, ok_val I rfl (show Rep X.K Hs (.tuple xs) (.ref p) from ⟨p, vs, rfl, h1, h2⟩) q⟩
  · rw [if_neg hk] at hs
    exact .inl (ok_repT Hs H σ env _ _ v u s hs I hx hy Q q)
end Ip

set_option Elab.async false
set_option linter.all false
set_option maxRecDepth 100000
set_option maxHeartbeats 4000000
/-! own calls while an error is held -/
namespace Ip
open PySem L2
open Evl (Ex sz_of fresh_back)
/-- what stands in a class -/
def clsBodyE : Stmt → List Stmt
  | .ClassDef _ _ _ body .. => body
  | _ => []
theorem roomH_mk {k : Nat} {A : Around} (r : Room k A) (h : Option Value) : L2H.RoomH k (A.mark h) := ⟨r.dp, r.un⟩
/-- f, a def of the text, keeps the promise while an error is held -/
structure OwnH (P : Program) (w : World) (K : PySem.W.Frag) (mg : Str → Option Value) (base : Heap) (k : Nat) (x : Str) (n : Nat) (run : Run) where
  f : Addr
  fd : FuncData
  ps : List Str
  ok : L2H.FnH P w K mg base CX0 k f fd ps (spF K n run)
  at_ : mg x = some (.ref f)
  kp : PySem.W.keepIn K (.ref f) = true
  bi : Binds K fd ps []
theorem fun_okH {P : Program} {w : World} {K : PySem.W.Frag} {mg : Str → Option Value} {base : Heap} {nm qn : Str} {st : Stmt} {f : Addr} {fd : FuncData} {N ps : List Str} {k : Nat} {sp : Sp} (F : Fun K nm qn st f fd) (S : FnScope N ps (defScope st))
    (cnt : ∀ a h q x, sp a h q x → a.length = ps.length)
    (body : ∀ (cd : Value) (A : Around) (up : List PySem.Env) (t : Shared) (h : Hp) (a : List V) (q : VK) (x : XK) (p : Addr × Obj), L2H.Hot1 A p → sp a h q x →
      ∃ r, PSs (L2H.cxH CX0 P w K mg base N qn (defScope st) f cd A up t h x p) (defBody st) r ∧ r { nx := fun _ h1 => q .non h1, rt := q } (start N a) h) :
    L2H.FnH P w K mg base CX0 (k + 1) f fd ps sp := by
  obtain ⟨oc, od, kV, doc, pm, an, cd, ct, osl, rfl, at_, code⟩ := F.ex
  exact L2H.fn_ofH at_ code S cnt fun A up t h a q x p hot _ hs => body cd A up t h a q x p hot hs
variable [Old]
variable {X : Cx} {a b e o : Expr} {pos : Pos} {K : PySem.W.Frag} {Hs Hs' H H' : Hp} {σ : L2.St} {env env' : MEnv}
theorem se_goH {k n : Nat} {run : Run} {x : Str} {p : Pos} {es : List Expr} {fs : MEnv → Option (List PyData × MEnv)} (o : OwnH X.prog X.w X.K X.mg X.base k x n run) (hc : L2H.HotC X) (hr : L2H.RoomH k X.A) (hg : Gl X x) (ha : SA X (e :: es) fs)
    (hp : (e :: es).all plainE = true) (hd : (x == ("__debug__" : Str)) = false) : SE X (.Call (.Name x p) (e :: es) [] pos) (callF n run fs) := by
  refine ⟨?_⟩
  intro env σ Hs H r env' hf I Q q
  rw [List.all_cons, Bool.and_eq_true] at hp
  refine W.of (L2H.pe_callH (E := fun _ => E0) o.ok hr hc hg o.at_ o.kp o.bi (fun _ _ _ _ _ _ _ z => z.elim) (WA.pa X (e :: es)) hd (star_plain hp.1) (star_any hp.2)) ?_
  have z := rd_call ha hf I Q q E0
  unfold tCall at z
  simp only [List.append_nil] at z
  exact z
end Ip

set_option Elab.async false
set_option linter.all false
set_option maxRecDepth 100000
set_option maxHeartbeats 4000000
/-! errors as values: they are made, told apart, and their fields are read -/
namespace Ip
open PySem L2 PyProof.Rows
open Evl (Ex sz_of fresh_back)
/-! ### what the hand layer lacks -/
section
variable {X : Cx} {CX : CXT} {x n : Str} {C fI : Addr} {k : Nat} {fd : FuncData} {ps : List Str} {sp : Sp} {e : Expr} {es : List Expr} {ta : L2.TA} {te : TE} {p pos : Pos}
theorem pe_exc0 {mg' : Str → Option Value} (c : ExcCl X.K X.mg x) (hg : Gl X x) (hdb : (x == ("__debug__" : Str)) = false) :
    PE X (.Call (.Name x p) [] [] pos) (fun _ H Q => ∀ a, H a = none → Q (.ref a) (upd H a (exo a c.C none))) := by
  refine ⟨fun pins s σ H Q I h => wpAny_Call_Name_kw (ld_glob I hg c.at_ (PySem.W.callWith_K0 I.kIn c.kp ?_) hdb)⟩
  show wpAny _ _ (call (.ref c.C) []) _ _ _
  obtain ⟨bm, N, nm, qn, bs, hdct, sn, sub, ab, col, dd, k0, k1, k2, k3, k5, mN, hC, hN, hni, T⟩ := exc_obj I.kIn c.ex
  refine wpAny_call_exc_subT PySem.F.excBase_ValueError T hC hN hni (fun h' a hm => ?_) (Nat.zero_le _)
  have hn : H a = none := I.hok.gone hm.new
  obtain ⟨t, ht, _, _⟩ := hm.there
  exact ⟨.ref a, upd H a (exo a c.C none), I.laidN hm.keeps hm.new hn (exo_ok ht), rfl, h a hn⟩
theorem pe_excI (T : OexC X.K C) (iC : PySem.W.findIn X.K (.ref C) "__init__" = some (some (.ref fI))) (tI : PySem.W.typeIn X.K (.ref fI) = some (.type "function"))
    (F1 : FnOk X.prog X.w X.K X.mg X.base CX k fI fd ps sp) (hr : Room (k + 1) X.A) (hb : Binds X.K fd ps []) (hx : Passes CX X (fun _ _ _ => False)) (hg : Gl X x) (hm : X.mg x = some (.ref C)) (ha : PA X (e :: es) ta)
    (hdb : (x == ("__debug__" : Str)) = false) (he : starEach (e :: es) X.env = (false, eval e X.env) :: starEach es X.env) (hpl : (backTo pos (starEach es X.env)).any (·.1) = false) :
    PE X (.Call (.Name x p) (e :: es) [] pos) (fun σ H Q => ta σ H fun vs H1 => vs.length ≤ 1000 ∧ ∀ a, H1 a = none → sp (.ref a :: vs) (upd H1 a (exo a C none)) (fun v H2 => v = .non ∧ Q (.ref a) H2) (fun _ _ _ => False)) := by
  refine ⟨fun pins s σ H Q I h => ?_⟩
  obtain ⟨nm, q, N, bs, bm, sn, sub, ab, col, dd, k0, k1, k2, k3, k5, hC, hbm⟩ := T.cls
  refine wpAny_Call_Name_kw (ld_glob I hg hm ?_ hdb)
  refine PySem.W.callWith_K (h₀ := X.base) I.ok.mod.kin T.kC (thn (ha.run pos pins s σ H _ I h) fun us s1 ⟨vs, H1, I1, r1, hz, q1⟩ => ⟨I1.kIn, ?_⟩) he hpl
  show wpAny _ _ (call (.ref C) us) _ _ _
  obtain ⟨hp, g, dr, tk, os⟩ := s1
  obtain ⟨a, ea⟩ : ∃ a, a = hp.objs.size + 1 := ⟨_, rfl⟩
  have hsz : hp.objs.size ≤ a := by omega
  have hn : H1 a = none := I1.hok.fresh hsz
  have hq := q1 a hn
  have kk : ∀ b o, hp.get? b = some o → ((hp.push (PySem.W.kdv_tup us)).push (PySem.HandSPX.excO C hp.objs.size)).get? b = some o := fun b o z => Heap.get?_push_of_some _ (Heap.get?_push_of_some _ z)
  have hget : ((hp.push (PySem.W.kdv_tup us)).push (PySem.HandSPX.excO C hp.objs.size)).get? a = some (PySem.HandSPX.excO C hp.objs.size) := by subst ea; heap_get
  have I2 := I1.laid (t' := tk) (a := a) (o := exo a C none) (h' := (hp.push (PySem.W.kdv_tup us)).push (PySem.HandSPX.excO C hp.objs.size)) kk hsz (exo_ok hget)
  have r2 : Vals (V.ref a :: vs) (Value.ref a :: us) := .cons rfl r1
  have hl : (Value.ref a :: us).length = ps.length := by
    have z := r2.length
    rw [F1.len _ _ _ _ hq] at z
    exact z.symm
  have hus : us.length ≤ sizeLine := by rw [← Paired.length r1, sizeLine_eq]; omega
  have b2 := hb _ (Value.ref a :: us) I2.kIn (by rw [List.append_nil]; exact hl)
  rw [List.append_nil] at b2
  subst ea
  refine wpAny_call (PySem.HandSPX.call_own F.excBase_ValueError (fun Y => PySem.HandSPX.refsVE_contains Y bm hbm) (I1.kIn _ _ hC) (PySem.W.looks_findIn I1.kIn iC) (fun self => PySem.W.bind_fn I1.kIn self tI) hus
    (codeAny_mono (F1.run _ X.stack _ _ _ (Value.ref (hp.objs.size + 1) :: us) _ _ (fun _ _ _ => False) (hr.make C us []) (I2.env0.make C us []) b2 r2 hq) fun r s' z => ?_))
  match r, z with
  | .error er, z => exact hx pins σ _ _ er s' I2 z
  | .ok (.ret u), z =>
    obtain ⟨v, H2, J, rv, ev, q2⟩ := I2.after z
    subst ev
    exact ⟨rv, .ref (hp.objs.size + 1), H2, J, rfl, q2⟩
  | .ok .next, z => exact z.elim
  | .ok .brk, z => exact z.elim
  | .ok .cont, z => exact z.elim
/-- e.f of such an error -/
theorem pe_exf (he : PE X e te) (hb : attributeBase e n X.env (eval e X.env) = eval e X.env) : PE X (.Attribute e n pos) (fun σ H Q => te σ H fun x H1 => ∃ (a C d : Addr) (fs : List (Str × V)) (v : V), x = .ref a ∧ XfC X.K C ∧ PySem.W.findIn X.K (.ref C) n = some none ∧
    H1 a = some (exo a C (some d)) ∧ H1 d = some (exd d fs) ∧ fs.lookup n = some v ∧ Q v H1) := by
  refine ⟨fun pins s σ H Q I h => attr_of hb (thn (he.run pins s σ H _ I h) fun u s1 hh => ?_)⟩
  obtain ⟨x, H1, I1, rx, a, C, d, fs, v, ex, T, hno, ea, ed, l, q⟩ := hh
  subst ex
  obtain rfl : u = Value.ref a := rx
  obtain ⟨t1, ho⟩ := exo_at I1.hok ea
  obtain ⟨mA, hns, hr⟩ := exd_at I1.hok ed
  obtain ⟨od, hod, hl⟩ := lookIn_ns hns
  obtain ⟨u, hu, ru⟩ := RelO.some_of (v := v) (o := mA n) (by rw [← l]; exact hr n)
  exact HandSPX.exc_get I1.kIn (ox := { cls := .ref C, dict := some d, data := .fields #[.ref t1, .none, .none, .none, .bool false, .none] }) ⟨ho, rfl, rfl, hod⟩ T.ga T.gg T.exC
    (PySem.W.findObj_own T.hdC hno rfl (by rw [hl, hu])) (handed_of ru) ⟨v, H1, I1.tok _, ru, q⟩
def rIsV (K : PySem.W.Frag) : List V → Hp → VK → Prop := fun xs H Q => ∃ (a D : Addr) (d : Option Addr) (c : V) (cv : Value) (b : Bool), xs = [.ref a, c] ∧ ExcC K D ∧ H a = some (exo a D d) ∧ (∀ dx, d = some dx → ∃ o, H dx = some o) ∧ (∀ u, RelV c u → u = cv) ∧ PySem.W.kitOne K (.ref D) cv = some b ∧ Q (.bl b) H
theorem call_isV : CallR X (.builtin "isinstance") (rIsV X.K) := by
  intro pins s σ H xs us Q I r ⟨a, D, d, c, cv, b, e0, C, ea, hd, hcv, e, q⟩
  subst e0
  match us, r with
  | [_, _], .cons rx (.cons rt .nil) =>
    cases rx
    have ec := hcv _ rt
    subst ec
    obtain ⟨t1, ho⟩ := exo_at I.hok ea
    have J : ∃ od, PySem.W.InstAt s.heap a { cls := .ref D, dict := d, data := .fields #[.ref t1, .none, .none, .none, .bool false, .none] } D od := by
      cases d with
      | none => exact ⟨none, ho, rfl, rfl, trivial⟩
      | some dx =>
        obtain ⟨o, hdx⟩ := hd dx rfl
        obtain ⟨u, hu⟩ := objOk_get (I.hok dx o hdx)
        exact ⟨some u, ho, rfl, rfl, hu⟩
    exact PySem.W.kia_one (kitx_exc C) I.kIn J e (fun z => nomatch z) fun tk => ⟨.bl b, H, I.kept (t' := tk) fun _ _ z => z, rfl, q⟩
end
/-! ### over plain data -/
def excD (x : Str) (fs : List (Str × Int)) : PyData := .dict ((.bool false, .str x) :: fs.map fun p => (.str p.1, .int p.2))
/-- where the classes' names stand -/
structure ErrNs (K : PySem.W.Frag) (mg : Str → Option Value) (cs : List Str) : Prop where
  ns : ∀ x ∈ cs, ∃ D : Addr, mg x = some (.ref D) ∧ PySem.W.nsIn K mainGlobals x = some (some (.ref D))
variable [Old]
variable {X : Cx} {a b e o : Expr} {pos : Pos} {K : PySem.W.Frag} {Hs Hs' H H' : Hp} {σ : L2.St} {env env' : MEnv}
theorem rep_exc {c : Str} {r : List (PyData × PyData)} {v : V} (h : Rep K H (.dict ((.bool false, .str c) :: r)) v) : ∃ (a C : Addr) (fs : List (Str × Int)), r = fs.map (fun p => (PyData.str p.1, PyData.int p.2)) ∧ v = .ref a ∧ PySem.W.nsIn K mainGlobals c = some (some (.ref C)) ∧ exRep H a C fs := by
  rcases (show Rep K H (.dict ((.bool false, .str c) :: r)) v from h) with h | ⟨d', e, _⟩ | ⟨_, _, _, e, _⟩ | ⟨m, r', e, rfl, h⟩ | ⟨c', a, C, fs, e, rfl, h1, h2⟩
  · obtain ⟨a, C, dx, fs, c, v0, _, _, _, h⟩ := h
    obtain ⟨w, r, e, h1, _⟩ := h
    cases (show PyData.bool false = .str w.1 from h1.1)
  · cases e
  · cases e
  · cases e
  · cases e
    exact ⟨a, C, fs, rfl, rfl, h1, h2⟩
def mkX0 (x : Str) : MEnv → Option (Slot × MEnv) := fun env => some (.val (excD x []), env)
theorem se_mkX0 {x : Str} {p : Pos} {cs : List Str} (ns : ErrNs X.K X.mg cs) (hx : decide (x ∈ cs) = true) (c : ExcCl X.K X.mg x) (hg : Gl X x) (hdb : (x == ("__debug__" : Str)) = false) : SE X (.Call (.Name x p) [] [] pos) (mkX0 x) := by
  refine ⟨?_⟩
  intro env σ Hs H r env' hf I Q q
  cases hf
  refine W.of (pe_exc0 (mg' := X.mg) c hg hdb) fun a na => ?_
  obtain ⟨D, m1, m2⟩ := ns.ns x (of_decide_eq_true hx)
  rw [c.at_] at m1
  cases m1
  exact q (.ref a) _ _ (GoE.share I na _) (I.share na _) (.inr (.inr (.inr (.inr ⟨x, a, c.C, [], rfl, rfl, m2, .inl ⟨rfl, upd_same⟩⟩))))
def mkXF (x : Str) (ns : List Str) (fs : MEnv → Option (List PyData × MEnv)) : MEnv → Option (Slot × MEnv) := fun env => match fs env with
  | some (ds, e1) => match intsX ds with
    | some is => if is.length = ns.length ∧ ns ≠ [] ∧ ns.length ≤ 900 then some (.val (excD x (ns.zip is).reverse), e1) else none
    | none => none
  | none => none
theorem se_mkXF {x : Str} {ns : List Str} {p : Pos} {cs : List Str} {es : List Expr} {fs : MEnv → Option (List PyData × MEnv)} (nn : ErrNs X.K X.mg cs) (hx : decide (x ∈ cs) = true) (o : OwnE X.prog X.w X.K X.mg X.base x ns) (hr : Room 2 X.A) (hg : Gl X x) (ha : SA X (e :: es) fs)
    (hp : (e :: es).all plainE = true) (hdb : (x == ("__debug__" : Str)) = false) : SE X (.Call (.Name x p) (e :: es) [] pos) (mkXF x ns fs) := by
  refine ⟨?_⟩
  intro env σ Hs H r env' hf I Q q
  rw [List.all_cons, Bool.and_eq_true] at hp
  refine W.of (pe_excI o.T o.iC o.tI o.F1 hr o.bi pass0 hg o.at_ (WA.pa X (e :: es)) hdb (star_plain hp.1) (star_any hp.2)) ?_
  obtain ⟨D, m1, m2⟩ := nn.ns x (of_decide_eq_true hx)
  rw [o.at_] at m1
  cases m1
  unfold mkXF at hf
  split at hf
  · rename_i ds e1 h1
    split at hf
    · rename_i is h2
      split at hf
      · rename_i hc2
        cases hf
        refine ha env σ Hs H ds _ h1 I _ fun vs Hs1 H1 g1 I1 r1 => ?_
        have ev := intsX_rep h2 r1
        subst ev
        refine ⟨by rw [List.length_map, hc2.1]; omega, fun a na => ⟨a, is.map V.int, rfl, by rw [List.length_map]; exact hc2.1, upd_same, o.T, o.nf, fun d nd hda => ⟨rfl, ?_⟩⟩⟩
        rw [upd_ne hda] at nd
        have e0 : upd (upd (upd H1 a (exo a o.C none)) d (exd d (ns.zip (is.map V.int)).reverse)) a (exo a o.C (some d)) = upd (upd H1 a (exo a o.C (some d))) d (exd d (ns.zip (is.map V.int)).reverse) := by
          funext b
          by_cases z : b = a
          · rw [z, upd_same, upd_ne (Ne.symm hda), upd_same]
          · rw [upd_ne z]
            by_cases z2 : b = d
            · rw [z2, upd_same, upd_same]
            · rw [upd_ne z2, upd_ne z2, upd_ne z, upd_ne z]
        rw [e0]
        have nd1 : upd H1 a (exo a o.C (some d)) d = none := by rw [upd_ne hda]; exact nd
        have I2 := I1.share na (exo a o.C (some d))
        refine q (.ref a) _ _ ((g1.trans (GoE.share I1 na _)).trans (GoE.share I2 nd1 _)) (I2.share nd1 _) (.inr (.inr (.inr (.inr ⟨x, a, o.C, (ns.zip is).reverse, rfl, rfl, m2, .inr ⟨d, ?_, ?_, ?_⟩⟩))))
        · intro z
          have := congrArg List.length z
          rw [List.length_reverse, List.length_zip, hc2.1] at this
          cases ns with
          | nil => exact hc2.2.1 rfl
          | cons n ns => simp at this
        · rw [upd_ne (Ne.symm hda), upd_same]
        · rw [upd_same, zip_ints]
      · cases hf
    · cases hf
  · cases hf
/-- isinstance(e, T) -/
def isxD (cs : List Str) (t : Str) : PyData → Option Slot
  | .dict ((.bool false, .str c) :: _) => if c ∈ cs then some (.val (.bool (isaT c t))) else none
  | _ => none
theorem rd_isx {cs : List Str} {t : Str} {p p2 : Pos} {fa : MEnv → Option (Lr × MEnv)} {cv : Value} {c : V} (ea : ErrAll X.K X.mg cs) (nn : ErrNs X.K X.mg cs) (ha : SL X a fa) (hp : plainE a = true) (pt : PE X (.Name t p2) (tC c)) (hcv : ∀ u, RelV c u → u = cv)
    (hk : ∀ x ∈ cs, ∀ D, X.mg x = some (.ref D) → PySem.W.subIn X.K (.ref D) (.type "ValueError") = some true → PySem.W.kitOne X.K (.ref D) cv = some (isaT x t)) (hg : Gl X "isinstance") (hm : X.mg "isinstance" = none) :
    SE X (.Call (.Name "isinstance" p) [a, .Name t p2] [] pos) (op1 fa (isxD cs t)) := by
  refine se_op1 (r := fun v H Q => rIsV X.K [v, c] H Q) ha ?_ ?_
  · intro Hs H σ env x v s hs I hx Q q
    unfold isxD at hs
    split at hs
    · rename_i c' r
      split at hs
      · rename_i hc
        cases hs
        obtain ⟨a, C, fs, rfl, rfl, h1, h2⟩ := rep_exc (show Rep X.K Hs (.dict ((.bool false, .str c') :: r)) v from hx)
        obtain ⟨D, m1, m2⟩ := nn.ns c' hc
        rw [h1] at m2
        cases m2
        obtain ⟨kk⟩ := ea.cl' c' hc
        have eC : kk.C = C := by
          have := kk.at_
          rw [m1] at this
          cases this
          rfl
        have hE : ExcC X.K C := by rw [← eC]; exact kk.excC ea.g
        have hV : PySem.W.subIn X.K (.ref C) (.type "ValueError") = some true := by rw [← eC]; exact kk.ve
        rcases h2 with ⟨_, h2⟩ | ⟨d, _, h2, h3⟩
        · exact ⟨a, C, none, c, cv, _, rfl, hE, I.sh a _ h2, (fun _ z => by cases z), hcv, hk c' hc C m1 hV, ok_val I rfl (show Rep X.K Hs (.bool _) (.bl _) from rfl) q⟩
        · exact ⟨a, C, some d, c, cv, _, rfl, hE, I.sh a _ h2, (fun dx z => by cases z; exact ⟨_, I.sh d _ h3⟩), hcv, hk c' hc C m1 hV, ok_val I rfl (show Rep X.K Hs (.bool _) (.bl _) from rfl) q⟩
      · cases hs
    · cases hs
  · exact (show PE X _ (tCB (rIsV X.K) (tCons (W X a) (tCons (tC c) tNil))) from pe_callB call_isV hg hm (by decide +kernel) (pa_cons (W.pe X a) (pa_cons pt pa_nil) (star_plain hp)) (by decide) (by decide) (star_plain hp) (by rfl))
theorem se_isxC {cs : List Str} {t : Str} {p p2 : Pos} {fa : MEnv → Option (Lr × MEnv)} (ea : ErrAll X.K X.mg cs) (nn : ErrNs X.K X.mg cs) (ht : decide (t ∈ cs) = true) (ha : SL X a fa) (hp : plainE a = true) (gt : Gl X t) (hg : Gl X "isinstance") (hm : X.mg "isinstance" = none) (hd : (t == ("__debug__" : Str)) = false) :
    SE X (.Call (.Name "isinstance" p) [a, .Name t p2] [] pos) (op1 fa (isxD cs t)) :=
  rd_isx (cv := .ref (ea.cl t ht).C) (c := .ref (ea.cl t ht).C) ea nn ha hp (pe_glob gt (ea.cl t ht).at_ rfl hd) (fun u h => h)
    (fun x hx D m _ => kit_own (ea.cl t ht).hd (ea.cl t ht).ty (ea.cl t ht).sf ((ea.es hx ht).sub D m)) hg hm
theorem se_isxV {cs : List Str} {p p2 : Pos} {fa : MEnv → Option (Lr × MEnv)} (ea : ErrAll X.K X.mg cs) (nn : ErrNs X.K X.mg cs) (ha : SL X a fa) (hp : plainE a = true) (gt : Gl X "ValueError") (mt : X.mg "ValueError" = none) (hg : Gl X "isinstance") (hm : X.mg "isinstance" = none) :
    SE X (.Call (.Name "isinstance" p) [a, .Name "ValueError" p2] [] pos) (op1 fa (isxD cs "ValueError")) :=
  rd_isx (cv := .type "ValueError") (c := .ty "ValueError") ea nn ha hp (pe_bltn gt mt (by decide +kernel) rfl (by decide) (by decide)) (fun u h => h) (fun x hx D m hv => by
    rw [kit_ve hv]
    have : isaT x "ValueError" = true := by unfold isaT; simp
    rw [this]) hg hm
/-- e.f -/
def xgD (cs : List Str) (f : Str) : PyData → Option Slot
  | .dict ((.bool false, .str c) :: r) => if c ∈ cs then match lookX f r with
      | some v => some (.val (.int v))
      | none => none
    else none
  | _ => none
theorem se_xg {cs fls : List Str} {f : Str} {fa : MEnv → Option (Lr × MEnv)} (ea : ErrAll X.K X.mg cs) (nn : ErrNs X.K X.mg cs) (fl : ErrFl X.K X.mg cs fls) (hf : decide (f ∈ fls) = true) (ha : SL X a fa) (hb : attributeBase a f X.env (eval a X.env) = eval a X.env) :
    SE X (.Attribute a f pos) (op1 fa (xgD cs f)) := by
  refine se_op1 (r := fun x H1 Q => ∃ (a C d : Addr) (fs : List (Str × V)) (v : V), x = .ref a ∧ XfC X.K C ∧ PySem.W.findIn X.K (.ref C) f = some none ∧ H1 a = some (exo a C (some d)) ∧ H1 d = some (exd d fs) ∧ fs.lookup f = some v ∧ Q v H1) ha ?_ (pe_exf (W.pe X a) hb)
  intro Hs H σ env x v s hs I hx Q q
  unfold xgD at hs
  split at hs
  · rename_i c' r
    split at hs
    · rename_i hc
      split at hs
      · rename_i vv hv
        cases hs
        obtain ⟨a, C, fs, rfl, rfl, h1, h2⟩ := rep_exc (show Rep X.K Hs (.dict ((.bool false, .str c') :: r)) v from hx)
        obtain ⟨D, m1, m2⟩ := nn.ns c' hc
        rw [h1] at m2
        cases m2
        obtain ⟨kk⟩ := ea.cl' c' hc
        have eC : kk.C = C := by
          have := kk.at_
          rw [m1] at this
          cases this
          rfl
        rw [lookX_map] at hv
        rcases h2 with ⟨z, h2⟩ | ⟨d, _, h2, h3⟩
        · rw [z] at hv
          cases hv
        · have hE : ExcC X.K C := by rw [← eC]; exact kk.excC ea.g
          exact ⟨a, C, d, _, .int vv, rfl, ⟨hE.hg, hE.hk, hE.hs, hE.hd⟩, fl.no c' hc f (of_decide_eq_true hf) C m1, I.sh a _ h2, I.sh d _ h3, lookup_ints f vv fs hv, ok_val I rfl (show Rep X.K Hs (.int vv) (.int vv) from rfl) q⟩
      · cases hs
    · cases hs
  · cases hs
end Ip

set_option Elab.async false
set_option linter.all false
set_option maxRecDepth 100000
set_option maxHeartbeats 4000000
/-! what the machine of plain data does, in general -/
namespace Ip
open PySem L2

/-! ### loops -/
theorem for_ind {fg : PyData → MEnv → Option MEnv} {fb : MEnv → Option Out} (P : Nat → MEnv → Prop) : ∀ (ds : List PyData) (k : Nat) (env : MEnv), P k env →
    (∀ i d env, ds[i]? = some d → P (k + i) env → ∃ e1 e2, fg d env = some e1 ∧ fb e1 = some (.nx e2) ∧ P (k + i + 1) e2) → ∃ e, forLoop fg fb ds env = some (.nx e) ∧ P (k + ds.length) e
  | [], k, env, h0, _ => ⟨env, rfl, h0⟩
  | d :: ds, k, env, h0, hs => by
    obtain ⟨e1, e2, h1, h2, h3⟩ := hs 0 d env rfl h0
    obtain ⟨e, h4, h5⟩ := for_ind P ds (k + 1) e2 h3 (fun i d' env' hd hp => by
      obtain ⟨a1, a2, b1, b2, b3⟩ := hs (i + 1) d' env' (by simpa using hd) (by rw [show k + (i + 1) = k + 1 + i by omega]; exact hp)
      exact ⟨a1, a2, b1, b2, by rw [show k + 1 + i + 1 = k + (i + 1) + 1 by omega]; exact b3⟩)
    refine ⟨e, ?_, by rw [List.length_cons, show k + (ds.length + 1) = k + 1 + ds.length by omega]; exact h5⟩
    unfold forLoop
    rw [h1]
    simp only [h2]
    exact h4
/-- a comprehension whose element is worked out by f, the rest staying as it is -/
theorem comp_map {fe : MEnv → Option (PyData × MEnv)} {j : Nat} {env : MEnv} (f : PyData → PyData) (hj : env[j]? = some .un) : ∀ (ds acc : List PyData), (∀ d ∈ ds, fe (env.set j (.val d)) = some (f d, env.set j (.val d))) →
    compLoop (nameG j) yesT fe [j] ds acc env = some (acc ++ ds.map f, env)
  | [], acc, _ => by simp [compLoop]
  | d :: ds, acc, h => by
    have hl : j < env.length := (List.getElem?_eq_some_iff.mp hj).1
    have back : (env.set j (.val d)).set j .un = env := by
      rw [List.set_set]
      apply List.ext_getElem?
      intro i
      by_cases e : j = i
      · subst e
        rw [List.getElem?_set, if_pos rfl, if_pos hl, hj]
      · rw [List.getElem?_set_ne e]
    have hset : nameG j d env = some (env.set j (.val d)) := by
      unfold nameG setS
      rw [hj]
    have hok : okW (env.set j (.val d)) [j] = true := by
      unfold okW
      simp [List.getElem?_set, hl, Slot.mut]
    unfold compLoop
    rw [hset]
    simp only [yesT]
    rw [h d List.mem_cons_self]
    simp only [hok, if_true]
    show compLoop _ _ _ _ _ _ ((env.set j (.val d)).set j .un) = _
    rw [back, comp_map f hj ds (acc ++ [f d]) (fun d' hd => h d' (List.mem_cons_of_mem _ hd))]
    simp
theorem comp_all {fi : MEnv → Option (List PyData × MEnv)} {fe : MEnv → Option (PyData × MEnv)} {j : Nat} {env env1 : MEnv} {ds : List PyData} (f : PyData → PyData) (hi : fi env = some (ds, env1)) (hj : env1[j]? = some .un) (hz : ds.length ≤ 100000)
    (h : ∀ d ∈ ds, fe (env1.set j (.val d)) = some (f d, env1.set j (.val d))) : compF fi (nameG j) yesT fe [j] env = some (.own (ds.map f), env1) := by
  have hl : j < env1.length := (List.getElem?_eq_some_iff.mp hj).1
  have hw : wipeE env1 [j] = env1 := by
    show env1.set j .un = env1
    apply List.ext_getElem?
    intro i
    by_cases e : j = i
    · subst e
      rw [List.getElem?_set, if_pos rfl, if_pos hl, hj]
    · rw [List.getElem?_set_ne e]
  have hok : okW env1 [j] = true := by
    unfold okW
    simp [hj, Slot.mut]
  have hb : backE env1 env1 [j] = env1 := by
    show env1.set j (env1.getD j .un) = env1
    rw [List.getD_eq_getElem?_getD, hj]
    exact hw
  unfold compF
  rw [hi]
  simp only [hok, hz, and_self, if_true]
  rw [hw, comp_map f hj ds [] h]
  simp [hb]
theorem intsFrom_get {lo : Int} {n i : Nat} {d : PyData} (h : (intsFrom lo n)[i]? = some d) : d = .int (lo + (i : Nat)) ∧ i < n := by
  unfold intsFrom at h
  rw [List.getElem?_map] at h
  by_cases hi : i < n
  · rw [List.getElem?_range hi] at h
    cases h
    exact ⟨rfl, hi⟩
  · rw [List.getElem?_eq_none (by simp; omega)] at h
    cases h
theorem intsFrom_len (lo : Int) (n : Nat) : (intsFrom lo n).length = n := by unfold intsFrom; simp

theorem run_rt {N n : Nat} {fB : MEnv → Option Out} {args : List Slot} {r : Slot} {e : MEnv} (h : fB (args ++ List.replicate (N - n) .un) = some (.rt r e)) (hl : args.length ≤ e.length) : ∃ o, runB N n fB args = some (r, o) := by
  refine ⟨List.zipWith ioB args e, ?_⟩
  unfold runB
  rw [h]
  simp only
  rw [if_pos hl]
theorem rng1_of {fs : MEnv → Option (List PyData × MEnv)} {env env1 : MEnv} {n : Int} (h : fs env = some ([.int n], env1)) (hn : -(2 ^ 62) ≤ n ∧ n < 2 ^ 62) : rng1I fs env = some (intsFrom 0 n.toNat, env1) := by
  unfold rng1I
  rw [h]
  exact if_pos hn
theorem rng2_of {fs : MEnv → Option (List PyData × MEnv)} {env env1 : MEnv} {m n : Int} (h : fs env = some ([.int m, .int n], env1)) (hn : -(2 ^ 62) ≤ m ∧ m < 2 ^ 62 ∧ -(2 ^ 62) ≤ n ∧ n < 2 ^ 62) : rng2I fs env = some (intsFrom m (n - m).toNat, env1) := by
  unfold rng2I
  rw [h]
  exact if_pos hn
/-! ### what is asked of plain data -/
theorem shaped_int (i : Int) : SeqAt.shaped (.int i) = true := rfl
theorem shaped_none : SeqAt.shaped .none = true := rfl
theorem shaped_bool (b : Bool) : SeqAt.shaped (.bool b) = true := rfl
theorem eqv_int (i j : Int) : PyData.eqv (.int i) (.int j) = decide (i = j) := by
  show (i == j) = decide (i = j)
  rw [Bool.beq_eq_decide_eq]
theorem eqv_bool (a b : Bool) : PyData.eqv (.bool a) (.bool b) = (a == b) := rfl
theorem mulOk_r {i j : Int} (h : j.natAbs < 2 ^ 64) : mulOk i j = true := by
  unfold mulOk
  simp only [Bool.or_eq_true, decide_eq_true_eq]
  exact .inl (.inr h)
theorem mulOk_l {i j : Int} (h : i.natAbs < 2 ^ 64) : mulOk i j = true := by
  unfold mulOk
  simp only [Bool.or_eq_true, decide_eq_true_eq]
  exact .inr h
theorem log2_lt {n k : Nat} (h : n < 2 ^ k) (hk : 0 < k) : n.log2 < k := by
  by_cases h0 : n = 0
  · subst h0; simpa using hk
  · exact (Nat.log2_lt h0).mpr h
theorem divOk_of {j : Int} (h0 : j ≠ 0) (h : j.natAbs < 2 ^ 9000) : divOk j = true := by
  unfold divOk
  simp only [Bool.and_eq_true, decide_eq_true_eq]
  exact ⟨h0, log2_lt h (by decide)⟩
theorem atI_of {α : Type} {xs : List α} {i : Int} (h0 : 0 ≤ i) (h1 : i < xs.length) : atI xs i = xs[i.toNat]? := by
  unfold atI ixN
  rw [if_pos h0, if_pos h1]
  rfl
theorem ixN_of {n : Nat} {i : Int} (h0 : 0 ≤ i) (h1 : i < n) : ixN n i = some i.toNat := by
  unfold ixN
  rw [if_pos h0, if_pos h1]
end Ip

set_option Elab.async false
set_option linter.all false
set_option maxRecDepth 100000
set_option maxHeartbeats 4000000
/-! what is asked of plain data, in general: for the proofs of laws -/
namespace Lw
open PySem L2 Ip
theorem seq_nx {f g : MEnv → Option Out} {env e1 : MEnv} (h : f env = some (.nx e1)) : seqB f g env = g e1 := by
  unfold seqB
  rw [h]
def nio : Slot → Bool
  | .io _ => false
  | _ => true
theorem setS_zero {x s : Slot} {l : MEnv} (h : nio x = true) : setS 0 s (x :: l) = some (s :: l) := by
  cases x <;> first | rfl | cases h
theorem setS_succ {x s : Slot} {l : MEnv} {i : Nat} : setS (i + 1) s (x :: l) = (setS i s l).map (List.cons x) := by
  unfold setS
  rw [List.getElem?_cons_succ]
  cases l[i]? with
  | none => rfl
  | some t => cases t <;> rfl
theorem setS_zv {d : PyData} {s : Slot} {l : MEnv} : setS 0 s (.val d :: l) = some (s :: l) := rfl
theorem setS_zo {d : List PyData} {s : Slot} {l : MEnv} : setS 0 s (.own d :: l) = some (s :: l) := rfl
theorem setS_zu {s : Slot} {l : MEnv} : setS 0 s (.un :: l) = some (s :: l) := rfl
theorem nio_val {d : PyData} : nio (.val d) = true := rfl
theorem nio_own {d : List PyData} : nio (.own d) = true := rfl
theorem nio_un : nio .un = true := rfl
/-! equal data -/
mutual
def plain : PyData → Bool
  | .dict _ => false
  | .list xs => plainL xs
  | .tuple xs => plainL xs
  | .str s => PyData.strOk s
  | _ => true
def plainL : List PyData → Bool
  | [] => true
  | x :: xs => plain x && plainL xs
end
mutual
theorem plain_canLay : ∀ d : PyData, plain d = true → d.canLay0 = true
  | .none, _ => rfl
  | .bool _, _ => rfl
  | .int _, _ => rfl
  | .str _, h => h
  | .list xs, h => by
    simp only [PyData.canLay0]
    exact plainL_canLay xs h
  | .tuple xs, h => by
    simp only [PyData.canLay0]
    exact plainL_canLay xs h
  | .dict _, h => by cases h
theorem plainL_canLay : ∀ ds : List PyData, plainL ds = true → PyData.canLayAll0 ds = true
  | [], _ => rfl
  | d :: ds, h => by
    have h : (plain d && plainL ds) = true := h
    rw [Bool.and_eq_true] at h
    show (d.canLay0 && PyData.canLayAll0 ds) = true
    rw [plain_canLay d h.1, plainL_canLay ds h.2]
    rfl
end
theorem eqv_self {d : PyData} (h : plain d = true) : PyData.eqv d d = true := SeqAt.eqv_refl d (plain_canLay d h)
theorem shaped_of {d : PyData} (h : plain d = true) (hd : d.depth ≤ 64) : SeqAt.shaped d = true := by
  unfold SeqAt.shaped
  rw [plain_canLay d h]
  simpa using hd
theorem ne_self {d : PyData} (h : plain d = true) (hd : d.depth ≤ 64) : neD d d = some (.val (.bool false)) := by
  unfold neD
  split
  · simp [bV]
  · rw [if_pos ⟨shaped_of h hd, shaped_of h hd⟩, eqv_self h]
    rfl
theorem eq_self' {d : PyData} (h : plain d = true) (hd : d.depth ≤ 64) : eqD d d = some (.val (.bool true)) := by
  unfold eqD
  split
  · simp [bV]
  · rw [if_pos ⟨shaped_of h hd, shaped_of h hd⟩, eqv_self h]
    rfl
theorem plainL_of {ds : List PyData} (h : ∀ d ∈ ds, plain d = true) : plainL ds = true := by
  induction ds with
  | nil => rfl
  | cons d ds ih =>
    show (plain d && plainL ds) = true
    rw [h d List.mem_cons_self, ih fun x hx => h x (List.mem_cons_of_mem _ hx)]
    rfl
theorem depthAll_of {ds : List PyData} {n : Nat} (h : ∀ d ∈ ds, d.depth ≤ n) : PyData.depthAll ds ≤ n := by
  induction ds with
  | nil => exact Nat.zero_le _
  | cons d ds ih =>
    show max d.depth (PyData.depthAll ds) ≤ n
    have h1 := h d List.mem_cons_self
    have h2 := ih fun x hx => h x (List.mem_cons_of_mem _ hx)
    omega
/-! texts -/
def S (l : List Nat) : Str := ⟨l.toArray⟩
theorem S_tl (a : List Nat) : (S a).cps.toList = a := rfl
theorem S_app (a b : List Nat) : S a ++ S b = S (a ++ b) := TL.ext_tl (by rw [TL.tl_append]; rfl)
theorem S_len (a : List Nat) : (S a).length = a.length := by
  rw [TL.len_tl]
  rfl
theorem str_S (x : Str) : x = S x.cps.toList := (TL.mk_tl x).symm
theorem split_S {a b : List Nat} (hb : b ≠ []) (hk : b.all (· < 256) = true) : Txt.split (S a) (S b) = (TL.spl b 0 [] a).map S := SX.split_S hb hk
theorem join_S (a : List Nat) (ys : List (List Nat)) : Txt.join (S a) (ys.map S) = S (TL.joinL a ys) := SX.join_S a ys
theorem eqv_str (a b : Str) : PyData.eqv (.str a) (.str b) = decide (a = b) := by
  show (a == b) = decide (a = b)
  rw [Bool.beq_eq_decide_eq]
theorem shaped_str {a : Str} (h : PyData.strOk a = true) : SeqAt.shaped (.str a) = true := by
  unfold SeqAt.shaped
  rw [show (PyData.str a).canLay0 = PyData.strOk a from rfl, h]
  rfl
theorem S_inj {a b : List Nat} : S a = S b ↔ a = b := by
  constructor
  · intro h
    have := congrArg (fun x : Str => x.cps.toList) h
    simpa [S] using this
  · intro h; rw [h]
/-- a walk over a list whose turns are told by P -/
theorem for_run {fg : PyData → MEnv → Option MEnv} {fb : MEnv → Option Out} (P : List PyData → MEnv → Prop) : ∀ (ds : List PyData) (env : MEnv), P ds env →
    (∀ d r env, P (d :: r) env → ∃ e1 e2, fg d env = some e1 ∧ fb e1 = some (.nx e2) ∧ P r e2) → ∃ e, forLoop fg fb ds env = some (.nx e) ∧ P [] e
  | [], env, h0, _ => ⟨env, rfl, h0⟩
  | d :: ds, env, h0, hs => by
    obtain ⟨e1, e2, h1, h2, h3⟩ := hs d ds env h0
    obtain ⟨e, h4, h5⟩ := for_run P ds e2 h3 hs
    refine ⟨e, ?_, h5⟩
    unfold forLoop
    rw [h1]
    simp only [h2]
    exact h4
/-- a comprehension, what its elements are being known -/
theorem comp_fun {fi : MEnv → Option (List PyData × MEnv)} {fe : MEnv → Option (PyData × MEnv)} {j : Nat} {env env1 : MEnv} {s : Slot} {ds : List PyData} (f : PyData → PyData) (hi : fi env = some (ds, env1)) (hj : env1[j]? = some s) (hs : s.mut = none) (hz : ds.length ≤ 100000)
    (h : ∀ d ∈ ds, fe (env1.set j (.val d)) = some (f d, env1.set j (.val d))) : compF fi (nameG j) yesT fe [j] env = some (.own (ds.map f), env1) := by
  have hl : j < env1.length := (List.getElem?_eq_some_iff.mp hj).1
  have hok : okW env1 [j] = true := by
    unfold okW
    simp [hj, hs]
  have e0 : (env1.set j .un)[j]? = some .un := by rw [List.getElem?_set, if_pos rfl, if_pos hl]
  have hm := Ip.comp_map (fe := fe) (j := j) (env := env1.set j .un) f e0 ds [] (fun d hd => by
    rw [List.set_set]
    exact h d hd)
  have hb : backE env1 (env1.set j .un) [j] = env1 := by
    show (env1.set j .un).set j (env1.getD j .un) = env1
    rw [List.set_set, List.getD_eq_getElem?_getD, hj]
    apply List.ext_getElem?
    intro i
    by_cases e : j = i
    · subst e
      rw [List.getElem?_set, if_pos rfl, if_pos hl, hj]
      rfl
    · rw [List.getElem?_set_ne e]
  unfold compF
  rw [hi]
  simp only [hok, hz, and_self, if_true]
  show (match compLoop (nameG j) yesT fe [j] ds [] (env1.set j .un) with
    | some (acc, ew) => some (Slot.own acc, backE env1 ew [j])
    | none => none) = _
  rw [hm]
  simp [hb]
/-- a comprehension, of whose elements something is known -/
theorem comp_ex {fi : MEnv → Option (List PyData × MEnv)} {fe : MEnv → Option (PyData × MEnv)} {j : Nat} {env env1 : MEnv} {s : Slot} {ds : List PyData} (R : PyData → PyData → Prop) (hi : fi env = some (ds, env1)) (hj : env1[j]? = some s) (hs : s.mut = none) (hz : ds.length ≤ 100000)
    (h : ∀ d ∈ ds, ∃ x, R d x ∧ fe (env1.set j (.val d)) = some (x, env1.set j (.val d))) : ∃ f : PyData → PyData, (∀ d ∈ ds, R d (f d)) ∧ compF fi (nameG j) yesT fe [j] env = some (.own (ds.map f), env1) := by
  classical
  let f : PyData → PyData := fun d => if h : ∃ x, R d x ∧ fe (env1.set j (.val d)) = some (x, env1.set j (.val d)) then h.choose else .none
  have hf : ∀ d ∈ ds, R d (f d) ∧ fe (env1.set j (.val d)) = some (f d, env1.set j (.val d)) := fun d hd => by
    have h1 := h d hd
    show R d (if h : _ then _ else _) ∧ _ = some (if h : _ then _ else _, _)
    rw [dif_pos h1]
    exact h1.choose_spec
  exact ⟨f, fun d hd => (hf d hd).1, comp_fun f hi hj hs hz fun d hd => (hf d hd).2⟩
theorem ints_succ (lo : Int) (n : Nat) : Ip.intsFrom lo (n + 1) = .int lo :: Ip.intsFrom (lo + 1) n := by
  unfold Ip.intsFrom
  rw [List.range_succ_eq_map, List.map_cons, List.map_map]
  congr 1
  · simp
  · apply List.map_congr_left
    intro i _
    simp only [Function.comp_apply]
    congr 1
    omega
theorem ix_str {L : List Nat} {k : Nat} {i : Int} (hi : i = (k : Int)) (hl : L.length ≤ 100000) (hk : k < L.length) : ixD (.str (S L)) (.int i) = some (.val (.str (S [L[k]]))) := by
  have h : atI L i = some L[k] := by
    rw [atI_of (by omega) (by omega), show i.toNat = k by omega, List.getElem?_eq_getElem hk]
  unfold ixD
  simp only [S_len]
  rw [if_pos hl, S_tl, h]
  rfl
theorem all_true : ∀ ds : List PyData, allD (.list (ds.map fun _ => .bool true)) = some (.val (.bool true)) := fun ds => by
  have h : boolsOf (ds.map fun _ => PyData.bool true) = some (ds.map fun _ => true) := by
    induction ds with
    | nil => rfl
    | cons d ds ih =>
      show (boolsOf (ds.map fun _ => PyData.bool true)).map (true :: ·) = _
      rw [ih]
      rfl
  unfold allD
  simp only [h]
  simp
/-- (over a plain Int, so that no cast is counted down) -/
theorem rng1_nat {fs : MEnv → Option (List PyData × MEnv)} {env env1 : MEnv} {c : Int} {n : Nat} (h : fs env = some ([.int c], env1)) (hc : c = (n : Int)) (hn : n ≤ 100000) : rng1I fs env = some (Ip.intsFrom 0 n, env1) := by
  rw [rng1_of h (by omega)]
  have : c.toNat = n := by omega
  rw [this]
theorem comp_gen {fi : MEnv → Option (List PyData × MEnv)} {fg : PyData → MEnv → Option MEnv} {ft : MEnv → Option (Bool × MEnv)} {fe : MEnv → Option (PyData × MEnv)} {vs : List Nat} {env env1 ew ewi e2 : MEnv} {ds acc : List PyData} (hi : fi env = some (ds, env1)) (hok : okW env1 vs = true) (hz : ds.length ≤ 100000)
    (hw : wipeE env1 vs = ewi) (hl : compLoop fg ft fe vs ds [] ewi = some (acc, ew)) (hb : backE env1 ew vs = e2) : compF fi fg ft fe vs env = some (.own acc, e2) := by
  unfold compF
  rw [hi]
  simp only [hok, hz, and_self, if_true, hw, hl, hb]
theorem rng_many {many : Nat} {M : Int} {x0 x2 x3 x4 x5 : Slot} (hM : M = (many : Int)) (h : many ≤ 100000) : rng1I (consA (nameV 1) ((fun env => some ([], env)))) [x0, .val (.int M), x2, x3, x4, x5] = some (Ip.intsFrom 0 many, [x0, .val (.int M), x2, x3, x4, x5]) :=
  rng1_nat (c := M) (by simp [consA, nameV]) hM h
end Lw

set_option Elab.async false
set_option linter.all false
set_option maxRecDepth 100000
set_option maxHeartbeats 4000000
namespace Lw
open PySem L2 Ip
/-! data that can be shown -/
structure OkD (n m : Nat) (d : PyData) : Prop where
  sh : d.showable = true
  nd : d.hasDict = false
  lv : d.leavesShort 13 = true
  bk : d.bulk ≤ n
  dp : d.depth ≤ m
  pl : plain d = true
structure OkL (n m : Nat) (ds : List PyData) : Prop where
  sh : PyData.showableAll ds = true
  nd : PyData.hasDictAll ds = false
  lv : PyData.leavesShortAll 13 ds = true
  bk : PyData.bulkAll ds ≤ n
  dp : PyData.depthAll ds ≤ m
  pl : plainL ds = true
theorem OkD.repr {n m : Nat} {d : PyData} (h : OkD n m d) (hn : n ≤ 6000) (hm : m ≤ 100) : reprD d = some (.val (.str d.shown)) := by
  have h1 := PyData.shown_le_bulk 13 (by decide) d h.lv
  have h2 := h.bk
  have h3 := h.dp
  unfold reprD
  rw [if_pos]
  unfold reprOk
  rw [h.sh, h.nd]
  simp
  omega
theorem OkD.mono {n m n' m' : Nat} {d : PyData} (h : OkD n m d) (hn : n ≤ n') (hm : m ≤ m') : OkD n' m' d := ⟨h.sh, h.nd, h.lv, Nat.le_trans h.bk hn, Nat.le_trans h.dp hm, h.pl⟩
theorem okD_int {i : Int} (h : i.natAbs < 10 ^ 11) : OkD 0 0 (.int i) where
  sh := by
    simp only [PyData.showable, decide_eq_true_eq]
    exact log2_lt (Nat.lt_of_lt_of_le (Nat.lt_of_lt_of_le h (by decide : 10 ^ 11 ≤ 2 ^ 40)) (Nat.pow_le_pow_right (by decide) (by decide))) (by decide)
  nd := by simp only [PyData.hasDict]
  lv := by
    simp only [PyData.leavesShort, decide_eq_true_eq]
    exact PyData.shown_int_le (Nat.lt_trans h (by decide))
  bk := Nat.le_refl _
  dp := Nat.le_refl _
  pl := rfl
theorem okD_none : OkD 0 0 .none := ⟨by simp only [PyData.showable], by simp only [PyData.hasDict], by simp only [PyData.leavesShort], Nat.le_refl _, Nat.le_refl _, rfl⟩
theorem okD_bool {b : Bool} : OkD 0 0 (.bool b) := ⟨by simp only [PyData.showable], by simp only [PyData.hasDict], by simp only [PyData.leavesShort], Nat.le_refl _, Nat.le_refl _, rfl⟩
theorem okD_str {x : Str} (h : ∀ c ∈ x.cps.toList, c < 128) : OkD x.length 0 (.str x) where
  sh := by simp only [PyData.showable]
  nd := by simp only [PyData.hasDict]
  lv := by
    simp only [PyData.leavesShort, List.all_eq_true, decide_eq_true_eq]
    intro c hc
    have := h c hc
    omega
  bk := Nat.le_refl _
  dp := Nat.le_refl _
  pl := by
    show PyData.strOk x = true
    unfold PyData.strOk
    rw [← Array.all_toList, List.all_eq_true]
    intro c hc
    have := h c hc
    simp
    omega
theorem okL_nil : OkL 0 0 [] := ⟨rfl, rfl, rfl, Nat.le_refl _, Nat.le_refl _, rfl⟩
theorem okL_cons {n m n' m' : Nat} {d : PyData} {ds : List PyData} (h : OkD n m d) (hs : OkL n' m' ds) : OkL (n + 1 + n') (max m m') (d :: ds) where
  sh := by show (d.showable && PyData.showableAll ds) = true; rw [h.sh, hs.sh]; rfl
  nd := by show (d.hasDict || PyData.hasDictAll ds) = false; rw [h.nd, hs.nd]; rfl
  lv := by show (d.leavesShort 13 && PyData.leavesShortAll 13 ds) = true; rw [h.lv, hs.lv]; rfl
  bk := by show d.bulk + 1 + PyData.bulkAll ds ≤ _; have := h.bk; have := hs.bk; omega
  dp := by show max d.depth (PyData.depthAll ds) ≤ _; have := h.dp; have := hs.dp; omega
  pl := by show (plain d && plainL ds) = true; rw [h.pl, hs.pl]; rfl
theorem okL_of {n m : Nat} : ∀ {ds : List PyData}, (∀ d ∈ ds, OkD n m d) → OkL ((n + 1) * ds.length) m ds
  | [], _ => ⟨rfl, rfl, rfl, Nat.le_refl _, Nat.zero_le _, rfl⟩
  | d :: ds, h => by
    have h1 := okL_cons (h d List.mem_cons_self) (okL_of fun x hx => h x (List.mem_cons_of_mem _ hx))
    refine ⟨h1.sh, h1.nd, h1.lv, ?_, ?_, h1.pl⟩
    · have := h1.bk
      rw [List.length_cons, Nat.mul_succ]
      omega
    · have := h1.dp
      omega
theorem OkL.list {n m : Nat} {ds : List PyData} (h : OkL n m ds) : OkD n (m + 1) (.list ds) := ⟨by simpa only [PyData.showable] using h.sh, by simpa only [PyData.hasDict] using h.nd, by simpa only [PyData.leavesShort] using h.lv, by simpa only [PyData.bulk] using h.bk, by simpa only [PyData.depth] using Nat.succ_le_succ h.dp, h.pl⟩
theorem OkL.tup {n m : Nat} {ds : List PyData} (h : OkL n m ds) : OkD n (m + 1) (.tuple ds) := ⟨by simpa only [PyData.showable] using h.sh, by simpa only [PyData.hasDict] using h.nd, by simpa only [PyData.leavesShort] using h.lv, by simpa only [PyData.bulk] using h.bk, by simpa only [PyData.depth] using Nat.succ_le_succ h.dp, h.pl⟩
theorem OkL.mono {n m n' m' : Nat} {d : List PyData} (h : OkL n m d) (hn : n ≤ n') (hm : m ≤ m') : OkL n' m' d := ⟨h.sh, h.nd, h.lv, Nat.le_trans h.bk hn, Nat.le_trans h.dp hm, h.pl⟩
end Lw

set_option Elab.async false
set_option linter.all false
set_option maxRecDepth 100000
set_option maxHeartbeats 4000000
namespace Le
open PySem L2 Ip
abbrev fuel : Nat := 100000
abbrev recN : Nat := 30
noncomputable section
def b_f_law_due : MEnv → Option Out := seqB (ifB (boolT (op2 (datL (datF (op1 (nameL 0) lenD))) (datL (datF (op2 (nameL 1) (datL (constD (.int 1))) addD))) gtD)) (seqB (retB (valF (constD (.str "size")))) (nilB)) (nilB)) (seqB (forB (seqI (nameV 0)) (nameG 3) (seqB (ifB (orT (boolT (op1 (nameL 3) (isaD .bool))) (orT (notT (boolT (op1 (nameL 3) (isaD .int)))) (orT (boolT (op2 (nameL 3) (datL (datF (op1 (nameL 2) negD))) leD)) (boolT (op2 (nameL 3) (nameL 2) geD))))) (seqB (retB (valF (constD (.str "number")))) (nilB)) (nilB)) (nilB))) (seqB (ifB (andT (boolT (op2 (datL (datF (op1 (nameL 0) lenD))) (datL (constD (.int 0))) gtD)) (boolT (op2 (datL (datF (op2 (nameL 0) (datL (datF (op1 (datL (constD (.int 1))) negD))) ixD))) (datL (constD (.int 0))) eqD))) (seqB (retB (valF (constD (.str "number")))) (nilB)) (nilB)) (seqB (retB (valF (constD (.str "good")))) (nilB))))
def r_f_law_due : Ip.Run := runB 4 3 b_f_law_due
def b_is_whole : MEnv → Option Out := seqB (retB (andE (op1 (nameL 0) (isaD .int)) (boolS (notT (boolT (op1 (nameL 0) (isaD .bool))))))) (nilB)
def r_is_whole : Ip.Run := runB 1 1 b_is_whole
def b_check_polynomial : MEnv → Option OutX := seqX (ifX (boolT (op2 (datL (datF (op1 (nameL 0) lenD))) (datL (datF (op2 (nameL 1) (datL (constD (.int 1))) addD))) gtD)) (seqX (rsB "BadSize") (nilX)) (nilX)) (seqX (forX (seqI (nameV 0)) (nameG 3) (seqX (ifX (orT (notT (boolT (callF 1 r_is_whole (consA (nameV 3) ((fun env => some ([], env))))))) (boolT (op2 (datL (datF (op1 (nameL 3) absD))) (nameL 2) geD))) (seqX (rsB "BadNumber") (nilX)) (nilX)) (nilX))) (seqX (ifX (andT (boolT (op2 (nameL 0) (datL (datF (lstF ((fun env => some ([], env)))))) neD)) (boolT (op2 (datL (datF (op2 (nameL 0) (datL (datF (op1 (datL (constD (.int 1))) negD))) ixD))) (datL (constD (.int 0))) eqD))) (seqX (rsB "BadNumber") (nilX)) (nilX)) (nilX)))
def r_check_polynomial : RunX := runX 4 3 b_check_polynomial
def b_f_law_draws : MEnv → Option Out := seqB (asgB 2 (compF (seqI (nameV 0)) (nameG 8) (yesT) (nameV 8) [8])) (seqB (asgB 3 (lstF ((fun env => some ([], env))))) (seqB (forB (rng1I (consA (nameV 1) ((fun env => some ([], env))))) (nameG 4) (seqB (asgB 5 (valF (constD (.int 0)))) (seqB (ifB (boolT (op2 (datL (datF (op1 (nameL 2) lenD))) (datL (constD (.int 0))) gtD)) (seqB (asgB 6 (op2 (datL (datF (op1 (nameL 4) intD))) (datL (datF (op1 (nameL 2) lenD))) modD)) (seqB (ifB (boolT (op2 (datL (datF (op2 (nameL 2) (nameL 6) ixD))) (datL (datF (op2 (datL (constD (.int 10))) (datL (constD (.int 18))) powD))) geD)) (seqB (asgB 5 (op2 (datL (datF (op1 (datL (datF (op2 (nameL 2) (nameL 6) ixD))) intD))) (datL (constD (.int 1000))) modD)) (seqB (setB 2 (datF (op2 (datL (datF (op2 (nameL 2) (nameL 6) ixD))) (datL (constD (.int 1000))) fdivD)) (nameL 6)) (nilB))) (seqB (asgB 7 (op2 (datL (datF (op1 (datL (datF (op2 (datL (datF (op2 (datL (datF (op2 (datL (datF (op2 (nameL 2) (nameL 6) ixD))) (datL (constD (.int 48271))) mulD))) (datL (datF (op2 (nameL 4) (datL (constD (.int 69621))) mulD))) addD))) (datL (constD (.int 11))) addD))) intD))) (datL (constD (.int 2147483647))) modD)) (seqB (asgB 7 (op2 (datL (datF (op1 (datL (datF (op2 (datL (datF (op2 (nameL 7) (datL (constD (.int 16807))) mulD))) (nameL 6) addD))) intD))) (datL (constD (.int 2147483629))) modD)) (seqB (asgB 5 (op2 (datL (datF (op1 (datL (datF (op2 (nameL 7) (datL (constD (.int 7))) fdivD))) intD))) (datL (constD (.int 1000))) modD)) (nilB))))) (nilB))) (nilB)) (seqB (appB 3 (nameV 5)) (nilB))))) (seqB (retNm 3) (nilB))))
def r_f_law_draws : Ip.Run := runB 9 2 b_f_law_draws
end
end Le

set_option Elab.async false
set_option linter.all false
set_option maxRecDepth 100000
set_option maxHeartbeats 4000000
namespace Le
open PySem L2 Ip Lw
/-! ### _law_draws -/
def dInner : MEnv → Option Out := (ifB (boolT (op2 (datL (datF (op2 (nameL 2) (nameL 6) ixD))) (datL (datF (op2 (datL (constD (.int 10))) (datL (constD (.int 18))) powD))) geD)) (seqB (asgB 5 (op2 (datL (datF (op1 (datL (datF (op2 (nameL 2) (nameL 6) ixD))) intD))) (datL (constD (.int 1000))) modD)) (seqB (setB 2 (datF (op2 (datL (datF (op2 (nameL 2) (nameL 6) ixD))) (datL (constD (.int 1000))) fdivD)) (nameL 6)) (nilB))) (seqB (asgB 7 (op2 (datL (datF (op1 (datL (datF (op2 (datL (datF (op2 (datL (datF (op2 (datL (datF (op2 (nameL 2) (nameL 6) ixD))) (datL (constD (.int 48271))) mulD))) (datL (datF (op2 (nameL 4) (datL (constD (.int 69621))) mulD))) addD))) (datL (constD (.int 11))) addD))) intD))) (datL (constD (.int 2147483647))) modD)) (seqB (asgB 7 (op2 (datL (datF (op1 (datL (datF (op2 (datL (datF (op2 (nameL 7) (datL (constD (.int 16807))) mulD))) (nameL 6) addD))) intD))) (datL (constD (.int 2147483629))) modD)) (seqB (asgB 5 (op2 (datL (datF (op1 (datL (datF (op2 (nameL 7) (datL (constD (.int 7))) fdivD))) intD))) (datL (constD (.int 1000))) modD)) (nilB)))))
def Sv (s : Slot) : Prop := s = .un ∨ ∃ d, s = .val d
def dBody : MEnv → Option Out := seqB (asgB 5 (valF (constD (.int 0)))) (seqB (ifB (boolT (op2 (datL (datF (op1 (nameL 2) lenD))) (datL (constD (.int 0))) gtD)) (seqB (asgB 6 (op2 (datL (datF (op1 (nameL 4) intD))) (datL (datF (op1 (nameL 2) lenD))) modD)) (seqB dInner (nilB))) (nilB)) (seqB (appB 3 (nameV 5)) (nilB)))
theorem body_is : b_f_law_draws = seqB (asgB 2 (compF (seqI (nameV 0)) (nameG 8) (yesT) (nameV 8) [8])) (seqB (asgB 3 (lstF ((fun env => some ([], env))))) (seqB (forB (rng1I (consA (nameV 1) ((fun env => some ([], env))))) (nameG 4) dBody) (seqB (retNm 3) (nilB)))) := rfl
abbrev iL (ns : List Int) : List PyData := ns.map .int
theorem mod1000 (i : Int) : 0 ≤ i.fmod 1000 ∧ i.fmod 1000 < 1000 := ⟨Int.fmod_nonneg_of_pos i (by decide), Int.fmod_lt_of_pos i (by decide)⟩
theorem dinner {sc : PyData} {c k v at_ : Int} {rs ds : List Int} {m : Slot} (hm : Sv m) (h0 : 0 ≤ at_) (h1 : at_ < rs.length) : ∃ v' rs' m', 0 ≤ v' ∧ v' < 1000 ∧ rs'.length = rs.length ∧ Sv m' ∧
    dInner [.val sc, .val (.int c), .own (iL rs), .own (iL ds), .val (.int k), .val (.int v), .val (.int at_), m, .un] = some (.nx [.val sc, .val (.int c), .own (iL rs'), .own (iL ds), .val (.int k), .val (.int v'), .val (.int at_), m', .un]) := by
  have hl : at_.toNat < rs.length := by omega
  have hx : atI (iL rs) at_ = some (.int rs[at_.toNat]) := by
    rw [atI_of h0 (by rw [List.length_map]; exact h1), List.getElem?_map, List.getElem?_eq_getElem hl]
    rfl
  have hset : ixN (iL rs).length at_ = some at_.toNat := ixN_of h0 (by rw [List.length_map]; exact h1)
  generalize rs[at_.toNat] = x at hx
  have hp : (0 : Int) ≤ 18 ∧ (18 : Int) ≤ 1000 ∧ (10 : Int).natAbs < 2 ^ 64 := by decide
  have d1 : divOk 1000 = true := divOk_of (by decide) (Nat.lt_of_lt_of_le (show (1000 : Int).natAbs < 2 ^ 10 by decide) (Nat.pow_le_pow_right (by decide) (by decide)))
  have d7 : divOk 7 = true := divOk_of (by decide) (Nat.lt_of_lt_of_le (show (7 : Int).natAbs < 2 ^ 10 by decide) (Nat.pow_le_pow_right (by decide) (by decide)))
  have m1 : ∀ i, mulOk i 48271 = true := fun i => mulOk_r (by decide)
  have m2 : ∀ i, mulOk i 69621 = true := fun i => mulOk_r (by decide)
  have m3 : ∀ i, mulOk i 16807 = true := fun i => mulOk_r (by decide)
  unfold dInner
  by_cases hc : (10 : Int) ^ 18 ≤ x
  · refine ⟨x.fmod 1000, rs.set at_.toNat (x.fdiv 1000), m, (mod1000 x).1, (mod1000 x).2, List.length_set, hm, ?_⟩
    have es : (iL rs).set at_.toNat (.int (x.fdiv 1000)) = iL (rs.set at_.toNat (x.fdiv 1000)) := by
      exact (List.map_set ..).symm
    have hc' : (10 : Int) ^ (18 : Int).toNat ≤ x := hc
    simp only [seqB, ifB, boolT, op2, op1, look, nameL, nameV, datL, datF, constD, List.getElem?_cons_zero, List.getElem?_cons_succ, ixD, hx, Option.map_some, powD, hp, and_self, if_true, Slot.dat, geD, bV, hc', decide_true, intD, asgB, modD, ne_eq, Int.reduceEq, not_false_eq_true, setS, List.set_cons_succ, List.set_cons_zero, setB, fdivD, d1, Slot.mut, hset, es, Slot.put, nilB]
  · have hc' : ¬ (10 : Int) ^ (18 : Int).toNat ≤ x := hc
    refine ⟨((((x * 48271 + k * 69621 + 11).fmod 2147483647) * 16807 + at_).fmod 2147483629).fdiv 7 |>.fmod 1000, rs, .val (.int ((((x * 48271 + k * 69621 + 11).fmod 2147483647) * 16807 + at_).fmod 2147483629)), (mod1000 _).1, (mod1000 _).2, rfl, .inr ⟨_, rfl⟩, ?_⟩
    rcases hm with rfl | ⟨d, rfl⟩ <;>
    (simp only [seqB, ifB, boolT, op2, op1, look, nameL, nameV, datL, datF, constD, List.getElem?_cons_zero, List.getElem?_cons_succ, ixD, hx, Option.map_some, powD, hp, and_self, if_true, Slot.dat, geD, bV, hc', decide_false, intD, asgB, modD, ne_eq, Int.reduceEq, not_false_eq_true, setS, List.set_cons_succ, List.set_cons_zero, fdivD, d7, mulD, m1, m2, m3, addD, nilB])
theorem dturn {sc : PyData} {c : Int} {k : Nat} {rs ds : List Int} {a b at_ m : Slot} (ha : Sv a) (hb : Sv b) (hat : Sv at_) (hm : Sv m) (hd : ds.length < 100000) : ∃ v rs' b' at' m', 0 ≤ v ∧ v < 1000 ∧ rs'.length = rs.length ∧ Sv b' ∧ Sv at' ∧ Sv m' ∧
    dBody [.val sc, .val (.int c), .own (iL rs), .own (iL ds), .val (.int k), b, at_, m, .un] = some (.nx [.val sc, .val (.int c), .own (iL rs'), .own (iL (ds ++ [v])), .val (.int k), b', at', m', .un]) := by
  have hz : (iL ds).length < 100000 := by rw [List.length_map]; exact hd
  have app : ∀ v : Int, iL ds ++ [.int v] = iL (ds ++ [v]) := fun v => by simp
  by_cases hr : rs.length = 0
  · refine ⟨0, rs, .val (.int 0), at_, m, by decide, by decide, rfl, .inr ⟨_, rfl⟩, hat, hm, ?_⟩
    have hr' : ((iL rs).length : Int) = 0 := by rw [List.length_map]; omega
    unfold dBody
    rcases hb with rfl | ⟨d, rfl⟩ <;>
    (simp only [seqB, asgB, valF, constD, setS, ifB, boolT, op2, op1, look, nameL, nameV, datL, datF, lenD, hr', Slot.dat, gtD, bV, List.getElem?_cons_zero, List.getElem?_cons_succ, List.set_cons_succ, List.set_cons_zero, appB, Slot.mut, Slot.put, hz, if_true, nilB, Int.lt_irrefl, decide_false, Option.map_some, app]
     try rfl)
  · have hpos : (0 : Int) < ((iL rs).length : Int) := by rw [List.length_map]; omega
    have hne : ((iL rs).length : Int) ≠ 0 := by omega
    have hmn : 0 ≤ ((k : Int)).fmod ((iL rs).length : Int) := Int.fmod_nonneg_of_pos _ hpos
    have hml : ((k : Int)).fmod ((iL rs).length : Int) < rs.length := by
      have h := Int.fmod_lt_of_pos (k : Int) hpos
      rw [List.length_map] at h
      rw [List.length_map]
      exact h
    obtain ⟨v, rs', m', hv0, hv1, hrl, hm', hin⟩ := dinner (sc := sc) (c := c) (k := k) (v := 0) (rs := rs) (ds := ds) hm hmn hml
    refine ⟨v, rs', .val (.int v), .val (.int ((k : Int).fmod ((iL rs).length : Int))), m', hv0, hv1, hrl, .inr ⟨_, rfl⟩, .inr ⟨_, rfl⟩, hm', ?_⟩
    unfold dBody
    rcases hb with rfl | ⟨d, rfl⟩ <;> rcases hat with rfl | ⟨d2, rfl⟩ <;>
    (simp only [seqB, asgB, valF, constD, setS, ifB, boolT, op2, op1, look, nameL, nameV, datL, datF, lenD, intD, hpos, hne, Slot.dat, gtD, bV, modD, if_true, List.getElem?_cons_zero, List.getElem?_cons_succ, List.set_cons_succ, List.set_cons_zero, decide_true, Option.map_some, ne_eq, not_false_eq_true, Int.reduceEq, hin, appB, Slot.mut, Slot.put, hz, nilB, app]
     try rfl)
end Le

set_option Elab.async false
set_option linter.all false
set_option maxRecDepth 100000
set_option maxHeartbeats 4000000
namespace Le
open PySem L2 Ip Lw
/-- what every law leans on: n draws, each below 1000 -/
theorem dcomp {ns : List Int} {c : Int} (hl : ns.length ≤ 63) : compF (seqI (nameV 0)) (nameG 8) yesT (nameV 8) [8] [.val (.list (iL ns)), .val (.int c), .un, .un, .un, .un, .un, .un, .un] = some (.own (iL ns), [.val (.list (iL ns)), .val (.int c), .un, .un, .un, .un, .un, .un, .un]) := by
  have h := comp_all (fi := seqI (nameV 0)) (fe := nameV 8) (j := 8) (env := [.val (.list (iL ns)), .val (.int c), .un, .un, .un, .un, .un, .un, .un]) (env1 := [.val (.list (iL ns)), .val (.int c), .un, .un, .un, .un, .un, .un, .un]) (ds := iL ns) id rfl rfl (by rw [List.length_map]; omega) (fun d _ => rfl)
  rw [List.map_id] at h
  exact h
def DP (sc : PyData) (c : Int) (n i : Nat) (env : MEnv) : Prop := ∃ rs ds k b at_ m, ds.length = i ∧ i ≤ n ∧ (∀ d ∈ ds, 0 ≤ d ∧ d < 1000) ∧ Sv k ∧ Sv b ∧ Sv at_ ∧ Sv m ∧ env = [.val sc, .val (.int c), .own (iL rs), .own (iL ds), k, b, at_, m, .un]
theorem dstep {sc : PyData} {c : Int} {n i : Nat} {d : PyData} {env : MEnv} (hn : n ≤ 100000) (hd : (Ip.intsFrom 0 n)[i]? = some d) (hP : DP sc c n (0 + i) env) : ∃ e1 e2, nameG 4 d env = some e1 ∧ dBody e1 = some (.nx e2) ∧ DP sc c n (0 + i + 1) e2 := by
  obtain ⟨rs, ds, k, b, at_, m, h1, h2, h3, hk, hb, hat, hm, rfl⟩ := hP
  obtain ⟨rfl, hi⟩ := intsFrom_get hd
  obtain ⟨v, rs', b', at', m', v0, v1, _, hb', hat', hm', ht⟩ := dturn (sc := sc) (c := c) (k := i) (rs := rs) (ds := ds) hk hb hat hm (by omega)
  refine ⟨_, _, ?_, ht, rs', ds ++ [v], .val (.int i), b', at', m', by rw [List.length_append, h1]; rfl, by omega, ?_, .inr ⟨_, rfl⟩, hb', hat', hm', rfl⟩
  · rw [Int.zero_add]
    rcases hk with rfl | ⟨d, rfl⟩ <;> rfl
  · intro d hd
    rcases List.mem_append.mp hd with h | h
    · exact h3 d h
    · rw [List.mem_singleton.mp h]; exact ⟨v0, v1⟩
theorem dloop {sc : PyData} {c : Int} {n : Nat} {rs : List Int} (hn : n ≤ 100000) : ∃ e, forLoop (nameG 4) dBody (Ip.intsFrom 0 n) [.val sc, .val (.int c), .own (iL rs), .own [], .un, .un, .un, .un, .un] = some (.nx e) ∧ DP sc c n n e := by
  obtain ⟨e, he, hP⟩ := for_ind (fg := nameG 4) (fb := dBody) (DP sc c n) (Ip.intsFrom 0 n) 0 [.val sc, .val (.int c), .own (iL rs), .own [], .un, .un, .un, .un, .un]
    ⟨rs, [], .un, .un, .un, .un, rfl, Nat.zero_le _, by simp, .inl rfl, .inl rfl, .inl rfl, .inl rfl, rfl⟩ (fun i d env hd hP => dstep hn hd hP)
  rw [intsFrom_len, Nat.zero_add] at hP
  exact ⟨e, he, hP⟩
theorem dfor {sc : PyData} {c : Int} {n : Nat} {rs : List Int} {e : MEnv} (hc : -(2 ^ 62) ≤ c ∧ c < 2 ^ 62) (hcn : c.toNat = n) (he : forLoop (nameG 4) dBody (Ip.intsFrom 0 n) [.val sc, .val (.int c), .own (iL rs), .own [], .un, .un, .un, .un, .un] = some (.nx e)) :
    forB (rng1I (consA (nameV 1) (fun env => some ([], env)))) (nameG 4) dBody [.val sc, .val (.int c), .own (iL rs), .own [], .un, .un, .un, .un, .un] = some (.nx e) := by
  have hg : rng1I (consA (nameV 1) (fun env => some ([], env))) [.val sc, .val (.int c), .own (iL rs), .own [], .un, .un, .un, .un, .un] = some (Ip.intsFrom 0 c.toNat, [.val sc, .val (.int c), .own (iL rs), .own [], .un, .un, .un, .un, .un]) := rng1_of rfl hc
  unfold forB
  rw [hg, hcn]
  exact he
theorem ds1 {sc x y : PyData} {r : List PyData} {fi : MEnv → Option (Slot × MEnv)} {a b c d e f g h : Slot} (hf : fi [a, b, .un, c, d, e, f, g, h] = some (.own r, [a, b, .un, c, d, e, f, g, h])) : asgB 2 fi [a, b, .un, c, d, e, f, g, h] = some (.nx [a, b, .own r, c, d, e, f, g, h]) := by
  unfold asgB
  rw [hf]
  rfl
theorem ds2 {a b c d e f g h : Slot} : asgB 3 (lstF (fun env => some ([], env))) [a, b, c, .un, d, e, f, g, h] = some (.nx [a, b, c, .own [], d, e, f, g, h]) := by
  have h1 : lstF (fun env => some ([], env)) [a, b, c, .un, d, e, f, g, h] = some (.own [], [a, b, c, .un, d, e, f, g, h]) := by
    unfold lstF
    simp
  unfold asgB
  rw [h1]
  rfl
theorem draws_gen {ns : List Int} {c : Int} {n : Nat} (hl : ns.length ≤ 63) (hn : n ≤ 100000) (hc : -(2 ^ 62) ≤ c ∧ c < 2 ^ 62) (hcn : c.toNat = n) : ∃ ds : List Int, ds.length = n ∧ (∀ d ∈ ds, 0 ≤ d ∧ d < 1000) ∧ ∃ o, r_f_law_draws [.val (.list (iL ns)), .val (.int c)] = some (.own (iL ds), o) := by
  obtain ⟨e, he, hP⟩ := dloop (sc := .list (iL ns)) (c := c) (rs := ns) hn
  obtain ⟨rs, ds, k, b, at_, m, h1, h2, h3, hk, hb, hat, hm, rfl⟩ := hP
  refine ⟨ds, h1, h3, ?_⟩
  refine run_rt (e := [.val (.list (iL ns)), .val (.int c), .own (iL rs), .own (iL ds), k, b, at_, m, .un]) ?_ (by simp)
  have s3 := dfor hc hcn he
  have s1 := ds1 (sc := .none) (x := .none) (y := .none) (dcomp (c := c) hl)
  rw [body_is]
  show seqB _ _ [.val (.list (iL ns)), .val (.int c), .un, .un, .un, .un, .un, .un, .un] = _
  unfold seqB
  rw [s1]
  simp only
  rw [ds2]
  simp only
  rw [s3]
  rfl
theorem draws_eval {ns : List Int} {c : Int} (n : Nat) (hl : ns.length ≤ 63) (hn : n ≤ 100000) (hcn : c = n) : ∃ ds : List Int, ds.length = n ∧ (∀ d ∈ ds, 0 ≤ d ∧ d < 1000) ∧ ∃ o, r_f_law_draws [.val (.list (iL ns)), .val (.int c)] = some (.own (iL ds), o) := by
  have hc : -(2 ^ 62) ≤ c ∧ c < 2 ^ 62 := by omega
  exact draws_gen hl hn hc (by omega)
end Le

set_option Elab.async false
set_option linter.all false
set_option maxRecDepth 100000
set_option maxHeartbeats 4000000
namespace Le
open PySem L2 Ip Lw
/-! ### _law_drawn -/
abbrev gD (ds : List Int) (j : Nat) : Int := ds.getD j 0
theorem ix_draw {ds : List Int} (j : Nat) {i : Int} (hi : i = (j : Int)) (hj : j < ds.length) : ixD (.list (iL ds)) (.int i) = some (.val (.int (gD ds j))) := by
  have h : atI (iL ds) i = some (.int (gD ds j)) := by
    rw [atI_of (by omega) (by rw [List.length_map]; omega), List.getElem?_map]
    rw [show i.toNat = j by omega, List.getElem?_eq_getElem hj]
    simp [gD, List.getD_eq_getElem?_getD, List.getElem?_eq_getElem hj]
  show (atI (iL ds) i).map Slot.val = _
  rw [h]
  rfl
theorem gD_bd {ds : List Int} {j : Nat} (hd : ∀ d ∈ ds, 0 ≤ d ∧ d < 1000) : 0 ≤ gD ds j ∧ gD ds j < 1000 := by
  by_cases hj : j < ds.length
  · have : gD ds j = ds[j] := by simp [gD, List.getD_eq_getElem?_getD, List.getElem?_eq_getElem hj]
    rw [this]
    exact hd _ (List.getElem_mem hj)
  · have : gD ds j = 0 := by simp [gD, List.getD_eq_getElem?_getD, List.getElem?_eq_none (by omega : ds.length ≤ j)]
    rw [this]
    decide
end Le

set_option Elab.async false
set_option linter.all false
set_option maxRecDepth 100000
set_option maxHeartbeats 4000000
namespace Le
open PySem L2 Ip
def ECS : List Str := ["BadEntry", "BadForm", "BadName", "BadNumber", "BadSign", "BadSize", "BadText", "Circle", "InUse", "NotFine", "NothingToRedo", "NothingToUndo", "TooDeep", "UnknownName", "WhereError"]
def EFL : List Str := ["column", "line", "place"]
noncomputable section
def b_f_law_marks : MEnv → Option Out := seqB (asgB 1 (lstF ((fun env => some ([], env))))) (seqB (asgB 1 (op2 (nameL 1) (datL (datF (lstF (consA (datF (op1 (nameL 0) (isxD ECS "BadSize"))) (consA (datF (op1 (nameL 0) (isxD ECS "BadNumber"))) (consA (datF (op1 (nameL 0) (isxD ECS "BadForm"))) (consA (datF (op1 (nameL 0) (isxD ECS "BadSign"))) ((fun env => some ([], env)))))))))) addD)) (seqB (asgB 1 (op2 (nameL 1) (datL (datF (lstF (consA (datF (op1 (nameL 0) (isxD ECS "TooDeep"))) (consA (datF (op1 (nameL 0) (isxD ECS "NotFine"))) (consA (datF (op1 (nameL 0) (isxD ECS "BadName"))) (consA (datF (op1 (nameL 0) (isxD ECS "UnknownName"))) ((fun env => some ([], env)))))))))) addD)) (seqB (asgB 1 (op2 (nameL 1) (datL (datF (lstF (consA (datF (op1 (nameL 0) (isxD ECS "Circle"))) (consA (datF (op1 (nameL 0) (isxD ECS "InUse"))) (consA (datF (op1 (nameL 0) (isxD ECS "NothingToUndo"))) (consA (datF (op1 (nameL 0) (isxD ECS "NothingToRedo"))) ((fun env => some ([], env)))))))))) addD)) (seqB (asgB 1 (op2 (nameL 1) (datL (datF (lstF (consA (datF (op1 (nameL 0) (isxD ECS "BadText"))) (consA (datF (op1 (nameL 0) (isxD ECS "BadEntry"))) ((fun env => some ([], env)))))))) addD)) (seqB (retNm 1) (nilB))))))
def r_f_law_marks : Ip.Run := runB 2 1 b_f_law_marks
def b_f_law_alone : MEnv → Option Out := seqB (ifB (orT (notT (boolT (op1 (nameL 0) (isxD ECS "WhereError")))) (notT (boolT (op1 (nameL 0) (isxD ECS "ValueError"))))) (seqB (retB (valF (constD (.bool false)))) (nilB)) (nilB)) (seqB (asgB 2 (callF 1 r_f_law_marks (consA (nameV 0) ((fun env => some ([], env)))))) (seqB (retB (op1 (datL (datF (compF (rng1I (consA (datF (op1 (nameL 2) lenD)) ((fun env => some ([], env))))) (nameG 3) (yesT) (datF (op2 (datL (datF (op2 (nameL 2) (nameL 3) ixD))) (datL (datF (op2 (nameL 3) (nameL 1) eqD))) eqD)) [3]))) allD)) (nilB)))
def r_f_law_alone : Ip.Run := runB 4 2 b_f_law_alone
def b_f_law_plain_errors : MEnv → Option Out := seqB (asgB 0 (lstF ((fun env => some ([], env))))) (seqB (asgB 0 (op2 (nameL 0) (datL (datF (lstF (consA (datF (callF 2 r_f_law_alone (consA (datF (mkX0 "BadSize")) (consA (constD (.int 0)) ((fun env => some ([], env))))))) (consA (datF (callF 2 r_f_law_alone (consA (datF (mkX0 "BadNumber")) (consA (constD (.int 1)) ((fun env => some ([], env))))))) (consA (datF (callF 2 r_f_law_alone (consA (datF (mkX0 "BadForm")) (consA (constD (.int 2)) ((fun env => some ([], env))))))) ((fun env => some ([], env))))))))) addD)) (seqB (asgB 0 (op2 (nameL 0) (datL (datF (lstF (consA (datF (callF 2 r_f_law_alone (consA (datF (mkX0 "BadSign")) (consA (constD (.int 3)) ((fun env => some ([], env))))))) (consA (datF (callF 2 r_f_law_alone (consA (datF (mkX0 "TooDeep")) (consA (constD (.int 4)) ((fun env => some ([], env))))))) (consA (datF (callF 2 r_f_law_alone (consA (datF (mkX0 "NotFine")) (consA (constD (.int 5)) ((fun env => some ([], env))))))) ((fun env => some ([], env))))))))) addD)) (seqB (asgB 0 (op2 (nameL 0) (datL (datF (lstF (consA (datF (callF 2 r_f_law_alone (consA (datF (mkX0 "BadName")) (consA (constD (.int 6)) ((fun env => some ([], env))))))) (consA (datF (callF 2 r_f_law_alone (consA (datF (mkX0 "UnknownName")) (consA (constD (.int 7)) ((fun env => some ([], env))))))) (consA (datF (callF 2 r_f_law_alone (consA (datF (mkX0 "Circle")) (consA (constD (.int 8)) ((fun env => some ([], env))))))) ((fun env => some ([], env))))))))) addD)) (seqB (asgB 0 (op2 (nameL 0) (datL (datF (lstF (consA (datF (callF 2 r_f_law_alone (consA (datF (mkX0 "InUse")) (consA (constD (.int 9)) ((fun env => some ([], env))))))) (consA (datF (callF 2 r_f_law_alone (consA (datF (mkX0 "NothingToUndo")) (consA (constD (.int 10)) ((fun env => some ([], env))))))) (consA (datF (callF 2 r_f_law_alone (consA (datF (mkX0 "NothingToRedo")) (consA (constD (.int 11)) ((fun env => some ([], env))))))) ((fun env => some ([], env))))))))) addD)) (seqB (retB (op1 (nameL 0) allD)) (nilB))))))
def r_f_law_plain_errors : Ip.Run := runB 1 0 b_f_law_plain_errors
def b_law : MEnv → Option Out := seqB (asgB 1 (callF 2 r_f_law_draws (consA (nameV 0) (consA (constD (.int 6)) ((fun env => some ([], env))))))) (seqB (asgB 2 (mkXF "BadText" ["line", "column"] (consA (datF (op1 (datL (datF (op2 (nameL 1) (datL (constD (.int 0))) ixD))) intD)) (consA (datF (op2 (datL (datF (op1 (datL (datF (op2 (nameL 1) (datL (constD (.int 1))) ixD))) intD))) (datL (constD (.int 1))) addD)) ((fun env => some ([], env))))))) (seqB (asgB 3 (mkXF "BadEntry" ["place"] (consA (datF (op1 (datL (datF (op2 (nameL 1) (datL (constD (.int 2))) ixD))) intD)) ((fun env => some ([], env)))))) (seqB (ifB (orT (boolT (op2 (datL (datF (op1 (nameL 2) (xgD ECS "line")))) (datL (datF (op1 (datL (datF (op2 (nameL 1) (datL (constD (.int 0))) ixD))) intD))) neD)) (orT (boolT (op2 (datL (datF (op1 (nameL 2) (xgD ECS "column")))) (datL (datF (op2 (datL (datF (op1 (datL (datF (op2 (nameL 1) (datL (constD (.int 1))) ixD))) intD))) (datL (constD (.int 1))) addD))) neD)) (boolT (op2 (datL (datF (op1 (nameL 3) (xgD ECS "place")))) (datL (datF (op1 (datL (datF (op2 (nameL 1) (datL (constD (.int 2))) ixD))) intD))) neD)))) (seqB (retB (valF (constD (.bool false)))) (nilB)) (nilB)) (seqB (ifB (orT (notT (boolT (callF 2 r_f_law_alone (consA (nameV 2) (consA (constD (.int 12)) ((fun env => some ([], env)))))))) (notT (boolT (callF 2 r_f_law_alone (consA (nameV 3) (consA (constD (.int 13)) ((fun env => some ([], env))))))))) (seqB (retB (valF (constD (.bool false)))) (nilB)) (nilB)) (seqB (retB (callF 0 r_f_law_plain_errors (fun env => some ([], env)))) (nilB))))))
def r_law : Ip.Run := runB 4 1 b_law
end
end Le

set_option Elab.async false
set_option linter.all false
set_option maxRecDepth 100000
set_option maxHeartbeats 4000000
namespace Le
open PySem L2 Ip
def topS (i : Nat) : Stmt := PySem.Challenge.pw_wheretrue_k00_errors_stand_apart.main.body.getD i (.Pass ⟨0, 0, 0, 0⟩)
abbrev s_f_law_draws : Stmt := topS 17
abbrev N_f_law_draws : List Str := ["script", "count", "rests", "draws", "k", "value", "at", "mixed", "cell"]
theorem sc_f_law_draws : FnScope N_f_law_draws ["script", "count"] (defScope s_f_law_draws) := ⟨rfl, rfl, rfl, by decide +kernel, rfl, by decide +kernel, by decide +kernel⟩
abbrev s_f_law_marks : Stmt := topS 19
abbrev N_f_law_marks : List Str := ["e", "marks"]
theorem sc_f_law_marks : FnScope N_f_law_marks ["e"] (defScope s_f_law_marks) := ⟨rfl, rfl, rfl, by decide +kernel, rfl, by decide +kernel, by decide +kernel⟩
abbrev s_f_law_alone : Stmt := topS 20
abbrev N_f_law_alone : List Str := ["e", "at", "marks", "k"]
theorem sc_f_law_alone : FnScope N_f_law_alone ["e", "at"] (defScope s_f_law_alone) := ⟨rfl, rfl, rfl, by decide +kernel, rfl, by decide +kernel, by decide +kernel⟩
abbrev s_f_law_plain_errors : Stmt := topS 21
abbrev N_f_law_plain_errors : List Str := ["good"]
theorem sc_f_law_plain_errors : FnScope N_f_law_plain_errors [] (defScope s_f_law_plain_errors) := ⟨rfl, rfl, rfl, by decide +kernel, rfl, by decide +kernel, by decide +kernel⟩
abbrev s_law : Stmt := topS 22
abbrev N_law : List Str := ["script", "draws", "text", "entry"]
theorem sc_law : FnScope N_law ["script"] (defScope s_law) := ⟨rfl, rfl, rfl, by decide +kernel, rfl, by decide +kernel, by decide +kernel⟩
abbrev s_m_BadEntry___init__ : Stmt := (clsBodyE (topS 15)).getD 0 (.Pass ⟨0, 0, 0, 0⟩)
abbrev N_m_BadEntry___init__ : List Str := ["self", "place"]
theorem sc_m_BadEntry___init__ : FnScope N_m_BadEntry___init__ ["self", "place"] (defScope s_m_BadEntry___init__) := ⟨rfl, rfl, rfl, by decide +kernel, rfl, by decide +kernel, by decide +kernel⟩
abbrev s_m_BadText___init__ : Stmt := (clsBodyE (topS 7)).getD 0 (.Pass ⟨0, 0, 0, 0⟩)
abbrev N_m_BadText___init__ : List Str := ["self", "line", "column"]
theorem sc_m_BadText___init__ : FnScope N_m_BadText___init__ ["self", "line", "column"] (defScope s_m_BadText___init__) := ⟨rfl, rfl, rfl, by decide +kernel, rfl, by decide +kernel, by decide +kernel⟩
section
variable {P : Program} {w : World} {K : PySem.W.Frag} {mg : Str → Option Value} {base : Heap} {f : Addr} {fd : FuncData}
theorem okE_BadEntry {C : Addr} (F : Fun K "__init__" "BadEntry.__init__" s_m_BadEntry___init__ f fd) : FnOk P w K mg base CX0 1 f fd ["self", "place"] (spXI K C ["place"]) := by
  refine F.ok sc_m_BadEntry___init__ (fun vs H Q E h => by obtain ⟨a, ys, rfl, hl, _⟩ := h; simp [hl]) ?_
  intro cdv A outer s H vs Q E hr hsp
  obtain ⟨a, ys, rfl, hl, ha, T, nf, qq⟩ := hsp
  match ys, hl, qq with
  | [y0], _, qq =>
    refine ⟨_, pss_one (ps_ost (pv 0) (pv 1)), ?_⟩
    exact ⟨_, rfl, _, rfl, a, C, rfl, T, nf "place" (by simp), .inl ⟨ha, fun d nd hda => qq d nd hda⟩⟩
theorem okE_BadText {C : Addr} (F : Fun K "__init__" "BadText.__init__" s_m_BadText___init__ f fd) : FnOk P w K mg base CX0 1 f fd ["self", "line", "column"] (spXI K C ["line", "column"]) := by
  refine F.ok sc_m_BadText___init__ (fun vs H Q E h => by obtain ⟨a, ys, rfl, hl, _⟩ := h; simp [hl]) ?_
  intro cdv A outer s H vs Q E hr hsp
  obtain ⟨a, ys, rfl, hl, ha, T, nf, qq⟩ := hsp
  match ys, hl, qq with
  | [y0, y1], _, qq =>
    refine ⟨_, pss_cons (ps_ost (pv 0) (pv 1)) (pss_one (ps_ost (pv 0) (pv 2))), ?_⟩
    refine ⟨_, rfl, _, rfl, a, C, rfl, T, nf "line" (by simp), .inl ⟨ha, fun d nd hda => ⟨_, rfl, _, rfl, a, C, rfl, T, nf "column" (by simp), .inr ⟨d, [("line", y0)], upd_same, ?_, by show 1 ≤ 900; decide, ?_⟩⟩⟩⟩
    · rw [upd_ne hda, upd_same]
    · rw [upd_turn hda]
      exact qq d nd hda
theorem sb_f_law_draws [Old] {X : Cx} (c : CtxF X N_f_law_draws (defScope s_f_law_draws) true) (hG : X.A.guards = some []) (hr : Room 0 X.A) (m_int : X.mg "int" = none) (m_len : X.mg "len" = none) (m_range : X.mg "range" = none) : SB X (defBody s_f_law_draws) b_f_law_draws := by
  have v0 : ∀ pos : Pos, PE X (.Name "script" pos) (tVar 0) := fun _ => pvc c 0 (by decide +kernel)
  have v1 : ∀ pos : Pos, PE X (.Name "count" pos) (tVar 1) := fun _ => pvc c 1 (by decide +kernel)
  have v2 : ∀ pos : Pos, PE X (.Name "rests" pos) (tVar 2) := fun _ => pvc c 2 (by decide +kernel)
  have v3 : ∀ pos : Pos, PE X (.Name "draws" pos) (tVar 3) := fun _ => pvc c 3 (by decide +kernel)
  have v4 : ∀ pos : Pos, PE X (.Name "k" pos) (tVar 4) := fun _ => pvc c 4 (by decide +kernel)
  have v5 : ∀ pos : Pos, PE X (.Name "value" pos) (tVar 5) := fun _ => pvc c 5 (by decide +kernel)
  have v6 : ∀ pos : Pos, PE X (.Name "at" pos) (tVar 6) := fun _ => pvc c 6 (by decide +kernel)
  have v7 : ∀ pos : Pos, PE X (.Name "mixed" pos) (tVar 7) := fun _ => pvc c 7 (by decide +kernel)
  have g_int : Gl X "int" := glc c (by decide +kernel)
  have g_len : Gl X "len" := glc c (by decide +kernel)
  have g_range : Gl X "range" := glc c (by decide +kernel)
  refine sb_cons (ss_asgCC [("cell", 8)] 2 c (by decide +kernel) (by decide +kernel) (si_seq (sv_name (v0 _))) (fun s0 H0 C0 cl0 fp0 cb0 => sg_name (tgc cb0 8 (by decide +kernel))) (fun s0 H0 C0 cl0 fp0 cb0 => sts_nil) (fun s0 H0 C0 cl0 fp0 cb0 => sv_name (pvc cb0 8 (by decide +kernel))) (by intro _; rfl)) ?_
  refine sb_cons (ss_asg (se_lst (sa_nil)) (psc c 3 (by decide +kernel) (by rfl))) ?_
  refine sb_cons (ss_for (si_rng1 g_range m_range (sa_cons (sv_name (v1 _)) (sa_nil) (by rfl)) (by rfl)) (sg_name (tgc c 4 (by decide +kernel))) (sb_cons (ss_asg (SV.e (sv_c pe_int (fun _ => rfl))) (psc c 5 (by decide +kernel) (by rfl))) (sb_cons (ss_if (st_cmp op_gt (SV.l (SE.v (se_b1 call_lenA g_len m_len bt_len (sl_name (v2 _)) ok_len (by rfl) (by decide) (by decide)))) (SV.l (sv_c pe_int (fun _ => rfl))) ok_gt (nomark _)) (sb_cons (ss_asg (se_bin (SV.l (SE.v (se_t1 call_int1 g_int m_int bt_int (sl_name (v4 _)) ok_int (by rfl) (by decide) (by decide)))) (SV.l (SE.v (se_b1 call_lenA g_len m_len bt_len (sl_name (v2 _)) ok_len (by rfl) (by decide) (by decide)))) op_modN ok_mod) (psc c 6 (by decide +kernel) (by rfl))) (sb_cons (ss_if (st_cmp op_ge (SV.l (SE.v (se_ix (sl_name (v2 _)) (sl_name (v6 _)) (fun _ _ => rfl)))) (SV.l (SE.v (se_bin (SV.l (sv_c pe_int (fun _ => rfl))) (SV.l (sv_c pe_int (fun _ => rfl))) op_pow ok_pow))) ok_ge (nomark _)) (sb_cons (ss_asg (se_bin (SV.l (SE.v (se_t1 call_int1 g_int m_int bt_int (SV.l (SE.v (se_ix (sl_name (v2 _)) (sl_name (v6 _)) (fun _ _ => rfl)))) ok_int (by rfl) (by decide) (by decide)))) (SV.l (sv_c pe_int (fun _ => rfl))) op_modN ok_mod) (psc c 5 (by decide +kernel) (by rfl))) (sb_cons (ss_set (v2 _) (SE.v (se_bin (SV.l (SE.v (se_ix (sl_name (v2 _)) (sl_name (v6 _)) (fun _ _ => rfl)))) (SV.l (sv_c pe_int (fun _ => rfl))) op_fdivA ok_fdiv)) (sl_name (v6 _)) (by rfl) (by rfl) (by rfl)) (sb_nil))) (sb_cons (ss_asg (se_bin (SV.l (SE.v (se_t1 call_int1 g_int m_int bt_int (SV.l (SE.v (se_bin (SV.l (SE.v (se_bin (SV.l (SE.v (se_bin (SV.l (SE.v (se_ix (sl_name (v2 _)) (sl_name (v6 _)) (fun _ _ => rfl)))) (SV.l (sv_c pe_int (fun _ => rfl))) op_mulA ok_mul))) (SV.l (SE.v (se_bin (sl_name (v4 _)) (SV.l (sv_c pe_int (fun _ => rfl))) op_mulA ok_mul))) op_addA ok_add))) (SV.l (sv_c pe_int (fun _ => rfl))) op_addA ok_add))) ok_int (by rfl) (by decide) (by decide)))) (SV.l (sv_c pe_int (fun _ => rfl))) op_modN ok_mod) (psc c 7 (by decide +kernel) (by rfl))) (sb_cons (ss_asg (se_bin (SV.l (SE.v (se_t1 call_int1 g_int m_int bt_int (SV.l (SE.v (se_bin (SV.l (SE.v (se_bin (sl_name (v7 _)) (SV.l (sv_c pe_int (fun _ => rfl))) op_mulA ok_mul))) (sl_name (v6 _)) op_addA ok_add))) ok_int (by rfl) (by decide) (by decide)))) (SV.l (sv_c pe_int (fun _ => rfl))) op_modN ok_mod) (psc c 7 (by decide +kernel) (by rfl))) (sb_cons (ss_asg (se_bin (SV.l (SE.v (se_t1 call_int1 g_int m_int bt_int (SV.l (SE.v (se_bin (sl_name (v7 _)) (SV.l (sv_c pe_int (fun _ => rfl))) op_fdivA ok_fdiv))) ok_int (by rfl) (by decide) (by decide)))) (SV.l (sv_c pe_int (fun _ => rfl))) op_modN ok_mod) (psc c 5 (by decide +kernel) (by rfl))) (sb_nil))))) (sb_nil))) (sb_nil)) (sb_cons (ss_app (v3 _) (sv_name (v5 _)) (by rfl) (by rfl)) (sb_nil)))) c.own c.calm (by intro _; rfl)) ?_
  refine sb_cons (ss_retNm (v3 _)) ?_
  exact sb_nil
theorem ok_f_law_draws (F : Fun K "_law_draws" "_law_draws" s_f_law_draws f fd) (m_int : mg "int" = none) (m_len : mg "len" = none) (m_range : mg "range" = none) : FnG P w K mg base 1 f fd ["script", "count"] (spF K 2 r_f_law_draws) := by
  refine fun_ok (k := 0) (sp := spF K 2 r_f_law_draws) F sc_f_law_draws (fun vs H Q E h => spF_len h) ?_
  intro cd B up t h a q x hG hr hs
  refine ⟨_, WSs.ps _ _, ?_⟩
  have hb := fun (_ : Old) => sb_f_law_draws (X := (cxOf CX0 P w K mg base N_f_law_draws "_law_draws" (defScope s_f_law_draws) f cd B up t h x).nox) ⟨rfl, rfl, sc_f_law_draws.nd, rfl, fun _ _ => rfl, PassesOwn.never⟩ hG hr m_int m_len m_range
  exact @fn_body (cxOf CX0 P w K mg base N_f_law_draws "_law_draws" (defScope s_f_law_draws) f cd B up t h x).nox h N_f_law_draws 2 b_f_law_draws (defBody s_f_law_draws) a q x rfl hb (by decide) hs
theorem sb_f_law_marks [Old] {X : Cx} (c : CtxF X N_f_law_marks (defScope s_f_law_marks) true) (hG : X.A.guards = some []) (hr : Room 0 X.A) (m_isinstance : X.mg "isinstance" = none) (nn : ErrNs X.K X.mg ECS) (ea : ErrAll X.K X.mg ECS) : SB X (defBody s_f_law_marks) b_f_law_marks := by
  have v0 : ∀ pos : Pos, PE X (.Name "e" pos) (tVar 0) := fun _ => pvc c 0 (by decide +kernel)
  have v1 : ∀ pos : Pos, PE X (.Name "marks" pos) (tVar 1) := fun _ => pvc c 1 (by decide +kernel)
  have g_BadEntry : Gl X "BadEntry" := glc c (by decide +kernel)
  have g_BadForm : Gl X "BadForm" := glc c (by decide +kernel)
  have g_BadName : Gl X "BadName" := glc c (by decide +kernel)
  have g_BadNumber : Gl X "BadNumber" := glc c (by decide +kernel)
  have g_BadSign : Gl X "BadSign" := glc c (by decide +kernel)
  have g_BadSize : Gl X "BadSize" := glc c (by decide +kernel)
  have g_BadText : Gl X "BadText" := glc c (by decide +kernel)
  have g_Circle : Gl X "Circle" := glc c (by decide +kernel)
  have g_InUse : Gl X "InUse" := glc c (by decide +kernel)
  have g_NotFine : Gl X "NotFine" := glc c (by decide +kernel)
  have g_NothingToRedo : Gl X "NothingToRedo" := glc c (by decide +kernel)
  have g_NothingToUndo : Gl X "NothingToUndo" := glc c (by decide +kernel)
  have g_TooDeep : Gl X "TooDeep" := glc c (by decide +kernel)
  have g_UnknownName : Gl X "UnknownName" := glc c (by decide +kernel)
  have g_isinstance : Gl X "isinstance" := glc c (by decide +kernel)
  refine sb_cons (ss_asg (se_lst (sa_nil)) (psc c 1 (by decide +kernel) (by rfl))) ?_
  refine sb_cons (ss_asg (se_bin (sl_name (v1 _)) (SV.l (SE.v (se_lst (sa_cons (SE.v (se_isxC ea nn (by decide +kernel) (sl_name (v0 _)) (by rfl) g_BadSize g_isinstance m_isinstance (by decide))) (sa_cons (SE.v (se_isxC ea nn (by decide +kernel) (sl_name (v0 _)) (by rfl) g_BadNumber g_isinstance m_isinstance (by decide))) (sa_cons (SE.v (se_isxC ea nn (by decide +kernel) (sl_name (v0 _)) (by rfl) g_BadForm g_isinstance m_isinstance (by decide))) (sa_cons (SE.v (se_isxC ea nn (by decide +kernel) (sl_name (v0 _)) (by rfl) g_BadSign g_isinstance m_isinstance (by decide))) (sa_nil) (by rfl)) (by rfl)) (by rfl)) (by rfl))))) op_addA ok_add) (psc c 1 (by decide +kernel) (by rfl))) ?_
  refine sb_cons (ss_asg (se_bin (sl_name (v1 _)) (SV.l (SE.v (se_lst (sa_cons (SE.v (se_isxC ea nn (by decide +kernel) (sl_name (v0 _)) (by rfl) g_TooDeep g_isinstance m_isinstance (by decide))) (sa_cons (SE.v (se_isxC ea nn (by decide +kernel) (sl_name (v0 _)) (by rfl) g_NotFine g_isinstance m_isinstance (by decide))) (sa_cons (SE.v (se_isxC ea nn (by decide +kernel) (sl_name (v0 _)) (by rfl) g_BadName g_isinstance m_isinstance (by decide))) (sa_cons (SE.v (se_isxC ea nn (by decide +kernel) (sl_name (v0 _)) (by rfl) g_UnknownName g_isinstance m_isinstance (by decide))) (sa_nil) (by rfl)) (by rfl)) (by rfl)) (by rfl))))) op_addA ok_add) (psc c 1 (by decide +kernel) (by rfl))) ?_
  refine sb_cons (ss_asg (se_bin (sl_name (v1 _)) (SV.l (SE.v (se_lst (sa_cons (SE.v (se_isxC ea nn (by decide +kernel) (sl_name (v0 _)) (by rfl) g_Circle g_isinstance m_isinstance (by decide))) (sa_cons (SE.v (se_isxC ea nn (by decide +kernel) (sl_name (v0 _)) (by rfl) g_InUse g_isinstance m_isinstance (by decide))) (sa_cons (SE.v (se_isxC ea nn (by decide +kernel) (sl_name (v0 _)) (by rfl) g_NothingToUndo g_isinstance m_isinstance (by decide))) (sa_cons (SE.v (se_isxC ea nn (by decide +kernel) (sl_name (v0 _)) (by rfl) g_NothingToRedo g_isinstance m_isinstance (by decide))) (sa_nil) (by rfl)) (by rfl)) (by rfl)) (by rfl))))) op_addA ok_add) (psc c 1 (by decide +kernel) (by rfl))) ?_
  refine sb_cons (ss_asg (se_bin (sl_name (v1 _)) (SV.l (SE.v (se_lst (sa_cons (SE.v (se_isxC ea nn (by decide +kernel) (sl_name (v0 _)) (by rfl) g_BadText g_isinstance m_isinstance (by decide))) (sa_cons (SE.v (se_isxC ea nn (by decide +kernel) (sl_name (v0 _)) (by rfl) g_BadEntry g_isinstance m_isinstance (by decide))) (sa_nil) (by rfl)) (by rfl))))) op_addA ok_add) (psc c 1 (by decide +kernel) (by rfl))) ?_
  refine sb_cons (ss_retNm (v1 _)) ?_
  exact sb_nil
theorem ok_f_law_marks (F : Fun K "_law_marks" "_law_marks" s_f_law_marks f fd) (m_isinstance : mg "isinstance" = none) (nn : ErrNs K mg ECS) (ea : ErrAll K mg ECS) : FnG P w K mg base 1 f fd ["e"] (spF K 1 r_f_law_marks) := by
  refine fun_ok (k := 0) (sp := spF K 1 r_f_law_marks) F sc_f_law_marks (fun vs H Q E h => spF_len h) ?_
  intro cd B up t h a q x hG hr hs
  refine ⟨_, WSs.ps _ _, ?_⟩
  have hb := fun (_ : Old) => sb_f_law_marks (X := (cxOf CX0 P w K mg base N_f_law_marks "_law_marks" (defScope s_f_law_marks) f cd B up t h x).nox) ⟨rfl, rfl, sc_f_law_marks.nd, rfl, fun _ _ => rfl, PassesOwn.never⟩ hG hr m_isinstance nn ea
  exact @fn_body (cxOf CX0 P w K mg base N_f_law_marks "_law_marks" (defScope s_f_law_marks) f cd B up t h x).nox h N_f_law_marks 1 b_f_law_marks (defBody s_f_law_marks) a q x rfl hb (by decide) hs
theorem sb_f_law_alone [Old] {X : Cx} (c : CtxF X N_f_law_alone (defScope s_f_law_alone) true) (hG : X.A.guards = some []) (hr : Room 1 X.A) (o_f_law_marks : OwnG X.prog X.w X.K X.mg X.base 1 "_law_marks" 1 r_f_law_marks) (m_ValueError : X.mg "ValueError" = none) (m_all : X.mg "all" = none) (m_isinstance : X.mg "isinstance" = none) (m_len : X.mg "len" = none) (m_range : X.mg "range" = none) (nn : ErrNs X.K X.mg ECS) (ea : ErrAll X.K X.mg ECS) : SB X (defBody s_f_law_alone) b_f_law_alone := by
  have v0 : ∀ pos : Pos, PE X (.Name "e" pos) (tVar 0) := fun _ => pvc c 0 (by decide +kernel)
  have v2 : ∀ pos : Pos, PE X (.Name "marks" pos) (tVar 2) := fun _ => pvc c 2 (by decide +kernel)
  have g_ValueError : Gl X "ValueError" := glc c (by decide +kernel)
  have g_WhereError : Gl X "WhereError" := glc c (by decide +kernel)
  have g__law_marks : Gl X "_law_marks" := glc c (by decide +kernel)
  have g_all : Gl X "all" := glc c (by decide +kernel)
  have g_isinstance : Gl X "isinstance" := glc c (by decide +kernel)
  have g_len : Gl X "len" := glc c (by decide +kernel)
  have g_range : Gl X "range" := glc c (by decide +kernel)
  refine sb_cons (ss_if (st_or (st_not (st_val (se_isxC ea nn (by decide +kernel) (sl_name (v0 _)) (by rfl) g_WhereError g_isinstance m_isinstance (by decide)) (by intro _; rfl))) (st_one (st_not (st_val (se_isxV ea nn (sl_name (v0 _)) (by rfl) g_ValueError m_ValueError g_isinstance m_isinstance) (by intro _; rfl))))) (sb_cons (ss_ret (SV.e (sv_c pe_bl (fun _ => rfl)))) (sb_nil)) (sb_nil)) ?_
  refine sb_cons (ss_asg (se_go o_f_law_marks hG (hr.mono (by omega)) g__law_marks (sa_cons (sv_name (v0 _)) (sa_nil) (by rfl)) (by rfl) (by decide)) (psc c 2 (by decide +kernel) (by rfl))) ?_
  refine sb_cons (ss_ret (se_b1 (cr_all c.calm) g_all m_all bt_all (SV.l (SE.v (se_compC [("k", 3)] c (by decide +kernel) (si_rng1 g_range m_range (sa_cons (SE.v (se_b1 call_lenA g_len m_len bt_len (sl_name (v2 _)) ok_len (by rfl) (by decide) (by decide))) (sa_nil) (by rfl)) (by rfl)) (fun s0 H0 C0 cl0 fp0 cb0 => sg_name (tgc cb0 3 (by decide +kernel))) (fun s0 H0 C0 cl0 fp0 cb0 => sts_nil) (fun s0 H0 C0 cl0 fp0 cb0 => SE.v (se_cmp (op_eqA (Room.units hr)) (SV.l (SE.v (se_ix (sl_name (pvc cb0 2 (by decide +kernel))) (sl_name (pvc cb0 3 (by decide +kernel))) (fun _ _ => rfl)))) (SV.l (SE.v (se_cmp (op_eqA (Room.units hr)) (sl_name (pvc cb0 3 (by decide +kernel))) (sl_name (pvc cb0 1 (by decide +kernel))) ok_eq (nomark _)))) ok_eq (nomark _))) (by intro _; rfl)))) ok_all (by rfl) (by decide) (by decide))) ?_
  exact sb_nil
theorem ok_f_law_alone (F : Fun K "_law_alone" "_law_alone" s_f_law_alone f fd) (o_f_law_marks : OwnG P w K mg base 1 "_law_marks" 1 r_f_law_marks) (m_ValueError : mg "ValueError" = none) (m_all : mg "all" = none) (m_isinstance : mg "isinstance" = none) (m_len : mg "len" = none) (m_range : mg "range" = none) (nn : ErrNs K mg ECS) (ea : ErrAll K mg ECS) : FnG P w K mg base 2 f fd ["e", "at"] (spF K 2 r_f_law_alone) := by
  refine fun_ok (k := 1) (sp := spF K 2 r_f_law_alone) F sc_f_law_alone (fun vs H Q E h => spF_len h) ?_
  intro cd B up t h a q x hG hr hs
  refine ⟨_, WSs.ps _ _, ?_⟩
  have hb := fun (_ : Old) => sb_f_law_alone (X := (cxOf CX0 P w K mg base N_f_law_alone "_law_alone" (defScope s_f_law_alone) f cd B up t h x).nox) ⟨rfl, rfl, sc_f_law_alone.nd, rfl, fun _ _ => rfl, PassesOwn.never⟩ hG hr o_f_law_marks m_ValueError m_all m_isinstance m_len m_range nn ea
  exact @fn_body (cxOf CX0 P w K mg base N_f_law_alone "_law_alone" (defScope s_f_law_alone) f cd B up t h x).nox h N_f_law_alone 2 b_f_law_alone (defBody s_f_law_alone) a q x rfl hb (by decide) hs
theorem sb_f_law_plain_errors [Old] {X : Cx} (c : CtxF X N_f_law_plain_errors (defScope s_f_law_plain_errors) true) (hG : X.A.guards = some []) (hr : Room 2 X.A) (o_f_law_alone : OwnG X.prog X.w X.K X.mg X.base 2 "_law_alone" 2 r_f_law_alone) (m_all : X.mg "all" = none) (nn : ErrNs X.K X.mg ECS) (ea : ErrAll X.K X.mg ECS) : SB X (defBody s_f_law_plain_errors) b_f_law_plain_errors := by
  have v0 : ∀ pos : Pos, PE X (.Name "good" pos) (tVar 0) := fun _ => pvc c 0 (by decide +kernel)
  have g_BadForm : Gl X "BadForm" := glc c (by decide +kernel)
  have g_BadName : Gl X "BadName" := glc c (by decide +kernel)
  have g_BadNumber : Gl X "BadNumber" := glc c (by decide +kernel)
  have g_BadSign : Gl X "BadSign" := glc c (by decide +kernel)
  have g_BadSize : Gl X "BadSize" := glc c (by decide +kernel)
  have g_Circle : Gl X "Circle" := glc c (by decide +kernel)
  have g_InUse : Gl X "InUse" := glc c (by decide +kernel)
  have g_NotFine : Gl X "NotFine" := glc c (by decide +kernel)
  have g_NothingToRedo : Gl X "NothingToRedo" := glc c (by decide +kernel)
  have g_NothingToUndo : Gl X "NothingToUndo" := glc c (by decide +kernel)
  have g_TooDeep : Gl X "TooDeep" := glc c (by decide +kernel)
  have g_UnknownName : Gl X "UnknownName" := glc c (by decide +kernel)
  have g__law_alone : Gl X "_law_alone" := glc c (by decide +kernel)
  have g_all : Gl X "all" := glc c (by decide +kernel)
  refine sb_cons (ss_asg (se_lst (sa_nil)) (psc c 0 (by decide +kernel) (by rfl))) ?_
  refine sb_cons (ss_asg (se_bin (sl_name (v0 _)) (SV.l (SE.v (se_lst (sa_cons (SE.v (se_go o_f_law_alone hG (hr.mono (by omega)) g__law_alone (sa_cons (SE.v (se_mkX0 nn (by decide +kernel) ((ea.cl "BadSize" (by decide +kernel)).toExcCl (by decide)) g_BadSize (by decide))) (sa_cons (sv_c pe_int (fun _ => rfl)) (sa_nil) (by rfl)) (by rfl)) (by rfl) (by decide))) (sa_cons (SE.v (se_go o_f_law_alone hG (hr.mono (by omega)) g__law_alone (sa_cons (SE.v (se_mkX0 nn (by decide +kernel) ((ea.cl "BadNumber" (by decide +kernel)).toExcCl (by decide)) g_BadNumber (by decide))) (sa_cons (sv_c pe_int (fun _ => rfl)) (sa_nil) (by rfl)) (by rfl)) (by rfl) (by decide))) (sa_cons (SE.v (se_go o_f_law_alone hG (hr.mono (by omega)) g__law_alone (sa_cons (SE.v (se_mkX0 nn (by decide +kernel) ((ea.cl "BadForm" (by decide +kernel)).toExcCl (by decide)) g_BadForm (by decide))) (sa_cons (sv_c pe_int (fun _ => rfl)) (sa_nil) (by rfl)) (by rfl)) (by rfl) (by decide))) (sa_nil) (by rfl)) (by rfl)) (by rfl))))) op_addA ok_add) (psc c 0 (by decide +kernel) (by rfl))) ?_
  refine sb_cons (ss_asg (se_bin (sl_name (v0 _)) (SV.l (SE.v (se_lst (sa_cons (SE.v (se_go o_f_law_alone hG (hr.mono (by omega)) g__law_alone (sa_cons (SE.v (se_mkX0 nn (by decide +kernel) ((ea.cl "BadSign" (by decide +kernel)).toExcCl (by decide)) g_BadSign (by decide))) (sa_cons (sv_c pe_int (fun _ => rfl)) (sa_nil) (by rfl)) (by rfl)) (by rfl) (by decide))) (sa_cons (SE.v (se_go o_f_law_alone hG (hr.mono (by omega)) g__law_alone (sa_cons (SE.v (se_mkX0 nn (by decide +kernel) ((ea.cl "TooDeep" (by decide +kernel)).toExcCl (by decide)) g_TooDeep (by decide))) (sa_cons (sv_c pe_int (fun _ => rfl)) (sa_nil) (by rfl)) (by rfl)) (by rfl) (by decide))) (sa_cons (SE.v (se_go o_f_law_alone hG (hr.mono (by omega)) g__law_alone (sa_cons (SE.v (se_mkX0 nn (by decide +kernel) ((ea.cl "NotFine" (by decide +kernel)).toExcCl (by decide)) g_NotFine (by decide))) (sa_cons (sv_c pe_int (fun _ => rfl)) (sa_nil) (by rfl)) (by rfl)) (by rfl) (by decide))) (sa_nil) (by rfl)) (by rfl)) (by rfl))))) op_addA ok_add) (psc c 0 (by decide +kernel) (by rfl))) ?_
  refine sb_cons (ss_asg (se_bin (sl_name (v0 _)) (SV.l (SE.v (se_lst (sa_cons (SE.v (se_go o_f_law_alone hG (hr.mono (by omega)) g__law_alone (sa_cons (SE.v (se_mkX0 nn (by decide +kernel) ((ea.cl "BadName" (by decide +kernel)).toExcCl (by decide)) g_BadName (by decide))) (sa_cons (sv_c pe_int (fun _ => rfl)) (sa_nil) (by rfl)) (by rfl)) (by rfl) (by decide))) (sa_cons (SE.v (se_go o_f_law_alone hG (hr.mono (by omega)) g__law_alone (sa_cons (SE.v (se_mkX0 nn (by decide +kernel) ((ea.cl "UnknownName" (by decide +kernel)).toExcCl (by decide)) g_UnknownName (by decide))) (sa_cons (sv_c pe_int (fun _ => rfl)) (sa_nil) (by rfl)) (by rfl)) (by rfl) (by decide))) (sa_cons (SE.v (se_go o_f_law_alone hG (hr.mono (by omega)) g__law_alone (sa_cons (SE.v (se_mkX0 nn (by decide +kernel) ((ea.cl "Circle" (by decide +kernel)).toExcCl (by decide)) g_Circle (by decide))) (sa_cons (sv_c pe_int (fun _ => rfl)) (sa_nil) (by rfl)) (by rfl)) (by rfl) (by decide))) (sa_nil) (by rfl)) (by rfl)) (by rfl))))) op_addA ok_add) (psc c 0 (by decide +kernel) (by rfl))) ?_
  refine sb_cons (ss_asg (se_bin (sl_name (v0 _)) (SV.l (SE.v (se_lst (sa_cons (SE.v (se_go o_f_law_alone hG (hr.mono (by omega)) g__law_alone (sa_cons (SE.v (se_mkX0 nn (by decide +kernel) ((ea.cl "InUse" (by decide +kernel)).toExcCl (by decide)) g_InUse (by decide))) (sa_cons (sv_c pe_int (fun _ => rfl)) (sa_nil) (by rfl)) (by rfl)) (by rfl) (by decide))) (sa_cons (SE.v (se_go o_f_law_alone hG (hr.mono (by omega)) g__law_alone (sa_cons (SE.v (se_mkX0 nn (by decide +kernel) ((ea.cl "NothingToUndo" (by decide +kernel)).toExcCl (by decide)) g_NothingToUndo (by decide))) (sa_cons (sv_c pe_int (fun _ => rfl)) (sa_nil) (by rfl)) (by rfl)) (by rfl) (by decide))) (sa_cons (SE.v (se_go o_f_law_alone hG (hr.mono (by omega)) g__law_alone (sa_cons (SE.v (se_mkX0 nn (by decide +kernel) ((ea.cl "NothingToRedo" (by decide +kernel)).toExcCl (by decide)) g_NothingToRedo (by decide))) (sa_cons (sv_c pe_int (fun _ => rfl)) (sa_nil) (by rfl)) (by rfl)) (by rfl) (by decide))) (sa_nil) (by rfl)) (by rfl)) (by rfl))))) op_addA ok_add) (psc c 0 (by decide +kernel) (by rfl))) ?_
  refine sb_cons (ss_ret (se_b1 (cr_all c.calm) g_all m_all bt_all (sl_name (v0 _)) ok_all (by rfl) (by decide) (by decide))) ?_
  exact sb_nil
theorem ok_f_law_plain_errors (F : Fun K "_law_plain_errors" "_law_plain_errors" s_f_law_plain_errors f fd) (o_f_law_alone : OwnG P w K mg base 2 "_law_alone" 2 r_f_law_alone) (m_all : mg "all" = none) (nn : ErrNs K mg ECS) (ea : ErrAll K mg ECS) : FnG P w K mg base 3 f fd [] (spF K 0 r_f_law_plain_errors) := by
  refine fun_ok (k := 2) (sp := spF K 0 r_f_law_plain_errors) F sc_f_law_plain_errors (fun vs H Q E h => spF_len h) ?_
  intro cd B up t h a q x hG hr hs
  refine ⟨_, WSs.ps _ _, ?_⟩
  have hb := fun (_ : Old) => sb_f_law_plain_errors (X := (cxOf CX0 P w K mg base N_f_law_plain_errors "_law_plain_errors" (defScope s_f_law_plain_errors) f cd B up t h x).nox) ⟨rfl, rfl, sc_f_law_plain_errors.nd, rfl, fun _ _ => rfl, PassesOwn.never⟩ hG hr o_f_law_alone m_all nn ea
  exact @fn_body (cxOf CX0 P w K mg base N_f_law_plain_errors "_law_plain_errors" (defScope s_f_law_plain_errors) f cd B up t h x).nox h N_f_law_plain_errors 0 b_f_law_plain_errors (defBody s_f_law_plain_errors) a q x rfl hb (by decide) hs
theorem sb_law {X : Cx} (c : CtxF X N_law (defScope s_law) true) (hG : X.A.guards = some []) (hr : Room 3 X.A) (oe_BadEntry : OwnE X.prog X.w X.K X.mg X.base "BadEntry" ["place"]) (oe_BadText : OwnE X.prog X.w X.K X.mg X.base "BadText" ["line", "column"]) (o_f_law_alone : OwnG X.prog X.w X.K X.mg X.base 2 "_law_alone" 2 r_f_law_alone) (o_f_law_draws : OwnG X.prog X.w X.K X.mg X.base 1 "_law_draws" 2 r_f_law_draws) (o_f_law_plain_errors : OwnG X.prog X.w X.K X.mg X.base 3 "_law_plain_errors" 0 r_f_law_plain_errors) (m_int : X.mg "int" = none) (nn : ErrNs X.K X.mg ECS) (fl : ErrFl X.K X.mg ECS EFL) (ea : ErrAll X.K X.mg ECS) : SB X (defBody s_law) b_law := by
  have v0 : ∀ pos : Pos, PE X (.Name "script" pos) (tVar 0) := fun _ => pvc c 0 (by decide +kernel)
  have v1 : ∀ pos : Pos, PE X (.Name "draws" pos) (tVar 1) := fun _ => pvc c 1 (by decide +kernel)
  have v2 : ∀ pos : Pos, PE X (.Name "text" pos) (tVar 2) := fun _ => pvc c 2 (by decide +kernel)
  have v3 : ∀ pos : Pos, PE X (.Name "entry" pos) (tVar 3) := fun _ => pvc c 3 (by decide +kernel)
  have g_BadEntry : Gl X "BadEntry" := glc c (by decide +kernel)
  have g_BadText : Gl X "BadText" := glc c (by decide +kernel)
  have g__law_alone : Gl X "_law_alone" := glc c (by decide +kernel)
  have g__law_draws : Gl X "_law_draws" := glc c (by decide +kernel)
  have g__law_plain_errors : Gl X "_law_plain_errors" := glc c (by decide +kernel)
  have g_int : Gl X "int" := glc c (by decide +kernel)
  refine sb_cons (ss_asg (se_go o_f_law_draws hG (hr.mono (by omega)) g__law_draws (sa_cons (sv_name (v0 _)) (sa_cons (sv_c pe_int (fun _ => rfl)) (sa_nil) (by rfl)) (by rfl)) (by rfl) (by decide)) (psc c 1 (by decide +kernel) (by rfl))) ?_
  refine sb_cons (ss_asg (se_mkXF nn (by decide +kernel) oe_BadText (hr.mono (by omega)) g_BadText (sa_cons (SE.v (se_t1 call_int1 g_int m_int bt_int (SV.l (SE.v (se_ix (sl_name (v1 _)) (SV.l (sv_c pe_int (fun _ => rfl))) (fun _ _ => rfl)))) ok_int (by rfl) (by decide) (by decide))) (sa_cons (SE.v (se_bin (SV.l (SE.v (se_t1 call_int1 g_int m_int bt_int (SV.l (SE.v (se_ix (sl_name (v1 _)) (SV.l (sv_c pe_int (fun _ => rfl))) (fun _ _ => rfl)))) ok_int (by rfl) (by decide) (by decide)))) (SV.l (sv_c pe_int (fun _ => rfl))) op_addA ok_add)) (sa_nil) (by rfl)) (by rfl)) (by rfl) (by decide)) (psc c 2 (by decide +kernel) (by rfl))) ?_
  refine sb_cons (ss_asg (se_mkXF nn (by decide +kernel) oe_BadEntry (hr.mono (by omega)) g_BadEntry (sa_cons (SE.v (se_t1 call_int1 g_int m_int bt_int (SV.l (SE.v (se_ix (sl_name (v1 _)) (SV.l (sv_c pe_int (fun _ => rfl))) (fun _ _ => rfl)))) ok_int (by rfl) (by decide) (by decide))) (sa_nil) (by rfl)) (by rfl) (by decide)) (psc c 3 (by decide +kernel) (by rfl))) ?_
  refine sb_cons (ss_if (st_or (st_cmp (op_neA (Room.units hr)) (SV.l (SE.v (se_xg ea nn fl (by decide +kernel) (sl_name (v2 _)) (by rfl)))) (SV.l (SE.v (se_t1 call_int1 g_int m_int bt_int (SV.l (SE.v (se_ix (sl_name (v1 _)) (SV.l (sv_c pe_int (fun _ => rfl))) (fun _ _ => rfl)))) ok_int (by rfl) (by decide) (by decide)))) ok_ne (nomark _)) (st_or (st_cmp (op_neA (Room.units hr)) (SV.l (SE.v (se_xg ea nn fl (by decide +kernel) (sl_name (v2 _)) (by rfl)))) (SV.l (SE.v (se_bin (SV.l (SE.v (se_t1 call_int1 g_int m_int bt_int (SV.l (SE.v (se_ix (sl_name (v1 _)) (SV.l (sv_c pe_int (fun _ => rfl))) (fun _ _ => rfl)))) ok_int (by rfl) (by decide) (by decide)))) (SV.l (sv_c pe_int (fun _ => rfl))) op_addA ok_add))) ok_ne (nomark _)) (st_one (st_cmp (op_neA (Room.units hr)) (SV.l (SE.v (se_xg ea nn fl (by decide +kernel) (sl_name (v3 _)) (by rfl)))) (SV.l (SE.v (se_t1 call_int1 g_int m_int bt_int (SV.l (SE.v (se_ix (sl_name (v1 _)) (SV.l (sv_c pe_int (fun _ => rfl))) (fun _ _ => rfl)))) ok_int (by rfl) (by decide) (by decide)))) ok_ne (nomark _))))) (sb_cons (ss_ret (SV.e (sv_c pe_bl (fun _ => rfl)))) (sb_nil)) (sb_nil)) ?_
  refine sb_cons (ss_if (st_or (st_not (st_val (se_go o_f_law_alone hG (hr.mono (by omega)) g__law_alone (sa_cons (sv_name (v2 _)) (sa_cons (sv_c pe_int (fun _ => rfl)) (sa_nil) (by rfl)) (by rfl)) (by rfl) (by decide)) (by intro _; rfl))) (st_one (st_not (st_val (se_go o_f_law_alone hG (hr.mono (by omega)) g__law_alone (sa_cons (sv_name (v3 _)) (sa_cons (sv_c pe_int (fun _ => rfl)) (sa_nil) (by rfl)) (by rfl)) (by rfl) (by decide)) (by intro _; rfl))))) (sb_cons (ss_ret (SV.e (sv_c pe_bl (fun _ => rfl)))) (sb_nil)) (sb_nil)) ?_
  refine sb_cons (ss_ret (se_go0 o_f_law_plain_errors hG (hr.mono (by omega)) g__law_plain_errors (by decide))) ?_
  exact sb_nil
theorem ok_law (F : Fun K "law" "law" s_law f fd) (oe_BadEntry : OwnE P w K mg base "BadEntry" ["place"]) (oe_BadText : OwnE P w K mg base "BadText" ["line", "column"]) (o_f_law_alone : OwnG P w K mg base 2 "_law_alone" 2 r_f_law_alone) (o_f_law_draws : OwnG P w K mg base 1 "_law_draws" 2 r_f_law_draws) (o_f_law_plain_errors : OwnG P w K mg base 3 "_law_plain_errors" 0 r_f_law_plain_errors) (m_int : mg "int" = none) (nn : ErrNs K mg ECS) (fl : ErrFl K mg ECS EFL) (ea : ErrAll K mg ECS) : FnG P w K mg base 4 f fd ["script"] (spFo noOld K 1 r_law) := by
  refine fun_ok (k := 3) (sp := spFo noOld K 1 r_law) F sc_law (fun vs H Q E h => spF_len ⟨noOld, h⟩) ?_
  intro cd B up t h a q x hG hr hs
  refine ⟨_, WSs.ps _ _, ?_⟩
  have hb := sb_law (X := (cxOf CX0 P w K mg base N_law "law" (defScope s_law) f cd B up t h x).nox) ⟨rfl, rfl, sc_law.nd, rfl, fun _ _ => rfl, PassesOwn.never⟩ hG hr oe_BadEntry oe_BadText o_f_law_alone o_f_law_draws o_f_law_plain_errors m_int nn fl ea
  exact @fn_bodyO (cxOf CX0 P w K mg base N_law "law" (defScope s_law) f cd B up t h x).nox h noOld N_law 1 b_law (defBody s_law) a q x rfl hb (by decide) hs
theorem all_mk {l : PySem.W.OpenLaw} {w : World} {K : PySem.W.Frag} {h : Heap} {mg : Str → Option Value} {fa : Addr} (X : K.In h) (G : h.Ns mainGlobals mg) (hfa : mg "law" = some (.ref fa))
    {f0 f1 f2 f3 f4 : Addr} {od0 an0 od1 an1 od2 an2 od3 an3 od4 an4 : Option Addr} {sl0 sl1 sl2 sl3 sl4 : Array (Option Value)} {oc0 kV0 dc0 pm0 cd0 ct0 oc1 kV1 dc1 pm1 cd1 ct1 oc2 kV2 dc2 pm2 cd2 ct2 oc3 kV3 dc3 pm3 cd3 ct3 oc4 kV4 dc4 pm4 cd4 ct4 : Value}
    (a0 : PySem.W.nsIn K mainGlobals "_law_draws" = some (some (.ref f0)))
    (l0 : K.lookup f0 = some ⟨oc0, od0, .func (PySem.W.fnOf "_law_draws" "_law_draws" (defArgs s_f_law_draws) (defBody s_f_law_draws) (defScope s_f_law_draws) .none kV0 dc0 pm0 an0 cd0 ct0), sl0⟩) (q0 : PySem.W.codeIn K cd0 "_law_draws" = true) (k0 : PySem.W.keepIn K (.ref f0) = true)
    (a1 : PySem.W.nsIn K mainGlobals "_law_marks" = some (some (.ref f1)))
    (l1 : K.lookup f1 = some ⟨oc1, od1, .func (PySem.W.fnOf "_law_marks" "_law_marks" (defArgs s_f_law_marks) (defBody s_f_law_marks) (defScope s_f_law_marks) .none kV1 dc1 pm1 an1 cd1 ct1), sl1⟩) (q1 : PySem.W.codeIn K cd1 "_law_marks" = true) (k1 : PySem.W.keepIn K (.ref f1) = true)
    (a2 : PySem.W.nsIn K mainGlobals "_law_alone" = some (some (.ref f2)))
    (l2 : K.lookup f2 = some ⟨oc2, od2, .func (PySem.W.fnOf "_law_alone" "_law_alone" (defArgs s_f_law_alone) (defBody s_f_law_alone) (defScope s_f_law_alone) .none kV2 dc2 pm2 an2 cd2 ct2), sl2⟩) (q2 : PySem.W.codeIn K cd2 "_law_alone" = true) (k2 : PySem.W.keepIn K (.ref f2) = true)
    (a3 : PySem.W.nsIn K mainGlobals "_law_plain_errors" = some (some (.ref f3)))
    (l3 : K.lookup f3 = some ⟨oc3, od3, .func (PySem.W.fnOf "_law_plain_errors" "_law_plain_errors" (defArgs s_f_law_plain_errors) (defBody s_f_law_plain_errors) (defScope s_f_law_plain_errors) .none kV3 dc3 pm3 an3 cd3 ct3), sl3⟩) (q3 : PySem.W.codeIn K cd3 "_law_plain_errors" = true) (k3 : PySem.W.keepIn K (.ref f3) = true)
    (a4 : PySem.W.nsIn K mainGlobals "law" = some (some (.ref f4)))
    (l4 : K.lookup f4 = some ⟨oc4, od4, .func (PySem.W.fnOf "law" "law" (defArgs s_law) (defBody s_law) (defScope s_law) .none kV4 dc4 pm4 an4 cd4 ct4), sl4⟩) (q4 : PySem.W.codeIn K cd4 "law" = true) (k4 : PySem.W.keepIn K (.ref f4) = true)
    {X_BadEntry : Addr} (xz_BadEntry : PySem.W.nsIn K mainGlobals "BadEntry" = some (some (.ref X_BadEntry)))  (xk_BadEntry : PySem.W.keepIn K (.ref X_BadEntry) = true) (xs_BadEntry : PySem.W.subIn K (.ref X_BadEntry) (.type "BaseException") = some true) (xt_BadEntry : PySem.W.typeIn K (.ref X_BadEntry) = some (.type "type"))
    (xf_BadEntry_column : PySem.W.findIn K (.ref X_BadEntry) "column" = some none)
    (xf_BadEntry_line : PySem.W.findIn K (.ref X_BadEntry) "line" = some none)
    (xf_BadEntry_place : PySem.W.findIn K (.ref X_BadEntry) "place" = some none)
    (xa_BadEntry : PySem.W.findIn K (.ref X_BadEntry) "__getattribute__" = some (some (.builtin "BaseException.__getattribute__"))) (xb_BadEntry : PySem.W.findIn K (.ref X_BadEntry) "__getattr__" = some none) (xd_BadEntry : PySem.W.hasDictIn K X_BadEntry = true) (xc_BadEntry : PySem.W.findIn K (.ref X_BadEntry) "__class__" = some (some (.builtin "object.__class__"))) (xm_BadEntry : PySem.W.mroIn K X_BadEntry (.type "object") = some true) (xv_BadEntry : PySem.W.subIn K (.ref X_BadEntry) (.type "ValueError") = some true)
    {X_BadForm : Addr} (xz_BadForm : PySem.W.nsIn K mainGlobals "BadForm" = some (some (.ref X_BadForm))) (xe_BadForm : PySem.W.excIn K X_BadForm [.type "ValueError", .type "Exception", .type "BaseException", .type "object"] "ValueError.__new__" = true) (xk_BadForm : PySem.W.keepIn K (.ref X_BadForm) = true) (xs_BadForm : PySem.W.subIn K (.ref X_BadForm) (.type "BaseException") = some true) (xt_BadForm : PySem.W.typeIn K (.ref X_BadForm) = some (.type "type"))
    (xf_BadForm_column : PySem.W.findIn K (.ref X_BadForm) "column" = some none)
    (xf_BadForm_line : PySem.W.findIn K (.ref X_BadForm) "line" = some none)
    (xf_BadForm_place : PySem.W.findIn K (.ref X_BadForm) "place" = some none)
    (xa_BadForm : PySem.W.findIn K (.ref X_BadForm) "__getattribute__" = some (some (.builtin "BaseException.__getattribute__"))) (xb_BadForm : PySem.W.findIn K (.ref X_BadForm) "__getattr__" = some none) (xd_BadForm : PySem.W.hasDictIn K X_BadForm = true) (xc_BadForm : PySem.W.findIn K (.ref X_BadForm) "__class__" = some (some (.builtin "object.__class__"))) (xm_BadForm : PySem.W.mroIn K X_BadForm (.type "object") = some true) (xv_BadForm : PySem.W.subIn K (.ref X_BadForm) (.type "ValueError") = some true)
    {X_BadName : Addr} (xz_BadName : PySem.W.nsIn K mainGlobals "BadName" = some (some (.ref X_BadName))) (xe_BadName : PySem.W.excIn K X_BadName [.type "ValueError", .type "Exception", .type "BaseException", .type "object"] "ValueError.__new__" = true) (xk_BadName : PySem.W.keepIn K (.ref X_BadName) = true) (xs_BadName : PySem.W.subIn K (.ref X_BadName) (.type "BaseException") = some true) (xt_BadName : PySem.W.typeIn K (.ref X_BadName) = some (.type "type"))
    (xf_BadName_column : PySem.W.findIn K (.ref X_BadName) "column" = some none)
    (xf_BadName_line : PySem.W.findIn K (.ref X_BadName) "line" = some none)
    (xf_BadName_place : PySem.W.findIn K (.ref X_BadName) "place" = some none)
    (xa_BadName : PySem.W.findIn K (.ref X_BadName) "__getattribute__" = some (some (.builtin "BaseException.__getattribute__"))) (xb_BadName : PySem.W.findIn K (.ref X_BadName) "__getattr__" = some none) (xd_BadName : PySem.W.hasDictIn K X_BadName = true) (xc_BadName : PySem.W.findIn K (.ref X_BadName) "__class__" = some (some (.builtin "object.__class__"))) (xm_BadName : PySem.W.mroIn K X_BadName (.type "object") = some true) (xv_BadName : PySem.W.subIn K (.ref X_BadName) (.type "ValueError") = some true)
    {X_BadNumber : Addr} (xz_BadNumber : PySem.W.nsIn K mainGlobals "BadNumber" = some (some (.ref X_BadNumber))) (xe_BadNumber : PySem.W.excIn K X_BadNumber [.type "ValueError", .type "Exception", .type "BaseException", .type "object"] "ValueError.__new__" = true) (xk_BadNumber : PySem.W.keepIn K (.ref X_BadNumber) = true) (xs_BadNumber : PySem.W.subIn K (.ref X_BadNumber) (.type "BaseException") = some true) (xt_BadNumber : PySem.W.typeIn K (.ref X_BadNumber) = some (.type "type"))
    (xf_BadNumber_column : PySem.W.findIn K (.ref X_BadNumber) "column" = some none)
    (xf_BadNumber_line : PySem.W.findIn K (.ref X_BadNumber) "line" = some none)
    (xf_BadNumber_place : PySem.W.findIn K (.ref X_BadNumber) "place" = some none)
    (xa_BadNumber : PySem.W.findIn K (.ref X_BadNumber) "__getattribute__" = some (some (.builtin "BaseException.__getattribute__"))) (xb_BadNumber : PySem.W.findIn K (.ref X_BadNumber) "__getattr__" = some none) (xd_BadNumber : PySem.W.hasDictIn K X_BadNumber = true) (xc_BadNumber : PySem.W.findIn K (.ref X_BadNumber) "__class__" = some (some (.builtin "object.__class__"))) (xm_BadNumber : PySem.W.mroIn K X_BadNumber (.type "object") = some true) (xv_BadNumber : PySem.W.subIn K (.ref X_BadNumber) (.type "ValueError") = some true)
    {X_BadSign : Addr} (xz_BadSign : PySem.W.nsIn K mainGlobals "BadSign" = some (some (.ref X_BadSign))) (xe_BadSign : PySem.W.excIn K X_BadSign [.type "ValueError", .type "Exception", .type "BaseException", .type "object"] "ValueError.__new__" = true) (xk_BadSign : PySem.W.keepIn K (.ref X_BadSign) = true) (xs_BadSign : PySem.W.subIn K (.ref X_BadSign) (.type "BaseException") = some true) (xt_BadSign : PySem.W.typeIn K (.ref X_BadSign) = some (.type "type"))
    (xf_BadSign_column : PySem.W.findIn K (.ref X_BadSign) "column" = some none)
    (xf_BadSign_line : PySem.W.findIn K (.ref X_BadSign) "line" = some none)
    (xf_BadSign_place : PySem.W.findIn K (.ref X_BadSign) "place" = some none)
    (xa_BadSign : PySem.W.findIn K (.ref X_BadSign) "__getattribute__" = some (some (.builtin "BaseException.__getattribute__"))) (xb_BadSign : PySem.W.findIn K (.ref X_BadSign) "__getattr__" = some none) (xd_BadSign : PySem.W.hasDictIn K X_BadSign = true) (xc_BadSign : PySem.W.findIn K (.ref X_BadSign) "__class__" = some (some (.builtin "object.__class__"))) (xm_BadSign : PySem.W.mroIn K X_BadSign (.type "object") = some true) (xv_BadSign : PySem.W.subIn K (.ref X_BadSign) (.type "ValueError") = some true)
    {X_BadSize : Addr} (xz_BadSize : PySem.W.nsIn K mainGlobals "BadSize" = some (some (.ref X_BadSize))) (xe_BadSize : PySem.W.excIn K X_BadSize [.type "ValueError", .type "Exception", .type "BaseException", .type "object"] "ValueError.__new__" = true) (xk_BadSize : PySem.W.keepIn K (.ref X_BadSize) = true) (xs_BadSize : PySem.W.subIn K (.ref X_BadSize) (.type "BaseException") = some true) (xt_BadSize : PySem.W.typeIn K (.ref X_BadSize) = some (.type "type"))
    (xf_BadSize_column : PySem.W.findIn K (.ref X_BadSize) "column" = some none)
    (xf_BadSize_line : PySem.W.findIn K (.ref X_BadSize) "line" = some none)
    (xf_BadSize_place : PySem.W.findIn K (.ref X_BadSize) "place" = some none)
    (xa_BadSize : PySem.W.findIn K (.ref X_BadSize) "__getattribute__" = some (some (.builtin "BaseException.__getattribute__"))) (xb_BadSize : PySem.W.findIn K (.ref X_BadSize) "__getattr__" = some none) (xd_BadSize : PySem.W.hasDictIn K X_BadSize = true) (xc_BadSize : PySem.W.findIn K (.ref X_BadSize) "__class__" = some (some (.builtin "object.__class__"))) (xm_BadSize : PySem.W.mroIn K X_BadSize (.type "object") = some true) (xv_BadSize : PySem.W.subIn K (.ref X_BadSize) (.type "ValueError") = some true)
    {X_BadText : Addr} (xz_BadText : PySem.W.nsIn K mainGlobals "BadText" = some (some (.ref X_BadText)))  (xk_BadText : PySem.W.keepIn K (.ref X_BadText) = true) (xs_BadText : PySem.W.subIn K (.ref X_BadText) (.type "BaseException") = some true) (xt_BadText : PySem.W.typeIn K (.ref X_BadText) = some (.type "type"))
    (xf_BadText_column : PySem.W.findIn K (.ref X_BadText) "column" = some none)
    (xf_BadText_line : PySem.W.findIn K (.ref X_BadText) "line" = some none)
    (xf_BadText_place : PySem.W.findIn K (.ref X_BadText) "place" = some none)
    (xa_BadText : PySem.W.findIn K (.ref X_BadText) "__getattribute__" = some (some (.builtin "BaseException.__getattribute__"))) (xb_BadText : PySem.W.findIn K (.ref X_BadText) "__getattr__" = some none) (xd_BadText : PySem.W.hasDictIn K X_BadText = true) (xc_BadText : PySem.W.findIn K (.ref X_BadText) "__class__" = some (some (.builtin "object.__class__"))) (xm_BadText : PySem.W.mroIn K X_BadText (.type "object") = some true) (xv_BadText : PySem.W.subIn K (.ref X_BadText) (.type "ValueError") = some true)
    {X_Circle : Addr} (xz_Circle : PySem.W.nsIn K mainGlobals "Circle" = some (some (.ref X_Circle))) (xe_Circle : PySem.W.excIn K X_Circle [.type "ValueError", .type "Exception", .type "BaseException", .type "object"] "ValueError.__new__" = true) (xk_Circle : PySem.W.keepIn K (.ref X_Circle) = true) (xs_Circle : PySem.W.subIn K (.ref X_Circle) (.type "BaseException") = some true) (xt_Circle : PySem.W.typeIn K (.ref X_Circle) = some (.type "type"))
    (xf_Circle_column : PySem.W.findIn K (.ref X_Circle) "column" = some none)
    (xf_Circle_line : PySem.W.findIn K (.ref X_Circle) "line" = some none)
    (xf_Circle_place : PySem.W.findIn K (.ref X_Circle) "place" = some none)
    (xa_Circle : PySem.W.findIn K (.ref X_Circle) "__getattribute__" = some (some (.builtin "BaseException.__getattribute__"))) (xb_Circle : PySem.W.findIn K (.ref X_Circle) "__getattr__" = some none) (xd_Circle : PySem.W.hasDictIn K X_Circle = true) (xc_Circle : PySem.W.findIn K (.ref X_Circle) "__class__" = some (some (.builtin "object.__class__"))) (xm_Circle : PySem.W.mroIn K X_Circle (.type "object") = some true) (xv_Circle : PySem.W.subIn K (.ref X_Circle) (.type "ValueError") = some true)
    {X_InUse : Addr} (xz_InUse : PySem.W.nsIn K mainGlobals "InUse" = some (some (.ref X_InUse))) (xe_InUse : PySem.W.excIn K X_InUse [.type "ValueError", .type "Exception", .type "BaseException", .type "object"] "ValueError.__new__" = true) (xk_InUse : PySem.W.keepIn K (.ref X_InUse) = true) (xs_InUse : PySem.W.subIn K (.ref X_InUse) (.type "BaseException") = some true) (xt_InUse : PySem.W.typeIn K (.ref X_InUse) = some (.type "type"))
    (xf_InUse_column : PySem.W.findIn K (.ref X_InUse) "column" = some none)
    (xf_InUse_line : PySem.W.findIn K (.ref X_InUse) "line" = some none)
    (xf_InUse_place : PySem.W.findIn K (.ref X_InUse) "place" = some none)
    (xa_InUse : PySem.W.findIn K (.ref X_InUse) "__getattribute__" = some (some (.builtin "BaseException.__getattribute__"))) (xb_InUse : PySem.W.findIn K (.ref X_InUse) "__getattr__" = some none) (xd_InUse : PySem.W.hasDictIn K X_InUse = true) (xc_InUse : PySem.W.findIn K (.ref X_InUse) "__class__" = some (some (.builtin "object.__class__"))) (xm_InUse : PySem.W.mroIn K X_InUse (.type "object") = some true) (xv_InUse : PySem.W.subIn K (.ref X_InUse) (.type "ValueError") = some true)
    {X_NotFine : Addr} (xz_NotFine : PySem.W.nsIn K mainGlobals "NotFine" = some (some (.ref X_NotFine))) (xe_NotFine : PySem.W.excIn K X_NotFine [.type "ValueError", .type "Exception", .type "BaseException", .type "object"] "ValueError.__new__" = true) (xk_NotFine : PySem.W.keepIn K (.ref X_NotFine) = true) (xs_NotFine : PySem.W.subIn K (.ref X_NotFine) (.type "BaseException") = some true) (xt_NotFine : PySem.W.typeIn K (.ref X_NotFine) = some (.type "type"))
    (xf_NotFine_column : PySem.W.findIn K (.ref X_NotFine) "column" = some none)
    (xf_NotFine_line : PySem.W.findIn K (.ref X_NotFine) "line" = some none)
    (xf_NotFine_place : PySem.W.findIn K (.ref X_NotFine) "place" = some none)
    (xa_NotFine : PySem.W.findIn K (.ref X_NotFine) "__getattribute__" = some (some (.builtin "BaseException.__getattribute__"))) (xb_NotFine : PySem.W.findIn K (.ref X_NotFine) "__getattr__" = some none) (xd_NotFine : PySem.W.hasDictIn K X_NotFine = true) (xc_NotFine : PySem.W.findIn K (.ref X_NotFine) "__class__" = some (some (.builtin "object.__class__"))) (xm_NotFine : PySem.W.mroIn K X_NotFine (.type "object") = some true) (xv_NotFine : PySem.W.subIn K (.ref X_NotFine) (.type "ValueError") = some true)
    {X_NothingToRedo : Addr} (xz_NothingToRedo : PySem.W.nsIn K mainGlobals "NothingToRedo" = some (some (.ref X_NothingToRedo))) (xe_NothingToRedo : PySem.W.excIn K X_NothingToRedo [.type "ValueError", .type "Exception", .type "BaseException", .type "object"] "ValueError.__new__" = true) (xk_NothingToRedo : PySem.W.keepIn K (.ref X_NothingToRedo) = true) (xs_NothingToRedo : PySem.W.subIn K (.ref X_NothingToRedo) (.type "BaseException") = some true) (xt_NothingToRedo : PySem.W.typeIn K (.ref X_NothingToRedo) = some (.type "type"))
    (xf_NothingToRedo_column : PySem.W.findIn K (.ref X_NothingToRedo) "column" = some none)
    (xf_NothingToRedo_line : PySem.W.findIn K (.ref X_NothingToRedo) "line" = some none)
    (xf_NothingToRedo_place : PySem.W.findIn K (.ref X_NothingToRedo) "place" = some none)
    (xa_NothingToRedo : PySem.W.findIn K (.ref X_NothingToRedo) "__getattribute__" = some (some (.builtin "BaseException.__getattribute__"))) (xb_NothingToRedo : PySem.W.findIn K (.ref X_NothingToRedo) "__getattr__" = some none) (xd_NothingToRedo : PySem.W.hasDictIn K X_NothingToRedo = true) (xc_NothingToRedo : PySem.W.findIn K (.ref X_NothingToRedo) "__class__" = some (some (.builtin "object.__class__"))) (xm_NothingToRedo : PySem.W.mroIn K X_NothingToRedo (.type "object") = some true) (xv_NothingToRedo : PySem.W.subIn K (.ref X_NothingToRedo) (.type "ValueError") = some true)
    {X_NothingToUndo : Addr} (xz_NothingToUndo : PySem.W.nsIn K mainGlobals "NothingToUndo" = some (some (.ref X_NothingToUndo))) (xe_NothingToUndo : PySem.W.excIn K X_NothingToUndo [.type "ValueError", .type "Exception", .type "BaseException", .type "object"] "ValueError.__new__" = true) (xk_NothingToUndo : PySem.W.keepIn K (.ref X_NothingToUndo) = true) (xs_NothingToUndo : PySem.W.subIn K (.ref X_NothingToUndo) (.type "BaseException") = some true) (xt_NothingToUndo : PySem.W.typeIn K (.ref X_NothingToUndo) = some (.type "type"))
    (xf_NothingToUndo_column : PySem.W.findIn K (.ref X_NothingToUndo) "column" = some none)
    (xf_NothingToUndo_line : PySem.W.findIn K (.ref X_NothingToUndo) "line" = some none)
    (xf_NothingToUndo_place : PySem.W.findIn K (.ref X_NothingToUndo) "place" = some none)
    (xa_NothingToUndo : PySem.W.findIn K (.ref X_NothingToUndo) "__getattribute__" = some (some (.builtin "BaseException.__getattribute__"))) (xb_NothingToUndo : PySem.W.findIn K (.ref X_NothingToUndo) "__getattr__" = some none) (xd_NothingToUndo : PySem.W.hasDictIn K X_NothingToUndo = true) (xc_NothingToUndo : PySem.W.findIn K (.ref X_NothingToUndo) "__class__" = some (some (.builtin "object.__class__"))) (xm_NothingToUndo : PySem.W.mroIn K X_NothingToUndo (.type "object") = some true) (xv_NothingToUndo : PySem.W.subIn K (.ref X_NothingToUndo) (.type "ValueError") = some true)
    {X_TooDeep : Addr} (xz_TooDeep : PySem.W.nsIn K mainGlobals "TooDeep" = some (some (.ref X_TooDeep))) (xe_TooDeep : PySem.W.excIn K X_TooDeep [.type "ValueError", .type "Exception", .type "BaseException", .type "object"] "ValueError.__new__" = true) (xk_TooDeep : PySem.W.keepIn K (.ref X_TooDeep) = true) (xs_TooDeep : PySem.W.subIn K (.ref X_TooDeep) (.type "BaseException") = some true) (xt_TooDeep : PySem.W.typeIn K (.ref X_TooDeep) = some (.type "type"))
    (xf_TooDeep_column : PySem.W.findIn K (.ref X_TooDeep) "column" = some none)
    (xf_TooDeep_line : PySem.W.findIn K (.ref X_TooDeep) "line" = some none)
    (xf_TooDeep_place : PySem.W.findIn K (.ref X_TooDeep) "place" = some none)
    (xa_TooDeep : PySem.W.findIn K (.ref X_TooDeep) "__getattribute__" = some (some (.builtin "BaseException.__getattribute__"))) (xb_TooDeep : PySem.W.findIn K (.ref X_TooDeep) "__getattr__" = some none) (xd_TooDeep : PySem.W.hasDictIn K X_TooDeep = true) (xc_TooDeep : PySem.W.findIn K (.ref X_TooDeep) "__class__" = some (some (.builtin "object.__class__"))) (xm_TooDeep : PySem.W.mroIn K X_TooDeep (.type "object") = some true) (xv_TooDeep : PySem.W.subIn K (.ref X_TooDeep) (.type "ValueError") = some true)
    {X_UnknownName : Addr} (xz_UnknownName : PySem.W.nsIn K mainGlobals "UnknownName" = some (some (.ref X_UnknownName))) (xe_UnknownName : PySem.W.excIn K X_UnknownName [.type "ValueError", .type "Exception", .type "BaseException", .type "object"] "ValueError.__new__" = true) (xk_UnknownName : PySem.W.keepIn K (.ref X_UnknownName) = true) (xs_UnknownName : PySem.W.subIn K (.ref X_UnknownName) (.type "BaseException") = some true) (xt_UnknownName : PySem.W.typeIn K (.ref X_UnknownName) = some (.type "type"))
    (xf_UnknownName_column : PySem.W.findIn K (.ref X_UnknownName) "column" = some none)
    (xf_UnknownName_line : PySem.W.findIn K (.ref X_UnknownName) "line" = some none)
    (xf_UnknownName_place : PySem.W.findIn K (.ref X_UnknownName) "place" = some none)
    (xa_UnknownName : PySem.W.findIn K (.ref X_UnknownName) "__getattribute__" = some (some (.builtin "BaseException.__getattribute__"))) (xb_UnknownName : PySem.W.findIn K (.ref X_UnknownName) "__getattr__" = some none) (xd_UnknownName : PySem.W.hasDictIn K X_UnknownName = true) (xc_UnknownName : PySem.W.findIn K (.ref X_UnknownName) "__class__" = some (some (.builtin "object.__class__"))) (xm_UnknownName : PySem.W.mroIn K X_UnknownName (.type "object") = some true) (xv_UnknownName : PySem.W.subIn K (.ref X_UnknownName) (.type "ValueError") = some true)
    {X_WhereError : Addr} (xz_WhereError : PySem.W.nsIn K mainGlobals "WhereError" = some (some (.ref X_WhereError))) (xe_WhereError : PySem.W.excIn K X_WhereError [.type "ValueError", .type "Exception", .type "BaseException", .type "object"] "ValueError.__new__" = true) (xk_WhereError : PySem.W.keepIn K (.ref X_WhereError) = true) (xs_WhereError : PySem.W.subIn K (.ref X_WhereError) (.type "BaseException") = some true) (xt_WhereError : PySem.W.typeIn K (.ref X_WhereError) = some (.type "type"))
    (xf_WhereError_column : PySem.W.findIn K (.ref X_WhereError) "column" = some none)
    (xf_WhereError_line : PySem.W.findIn K (.ref X_WhereError) "line" = some none)
    (xf_WhereError_place : PySem.W.findIn K (.ref X_WhereError) "place" = some none)
    (xa_WhereError : PySem.W.findIn K (.ref X_WhereError) "__getattribute__" = some (some (.builtin "BaseException.__getattribute__"))) (xb_WhereError : PySem.W.findIn K (.ref X_WhereError) "__getattr__" = some none) (xd_WhereError : PySem.W.hasDictIn K X_WhereError = true) (xc_WhereError : PySem.W.findIn K (.ref X_WhereError) "__class__" = some (some (.builtin "object.__class__"))) (xm_WhereError : PySem.W.mroIn K X_WhereError (.type "object") = some true) (xv_WhereError : PySem.W.subIn K (.ref X_WhereError) (.type "ValueError") = some true)
    (xp_BadEntry__BadEntry : PySem.W.subIn K (.ref X_BadEntry) (.ref X_BadEntry) = some true)
    (xp_BadEntry__BadForm : PySem.W.subIn K (.ref X_BadEntry) (.ref X_BadForm) = some false)
    (xp_BadEntry__BadName : PySem.W.subIn K (.ref X_BadEntry) (.ref X_BadName) = some false)
    (xp_BadEntry__BadNumber : PySem.W.subIn K (.ref X_BadEntry) (.ref X_BadNumber) = some false)
    (xp_BadEntry__BadSign : PySem.W.subIn K (.ref X_BadEntry) (.ref X_BadSign) = some false)
    (xp_BadEntry__BadSize : PySem.W.subIn K (.ref X_BadEntry) (.ref X_BadSize) = some false)
    (xp_BadEntry__BadText : PySem.W.subIn K (.ref X_BadEntry) (.ref X_BadText) = some false)
    (xp_BadEntry__Circle : PySem.W.subIn K (.ref X_BadEntry) (.ref X_Circle) = some false)
    (xp_BadEntry__InUse : PySem.W.subIn K (.ref X_BadEntry) (.ref X_InUse) = some false)
    (xp_BadEntry__NotFine : PySem.W.subIn K (.ref X_BadEntry) (.ref X_NotFine) = some false)
    (xp_BadEntry__NothingToRedo : PySem.W.subIn K (.ref X_BadEntry) (.ref X_NothingToRedo) = some false)
    (xp_BadEntry__NothingToUndo : PySem.W.subIn K (.ref X_BadEntry) (.ref X_NothingToUndo) = some false)
    (xp_BadEntry__TooDeep : PySem.W.subIn K (.ref X_BadEntry) (.ref X_TooDeep) = some false)
    (xp_BadEntry__UnknownName : PySem.W.subIn K (.ref X_BadEntry) (.ref X_UnknownName) = some false)
    (xp_BadEntry__WhereError : PySem.W.subIn K (.ref X_BadEntry) (.ref X_WhereError) = some true)
    (xp_BadForm__BadEntry : PySem.W.subIn K (.ref X_BadForm) (.ref X_BadEntry) = some false)
    (xp_BadForm__BadForm : PySem.W.subIn K (.ref X_BadForm) (.ref X_BadForm) = some true)
    (xp_BadForm__BadName : PySem.W.subIn K (.ref X_BadForm) (.ref X_BadName) = some false)
    (xp_BadForm__BadNumber : PySem.W.subIn K (.ref X_BadForm) (.ref X_BadNumber) = some false)
    (xp_BadForm__BadSign : PySem.W.subIn K (.ref X_BadForm) (.ref X_BadSign) = some false)
    (xp_BadForm__BadSize : PySem.W.subIn K (.ref X_BadForm) (.ref X_BadSize) = some false)
    (xp_BadForm__BadText : PySem.W.subIn K (.ref X_BadForm) (.ref X_BadText) = some false)
    (xp_BadForm__Circle : PySem.W.subIn K (.ref X_BadForm) (.ref X_Circle) = some false)
    (xp_BadForm__InUse : PySem.W.subIn K (.ref X_BadForm) (.ref X_InUse) = some false)
    (xp_BadForm__NotFine : PySem.W.subIn K (.ref X_BadForm) (.ref X_NotFine) = some false)
    (xp_BadForm__NothingToRedo : PySem.W.subIn K (.ref X_BadForm) (.ref X_NothingToRedo) = some false)
    (xp_BadForm__NothingToUndo : PySem.W.subIn K (.ref X_BadForm) (.ref X_NothingToUndo) = some false)
    (xp_BadForm__TooDeep : PySem.W.subIn K (.ref X_BadForm) (.ref X_TooDeep) = some false)
    (xp_BadForm__UnknownName : PySem.W.subIn K (.ref X_BadForm) (.ref X_UnknownName) = some false)
    (xp_BadForm__WhereError : PySem.W.subIn K (.ref X_BadForm) (.ref X_WhereError) = some true)
    (xp_BadName__BadEntry : PySem.W.subIn K (.ref X_BadName) (.ref X_BadEntry) = some false)
    (xp_BadName__BadForm : PySem.W.subIn K (.ref X_BadName) (.ref X_BadForm) = some false)
    (xp_BadName__BadName : PySem.W.subIn K (.ref X_BadName) (.ref X_BadName) = some true)
    (xp_BadName__BadNumber : PySem.W.subIn K (.ref X_BadName) (.ref X_BadNumber) = some false)
    (xp_BadName__BadSign : PySem.W.subIn K (.ref X_BadName) (.ref X_BadSign) = some false)
    (xp_BadName__BadSize : PySem.W.subIn K (.ref X_BadName) (.ref X_BadSize) = some false)
    (xp_BadName__BadText : PySem.W.subIn K (.ref X_BadName) (.ref X_BadText) = some false)
    (xp_BadName__Circle : PySem.W.subIn K (.ref X_BadName) (.ref X_Circle) = some false)
    (xp_BadName__InUse : PySem.W.subIn K (.ref X_BadName) (.ref X_InUse) = some false)
    (xp_BadName__NotFine : PySem.W.subIn K (.ref X_BadName) (.ref X_NotFine) = some false)
    (xp_BadName__NothingToRedo : PySem.W.subIn K (.ref X_BadName) (.ref X_NothingToRedo) = some false)
    (xp_BadName__NothingToUndo : PySem.W.subIn K (.ref X_BadName) (.ref X_NothingToUndo) = some false)
    (xp_BadName__TooDeep : PySem.W.subIn K (.ref X_BadName) (.ref X_TooDeep) = some false)
    (xp_BadName__UnknownName : PySem.W.subIn K (.ref X_BadName) (.ref X_UnknownName) = some false)
    (xp_BadName__WhereError : PySem.W.subIn K (.ref X_BadName) (.ref X_WhereError) = some true)
    (xp_BadNumber__BadEntry : PySem.W.subIn K (.ref X_BadNumber) (.ref X_BadEntry) = some false)
    (xp_BadNumber__BadForm : PySem.W.subIn K (.ref X_BadNumber) (.ref X_BadForm) = some false)
    (xp_BadNumber__BadName : PySem.W.subIn K (.ref X_BadNumber) (.ref X_BadName) = some false)
    (xp_BadNumber__BadNumber : PySem.W.subIn K (.ref X_BadNumber) (.ref X_BadNumber) = some true)
    (xp_BadNumber__BadSign : PySem.W.subIn K (.ref X_BadNumber) (.ref X_BadSign) = some false)
    (xp_BadNumber__BadSize : PySem.W.subIn K (.ref X_BadNumber) (.ref X_BadSize) = some false)
    (xp_BadNumber__BadText : PySem.W.subIn K (.ref X_BadNumber) (.ref X_BadText) = some false)
    (xp_BadNumber__Circle : PySem.W.subIn K (.ref X_BadNumber) (.ref X_Circle) = some false)
    (xp_BadNumber__InUse : PySem.W.subIn K (.ref X_BadNumber) (.ref X_InUse) = some false)
    (xp_BadNumber__NotFine : PySem.W.subIn K (.ref X_BadNumber) (.ref X_NotFine) = some false)
    (xp_BadNumber__NothingToRedo : PySem.W.subIn K (.ref X_BadNumber) (.ref X_NothingToRedo) = some false)
    (xp_BadNumber__NothingToUndo : PySem.W.subIn K (.ref X_BadNumber) (.ref X_NothingToUndo) = some false)
    (xp_BadNumber__TooDeep : PySem.W.subIn K (.ref X_BadNumber) (.ref X_TooDeep) = some false)
    (xp_BadNumber__UnknownName : PySem.W.subIn K (.ref X_BadNumber) (.ref X_UnknownName) = some false)
    (xp_BadNumber__WhereError : PySem.W.subIn K (.ref X_BadNumber) (.ref X_WhereError) = some true)
    (xp_BadSign__BadEntry : PySem.W.subIn K (.ref X_BadSign) (.ref X_BadEntry) = some false)
    (xp_BadSign__BadForm : PySem.W.subIn K (.ref X_BadSign) (.ref X_BadForm) = some false)
    (xp_BadSign__BadName : PySem.W.subIn K (.ref X_BadSign) (.ref X_BadName) = some false)
    (xp_BadSign__BadNumber : PySem.W.subIn K (.ref X_BadSign) (.ref X_BadNumber) = some false)
    (xp_BadSign__BadSign : PySem.W.subIn K (.ref X_BadSign) (.ref X_BadSign) = some true)
    (xp_BadSign__BadSize : PySem.W.subIn K (.ref X_BadSign) (.ref X_BadSize) = some false)
    (xp_BadSign__BadText : PySem.W.subIn K (.ref X_BadSign) (.ref X_BadText) = some false)
    (xp_BadSign__Circle : PySem.W.subIn K (.ref X_BadSign) (.ref X_Circle) = some false)
    (xp_BadSign__InUse : PySem.W.subIn K (.ref X_BadSign) (.ref X_InUse) = some false)
    (xp_BadSign__NotFine : PySem.W.subIn K (.ref X_BadSign) (.ref X_NotFine) = some false)
    (xp_BadSign__NothingToRedo : PySem.W.subIn K (.ref X_BadSign) (.ref X_NothingToRedo) = some false)
    (xp_BadSign__NothingToUndo : PySem.W.subIn K (.ref X_BadSign) (.ref X_NothingToUndo) = some false)
    (xp_BadSign__TooDeep : PySem.W.subIn K (.ref X_BadSign) (.ref X_TooDeep) = some false)
    (xp_BadSign__UnknownName : PySem.W.subIn K (.ref X_BadSign) (.ref X_UnknownName) = some false)
    (xp_BadSign__WhereError : PySem.W.subIn K (.ref X_BadSign) (.ref X_WhereError) = some true)
    (xp_BadSize__BadEntry : PySem.W.subIn K (.ref X_BadSize) (.ref X_BadEntry) = some false)
    (xp_BadSize__BadForm : PySem.W.subIn K (.ref X_BadSize) (.ref X_BadForm) = some false)
    (xp_BadSize__BadName : PySem.W.subIn K (.ref X_BadSize) (.ref X_BadName) = some false)
    (xp_BadSize__BadNumber : PySem.W.subIn K (.ref X_BadSize) (.ref X_BadNumber) = some false)
    (xp_BadSize__BadSign : PySem.W.subIn K (.ref X_BadSize) (.ref X_BadSign) = some false)
    (xp_BadSize__BadSize : PySem.W.subIn K (.ref X_BadSize) (.ref X_BadSize) = some true)
    (xp_BadSize__BadText : PySem.W.subIn K (.ref X_BadSize) (.ref X_BadText) = some false)
    (xp_BadSize__Circle : PySem.W.subIn K (.ref X_BadSize) (.ref X_Circle) = some false)
    (xp_BadSize__InUse : PySem.W.subIn K (.ref X_BadSize) (.ref X_InUse) = some false)
    (xp_BadSize__NotFine : PySem.W.subIn K (.ref X_BadSize) (.ref X_NotFine) = some false)
    (xp_BadSize__NothingToRedo : PySem.W.subIn K (.ref X_BadSize) (.ref X_NothingToRedo) = some false)
    (xp_BadSize__NothingToUndo : PySem.W.subIn K (.ref X_BadSize) (.ref X_NothingToUndo) = some false)
    (xp_BadSize__TooDeep : PySem.W.subIn K (.ref X_BadSize) (.ref X_TooDeep) = some false)
    (xp_BadSize__UnknownName : PySem.W.subIn K (.ref X_BadSize) (.ref X_UnknownName) = some false)
    (xp_BadSize__WhereError : PySem.W.subIn K (.ref X_BadSize) (.ref X_WhereError) = some true)
    (xp_BadText__BadEntry : PySem.W.subIn K (.ref X_BadText) (.ref X_BadEntry) = some false)
    (xp_BadText__BadForm : PySem.W.subIn K (.ref X_BadText) (.ref X_BadForm) = some false)
    (xp_BadText__BadName : PySem.W.subIn K (.ref X_BadText) (.ref X_BadName) = some false)
    (xp_BadText__BadNumber : PySem.W.subIn K (.ref X_BadText) (.ref X_BadNumber) = some false)
    (xp_BadText__BadSign : PySem.W.subIn K (.ref X_BadText) (.ref X_BadSign) = some false)
    (xp_BadText__BadSize : PySem.W.subIn K (.ref X_BadText) (.ref X_BadSize) = some false)
    (xp_BadText__BadText : PySem.W.subIn K (.ref X_BadText) (.ref X_BadText) = some true)
    (xp_BadText__Circle : PySem.W.subIn K (.ref X_BadText) (.ref X_Circle) = some false)
    (xp_BadText__InUse : PySem.W.subIn K (.ref X_BadText) (.ref X_InUse) = some false)
    (xp_BadText__NotFine : PySem.W.subIn K (.ref X_BadText) (.ref X_NotFine) = some false)
    (xp_BadText__NothingToRedo : PySem.W.subIn K (.ref X_BadText) (.ref X_NothingToRedo) = some false)
    (xp_BadText__NothingToUndo : PySem.W.subIn K (.ref X_BadText) (.ref X_NothingToUndo) = some false)
    (xp_BadText__TooDeep : PySem.W.subIn K (.ref X_BadText) (.ref X_TooDeep) = some false)
    (xp_BadText__UnknownName : PySem.W.subIn K (.ref X_BadText) (.ref X_UnknownName) = some false)
    (xp_BadText__WhereError : PySem.W.subIn K (.ref X_BadText) (.ref X_WhereError) = some true)
    (xp_Circle__BadEntry : PySem.W.subIn K (.ref X_Circle) (.ref X_BadEntry) = some false)
    (xp_Circle__BadForm : PySem.W.subIn K (.ref X_Circle) (.ref X_BadForm) = some false)
    (xp_Circle__BadName : PySem.W.subIn K (.ref X_Circle) (.ref X_BadName) = some false)
    (xp_Circle__BadNumber : PySem.W.subIn K (.ref X_Circle) (.ref X_BadNumber) = some false)
    (xp_Circle__BadSign : PySem.W.subIn K (.ref X_Circle) (.ref X_BadSign) = some false)
    (xp_Circle__BadSize : PySem.W.subIn K (.ref X_Circle) (.ref X_BadSize) = some false)
    (xp_Circle__BadText : PySem.W.subIn K (.ref X_Circle) (.ref X_BadText) = some false)
    (xp_Circle__Circle : PySem.W.subIn K (.ref X_Circle) (.ref X_Circle) = some true)
    (xp_Circle__InUse : PySem.W.subIn K (.ref X_Circle) (.ref X_InUse) = some false)
    (xp_Circle__NotFine : PySem.W.subIn K (.ref X_Circle) (.ref X_NotFine) = some false)
    (xp_Circle__NothingToRedo : PySem.W.subIn K (.ref X_Circle) (.ref X_NothingToRedo) = some false)
    (xp_Circle__NothingToUndo : PySem.W.subIn K (.ref X_Circle) (.ref X_NothingToUndo) = some false)
    (xp_Circle__TooDeep : PySem.W.subIn K (.ref X_Circle) (.ref X_TooDeep) = some false)
    (xp_Circle__UnknownName : PySem.W.subIn K (.ref X_Circle) (.ref X_UnknownName) = some false)
    (xp_Circle__WhereError : PySem.W.subIn K (.ref X_Circle) (.ref X_WhereError) = some true)
    (xp_InUse__BadEntry : PySem.W.subIn K (.ref X_InUse) (.ref X_BadEntry) = some false)
    (xp_InUse__BadForm : PySem.W.subIn K (.ref X_InUse) (.ref X_BadForm) = some false)
    (xp_InUse__BadName : PySem.W.subIn K (.ref X_InUse) (.ref X_BadName) = some false)
    (xp_InUse__BadNumber : PySem.W.subIn K (.ref X_InUse) (.ref X_BadNumber) = some false)
    (xp_InUse__BadSign : PySem.W.subIn K (.ref X_InUse) (.ref X_BadSign) = some false)
    (xp_InUse__BadSize : PySem.W.subIn K (.ref X_InUse) (.ref X_BadSize) = some false)
    (xp_InUse__BadText : PySem.W.subIn K (.ref X_InUse) (.ref X_BadText) = some false)
    (xp_InUse__Circle : PySem.W.subIn K (.ref X_InUse) (.ref X_Circle) = some false)
    (xp_InUse__InUse : PySem.W.subIn K (.ref X_InUse) (.ref X_InUse) = some true)
    (xp_InUse__NotFine : PySem.W.subIn K (.ref X_InUse) (.ref X_NotFine) = some false)
    (xp_InUse__NothingToRedo : PySem.W.subIn K (.ref X_InUse) (.ref X_NothingToRedo) = some false)
    (xp_InUse__NothingToUndo : PySem.W.subIn K (.ref X_InUse) (.ref X_NothingToUndo) = some false)
    (xp_InUse__TooDeep : PySem.W.subIn K (.ref X_InUse) (.ref X_TooDeep) = some false)
    (xp_InUse__UnknownName : PySem.W.subIn K (.ref X_InUse) (.ref X_UnknownName) = some false)
    (xp_InUse__WhereError : PySem.W.subIn K (.ref X_InUse) (.ref X_WhereError) = some true)
    (xp_NotFine__BadEntry : PySem.W.subIn K (.ref X_NotFine) (.ref X_BadEntry) = some false)
    (xp_NotFine__BadForm : PySem.W.subIn K (.ref X_NotFine) (.ref X_BadForm) = some false)
    (xp_NotFine__BadName : PySem.W.subIn K (.ref X_NotFine) (.ref X_BadName) = some false)
    (xp_NotFine__BadNumber : PySem.W.subIn K (.ref X_NotFine) (.ref X_BadNumber) = some false)
    (xp_NotFine__BadSign : PySem.W.subIn K (.ref X_NotFine) (.ref X_BadSign) = some false)
    (xp_NotFine__BadSize : PySem.W.subIn K (.ref X_NotFine) (.ref X_BadSize) = some false)
    (xp_NotFine__BadText : PySem.W.subIn K (.ref X_NotFine) (.ref X_BadText) = some false)
    (xp_NotFine__Circle : PySem.W.subIn K (.ref X_NotFine) (.ref X_Circle) = some false)
    (xp_NotFine__InUse : PySem.W.subIn K (.ref X_NotFine) (.ref X_InUse) = some false)
    (xp_NotFine__NotFine : PySem.W.subIn K (.ref X_NotFine) (.ref X_NotFine) = some true)
    (xp_NotFine__NothingToRedo : PySem.W.subIn K (.ref X_NotFine) (.ref X_NothingToRedo) = some false)
    (xp_NotFine__NothingToUndo : PySem.W.subIn K (.ref X_NotFine) (.ref X_NothingToUndo) = some false)
    (xp_NotFine__TooDeep : PySem.W.subIn K (.ref X_NotFine) (.ref X_TooDeep) = some false)
    (xp_NotFine__UnknownName : PySem.W.subIn K (.ref X_NotFine) (.ref X_UnknownName) = some false)
    (xp_NotFine__WhereError : PySem.W.subIn K (.ref X_NotFine) (.ref X_WhereError) = some true)
    (xp_NothingToRedo__BadEntry : PySem.W.subIn K (.ref X_NothingToRedo) (.ref X_BadEntry) = some false)
    (xp_NothingToRedo__BadForm : PySem.W.subIn K (.ref X_NothingToRedo) (.ref X_BadForm) = some false)
    (xp_NothingToRedo__BadName : PySem.W.subIn K (.ref X_NothingToRedo) (.ref X_BadName) = some false)
    (xp_NothingToRedo__BadNumber : PySem.W.subIn K (.ref X_NothingToRedo) (.ref X_BadNumber) = some false)
    (xp_NothingToRedo__BadSign : PySem.W.subIn K (.ref X_NothingToRedo) (.ref X_BadSign) = some false)
    (xp_NothingToRedo__BadSize : PySem.W.subIn K (.ref X_NothingToRedo) (.ref X_BadSize) = some false)
    (xp_NothingToRedo__BadText : PySem.W.subIn K (.ref X_NothingToRedo) (.ref X_BadText) = some false)
    (xp_NothingToRedo__Circle : PySem.W.subIn K (.ref X_NothingToRedo) (.ref X_Circle) = some false)
    (xp_NothingToRedo__InUse : PySem.W.subIn K (.ref X_NothingToRedo) (.ref X_InUse) = some false)
    (xp_NothingToRedo__NotFine : PySem.W.subIn K (.ref X_NothingToRedo) (.ref X_NotFine) = some false)
    (xp_NothingToRedo__NothingToRedo : PySem.W.subIn K (.ref X_NothingToRedo) (.ref X_NothingToRedo) = some true)
    (xp_NothingToRedo__NothingToUndo : PySem.W.subIn K (.ref X_NothingToRedo) (.ref X_NothingToUndo) = some false)
    (xp_NothingToRedo__TooDeep : PySem.W.subIn K (.ref X_NothingToRedo) (.ref X_TooDeep) = some false)
    (xp_NothingToRedo__UnknownName : PySem.W.subIn K (.ref X_NothingToRedo) (.ref X_UnknownName) = some false)
    (xp_NothingToRedo__WhereError : PySem.W.subIn K (.ref X_NothingToRedo) (.ref X_WhereError) = some true)
    (xp_NothingToUndo__BadEntry : PySem.W.subIn K (.ref X_NothingToUndo) (.ref X_BadEntry) = some false)
    (xp_NothingToUndo__BadForm : PySem.W.subIn K (.ref X_NothingToUndo) (.ref X_BadForm) = some false)
    (xp_NothingToUndo__BadName : PySem.W.subIn K (.ref X_NothingToUndo) (.ref X_BadName) = some false)
    (xp_NothingToUndo__BadNumber : PySem.W.subIn K (.ref X_NothingToUndo) (.ref X_BadNumber) = some false)
    (xp_NothingToUndo__BadSign : PySem.W.subIn K (.ref X_NothingToUndo) (.ref X_BadSign) = some false)
    (xp_NothingToUndo__BadSize : PySem.W.subIn K (.ref X_NothingToUndo) (.ref X_BadSize) = some false)
    (xp_NothingToUndo__BadText : PySem.W.subIn K (.ref X_NothingToUndo) (.ref X_BadText) = some false)
    (xp_NothingToUndo__Circle : PySem.W.subIn K (.ref X_NothingToUndo) (.ref X_Circle) = some false)
    (xp_NothingToUndo__InUse : PySem.W.subIn K (.ref X_NothingToUndo) (.ref X_InUse) = some false)
    (xp_NothingToUndo__NotFine : PySem.W.subIn K (.ref X_NothingToUndo) (.ref X_NotFine) = some false)
    (xp_NothingToUndo__NothingToRedo : PySem.W.subIn K (.ref X_NothingToUndo) (.ref X_NothingToRedo) = some false)
    (xp_NothingToUndo__NothingToUndo : PySem.W.subIn K (.ref X_NothingToUndo) (.ref X_NothingToUndo) = some true)
    (xp_NothingToUndo__TooDeep : PySem.W.subIn K (.ref X_NothingToUndo) (.ref X_TooDeep) = some false)
    (xp_NothingToUndo__UnknownName : PySem.W.subIn K (.ref X_NothingToUndo) (.ref X_UnknownName) = some false)
    (xp_NothingToUndo__WhereError : PySem.W.subIn K (.ref X_NothingToUndo) (.ref X_WhereError) = some true)
    (xp_TooDeep__BadEntry : PySem.W.subIn K (.ref X_TooDeep) (.ref X_BadEntry) = some false)
    (xp_TooDeep__BadForm : PySem.W.subIn K (.ref X_TooDeep) (.ref X_BadForm) = some false)
    (xp_TooDeep__BadName : PySem.W.subIn K (.ref X_TooDeep) (.ref X_BadName) = some false)
    (xp_TooDeep__BadNumber : PySem.W.subIn K (.ref X_TooDeep) (.ref X_BadNumber) = some false)
    (xp_TooDeep__BadSign : PySem.W.subIn K (.ref X_TooDeep) (.ref X_BadSign) = some false)
    (xp_TooDeep__BadSize : PySem.W.subIn K (.ref X_TooDeep) (.ref X_BadSize) = some false)
    (xp_TooDeep__BadText : PySem.W.subIn K (.ref X_TooDeep) (.ref X_BadText) = some false)
    (xp_TooDeep__Circle : PySem.W.subIn K (.ref X_TooDeep) (.ref X_Circle) = some false)
    (xp_TooDeep__InUse : PySem.W.subIn K (.ref X_TooDeep) (.ref X_InUse) = some false)
    (xp_TooDeep__NotFine : PySem.W.subIn K (.ref X_TooDeep) (.ref X_NotFine) = some false)
    (xp_TooDeep__NothingToRedo : PySem.W.subIn K (.ref X_TooDeep) (.ref X_NothingToRedo) = some false)
    (xp_TooDeep__NothingToUndo : PySem.W.subIn K (.ref X_TooDeep) (.ref X_NothingToUndo) = some false)
    (xp_TooDeep__TooDeep : PySem.W.subIn K (.ref X_TooDeep) (.ref X_TooDeep) = some true)
    (xp_TooDeep__UnknownName : PySem.W.subIn K (.ref X_TooDeep) (.ref X_UnknownName) = some false)
    (xp_TooDeep__WhereError : PySem.W.subIn K (.ref X_TooDeep) (.ref X_WhereError) = some true)
    (xp_UnknownName__BadEntry : PySem.W.subIn K (.ref X_UnknownName) (.ref X_BadEntry) = some false)
    (xp_UnknownName__BadForm : PySem.W.subIn K (.ref X_UnknownName) (.ref X_BadForm) = some false)
    (xp_UnknownName__BadName : PySem.W.subIn K (.ref X_UnknownName) (.ref X_BadName) = some false)
    (xp_UnknownName__BadNumber : PySem.W.subIn K (.ref X_UnknownName) (.ref X_BadNumber) = some false)
    (xp_UnknownName__BadSign : PySem.W.subIn K (.ref X_UnknownName) (.ref X_BadSign) = some false)
    (xp_UnknownName__BadSize : PySem.W.subIn K (.ref X_UnknownName) (.ref X_BadSize) = some false)
    (xp_UnknownName__BadText : PySem.W.subIn K (.ref X_UnknownName) (.ref X_BadText) = some false)
    (xp_UnknownName__Circle : PySem.W.subIn K (.ref X_UnknownName) (.ref X_Circle) = some false)
    (xp_UnknownName__InUse : PySem.W.subIn K (.ref X_UnknownName) (.ref X_InUse) = some false)
    (xp_UnknownName__NotFine : PySem.W.subIn K (.ref X_UnknownName) (.ref X_NotFine) = some false)
    (xp_UnknownName__NothingToRedo : PySem.W.subIn K (.ref X_UnknownName) (.ref X_NothingToRedo) = some false)
    (xp_UnknownName__NothingToUndo : PySem.W.subIn K (.ref X_UnknownName) (.ref X_NothingToUndo) = some false)
    (xp_UnknownName__TooDeep : PySem.W.subIn K (.ref X_UnknownName) (.ref X_TooDeep) = some false)
    (xp_UnknownName__UnknownName : PySem.W.subIn K (.ref X_UnknownName) (.ref X_UnknownName) = some true)
    (xp_UnknownName__WhereError : PySem.W.subIn K (.ref X_UnknownName) (.ref X_WhereError) = some true)
    (xp_WhereError__BadEntry : PySem.W.subIn K (.ref X_WhereError) (.ref X_BadEntry) = some false)
    (xp_WhereError__BadForm : PySem.W.subIn K (.ref X_WhereError) (.ref X_BadForm) = some false)
    (xp_WhereError__BadName : PySem.W.subIn K (.ref X_WhereError) (.ref X_BadName) = some false)
    (xp_WhereError__BadNumber : PySem.W.subIn K (.ref X_WhereError) (.ref X_BadNumber) = some false)
    (xp_WhereError__BadSign : PySem.W.subIn K (.ref X_WhereError) (.ref X_BadSign) = some false)
    (xp_WhereError__BadSize : PySem.W.subIn K (.ref X_WhereError) (.ref X_BadSize) = some false)
    (xp_WhereError__BadText : PySem.W.subIn K (.ref X_WhereError) (.ref X_BadText) = some false)
    (xp_WhereError__Circle : PySem.W.subIn K (.ref X_WhereError) (.ref X_Circle) = some false)
    (xp_WhereError__InUse : PySem.W.subIn K (.ref X_WhereError) (.ref X_InUse) = some false)
    (xp_WhereError__NotFine : PySem.W.subIn K (.ref X_WhereError) (.ref X_NotFine) = some false)
    (xp_WhereError__NothingToRedo : PySem.W.subIn K (.ref X_WhereError) (.ref X_NothingToRedo) = some false)
    (xp_WhereError__NothingToUndo : PySem.W.subIn K (.ref X_WhereError) (.ref X_NothingToUndo) = some false)
    (xp_WhereError__TooDeep : PySem.W.subIn K (.ref X_WhereError) (.ref X_TooDeep) = some false)
    (xp_WhereError__UnknownName : PySem.W.subIn K (.ref X_WhereError) (.ref X_UnknownName) = some false)
    (xp_WhereError__WhereError : PySem.W.subIn K (.ref X_WhereError) (.ref X_WhereError) = some true)
    {nm_BadEntry qn_BadEntry : Str} {Nx_BadEntry : Addr} {bx_BadEntry bm_BadEntry sn_BadEntry sub_BadEntry ab_BadEntry : _} {col_BadEntry : _} {dx_BadEntry k0_BadEntry k1_BadEntry k2_BadEntry k3_BadEntry k5_BadEntry : _} (xo_BadEntry : K.lookup X_BadEntry = some (excClassObj nm_BadEntry qn_BadEntry X_BadEntry Nx_BadEntry bx_BadEntry bm_BadEntry true sn_BadEntry sub_BadEntry ab_BadEntry col_BadEntry dx_BadEntry k0_BadEntry k1_BadEntry k2_BadEntry k3_BadEntry k5_BadEntry "ValueError.__new__")) (xr_BadEntry : PySem.HandSPX.refsVE bm_BadEntry = true) (xsa_BadEntry : PySem.W.findIn K (.ref X_BadEntry) "__setattr__" = some (some (.builtin "object.__setattr__")))
    {fi_BadEntry : Addr} {oc_BadEntry kV_BadEntry dc_BadEntry pm_BadEntry cd_BadEntry ct_BadEntry : Value} {od_BadEntry an_BadEntry : Option Addr} {sl_BadEntry : Array (Option Value)} (xi_BadEntry : PySem.W.findIn K (.ref X_BadEntry) "__init__" = some (some (.ref fi_BadEntry))) (xj_BadEntry : PySem.W.typeIn K (.ref fi_BadEntry) = some (.type "function"))
    (li_BadEntry : K.lookup fi_BadEntry = some ⟨oc_BadEntry, od_BadEntry, .func (PySem.W.fnOf "__init__" "BadEntry.__init__" (defArgs s_m_BadEntry___init__) (defBody s_m_BadEntry___init__) (defScope s_m_BadEntry___init__) .none kV_BadEntry dc_BadEntry pm_BadEntry an_BadEntry cd_BadEntry ct_BadEntry), sl_BadEntry⟩) (qi_BadEntry : PySem.W.codeIn K cd_BadEntry "BadEntry.__init__" = true) (ki_BadEntry : PySem.W.keepIn K (.ref fi_BadEntry) = true)
    {nm_BadText qn_BadText : Str} {Nx_BadText : Addr} {bx_BadText bm_BadText sn_BadText sub_BadText ab_BadText : _} {col_BadText : _} {dx_BadText k0_BadText k1_BadText k2_BadText k3_BadText k5_BadText : _} (xo_BadText : K.lookup X_BadText = some (excClassObj nm_BadText qn_BadText X_BadText Nx_BadText bx_BadText bm_BadText true sn_BadText sub_BadText ab_BadText col_BadText dx_BadText k0_BadText k1_BadText k2_BadText k3_BadText k5_BadText "ValueError.__new__")) (xr_BadText : PySem.HandSPX.refsVE bm_BadText = true) (xsa_BadText : PySem.W.findIn K (.ref X_BadText) "__setattr__" = some (some (.builtin "object.__setattr__")))
    {fi_BadText : Addr} {oc_BadText kV_BadText dc_BadText pm_BadText cd_BadText ct_BadText : Value} {od_BadText an_BadText : Option Addr} {sl_BadText : Array (Option Value)} (xi_BadText : PySem.W.findIn K (.ref X_BadText) "__init__" = some (some (.ref fi_BadText))) (xj_BadText : PySem.W.typeIn K (.ref fi_BadText) = some (.type "function"))
    (li_BadText : K.lookup fi_BadText = some ⟨oc_BadText, od_BadText, .func (PySem.W.fnOf "__init__" "BadText.__init__" (defArgs s_m_BadText___init__) (defBody s_m_BadText___init__) (defScope s_m_BadText___init__) .none kV_BadText dc_BadText pm_BadText an_BadText cd_BadText ct_BadText), sl_BadText⟩) (qi_BadText : PySem.W.codeIn K cd_BadText "BadText.__init__" = true) (ki_BadText : PySem.W.keepIn K (.ref fi_BadText) = true)
    (xg1 : PySem.W.specialIn K (.builtin "object.__class__") "__get__" = some (some (.builtin "getset_descriptor.__get__"))) (xg2 : PySem.W.takesIn K (.builtin "object.__class__") = some true)
    (z_ValueError : PySem.W.nsIn K mainGlobals "ValueError" = some none)
    (z_all : PySem.W.nsIn K mainGlobals "all" = some none)
    (z_int : PySem.W.nsIn K mainGlobals "int" = some none)
    (z_isinstance : PySem.W.nsIn K mainGlobals "isinstance" = some none)
    (z_len : PySem.W.nsIn K mainGlobals "len" = some none)
    (z_range : PySem.W.nsIn K mainGlobals "range" = some none)
    : ∃ fd : FuncData, (∀ (s : Shared) (v : Value), BindsTo s fd ⟨[v], []⟩ [("script", v)]) ∧ ∀ base : Heap, K.In base → base.Ns mainGlobals mg → FnG l.prog w K mg base 4 fa fd ["script"] (spFo noOld K 1 r_law) := by
  have e := hfa.symm.trans (PySem.W.mg_of X G a4)
  cases e
  have m_ValueError := PySem.W.mg_none_of X G z_ValueError
  have m_all := PySem.W.mg_none_of X G z_all
  have m_int := PySem.W.mg_none_of X G z_int
  have m_isinstance := PySem.W.mg_none_of X G z_isinstance
  have m_len := PySem.W.mg_none_of X G z_len
  have m_range := PySem.W.mg_none_of X G z_range
  have xm0_BadEntry := PySem.W.mg_of X G xz_BadEntry
  have xm0_BadForm := PySem.W.mg_of X G xz_BadForm
  have xm0_BadName := PySem.W.mg_of X G xz_BadName
  have xm0_BadNumber := PySem.W.mg_of X G xz_BadNumber
  have xm0_BadSign := PySem.W.mg_of X G xz_BadSign
  have xm0_BadSize := PySem.W.mg_of X G xz_BadSize
  have xm0_BadText := PySem.W.mg_of X G xz_BadText
  have xm0_Circle := PySem.W.mg_of X G xz_Circle
  have xm0_InUse := PySem.W.mg_of X G xz_InUse
  have xm0_NotFine := PySem.W.mg_of X G xz_NotFine
  have xm0_NothingToRedo := PySem.W.mg_of X G xz_NothingToRedo
  have xm0_NothingToUndo := PySem.W.mg_of X G xz_NothingToUndo
  have xm0_TooDeep := PySem.W.mg_of X G xz_TooDeep
  have xm0_UnknownName := PySem.W.mg_of X G xz_UnknownName
  have xm0_WhereError := PySem.W.mg_of X G xz_WhereError
  have ea : ErrAll K mg ECS := by
    refine ⟨fun x hx => ?_, fun x hx t ht D C h1 h2 => ?_, ⟨xg1, xg2⟩⟩
    · simp only [ECS, List.mem_cons, List.not_mem_nil, or_false] at hx
      rcases hx with rfl | rfl | rfl | rfl | rfl | rfl | rfl | rfl | rfl | rfl | rfl | rfl | rfl | rfl | rfl
      · exact ⟨⟨X_BadEntry, xm0_BadEntry, fun h => absurd h (by decide), xk_BadEntry, xs_BadEntry, xt_BadEntry, xa_BadEntry, xb_BadEntry, xd_BadEntry, xc_BadEntry, xm_BadEntry, xv_BadEntry, xp_BadEntry__BadEntry⟩⟩
      · exact ⟨⟨X_BadForm, xm0_BadForm, fun _ => xe_BadForm, xk_BadForm, xs_BadForm, xt_BadForm, xa_BadForm, xb_BadForm, xd_BadForm, xc_BadForm, xm_BadForm, xv_BadForm, xp_BadForm__BadForm⟩⟩
      · exact ⟨⟨X_BadName, xm0_BadName, fun _ => xe_BadName, xk_BadName, xs_BadName, xt_BadName, xa_BadName, xb_BadName, xd_BadName, xc_BadName, xm_BadName, xv_BadName, xp_BadName__BadName⟩⟩
      · exact ⟨⟨X_BadNumber, xm0_BadNumber, fun _ => xe_BadNumber, xk_BadNumber, xs_BadNumber, xt_BadNumber, xa_BadNumber, xb_BadNumber, xd_BadNumber, xc_BadNumber, xm_BadNumber, xv_BadNumber, xp_BadNumber__BadNumber⟩⟩
      · exact ⟨⟨X_BadSign, xm0_BadSign, fun _ => xe_BadSign, xk_BadSign, xs_BadSign, xt_BadSign, xa_BadSign, xb_BadSign, xd_BadSign, xc_BadSign, xm_BadSign, xv_BadSign, xp_BadSign__BadSign⟩⟩
      · exact ⟨⟨X_BadSize, xm0_BadSize, fun _ => xe_BadSize, xk_BadSize, xs_BadSize, xt_BadSize, xa_BadSize, xb_BadSize, xd_BadSize, xc_BadSize, xm_BadSize, xv_BadSize, xp_BadSize__BadSize⟩⟩
      · exact ⟨⟨X_BadText, xm0_BadText, fun h => absurd h (by decide), xk_BadText, xs_BadText, xt_BadText, xa_BadText, xb_BadText, xd_BadText, xc_BadText, xm_BadText, xv_BadText, xp_BadText__BadText⟩⟩
      · exact ⟨⟨X_Circle, xm0_Circle, fun _ => xe_Circle, xk_Circle, xs_Circle, xt_Circle, xa_Circle, xb_Circle, xd_Circle, xc_Circle, xm_Circle, xv_Circle, xp_Circle__Circle⟩⟩
      · exact ⟨⟨X_InUse, xm0_InUse, fun _ => xe_InUse, xk_InUse, xs_InUse, xt_InUse, xa_InUse, xb_InUse, xd_InUse, xc_InUse, xm_InUse, xv_InUse, xp_InUse__InUse⟩⟩
      · exact ⟨⟨X_NotFine, xm0_NotFine, fun _ => xe_NotFine, xk_NotFine, xs_NotFine, xt_NotFine, xa_NotFine, xb_NotFine, xd_NotFine, xc_NotFine, xm_NotFine, xv_NotFine, xp_NotFine__NotFine⟩⟩
      · exact ⟨⟨X_NothingToRedo, xm0_NothingToRedo, fun _ => xe_NothingToRedo, xk_NothingToRedo, xs_NothingToRedo, xt_NothingToRedo, xa_NothingToRedo, xb_NothingToRedo, xd_NothingToRedo, xc_NothingToRedo, xm_NothingToRedo, xv_NothingToRedo, xp_NothingToRedo__NothingToRedo⟩⟩
      · exact ⟨⟨X_NothingToUndo, xm0_NothingToUndo, fun _ => xe_NothingToUndo, xk_NothingToUndo, xs_NothingToUndo, xt_NothingToUndo, xa_NothingToUndo, xb_NothingToUndo, xd_NothingToUndo, xc_NothingToUndo, xm_NothingToUndo, xv_NothingToUndo, xp_NothingToUndo__NothingToUndo⟩⟩
      · exact ⟨⟨X_TooDeep, xm0_TooDeep, fun _ => xe_TooDeep, xk_TooDeep, xs_TooDeep, xt_TooDeep, xa_TooDeep, xb_TooDeep, xd_TooDeep, xc_TooDeep, xm_TooDeep, xv_TooDeep, xp_TooDeep__TooDeep⟩⟩
      · exact ⟨⟨X_UnknownName, xm0_UnknownName, fun _ => xe_UnknownName, xk_UnknownName, xs_UnknownName, xt_UnknownName, xa_UnknownName, xb_UnknownName, xd_UnknownName, xc_UnknownName, xm_UnknownName, xv_UnknownName, xp_UnknownName__UnknownName⟩⟩
      · exact ⟨⟨X_WhereError, xm0_WhereError, fun _ => xe_WhereError, xk_WhereError, xs_WhereError, xt_WhereError, xa_WhereError, xb_WhereError, xd_WhereError, xc_WhereError, xm_WhereError, xv_WhereError, xp_WhereError__WhereError⟩⟩
    · simp only [ECS, List.mem_cons, List.not_mem_nil, or_false] at hx ht
      rcases hx with rfl | rfl | rfl | rfl | rfl | rfl | rfl | rfl | rfl | rfl | rfl | rfl | rfl | rfl | rfl
      · rw [xm0_BadEntry] at h1
        cases h1
        rcases ht with rfl | rfl | rfl | rfl | rfl | rfl | rfl | rfl | rfl | rfl | rfl | rfl | rfl | rfl | rfl
        · rw [xm0_BadEntry] at h2
          cases h2
          exact xp_BadEntry__BadEntry.trans (congrArg some (by decide +kernel))
        · rw [xm0_BadForm] at h2
          cases h2
          exact xp_BadEntry__BadForm.trans (congrArg some (by decide +kernel))
        · rw [xm0_BadName] at h2
          cases h2
          exact xp_BadEntry__BadName.trans (congrArg some (by decide +kernel))
        · rw [xm0_BadNumber] at h2
          cases h2
          exact xp_BadEntry__BadNumber.trans (congrArg some (by decide +kernel))
        · rw [xm0_BadSign] at h2
          cases h2
          exact xp_BadEntry__BadSign.trans (congrArg some (by decide +kernel))
        · rw [xm0_BadSize] at h2
          cases h2
          exact xp_BadEntry__BadSize.trans (congrArg some (by decide +kernel))
        · rw [xm0_BadText] at h2
          cases h2
          exact xp_BadEntry__BadText.trans (congrArg some (by decide +kernel))
        · rw [xm0_Circle] at h2
          cases h2
          exact xp_BadEntry__Circle.trans (congrArg some (by decide +kernel))
        · rw [xm0_InUse] at h2
          cases h2
          exact xp_BadEntry__InUse.trans (congrArg some (by decide +kernel))
        · rw [xm0_NotFine] at h2
          cases h2
          exact xp_BadEntry__NotFine.trans (congrArg some (by decide +kernel))
        · rw [xm0_NothingToRedo] at h2
          cases h2
          exact xp_BadEntry__NothingToRedo.trans (congrArg some (by decide +kernel))
        · rw [xm0_NothingToUndo] at h2
          cases h2
          exact xp_BadEntry__NothingToUndo.trans (congrArg some (by decide +kernel))
        · rw [xm0_TooDeep] at h2
          cases h2
          exact xp_BadEntry__TooDeep.trans (congrArg some (by decide +kernel))
        · rw [xm0_UnknownName] at h2
          cases h2
          exact xp_BadEntry__UnknownName.trans (congrArg some (by decide +kernel))
        · rw [xm0_WhereError] at h2
          cases h2
          exact xp_BadEntry__WhereError.trans (congrArg some (by decide +kernel))
      · rw [xm0_BadForm] at h1
        cases h1
        rcases ht with rfl | rfl | rfl | rfl | rfl | rfl | rfl | rfl | rfl | rfl | rfl | rfl | rfl | rfl | rfl
        · rw [xm0_BadEntry] at h2
          cases h2
          exact xp_BadForm__BadEntry.trans (congrArg some (by decide +kernel))
        · rw [xm0_BadForm] at h2
          cases h2
          exact xp_BadForm__BadForm.trans (congrArg some (by decide +kernel))
        · rw [xm0_BadName] at h2
          cases h2
          exact xp_BadForm__BadName.trans (congrArg some (by decide +kernel))
        · rw [xm0_BadNumber] at h2
          cases h2
          exact xp_BadForm__BadNumber.trans (congrArg some (by decide +kernel))
        · rw [xm0_BadSign] at h2
          cases h2
          exact xp_BadForm__BadSign.trans (congrArg some (by decide +kernel))
        · rw [xm0_BadSize] at h2
          cases h2
          exact xp_BadForm__BadSize.trans (congrArg some (by decide +kernel))
        · rw [xm0_BadText] at h2
          cases h2
          exact xp_BadForm__BadText.trans (congrArg some (by decide +kernel))
        · rw [xm0_Circle] at h2
          cases h2
          exact xp_BadForm__Circle.trans (congrArg some (by decide +kernel))
        · rw [xm0_InUse] at h2
          cases h2
          exact xp_BadForm__InUse.trans (congrArg some (by decide +kernel))
        · rw [xm0_NotFine] at h2
          cases h2
          exact xp_BadForm__NotFine.trans (congrArg some (by decide +kernel))
        · rw [xm0_NothingToRedo] at h2
          cases h2
          exact xp_BadForm__NothingToRedo.trans (congrArg some (by decide +kernel))
        · rw [xm0_NothingToUndo] at h2
          cases h2
          exact xp_BadForm__NothingToUndo.trans (congrArg some (by decide +kernel))
        · rw [xm0_TooDeep] at h2
          cases h2
          exact xp_BadForm__TooDeep.trans (congrArg some (by decide +kernel))
        · rw [xm0_UnknownName] at h2
          cases h2
          exact xp_BadForm__UnknownName.trans (congrArg some (by decide +kernel))
        · rw [xm0_WhereError] at h2
          cases h2
          exact xp_BadForm__WhereError.trans (congrArg some (by decide +kernel))
      · rw [xm0_BadName] at h1
        cases h1
        rcases ht with rfl | rfl | rfl | rfl | rfl | rfl | rfl | rfl | rfl | rfl | rfl | rfl | rfl | rfl | rfl
        · rw [xm0_BadEntry] at h2
          cases h2
          exact xp_BadName__BadEntry.trans (congrArg some (by decide +kernel))
        · rw [xm0_BadForm] at h2
          cases h2
          exact xp_BadName__BadForm.trans (congrArg some (by decide +kernel))
        · rw [xm0_BadName] at h2
          cases h2
          exact xp_BadName__BadName.trans (congrArg some (by decide +kernel))
        · rw [xm0_BadNumber] at h2
          cases h2
          exact xp_BadName__BadNumber.trans (congrArg some (by decide +kernel))
        · rw [xm0_BadSign] at h2
          cases h2
          exact xp_BadName__BadSign.trans (congrArg some (by decide +kernel))
        · rw [xm0_BadSize] at h2
          cases h2
          exact xp_BadName__BadSize.trans (congrArg some (by decide +kernel))
        · rw [xm0_BadText] at h2
          cases h2
          exact xp_BadName__BadText.trans (congrArg some (by decide +kernel))
        · rw [xm0_Circle] at h2
          cases h2
          exact xp_BadName__Circle.trans (congrArg some (by decide +kernel))
        · rw [xm0_InUse] at h2
          cases h2
          exact xp_BadName__InUse.trans (congrArg some (by decide +kernel))
        · rw [xm0_NotFine] at h2
          cases h2
          exact xp_BadName__NotFine.trans (congrArg some (by decide +kernel))
        · rw [xm0_NothingToRedo] at h2
          cases h2
          exact xp_BadName__NothingToRedo.trans (congrArg some (by decide +kernel))
        · rw [xm0_NothingToUndo] at h2
          cases h2
          exact xp_BadName__NothingToUndo.trans (congrArg some (by decide +kernel))
        · rw [xm0_TooDeep] at h2
          cases h2
          exact xp_BadName__TooDeep.trans (congrArg some (by decide +kernel))
        · rw [xm0_UnknownName] at h2
          cases h2
          exact xp_BadName__UnknownName.trans (congrArg some (by decide +kernel))
        · rw [xm0_WhereError] at h2
          cases h2
          exact xp_BadName__WhereError.trans (congrArg some (by decide +kernel))
      · rw [xm0_BadNumber] at h1
        cases h1
        rcases ht with rfl | rfl | rfl | rfl | rfl | rfl | rfl | rfl | rfl | rfl | rfl | rfl | rfl | rfl | rfl
        · rw [xm0_BadEntry] at h2
          cases h2
          exact xp_BadNumber__BadEntry.trans (congrArg some (by decide +kernel))
        · rw [xm0_BadForm] at h2
          cases h2
          exact xp_BadNumber__BadForm.trans (congrArg some (by decide +kernel))
        · rw [xm0_BadName] at h2
          cases h2
          exact xp_BadNumber__BadName.trans (congrArg some (by decide +kernel))
        · rw [xm0_BadNumber] at h2
          cases h2
          exact xp_BadNumber__BadNumber.trans (congrArg some (by decide +kernel))
        · rw [xm0_BadSign] at h2
          cases h2
          exact xp_BadNumber__BadSign.trans (congrArg some (by decide +kernel))
        · rw [xm0_BadSize] at h2
          cases h2
          exact xp_BadNumber__BadSize.trans (congrArg some (by decide +kernel))
        · rw [xm0_BadText] at h2
          cases h2
          exact xp_BadNumber__BadText.trans (congrArg some (by decide +kernel))
        · rw [xm0_Circle] at h2
          cases h2
          exact xp_BadNumber__Circle.trans (congrArg some (by decide +kernel))
        · rw [xm0_InUse] at h2
          cases h2
          exact xp_BadNumber__InUse.trans (congrArg some (by decide +kernel))
        · rw [xm0_NotFine] at h2
          cases h2
          exact xp_BadNumber__NotFine.trans (congrArg some (by decide +kernel))
        · rw [xm0_NothingToRedo] at h2
          cases h2
          exact xp_BadNumber__NothingToRedo.trans (congrArg some (by decide +kernel))
        · rw [xm0_NothingToUndo] at h2
          cases h2
          exact xp_BadNumber__NothingToUndo.trans (congrArg some (by decide +kernel))
        · rw [xm0_TooDeep] at h2
          cases h2
          exact xp_BadNumber__TooDeep.trans (congrArg some (by decide +kernel))
        · rw [xm0_UnknownName] at h2
          cases h2
          exact xp_BadNumber__UnknownName.trans (congrArg some (by decide +kernel))
        · rw [xm0_WhereError] at h2
          cases h2
          exact xp_BadNumber__WhereError.trans (congrArg some (by decide +kernel))
      · rw [xm0_BadSign] at h1
        cases h1
        rcases ht with rfl | rfl | rfl | rfl | rfl | rfl | rfl | rfl | rfl | rfl | rfl | rfl | rfl | rfl | rfl
        · rw [xm0_BadEntry] at h2
          cases h2
          exact xp_BadSign__BadEntry.trans (congrArg some (by decide +kernel))
        · rw [xm0_BadForm] at h2
          cases h2
          exact xp_BadSign__BadForm.trans (congrArg some (by decide +kernel))
        · rw [xm0_BadName] at h2
          cases h2
          exact xp_BadSign__BadName.trans (congrArg some (by decide +kernel))
        · rw [xm0_BadNumber] at h2
          cases h2
          exact xp_BadSign__BadNumber.trans (congrArg some (by decide +kernel))
        · rw [xm0_BadSign] at h2
          cases h2
          exact xp_BadSign__BadSign.trans (congrArg some (by decide +kernel))
        · rw [xm0_BadSize] at h2
          cases h2
          exact xp_BadSign__BadSize.trans (congrArg some (by decide +kernel))
        · rw [xm0_BadText] at h2
          cases h2
          exact xp_BadSign__BadText.trans (congrArg some (by decide +kernel))
        · rw [xm0_Circle] at h2
          cases h2
          exact xp_BadSign__Circle.trans (congrArg some (by decide +kernel))
        · rw [xm0_InUse] at h2
          cases h2
          exact xp_BadSign__InUse.trans (congrArg some (by decide +kernel))
        · rw [xm0_NotFine] at h2
          cases h2
          exact xp_BadSign__NotFine.trans (congrArg some (by decide +kernel))
        · rw [xm0_NothingToRedo] at h2
          cases h2
          exact xp_BadSign__NothingToRedo.trans (congrArg some (by decide +kernel))
        · rw [xm0_NothingToUndo] at h2
          cases h2
          exact xp_BadSign__NothingToUndo.trans (congrArg some (by decide +kernel))
        · rw [xm0_TooDeep] at h2
          cases h2
          exact xp_BadSign__TooDeep.trans (congrArg some (by decide +kernel))
        · rw [xm0_UnknownName] at h2
          cases h2
          exact xp_BadSign__UnknownName.trans (congrArg some (by decide +kernel))
        · rw [xm0_WhereError] at h2
          cases h2
          exact xp_BadSign__WhereError.trans (congrArg some (by decide +kernel))
      · rw [xm0_BadSize] at h1
        cases h1
        rcases ht with rfl | rfl | rfl | rfl | rfl | rfl | rfl | rfl | rfl | rfl | rfl | rfl | rfl | rfl | rfl
        · rw [xm0_BadEntry] at h2
          cases h2
          exact xp_BadSize__BadEntry.trans (congrArg some (by decide +kernel))
        · rw [xm0_BadForm] at h2
          cases h2
          exact xp_BadSize__BadForm.trans (congrArg some (by decide +kernel))
        · rw [xm0_BadName] at h2
          cases h2
          exact xp_BadSize__BadName.trans (congrArg some (by decide +kernel))
        · rw [xm0_BadNumber] at h2
          cases h2
          exact xp_BadSize__BadNumber.trans (congrArg some (by decide +kernel))
        · rw [xm0_BadSign] at h2
          cases h2
          exact xp_BadSize__BadSign.trans (congrArg some (by decide +kernel))
        · rw [xm0_BadSize] at h2
          cases h2
          exact xp_BadSize__BadSize.trans (congrArg some (by decide +kernel))
        · rw [xm0_BadText] at h2
          cases h2
          exact xp_BadSize__BadText.trans (congrArg some (by decide +kernel))
        · rw [xm0_Circle] at h2
          cases h2
          exact xp_BadSize__Circle.trans (congrArg some (by decide +kernel))
        · rw [xm0_InUse] at h2
          cases h2
          exact xp_BadSize__InUse.trans (congrArg some (by decide +kernel))
        · rw [xm0_NotFine] at h2
          cases h2
          exact xp_BadSize__NotFine.trans (congrArg some (by decide +kernel))
        · rw [xm0_NothingToRedo] at h2
          cases h2
          exact xp_BadSize__NothingToRedo.trans (congrArg some (by decide +kernel))
        · rw [xm0_NothingToUndo] at h2
          cases h2
          exact xp_BadSize__NothingToUndo.trans (congrArg some (by decide +kernel))
        · rw [xm0_TooDeep] at h2
          cases h2
          exact xp_BadSize__TooDeep.trans (congrArg some (by decide +kernel))
        · rw [xm0_UnknownName] at h2
          cases h2
          exact xp_BadSize__UnknownName.trans (congrArg some (by decide +kernel))
        · rw [xm0_WhereError] at h2
          cases h2
          exact xp_BadSize__WhereError.trans (congrArg some (by decide +kernel))
      · rw [xm0_BadText] at h1
        cases h1
        rcases ht with rfl | rfl | rfl | rfl | rfl | rfl | rfl | rfl | rfl | rfl | rfl | rfl | rfl | rfl | rfl
        · rw [xm0_BadEntry] at h2
          cases h2
          exact xp_BadText__BadEntry.trans (congrArg some (by decide +kernel))
        · rw [xm0_BadForm] at h2
          cases h2
          exact xp_BadText__BadForm.trans (congrArg some (by decide +kernel))
        · rw [xm0_BadName] at h2
          cases h2
          exact xp_BadText__BadName.trans (congrArg some (by decide +kernel))
        · rw [xm0_BadNumber] at h2
          cases h2
          exact xp_BadText__BadNumber.trans (congrArg some (by decide +kernel))
        · rw [xm0_BadSign] at h2
          cases h2
          exact xp_BadText__BadSign.trans (congrArg some (by decide +kernel))
        · rw [xm0_BadSize] at h2
          cases h2
          exact xp_BadText__BadSize.trans (congrArg some (by decide +kernel))
        · rw [xm0_BadText] at h2
          cases h2
          exact xp_BadText__BadText.trans (congrArg some (by decide +kernel))
        · rw [xm0_Circle] at h2
          cases h2
          exact xp_BadText__Circle.trans (congrArg some (by decide +kernel))
        · rw [xm0_InUse] at h2
          cases h2
          exact xp_BadText__InUse.trans (congrArg some (by decide +kernel))
        · rw [xm0_NotFine] at h2
          cases h2
          exact xp_BadText__NotFine.trans (congrArg some (by decide +kernel))
        · rw [xm0_NothingToRedo] at h2
          cases h2
          exact xp_BadText__NothingToRedo.trans (congrArg some (by decide +kernel))
        · rw [xm0_NothingToUndo] at h2
          cases h2
          exact xp_BadText__NothingToUndo.trans (congrArg some (by decide +kernel))
        · rw [xm0_TooDeep] at h2
          cases h2
          exact xp_BadText__TooDeep.trans (congrArg some (by decide +kernel))
        · rw [xm0_UnknownName] at h2
          cases h2
          exact xp_BadText__UnknownName.trans (congrArg some (by decide +kernel))
        · rw [xm0_WhereError] at h2
          cases h2
          exact xp_BadText__WhereError.trans (congrArg some (by decide +kernel))
      · rw [xm0_Circle] at h1
        cases h1
        rcases ht with rfl | rfl | rfl | rfl | rfl | rfl | rfl | rfl | rfl | rfl | rfl | rfl | rfl | rfl | rfl
        · rw [xm0_BadEntry] at h2
          cases h2
          exact xp_Circle__BadEntry.trans (congrArg some (by decide +kernel))
        · rw [xm0_BadForm] at h2
          cases h2
          exact xp_Circle__BadForm.trans (congrArg some (by decide +kernel))
        · rw [xm0_BadName] at h2
          cases h2
          exact xp_Circle__BadName.trans (congrArg some (by decide +kernel))
        · rw [xm0_BadNumber] at h2
          cases h2
          exact xp_Circle__BadNumber.trans (congrArg some (by decide +kernel))
        · rw [xm0_BadSign] at h2
          cases h2
          exact xp_Circle__BadSign.trans (congrArg some (by decide +kernel))
        · rw [xm0_BadSize] at h2
          cases h2
          exact xp_Circle__BadSize.trans (congrArg some (by decide +kernel))
        · rw [xm0_BadText] at h2
          cases h2
          exact xp_Circle__BadText.trans (congrArg some (by decide +kernel))
        · rw [xm0_Circle] at h2
          cases h2
          exact xp_Circle__Circle.trans (congrArg some (by decide +kernel))
        · rw [xm0_InUse] at h2
          cases h2
          exact xp_Circle__InUse.trans (congrArg some (by decide +kernel))
        · rw [xm0_NotFine] at h2
          cases h2
          exact xp_Circle__NotFine.trans (congrArg some (by decide +kernel))
        · rw [xm0_NothingToRedo] at h2
          cases h2
          exact xp_Circle__NothingToRedo.trans (congrArg some (by decide +kernel))
        · rw [xm0_NothingToUndo] at h2
          cases h2
          exact xp_Circle__NothingToUndo.trans (congrArg some (by decide +kernel))
        · rw [xm0_TooDeep] at h2
          cases h2
          exact xp_Circle__TooDeep.trans (congrArg some (by decide +kernel))
        · rw [xm0_UnknownName] at h2
          cases h2
          exact xp_Circle__UnknownName.trans (congrArg some (by decide +kernel))
        · rw [xm0_WhereError] at h2
          cases h2
          exact xp_Circle__WhereError.trans (congrArg some (by decide +kernel))
      · rw [xm0_InUse] at h1
        cases h1
        rcases ht with rfl | rfl | rfl | rfl | rfl | rfl | rfl | rfl | rfl | rfl | rfl | rfl | rfl | rfl | rfl
        · rw [xm0_BadEntry] at h2
          cases h2
          exact xp_InUse__BadEntry.trans (congrArg some (by decide +kernel))
        · rw [xm0_BadForm] at h2
          cases h2
          exact xp_InUse__BadForm.trans (congrArg some (by decide +kernel))
        · rw [xm0_BadName] at h2
          cases h2
          exact xp_InUse__BadName.trans (congrArg some (by decide +kernel))
        · rw [xm0_BadNumber] at h2
          cases h2
          exact xp_InUse__BadNumber.trans (congrArg some (by decide +kernel))
        · rw [xm0_BadSign] at h2
          cases h2
          exact xp_InUse__BadSign.trans (congrArg some (by decide +kernel))
        · rw [xm0_BadSize] at h2
          cases h2
          exact xp_InUse__BadSize.trans (congrArg some (by decide +kernel))
        · rw [xm0_BadText] at h2
          cases h2
          exact xp_InUse__BadText.trans (congrArg some (by decide +kernel))
        · rw [xm0_Circle] at h2
          cases h2
          exact xp_InUse__Circle.trans (congrArg some (by decide +kernel))
        · rw [xm0_InUse] at h2
          cases h2
          exact xp_InUse__InUse.trans (congrArg some (by decide +kernel))
        · rw [xm0_NotFine] at h2
          cases h2
          exact xp_InUse__NotFine.trans (congrArg some (by decide +kernel))
        · rw [xm0_NothingToRedo] at h2
          cases h2
          exact xp_InUse__NothingToRedo.trans (congrArg some (by decide +kernel))
        · rw [xm0_NothingToUndo] at h2
          cases h2
          exact xp_InUse__NothingToUndo.trans (congrArg some (by decide +kernel))
        · rw [xm0_TooDeep] at h2
          cases h2
          exact xp_InUse__TooDeep.trans (congrArg some (by decide +kernel))
        · rw [xm0_UnknownName] at h2
          cases h2
          exact xp_InUse__UnknownName.trans (congrArg some (by decide +kernel))
        · rw [xm0_WhereError] at h2
          cases h2
          exact xp_InUse__WhereError.trans (congrArg some (by decide +kernel))
      · rw [xm0_NotFine] at h1
        cases h1
        rcases ht with rfl | rfl | rfl | rfl | rfl | rfl | rfl | rfl | rfl | rfl | rfl | rfl | rfl | rfl | rfl
        · rw [xm0_BadEntry] at h2
          cases h2
          exact xp_NotFine__BadEntry.trans (congrArg some (by decide +kernel))
        · rw [xm0_BadForm] at h2
          cases h2
          exact xp_NotFine__BadForm.trans (congrArg some (by decide +kernel))
        · rw [xm0_BadName] at h2
          cases h2
          exact xp_NotFine__BadName.trans (congrArg some (by decide +kernel))
        · rw [xm0_BadNumber] at h2
          cases h2
          exact xp_NotFine__BadNumber.trans (congrArg some (by decide +kernel))
        · rw [xm0_BadSign] at h2
          cases h2
          exact xp_NotFine__BadSign.trans (congrArg some (by decide +kernel))
        · rw [xm0_BadSize] at h2
          cases h2
          exact xp_NotFine__BadSize.trans (congrArg some (by decide +kernel))
        · rw [xm0_BadText] at h2
          cases h2
          exact xp_NotFine__BadText.trans (congrArg some (by decide +kernel))
        · rw [xm0_Circle] at h2
          cases h2
          exact xp_NotFine__Circle.trans (congrArg some (by decide +kernel))
        · rw [xm0_InUse] at h2
          cases h2
          exact xp_NotFine__InUse.trans (congrArg some (by decide +kernel))
        · rw [xm0_NotFine] at h2
          cases h2
          exact xp_NotFine__NotFine.trans (congrArg some (by decide +kernel))
        · rw [xm0_NothingToRedo] at h2
          cases h2
          exact xp_NotFine__NothingToRedo.trans (congrArg some (by decide +kernel))
        · rw [xm0_NothingToUndo] at h2
          cases h2
          exact xp_NotFine__NothingToUndo.trans (congrArg some (by decide +kernel))
        · rw [xm0_TooDeep] at h2
          cases h2
          exact xp_NotFine__TooDeep.trans (congrArg some (by decide +kernel))
        · rw [xm0_UnknownName] at h2
          cases h2
          exact xp_NotFine__UnknownName.trans (congrArg some (by decide +kernel))
        · rw [xm0_WhereError] at h2
          cases h2
          exact xp_NotFine__WhereError.trans (congrArg some (by decide +kernel))
      · rw [xm0_NothingToRedo] at h1
        cases h1
        rcases ht with rfl | rfl | rfl | rfl | rfl | rfl | rfl | rfl | rfl | rfl | rfl | rfl | rfl | rfl | rfl
        · rw [xm0_BadEntry] at h2
          cases h2
          exact xp_NothingToRedo__BadEntry.trans (congrArg some (by decide +kernel))
        · rw [xm0_BadForm] at h2
          cases h2
          exact xp_NothingToRedo__BadForm.trans (congrArg some (by decide +kernel))
        · rw [xm0_BadName] at h2
          cases h2
          exact xp_NothingToRedo__BadName.trans (congrArg some (by decide +kernel))
        · rw [xm0_BadNumber] at h2
          cases h2
          exact xp_NothingToRedo__BadNumber.trans (congrArg some (by decide +kernel))
        · rw [xm0_BadSign] at h2
          cases h2
          exact xp_NothingToRedo__BadSign.trans (congrArg some (by decide +kernel))
        · rw [xm0_BadSize] at h2
          cases h2
          exact xp_NothingToRedo__BadSize.trans (congrArg some (by decide +kernel))
        · rw [xm0_BadText] at h2
          cases h2
          exact xp_NothingToRedo__BadText.trans (congrArg some (by decide +kernel))
        · rw [xm0_Circle] at h2
          cases h2
          exact xp_NothingToRedo__Circle.trans (congrArg some (by decide +kernel))
        · rw [xm0_InUse] at h2
          cases h2
          exact xp_NothingToRedo__InUse.trans (congrArg some (by decide +kernel))
        · rw [xm0_NotFine] at h2
          cases h2
          exact xp_NothingToRedo__NotFine.trans (congrArg some (by decide +kernel))
        · rw [xm0_NothingToRedo] at h2
          cases h2
          exact xp_NothingToRedo__NothingToRedo.trans (congrArg some (by decide +kernel))
        · rw [xm0_NothingToUndo] at h2
          cases h2
          exact xp_NothingToRedo__NothingToUndo.trans (congrArg some (by decide +kernel))
        · rw [xm0_TooDeep] at h2
          cases h2
          exact xp_NothingToRedo__TooDeep.trans (congrArg some (by decide +kernel))
        · rw [xm0_UnknownName] at h2
          cases h2
          exact xp_NothingToRedo__UnknownName.trans (congrArg some (by decide +kernel))
        · rw [xm0_WhereError] at h2
          cases h2
          exact xp_NothingToRedo__WhereError.trans (congrArg some (by decide +kernel))
      · rw [xm0_NothingToUndo] at h1
        cases h1
        rcases ht with rfl | rfl | rfl | rfl | rfl | rfl | rfl | rfl | rfl | rfl | rfl | rfl | rfl | rfl | rfl
        · rw [xm0_BadEntry] at h2
          cases h2
          exact xp_NothingToUndo__BadEntry.trans (congrArg some (by decide +kernel))
        · rw [xm0_BadForm] at h2
          cases h2
          exact xp_NothingToUndo__BadForm.trans (congrArg some (by decide +kernel))
        · rw [xm0_BadName] at h2
          cases h2
          exact xp_NothingToUndo__BadName.trans (congrArg some (by decide +kernel))
        · rw [xm0_BadNumber] at h2
          cases h2
          exact xp_NothingToUndo__BadNumber.trans (congrArg some (by decide +kernel))
        · rw [xm0_BadSign] at h2
          cases h2
          exact xp_NothingToUndo__BadSign.trans (congrArg some (by decide +kernel))
        · rw [xm0_BadSize] at h2
          cases h2
          exact xp_NothingToUndo__BadSize.trans (congrArg some (by decide +kernel))
        · rw [xm0_BadText] at h2
          cases h2
          exact xp_NothingToUndo__BadText.trans (congrArg some (by decide +kernel))
        · rw [xm0_Circle] at h2
          cases h2
          exact xp_NothingToUndo__Circle.trans (congrArg some (by decide +kernel))
        · rw [xm0_InUse] at h2
          cases h2
          exact xp_NothingToUndo__InUse.trans (congrArg some (by decide +kernel))
        · rw [xm0_NotFine] at h2
          cases h2
          exact xp_NothingToUndo__NotFine.trans (congrArg some (by decide +kernel))
        · rw [xm0_NothingToRedo] at h2
          cases h2
          exact xp_NothingToUndo__NothingToRedo.trans (congrArg some (by decide +kernel))
        · rw [xm0_NothingToUndo] at h2
          cases h2
          exact xp_NothingToUndo__NothingToUndo.trans (congrArg some (by decide +kernel))
        · rw [xm0_TooDeep] at h2
          cases h2
          exact xp_NothingToUndo__TooDeep.trans (congrArg some (by decide +kernel))
        · rw [xm0_UnknownName] at h2
          cases h2
          exact xp_NothingToUndo__UnknownName.trans (congrArg some (by decide +kernel))
        · rw [xm0_WhereError] at h2
          cases h2
          exact xp_NothingToUndo__WhereError.trans (congrArg some (by decide +kernel))
      · rw [xm0_TooDeep] at h1
        cases h1
        rcases ht with rfl | rfl | rfl | rfl | rfl | rfl | rfl | rfl | rfl | rfl | rfl | rfl | rfl | rfl | rfl
        · rw [xm0_BadEntry] at h2
          cases h2
          exact xp_TooDeep__BadEntry.trans (congrArg some (by decide +kernel))
        · rw [xm0_BadForm] at h2
          cases h2
          exact xp_TooDeep__BadForm.trans (congrArg some (by decide +kernel))
        · rw [xm0_BadName] at h2
          cases h2
          exact xp_TooDeep__BadName.trans (congrArg some (by decide +kernel))
        · rw [xm0_BadNumber] at h2
          cases h2
          exact xp_TooDeep__BadNumber.trans (congrArg some (by decide +kernel))
        · rw [xm0_BadSign] at h2
          cases h2
          exact xp_TooDeep__BadSign.trans (congrArg some (by decide +kernel))
        · rw [xm0_BadSize] at h2
          cases h2
          exact xp_TooDeep__BadSize.trans (congrArg some (by decide +kernel))
        · rw [xm0_BadText] at h2
          cases h2
          exact xp_TooDeep__BadText.trans (congrArg some (by decide +kernel))
        · rw [xm0_Circle] at h2
          cases h2
          exact xp_TooDeep__Circle.trans (congrArg some (by decide +kernel))
        · rw [xm0_InUse] at h2
          cases h2
          exact xp_TooDeep__InUse.trans (congrArg some (by decide +kernel))
        · rw [xm0_NotFine] at h2
          cases h2
          exact xp_TooDeep__NotFine.trans (congrArg some (by decide +kernel))
        · rw [xm0_NothingToRedo] at h2
          cases h2
          exact xp_TooDeep__NothingToRedo.trans (congrArg some (by decide +kernel))
        · rw [xm0_NothingToUndo] at h2
          cases h2
          exact xp_TooDeep__NothingToUndo.trans (congrArg some (by decide +kernel))
        · rw [xm0_TooDeep] at h2
          cases h2
          exact xp_TooDeep__TooDeep.trans (congrArg some (by decide +kernel))
        · rw [xm0_UnknownName] at h2
          cases h2
          exact xp_TooDeep__UnknownName.trans (congrArg some (by decide +kernel))
        · rw [xm0_WhereError] at h2
          cases h2
          exact xp_TooDeep__WhereError.trans (congrArg some (by decide +kernel))
      · rw [xm0_UnknownName] at h1
        cases h1
        rcases ht with rfl | rfl | rfl | rfl | rfl | rfl | rfl | rfl | rfl | rfl | rfl | rfl | rfl | rfl | rfl
        · rw [xm0_BadEntry] at h2
          cases h2
          exact xp_UnknownName__BadEntry.trans (congrArg some (by decide +kernel))
        · rw [xm0_BadForm] at h2
          cases h2
          exact xp_UnknownName__BadForm.trans (congrArg some (by decide +kernel))
        · rw [xm0_BadName] at h2
          cases h2
          exact xp_UnknownName__BadName.trans (congrArg some (by decide +kernel))
        · rw [xm0_BadNumber] at h2
          cases h2
          exact xp_UnknownName__BadNumber.trans (congrArg some (by decide +kernel))
        · rw [xm0_BadSign] at h2
          cases h2
          exact xp_UnknownName__BadSign.trans (congrArg some (by decide +kernel))
        · rw [xm0_BadSize] at h2
          cases h2
          exact xp_UnknownName__BadSize.trans (congrArg some (by decide +kernel))
        · rw [xm0_BadText] at h2
          cases h2
          exact xp_UnknownName__BadText.trans (congrArg some (by decide +kernel))
        · rw [xm0_Circle] at h2
          cases h2
          exact xp_UnknownName__Circle.trans (congrArg some (by decide +kernel))
        · rw [xm0_InUse] at h2
          cases h2
          exact xp_UnknownName__InUse.trans (congrArg some (by decide +kernel))
        · rw [xm0_NotFine] at h2
          cases h2
          exact xp_UnknownName__NotFine.trans (congrArg some (by decide +kernel))
        · rw [xm0_NothingToRedo] at h2
          cases h2
          exact xp_UnknownName__NothingToRedo.trans (congrArg some (by decide +kernel))
        · rw [xm0_NothingToUndo] at h2
          cases h2
          exact xp_UnknownName__NothingToUndo.trans (congrArg some (by decide +kernel))
        · rw [xm0_TooDeep] at h2
          cases h2
          exact xp_UnknownName__TooDeep.trans (congrArg some (by decide +kernel))
        · rw [xm0_UnknownName] at h2
          cases h2
          exact xp_UnknownName__UnknownName.trans (congrArg some (by decide +kernel))
        · rw [xm0_WhereError] at h2
          cases h2
          exact xp_UnknownName__WhereError.trans (congrArg some (by decide +kernel))
      · rw [xm0_WhereError] at h1
        cases h1
        rcases ht with rfl | rfl | rfl | rfl | rfl | rfl | rfl | rfl | rfl | rfl | rfl | rfl | rfl | rfl | rfl
        · rw [xm0_BadEntry] at h2
          cases h2
          exact xp_WhereError__BadEntry.trans (congrArg some (by decide +kernel))
        · rw [xm0_BadForm] at h2
          cases h2
          exact xp_WhereError__BadForm.trans (congrArg some (by decide +kernel))
        · rw [xm0_BadName] at h2
          cases h2
          exact xp_WhereError__BadName.trans (congrArg some (by decide +kernel))
        · rw [xm0_BadNumber] at h2
          cases h2
          exact xp_WhereError__BadNumber.trans (congrArg some (by decide +kernel))
        · rw [xm0_BadSign] at h2
          cases h2
          exact xp_WhereError__BadSign.trans (congrArg some (by decide +kernel))
        · rw [xm0_BadSize] at h2
          cases h2
          exact xp_WhereError__BadSize.trans (congrArg some (by decide +kernel))
        · rw [xm0_BadText] at h2
          cases h2
          exact xp_WhereError__BadText.trans (congrArg some (by decide +kernel))
        · rw [xm0_Circle] at h2
          cases h2
          exact xp_WhereError__Circle.trans (congrArg some (by decide +kernel))
        · rw [xm0_InUse] at h2
          cases h2
          exact xp_WhereError__InUse.trans (congrArg some (by decide +kernel))
        · rw [xm0_NotFine] at h2
          cases h2
          exact xp_WhereError__NotFine.trans (congrArg some (by decide +kernel))
        · rw [xm0_NothingToRedo] at h2
          cases h2
          exact xp_WhereError__NothingToRedo.trans (congrArg some (by decide +kernel))
        · rw [xm0_NothingToUndo] at h2
          cases h2
          exact xp_WhereError__NothingToUndo.trans (congrArg some (by decide +kernel))
        · rw [xm0_TooDeep] at h2
          cases h2
          exact xp_WhereError__TooDeep.trans (congrArg some (by decide +kernel))
        · rw [xm0_UnknownName] at h2
          cases h2
          exact xp_WhereError__UnknownName.trans (congrArg some (by decide +kernel))
        · rw [xm0_WhereError] at h2
          cases h2
          exact xp_WhereError__WhereError.trans (congrArg some (by decide +kernel))
  have nn : ErrNs K mg ECS := by
    refine ⟨fun x hx => ?_⟩
    simp only [ECS, List.mem_cons, List.not_mem_nil, or_false] at hx
    rcases hx with rfl | rfl | rfl | rfl | rfl | rfl | rfl | rfl | rfl | rfl | rfl | rfl | rfl | rfl | rfl
    · exact ⟨X_BadEntry, xm0_BadEntry, xz_BadEntry⟩
    · exact ⟨X_BadForm, xm0_BadForm, xz_BadForm⟩
    · exact ⟨X_BadName, xm0_BadName, xz_BadName⟩
    · exact ⟨X_BadNumber, xm0_BadNumber, xz_BadNumber⟩
    · exact ⟨X_BadSign, xm0_BadSign, xz_BadSign⟩
    · exact ⟨X_BadSize, xm0_BadSize, xz_BadSize⟩
    · exact ⟨X_BadText, xm0_BadText, xz_BadText⟩
    · exact ⟨X_Circle, xm0_Circle, xz_Circle⟩
    · exact ⟨X_InUse, xm0_InUse, xz_InUse⟩
    · exact ⟨X_NotFine, xm0_NotFine, xz_NotFine⟩
    · exact ⟨X_NothingToRedo, xm0_NothingToRedo, xz_NothingToRedo⟩
    · exact ⟨X_NothingToUndo, xm0_NothingToUndo, xz_NothingToUndo⟩
    · exact ⟨X_TooDeep, xm0_TooDeep, xz_TooDeep⟩
    · exact ⟨X_UnknownName, xm0_UnknownName, xz_UnknownName⟩
    · exact ⟨X_WhereError, xm0_WhereError, xz_WhereError⟩
  have fl : ErrFl K mg ECS EFL := by
    refine ⟨fun x hx f hf D h1 => ?_⟩
    simp only [ECS, EFL, List.mem_cons, List.not_mem_nil, or_false] at hx hf
    rcases hx with rfl | rfl | rfl | rfl | rfl | rfl | rfl | rfl | rfl | rfl | rfl | rfl | rfl | rfl | rfl
    · rw [xm0_BadEntry] at h1
      cases h1
      rcases hf with rfl | rfl | rfl
      · exact xf_BadEntry_column
      · exact xf_BadEntry_line
      · exact xf_BadEntry_place
    · rw [xm0_BadForm] at h1
      cases h1
      rcases hf with rfl | rfl | rfl
      · exact xf_BadForm_column
      · exact xf_BadForm_line
      · exact xf_BadForm_place
    · rw [xm0_BadName] at h1
      cases h1
      rcases hf with rfl | rfl | rfl
      · exact xf_BadName_column
      · exact xf_BadName_line
      · exact xf_BadName_place
    · rw [xm0_BadNumber] at h1
      cases h1
      rcases hf with rfl | rfl | rfl
      · exact xf_BadNumber_column
      · exact xf_BadNumber_line
      · exact xf_BadNumber_place
    · rw [xm0_BadSign] at h1
      cases h1
      rcases hf with rfl | rfl | rfl
      · exact xf_BadSign_column
      · exact xf_BadSign_line
      · exact xf_BadSign_place
    · rw [xm0_BadSize] at h1
      cases h1
      rcases hf with rfl | rfl | rfl
      · exact xf_BadSize_column
      · exact xf_BadSize_line
      · exact xf_BadSize_place
    · rw [xm0_BadText] at h1
      cases h1
      rcases hf with rfl | rfl | rfl
      · exact xf_BadText_column
      · exact xf_BadText_line
      · exact xf_BadText_place
    · rw [xm0_Circle] at h1
      cases h1
      rcases hf with rfl | rfl | rfl
      · exact xf_Circle_column
      · exact xf_Circle_line
      · exact xf_Circle_place
    · rw [xm0_InUse] at h1
      cases h1
      rcases hf with rfl | rfl | rfl
      · exact xf_InUse_column
      · exact xf_InUse_line
      · exact xf_InUse_place
    · rw [xm0_NotFine] at h1
      cases h1
      rcases hf with rfl | rfl | rfl
      · exact xf_NotFine_column
      · exact xf_NotFine_line
      · exact xf_NotFine_place
    · rw [xm0_NothingToRedo] at h1
      cases h1
      rcases hf with rfl | rfl | rfl
      · exact xf_NothingToRedo_column
      · exact xf_NothingToRedo_line
      · exact xf_NothingToRedo_place
    · rw [xm0_NothingToUndo] at h1
      cases h1
      rcases hf with rfl | rfl | rfl
      · exact xf_NothingToUndo_column
      · exact xf_NothingToUndo_line
      · exact xf_NothingToUndo_place
    · rw [xm0_TooDeep] at h1
      cases h1
      rcases hf with rfl | rfl | rfl
      · exact xf_TooDeep_column
      · exact xf_TooDeep_line
      · exact xf_TooDeep_place
    · rw [xm0_UnknownName] at h1
      cases h1
      rcases hf with rfl | rfl | rfl
      · exact xf_UnknownName_column
      · exact xf_UnknownName_line
      · exact xf_UnknownName_place
    · rw [xm0_WhereError] at h1
      cases h1
      rcases hf with rfl | rfl | rfl
      · exact xf_WhereError_column
      · exact xf_WhereError_line
      · exact xf_WhereError_place
  have FI_BadEntry := fun_mk (st := s_m_BadEntry___init__) li_BadEntry qi_BadEntry ki_BadEntry
  have bI_BadEntry := FI_BadEntry.binds (ps := ["self", "place"]) fun _ _ _ _ _ _ us hl => match us, hl with | [_, _], _ => rfl
  have FI_BadText := fun_mk (st := s_m_BadText___init__) li_BadText qi_BadText ki_BadText
  have bI_BadText := FI_BadText.binds (ps := ["self", "line", "column"]) fun _ _ _ _ _ _ us hl => match us, hl with | [_, _, _], _ => rfl
  have F0 := fun_mk (st := s_f_law_draws) l0 q0 k0
  have b0 := F0.binds (ps := ["script", "count"]) fun _ _ _ _ _ _ us hl => match us, hl with | [_, _], _ => rfl
  have F1 := fun_mk (st := s_f_law_marks) l1 q1 k1
  have b1 := F1.binds (ps := ["e"]) fun _ _ _ _ _ _ us hl => match us, hl with | [_], _ => rfl
  have F2 := fun_mk (st := s_f_law_alone) l2 q2 k2
  have b2 := F2.binds (ps := ["e", "at"]) fun _ _ _ _ _ _ us hl => match us, hl with | [_, _], _ => rfl
  have F3 := fun_mk (st := s_f_law_plain_errors) l3 q3 k3
  have b3 := F3.binds (ps := []) fun _ _ _ _ _ _ us hl => match us, hl with | [], _ => rfl
  have F4 := fun_mk (st := s_law) l4 q4 k4
  refine ⟨PySem.W.fnOf "law" "law" (defArgs s_law) (defBody s_law) (defScope s_law) .none kV4 dc4 pm4 an4 cd4 ct4, fun s v => .of_eq rfl, fun base _ _ => ?_⟩
  have oe_BadEntry : OwnE l.prog w K mg base "BadEntry" ["place"] := ⟨X_BadEntry, fi_BadEntry, _, ["self", "place"], xm0_BadEntry, ⟨⟨_, _, _, _, _, _, _, _, _, _, _, _, _, _, _, xo_BadEntry, xr_BadEntry⟩, xsa_BadEntry, xs_BadEntry, xt_BadEntry, xk_BadEntry⟩, xi_BadEntry, xj_BadEntry, by intro n hn; simp only [List.mem_cons, List.not_mem_nil, or_false] at hn; rcases hn with rfl; (first | exact xf_BadEntry_place), okE_BadEntry FI_BadEntry, bI_BadEntry⟩
  have oe_BadText : OwnE l.prog w K mg base "BadText" ["line", "column"] := ⟨X_BadText, fi_BadText, _, ["self", "line", "column"], xm0_BadText, ⟨⟨_, _, _, _, _, _, _, _, _, _, _, _, _, _, _, xo_BadText, xr_BadText⟩, xsa_BadText, xs_BadText, xt_BadText, xk_BadText⟩, xi_BadText, xj_BadText, by intro n hn; simp only [List.mem_cons, List.not_mem_nil, or_false] at hn; rcases hn with rfl | rfl; all_goals first | exact xf_BadText_line | exact xf_BadText_column, okE_BadText FI_BadText, bI_BadText⟩
  have o_f_law_draws : OwnG l.prog w K mg base 1 "_law_draws" 2 r_f_law_draws := ⟨f0, _, ["script", "count"], ok_f_law_draws F0 m_int m_len m_range, PySem.W.mg_of X G a0, k0, b0⟩
  have o_f_law_marks : OwnG l.prog w K mg base 1 "_law_marks" 1 r_f_law_marks := ⟨f1, _, ["e"], ok_f_law_marks F1 m_isinstance nn ea, PySem.W.mg_of X G a1, k1, b1⟩
  have o_f_law_alone : OwnG l.prog w K mg base 2 "_law_alone" 2 r_f_law_alone := ⟨f2, _, ["e", "at"], ok_f_law_alone F2 o_f_law_marks m_ValueError m_all m_isinstance m_len m_range nn ea, PySem.W.mg_of X G a2, k2, b2⟩
  have o_f_law_plain_errors : OwnG l.prog w K mg base 3 "_law_plain_errors" 0 r_f_law_plain_errors := ⟨f3, _, [], ok_f_law_plain_errors F3 o_f_law_alone m_all nn ea, PySem.W.mg_of X G a3, k3, b3⟩
  exact ok_law F4 oe_BadEntry oe_BadText o_f_law_alone o_f_law_draws o_f_law_plain_errors m_int nn fl ea
end
end Le

set_option Elab.async false
set_option linter.all false
set_option maxRecDepth 100000
set_option maxHeartbeats 4000000
namespace Le
open PySem L2 Ip Lw
theorem shaped_i (a : Int) : SeqAt.shaped (.int a) = true := rfl
theorem nei (a b : Int) : neD (.int a) (.int b) = some (.val (.bool (!decide (a = b)))) := by
  unfold neD
  simp only
  rw [if_pos ⟨shaped_i a, shaped_i b⟩]
  unfold bV
  simp [PyData.eqv]
  rfl
def BT (l c : Int) : PyData := excD "BadText" [("column", c), ("line", l)]
def BE (p : Int) : PyData := excD "BadEntry" [("place", p)]
theorem x1 (l c : Int) : xgD ECS "line" (BT l c) = some (.val (.int l)) := by
  unfold BT excD xgD
  simp only [List.map_cons, List.map_nil]
  rw [if_pos (by decide)]
  have h1 : (("column" : Str) = "line") = False := by decide
  simp [lookX, h1]
theorem x2 (l c : Int) : xgD ECS "column" (BT l c) = some (.val (.int c)) := by
  unfold BT excD xgD
  simp only [List.map_cons, List.map_nil]
  rw [if_pos (by decide)]
  simp [lookX]
theorem x3 (l : Int) : xgD ECS "place" (BE l) = some (.val (.int l)) := by
  unfold BE excD xgD
  simp only [List.map_cons, List.map_nil]
  rw [if_pos (by decide)]
  simp [lookX]
theorem a1 (r : List (PyData × PyData)) : ∃ o, r_f_law_alone [.val (.dict ((.bool false, .str "BadText") :: r)), .val (.int 12)] = some (.val (.bool true), o) := ⟨[.val (.dict ((.bool false, .str "BadText") :: r)), .val (.int 12)], by kernel_rfl⟩
theorem a2 (r : List (PyData × PyData)) : ∃ o, r_f_law_alone [.val (.dict ((.bool false, .str "BadEntry") :: r)), .val (.int 13)] = some (.val (.bool true), o) := ⟨[.val (.dict ((.bool false, .str "BadEntry") :: r)), .val (.int 13)], by kernel_rfl⟩
theorem a3 : r_f_law_plain_errors [] = some (.val (.bool true), []) := by kernel_rfl
section
variable {sc : PyData} {ds : List Int} {g0 g1 g2 : Int}
theorem s1 (h0 : ixD (.list (iL ds)) (.int 0) = some (.val (.int g0))) (h1 : ixD (.list (iL ds)) (.int 1) = some (.val (.int g1))) : (asgB 2 (mkXF "BadText" ["line", "column"] (consA (datF (op1 (datL (datF (op2 (nameL 1) (datL (constD (.int 0))) ixD))) intD)) (consA (datF (op2 (datL (datF (op1 (datL (datF (op2 (nameL 1) (datL (constD (.int 1))) ixD))) intD))) (datL (constD (.int 1))) addD)) ((fun env => some ([], env))))))) [.val sc, .own (iL ds), .un, .un] = some (.nx [.val sc, .own (iL ds), .val (BT g0 (g1 + 1)), .un]) := by
  generalize iL ds = I at *
  simp [seqB, ifB, asgB, retB, exprB, op1, op2, look, nameL, nameV, datL, datF, valF, constD, boolT, consA, tupF, lstF, setS_zv, setS_zo, setS_zu, setS_succ, Slot.dat, Slot.mut, Slot.put, nilB, callF, notT, andT, orT, andE, orE, ifE, boolS, tgtB, tupG, consG, nilG, nameG, retNm, appB, augB, callX, ioA, consX, argI, argV, argN, argsS, argS, ioIx, putB, popF, setB, h0, h1, intD, addD, mkXF, intsX, BT]
theorem s2 {s : Slot} (h0 : ixD (.list (iL ds)) (.int 2) = some (.val (.int g2))) : (asgB 3 (mkXF "BadEntry" ["place"] (consA (datF (op1 (datL (datF (op2 (nameL 1) (datL (constD (.int 2))) ixD))) intD)) ((fun env => some ([], env)))))) [.val sc, .own (iL ds), s, .un] = some (.nx [.val sc, .own (iL ds), s, .val (BE g2)]) := by
  generalize iL ds = I at *
  simp [seqB, ifB, asgB, retB, exprB, op1, op2, look, nameL, nameV, datL, datF, valF, constD, boolT, consA, tupF, lstF, setS_zv, setS_zo, setS_zu, setS_succ, Slot.dat, Slot.mut, Slot.put, nilB, callF, notT, andT, orT, andE, orE, ifE, boolS, tgtB, tupG, consG, nilG, nameG, retNm, appB, augB, callX, ioA, consX, argI, argV, argN, argsS, argS, ioIx, putB, popF, setB, h0, intD, addD, mkXF, intsX, BE]
theorem s3 (h0 : ixD (.list (iL ds)) (.int 0) = some (.val (.int g0))) (h1 : ixD (.list (iL ds)) (.int 1) = some (.val (.int g1))) (h2 : ixD (.list (iL ds)) (.int 2) = some (.val (.int g2))) :
    (ifB (orT (boolT (op2 (datL (datF (op1 (nameL 2) (xgD ECS "line")))) (datL (datF (op1 (datL (datF (op2 (nameL 1) (datL (constD (.int 0))) ixD))) intD))) neD)) (orT (boolT (op2 (datL (datF (op1 (nameL 2) (xgD ECS "column")))) (datL (datF (op2 (datL (datF (op1 (datL (datF (op2 (nameL 1) (datL (constD (.int 1))) ixD))) intD))) (datL (constD (.int 1))) addD))) neD)) (boolT (op2 (datL (datF (op1 (nameL 3) (xgD ECS "place")))) (datL (datF (op1 (datL (datF (op2 (nameL 1) (datL (constD (.int 2))) ixD))) intD))) neD)))) (seqB (retB (valF (constD (.bool false)))) (nilB)) (nilB)) [.val sc, .own (iL ds), .val (BT g0 (g1 + 1)), .val (BE g2)] = some (.nx [.val sc, .own (iL ds), .val (BT g0 (g1 + 1)), .val (BE g2)]) := by
  have y1 := x1 g0 (g1 + 1)
  have y2 := x2 g0 (g1 + 1)
  have y3 := x3 g2
  have n1 := nei g0 g0
  have n2 := nei (g1 + 1) (g1 + 1)
  have n3 := nei g2 g2
  rw [decide_eq_true rfl] at n1 n2 n3
  generalize iL ds = I at *
  generalize BT g0 (g1 + 1) = A at *
  generalize BE g2 = B at *
  simp [seqB, ifB, asgB, retB, exprB, op1, op2, look, nameL, nameV, datL, datF, valF, constD, boolT, consA, tupF, lstF, setS_zv, setS_zo, setS_zu, setS_succ, Slot.dat, Slot.mut, Slot.put, nilB, callF, notT, andT, orT, andE, orE, ifE, boolS, tgtB, tupG, consG, nilG, nameG, retNm, appB, augB, callX, ioA, consX, argI, argV, argN, argsS, argS, ioIx, putB, popF, setB, h0, h1, h2, intD, addD, y1, y2, y3, n1, n2, n3]
theorem s4 {s0 s1 : Slot} {A B : PyData} {o1 o2 : List Slot} (h1 : r_f_law_alone [.val A, .val (.int 12)] = some (.val (.bool true), o1)) (h2 : r_f_law_alone [.val B, .val (.int 13)] = some (.val (.bool true), o2)) :
    (ifB (orT (notT (boolT (callF 2 r_f_law_alone (consA (nameV 2) (consA (constD (.int 12)) ((fun env => some ([], env)))))))) (notT (boolT (callF 2 r_f_law_alone (consA (nameV 3) (consA (constD (.int 13)) ((fun env => some ([], env))))))))) (seqB (retB (valF (constD (.bool false)))) (nilB)) (nilB)) [s0, s1, .val A, .val B] = some (.nx [s0, s1, .val A, .val B]) := by
  generalize r_f_law_alone = r at *
  simp [seqB, ifB, asgB, retB, exprB, op1, op2, look, nameL, nameV, datL, datF, valF, constD, boolT, consA, tupF, lstF, setS_zv, setS_zo, setS_zu, setS_succ, Slot.dat, Slot.mut, Slot.put, nilB, callF, notT, andT, orT, andE, orE, ifE, boolS, tgtB, tupG, consG, nilG, nameG, retNm, appB, augB, callX, ioA, consX, argI, argV, argN, argsS, argS, ioIx, putB, popF, setB, h1, h2]
theorem s5 {env : MEnv} : (retB (callF 0 r_f_law_plain_errors (fun env => some ([], env)))) env = some (.rt (.val (.bool true)) env) := by
  have h := a3
  generalize r_f_law_plain_errors = r at *
  simp [seqB, ifB, asgB, retB, exprB, op1, op2, look, nameL, nameV, datL, datF, valF, constD, boolT, consA, tupF, lstF, setS_zv, setS_zo, setS_zu, setS_succ, Slot.dat, Slot.mut, Slot.put, nilB, callF, notT, andT, orT, andE, orE, ifE, boolS, tgtB, tupG, consG, nilG, nameG, retNm, appB, augB, callX, ioA, consX, argI, argV, argN, argsS, argS, ioIx, putB, popF, setB, h]
end
theorem main (ns : List Int) (hl : ns.length ≤ 63) : ∃ args', r_law [.val (.list (ns.map .int))] = some (.val (.bool true), args') := by
  obtain ⟨ds, hd, hb, o, ho⟩ := draws_eval (ns := ns) (c := 6) 6 hl (by decide) rfl
  have h0 := ix_draw (ds := ds) 0 rfl (by omega)
  have h1 := ix_draw (ds := ds) 1 rfl (by omega)
  have h2 := ix_draw (ds := ds) 2 rfl (by omega)
  obtain ⟨o1, e1⟩ := a1 [(.str "column", .int (gD ds 1 + 1)), (.str "line", .int (gD ds 0))]
  obtain ⟨o2, e2⟩ := a2 [(.str "place", .int (gD ds 2))]
  refine run_rt (e := [.val (.list (iL ns)), .own (iL ds), .val (BT (gD ds 0) (gD ds 1 + 1)), .val (BE (gD ds 2))]) ?_ (by show 1 ≤ 4; decide)
  have d0 : (asgB 1 (callF 2 r_f_law_draws (consA (nameV 0) (consA (constD (.int 6)) ((fun env => some ([], env))))))) [.val (.list (iL ns)), .un, .un, .un] = some (.nx [.val (.list (iL ns)), .own (iL ds), .un, .un]) := by
    have key : ∀ g : Ip.Run, g [.val (.list (iL ns)), .val (.int 6)] = some (.own (iL ds), o) → asgB 1 (callF 2 g (consA (nameV 0) (consA (constD (.int 6)) ((fun env => some ([], env)))))) [.val (.list (iL ns)), .un, .un, .un] = some (.nx [.val (.list (iL ns)), .own (iL ds), .un, .un]) := by
      intro g hg
      generalize iL ns = N at *
      simp [seqB, ifB, asgB, retB, exprB, op1, op2, look, nameL, nameV, datL, datF, valF, constD, boolT, consA, tupF, lstF, setS_zv, setS_zo, setS_zu, setS_succ, Slot.dat, Slot.mut, Slot.put, nilB, callF, notT, andT, orT, andE, orE, ifE, boolS, tgtB, tupG, consG, nilG, nameG, retNm, appB, augB, callX, ioA, consX, argI, argV, argN, argsS, argS, ioIx, putB, popF, setB, hg]
    exact key _ ho
  refine (seq_nx d0).trans ?_
  refine (seq_nx (s1 h0 h1)).trans ?_
  refine (seq_nx (s2 h2)).trans ?_
  refine (seq_nx (s3 h0 h1 h2)).trans ?_
  refine (seq_nx (s4 e1 e2)).trans ?_
  have hs : ∀ {f g : MEnv → Option Out} {env e1 : MEnv} {r : Slot}, f env = some (.rt r e1) → seqB f g env = some (.rt r e1) := by
    intro f g env e1 r h
    unfold seqB
    rw [h]
  exact hs s5
end Le

set_option Elab.async false
open PySem PySem.W PyProof.Rows
set_option maxRecDepth 100000 in
set_option maxHeartbeats 0 in
theorem PySem.Challenge.cw_wheretrue_k00_errors_stand_apart_holds : PySem.Challenge.rw_wheretrue_k00_errors_stand_apart.Holds := by
  w_on; o_law; k_head; (case hw => w_witness2)
  k_fill
  refine Ip.walk_goO (l := PySem.Challenge.rw_wheretrue_k00_errors_stand_apart) (n := 63) (k := 4) (x := "script") (run := Le.r_law) rfl (by decide) rfl ⟨rfl, by decide, by decide⟩ (fun w h Y => PySem.W.kIn_of Y) ?F Le.main
  case F =>
    intro w mg fa h KX G hmg
    refine' Le.all_mk KX G hmg ?a0 ?l0 ?q0 ?k0 ?a1 ?l1 ?q1 ?k1 ?a2 ?l2 ?q2 ?k2 ?a3 ?l3 ?q3 ?k3 ?a4 ?l4 ?q4 ?k4 ?xz_BadEntry ?xk_BadEntry ?xs_BadEntry ?xt_BadEntry ?xf_BadEntry_column ?xf_BadEntry_line ?xf_BadEntry_place ?xa_BadEntry ?xb_BadEntry ?xd_BadEntry ?xc_BadEntry ?xm_BadEntry ?xv_BadEntry ?xz_BadForm ?xe_BadForm ?xk_BadForm ?xs_BadForm ?xt_BadForm ?xf_BadForm_column ?xf_BadForm_line ?xf_BadForm_place ?xa_BadForm ?xb_BadForm ?xd_BadForm ?xc_BadForm ?xm_BadForm ?xv_BadForm ?xz_BadName ?xe_BadName ?xk_BadName ?xs_BadName ?xt_BadName ?xf_BadName_column ?xf_BadName_line ?xf_BadName_place ?xa_BadName ?xb_BadName ?xd_BadName ?xc_BadName ?xm_BadName ?xv_BadName ?xz_BadNumber ?xe_BadNumber ?xk_BadNumber ?xs_BadNumber ?xt_BadNumber ?xf_BadNumber_column ?xf_BadNumber_line ?xf_BadNumber_place ?xa_BadNumber ?xb_BadNumber ?xd_BadNumber ?xc_BadNumber ?xm_BadNumber ?xv_BadNumber ?xz_BadSign ?xe_BadSign ?xk_BadSign ?xs_BadSign ?xt_BadSign ?xf_BadSign_column ?xf_BadSign_line ?xf_BadSign_place ?xa_BadSign ?xb_BadSign ?xd_BadSign ?xc_BadSign ?xm_BadSign ?xv_BadSign ?xz_BadSize ?xe_BadSize ?xk_BadSize ?xs_BadSize ?xt_BadSize ?xf_BadSize_column ?xf_BadSize_line ?xf_BadSize_place ?xa_BadSize ?xb_BadSize ?xd_BadSize ?xc_BadSize ?xm_BadSize ?xv_BadSize ?xz_BadText ?xk_BadText ?xs_BadText ?xt_BadText ?xf_BadText_column ?xf_BadText_line ?xf_BadText_place ?xa_BadText ?xb_BadText ?xd_BadText ?xc_BadText ?xm_BadText ?xv_BadText ?xz_Circle ?xe_Circle ?xk_Circle ?xs_Circle ?xt_Circle ?xf_Circle_column ?xf_Circle_line ?xf_Circle_place ?xa_Circle ?xb_Circle ?xd_Circle ?xc_Circle ?xm_Circle ?xv_Circle ?xz_InUse ?xe_InUse ?xk_InUse ?xs_InUse ?xt_InUse ?xf_InUse_column ?xf_InUse_line ?xf_InUse_place ?xa_InUse ?xb_InUse ?xd_InUse ?xc_InUse ?xm_InUse ?xv_InUse ?xz_NotFine ?xe_NotFine ?xk_NotFine ?xs_NotFine ?xt_NotFine ?xf_NotFine_column ?xf_NotFine_line ?xf_NotFine_place ?xa_NotFine ?xb_NotFine ?xd_NotFine ?xc_NotFine ?xm_NotFine ?xv_NotFine ?xz_NothingToRedo ?xe_NothingToRedo ?xk_NothingToRedo ?xs_NothingToRedo ?xt_NothingToRedo ?xf_NothingToRedo_column ?xf_NothingToRedo_line ?xf_NothingToRedo_place ?xa_NothingToRedo ?xb_NothingToRedo ?xd_NothingToRedo ?xc_NothingToRedo ?xm_NothingToRedo ?xv_NothingToRedo ?xz_NothingToUndo ?xe_NothingToUndo ?xk_NothingToUndo ?xs_NothingToUndo ?xt_NothingToUndo ?xf_NothingToUndo_column ?xf_NothingToUndo_line ?xf_NothingToUndo_place ?xa_NothingToUndo ?xb_NothingToUndo ?xd_NothingToUndo ?xc_NothingToUndo ?xm_NothingToUndo ?xv_NothingToUndo ?xz_TooDeep ?xe_TooDeep ?xk_TooDeep ?xs_TooDeep ?xt_TooDeep ?xf_TooDeep_column ?xf_TooDeep_line ?xf_TooDeep_place ?xa_TooDeep ?xb_TooDeep ?xd_TooDeep ?xc_TooDeep ?xm_TooDeep ?xv_TooDeep ?xz_UnknownName ?xe_UnknownName ?xk_UnknownName ?xs_UnknownName ?xt_UnknownName ?xf_UnknownName_column ?xf_UnknownName_line ?xf_UnknownName_place ?xa_UnknownName ?xb_UnknownName ?xd_UnknownName ?xc_UnknownName ?xm_UnknownName ?xv_UnknownName ?xz_WhereError ?xe_WhereError ?xk_WhereError ?xs_WhereError ?xt_WhereError ?xf_WhereError_column ?xf_WhereError_line ?xf_WhereError_place ?xa_WhereError ?xb_WhereError ?xd_WhereError ?xc_WhereError ?xm_WhereError ?xv_WhereError ?xp_BadEntry__BadEntry ?xp_BadEntry__BadForm ?xp_BadEntry__BadName ?xp_BadEntry__BadNumber ?xp_BadEntry__BadSign ?xp_BadEntry__BadSize ?xp_BadEntry__BadText ?xp_BadEntry__Circle ?xp_BadEntry__InUse ?xp_BadEntry__NotFine ?xp_BadEntry__NothingToRedo ?xp_BadEntry__NothingToUndo ?xp_BadEntry__TooDeep ?xp_BadEntry__UnknownName ?xp_BadEntry__WhereError ?xp_BadForm__BadEntry ?xp_BadForm__BadForm ?xp_BadForm__BadName ?xp_BadForm__BadNumber ?xp_BadForm__BadSign ?xp_BadForm__BadSize ?xp_BadForm__BadText ?xp_BadForm__Circle ?xp_BadForm__InUse ?xp_BadForm__NotFine ?xp_BadForm__NothingToRedo ?xp_BadForm__NothingToUndo ?xp_BadForm__TooDeep ?xp_BadForm__UnknownName ?xp_BadForm__WhereError ?xp_BadName__BadEntry ?xp_BadName__BadForm ?xp_BadName__BadName ?xp_BadName__BadNumber ?xp_BadName__BadSign ?xp_BadName__BadSize ?xp_BadName__BadText ?xp_BadName__Circle ?xp_BadName__InUse ?xp_BadName__NotFine ?xp_BadName__NothingToRedo ?xp_BadName__NothingToUndo ?xp_BadName__TooDeep ?xp_BadName__UnknownName ?xp_BadName__WhereError ?xp_BadNumber__BadEntry ?xp_BadNumber__BadForm ?xp_BadNumber__BadName ?xp_BadNumber__BadNumber ?xp_BadNumber__BadSign ?xp_BadNumber__BadSize ?xp_BadNumber__BadText ?xp_BadNumber__Circle ?xp_BadNumber__InUse ?xp_BadNumber__NotFine ?xp_BadNumber__NothingToRedo ?xp_BadNumber__NothingToUndo ?xp_BadNumber__TooDeep ?xp_BadNumber__UnknownName ?xp_BadNumber__WhereError ?xp_BadSign__BadEntry ?xp_BadSign__BadForm ?xp_BadSign__BadName ?xp_BadSign__BadNumber ?xp_BadSign__BadSign ?xp_BadSign__BadSize ?xp_BadSign__BadText ?xp_BadSign__Circle ?xp_BadSign__InUse ?xp_BadSign__NotFine ?xp_BadSign__NothingToRedo ?xp_BadSign__NothingToUndo ?xp_BadSign__TooDeep ?xp_BadSign__UnknownName ?xp_BadSign__WhereError ?xp_BadSize__BadEntry ?xp_BadSize__BadForm ?xp_BadSize__BadName ?xp_BadSize__BadNumber ?xp_BadSize__BadSign ?xp_BadSize__BadSize ?xp_BadSize__BadText ?xp_BadSize__Circle ?xp_BadSize__InUse ?xp_BadSize__NotFine ?xp_BadSize__NothingToRedo ?xp_BadSize__NothingToUndo ?xp_BadSize__TooDeep ?xp_BadSize__UnknownName ?xp_BadSize__WhereError ?xp_BadText__BadEntry ?xp_BadText__BadForm ?xp_BadText__BadName ?xp_BadText__BadNumber ?xp_BadText__BadSign ?xp_BadText__BadSize ?xp_BadText__BadText ?xp_BadText__Circle ?xp_BadText__InUse ?xp_BadText__NotFine ?xp_BadText__NothingToRedo ?xp_BadText__NothingToUndo ?xp_BadText__TooDeep ?xp_BadText__UnknownName ?xp_BadText__WhereError ?xp_Circle__BadEntry ?xp_Circle__BadForm ?xp_Circle__BadName ?xp_Circle__BadNumber ?xp_Circle__BadSign ?xp_Circle__BadSize ?xp_Circle__BadText ?xp_Circle__Circle ?xp_Circle__InUse ?xp_Circle__NotFine ?xp_Circle__NothingToRedo ?xp_Circle__NothingToUndo ?xp_Circle__TooDeep ?xp_Circle__UnknownName ?xp_Circle__WhereError ?xp_InUse__BadEntry ?xp_InUse__BadForm ?xp_InUse__BadName ?xp_InUse__BadNumber ?xp_InUse__BadSign ?xp_InUse__BadSize ?xp_InUse__BadText ?xp_InUse__Circle ?xp_InUse__InUse ?xp_InUse__NotFine ?xp_InUse__NothingToRedo ?xp_InUse__NothingToUndo ?xp_InUse__TooDeep ?xp_InUse__UnknownName ?xp_InUse__WhereError ?xp_NotFine__BadEntry ?xp_NotFine__BadForm ?xp_NotFine__BadName ?xp_NotFine__BadNumber ?xp_NotFine__BadSign ?xp_NotFine__BadSize ?xp_NotFine__BadText ?xp_NotFine__Circle ?xp_NotFine__InUse ?xp_NotFine__NotFine ?xp_NotFine__NothingToRedo ?xp_NotFine__NothingToUndo ?xp_NotFine__TooDeep ?xp_NotFine__UnknownName ?xp_NotFine__WhereError ?xp_NothingToRedo__BadEntry ?xp_NothingToRedo__BadForm ?xp_NothingToRedo__BadName ?xp_NothingToRedo__BadNumber ?xp_NothingToRedo__BadSign ?xp_NothingToRedo__BadSize ?xp_NothingToRedo__BadText ?xp_NothingToRedo__Circle ?xp_NothingToRedo__InUse ?xp_NothingToRedo__NotFine ?xp_NothingToRedo__NothingToRedo ?xp_NothingToRedo__NothingToUndo ?xp_NothingToRedo__TooDeep ?xp_NothingToRedo__UnknownName ?xp_NothingToRedo__WhereError ?xp_NothingToUndo__BadEntry ?xp_NothingToUndo__BadForm ?xp_NothingToUndo__BadName ?xp_NothingToUndo__BadNumber ?xp_NothingToUndo__BadSign ?xp_NothingToUndo__BadSize ?xp_NothingToUndo__BadText ?xp_NothingToUndo__Circle ?xp_NothingToUndo__InUse ?xp_NothingToUndo__NotFine ?xp_NothingToUndo__NothingToRedo ?xp_NothingToUndo__NothingToUndo ?xp_NothingToUndo__TooDeep ?xp_NothingToUndo__UnknownName ?xp_NothingToUndo__WhereError ?xp_TooDeep__BadEntry ?xp_TooDeep__BadForm ?xp_TooDeep__BadName ?xp_TooDeep__BadNumber ?xp_TooDeep__BadSign ?xp_TooDeep__BadSize ?xp_TooDeep__BadText ?xp_TooDeep__Circle ?xp_TooDeep__InUse ?xp_TooDeep__NotFine ?xp_TooDeep__NothingToRedo ?xp_TooDeep__NothingToUndo ?xp_TooDeep__TooDeep ?xp_TooDeep__UnknownName ?xp_TooDeep__WhereError ?xp_UnknownName__BadEntry ?xp_UnknownName__BadForm ?xp_UnknownName__BadName ?xp_UnknownName__BadNumber ?xp_UnknownName__BadSign ?xp_UnknownName__BadSize ?xp_UnknownName__BadText ?xp_UnknownName__Circle ?xp_UnknownName__InUse ?xp_UnknownName__NotFine ?xp_UnknownName__NothingToRedo ?xp_UnknownName__NothingToUndo ?xp_UnknownName__TooDeep ?xp_UnknownName__UnknownName ?xp_UnknownName__WhereError ?xp_WhereError__BadEntry ?xp_WhereError__BadForm ?xp_WhereError__BadName ?xp_WhereError__BadNumber ?xp_WhereError__BadSign ?xp_WhereError__BadSize ?xp_WhereError__BadText ?xp_WhereError__Circle ?xp_WhereError__InUse ?xp_WhereError__NotFine ?xp_WhereError__NothingToRedo ?xp_WhereError__NothingToUndo ?xp_WhereError__TooDeep ?xp_WhereError__UnknownName ?xp_WhereError__WhereError ?xo_BadEntry ?xr_BadEntry ?xsa_BadEntry ?xi_BadEntry ?xj_BadEntry ?li_BadEntry ?qi_BadEntry ?ki_BadEntry ?xo_BadText ?xr_BadText ?xsa_BadText ?xi_BadText ?xj_BadText ?li_BadText ?qi_BadText ?ki_BadText ?xg1 ?xg2 ?z_ValueError ?z_all ?z_int ?z_isinstance ?z_len ?z_range
    (case a0 => k_is)
    (case l0 => k_is)
    (case q0 => k_is)
    (case k0 => k_is)
    (case a1 => k_is)
    (case l1 => k_is)
    (case q1 => k_is)
    (case k1 => k_is)
    (case a2 => k_is)
    (case l2 => k_is)
    (case q2 => k_is)
    (case k2 => k_is)
    (case a3 => k_is)
    (case l3 => k_is)
    (case q3 => k_is)
    (case k3 => k_is)
    (case a4 => k_is)
    (case l4 => k_is)
    (case q4 => k_is)
    (case k4 => k_is)
    (case xz_BadEntry => k_is)
    (case xk_BadEntry => k_is)
    (case xs_BadEntry => k_is)
    (case xt_BadEntry => k_is)
    (case xf_BadEntry_column => k_is)
    (case xf_BadEntry_line => k_is)
    (case xf_BadEntry_place => k_is)
    (case xa_BadEntry => k_is)
    (case xb_BadEntry => k_is)
    (case xd_BadEntry => k_is)
    (case xc_BadEntry => k_is)
    (case xm_BadEntry => k_is)
    (case xv_BadEntry => k_is)
    (case xz_BadForm => k_is)
    (case xe_BadForm => k_exc)
    (case xk_BadForm => k_is)
    (case xs_BadForm => k_is)
    (case xt_BadForm => k_is)
    (case xf_BadForm_column => k_is)
    (case xf_BadForm_line => k_is)
    (case xf_BadForm_place => k_is)
    (case xa_BadForm => k_is)
    (case xb_BadForm => k_is)
    (case xd_BadForm => k_is)
    (case xc_BadForm => k_is)
    (case xm_BadForm => k_is)
    (case xv_BadForm => k_is)
    (case xz_BadName => k_is)
    (case xe_BadName => k_exc)
    (case xk_BadName => k_is)
    (case xs_BadName => k_is)
    (case xt_BadName => k_is)
    (case xf_BadName_column => k_is)
    (case xf_BadName_line => k_is)
    (case xf_BadName_place => k_is)
    (case xa_BadName => k_is)
    (case xb_BadName => k_is)
    (case xd_BadName => k_is)
    (case xc_BadName => k_is)
    (case xm_BadName => k_is)
    (case xv_BadName => k_is)
    (case xz_BadNumber => k_is)
    (case xe_BadNumber => k_exc)
    (case xk_BadNumber => k_is)
    (case xs_BadNumber => k_is)
    (case xt_BadNumber => k_is)
    (case xf_BadNumber_column => k_is)
    (case xf_BadNumber_line => k_is)
    (case xf_BadNumber_place => k_is)
    (case xa_BadNumber => k_is)
    (case xb_BadNumber => k_is)
    (case xd_BadNumber => k_is)
    (case xc_BadNumber => k_is)
    (case xm_BadNumber => k_is)
    (case xv_BadNumber => k_is)
    (case xz_BadSign => k_is)
    (case xe_BadSign => k_exc)
    (case xk_BadSign => k_is)
    (case xs_BadSign => k_is)
    (case xt_BadSign => k_is)
    (case xf_BadSign_column => k_is)
    (case xf_BadSign_line => k_is)
    (case xf_BadSign_place => k_is)
    (case xa_BadSign => k_is)
    (case xb_BadSign => k_is)
    (case xd_BadSign => k_is)
    (case xc_BadSign => k_is)
    (case xm_BadSign => k_is)
    (case xv_BadSign => k_is)
    (case xz_BadSize => k_is)
    (case xe_BadSize => k_exc)
    (case xk_BadSize => k_is)
    (case xs_BadSize => k_is)
    (case xt_BadSize => k_is)
    (case xf_BadSize_column => k_is)
    (case xf_BadSize_line => k_is)
    (case xf_BadSize_place => k_is)
    (case xa_BadSize => k_is)
    (case xb_BadSize => k_is)
    (case xd_BadSize => k_is)
    (case xc_BadSize => k_is)
    (case xm_BadSize => k_is)
    (case xv_BadSize => k_is)
    (case xz_BadText => k_is)
    (case xk_BadText => k_is)
    (case xs_BadText => k_is)
    (case xt_BadText => k_is)
    (case xf_BadText_column => k_is)
    (case xf_BadText_line => k_is)
    (case xf_BadText_place => k_is)
    (case xa_BadText => k_is)
    (case xb_BadText => k_is)
    (case xd_BadText => k_is)
    (case xc_BadText => k_is)
    (case xm_BadText => k_is)
    (case xv_BadText => k_is)
    (case xz_Circle => k_is)
    (case xe_Circle => k_exc)
    (case xk_Circle => k_is)
    (case xs_Circle => k_is)
    (case xt_Circle => k_is)
    (case xf_Circle_column => k_is)
    (case xf_Circle_line => k_is)
    (case xf_Circle_place => k_is)
    (case xa_Circle => k_is)
    (case xb_Circle => k_is)
    (case xd_Circle => k_is)
    (case xc_Circle => k_is)
    (case xm_Circle => k_is)
    (case xv_Circle => k_is)
    (case xz_InUse => k_is)
    (case xe_InUse => k_exc)
    (case xk_InUse => k_is)
    (case xs_InUse => k_is)
    (case xt_InUse => k_is)
    (case xf_InUse_column => k_is)
    (case xf_InUse_line => k_is)
    (case xf_InUse_place => k_is)
    (case xa_InUse => k_is)
    (case xb_InUse => k_is)
    (case xd_InUse => k_is)
    (case xc_InUse => k_is)
    (case xm_InUse => k_is)
    (case xv_InUse => k_is)
    (case xz_NotFine => k_is)
    (case xe_NotFine => k_exc)
    (case xk_NotFine => k_is)
    (case xs_NotFine => k_is)
    (case xt_NotFine => k_is)
    (case xf_NotFine_column => k_is)
    (case xf_NotFine_line => k_is)
    (case xf_NotFine_place => k_is)
    (case xa_NotFine => k_is)
    (case xb_NotFine => k_is)
    (case xd_NotFine => k_is)
    (case xc_NotFine => k_is)
    (case xm_NotFine => k_is)
    (case xv_NotFine => k_is)
    (case xz_NothingToRedo => k_is)
    (case xe_NothingToRedo => k_exc)
    (case xk_NothingToRedo => k_is)
    (case xs_NothingToRedo => k_is)
    (case xt_NothingToRedo => k_is)
    (case xf_NothingToRedo_column => k_is)
    (case xf_NothingToRedo_line => k_is)
    (case xf_NothingToRedo_place => k_is)
    (case xa_NothingToRedo => k_is)
    (case xb_NothingToRedo => k_is)
    (case xd_NothingToRedo => k_is)
    (case xc_NothingToRedo => k_is)
    (case xm_NothingToRedo => k_is)
    (case xv_NothingToRedo => k_is)
    (case xz_NothingToUndo => k_is)
    (case xe_NothingToUndo => k_exc)
    (case xk_NothingToUndo => k_is)
    (case xs_NothingToUndo => k_is)
    (case xt_NothingToUndo => k_is)
    (case xf_NothingToUndo_column => k_is)
    (case xf_NothingToUndo_line => k_is)
    (case xf_NothingToUndo_place => k_is)
    (case xa_NothingToUndo => k_is)
    (case xb_NothingToUndo => k_is)
    (case xd_NothingToUndo => k_is)
    (case xc_NothingToUndo => k_is)
    (case xm_NothingToUndo => k_is)
    (case xv_NothingToUndo => k_is)
    (case xz_TooDeep => k_is)
    (case xe_TooDeep => k_exc)
    (case xk_TooDeep => k_is)
    (case xs_TooDeep => k_is)
    (case xt_TooDeep => k_is)
    (case xf_TooDeep_column => k_is)
    (case xf_TooDeep_line => k_is)
    (case xf_TooDeep_place => k_is)
    (case xa_TooDeep => k_is)
    (case xb_TooDeep => k_is)
    (case xd_TooDeep => k_is)
    (case xc_TooDeep => k_is)
    (case xm_TooDeep => k_is)
    (case xv_TooDeep => k_is)
    (case xz_UnknownName => k_is)
    (case xe_UnknownName => k_exc)
    (case xk_UnknownName => k_is)
    (case xs_UnknownName => k_is)
    (case xt_UnknownName => k_is)
    (case xf_UnknownName_column => k_is)
    (case xf_UnknownName_line => k_is)
    (case xf_UnknownName_place => k_is)
    (case xa_UnknownName => k_is)
    (case xb_UnknownName => k_is)
    (case xd_UnknownName => k_is)
    (case xc_UnknownName => k_is)
    (case xm_UnknownName => k_is)
    (case xv_UnknownName => k_is)
    (case xz_WhereError => k_is)
    (case xe_WhereError => k_exc)
    (case xk_WhereError => k_is)
    (case xs_WhereError => k_is)
    (case xt_WhereError => k_is)
    (case xf_WhereError_column => k_is)
    (case xf_WhereError_line => k_is)
    (case xf_WhereError_place => k_is)
    (case xa_WhereError => k_is)
    (case xb_WhereError => k_is)
    (case xd_WhereError => k_is)
    (case xc_WhereError => k_is)
    (case xm_WhereError => k_is)
    (case xv_WhereError => k_is)
    (case xp_BadEntry__BadEntry => k_is)
    (case xp_BadEntry__BadForm => k_is)
    (case xp_BadEntry__BadName => k_is)
    (case xp_BadEntry__BadNumber => k_is)
    (case xp_BadEntry__BadSign => k_is)
    (case xp_BadEntry__BadSize => k_is)
    (case xp_BadEntry__BadText => k_is)
    (case xp_BadEntry__Circle => k_is)
    (case xp_BadEntry__InUse => k_is)
    (case xp_BadEntry__NotFine => k_is)
    (case xp_BadEntry__NothingToRedo => k_is)
    (case xp_BadEntry__NothingToUndo => k_is)
    (case xp_BadEntry__TooDeep => k_is)
    (case xp_BadEntry__UnknownName => k_is)
    (case xp_BadEntry__WhereError => k_is)
    (case xp_BadForm__BadEntry => k_is)
    (case xp_BadForm__BadForm => k_is)
    (case xp_BadForm__BadName => k_is)
    (case xp_BadForm__BadNumber => k_is)
    (case xp_BadForm__BadSign => k_is)
    (case xp_BadForm__BadSize => k_is)
    (case xp_BadForm__BadText => k_is)
    (case xp_BadForm__Circle => k_is)
    (case xp_BadForm__InUse => k_is)
    (case xp_BadForm__NotFine => k_is)
    (case xp_BadForm__NothingToRedo => k_is)
    (case xp_BadForm__NothingToUndo => k_is)
    (case xp_BadForm__TooDeep => k_is)
    (case xp_BadForm__UnknownName => k_is)
    (case xp_BadForm__WhereError => k_is)
    (case xp_BadName__BadEntry => k_is)
    (case xp_BadName__BadForm => k_is)
    (case xp_BadName__BadName => k_is)
    (case xp_BadName__BadNumber => k_is)
    (case xp_BadName__BadSign => k_is)
    (case xp_BadName__BadSize => k_is)
    (case xp_BadName__BadText => k_is)
    (case xp_BadName__Circle => k_is)
    (case xp_BadName__InUse => k_is)
    (case xp_BadName__NotFine => k_is)
    (case xp_BadName__NothingToRedo => k_is)
    (case xp_BadName__NothingToUndo => k_is)
    (case xp_BadName__TooDeep => k_is)
    (case xp_BadName__UnknownName => k_is)
    (case xp_BadName__WhereError => k_is)
    (case xp_BadNumber__BadEntry => k_is)
    (case xp_BadNumber__BadForm => k_is)
    (case xp_BadNumber__BadName => k_is)
    (case xp_BadNumber__BadNumber => k_is)
    (case xp_BadNumber__BadSign => k_is)
    (case xp_BadNumber__BadSize => k_is)
    (case xp_BadNumber__BadText => k_is)
    (case xp_BadNumber__Circle => k_is)
    (case xp_BadNumber__InUse => k_is)
    (case xp_BadNumber__NotFine => k_is)
    (case xp_BadNumber__NothingToRedo => k_is)
    (case xp_BadNumber__NothingToUndo => k_is)
    (case xp_BadNumber__TooDeep => k_is)
    (case xp_BadNumber__UnknownName => k_is)
    (case xp_BadNumber__WhereError => k_is)
    (case xp_BadSign__BadEntry => k_is)
    (case xp_BadSign__BadForm => k_is)
    (case xp_BadSign__BadName => k_is)
    (case xp_BadSign__BadNumber => k_is)
    (case xp_BadSign__BadSign => k_is)
    (case xp_BadSign__BadSize => k_is)
    (case xp_BadSign__BadText => k_is)
    (case xp_BadSign__Circle => k_is)
    (case xp_BadSign__InUse => k_is)
    (case xp_BadSign__NotFine => k_is)
    (case xp_BadSign__NothingToRedo => k_is)
    (case xp_BadSign__NothingToUndo => k_is)
    (case xp_BadSign__TooDeep => k_is)
    (case xp_BadSign__UnknownName => k_is)
    (case xp_BadSign__WhereError => k_is)
    (case xp_BadSize__BadEntry => k_is)
    (case xp_BadSize__BadForm => k_is)
    (case xp_BadSize__BadName => k_is)
    (case xp_BadSize__BadNumber => k_is)
    (case xp_BadSize__BadSign => k_is)
    (case xp_BadSize__BadSize => k_is)
    (case xp_BadSize__BadText => k_is)
    (case xp_BadSize__Circle => k_is)
    (case xp_BadSize__InUse => k_is)
    (case xp_BadSize__NotFine => k_is)
    (case xp_BadSize__NothingToRedo => k_is)
    (case xp_BadSize__NothingToUndo => k_is)
    (case xp_BadSize__TooDeep => k_is)
    (case xp_BadSize__UnknownName => k_is)
    (case xp_BadSize__WhereError => k_is)
    (case xp_BadText__BadEntry => k_is)
    (case xp_BadText__BadForm => k_is)
    (case xp_BadText__BadName => k_is)
    (case xp_BadText__BadNumber => k_is)
    (case xp_BadText__BadSign => k_is)
    (case xp_BadText__BadSize => k_is)
    (case xp_BadText__BadText => k_is)
    (case xp_BadText__Circle => k_is)
    (case xp_BadText__InUse => k_is)
    (case xp_BadText__NotFine => k_is)
    (case xp_BadText__NothingToRedo => k_is)
    (case xp_BadText__NothingToUndo => k_is)
    (case xp_BadText__TooDeep => k_is)
    (case xp_BadText__UnknownName => k_is)
    (case xp_BadText__WhereError => k_is)
    (case xp_Circle__BadEntry => k_is)
    (case xp_Circle__BadForm => k_is)
    (case xp_Circle__BadName => k_is)
    (case xp_Circle__BadNumber => k_is)
    (case xp_Circle__BadSign => k_is)
    (case xp_Circle__BadSize => k_is)
    (case xp_Circle__BadText => k_is)
    (case xp_Circle__Circle => k_is)
    (case xp_Circle__InUse => k_is)
    (case xp_Circle__NotFine => k_is)
    (case xp_Circle__NothingToRedo => k_is)
    (case xp_Circle__NothingToUndo => k_is)
    (case xp_Circle__TooDeep => k_is)
    (case xp_Circle__UnknownName => k_is)
    (case xp_Circle__WhereError => k_is)
    (case xp_InUse__BadEntry => k_is)
    (case xp_InUse__BadForm => k_is)
    (case xp_InUse__BadName => k_is)
    (case xp_InUse__BadNumber => k_is)
    (case xp_InUse__BadSign => k_is)
    (case xp_InUse__BadSize => k_is)
    (case xp_InUse__BadText => k_is)
    (case xp_InUse__Circle => k_is)
    (case xp_InUse__InUse => k_is)
    (case xp_InUse__NotFine => k_is)
    (case xp_InUse__NothingToRedo => k_is)
    (case xp_InUse__NothingToUndo => k_is)
    (case xp_InUse__TooDeep => k_is)
    (case xp_InUse__UnknownName => k_is)
    (case xp_InUse__WhereError => k_is)
    (case xp_NotFine__BadEntry => k_is)
    (case xp_NotFine__BadForm => k_is)
    (case xp_NotFine__BadName => k_is)
    (case xp_NotFine__BadNumber => k_is)
    (case xp_NotFine__BadSign => k_is)
    (case xp_NotFine__BadSize => k_is)
    (case xp_NotFine__BadText => k_is)
    (case xp_NotFine__Circle => k_is)
    (case xp_NotFine__InUse => k_is)
    (case xp_NotFine__NotFine => k_is)
    (case xp_NotFine__NothingToRedo => k_is)
    (case xp_NotFine__NothingToUndo => k_is)
    (case xp_NotFine__TooDeep => k_is)
    (case xp_NotFine__UnknownName => k_is)
    (case xp_NotFine__WhereError => k_is)
    (case xp_NothingToRedo__BadEntry => k_is)
    (case xp_NothingToRedo__BadForm => k_is)
    (case xp_NothingToRedo__BadName => k_is)
    (case xp_NothingToRedo__BadNumber => k_is)
    (case xp_NothingToRedo__BadSign => k_is)
    (case xp_NothingToRedo__BadSize => k_is)
    (case xp_NothingToRedo__BadText => k_is)
    (case xp_NothingToRedo__Circle => k_is)
    (case xp_NothingToRedo__InUse => k_is)
    (case xp_NothingToRedo__NotFine => k_is)
    (case xp_NothingToRedo__NothingToRedo => k_is)
    (case xp_NothingToRedo__NothingToUndo => k_is)
    (case xp_NothingToRedo__TooDeep => k_is)
    (case xp_NothingToRedo__UnknownName => k_is)
    (case xp_NothingToRedo__WhereError => k_is)
    (case xp_NothingToUndo__BadEntry => k_is)
    (case xp_NothingToUndo__BadForm => k_is)
    (case xp_NothingToUndo__BadName => k_is)
    (case xp_NothingToUndo__BadNumber => k_is)
    (case xp_NothingToUndo__BadSign => k_is)
    (case xp_NothingToUndo__BadSize => k_is)
    (case xp_NothingToUndo__BadText => k_is)
    (case xp_NothingToUndo__Circle => k_is)
    (case xp_NothingToUndo__InUse => k_is)
    (case xp_NothingToUndo__NotFine => k_is)
    (case xp_NothingToUndo__NothingToRedo => k_is)
    (case xp_NothingToUndo__NothingToUndo => k_is)
    (case xp_NothingToUndo__TooDeep => k_is)
    (case xp_NothingToUndo__UnknownName => k_is)
    (case xp_NothingToUndo__WhereError => k_is)
    (case xp_TooDeep__BadEntry => k_is)
    (case xp_TooDeep__BadForm => k_is)
    (case xp_TooDeep__BadName => k_is)
    (case xp_TooDeep__BadNumber => k_is)
    (case xp_TooDeep__BadSign => k_is)
    (case xp_TooDeep__BadSize => k_is)
    (case xp_TooDeep__BadText => k_is)
    (case xp_TooDeep__Circle => k_is)
    (case xp_TooDeep__InUse => k_is)
    (case xp_TooDeep__NotFine => k_is)
    (case xp_TooDeep__NothingToRedo => k_is)
    (case xp_TooDeep__NothingToUndo => k_is)
    (case xp_TooDeep__TooDeep => k_is)
    (case xp_TooDeep__UnknownName => k_is)
    (case xp_TooDeep__WhereError => k_is)
    (case xp_UnknownName__BadEntry => k_is)
    (case xp_UnknownName__BadForm => k_is)
    (case xp_UnknownName__BadName => k_is)
    (case xp_UnknownName__BadNumber => k_is)
    (case xp_UnknownName__BadSign => k_is)
    (case xp_UnknownName__BadSize => k_is)
    (case xp_UnknownName__BadText => k_is)
    (case xp_UnknownName__Circle => k_is)
    (case xp_UnknownName__InUse => k_is)
    (case xp_UnknownName__NotFine => k_is)
    (case xp_UnknownName__NothingToRedo => k_is)
    (case xp_UnknownName__NothingToUndo => k_is)
    (case xp_UnknownName__TooDeep => k_is)
    (case xp_UnknownName__UnknownName => k_is)
    (case xp_UnknownName__WhereError => k_is)
    (case xp_WhereError__BadEntry => k_is)
    (case xp_WhereError__BadForm => k_is)
    (case xp_WhereError__BadName => k_is)
    (case xp_WhereError__BadNumber => k_is)
    (case xp_WhereError__BadSign => k_is)
    (case xp_WhereError__BadSize => k_is)
    (case xp_WhereError__BadText => k_is)
    (case xp_WhereError__Circle => k_is)
    (case xp_WhereError__InUse => k_is)
    (case xp_WhereError__NotFine => k_is)
    (case xp_WhereError__NothingToRedo => k_is)
    (case xp_WhereError__NothingToUndo => k_is)
    (case xp_WhereError__TooDeep => k_is)
    (case xp_WhereError__UnknownName => k_is)
    (case xp_WhereError__WhereError => k_is)
    (case xo_BadEntry => k_is)
    (case xr_BadEntry => rfl)
    (case xsa_BadEntry => k_is)
    (case xi_BadEntry => k_is)
    (case xj_BadEntry => k_is)
    (case li_BadEntry => k_is)
    (case qi_BadEntry => k_is)
    (case ki_BadEntry => k_is)
    (case xo_BadText => k_is)
    (case xr_BadText => rfl)
    (case xsa_BadText => k_is)
    (case xi_BadText => k_is)
    (case xj_BadText => k_is)
    (case li_BadText => k_is)
    (case qi_BadText => k_is)
    (case ki_BadText => k_is)
    (case xg1 => k_is)
    (case xg2 => k_is)
    (case z_ValueError => k_is)
    (case z_all => k_is)
    (case z_int => k_is)
    (case z_isinstance => k_is)
    (case z_len => k_is)
    (case z_range => k_is)

