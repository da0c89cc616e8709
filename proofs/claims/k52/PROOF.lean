import PyProof.Rows.All
import Wide.All
import OpenK.AllK
import Wide.FinOn
import HandS.ForMost
import HandS.ForExc
import HandS.Gcd
import HandS.Wide
import HandS.IsInst
import HandS.ExcInit
import HandS.ExcField
import HandS.CallSlots
import HandS.Defaults
import HandS.ExcCtx
import HandS.HotCalls
import HandS.ExcInitHot
import HandS.Dict
import HandS.MakeKw
import HandS.TupAny
import HandS.ExcOwn
import PyProof.SumWalkG
import PyProof.WalksMore
import HandS.SlotsOwn
import HandS.Zip
import HandS.OwnEq
import KE.GoesZip
import KE.GoesMore
import KE.KDictZip
import HandS.OwnIter
import HandS.GenList
import KE.GoesEnum
import HandS.Deep
import HandS.Conv
import HandS.Style
import HandS.TupMul
import KE.KDictPairs
import HandS.IterNext
import HandS.IterVal
import KE.KOwnIter
import HandS.Flow
import KE.KUnpackStar
import HandS.TupLen
import HandS.DictComp
import HandS.Iter
import KE.KDictCopyH
import HandS.DictEq
import KE.KDictWalk
import KE.OsRunLaw
import HandS.SetFor
import PySem.Challenge.RW_everyhint_k52_allowed_mixes_bound
set_option Elab.async false
set_option linter.all false
set_option maxRecDepth 100000
set_option maxHeartbeats 4000000
namespace DL
open PySem L2
/-- plain data -/
inductive D where
  | non
  | bl (b : Bool)
  | int (i : Int)
  | str (x : Str)
  | tup (l : List D)
  | lst (l : List D)
  | scr (l : List D)
  | ins (c : Str) (fs : List Str) (l : List D)
  | ty (n : String)
  | cls (c : Str)
  /-- a dict whose keys are tuples of ints and texts -/
  | dct (ks : List (List L2.Key)) (l : List D)
  /-- a tuple of the text's top -/
  | kt (l : List D)
  /-- a dict whose keys are ints or texts -/
  | dkk (ks : List L2.Key) (l : List D)
  /-- only as a field of an object of one's own: the k-th list of one's own -/
  | own (k : Nat)
/-- what a slot holds: data, or the k-th list of one's own -/
inductive SV where
  | d (x : D)
  | ptr (k : Nat)
  | exc
  | obj (k : Nat)
  /-- a dict of one's own -/
  | dic (k : Nat)
section
variable (K : PySem.W.Frag) (mg : Str → Option Value) (A : List Addr) (H : Hp)
/-- a list that is to be read: it stands in H beside A, or in the written part -/
def SqX (a : Addr) (xs : List V) : Prop :=
  (Rd H a (.lst xs) ∧ a ∉ A) ∨ ((∀ H' : Hp, SqL K H' a xs))
mutual
def Rep : D → V → Prop
  | .non, v => v = .non
  | .bl b, v => v = .bl b
  | .int i, v => v = .int i
  | .str x, v => v = .str x
  | .tup l, v => ∃ a vs, v = .ref a ∧ a ∉ A ∧ H a = some (.tup vs) ∧ Reps l vs
  | .lst l, v => ∃ a vs, v = .ref a ∧ a ∉ A ∧ H a = some (.lst vs) ∧ Reps l vs
  | .scr l, v => ∃ a vs, v = .ref a ∧ SqX K A H a vs ∧ Reps l vs
  | .ins c fs l, v => ∃ a C dx vs, v = .ref a ∧ a ∉ A ∧ mg c = some (.ref C) ∧ H a = some (.ins C dx (fs.zip vs)) ∧ fs.length = vs.length ∧ Reps l vs
  | .ty n, v => v = .ty n
  | .cls c, v => ∃ C, mg c = some (.ref C) ∧ v = .ref C
  | .dct ks l, v => ∃ a od vs, v = .ref a ∧ a ∉ A ∧ H a = some (.frz od (.dT (ks.zip vs))) ∧ ks.length = vs.length ∧ Reps l vs
  | .kt l, v => ∃ a vs, v = .ref a ∧ (∀ H' : Hp, SqT K H' a vs) ∧ Reps l vs
  | .dkk ks l, v => ∃ a vs, v = .ref a ∧ a ∉ A ∧ H a = some (.dK (ks.zip vs)) ∧ ks.length = vs.length ∧ Reps l vs
  | .own _, _ => False
def Reps : List D → List V → Prop
  | [], vs => vs = []
  | d :: ds, vs => ∃ v r, vs = v :: r ∧ Rep d v ∧ Reps ds r
end
abbrev Store := List (List D)
abbrev Env := List (Option SV)
end
/-- the heap has grown; only what stands in A may have changed; A has grown by new addresses -/
structure Ext (A : List Addr) (H : Hp) (A' : List Addr) (H' : Hp) : Prop where
  app : ∃ l, A' = A ++ l ∧ ∀ p ∈ l, H p = none
  keep : ∀ a o, H a = some o → a ∉ A → H' a = some o
  dom : ∀ a, H' a = none → H a = none
  kl : ∀ a vs, H a = some (.lst vs) → ∃ vs', H' a = some (.lst vs')
  ki : ∀ a C dx fs, H a = some (.ins C dx fs) → ∃ fs', H' a = some (.ins C dx fs')
  kt : ∀ a kvs, H a = some (.dT kvs) → ∃ kvs', H' a = some (.dT kvs')
  kk : ∀ a kvs, H a = some (.dK kvs) → ∃ kvs', H' a = some (.dK kvs')
theorem Ext.refl (A : List Addr) (H : Hp) : Ext A H A H := ⟨⟨[], by simp, by simp⟩, fun _ _ h _ => h, fun _ h => h, fun _ _ h => ⟨_, h⟩, fun _ _ _ _ h => ⟨_, h⟩, fun _ _ h => ⟨_, h⟩, fun _ _ h => ⟨_, h⟩⟩
theorem Ext.notin {A A' : List Addr} {H H' : Hp} (e : Ext A H A' H') {a : Addr} {o : HO} (h : H a = some o) (n : a ∉ A) : a ∉ A' := by
  obtain ⟨l, rfl, hl⟩ := e.app
  intro hm
  rcases List.mem_append.mp hm with z | z
  · exact n z
  · rw [hl a z] at h; cases h
theorem Ext.trans {A A' A'' : List Addr} {H H' H'' : Hp} (e : Ext A H A' H') (f : Ext A' H' A'' H'') : Ext A H A'' H'' := by
  refine ⟨?_, fun a o h n => f.keep a o (e.keep a o h n) (e.notin h n), fun a h => e.dom a (f.dom a h), fun a vs h => let ⟨_, h1⟩ := e.kl a vs h; f.kl a _ h1, fun a C dx fs h => let ⟨_, h1⟩ := e.ki a C dx fs h; f.ki a _ _ _ h1, fun a kv h => let ⟨_, h1⟩ := e.kt a kv h; f.kt a _ h1, fun a kv h => let ⟨_, h1⟩ := e.kk a kv h; f.kk a _ h1⟩
  obtain ⟨l, rfl, hl⟩ := e.app
  obtain ⟨m, rfl, hm⟩ := f.app
  refine ⟨l ++ m, by simp, fun p hp => ?_⟩
  rcases List.mem_append.mp hp with z | z
  · exact hl p z
  · exact e.dom p (hm p z)
theorem Ext.new {A : List Addr} {H : Hp} {p : Addr} {o : HO} (hp : H p = none) : Ext A H A (upd H p o) := by
  refine ⟨⟨[], by simp, by simp⟩, fun a u h _ => ?_, fun a h => ?_, fun a vs h => ⟨vs, by rw [upd_ne (ne_of_none h hp)]; exact h⟩, fun a C dx fs h => ⟨fs, by rw [upd_ne (ne_of_none h hp)]; exact h⟩, fun a kv h => ⟨kv, by rw [upd_ne (ne_of_none h hp)]; exact h⟩, fun a kv h => ⟨kv, by rw [upd_ne (ne_of_none h hp)]; exact h⟩⟩
  · rw [upd_ne (ne_of_none h hp)]; exact h
  · by_cases e : a = p
    · rw [e]; exact hp
    · rw [upd_ne e] at h; exact h
theorem Ext.own {A : List Addr} {H : Hp} {p : Addr} {o : HO} (hp : H p = none) : Ext A H (A ++ [p]) (upd H p o) := by
  refine ⟨⟨[p], rfl, by simpa using hp⟩, fun a u h _ => ?_, fun a h => ?_, fun a vs h => ⟨vs, by rw [upd_ne (ne_of_none h hp)]; exact h⟩, fun a C dx fs h => ⟨fs, by rw [upd_ne (ne_of_none h hp)]; exact h⟩, fun a kv h => ⟨kv, by rw [upd_ne (ne_of_none h hp)]; exact h⟩, fun a kv h => ⟨kv, by rw [upd_ne (ne_of_none h hp)]; exact h⟩⟩
  · rw [upd_ne (ne_of_none h hp)]; exact h
  · by_cases e : a = p
    · rw [e]; exact hp
    · rw [upd_ne e] at h; exact h
theorem Ext.set' {A : List Addr} {H : Hp} {p : Addr} {o u : HO} (hp : p ∈ A) (h0 : H p = some u) (k1 : ∀ vs, u = .lst vs → ∃ vs', o = .lst vs') (k2 : ∀ C dx fs, u = .ins C dx fs → ∃ fs', o = .ins C dx fs') (k3 : ∀ kv, u = .dT kv → ∃ kv', o = .dT kv' := by intro _ h; cases h) (k4 : ∀ kv, u = .dK kv → ∃ kv', o = .dK kv' := by intro _ h; cases h) : Ext A H A (upd H p o) := by
  refine ⟨⟨[], by simp, by simp⟩, fun a v h n => ?_, fun a h => ?_, fun a vs h => ?_, fun a C dx fs h => ?_, fun a kv h => ?_, fun a kv h => ?_⟩
  rotate_left 4
  · by_cases e : a = p
    · subst e
      rw [h0] at h
      obtain ⟨vs', rfl⟩ := k3 kv (by injection h)
      exact ⟨vs', upd_same⟩
    · exact ⟨kv, by rw [upd_ne e]; exact h⟩
  · by_cases e : a = p
    · subst e
      rw [h0] at h
      obtain ⟨vs', rfl⟩ := k4 kv (by injection h)
      exact ⟨vs', upd_same⟩
    · exact ⟨kv, by rw [upd_ne e]; exact h⟩
  rotate_left 2
  · by_cases e : a = p
    · subst e
      rw [h0] at h
      obtain ⟨vs', rfl⟩ := k1 vs (by injection h)
      exact ⟨vs', upd_same⟩
    · exact ⟨vs, by rw [upd_ne e]; exact h⟩
  · by_cases e : a = p
    · subst e
      rw [h0] at h
      obtain ⟨fs', rfl⟩ := k2 C dx fs (by injection h)
      exact ⟨fs', upd_same⟩
    · exact ⟨fs, by rw [upd_ne e]; exact h⟩
  · rw [upd_ne (fun e => n (by rw [e]; exact hp))]; exact h
  · by_cases e : a = p
    · rw [e, upd_same] at h; cases h
    · rw [upd_ne e] at h; exact h
theorem Ext.set {A : List Addr} {H : Hp} {p : Addr} {vs us : List V} (hp : p ∈ A) (h0 : H p = some (.lst us)) : Ext A H A (upd H p (.lst vs)) := Ext.set' hp h0 (fun _ _ => ⟨_, rfl⟩) (fun _ _ _ h => by cases h)
theorem Ext.setI {A : List Addr} {H : Hp} {p C dx : Addr} {fs gs : List (Str × V)} (hp : p ∈ A) (h0 : H p = some (.ins C dx fs)) : Ext A H A (upd H p (.ins C dx gs)) := Ext.set' hp h0 (fun _ h => by cases h) (fun _ _ _ h => by cases h; exact ⟨_, rfl⟩)
theorem Ext.drop {A A' : List Addr} {H H' : Hp} (e : Ext A H A' H') : Ext A H A H' := ⟨⟨[], by simp, by simp⟩, e.keep, e.dom, e.kl, e.ki, e.kt, e.kk⟩
/-- the names' values, and what is known besides for good -/
structure Gm where
  m : Str → Option Value
  G : List Addr → Hp → Prop
  mono : ∀ {A : List Addr} {H : Hp} {A' : List Addr} {H' : Hp}, Ext A H A' H' → G A H → G A' H'
  sub : ∀ {A B : List Addr} {H : Hp}, (∀ a, a ∈ B → a ∈ A) → G A H → G B H
  xa : Option Addr
section
variable (K : PySem.W.Frag) (mg : Gm) (A : List Addr) (H : Hp)
def RepS : SV → V → Prop
  | .d x, v => Rep K mg.m A H x v
  | .ptr k, v => ∃ a, A[k]? = some a ∧ v = .ref a ∧ ∃ vs, H a = some (.lst vs)
  | .exc, v => ∃ a, mg.xa = some a ∧ v = .ref a
  | .obj k, v => ∃ a, A[k]? = some a ∧ v = .ref a ∧ ∃ C dx fs, H a = some (.ins C dx fs)
  | .dic k, v => ∃ a, A[k]? = some a ∧ v = .ref a ∧ ((∃ kvs, H a = some (.dT kvs)) ∨ ∃ kvs, H a = some (.dK kvs))
def RepSs : List SV → List V → Prop
  | [], vs => vs = []
  | d :: ds, vs => ∃ v r, vs = v :: r ∧ RepS K mg A H d v ∧ RepSs ds r
structure EnvR (σ : St) (env : Env) : Prop where
  len : σ.length = env.length
  at' : ∀ (i : Nat) (sv : SV), env[i]? = some (some sv) → ∃ v, σ[i]? = some (some v) ∧ RepS K mg A H sv v
end
/-- a field of an object of one's own: data, or a list of one's own -/
def RepF (K : PySem.W.Frag) (mg : Str → Option Value) (A : List Addr) (H : Hp) (d : D) (v : V) : Prop := match d with
  | .own k => ∃ a, A[k]? = some a ∧ v = .ref a ∧ ∃ vs, H a = some (.lst vs)
  | d => Rep K mg A H d v
def RepFs (K : PySem.W.Frag) (mg : Str → Option Value) (A : List Addr) (H : Hp) : List D → List V → Prop
  | [], vs => vs = []
  | d :: ds, vs => ∃ v r, vs = v :: r ∧ RepF K mg A H d v ∧ RepFs K mg A H ds r
/-- what is one's own: a list, an object, or a dict -/
def OwnR (K : PySem.W.Frag) (mg : Str → Option Value) (A : List Addr) (H : Hp) (a : Addr) (ds : List D) : Prop :=
  (∃ vs, H a = some (.lst vs) ∧ RepFs K mg A H ds vs) ∨ (∃ c fs l C dx vs, ds = [.ins c fs l] ∧ mg c = some (.ref C) ∧ H a = some (.ins C dx (fs.zip vs)) ∧ fs.length = vs.length ∧ RepFs K mg A H l vs) ∨
  (∃ ks l vs, ds = [.dct ks l] ∧ H a = some (.dT (ks.zip vs)) ∧ ks.length = vs.length ∧ Reps K mg A H l vs) ∨ ∃ ks l vs, ds = [.dkk ks l] ∧ H a = some (.dK (ks.zip vs)) ∧ ks.length = vs.length ∧ Reps K mg A H l vs
structure Sta (K : PySem.W.Frag) (g : Gm) (A : List Addr) (H : Hp) (S : Store) : Prop where
  nd : A.Nodup
  len : S.length = A.length
  at' : ∀ (k : Nat) (a : Addr) (ds : List D), A[k]? = some a → S[k]? = some ds → OwnR K g.m A H a ds
  gh : g.G A H
section
variable {K : PySem.W.Frag} {mg : Str → Option Value} {A A' : List Addr} {H H' : Hp}
theorem SqX.sql {a : Addr} {xs : List V} (h : SqX K A H a xs) : SqL K H a xs := by
  rcases h with ⟨h, _⟩ | h
  · exact .inl h
  · exact h H
theorem SqX.mono {a : Addr} {xs : List V} (e : Ext A H A' H') (h : SqX K A H a xs) : SqX K A' H' a xs := by
  rcases h with ⟨h, n⟩ | h
  · refine .inl ?_
    rcases h with h | ⟨o, h⟩
    · exact ⟨.inl (e.keep _ _ h n), e.notin h n⟩
    · exact ⟨.inr ⟨o, e.keep _ _ h n⟩, e.notin h n⟩
  · exact .inr h
theorem SqX.sub {B : List Addr} (hs : ∀ a, a ∈ B → a ∈ A) {a : Addr} {xs : List V} (h : SqX K A H a xs) : SqX K B H a xs := by
  rcases h with ⟨h, n⟩ | h
  · exact .inl ⟨h, fun m => n (hs _ m)⟩
  · exact .inr h
mutual
theorem Rep.mono (e : Ext A H A' H') : ∀ (d : D) (v : V), Rep K mg A H d v → Rep K mg A' H' d v
  | .non, v, h => by simpa only [Rep] using h
  | .bl b, v, h => by simpa only [Rep] using h
  | .int i, v, h => by simpa only [Rep] using h
  | .str x, v, h => by simpa only [Rep] using h
  | .tup l, v, h => by
    simp only [Rep] at h ⊢
    obtain ⟨a, vs, e1, n, h1, r⟩ := h
    exact ⟨a, vs, e1, e.notin h1 n, e.keep _ _ h1 n, Reps.mono e l vs r⟩
  | .lst l, v, h => by
    simp only [Rep] at h ⊢
    obtain ⟨a, vs, e1, n, h1, r⟩ := h
    exact ⟨a, vs, e1, e.notin h1 n, e.keep _ _ h1 n, Reps.mono e l vs r⟩
  | .scr l, v, h => by
    simp only [Rep] at h ⊢
    obtain ⟨a, vs, e1, h1, r⟩ := h
    exact ⟨a, vs, e1, h1.mono e, Reps.mono e l vs r⟩
  | .ins c fs l, v, h => by
    simp only [Rep] at h ⊢
    obtain ⟨a, C, dx, vs, e1, n, hc, h1, hl, r⟩ := h
    exact ⟨a, C, dx, vs, e1, e.notin h1 n, hc, e.keep _ _ h1 n, hl, Reps.mono e l vs r⟩
  | .ty n, v, h => by simpa only [Rep] using h
  | .cls c, v, h => by simpa only [Rep] using h
  | .dct ks l, v, h => by
    simp only [Rep] at h ⊢
    obtain ⟨a, od, vs, e1, n, h1, hl, r⟩ := h
    exact ⟨a, od, vs, e1, e.notin h1 n, e.keep _ _ h1 n, hl, Reps.mono e l vs r⟩
  | .kt l, v, h => by
    simp only [Rep] at h ⊢
    obtain ⟨a, vs, e1, h1, r⟩ := h
    exact ⟨a, vs, e1, h1, Reps.mono e l vs r⟩
  | .own _, v, h => by simp only [Rep] at h
  | .dkk ks l, v, h => by
    simp only [Rep] at h ⊢
    obtain ⟨a, vs, e1, n, h1, hl, r⟩ := h
    exact ⟨a, vs, e1, e.notin h1 n, e.keep _ _ h1 n, hl, Reps.mono e l vs r⟩
theorem Reps.mono (e : Ext A H A' H') : ∀ (ds : List D) (vs : List V), Reps K mg A H ds vs → Reps K mg A' H' ds vs
  | [], vs, h => by simpa only [Reps] using h
  | d :: ds, vs, h => by
    simp only [Reps] at h ⊢
    obtain ⟨v, r, e1, h1, h2⟩ := h
    exact ⟨v, r, e1, Rep.mono e d v h1, Reps.mono e ds r h2⟩
end
mutual
theorem Rep.sub {B : List Addr} (hs : ∀ a, a ∈ B → a ∈ A) : ∀ (d : D) (v : V), Rep K mg A H d v → Rep K mg B H d v
  | .non, v, h => by simpa only [Rep] using h
  | .bl b, v, h => by simpa only [Rep] using h
  | .int i, v, h => by simpa only [Rep] using h
  | .str x, v, h => by simpa only [Rep] using h
  | .tup l, v, h => by
    simp only [Rep] at h ⊢
    obtain ⟨a, vs, e1, n, h1, r⟩ := h
    exact ⟨a, vs, e1, fun m => n (hs _ m), h1, Reps.sub hs l vs r⟩
  | .lst l, v, h => by
    simp only [Rep] at h ⊢
    obtain ⟨a, vs, e1, n, h1, r⟩ := h
    exact ⟨a, vs, e1, fun m => n (hs _ m), h1, Reps.sub hs l vs r⟩
  | .scr l, v, h => by
    simp only [Rep] at h ⊢
    obtain ⟨a, vs, e1, h1, r⟩ := h
    exact ⟨a, vs, e1, h1.sub hs, Reps.sub hs l vs r⟩
  | .ins c fs l, v, h => by
    simp only [Rep] at h ⊢
    obtain ⟨a, C, dx, vs, e1, n, hc, h1, hl, r⟩ := h
    exact ⟨a, C, dx, vs, e1, fun m => n (hs _ m), hc, h1, hl, Reps.sub hs l vs r⟩
  | .ty n, v, h => by simpa only [Rep] using h
  | .cls c, v, h => by simpa only [Rep] using h
  | .dct ks l, v, h => by
    simp only [Rep] at h ⊢
    obtain ⟨a, od, vs, e1, n, h1, hl, r⟩ := h
    exact ⟨a, od, vs, e1, fun m => n (hs _ m), h1, hl, Reps.sub hs l vs r⟩
  | .kt l, v, h => by
    simp only [Rep] at h ⊢
    obtain ⟨a, vs, e1, h1, r⟩ := h
    exact ⟨a, vs, e1, h1, Reps.sub hs l vs r⟩
  | .own _, v, h => by simp only [Rep] at h
  | .dkk ks l, v, h => by
    simp only [Rep] at h ⊢
    obtain ⟨a, vs, e1, n, h1, hl, r⟩ := h
    exact ⟨a, vs, e1, fun m => n (hs _ m), h1, hl, Reps.sub hs l vs r⟩
theorem Reps.sub {B : List Addr} (hs : ∀ a, a ∈ B → a ∈ A) : ∀ (ds : List D) (vs : List V), Reps K mg A H ds vs → Reps K mg B H ds vs
  | [], vs, h => by simpa only [Reps] using h
  | d :: ds, vs, h => by
    simp only [Reps] at h ⊢
    obtain ⟨v, r, e1, h1, h2⟩ := h
    exact ⟨v, r, e1, Rep.sub hs d v h1, Reps.sub hs ds r h2⟩
end
theorem Rep.anti {l0 : List Addr} (d : D) (v : V) (h : Rep K mg (A ++ l0) H d v) : Rep K mg A H d v := Rep.sub (fun _ m => List.mem_append_left _ m) d v h
theorem Reps.anti {l0 : List Addr} (d : List D) (v : List V) (h : Reps K mg (A ++ l0) H d v) : Reps K mg A H d v := Reps.sub (fun _ m => List.mem_append_left _ m) d v h
theorem RepS.mono {mg : Gm} (e : Ext A H A' H') {x : SV} {v : V} (h : RepS K mg A H x v) : RepS K mg A' H' x v := by
  cases x with
  | d x => exact Rep.mono e x v h
  | ptr k =>
    obtain ⟨a, h1, h2, vs, h3⟩ := h
    obtain ⟨l, rfl, _⟩ := e.app
    exact ⟨a, by rw [List.getElem?_append_left (List.getElem?_eq_some_iff.mp h1).1]; exact h1, h2, e.kl a vs h3⟩
  | exc => exact h
  | obj k =>
    obtain ⟨a, h1, h2, C, dx, fs, h3⟩ := h
    obtain ⟨l, rfl, _⟩ := e.app
    obtain ⟨fs', h4⟩ := e.ki a C dx fs h3
    exact ⟨a, by rw [List.getElem?_append_left (List.getElem?_eq_some_iff.mp h1).1]; exact h1, h2, C, dx, fs', h4⟩
  | dic k =>
    obtain ⟨a, h1, h2, h3⟩ := h
    obtain ⟨l, rfl, _⟩ := e.app
    refine ⟨a, by rw [List.getElem?_append_left (List.getElem?_eq_some_iff.mp h1).1]; exact h1, h2, ?_⟩
    rcases h3 with ⟨kv, h3⟩ | ⟨kv, h3⟩
    · exact .inl (e.kt a kv h3)
    · exact .inr (e.kk a kv h3)
theorem RepSs.mono {mg : Gm} (e : Ext A H A' H') : ∀ {xs : List SV} {vs : List V}, RepSs K mg A H xs vs → RepSs K mg A' H' xs vs
  | [], vs, h => h
  | x :: xs, vs, ⟨v, r, e1, h1, h2⟩ => ⟨v, r, e1, h1.mono e, RepSs.mono e h2⟩
theorem EnvR.mono {mg : Gm} (e : Ext A H A' H') {σ : St} {env : Env} (h : EnvR K mg A H σ env) : EnvR K mg A' H' σ env :=
  ⟨h.len, fun i sv q => let ⟨v, h1, h2⟩ := h.at' i sv q; ⟨v, h1, h2.mono e⟩⟩
theorem RepF.of {d : D} {v : V} (h : Rep K mg A H d v) : RepF K mg A H d v := by
  cases d <;> first | exact h | (simp only [Rep] at h)
theorem RepFs.of : ∀ {ds : List D} {vs : List V}, Reps K mg A H ds vs → RepFs K mg A H ds vs
  | [], vs, h => by simp only [Reps] at h; exact h
  | d :: ds, vs, h => by
    simp only [Reps] at h
    obtain ⟨v, r, e, h1, h2⟩ := h
    exact ⟨v, r, e, .of h1, .of h2⟩
def isOwn : D → Bool
  | .own _ => true
  | _ => false
/-- data all through -/
def clsd (ds : List D) : Bool := !ds.any isOwn
theorem RepF.to {d : D} {v : V} (h : RepF K mg A H d v) (n : isOwn d = false) : Rep K mg A H d v := by
  cases d <;> first | exact h | cases n
theorem RepFs.to : ∀ {ds : List D} {vs : List V}, RepFs K mg A H ds vs → ds.any isOwn = false → Reps K mg A H ds vs
  | [], vs, h, _ => by simp only [Reps]; exact h
  | d :: ds, vs, ⟨v, r, e, h1, h2⟩, n => by
    rw [List.any_cons, Bool.or_eq_false_iff] at n
    simp only [Reps]
    exact ⟨v, r, e, h1.to n.1, h2.to n.2⟩
theorem RepF.mono {d : D} {v : V} (e : Ext A H A' H') (h : RepF K mg A H d v) : RepF K mg A' H' d v := by
  cases d <;> first | exact Rep.mono e _ v h | skip
  obtain ⟨a, h1, h2, vs, h3⟩ := h
  obtain ⟨l, rfl, _⟩ := e.app
  exact ⟨a, by rw [List.getElem?_append_left (List.getElem?_eq_some_iff.mp h1).1]; exact h1, h2, e.kl a vs h3⟩
theorem RepFs.mono (e : Ext A H A' H') : ∀ {ds : List D} {vs : List V}, RepFs K mg A H ds vs → RepFs K mg A' H' ds vs
  | [], vs, h => h
  | d :: ds, vs, ⟨v, r, e1, h1, h2⟩ => ⟨v, r, e1, h1.mono e, RepFs.mono e h2⟩
theorem RepFs.length : ∀ {ds : List D} {vs : List V}, RepFs K mg A H ds vs → ds.length = vs.length
  | [], vs, h => by rw [show vs = [] from h]; rfl
  | d :: ds, vs, ⟨v, r, e1, h1, h2⟩ => by rw [e1, List.length_cons, List.length_cons, RepFs.length h2]
theorem RepFs.append : ∀ {ds es : List D} {vs ws : List V}, RepFs K mg A H ds vs → RepFs K mg A H es ws → RepFs K mg A H (ds ++ es) (vs ++ ws)
  | [], es, vs, ws, h, k => by rw [show vs = [] from h]; exact k
  | d :: ds, es, vs, ws, ⟨v, r, e, h1, h2⟩, k => ⟨v, r ++ ws, by rw [e]; rfl, h1, RepFs.append h2 k⟩
theorem RepFs.get : ∀ {ds : List D} {vs : List V} {i : Nat} {d : D}, RepFs K mg A H ds vs → ds[i]? = some d → ∃ v, vs[i]? = some v ∧ RepF K mg A H d v
  | [], vs, i, d, h, e => by simp at e
  | x :: ds, vs, 0, d, ⟨v, r, e1, h1, h2⟩, e => by
    simp at e
    subst e e1
    exact ⟨v, rfl, h1⟩
  | x :: ds, vs, i + 1, d, ⟨v, r, e1, h1, h2⟩, e => by
    subst e1
    obtain ⟨u, h3, h4⟩ := RepFs.get (i := i) h2 (by simpa using e)
    exact ⟨u, by simpa using h3, h4⟩
theorem RepFs.set : ∀ {ds : List D} {vs : List V} (i : Nat) {d : D} {v : V}, RepFs K mg A H ds vs → RepF K mg A H d v → RepFs K mg A H (ds.set i d) (vs.set i v)
  | [], vs, i, d, v, h, k => by rw [show vs = [] from h]; exact rfl
  | x :: ds, vs, 0, d, v, ⟨u, r, e1, h1, h2⟩, k => by
    subst e1
    exact ⟨v, r, rfl, k, h2⟩
  | x :: ds, vs, i + 1, d, v, ⟨u, r, e1, h1, h2⟩, k => by
    subst e1
    exact ⟨u, r.set i v, rfl, h1, RepFs.set i h2 k⟩
theorem OwnR.none {a : Addr} {ds : List D} (h : OwnR K mg A H a ds) : ∃ o, H a = some o := by
  rcases h with ⟨vs, h, _⟩ | ⟨_, _, _, _, _, _, _, _, h, _⟩ | ⟨_, _, _, _, h, _⟩ | ⟨_, _, _, _, h, _⟩
  · exact ⟨_, h⟩
  · exact ⟨_, h⟩
  · exact ⟨_, h⟩
  · exact ⟨_, h⟩
/-- the same thing later -/
theorem OwnR.to {A' : List Addr} {H' : Hp} {a : Addr} {ds : List D} (h : OwnR K mg A H a ds) (e : H' a = H a) (r : ∀ ds vs, Reps K mg A H ds vs → Reps K mg A' H' ds vs) (rl : ∀ vs, RepFs K mg A H ds vs → RepFs K mg A' H' ds vs) (rf : ∀ c fs l vs, ds = [.ins c fs l] → RepFs K mg A H l vs → RepFs K mg A' H' l vs) : OwnR K mg A' H' a ds := by
  rcases h with ⟨vs, h, q⟩ | ⟨c, fs, l, C, dx, vs, h1, h2, h3, h4, q⟩ | ⟨ks, l, vs, h1, h3, h4, q⟩ | ⟨ks, l, vs, h1, h3, h4, q⟩
  · exact .inl ⟨vs, by rw [e]; exact h, rl _ q⟩
  · exact .inr (.inl ⟨c, fs, l, C, dx, vs, h1, h2, by rw [e]; exact h3, h4, rf _ _ _ _ h1 q⟩)
  · exact .inr (.inr (.inl ⟨ks, l, vs, h1, by rw [e]; exact h3, h4, r _ _ q⟩))
  · exact .inr (.inr (.inr ⟨ks, l, vs, h1, by rw [e]; exact h3, h4, r _ _ q⟩))
theorem OwnR.mono {a : Addr} {ds : List D} (h : OwnR K mg A H a ds) (x : Ext A H A' H') (e : H' a = H a) : OwnR K mg A' H' a ds := h.to e (fun _ _ => Reps.mono x _ _) (fun _ => RepFs.mono x) fun _ _ _ _ _ => RepFs.mono x
theorem OwnR.lst {a : Addr} {ds : List D} (h : OwnR K mg A H a ds) (h0 : ∃ vs, H a = some (.lst vs)) : ∃ vs, H a = some (.lst vs) ∧ RepFs K mg A H ds vs := by
  obtain ⟨ws, h0⟩ := h0
  rcases h with h | ⟨c, fs, l, C, dx, vs, h1, h2, h3, h4, q⟩ | ⟨ks, l, vs, h1, h3, h4, q⟩ | ⟨ks, l, vs, h1, h3, h4, q⟩
  · exact h
  · rw [h3] at h0; cases h0
  · rw [h3] at h0; cases h0
  · rw [h3] at h0; cases h0
theorem Sta.new {g : Gm} {S : Store} {p : Addr} {o : HO} (s : Sta K g A H S) (hp : H p = none) : Sta K g A (upd H p o) S := by
  refine ⟨s.nd, s.len, fun k a ds h1 h2 => ?_, g.mono (Ext.new hp) s.gh⟩
  have q := s.at' k a ds h1 h2
  obtain ⟨o, h3⟩ := q.none
  exact q.mono (Ext.new hp) (by rw [upd_ne (ne_of_none h3 hp)])
theorem Sta.lst {g : Gm} {S : Store} (s : Sta K g A H S) {k : Nat} {a : Addr} {ds : List D} (h1 : A[k]? = some a) (h0 : ∃ vs, H a = some (.lst vs)) (h2 : S[k]? = some ds) : ∃ vs, H a = some (.lst vs) ∧ RepFs K g.m A H ds vs := (s.at' k a ds h1 h2).lst h0
theorem Sta.lstC {g : Gm} {S : Store} (s : Sta K g A H S) {k : Nat} {a : Addr} {ds : List D} (h1 : A[k]? = some a) (h0 : ∃ vs, H a = some (.lst vs)) (h2 : S[k]? = some ds) (hc : clsd ds = true) : ∃ vs, H a = some (.lst vs) ∧ Reps K g.m A H ds vs := by
  obtain ⟨vs, h3, h4⟩ := s.lst h1 h0 h2
  exact ⟨vs, h3, h4.to (by simpa [clsd] using hc)⟩
theorem Sta.dom {g : Gm} {S : Store} (s : Sta K g A H S) {a : Addr} (h : a ∈ A) : ∃ o, H a = some o := by
  obtain ⟨k, hk, e⟩ := List.mem_iff_getElem.mp h
  have hk2 : k < S.length := by rw [s.len]; exact hk
  exact (s.at' k a S[k] (by rw [List.getElem?_eq_getElem hk, e]) (List.getElem?_eq_getElem hk2)).none
theorem Sta.free {g : Gm} {S : Store} (s : Sta K g A H S) {p : Addr} (hp : H p = none) : p ∉ A := fun hm => by
  obtain ⟨vs, h⟩ := s.dom hm
  rw [h] at hp; cases hp
theorem Sta.own' {g : Gm} {S : Store} {p : Addr} {o : HO} {ds : List D} (s : Sta K g A H S) (hp : H p = none) (r : OwnR K g.m (A ++ [p]) (upd H p o) p ds) : Sta K g (A ++ [p]) (upd H p o) (S ++ [ds]) := by
  have hn := s.free hp
  refine ⟨?_, by simp [s.len], fun k a es h1 h2 => ?_, g.mono (Ext.own hp) s.gh⟩
  · rw [List.nodup_append]
    refine ⟨s.nd, by simp, fun a ha b hb e => ?_⟩
    rw [List.mem_singleton.mp hb] at e
    exact hn (e ▸ ha)
  · by_cases hk : k < A.length
    · rw [List.getElem?_append_left hk] at h1
      rw [List.getElem?_append_left (by rw [s.len]; exact hk)] at h2
      have q := s.at' k a es h1 h2
      obtain ⟨o, h3⟩ := q.none
      exact q.mono (Ext.own hp) (by rw [upd_ne (ne_of_none h3 hp)])
    · have hk' : A.length ≤ k := Nat.le_of_not_lt hk
      rw [List.getElem?_append_right hk'] at h1
      rw [List.getElem?_append_right (by rw [s.len]; exact hk'), s.len] at h2
      have e0 : k - A.length = 0 := by
        have := (List.getElem?_eq_some_iff.mp h1).1
        simpa using this
      rw [e0] at h1 h2
      have ea : p = a := by simpa using h1
      have es' : ds = es := by simpa using h2
      subst ea es'
      exact r
theorem Sta.own {g : Gm} {S : Store} {p : Addr} {vs : List V} {ds : List D} (s : Sta K g A H S) (hp : H p = none) (r : Reps K g.m A H ds vs) : Sta K g (A ++ [p]) (upd H p (.lst vs)) (S ++ [ds]) :=
  s.own' hp (.inl ⟨vs, upd_same, .of (Reps.mono (Ext.own hp) ds vs r)⟩)
theorem Sta.ownF {g : Gm} {S : Store} {p : Addr} {vs : List V} {ds : List D} (s : Sta K g A H S) (hp : H p = none) (r : RepFs K g.m A H ds vs) : Sta K g (A ++ [p]) (upd H p (.lst vs)) (S ++ [ds]) :=
  s.own' hp (.inl ⟨vs, upd_same, r.mono (Ext.own hp)⟩)
theorem Sta.set' {g : Gm} {S : Store} {k : Nat} {a : Addr} {o : HO} {ds : List D} (s : Sta K g A H S) (ha : A[k]? = some a) (ee : Ext A H A (upd H a o)) (r : OwnR K g.m A (upd H a o) a ds) : Sta K g A (upd H a o) (S.set k ds) ∧ Ext A H A (upd H a o) := by
  have hm : a ∈ A := List.mem_of_getElem? ha
  refine ⟨⟨s.nd, by simp [s.len], fun j b es h1 h2 => ?_, g.mono ee s.gh⟩, ee⟩
  by_cases hj : j = k
  · subst hj
    rw [ha] at h1
    cases h1
    have : j < S.length := by rw [s.len]; exact (List.getElem?_eq_some_iff.mp ha).1
    rw [List.getElem?_set_self this] at h2
    cases h2
    exact r
  · rw [List.getElem?_set_ne (fun e => hj e.symm)] at h2
    have qq := s.at' j b es h1 h2
    have hb : b ≠ a := by
      intro e
      subst e
      have q1 := List.getElem?_eq_some_iff.mp h1
      have q2 := List.getElem?_eq_some_iff.mp ha
      obtain ⟨l1, e1⟩ := q1
      obtain ⟨l2, e2⟩ := q2
      exact hj ((List.getElem_inj s.nd).mp (e1.trans e2.symm))
    exact qq.mono ee (by rw [upd_ne hb])
theorem Sta.setF {g : Gm} {S : Store} {k : Nat} {a : Addr} {vs : List V} {ds : List D} (s : Sta K g A H S) (ha : A[k]? = some a) (h0 : ∃ us, H a = some (.lst us)) (r : RepFs K g.m A H ds vs) : Sta K g A (upd H a (.lst vs)) (S.set k ds) ∧ Ext A H A (upd H a (.lst vs)) := by
  obtain ⟨us, h0⟩ := h0
  have ee : Ext A H A (upd H a (.lst vs)) := Ext.set (List.mem_of_getElem? ha) h0
  exact s.set' ha ee (.inl ⟨vs, upd_same, r.mono ee⟩)
theorem Sta.set {g : Gm} {S : Store} {k : Nat} {a : Addr} {vs : List V} {ds : List D} (s : Sta K g A H S) (ha : A[k]? = some a) (h0 : ∃ us, H a = some (.lst us)) (r : Reps K g.m A H ds vs) : Sta K g A (upd H a (.lst vs)) (S.set k ds) ∧ Ext A H A (upd H a (.lst vs)) := s.setF ha h0 (.of r)
/-- a cell that has no list behind the n-th -/
def CalC (n : Nat) (ds : List D) : Prop := (∀ j, D.own j ∈ ds → j < n) ∧ ∀ c fs l, ds = [.ins c fs l] → ∀ j, D.own j ∈ l → j < n
/-- what is left when the lists behind S fall away stands by itself -/
def Cal (S S' : Store) : Prop := ∀ (k : Nat) (ds : List D), k < S.length → S'[k]? = some ds → S[k]? = some ds ∨ CalC S.length ds
theorem cal_app (S T : Store) : Cal S (S ++ T) := fun k ds h e => .inl (by rw [List.getElem?_append_left h] at e; exact e)
theorem cal_refl (S : Store) : Cal S S := fun k ds h e => .inl e
theorem RepFs.own_lt : ∀ {ds : List D} {vs : List V} {j : Nat}, RepFs K mg A H ds vs → D.own j ∈ ds → j < A.length
  | d :: ds, vs, j, ⟨v, r, e, h1, h2⟩, m => by
    rcases List.mem_cons.mp m with m | m
    · subst m
      obtain ⟨a, h3, _⟩ := h1
      exact (List.getElem?_eq_some_iff.mp h3).1
    · exact RepFs.own_lt h2 m
theorem RepFs.sub {B : List Addr} (hs : ∀ a, a ∈ B → a ∈ A) : ∀ {ds : List D} {vs : List V}, RepFs K mg A H ds vs → (∀ j, D.own j ∈ ds → B[j]? = A[j]?) → RepFs K mg B H ds vs
  | [], vs, h, _ => h
  | d :: ds, vs, ⟨v, r, e, h1, h2⟩, m => by
    refine ⟨v, r, e, ?_, RepFs.sub hs h2 fun j hj => m j (List.mem_cons_of_mem _ hj)⟩
    cases d <;> first | exact Rep.sub hs _ _ h1 | skip
    obtain ⟨a, h3, h4⟩ := h1
    exact ⟨a, by rw [m _ List.mem_cons_self]; exact h3, h4⟩
theorem Reps.no_own : ∀ {ds : List D} {vs : List V} {j : Nat}, Reps K mg A H ds vs → D.own j ∈ ds → False
  | d :: ds, vs, j, h, m => by
    simp only [Reps] at h
    obtain ⟨v, r, e, h1, h2⟩ := h
    rcases List.mem_cons.mp m with m | m
    · subst m
      simp only [Rep] at h1
    · exact Reps.no_own h2 m
theorem Sta.calm {g : Gm} {S : Store} (s : Sta K g A H S) {k : Nat} {ds : List D} (h : S[k]? = some ds) : CalC A.length ds := by
  have hk : k < A.length := by rw [← s.len]; exact (List.getElem?_eq_some_iff.mp h).1
  rcases s.at' k A[k] ds (List.getElem?_eq_getElem hk) h with ⟨vs, h1, q⟩ | ⟨c', fs', l', C, dx, vs, h1, h2, h3, h4, q⟩ | ⟨ks, l', vs, h1, h3, h4, q⟩ | ⟨ks, l', vs, h1, h3, h4, q⟩
  · refine ⟨fun j hj => q.own_lt hj, fun c fs l e j hj => ?_⟩
    subst e
    obtain ⟨v, r, e, q, _⟩ := q
    have q : Rep K g.m A H (.ins c fs l) v := q
    simp only [Rep] at q
    obtain ⟨a, C, dx, vs', e1, n, hc, h1, hl, r⟩ := q
    exact (r.no_own hj).elim
  · subst h1
    refine ⟨fun j hj => (by simp at hj), fun c fs l e j hj => ?_⟩
    cases e
    exact q.own_lt hj
  · subst h1
    exact ⟨fun j hj => (by simp at hj), fun c fs l e j hj => by cases e⟩
  · subst h1
    exact ⟨fun j hj => (by simp at hj), fun c fs l e j hj => by cases e⟩
theorem Sta.cal {g : Gm} {S S' : Store} (s : Sta K g A H S) (h : Cal S S') {k : Nat} {ds : List D} (hk : k < A.length) (e : S'[k]? = some ds) : CalC A.length ds := by
  rcases h k ds (by rw [s.len]; exact hk) e with h | h
  · exact s.calm h
  · rw [← s.len]; exact h
theorem Sta.drop {g : Gm} {S0 S : Store} {H0 : Hp} {l : List Addr} (s0 : Sta K g A H0 S0) (s : Sta K g (A ++ l) H S) (c : Cal S0 S) : Sta K g A H (S.take A.length) := by
  refine ⟨(List.nodup_append.mp s.nd).1, ?_, fun k a ds h1 h2 => ?_, g.sub (fun _ m => List.mem_append_left _ m) s.gh⟩
  · rw [List.length_take, s.len, List.length_append]; omega
  · have hk := (List.getElem?_eq_some_iff.mp h1).1
    rw [List.getElem?_take_of_lt hk] at h2
    exact (s.at' k a ds (by rw [List.getElem?_append_left hk]; exact h1) h2).to rfl (fun ds vs => Reps.anti ds vs) (fun vs q => q.sub (fun _ m => List.mem_append_left _ m) fun j hj => (List.getElem?_append_left ((s0.cal c hk h2).1 j hj)).symm) fun c' fs l' vs e q => q.sub (fun _ m => List.mem_append_left _ m) fun j hj => (List.getElem?_append_left ((s0.cal c hk h2).2 c' fs l' e j hj)).symm
/-- a list of one's own behind the n-th becomes data -/
def frzD (n : Nat) (S : Store) : D → Option D
  | .own j => if j < n then some (.own j) else match S[j]? with
    | some l => if clsd l = true then some (.lst l) else none
    | none => none
  | d => some d
def frzL (n : Nat) (S : Store) : List D → Option (List D)
  | [] => some []
  | d :: ds => match frzD n S d, frzL n S ds with
    | some x, some xs => some (x :: xs)
    | _, _ => none
theorem frzD_of {n : Nat} {S : Store} {d : D} (h : isOwn d = false) : frzD n S d = some d := by cases d <;> first | rfl | cases h
theorem frzL_of {n : Nat} {S : Store} : ∀ {ds : List D}, clsd ds = true → frzL n S ds = some ds
  | [], _ => rfl
  | d :: ds, h => by
    simp only [clsd, List.any_cons, Bool.not_or, Bool.and_eq_true, Bool.not_eq_true'] at h
    unfold frzL
    rw [frzD_of h.1, frzL_of (by simpa [clsd] using h.2)]
theorem frz_rep {g : Gm} {S : Store} {A B : List Addr} {n : Nat} {ds0 : List D} (s : Sta K g A H S) (hs : ∀ a, a ∈ B → a ∈ A) (hB : ∀ j, j < n → B[j]? = A[j]?) (hno : ∀ j q, n ≤ j → A[j]? = some q → ¬ S[j]? = some ds0 → q ∉ B) :
    ∀ {ds ds' : List D} {vs : List V}, (∀ j, D.own j ∈ ds → D.own j ∈ ds0) → RepFs K g.m A H ds vs → frzL n S ds = some ds' → RepFs K g.m B H ds' vs
  | [], ds', vs, _, h, e => by cases e; exact h
  | d :: ds, ds', vs, hm, ⟨v, r, e1, h1, h2⟩, e => by
    unfold frzL at e
    rcases e3 : frzD n S d with _ | x
    · rw [e3] at e; cases e
    · rcases e4 : frzL n S ds with _ | xs
      · rw [e3, e4] at e; cases e
      · rw [e3, e4] at e
        cases e
        refine ⟨v, r, e1, ?_, frz_rep s hs hB hno (fun j hj => hm j (List.mem_cons_of_mem _ hj)) h2 e4⟩
        cases d <;> first | (cases e3; exact Rep.sub hs _ _ h1) | skip
        rename_i j
        obtain ⟨a, g1, g2, g3⟩ := h1
        unfold frzD at e3
        dsimp only at e3
        by_cases hj : j < n
        · rw [if_pos hj] at e3
          cases e3
          exact ⟨a, by rw [hB j hj]; exact g1, g2, g3⟩
        · rw [if_neg hj] at e3
          rcases e5 : S[j]? with _ | l
          · rw [e5] at e3; cases e3
          · rw [e5] at e3
            dsimp only at e3
            by_cases hc : clsd l = true
            · rw [if_pos hc] at e3
              cases e3
              obtain ⟨ws, g4, g5⟩ := s.lstC g1 g3 e5 hc
              show Rep K g.m B H (.lst l) v
              simp only [Rep]
              refine ⟨a, ws, g2, hno j a (Nat.le_of_not_lt hj) g1 ?_, g4, Reps.sub hs _ _ g5⟩
              intro z
              rw [e5] at z
              cases z
              have := hm j List.mem_cons_self
              have h3 : ds0.any isOwn = true := List.any_eq_true.mpr ⟨_, this, rfl⟩
              simp [clsd, h3] at hc
            · rw [if_neg hc] at e3; cases e3
/-- a def's own lists fall away but one -/
theorem Sta.pick {g : Gm} {S0 S : Store} {H0 : Hp} {l : List Addr} {k : Nat} {p : Addr} {ds : List D} (s0 : Sta K g A H0 S0) (s : Sta K g (A ++ l) H S) (c : Cal S0 S) (hk : A.length ≤ k) (hp : (A ++ l)[k]? = some p) (hd : S[k]? = some ds) (hkd : ∃ vs, H p = some (.lst vs)) {ds' : List D} (hf : frzL A.length S ds = some ds') : Sta K g (A ++ [p]) H (S.take A.length ++ [ds']) ∧ p ∈ l := by
  have hpl : p ∈ l := by
    rw [List.getElem?_append_right hk] at hp
    exact List.mem_of_getElem? hp
  have nd := List.nodup_append.mp s.nd
  have hsub : ∀ a, a ∈ A ++ [p] → a ∈ A ++ l := fun a h => by
    rcases List.mem_append.mp h with h | h
    · exact List.mem_append_left _ h
    · rw [List.mem_singleton.mp h]; exact List.mem_append_right _ hpl
  have hlen : (S.take A.length).length = A.length := by rw [List.length_take, s.len, List.length_append]; omega
  refine ⟨⟨?_, by simp [hlen, s.len], fun j a es h1 h2 => ?_, g.sub hsub s.gh⟩, hpl⟩
  · rw [List.nodup_append]
    refine ⟨nd.1, by simp, fun a ha b hb e => ?_⟩
    rw [List.mem_singleton.mp hb] at e
    exact nd.2.2 a ha p hpl e
  · by_cases hj : j < A.length
    · rw [List.getElem?_append_left hj] at h1
      rw [List.getElem?_append_left (by rw [hlen]; exact hj), List.getElem?_take_of_lt hj] at h2
      refine (s.at' j a es (by rw [List.getElem?_append_left hj]; exact h1) h2).to rfl (fun _ _ => Reps.sub hsub _ _) (fun vs q => q.sub hsub fun i hi => ?_) fun c' fs l' vs e q => q.sub hsub fun i hi => ?_
      · have hl := (s0.cal c hj h2).1 i hi
        rw [List.getElem?_append_left hl, List.getElem?_append_left hl]
      · have hl := (s0.cal c hj h2).2 c' fs l' e i hi
        rw [List.getElem?_append_left hl, List.getElem?_append_left hl]
    · have hj' : A.length ≤ j := Nat.le_of_not_lt hj
      rw [List.getElem?_append_right hj'] at h1
      rw [List.getElem?_append_right (by rw [hlen]; exact hj'), hlen] at h2
      have e0 : j - A.length = 0 := by
        have := (List.getElem?_eq_some_iff.mp h1).1
        simpa using this
      rw [e0] at h1 h2
      have ea : p = a := by simpa using h1
      have es' : ds' = es := by simpa using h2
      subst ea es'
      obtain ⟨ws, h3, q⟩ := (s.at' k p ds hp hd).lst hkd
      refine .inl ⟨ws, h3, frz_rep (ds0 := ds) s hsub (fun j hj => ?_) (fun j q hj hq hn => ?_) (fun j hj => hj) q hf⟩
      · rw [List.getElem?_append_left hj, List.getElem?_append_left hj]
      · intro hm
        have hjl : A.length ≤ j := hj
        rcases List.mem_append.mp hm with hm | hm
        · rw [List.getElem?_append_right hjl] at hq
          exact nd.2.2 q hm q (List.mem_of_getElem? hq) rfl
        · rw [List.mem_singleton.mp hm] at hq
          obtain ⟨g1, g2⟩ := List.getElem?_eq_some_iff.mp hq
          obtain ⟨g3, g4⟩ := List.getElem?_eq_some_iff.mp hp
          have : j = k := (List.getElem_inj s.nd).mp (g2.trans g4.symm)
          exact hn (by rw [this]; exact hd)
theorem Reps.length : ∀ {ds : List D} {vs : List V}, Reps K mg A H ds vs → ds.length = vs.length
  | [], vs, h => by simp only [Reps] at h; rw [h]; rfl
  | d :: ds, vs, h => by
    simp only [Reps] at h
    obtain ⟨v, r, e, _, h2⟩ := h
    rw [e, List.length_cons, List.length_cons, Reps.length h2]
theorem RepSs.length {mg : Gm} : ∀ {ds : List SV} {vs : List V}, RepSs K mg A H ds vs → ds.length = vs.length
  | [], vs, h => by rw [show vs = [] from h]; rfl
  | d :: ds, vs, ⟨v, r, e, _, h2⟩ => by
    rw [e, List.length_cons, List.length_cons, RepSs.length h2]
theorem Reps.append : ∀ {ds es : List D} {vs ws : List V}, Reps K mg A H ds vs → Reps K mg A H es ws → Reps K mg A H (ds ++ es) (vs ++ ws)
  | [], es, vs, ws, h, k => by simp only [Reps] at h; rw [h]; exact k
  | d :: ds, es, vs, ws, h, k => by
    simp only [Reps] at h
    obtain ⟨v, r, e, h1, h2⟩ := h
    rw [e]
    show Reps K mg A H (d :: (ds ++ es)) (v :: (r ++ ws))
    simp only [Reps]
    exact ⟨v, r ++ ws, rfl, h1, Reps.append h2 k⟩
theorem Reps.get : ∀ {ds : List D} {vs : List V} {i : Nat} {d : D}, Reps K mg A H ds vs → ds[i]? = some d → ∃ v, vs[i]? = some v ∧ Rep K mg A H d v
  | [], vs, i, d, h, e => by simp at e
  | x :: ds, vs, 0, d, h, e => by
    simp only [Reps] at h
    obtain ⟨v, r, e1, h1, h2⟩ := h
    simp at e
    subst e e1
    exact ⟨v, rfl, h1⟩
  | x :: ds, vs, i + 1, d, h, e => by
    simp only [Reps] at h
    obtain ⟨v, r, e1, h1, h2⟩ := h
    subst e1
    obtain ⟨u, h3, h4⟩ := Reps.get (i := i) h2 (by simpa using e)
    exact ⟨u, by simpa using h3, h4⟩
theorem Reps.set : ∀ {ds : List D} {vs : List V} (i : Nat) {d : D} {v : V}, Reps K mg A H ds vs → Rep K mg A H d v → Reps K mg A H (ds.set i d) (vs.set i v)
  | [], vs, i, d, v, h, k => by simp only [Reps] at h; rw [h]; simpa using (by simp only [Reps] : Reps K mg A H [] [])
  | x :: ds, vs, 0, d, v, h, k => by
    simp only [Reps] at h
    obtain ⟨u, r, e1, h1, h2⟩ := h
    subst e1
    simp only [List.set_cons_zero, Reps]
    exact ⟨v, r, rfl, k, h2⟩
  | x :: ds, vs, i + 1, d, v, h, k => by
    simp only [Reps] at h
    obtain ⟨u, r, e1, h1, h2⟩ := h
    subst e1
    simp only [List.set_cons_succ, Reps]
    exact ⟨u, r.set i v, rfl, h1, Reps.set i h2 k⟩
theorem EnvR.set {mg : Gm} {σ : St} {env : Env} {i : Nat} {sv : SV} {v : V} (h : EnvR K mg A H σ env) (r : RepS K mg A H sv v) : EnvR K mg A H (σ.set i (some v)) (env.set i (some sv)) := by
  refine ⟨by simp [h.len], fun j w q => ?_⟩
  by_cases hj : j = i
  · subst hj
    by_cases hl : j < env.length
    · rw [List.getElem?_set_self hl] at q
      cases q
      exact ⟨v, by rw [List.getElem?_set_self (by rw [h.len]; exact hl)], r⟩
    · rw [List.getElem?_eq_none_iff.mpr (by simpa using hl)] at q
      cases q
  · rw [List.getElem?_set_ne (fun e => hj e.symm)] at q
    obtain ⟨u, h1, h2⟩ := h.at' j w q
    exact ⟨u, by rw [List.getElem?_set_ne (fun e => hj e.symm)]; exact h1, h2⟩
theorem EnvR.unset {mg : Gm} {σ : St} {env : Env} {i : Nat} (h : EnvR K mg A H σ env) (o : Option V) : EnvR K mg A H (σ.set i o) (env.set i none) := by
  refine ⟨by simp [h.len], fun j w q => ?_⟩
  by_cases hj : j = i
  · subst hj
    by_cases hl : j < env.length
    · rw [List.getElem?_set_self hl] at q
      cases q
    · rw [List.getElem?_eq_none_iff.mpr (by simpa using hl)] at q
      cases q
  · rw [List.getElem?_set_ne (fun e => hj e.symm)] at q
    obtain ⟨u, h1, h2⟩ := h.at' j w q
    exact ⟨u, by rw [List.getElem?_set_ne (fun e => hj e.symm)]; exact h1, h2⟩
end
end DL
namespace DL
open PySem L2
inductive R (α : Type) where
  | ok (a : α)
  | err (c : Str) (fs : List Str) (l : List D)
abbrev M (α : Type) := Store → Option (R α × Store)
def ret {α : Type} (a : α) : M α := fun S => some (.ok a, S)
def stuck {α : Type} : M α := fun _ => none
def raise {α : Type} (c : Str) (fs : List Str) (l : List D) : M α := fun S => some (.err c fs l, S)
def bnd {α β : Type} (m : M α) (k : α → M β) : M β := fun S => match m S with
  | some (.ok a, S') => k a S'
  | some (.err c fs l, S') => some (.err c fs l, S')
  | none => none
theorem bnd_assoc {α β γ : Type} (m : M α) (k : α → M β) (j : β → M γ) : bnd (bnd m k) j = bnd m fun a => bnd (k a) j := by
  funext S
  unfold bnd
  rcases m S with _ | ⟨_ | _, S'⟩ <;> rfl
theorem bnd_some {α β : Type} {m : M α} {k : α → M β} {S S' : Store} {r : R β} (he : bnd m k S = some (r, S')) :
    (∃ a S1, m S = some (.ok a, S1) ∧ k a S1 = some (r, S')) ∨ (∃ c fs l, m S = some (.err c fs l, S') ∧ r = .err c fs l) := by
  unfold bnd at he
  rcases q : m S with _ | ⟨a | ⟨c, fs, l⟩, S1⟩
  · rw [q] at he; cases he
  · rw [q] at he; exact .inl ⟨a, S1, rfl, he⟩
  · rw [q] at he; cases he; exact .inr ⟨c, fs, l, rfl, rfl⟩
/-- what an exception bears -/
def ErrR (K : PySem.W.Frag) (mg : Str → Option Value) (A : List Addr) (H : Hp) (dd : Option Addr) (fs : List Str) (l : List D) : Prop :=
  (l = [] ∧ fs = []) ∨ ∃ d vs, dd = some d ∧ d ∉ A ∧ H d = some (.xd (fs.zip vs)) ∧ fs.length = vs.length ∧ Reps K mg A H l vs
/-- what is wished of an exception, and what is known for good -/
structure WG where
  w : WX
  G : List Addr → Hp → Prop
  mono : ∀ {A : List Addr} {H : Hp} {A' : List Addr} {H' : Hp}, Ext A H A' H' → G A H → G A' H'
  sub : ∀ {A B : List Addr} {H : Hp}, (∀ a, a ∈ B → a ∈ A) → G A H → G B H
  xa : Option Addr
def wg0 (W : WX) : WG := ⟨W, fun _ _ => True, fun _ _ => trivial, fun _ _ => trivial, none⟩
abbrev gm (X : Cx) (W : WG) : Gm := ⟨X.mg, W.G, W.mono, W.sub, W.xa⟩
section
variable (K : PySem.W.Frag) (mg : Gm)
abbrev RelT (α β : Type) := List Addr → Hp → α → β → Prop
/-- what is to hold behind -/
def Po {α β : Type} (rel : RelT α β) (W : WG) (Q : β → Hp → Prop) (σ : St) (A : List Addr) (H : Hp) : R α → Store → Prop
  | .ok a, S' => ∀ b A' H', Ext A H A' H' → Sta K mg A' H' S' → rel A' H' a b → Q b H'
  | .err c fs l, S' => ∀ C dd A' H', mg.m c = some (.ref C) → Ext A H A' H' → Sta K mg A' H' S' → ErrR K mg.m A' H' dd fs l → W.w (.ref C) dd σ H'
def TOk {α β : Type} (rel : RelT α β) (W : WG) (t : St → Hp → (β → Hp → Prop) → Prop) (f : Env → M α) : Prop :=
  ∀ (σ : St) (H : Hp) (A : List Addr) (S : Store) (env : Env) (r : R α) (S' : Store), Sta K mg A H S → EnvR K mg A H σ env → f env S = some (r, S') → ∀ Q, Po K mg rel W Q σ A H r S' → t σ H Q
def relS : RelT SV V := fun A H a v => RepS K mg A H a v
def relB : RelT Bool Bool := fun _ _ a b => a = b
def relA : RelT (List SV) (List V) := fun A H a v => RepSs K mg A H a v
end
section
variable {K : PySem.W.Frag} {mg : Gm} {α β γ δ ε ζ : Type} {W : WG}
theorem Po.mono {rel : RelT α β} {Q : β → Hp → Prop} {σ : St} {A A' : List Addr} {H H' : Hp} {r : R α} {S' : Store} (p : Po K mg rel W Q σ A H r S') (e : Ext A H A' H') : Po K mg rel W Q σ A' H' r S' := by
  cases r with
  | ok a => exact fun b A2 H2 e2 s q => p b A2 H2 (e.trans e2) s q
  | err c fs l => exact fun C dd A2 H2 hc e2 s q => p C dd A2 H2 hc (e.trans e2) s q
theorem tbind {rel : RelT α β} {rel2 : RelT γ δ} {ta : St → Hp → (β → Hp → Prop) → Prop} {tk : β → St → Hp → (δ → Hp → Prop) → Prop} {f : Env → M α} {g : Env → α → M γ} (ha : TOk K mg rel W ta f)
    (hk : ∀ (a : α) (b : β) (σ : St) (H : Hp) (A : List Addr) (S : Store) (env : Env) (r : R γ) (S' : Store), Sta K mg A H S → EnvR K mg A H σ env → rel A H a b → g env a S = some (r, S') → ∀ Q, Po K mg rel2 W Q σ A H r S' → tk b σ H Q) :
    TOk K mg rel2 W (fun σ H Q => ta σ H fun x H1 => tk x σ H1 Q) (fun env => bnd (f env) (g env)) := by
  intro σ H A S env r S' hS hE he Q hp
  rcases bnd_some (m := f env) (k := g env) he with ⟨a, S1, ef, q⟩ | ⟨c, fs, l, ef, rfl⟩
  · exact ha σ H A S env _ S1 hS hE ef _ fun b A' H' e s z => hk a b σ H' A' S1 env r S' s (hE.mono e) z q Q (hp.mono e)
  · exact ha σ H A S env _ _ hS hE ef _ hp
theorem tbind2 {rel2 : RelT γ δ} {rel3 : RelT ε ζ} {ta : TE} {tb : St → Hp → (δ → Hp → Prop) → Prop} {tk : V → δ → St → Hp → (ζ → Hp → Prop) → Prop} {f : Env → M SV} {g : Env → M γ} {o : SV → γ → M ε} (ha : TOk K mg (relS K mg) W ta f) (hb : TOk K mg rel2 W tb g)
    (hk : ∀ (a : SV) (b : γ) (x : V) (y : δ) (σ : St) (H : Hp) (A : List Addr) (S : Store) (r : R ε) (S' : Store), Sta K mg A H S → RepS K mg A H a x → rel2 A H b y → o a b S = some (r, S') → ∀ Q, Po K mg rel3 W Q σ A H r S' → tk x y σ H Q) :
    TOk K mg rel3 W (fun σ H Q => ta σ H fun x H1 => tb σ H1 fun y H2 => tk x y σ H2 Q) (fun env => bnd (f env) fun a => bnd (g env) fun b => o a b) := by
  refine tbind (rel := relS K mg) (tk := fun x σ H Q => tb σ H fun y H2 => tk x y σ H2 Q) (g := fun env a => bnd (g env) fun b => o a b) ha ?_
  intro a x σ H A S env r S' hS hE hx he Q hp
  rcases bnd_some (m := g env) (k := fun b => o a b) he with ⟨b, S1, ef, q⟩ | ⟨c, fs, l, ef, rfl⟩
  · exact hb σ H A S env _ S1 hS hE ef _ fun y A' H' e s z => hk a b x y σ H' A' S1 r S' s (RepS.mono e hx) z q Q (hp.mono e)
  · exact hb σ H A S env _ _ hS hE ef _ hp
/-- a value that is there -/
theorem Po.val {rel : RelT α β} {Q : β → Hp → Prop} {σ : St} {A : List Addr} {H : Hp} {a : α} {S : Store} {v : β} (p : Po K mg rel W Q σ A H (.ok a) S) (s : Sta K mg A H S) (r : rel A H a v) : Q v H := p v A H (Ext.refl A H) s r
/-- a new thing, of data alone -/
theorem Po.new {Q : VK} {σ : St} {A : List Addr} {H : Hp} {d : D} {S : Store} {p : Addr} {o : HO} (q : Po K mg (relS K mg) W Q σ A H (.ok (.d d)) S) (s : Sta K mg A H S) (hp : H p = none) (r : Rep K mg.m A (upd H p o) d (.ref p)) : Q (.ref p) (upd H p o) :=
  q _ A _ (Ext.new hp) (s.new hp) r
end
section
variable (X : Cx) (W : WG)
def DE (e : Expr) (f : Env → M SV) : Prop := ∃ t : TE, PE X e t ∧ TOk X.K (gm X W) (relS X.K (gm X W)) W t f
def DT (e : Expr) (f : Env → M Bool) : Prop := ∃ t : TT, PT X e t ∧ TOk X.K (gm X W) relB W t f
def DW (e : Expr) (f : Env → M Bool) : Prop := ∃ t : TT, PW X e t ∧ TOk X.K (gm X W) relB W t f
def DA (es : List Expr) (f : Env → M (List SV)) : Prop := ∃ t : TA, PA X es t ∧ TOk X.K (gm X W) (relA X.K (gm X W)) W t f
def ROk (r : R2) (o : SV → SV → M SV) : Prop := ∀ (a b : SV) (x y : V) (σ : St) (H : Hp) (A : List Addr) (S : Store) (rr : R SV) (S' : Store), Sta X.K (gm X W) A H S → RepS X.K (gm X W) A H a x → RepS X.K (gm X W) A H b y → o a b S = some (rr, S') → ∀ Q, Po X.K (gm X W) (relS X.K (gm X W)) W Q σ A H rr S' → r x y H Q
def UOk (r : V → Hp → VK → Prop) (o : SV → M SV) : Prop := ∀ (a : SV) (x : V) (σ : St) (H : Hp) (A : List Addr) (S : Store) (rr : R SV) (S' : Store), Sta X.K (gm X W) A H S → RepS X.K (gm X W) A H a x → o a S = some (rr, S') → ∀ Q, Po X.K (gm X W) (relS X.K (gm X W)) W Q σ A H rr S' → r x H Q
def COk (r : List V → Hp → VK → Prop) (o : List SV → M SV) : Prop := ∀ (a : List SV) (x : List V) (σ : St) (H : Hp) (A : List Addr) (S : Store) (rr : R SV) (S' : Store), Sta X.K (gm X W) A H S → RepSs X.K (gm X W) A H a x → o a S = some (rr, S') → ∀ Q, Po X.K (gm X W) (relS X.K (gm X W)) W Q σ A H rr S' → r x H Q
end
def eOp (o : SV → SV → M SV) (f g : Env → M SV) : Env → M SV := fun env => bnd (f env) fun x => bnd (g env) fun y => o x y
def eUn (o : SV → M SV) (f : Env → M SV) : Env → M SV := fun env => bnd (f env) o
def eArg {α : Type} (o : List SV → M α) (fa : Env → M (List SV)) : Env → M α := fun env => bnd (fa env) o
/-- a value that is a bool -/
def asB : SV → M Bool
  | .d (.bl b) => ret b
  | _ => stuck
def eTst (f : Env → M SV) : Env → M Bool := fun env => bnd (f env) asB
section
variable {X : Cx} {W : WG} {e a b c : Expr} {f g h : Env → M SV} {pos : Pos}
def eVar (i : Nat) : Env → M SV := fun env => match env[i]? with
  | some (some sv) => ret sv
  | _ => stuck
def eC (d : D) : Env → M SV := fun _ => ret (.d d)
theorem de_var (i : Nat) {x : Str} (hN : X.N[i]? = some x := by rfl) (hv : Vis X.env.scope x := by first | exact Or.inl rfl | exact Or.inr (Or.inl rfl) | exact Or.inr (Or.inr rfl)) (hd : (x == ("__debug__" : Str)) = false := by decide)
    (hcd : (x == ("__classdict__" : Str)) = false := by decide) : DE X W (.Name x pos) (eVar i) := by
  refine ⟨_, pe_var hN hv hd hcd, fun σ H A S env r S' hS hE he Q hp => ?_⟩
  unfold eVar at he
  rcases q : env[i]? with _ | _ | sv
  · rw [q] at he; cases he
  · rw [q] at he; cases he
  · rw [q] at he
    cases he
    obtain ⟨v, h1, h2⟩ := hE.at' i sv q
    exact ⟨v, h1, hp.val hS h2⟩
theorem tok_c {d : D} {v : V} (hr : ∀ A H, Rep X.K X.mg A H d v) : TOk X.K (gm X W) (relS X.K (gm X W)) W (tC v) (eC d) := fun σ H A S env r S' hS hE he Q hp => by
  cases he
  exact hp.val hS (hr A H)
theorem de_int {i j pos} : DE X W (.Constant (.int i) j pos) (eC (.int i)) := ⟨_, pe_int, tok_c fun _ _ => by simp only [Rep]⟩
theorem de_bl {i j pos} : DE X W (.Constant (.bool i) j pos) (eC (.bl i)) := ⟨_, pe_bl, tok_c fun _ _ => by simp only [Rep]⟩
theorem de_non {j pos} : DE X W (.Constant .none j pos) (eC .non) := ⟨_, pe_non, tok_c fun _ _ => by simp only [Rep]⟩
theorem de_str {x j pos} : DE X W (.Constant (.str x) j pos) (eC (.str x)) := ⟨_, pe_str, tok_c fun _ _ => by simp only [Rep]⟩
theorem de_op {op : Operator} {r : R2} {o : SV → SV → M SV} (ho : OpR X (binaryOp op) r) (hr : ROk X W r o) (ha : DE X W a f) (hb : DE X W b g) : DE X W (.BinOp a op b pos) (eOp o f g) := by
  obtain ⟨ta, pa, ka⟩ := ha
  obtain ⟨tb, pb, kb⟩ := hb
  exact ⟨_, pe_op ho pa pb, tbind2 ka kb fun x y u v σ H A S r S' hS hx hy he Q hp => hr x y u v σ H A S r S' hS hx hy he Q hp⟩
theorem de_cmp {op : CmpOp} {r : R2} {o : SV → SV → M SV} (ho : OpR X (compareOp op) r) (hr : ROk X W r o) (ha : DE X W a f) (hb : DE X W b g) (hm : behindInMarks op b = false) : DE X W (.Compare a [op] [b] pos) (eOp o f g) := by
  obtain ⟨ta, pa, ka⟩ := ha
  obtain ⟨tb, pb, kb⟩ := hb
  exact ⟨_, pe_cmpR ho pa pb hm, tbind2 ka kb fun x y u v σ H A S r S' hS hx hy he Q hp => hr x y u v σ H A S r S' hS hx hy he Q hp⟩
theorem de_un {op : UnaryOp} {r : V → Hp → VK → Prop} {o : SV → M SV} (ho : UnR X (unaryOp op) r) (hr : UOk X W r o) (ha : DE X W a f) : DE X W (.UnaryOp op a pos) (eUn o f) := by
  obtain ⟨ta, pa, ka⟩ := ha
  exact ⟨_, pe_un ho pa, tbind (rel := relS X.K (gm X W)) (rel2 := relS X.K (gm X W)) (g := fun _ x => o x) (tk := fun x _ H Q => r x H Q) ka fun x u σ H A S env rr S' hS hE hx he Q hp => hr x u σ H A S rr S' hS hx he Q hp⟩
theorem tok_B {t : TE} {f : Env → M SV} (h : TOk X.K (gm X W) (relS X.K (gm X W)) W t f) : TOk X.K (gm X W) relB W (fun σ H Q => t σ H fun x H' => ∃ k, x = .bl k ∧ Q k H') (fun env => bnd (f env) asB) :=
  tbind (g := fun _ x => asB x) (tk := fun x σ H Q => ∃ k, x = .bl k ∧ Q k H) h fun a x σ H A S env r S' hS hE hx he Q hp => by
    unfold asB at he
    split at he
    · rename_i b
      cases he
      have hx' : Rep X.K X.mg A H (.bl b) x := hx
      simp only [Rep] at hx'
      exact ⟨b, hx', hp.val hS rfl⟩
    · cases he
theorem dt_cmp {op : CmpOp} {r : R2} {o : SV → SV → M SV} (ho : OpR X (compareOp op) r) (hr : ROk X W r o) (ha : DE X W a f) (hb : DE X W b g) (hm : behindInMarks op b = false) : DT X W (.Compare a [op] [b] pos) (eTst (eOp o f g)) := by
  obtain ⟨ta, pa, ka⟩ := ha
  obtain ⟨tb, pb, kb⟩ := hb
  exact ⟨_, pt_cmpR ho pa pb hm, tok_B (tbind2 ka kb fun x y u v σ H A S r S' hS hx hy he Q hp => hr x y u v σ H A S r S' hS hx hy he Q hp)⟩
theorem dt_val (ha : DE X W e f) (he : ∀ whole, isTrue e X.env whole = (do let v ← whole; standAt e.pos; holding [v] (truthy v)) := by intro _; rfl) : DT X W e (eTst f) := by
  obtain ⟨ta, pa, ka⟩ := ha
  exact ⟨_, pt_val pa he, tok_B ka⟩
variable {t u : Env → M Bool} {rest : List Expr}
def tyAnd (t u : Env → M Bool) : Env → M Bool := fun env => bnd (t env) fun c => if c then u env else ret false
def tyOr (t u : Env → M Bool) : Env → M Bool := fun env => bnd (t env) fun c => if c then ret true else u env
def tyNot (t : Env → M Bool) : Env → M Bool := fun env => bnd (t env) fun c => ret (!c)
theorem dw_and1 (h : DT X W a t) : DW X W (.BoolOp .And [a] pos) t := let ⟨x, p, k⟩ := h; ⟨x, pw_and1 p, k⟩
theorem dw_or1 (h : DT X W a t) : DW X W (.BoolOp .Or [a] pos) t := let ⟨x, p, k⟩ := h; ⟨x, pw_or1 p, k⟩
theorem dw_and (h : DT X W a t) (h2 : DW X W (.BoolOp .And (b :: rest) pos) u) : DW X W (.BoolOp .And (a :: b :: rest) pos) (tyAnd t u) := by
  obtain ⟨x, p, k⟩ := h
  obtain ⟨y, p2, k2⟩ := h2
  refine ⟨_, pw_and p p2, tbind (rel := relB) (g := fun env c => if c then u env else ret false) (tk := fun c σ H Q => if c = true then y σ H Q else Q false H) k fun c c' σ H A S env r S' hS hE hx he Q hp => ?_⟩
  cases (show c = c' from hx)
  cases c with
  | true => exact k2 σ H A S env r S' hS hE he Q hp
  | false =>
    cases he
    exact hp.val hS rfl
theorem dw_or (h : DT X W a t) (h2 : DW X W (.BoolOp .Or (b :: rest) pos) u) : DW X W (.BoolOp .Or (a :: b :: rest) pos) (tyOr t u) := by
  obtain ⟨x, p, k⟩ := h
  obtain ⟨y, p2, k2⟩ := h2
  refine ⟨_, pw_or p p2, tbind (rel := relB) (g := fun env c => if c then ret true else u env) (tk := fun c σ H Q => if c = true then Q true H else y σ H Q) k fun c c' σ H A S env r S' hS hE hx he Q hp => ?_⟩
  cases (show c = c' from hx)
  cases c with
  | false => exact k2 σ H A S env r S' hS hE he Q hp
  | true =>
    cases he
    exact hp.val hS rfl
theorem dt_bool (h : DW X W e t) : DT X W e t := let ⟨x, p, k⟩ := h; ⟨x, p.pt, k⟩
theorem dt_not (h : DT X W a t) : DT X W (.UnaryOp .Not a pos) (tyNot t) := by
  obtain ⟨x, p, k⟩ := h
  refine ⟨_, pt_not p, tbind (rel := relB) (g := fun env c => ret (!c)) (tk := fun c σ H Q => Q (!c) H) k fun c c' σ H A S env r S' hS hE hx he Q hp => ?_⟩
  cases (show c = c' from hx)
  cases he
  exact hp.val hS rfl
def eAnd (f g : Env → M SV) : Env → M SV := fun env => bnd (bnd (f env) asB) fun c => if c then g env else ret (.d (.bl false))
def eOr (f g : Env → M SV) : Env → M SV := fun env => bnd (bnd (f env) asB) fun c => if c then ret (.d (.bl true)) else g env
def eNot (f : Env → M SV) : Env → M SV := fun env => bnd (bnd (f env) asB) fun c => ret (.d (.bl (!c)))
theorem de_one {op} (h : DE X W a f) : DE X W (.BoolOp op [a] pos) f := let ⟨x, p, k⟩ := h; ⟨x, pe_one p, k⟩
theorem de_and (h : DE X W a f) (h2 : DE X W (.BoolOp .And (b :: rest) pos) g) : DE X W (.BoolOp .And (a :: b :: rest) pos) (eAnd f g) := by
  obtain ⟨x, p, k⟩ := h
  obtain ⟨y, p2, k2⟩ := h2
  refine ⟨_, pe_and p p2, ?_⟩
  have z := tbind (rel := relB) (rel2 := relS X.K (gm X W)) (g := fun env c => if c then g env else ret (.d (.bl false))) (tk := fun c σ H Q => if c = true then y σ H Q else Q (.bl false) H) (tok_B k) fun c c' σ H A S env r S' hS hE hx he Q hp => by
    cases (show c = c' from hx)
    cases c with
    | true => exact k2 σ H A S env r S' hS hE he Q hp
    | false =>
      cases he
      exact hp.val hS (show Rep X.K X.mg A H (.bl false) (.bl false) by simp only [Rep])
  exact z
theorem de_or (h : DE X W a f) (h2 : DE X W (.BoolOp .Or (b :: rest) pos) g) : DE X W (.BoolOp .Or (a :: b :: rest) pos) (eOr f g) := by
  obtain ⟨x, p, k⟩ := h
  obtain ⟨y, p2, k2⟩ := h2
  refine ⟨_, pe_or p p2, ?_⟩
  have z := tbind (rel := relB) (rel2 := relS X.K (gm X W)) (g := fun env c => if c then ret (.d (.bl true)) else g env) (tk := fun c σ H Q => if c = true then Q (.bl true) H else y σ H Q) (tok_B k) fun c c' σ H A S env r S' hS hE hx he Q hp => by
    cases (show c = c' from hx)
    cases c with
    | false => exact k2 σ H A S env r S' hS hE he Q hp
    | true =>
      cases he
      exact hp.val hS (show Rep X.K X.mg A H (.bl true) (.bl true) by simp only [Rep])
  exact z
theorem de_not (h : DE X W a f) : DE X W (.UnaryOp .Not a pos) (eNot f) := by
  obtain ⟨x, p, k⟩ := h
  refine ⟨_, pe_not p, ?_⟩
  have z := tbind (rel := relB) (rel2 := relS X.K (gm X W)) (g := fun env c => ret (.d (.bl (!c)))) (tk := fun c σ H Q => Q (.bl (!c)) H) (tok_B k) fun c c' σ H A S env r S' hS hE hx he Q hp => by
    cases (show c = c' from hx)
    cases he
    exact hp.val hS (show Rep X.K X.mg A H (.bl (!c)) (.bl (!c)) by simp only [Rep])
  exact z
def eIf (t : Env → M Bool) (f g : Env → M SV) : Env → M SV := fun env => bnd (t env) fun c => if c then f env else g env
theorem de_if (h : DT X W c t) (ha : DE X W a f) (hb : DE X W b g) : DE X W (.IfExp c a b pos) (eIf t f g) := by
  obtain ⟨x, p, k⟩ := h
  obtain ⟨y, p2, k2⟩ := ha
  obtain ⟨z, p3, k3⟩ := hb
  refine ⟨_, pe_ifExp p p2 p3, tbind (rel := relB) (g := fun env c => if c then f env else g env) (tk := fun c σ H Q => if c = true then y σ H Q else z σ H Q) k fun c c' σ H A S env r S' hS hE hx he Q hp => ?_⟩
  cases (show c = c' from hx)
  cases c with
  | true => exact k2 σ H A S env r S' hS hE he Q hp
  | false => exact k3 σ H A S env r S' hS hE he Q hp
variable {es : List Expr} {fa : Env → M (List SV)}
def aNil : Env → M (List SV) := fun _ => ret []
def aCons (f : Env → M SV) (fa : Env → M (List SV)) : Env → M (List SV) := fun env => bnd (f env) fun x => bnd (fa env) fun xs => ret (x :: xs)
theorem da_nil : DA X W [] aNil := ⟨_, pa_nil, fun σ H A S env r S' hS hE he Q hp => by
  cases he
  exact hp.val hS rfl⟩
theorem da_cons (h : DE X W e f) (h2 : DA X W es fa) (hs : starEach (e :: es) X.env = (false, eval e X.env) :: starEach es X.env := by rfl) : DA X W (e :: es) (aCons f fa) := by
  obtain ⟨x, p, k⟩ := h
  obtain ⟨y, p2, k2⟩ := h2
  refine ⟨_, pa_cons p p2 hs, tbind2 (o := fun x xs => ret (x :: xs)) (tk := fun x xs σ H Q => Q (x :: xs) H) k k2 fun a as v vs σ H A S r S' hS hx hy he Q hp => ?_⟩
  cases he
  exact hp.val hS ⟨v, vs, rfl, hx, hy⟩
/-- all of them data -/
def datas : List SV → Option (List D)
  | [] => some []
  | .d x :: xs => (datas xs).map (x :: ·)
  | .ptr _ :: _ => none
  | .exc :: _ => none
  | .obj _ :: _ => none
  | .dic _ :: _ => none
theorem datas_rep {K : PySem.W.Frag} {mg : Gm} {A : List Addr} {H : Hp} : ∀ {xs : List SV} {vs : List V} {ds : List D}, RepSs K mg A H xs vs → datas xs = some ds → Reps K mg.m A H ds vs
  | [], vs, ds, h, e => by
    cases e
    simp only [Reps]
    exact h
  | .d x :: xs, vs, ds, ⟨v, r, e1, h1, h2⟩, e => by
    simp only [datas, Option.map_eq_some_iff] at e
    obtain ⟨ds', e2, e3⟩ := e
    subst e3
    simp only [Reps]
    exact ⟨v, r, e1, h1, datas_rep h2 e2⟩
  | .ptr _ :: _, _, _, _, e => by cases e
  | .exc :: _, _, _, _, e => by cases e
  | .obj _ :: _, _, _, _, e => by cases e
  | .dic _ :: _, _, _, _, e => by cases e
def lim : Nat := 16777216
theorem lim_ok {n : Nat} (h : n ≤ lim) : n ≤ sizeLine := by rw [sizeLine_eq]; exact h
def mkTup : List SV → M SV := fun xs => match datas xs with
  | some ds => if ds.length ≤ lim then ret (.d (.tup ds)) else stuck
  | none => stuck
def mkLst : List SV → M SV := fun xs => match datas xs with
  | some ds => if ds.length ≤ lim then ret (.d (.lst ds)) else stuck
  | none => stuck
/-- what is put into a field -/
def fldD : SV → Option D
  | .d x => some x
  | .ptr j => some (.own j)
  | _ => none
theorem fldD_rep {K : PySem.W.Frag} {g : Gm} {A : List Addr} {H : Hp} {sv : SV} {x : D} {v : V} (h : RepS K g A H sv v) (e : fldD sv = some x) : RepF K g.m A H x v := by
  cases sv <;> cases e
  · exact .of h
  · exact h
def fldDs : List SV → Option (List D)
  | [] => some []
  | x :: xs => match fldD x, fldDs xs with
    | some d, some ds => some (d :: ds)
    | _, _ => none
theorem fldDs_rep {K : PySem.W.Frag} {mg : Gm} {A : List Addr} {H : Hp} : ∀ {xs : List SV} {vs : List V} {ds : List D}, RepSs K mg A H xs vs → fldDs xs = some ds → RepFs K mg.m A H ds vs
  | [], vs, ds, h, e => by cases e; exact h
  | x :: xs, vs, ds, ⟨v, r, e1, h1, h2⟩, e => by
    unfold fldDs at e
    rcases e3 : fldD x with _ | d
    · rw [e3] at e; cases e
    · rcases e4 : fldDs xs with _ | ds'
      · rw [e3, e4] at e; cases e
      · rw [e3, e4] at e
        cases e
        exact ⟨v, r, e1, fldD_rep h1 e3, fldDs_rep h2 e4⟩
/-- a list of one's own -/
def mkOwn : List SV → M SV := fun xs => match fldDs xs with
  | some ds => if ds.length ≤ lim then (fun S => some (.ok (.ptr S.length), S ++ [ds])) else stuck
  | none => stuck
theorem tup_step {σ : St} {H : Hp} {A : List Addr} {S S' : Store} {as : List SV} {vs : List V} {r : R SV} {Q : VK} (hS : Sta X.K (gm X W) A H S) (hx : RepSs X.K (gm X W) A H as vs) (he : mkTup as S = some (r, S')) (hp : Po X.K (gm X W) (relS X.K (gm X W)) W Q σ A H r S') :
    vs.length ≤ sizeLine ∧ ∀ p, H p = none → Q (.ref p) (upd H p (.tup vs)) := by
  unfold mkTup at he
  rcases q : datas as with _ | ds
  · rw [q] at he; cases he
  · rw [q] at he
    have rd := datas_rep hx q
    by_cases hl : ds.length ≤ lim
    · replace he := (congrFun (if_pos hl) S).symm.trans he
      cases he
      refine ⟨by rw [← rd.length]; exact lim_ok hl, fun p hpn => hp.new hS hpn ?_⟩
      simp only [Rep]
      exact ⟨p, vs, rfl, hS.free hpn, upd_same, Reps.mono (Ext.new hpn) _ _ rd⟩
    · replace he := (congrFun (if_neg hl) S).symm.trans he
      cases he
theorem lst_step {σ : St} {H : Hp} {A : List Addr} {S S' : Store} {as : List SV} {vs : List V} {r : R SV} {Q : VK} (hS : Sta X.K (gm X W) A H S) (hx : RepSs X.K (gm X W) A H as vs) (he : mkLst as S = some (r, S')) (hp : Po X.K (gm X W) (relS X.K (gm X W)) W Q σ A H r S') :
    vs.length ≤ sizeLine ∧ ∀ p, H p = none → Q (.ref p) (upd H p (.lst vs)) := by
  unfold mkLst at he
  rcases q : datas as with _ | ds
  · rw [q] at he; cases he
  · rw [q] at he
    have rd := datas_rep hx q
    by_cases hl : ds.length ≤ lim
    · replace he := (congrFun (if_pos hl) S).symm.trans he
      cases he
      refine ⟨by rw [← rd.length]; exact lim_ok hl, fun p hpn => hp.new hS hpn ?_⟩
      simp only [Rep]
      exact ⟨p, vs, rfl, hS.free hpn, upd_same, Reps.mono (Ext.new hpn) _ _ rd⟩
    · replace he := (congrFun (if_neg hl) S).symm.trans he
      cases he
theorem own_at {A : List Addr} {p : Addr} {n : Nat} (h : n = A.length) : (A ++ [p])[n]? = some p := by
  subst h
  simp
theorem own_step {σ : St} {H : Hp} {A : List Addr} {S S' : Store} {as : List SV} {vs : List V} {r : R SV} {Q : VK} (hS : Sta X.K (gm X W) A H S) (hx : RepSs X.K (gm X W) A H as vs) (he : mkOwn as S = some (r, S')) (hp : Po X.K (gm X W) (relS X.K (gm X W)) W Q σ A H r S') :
    vs.length ≤ sizeLine ∧ ∀ p, H p = none → Q (.ref p) (upd H p (.lst vs)) := by
  unfold mkOwn at he
  rcases q : fldDs as with _ | ds
  · rw [q] at he; cases he
  · rw [q] at he
    have rd := fldDs_rep hx q
    by_cases hl : ds.length ≤ lim
    · replace he := (congrFun (if_pos hl) S).symm.trans he
      cases he
      exact ⟨by rw [← rd.length]; exact lim_ok hl, fun p hpn => hp _ _ _ (Ext.own hpn) (hS.ownF hpn rd) ⟨p, own_at hS.len, rfl, vs, upd_same⟩⟩
    · replace he := (congrFun (if_neg hl) S).symm.trans he
      cases he
theorem de_tup {x1} (h : DA X W es fa) : DE X W (.Tuple es x1 pos) (eArg mkTup fa) := by
  obtain ⟨x, p, k⟩ := h
  exact ⟨_, pe_tup p, tbind (rel := relA X.K (gm X W)) (rel2 := relS X.K (gm X W)) (g := fun _ x => mkTup x) (tk := fun (vs : List V) _ H (Q : VK) => vs.length ≤ sizeLine ∧ ∀ p, H p = none → Q (.ref p) (upd H p (.tup vs))) k fun a vs σ H A S env r S' hS hE hx he Q hp => tup_step hS hx he hp⟩
theorem de_lst (h : DA X W es fa) : DE X W (.List es pos) (eArg mkLst fa) := by
  obtain ⟨x, p, k⟩ := h
  exact ⟨_, pe_lst p, tbind (rel := relA X.K (gm X W)) (rel2 := relS X.K (gm X W)) (g := fun _ x => mkLst x) (tk := fun (vs : List V) _ H (Q : VK) => vs.length ≤ sizeLine ∧ ∀ p, H p = none → Q (.ref p) (upd H p (.lst vs))) k fun a vs σ H A S env r S' hS hE hx he Q hp => lst_step hS hx he hp⟩
theorem de_own (h : DA X W es fa) : DE X W (.List es pos) (eArg mkOwn fa) := by
  obtain ⟨x, p, k⟩ := h
  exact ⟨_, pe_lst p, tbind (rel := relA X.K (gm X W)) (rel2 := relS X.K (gm X W)) (g := fun _ x => mkOwn x) (tk := fun (vs : List V) _ H (Q : VK) => vs.length ≤ sizeLine ∧ ∀ p, H p = none → Q (.ref p) (upd H p (.lst vs))) k fun a vs σ H A S env r S' hS hE hx he Q hp => own_step hS hx he hp⟩
end
end DL
namespace DL
open PySem L2
mutual
def toPy : D → PyData
  | .non => .none
  | .bl b => .bool b
  | .int i => .int i
  | .str x => .str x
  | .tup l => .tuple (toPys l)
  | .lst l => .list (toPys l)
  | .scr l => .list (toPys l)
  | .ins _ _ _ => .none
  | .ty _ => .none
  | .cls _ => .none
  | .dct _ _ => .none
  | .kt l => .tuple (toPys l)
  | .dkk _ _ => .none
  | .own _ => .none
def toPys : List D → List PyData
  | [] => []
  | x :: xs => toPy x :: toPys xs
end
mutual
def plain : D → Bool
  | .non => true
  | .bl _ => true
  | .int _ => true
  | .str _ => true
  | .tup l => plains l
  | .lst l => plains l
  | .scr l => plains l
  | .ins _ _ _ => false
  | .ty _ => false
  | .cls _ => false
  | .dct _ _ => false
  | .kt l => plains l
  | .dkk _ _ => false
  | .own _ => false
def plains : List D → Bool
  | [] => true
  | x :: xs => plain x && plains xs
end
section
variable {K : PySem.W.Frag} {mg : Str → Option Value} {A : List Addr} {H : Hp}
mutual
theorem rep_dp : ∀ (d : D) (v : V), plain d = true → Rep K mg A H d v → Dp K H v (toPy d)
  | .non, v, _, h => by simp only [Rep] at h; subst h; exact .non
  | .bl b, v, _, h => by simp only [Rep] at h; subst h; exact .bl b
  | .int i, v, _, h => by simp only [Rep] at h; subst h; exact .int i
  | .str x, v, _, h => by simp only [Rep] at h; subst h; exact .str x
  | .tup l, v, p, h => by
    simp only [Rep] at h
    obtain ⟨a, vs, e, _, h1, r⟩ := h
    subst e
    exact .tup (SqT.of h1) (reps_dp l vs p r)
  | .lst l, v, p, h => by
    simp only [Rep] at h
    obtain ⟨a, vs, e, _, h1, r⟩ := h
    subst e
    exact .lst (SqL.of h1) (reps_dp l vs p r)
  | .scr l, v, p, h => by
    simp only [Rep] at h
    obtain ⟨a, vs, e, h1, r⟩ := h
    subst e
    exact .lst h1.sql (reps_dp l vs p r)
  | .ins _ _ _, v, p, h => by cases p
  | .ty _, v, p, h => by cases p
  | .cls _, v, p, h => by cases p
  | .dct _ _, v, p, h => by cases p
  | .dkk _ _, v, p, h => by cases p
  | .own _, v, p, h => by cases p
  | .kt l, v, p, h => by
    simp only [Rep] at h
    obtain ⟨a, vs, e, h1, r⟩ := h
    subst e
    exact .tup (h1 H) (reps_dp l vs p r)
theorem reps_dp : ∀ (ds : List D) (vs : List V), plains ds = true → Reps K mg A H ds vs → DpAll K H vs (toPys ds)
  | [], vs, _, h => by simp only [Reps] at h; subst h; exact .nil
  | d :: ds, vs, p, h => by
    simp only [Reps] at h
    obtain ⟨v, r, e, h1, h2⟩ := h
    subst e
    simp only [plains, Bool.and_eq_true] at p
    exact .cons (rep_dp d v p.1 h1) (reps_dp ds r p.2 h2)
end
end
/-- the data behind -/
def deref (S : Store) : SV → Option D
  | .d x => some x
  | .ptr k => (S[k]?).bind fun l => if clsd l = true then some (.lst l) else none
  | .exc => none
  | .obj _ => none
  | .dic _ => none
theorem deref_rep {K : PySem.W.Frag} {mg : Gm} {A : List Addr} {H : Hp} {S : Store} (hS : Sta K mg A H S) {sv : SV} {d : D} {v : V} (h : RepS K mg A H sv v) (e : deref S sv = some d) (p : plain d = true) : Dp K H v (toPy d) := by
  cases sv with
  | d x =>
    cases e
    exact rep_dp _ v p h
  | ptr k =>
    obtain ⟨a, h1, rfl, h0⟩ := h
    simp only [deref, Option.bind_eq_some_iff] at e
    obtain ⟨ds, e1, e2⟩ := e
    by_cases hc : clsd ds = true
    rotate_left
    · rw [if_neg hc] at e2; cases e2
    rw [if_pos hc] at e2
    cases e2
    obtain ⟨vs, h2, h3⟩ := hS.lstC h1 h0 e1 hc
    exact .lst (SqL.of h2) (reps_dp ds vs p h3)
  | exc => cases e
  | obj _ => cases e
  | dic _ => cases e
def eqOk (x y : D) : Bool := plain x && (plain y && (SeqAt.shaped (toPy x) && SeqAt.shaped (toPy y)))
def eqD (x y : D) : Bool := PyData.eqv (toPy x) (toPy y)
def oEq (x y : SV) : M SV := fun S => match deref S x, deref S y with
  | some d, some e => if eqOk d e = true then some (.ok (.d (.bl (eqD d e))), S) else none
  | _, _ => none
def oNe (x y : SV) : M SV := fun S => match deref S x, deref S y with
  | some d, some e => if eqOk d e = true then some (.ok (.d (.bl (!eqD d e))), S) else none
  | _, _ => none
section
variable {X : Cx} {W : WG}
theorem rok_eq : ROk X W (rEqD X.K) oEq := by
  intro a b x y σ H A S rr S' hS hx hy he Q hp
  unfold oEq at he
  rcases ea : deref S a with _ | d
  · (try dsimp only at he); rw [ea] at he; cases he
  · rcases eb : deref S b with _ | e
    · (try dsimp only at he); rw [ea, eb] at he; cases he
    · (try dsimp only at he); rw [ea, eb] at he
      dsimp only at he
      by_cases c : eqOk d e = true
      · rw [if_pos c] at he
        cases he
        simp only [eqOk, Bool.and_eq_true] at c
        exact ⟨_, _, deref_rep hS hx ea c.1, deref_rep hS hy eb c.2.1, c.2.2.1, c.2.2.2, hp.val hS (show Rep X.K X.mg A H _ _ by simp only [Rep]; rfl)⟩
      · rw [if_neg c] at he; cases he
theorem rok_ne : ROk X W (rNeD X.K) oNe := by
  intro a b x y σ H A S rr S' hS hx hy he Q hp
  unfold oNe at he
  rcases ea : deref S a with _ | d
  · (try dsimp only at he); rw [ea] at he; cases he
  · rcases eb : deref S b with _ | e
    · (try dsimp only at he); rw [ea, eb] at he; cases he
    · (try dsimp only at he); rw [ea, eb] at he
      dsimp only at he
      by_cases c : eqOk d e = true
      · rw [if_pos c] at he
        cases he
        simp only [eqOk, Bool.and_eq_true] at c
        exact ⟨_, _, deref_rep hS hx ea c.1, deref_rep hS hy eb c.2.1, c.2.2.1, c.2.2.2, hp.val hS (show Rep X.K X.mg A H _ _ by simp only [Rep]; rfl)⟩
      · rw [if_neg c] at he; cases he
/-- two ints, under a test, to a value -/
def iOp (C : Int → Int → Bool) (g : Int → Int → D) (x y : SV) : M SV := match x, y with
  | .d (.int i), .d (.int j) => if C i j = true then ret (.d (g i j)) else stuck
  | _, _ => stuck
theorem rok_iOp {C : Int → Int → Bool} {g : Int → Int → D} {C' : Int → Int → Prop} {g' : Int → Int → V} (hC : ∀ i j, C i j = true → C' i j) (hg : ∀ i j A H, Rep X.K X.mg A H (g i j) (g' i j)) : ROk X W (rI C' g') (iOp C g) := by
  intro a b x y σ H A S rr S' hS hx hy he Q hp
  unfold iOp at he
  split at he
  · rename_i i j
    have h1 : Rep X.K X.mg A H (.int i) x := hx
    have h2 : Rep X.K X.mg A H (.int j) y := hy
    simp only [Rep] at h1 h2
    by_cases c : C i j = true
    · rw [if_pos c] at he
      cases he
      exact ⟨i, j, h1, h2, hC i j c, hp.val hS (hg i j A H)⟩
    · rw [if_neg c] at he; cases he
  · cases he
def iOp0 (g : Int → Int → D) (x y : SV) : M SV := match x, y with
  | .d (.int i), .d (.int j) => ret (.d (g i j))
  | _, _ => stuck
theorem rok_iOp0 {g : Int → Int → D} {g' : Int → Int → V} (hg : ∀ i j A H, Rep X.K X.mg A H (g i j) (g' i j)) : ROk X W (rI0 g') (iOp0 g) := by
  intro a b x y σ H A S rr S' hS hx hy he Q hp
  unfold iOp0 at he
  split at he
  · rename_i i j
    have h1 : Rep X.K X.mg A H (.int i) x := hx
    have h2 : Rep X.K X.mg A H (.int j) y := hy
    simp only [Rep] at h1 h2
    cases he
    exact ⟨i, j, h1, h2, hp.val hS (hg i j A H)⟩
  · cases he
def mulOk (i j : Int) : Bool := decide (i.natAbs.log2 + j.natAbs.log2 < 1000000)
def divOk (_ j : Int) : Bool := decide (j ≠ 0) && decide (j.natAbs.log2 < 9000)
def modOk (_ j : Int) : Bool := decide (j ≠ 0)
def powOk (i j : Int) : Bool := decide (0 ≤ j) && (decide (j ≤ 1000000) && decide (i.natAbs < 2 ^ 64))
def oSub := iOp0 fun i j => .int (i - j)
def oMul := iOp mulOk fun i j => .int (i * j)
def oFdiv := iOp divOk fun i j => .int (i.fdiv j)
def oMod := iOp modOk fun i j => .int (i.fmod j)
def oPow := iOp powOk fun i j => .int (i ^ j.toNat)
def oLt := iOp0 fun i j => .bl (decide (i < j))
def oLe := iOp0 fun i j => .bl (decide (i ≤ j))
def oGt := iOp0 fun i j => .bl (decide (j < i))
def oGe := iOp0 fun i j => .bl (decide (j ≤ i))
def CDivZ (_ j : Int) : Prop := j ≠ 0 ∧ j.natAbs.log2 < 9000
theorem op_fdivZ : OpR X (binaryOp .FloorDiv) (rI CDivZ fun i j => .int (i.fdiv j)) := opI fun i j _ _ _ _ _ hc q =>
  PyProof.Rows.floordiv_int hc.1 q (.inl (PyProof.noPylong_of_log2 hc.2))
theorem rok_sub : ROk X W (rI0 fun i j => .int (i - j)) oSub := rok_iOp0 fun _ _ _ _ => by simp only [Rep]
theorem rok_mul : ROk X W (rI CMulW fun i j => .int (i * j)) oMul := rok_iOp (fun _ _ h => by simp only [mulOk, decide_eq_true_eq] at h; exact h) fun _ _ _ _ => by simp only [Rep]
theorem rok_fdiv : ROk X W (rI CDivZ fun i j => .int (i.fdiv j)) oFdiv := rok_iOp (fun _ _ h => by simp only [divOk, Bool.and_eq_true, decide_eq_true_eq] at h; exact h) fun _ _ _ _ => by simp only [Rep]
theorem rok_mod : ROk X W (rI (fun _ j => j ≠ 0) fun i j => .int (i.fmod j)) oMod := rok_iOp (fun _ _ h => of_decide_eq_true h) fun _ _ _ _ => by simp only [Rep]
theorem rok_pow : ROk X W (rI CPow fun i j => .int (i ^ j.toNat)) oPow := rok_iOp (fun _ _ h => by simp only [powOk, Bool.and_eq_true, decide_eq_true_eq] at h; exact h) fun _ _ _ _ => by simp only [Rep]
theorem rok_lt : ROk X W (rI0 fun i j => .bl (decide (i < j))) oLt := rok_iOp0 fun _ _ _ _ => by simp only [Rep]
theorem rok_le : ROk X W (rI0 fun i j => .bl (decide (i ≤ j))) oLe := rok_iOp0 fun _ _ _ _ => by simp only [Rep]
theorem rok_gt : ROk X W (rI0 fun i j => .bl (decide (j < i))) oGt := rok_iOp0 fun _ _ _ _ => by simp only [Rep]
theorem rok_ge : ROk X W (rI0 fun i j => .bl (decide (j ≤ i))) oGe := rok_iOp0 fun _ _ _ _ => by simp only [Rep]
def oNeg (x : SV) : M SV := match x with
  | .d (.int i) => ret (.d (.int (-i)))
  | _ => stuck
theorem uok_neg : UOk X W (rU fun i => .int (-i)) oNeg := by
  intro a x σ H A S rr S' hS hx he Q hp
  unfold oNeg at he
  split at he
  · rename_i i
    have h1 : Rep X.K X.mg A H (.int i) x := hx
    simp only [Rep] at h1
    cases he
    exact ⟨i, h1, hp.val hS (show Rep X.K X.mg A H (.int (-i)) _ by simp only [Rep])⟩
  · cases he
theorem OpR.or {f : Value → Value → Sem Value} {r r' : R2} (h : OpR X f r) (h' : OpR X f r') : OpR X f (fun x y H Q => r x y H Q ∨ r' x y H Q) := by
  intro pins s σ H x y v u Q I rx ry q
  rcases q with q | q
  · exact h pins s σ H x y v u Q I rx ry q
  · exact h' pins s σ H x y v u Q I rx ry q
/-- a cell that is data all through -/
def cellC (S : Store) (k : Nat) : Option (List D) := (S[k]?).bind fun l => if clsd l = true then some l else none
theorem cellC_some {S : Store} {k : Nat} {l : List D} (h : cellC S k = some l) : S[k]? = some l ∧ clsd l = true := by
  simp only [cellC, Option.bind_eq_some_iff] at h
  obtain ⟨m, h1, h2⟩ := h
  by_cases hc : clsd m = true
  · rw [if_pos hc] at h2; cases h2; exact ⟨h1, hc⟩
  · rw [if_neg hc] at h2; cases h2
theorem cellC_of {S : Store} {k : Nat} {l : List D} (h : S[k]? = some l) (hc : clsd l = true) : cellC S k = some l := by
  simp only [cellC, h, Option.bind_some, if_pos hc]
/-- a list's data, of one's own too -/
def items (S : Store) : SV → Option (List D)
  | .d (.lst l) => some l
  | .ptr k => cellC S k
  | _ => none
theorem items_rep {K : PySem.W.Frag} {mg : Gm} {A : List Addr} {H : Hp} {S : Store} (hS : Sta K mg A H S) {sv : SV} {l : List D} {v : V} (h : RepS K mg A H sv v) (e : items S sv = some l) : ∃ a vs, v = .ref a ∧ H a = some (.lst vs) ∧ Reps K mg.m A H l vs := by
  unfold items at e
  split at e
  · cases e
    have h1 : Rep K mg.m A H (.lst l) v := h
    simp only [Rep] at h1
    obtain ⟨a, vs, e1, _, h2, h3⟩ := h1
    exact ⟨a, vs, e1, h2, h3⟩
  · obtain ⟨a, h1, h2, h0⟩ := h
    obtain ⟨vs, h3, h4⟩ := hS.lstC h1 h0 (cellC_some e).1 (cellC_some e).2
    exact ⟨a, vs, h2, h3, h4⟩
  · cases e
def oAdd (x y : SV) : M SV := match x, y with
  | .d (.int i), .d (.int j) => ret (.d (.int (i + j)))
  | .d (.str i), .d (.str j) => if i.length + j.length ≤ lim then ret (.d (.str (i ++ j))) else stuck
  | x, y => fun S => match items S x, items S y with
    | some l, some m => if l.length + m.length ≤ lim then some (.ok (.d (.lst (l ++ m))), S) else none
    | _, _ => none
def rAddAll : R2 := fun x y H Q => (rI0 (fun i j => .int (i + j)) x y H Q ∨ (∃ i j, x = .str i ∧ y = .str j ∧ i.length + j.length ≤ sizeLine ∧ Q (.str (i ++ j)) H)) ∨ rCat x y H Q
theorem op_addAll : OpR X (binaryOp .Add) rAddAll := (op_add.or op_add_str).or op_cat
theorem rok_add : ROk X W rAddAll oAdd := by
  intro a b x y σ H A S rr S' hS hx hy he Q hp
  unfold oAdd at he
  split at he
  · rename_i i j
    have h1 : Rep X.K X.mg A H (.int i) x := hx
    have h2 : Rep X.K X.mg A H (.int j) y := hy
    simp only [Rep] at h1 h2
    cases he
    exact .inl (.inl ⟨i, j, h1, h2, hp.val hS (show Rep X.K X.mg A H (.int (i + j)) _ by simp only [Rep])⟩)
  · rename_i i j
    have h1 : Rep X.K X.mg A H (.str i) x := hx
    have h2 : Rep X.K X.mg A H (.str j) y := hy
    simp only [Rep] at h1 h2
    by_cases c : i.length + j.length ≤ lim
    · rw [if_pos c] at he
      cases he
      exact .inl (.inr ⟨i, j, h1, h2, lim_ok c, hp.val hS (show Rep X.K X.mg A H (.str (i ++ j)) _ by simp only [Rep])⟩)
    · rw [if_neg c] at he; cases he
  · rcases ea : items S a with _ | l
    · (try dsimp only at he); rw [ea] at he; cases he
    · rcases eb : items S b with _ | m
      · (try dsimp only at he); rw [ea, eb] at he; cases he
      · (try dsimp only at he); rw [ea, eb] at he
        dsimp only at he
        by_cases c : l.length + m.length ≤ lim
        · rw [if_pos c] at he
          cases he
          obtain ⟨p, vs, e1, h1, r1⟩ := items_rep hS hx ea
          obtain ⟨q, ws, e2, h2, r2⟩ := items_rep hS hy eb
          refine .inr ⟨p, q, vs, ws, e1, e2, h1, h2, by rw [← r1.length, ← r2.length]; exact lim_ok c, fun z hz => hp.new hS hz ?_⟩
          simp only [Rep]
          exact ⟨z, _, rfl, hS.free hz, upd_same, Reps.mono (Ext.new hz) _ _ (r1.append r2)⟩
        · rw [if_neg c] at he; cases he
def seqOf (S : Store) : SV → Option (List D)
  | .d (.lst l) => some l
  | .d (.scr l) => some l
  | .d (.tup l) => some l
  | .ptr k => cellC S k
  | _ => none
/-- what items are taken of: a tuple of the text's top too -/
def seqIx (S : Store) : SV → Option (List D)
  | .d (.kt l) => some l
  | x => seqOf S x
def oIdx (x y : SV) : M SV := match y with
  | .d (.int i) => fun S => match seqIx S x with
    | some l => match atI l i with
      | some d => some (.ok (.d d), S)
      | none => none
    | none => none
  | _ => stuck
theorem seq_rep {K : PySem.W.Frag} {mg : Gm} {A : List Addr} {H : Hp} {S : Store} (hS : Sta K mg A H S) {sv : SV} {l : List D} {v : V} (h : RepS K mg A H sv v) (e : seqOf S sv = some l) : ∃ a vs, v = .ref a ∧ (SqL K H a vs ∨ SqT K H a vs) ∧ Reps K mg.m A H l vs := by
  unfold seqOf at e
  split at e
  · cases e
    have h1 : Rep K mg.m A H (.lst l) v := h
    simp only [Rep] at h1
    obtain ⟨a, vs, e1, _, h2, h3⟩ := h1
    exact ⟨a, vs, e1, .inl (SqL.of h2), h3⟩
  · cases e
    have h1 : Rep K mg.m A H (.scr l) v := h
    simp only [Rep] at h1
    obtain ⟨a, vs, e1, h2, h3⟩ := h1
    exact ⟨a, vs, e1, .inl h2.sql, h3⟩
  · cases e
    have h1 : Rep K mg.m A H (.tup l) v := h
    simp only [Rep] at h1
    obtain ⟨a, vs, e1, _, h2, h3⟩ := h1
    exact ⟨a, vs, e1, .inr (SqT.of h2), h3⟩
  · obtain ⟨a, h1, h2, h0⟩ := h
    obtain ⟨vs, h3, h4⟩ := hS.lstC h1 h0 (cellC_some e).1 (cellC_some e).2
    exact ⟨a, vs, h2, .inl (SqL.of h3), h4⟩
  · cases e
theorem seqIx_rep {K : PySem.W.Frag} {mg : Gm} {A : List Addr} {H : Hp} {S : Store} (hS : Sta K mg A H S) {sv : SV} {l : List D} {v : V} (h : RepS K mg A H sv v) (e : seqIx S sv = some l) : ∃ a vs, v = .ref a ∧ (SqL K H a vs ∨ SqT K H a vs) ∧ Reps K mg.m A H l vs := by
  unfold seqIx at e
  split at e
  · cases e
    have h1 : Rep K mg.m A H (.kt l) v := h
    simp only [Rep] at h1
    obtain ⟨a, vs, e1, h2, h3⟩ := h1
    exact ⟨a, vs, e1, .inr (h2 H), h3⟩
  · exact seq_rep hS h e
theorem atI_rep {K : PySem.W.Frag} {mg : Str → Option Value} {A : List Addr} {H : Hp} {l : List D} {vs : List V} {i : Int} {d : D} (r : Reps K mg A H l vs) (e : atI l i = some d) : ∃ v, atI vs i = some v ∧ Rep K mg A H d v := by
  unfold atI at e ⊢
  rw [← r.length]
  rcases ej : ixN l.length i with _ | j
  · rw [ej] at e; cases e
  · rw [ej] at e
    exact r.get e
theorem rok_idx : ROk X W (rIx X.K) oIdx := by
  intro a b x y σ H A S rr S' hS hx hy he Q hp
  unfold oIdx at he
  split at he
  · rename_i i
    have h2 : Rep X.K X.mg A H (.int i) y := hy
    simp only [Rep] at h2
    rcases ea : seqIx S a with _ | l
    · (try dsimp only at he); rw [ea] at he; cases he
    · (try dsimp only at he); rw [ea] at he
      dsimp only at he
      rcases ed : atI l i with _ | d
      · (try dsimp only at he); rw [ed] at he; cases he
      · (try dsimp only at he); rw [ed] at he
        cases he
        obtain ⟨p, vs, e1, h1, r1⟩ := seqIx_rep hS hx ea
        obtain ⟨v, h3, h4⟩ := atI_rep r1 ed
        rcases h1 with h1 | h1
        · exact .inl ⟨p, vs, i, v, e1, h2, h1, h3, hp.val hS h4⟩
        · exact .inr (.inl ⟨p, vs, i, v, e1, h2, h1, h3, hp.val hS h4⟩)
  · cases he
variable {e a b c : Expr} {es : List Expr} {f g h : Env → M SV} {fa : Env → M (List SV)} {pos p : Pos} {x : Str}
theorem de_idx (ha : DE X W a f) (hb : DE X W b g) (hs : PlainIx b := by exact fun _ _ => rfl) : DE X W (.Subscript a b pos) (eOp oIdx f g) := by
  obtain ⟨ta, pa, ka⟩ := ha
  obtain ⟨tb, pb, kb⟩ := hb
  exact ⟨_, pe_ix ix_seq pa pb hs, tbind2 ka kb fun x y u v σ H A S r S' hS hx hy he Q hp => rok_idx x y u v σ H A S r S' hS hx hy he Q hp⟩
theorem CallR.or {f : Value} {r r' : List V → Hp → VK → Prop} (h : CallR X f r) (h' : CallR X f r') : CallR X f (fun xs H Q => r xs H Q ∨ r' xs H Q) := by
  intro pins s σ H xs us Q I rx q
  rcases q with q | q
  · exact h pins s σ H xs us Q I rx q
  · exact h' pins s σ H xs us Q I rx q
theorem tok_cb {r : List V → Hp → VK → Prop} {o : List SV → M SV} {t : TA} (hr : COk X W r o) (k : TOk X.K (gm X W) (relA X.K (gm X W)) W t fa) : TOk X.K (gm X W) (relS X.K (gm X W)) W (tCB r t) (fun env => bnd (fa env) o) :=
  tbind (rel := relA X.K (gm X W)) (rel2 := relS X.K (gm X W)) (g := fun _ x => o x) (tk := fun vs _ H Q => r vs H Q) k fun as vs σ H A S env rr S' hS hE hx he Q hp => hr as vs σ H A S rr S' hS hx he Q hp
theorem de_callB {id : String} {r : List V → Hp → VK → Prop} {o : List SV → M SV} (hc : CallR X (.builtin id) r) (hr : COk X W r o) (hg : Gl X x) (hm : X.mg x = none) (hv : bootBuiltins x = some (.builtin id)) (ha : DA X W (e :: es) fa) (hn : x ≠ "__name__" := by decide) (hdb : (x == ("__debug__" : Str)) = false := by decide)
    (he : starEach (e :: es) X.env = (false, eval e X.env) :: starEach es X.env := by rfl) (hpl : (backTo pos (starEach es X.env)).any (·.1) = false := by rfl) : DE X W (.Call (.Name x p) (e :: es) [] pos) (eArg o fa) := by
  obtain ⟨t, pa, k⟩ := ha
  exact ⟨_, pe_callB hc hg hm hv pa hn hdb he hpl, tok_cb hr k⟩
theorem de_callTy {T : String} {r : List V → Hp → VK → Prop} {o : List SV → M SV} (hc : CallR X (.type T) r) (hr : COk X W r o) (hg : Gl X x) (hm : X.mg x = none) (hv : bootBuiltins x = some (.type T)) (ha : DA X W (e :: es) fa) (hn : x ≠ "__name__" := by decide) (hdb : (x == ("__debug__" : Str)) = false := by decide)
    (he : starEach (e :: es) X.env = (false, eval e X.env) :: starEach es X.env := by rfl) (hpl : (backTo pos (starEach es X.env)).any (·.1) = false := by rfl) : DE X W (.Call (.Name x p) (e :: es) [] pos) (eArg o fa) := by
  obtain ⟨t, pa, k⟩ := ha
  exact ⟨_, pe_callTy hc hg hm hv pa hn hdb he hpl, tok_cb hr k⟩
theorem de_callG {id : String} {r : List V → Hp → VK → Prop} {o : List SV → M SV} (hc : CallR X (.builtin id) r) (hr : COk X W r o) (hg : Gl X x) (hm : X.mg x = some (.builtin id)) (ha : DA X W (e :: es) fa) (hdb : (x == ("__debug__" : Str)) = false := by decide)
    (he : starEach (e :: es) X.env = (false, eval e X.env) :: starEach es X.env := by rfl) (hpl : (backTo pos (starEach es X.env)).any (·.1) = false := by rfl) : DE X W (.Call (.Name x p) (e :: es) [] pos) (eArg o fa) := by
  obtain ⟨t, pa, k⟩ := ha
  exact ⟨_, pe_callBfun hc hg hm pa hdb he hpl, tok_cb hr k⟩
theorem reps1 {A : List Addr} {H : Hp} {a : SV} {vs : List V} (h : RepSs X.K (gm X W) A H [a] vs) : ∃ v, vs = [v] ∧ RepS X.K (gm X W) A H a v := by
  obtain ⟨v, r, e, h1, h2⟩ := h
  cases (show r = [] from h2)
  exact ⟨v, e, h1⟩
theorem reps2 {A : List Addr} {H : Hp} {a b : SV} {vs : List V} (h : RepSs X.K (gm X W) A H [a, b] vs) : ∃ v u, vs = [v, u] ∧ RepS X.K (gm X W) A H a v ∧ RepS X.K (gm X W) A H b u := by
  obtain ⟨v, r, e, h1, h2⟩ := h
  obtain ⟨u, e2, h3⟩ := reps1 h2
  exact ⟨v, u, by rw [e, e2], h1, h3⟩
def bLen : List SV → M SV
  | [.d (.str x)] => if x.length ≤ lim then ret (.d (.int x.length)) else stuck
  | [x] => fun S => match seqOf S x with
    | some l => some (.ok (.d (.int l.length)), S)
    | none => none
  | _ => stuck
def rLenAll (K : PySem.W.Frag) : List V → Hp → VK → Prop := fun xs H Q => (∃ p ys, xs = [.ref p] ∧ (SqL K H p ys ∨ SqT K H p ys) ∧ Q (.int ys.length) H) ∨ (∃ z, xs = [.str z] ∧ z.length ≤ sizeLine ∧ Q (.int z.length) H)
theorem call_lenAll : CallR X (.builtin "len") (rLenAll X.K) := CallR.or call_len_seq call_len_str
theorem cok_len : COk X W (rLenAll X.K) bLen := by
  intro as vs σ H A S rr S' hS hx he Q hp
  unfold bLen at he
  split at he
  · rename_i z
    obtain ⟨v, rfl, h1⟩ := reps1 hx
    have h1 : Rep X.K X.mg A H (.str z) v := h1
    simp only [Rep] at h1
    subst h1
    by_cases c : z.length ≤ lim
    · rw [if_pos c] at he
      cases he
      exact .inr ⟨z, rfl, lim_ok c, hp.val hS (show Rep X.K X.mg A H (.int _) _ by simp only [Rep])⟩
    · rw [if_neg c] at he; cases he
  · rename_i a _
    obtain ⟨v, rfl, h1⟩ := reps1 hx
    rcases ea : seqOf S a with _ | l
    · (try dsimp only at he); rw [ea] at he; cases he
    · (try dsimp only at he); rw [ea] at he
      cases he
      obtain ⟨p, ws, e1, h2, r1⟩ := seq_rep hS h1 ea
      subst e1
      exact .inl ⟨p, ws, rfl, h2, hp.val hS (show Rep X.K X.mg A H (.int _) _ by simp only [Rep]; rw [r1.length])⟩
  · cases he
def bInt : List SV → M SV
  | [.d (.int i)] => ret (.d (.int i))
  | [.d (.bl b)] => ret (.d (.int (if b then 1 else 0)))
  | _ => stuck
theorem cok_int : COk X W (fun xs H Q => (∃ i, xs = [.int i] ∧ Q (.int i) H) ∨ ∃ k, xs = [.bl k] ∧ Q (.int (if k then 1 else 0)) H) bInt := by
  intro as vs σ H A S rr S' hS hx he Q hp
  unfold bInt at he
  split at he
  · rename_i i
    obtain ⟨v, rfl, h1⟩ := reps1 hx
    have h1 : Rep X.K X.mg A H (.int i) v := h1
    simp only [Rep] at h1
    subst h1
    cases he
    exact .inl ⟨i, rfl, hp.val hS (show Rep X.K X.mg A H (.int _) _ by simp only [Rep])⟩
  · rename_i i
    obtain ⟨v, rfl, h1⟩ := reps1 hx
    have h1 : Rep X.K X.mg A H (.bl i) v := h1
    simp only [Rep] at h1
    subst h1
    cases he
    exact .inr ⟨i, rfl, hp.val hS (show Rep X.K X.mg A H (.int _) _ by simp only [Rep])⟩
  · cases he
def bAbs : List SV → M SV
  | [.d (.int i)] => ret (.d (.int (if i < 0 then -i else i)))
  | _ => stuck
theorem cok_abs : COk X W (fun xs H Q => ∃ i, xs = [.int i] ∧ Q (.int (if i < 0 then -i else i)) H) bAbs := by
  intro as vs σ H A S rr S' hS hx he Q hp
  unfold bAbs at he
  split at he
  · rename_i i
    obtain ⟨v, rfl, h1⟩ := reps1 hx
    have h1 : Rep X.K X.mg A H (.int i) v := h1
    simp only [Rep] at h1
    subst h1
    cases he
    exact ⟨i, rfl, hp.val hS (show Rep X.K X.mg A H (.int _) _ by simp only [Rep])⟩
  · cases he
def bTwo (g : Int → Int → Int) : List SV → M SV
  | [.d (.int i), .d (.int j)] => ret (.d (.int (g i j)))
  | _ => stuck
theorem cok_two {g : Int → Int → Int} : COk X W (fun xs H Q => ∃ i j, xs = [.int i, .int j] ∧ Q (.int (g i j)) H) (bTwo g) := by
  intro as vs σ H A S rr S' hS hx he Q hp
  unfold bTwo at he
  split at he
  · rename_i i j
    obtain ⟨v, u, rfl, h1, h2⟩ := reps2 hx
    have h1 : Rep X.K X.mg A H (.int i) v := h1
    have h2 : Rep X.K X.mg A H (.int j) u := h2
    simp only [Rep] at h1 h2
    subst h1 h2
    cases he
    exact ⟨i, j, rfl, hp.val hS (show Rep X.K X.mg A H (.int _) _ by simp only [Rep])⟩
  · cases he
def bMax := bTwo fun i j => if j > i then j else i
def bMin := bTwo fun i j => if j < i then j else i
def bGcd := bTwo fun i j => ((Nat.gcd i.natAbs j.natAbs : Nat) : Int)
/-- list(x): new data -/
def bList : List SV → M SV
  | [x] => fun S => match seqOf S x with
    | some l => some (.ok (.d (.lst l)), S)
    | none => none
  | _ => stuck
def bListOwn : List SV → M SV
  | [x] => fun S => match seqOf S x with
    | some l => some (.ok (.ptr S.length), S ++ [l])
    | none => none
  | _ => stuck
theorem cok_list : COk X W (fun xs H Q => ∃ p ys, xs = [.ref p] ∧ (SqL X.K H p ys ∨ SqT X.K H p ys) ∧ ∀ l, H l = none → Q (.ref l) (upd H l (.lst ys))) bList := by
  intro as vs σ H A S rr S' hS hx he Q hp
  unfold bList at he
  split at he
  · rename_i a
    obtain ⟨v, rfl, h1⟩ := reps1 hx
    rcases ea : seqOf S a with _ | l
    · (try dsimp only at he); rw [ea] at he; cases he
    · (try dsimp only at he); rw [ea] at he
      cases he
      obtain ⟨p, ws, e1, h2, r1⟩ := seq_rep hS h1 ea
      subst e1
      refine ⟨p, ws, rfl, h2, fun z hz => hp.new hS hz ?_⟩
      simp only [Rep]
      exact ⟨z, _, rfl, hS.free hz, upd_same, Reps.mono (Ext.new hz) _ _ r1⟩
  · cases he
theorem cok_listOwn : COk X W (fun xs H Q => ∃ p ys, xs = [.ref p] ∧ (SqL X.K H p ys ∨ SqT X.K H p ys) ∧ ∀ l, H l = none → Q (.ref l) (upd H l (.lst ys))) bListOwn := by
  intro as vs σ H A S rr S' hS hx he Q hp
  unfold bListOwn at he
  split at he
  · rename_i a
    obtain ⟨v, rfl, h1⟩ := reps1 hx
    rcases ea : seqOf S a with _ | l
    · (try dsimp only at he); rw [ea] at he; cases he
    · (try dsimp only at he); rw [ea] at he
      cases he
      obtain ⟨p, ws, e1, h2, r1⟩ := seq_rep hS h1 ea
      subst e1
      exact ⟨p, ws, rfl, h2, fun z hz => hp _ _ _ (Ext.own hz) (hS.own hz r1) ⟨z, own_at hS.len, rfl, ws, upd_same⟩⟩
  · cases he
/-- tuple(x) -/
def bTuple : List SV → M SV
  | [.d (.tup l)] => ret (.d (.tup l))
  | [x] => fun S => match seqOf S x with
    | some l => some (.ok (.d (.tup l)), S)
    | none => none
  | _ => stuck
def tyN : SV → Option String
  | .d .non => some "NoneType"
  | .d (.bl _) => some "bool"
  | .d (.int _) => some "int"
  | .d (.str _) => some "str"
  | .d (.tup _) => some "tuple"
  | .d (.lst _) => some "list"
  | .ptr _ => some "list"
  | _ => none
def bIsi : List SV → M SV
  | [x, .d (.ty n)] => match tyN x with
    | some t => match kitB t n with
      | some b => ret (.d (.bl b))
      | none => stuck
    | none => stuck
  | _ => stuck
theorem tyN_rep {A : List Addr} {H : Hp} {S : Store} (hS : Sta X.K (gm X W) A H S) {sv : SV} {v : V} {t : String} (h : RepS X.K (gm X W) A H sv v) (e : tyN sv = some t) : TyX X.K H v (.type t) := by
  unfold tyN at e
  split at e
  · cases e; have h : Rep X.K X.mg A H .non v := h; simp only [Rep] at h; subst h; exact .base .non
  · rename_i b; cases e; have h : Rep X.K X.mg A H (.bl b) v := h; simp only [Rep] at h; subst h; exact .base (.bl _)
  · rename_i b; cases e; have h : Rep X.K X.mg A H (.int b) v := h; simp only [Rep] at h; subst h; exact .base (.int _)
  · rename_i b; cases e; have h : Rep X.K X.mg A H (.str b) v := h; simp only [Rep] at h; subst h; exact .base (.str _)
  · rename_i b; cases e; have h : Rep X.K X.mg A H (.tup b) v := h; simp only [Rep] at h; obtain ⟨a, vs, e1, _, h2, _⟩ := h; subst e1; exact .base (.tup h2)
  · rename_i b; cases e; have h : Rep X.K X.mg A H (.lst b) v := h; simp only [Rep] at h; obtain ⟨a, vs, e1, _, h2, _⟩ := h; subst e1; exact .base (.lst h2)
  · rename_i k
    cases e
    obtain ⟨a, h1, h2, vs, h3⟩ := h
    subst h2
    exact .base (.lst h3)
  · cases e
theorem cok_isi : COk X W (rIsi X.K) bIsi := by
  intro as vs σ H A S rr S' hS hx he Q hp
  unfold bIsi at he
  split at he
  · rename_i a n
    obtain ⟨v, u, rfl, h1, h2⟩ := reps2 hx
    have h2 : Rep X.K X.mg A H (.ty n) u := h2
    simp only [Rep] at h2
    subst h2
    rcases ea : tyN a with _ | t
    · (try dsimp only at he); rw [ea] at he; cases he
    · (try dsimp only at he); rw [ea] at he
      dsimp only at he
      rcases eb : kitB t n with _ | b
      · (try dsimp only at he); rw [eb] at he; cases he
      · (try dsimp only at he); rw [eb] at he
        cases he
        exact ⟨v, _, .type t, .type n, b, rfl, .ty n, tyN_rep hS h1 ea, kit_ty eb, hp.val hS (show Rep X.K X.mg A H (.bl _) _ by simp only [Rep])⟩
  · cases he
/-- a built-in type as a value -/
theorem de_ty {T : String} (hg : Gl X x) (hm : X.mg x = none) (hv : bootBuiltins x = some (.type T)) (hn : x ≠ "__name__" := by decide) (hd : (x == ("__debug__" : Str)) = false := by decide) : DE X W (.Name x pos) (eC (.ty T)) :=
  ⟨_, pe_bltn hg hm hv (v := .ty T) rfl hn hd, tok_c fun _ _ => by simp only [Rep]⟩
end
end DL
namespace DL
open PySem L2
inductive O where
  | nx (env : Env)
  | rt (sv : SV)
  | bk (env : Env)
  | ct (env : Env)
  | er (c : Str) (fs : List Str) (l : List D) (env : Env)
abbrev SM := Env → Store → Option (O × Store)
section
variable (K : PySem.W.Frag) (mg : Gm)
def PoS (Dn : Ends) (W : WG) (A : List Addr) (H : Hp) : O → Store → Prop
  | .nx env', S' => ∀ σ' A' H', Ext A H A' H' → Sta K mg A' H' S' → EnvR K mg A' H' σ' env' → Dn.nx σ' H'
  | .rt sv, S' => ∀ v A' H', Ext A H A' H' → Sta K mg A' H' S' → RepS K mg A' H' sv v → Dn.rt v H'
  | .bk env', S' => ∀ σ' A' H', Ext A H A' H' → Sta K mg A' H' S' → EnvR K mg A' H' σ' env' → Dn.bk σ' H'
  | .ct env', S' => ∀ σ' A' H', Ext A H A' H' → Sta K mg A' H' S' → EnvR K mg A' H' σ' env' → Dn.ct σ' H'
  | .er c fs l env', S' => ∀ C dd σ' A' H', mg.m c = some (.ref C) → Ext A H A' H' → Sta K mg A' H' S' → EnvR K mg A' H' σ' env' → ErrR K mg.m A' H' dd fs l → W.w (.ref C) dd σ' H'
def SOk (W : WG) (t : TS) (F : SM) : Prop :=
  ∀ (σ : St) (H : Hp) (A : List Addr) (S : Store) (env : Env) (o : O) (S' : Store), Sta K mg A H S → EnvR K mg A H σ env → F env S = some (o, S') → ∀ Dn, PoS K mg Dn W A H o S' → t Dn σ H
end
def lift {α : Type} (env : Env) (m : M α) (k : α → Store → Option (O × Store)) : Store → Option (O × Store) := fun S => match m S with
  | some (.ok a, S') => k a S'
  | some (.err c fs l, S') => some (.er c fs l env, S')
  | none => none
theorem lift_some {α : Type} {env : Env} {m : M α} {k : α → Store → Option (O × Store)} {S S' : Store} {o : O} (he : lift env m k S = some (o, S')) :
    (∃ a S1, m S = some (.ok a, S1) ∧ k a S1 = some (o, S')) ∨ (∃ c fs l, m S = some (.err c fs l, S') ∧ o = .er c fs l env) := by
  unfold lift at he
  rcases q : m S with _ | ⟨a | ⟨c, fs, l⟩, S1⟩
  · rw [q] at he; cases he
  · rw [q] at he; exact .inl ⟨a, S1, rfl, he⟩
  · rw [q] at he; cases he; exact .inr ⟨c, fs, l, rfl, rfl⟩
section
variable {K : PySem.W.Frag} {mg : Gm} {α β : Type} {W : WG}
theorem PoS.mono {Dn : Ends} {A A' : List Addr} {H H' : Hp} {o : O} {S' : Store} (p : PoS K mg Dn W A H o S') (e : Ext A H A' H') : PoS K mg Dn W A' H' o S' := by
  cases o with
  | nx env => exact fun σ A2 H2 e2 s q => p σ A2 H2 (e.trans e2) s q
  | rt sv => exact fun σ A2 H2 e2 s q => p σ A2 H2 (e.trans e2) s q
  | bk env => exact fun σ A2 H2 e2 s q => p σ A2 H2 (e.trans e2) s q
  | ct env => exact fun σ A2 H2 e2 s q => p σ A2 H2 (e.trans e2) s q
  | er c fs l env => exact fun C dd σ A2 H2 hc e2 s q r => p C dd σ A2 H2 hc (e.trans e2) s q r
theorem slift {rel : RelT α β} {t : St → Hp → (β → Hp → Prop) → Prop} {tk : β → Ends → St → Hp → Prop} {f : Env → M α} {k : Env → α → Store → Option (O × Store)} (ha : TOk K mg rel W t f)
    (hk : ∀ (a : α) (b : β) (σ : St) (H : Hp) (A : List Addr) (S : Store) (env : Env) (o : O) (S' : Store), Sta K mg A H S → EnvR K mg A H σ env → rel A H a b → k env a S = some (o, S') → ∀ Dn, PoS K mg Dn W A H o S' → tk b Dn σ H) :
    SOk K mg W (fun Dn σ H => t σ H fun x H1 => tk x Dn σ H1) (fun env => lift env (f env) (k env)) := by
  intro σ H A S env o S' hS hE he Dn hp
  rcases lift_some he with ⟨a, S1, ef, q⟩ | ⟨c, fs, l, ef, rfl⟩
  · exact ha σ H A S env _ S1 hS hE ef _ fun b A' H' e s z => hk a b σ H' A' S1 env o S' s (hE.mono e) z q Dn (hp.mono e)
  · exact ha σ H A S env _ _ hS hE ef _ fun C dd A' H' hc e s r => hp C dd σ A' H' hc e s (hE.mono e) r
end
section
variable (X : Cx) (W : WG)
def DS (st : Stmt) (F : SM) : Prop := ∃ t : TS, PS X st t ∧ SOk X.K (gm X W) W t F
def DSs (st : List Stmt) (F : SM) : Prop := ∃ t : TS, PSs X st t ∧ SOk X.K (gm X W) W t F
end
section
variable {X : Cx} {W : WG} {e a b : Expr} {f g : Env → M SV} {t : Env → M Bool} {F G : SM} {st : Stmt} {rest : List Stmt} {pos : Pos}
def sNop : SM := fun env S => some (.nx env, S)
def sSeq (F G : SM) : SM := fun env S => match F env S with
  | some (.nx env', S') => G env' S'
  | x => x
def sDrop (f : Env → M SV) : SM := fun env => lift env (f env) fun _ S => some (.nx env, S)
def sSet (i : Nat) (f : Env → M SV) : SM := fun env => lift env (f env) fun a S => some (.nx (env.set i (some a)), S)
def sRet (f : Env → M SV) : SM := fun env => lift env (f env) fun a S => some (.rt a, S)
def sRetN : SM := fun env S => some (.rt (.d .non), S)
def sIf (t : Env → M Bool) (F G : SM) : SM := fun env => lift env (t env) fun c => if c then F env else G env
theorem ds_nil : DSs X W [] sNop := ⟨_, pss_nil, fun σ H A S env o S' hS hE he Dn hp => by
  cases he
  exact hp σ A H (Ext.refl A H) hS hE⟩
theorem sok_seq {t u : TS} (k1 : SOk X.K (gm X W) W t F) (k2 : SOk X.K (gm X W) W u G) : SOk X.K (gm X W) W (tSeq t u) (sSeq F G) := by
  intro σ H A S env o S' hS hE he Dn hp
  unfold sSeq at he
  rcases q : F env S with _ | ⟨o1, S1⟩
  · rw [q] at he; cases he
  · rw [q] at he
    cases o1 with
    | nx env1 => exact k1 σ H A S env _ S1 hS hE q _ fun σ' A' H' e s r => k2 σ' H' A' S1 env1 o S' s r he Dn (hp.mono e)
    | rt sv => cases he; exact k1 σ H A S env _ _ hS hE q _ hp
    | bk sv => cases he; exact k1 σ H A S env _ _ hS hE q _ hp
    | ct sv => cases he; exact k1 σ H A S env _ _ hS hE q _ hp
    | er c fs l sv => cases he; exact k1 σ H A S env _ _ hS hE q _ hp
theorem ds_cons (h : DS X W st F) (h2 : DSs X W rest G) : DSs X W (st :: rest) (sSeq F G) := by
  obtain ⟨x, p, k⟩ := h
  obtain ⟨y, p2, k2⟩ := h2
  exact ⟨_, pss_cons p p2, sok_seq k k2⟩
theorem ds_one (h : DS X W st F) : DSs X W [st] F := let ⟨x, p, k⟩ := h; ⟨_, pss_one p, k⟩
def sBrk : SM := fun env S => some (.bk env, S)
def sCnt : SM := fun env S => some (.ct env, S)
theorem ds_expr (h : DE X W e f) (hs : swapsWith e none pos.line X.env = pure false := by rfl) : DS X W (.Expr e pos) (sDrop f) := by
  obtain ⟨x, p, k⟩ := h
  exact ⟨_, ps_expr p hs, slift (rel := relS X.K (gm X W)) (tk := fun _ Dn σ H => Dn.nx σ H) (k := fun env _ S => some (.nx env, S)) k fun a v σ H A S env o S' hS hE hx he Dn hp => by
    cases he
    exact hp σ A H (Ext.refl A H) hS hE⟩
theorem sok_set {i : Nat} {te : TE} (k : TOk X.K (gm X W) (relS X.K (gm X W)) W te f) : SOk X.K (gm X W) W (tAsg te (gName i)) (sSet i f) :=
  slift (rel := relS X.K (gm X W)) (tk := fun v Dn σ H => Dn.nx (σ.set i (some v)) H) (k := fun env a S => some (.nx (env.set i (some a)), S)) k fun a v σ H A S env o S' hS hE hx he Dn hp => by
    cases he
    exact hp _ A H (Ext.refl A H) hS (hE.set hx)
theorem ds_set (i : Nat) {x : Str} {pos' : Pos} (hN : X.N.Nodup) (h : DE X W e f) (hi : X.N[i]? = some x := by rfl) (hx : Loc X.env.scope x := by first | exact Or.inl rfl | exact Or.inr rfl)
    (hs : swapsWith e (some (.Name x pos')) pos.line X.env = pure false := by rfl) (hf : X.fn x = true ∨ X.env.scope.names.lookup x = some .local := by first | exact .inl rfl | exact .inr rfl) :
    DS X W (.Assign [.Name x pos'] e pos) (sSet i f) := by
  obtain ⟨t, p, k⟩ := h
  exact ⟨_, ps_set hN hi hx p hs hf, sok_set k⟩
theorem ds_ret (h : DE X W e f) : DS X W (.Return (some e) pos) (sRet f) := by
  obtain ⟨x, p, k⟩ := h
  exact ⟨_, ps_ret p, slift (rel := relS X.K (gm X W)) (tk := fun v Dn σ H => Dn.rt v H) (k := fun env a S => some (.rt a, S)) k fun a v σ H A S env o S' hS hE hx he Dn hp => by
    cases he
    exact hp v A H (Ext.refl A H) hS hx⟩
theorem ds_if {as bs : List Stmt} (h : DT X W e t) (h1 : DSs X W as F) (h2 : DSs X W bs G) : DS X W (.If e as bs pos) (sIf t F G) := by
  obtain ⟨x, p, k⟩ := h
  obtain ⟨y, p1, k1⟩ := h1
  obtain ⟨z, p2, k2⟩ := h2
  refine ⟨_, ps_if p p1 p2, slift (rel := relB) (tk := fun c Dn σ H => if c = true then y Dn σ H else z Dn σ H) (k := fun env c => if c then F env else G env) k fun a v σ H A S env o S' hS hE hx he Dn hp => ?_⟩
  cases (show a = v from hx)
  cases a with
  | true => exact k1 σ H A S env o S' hS hE he Dn hp
  | false => exact k2 σ H A S env o S' hS hE he Dn hp
/-- xs[i] = e -/
def sSetI (fo fi fe : Env → M SV) : SM := fun env => lift env (bnd (fe env) fun v => bnd (fo env) fun o => bnd (fi env) fun i => ret (v, o, i)) fun q S => match q with
  | (.d x, .ptr k, .d (.int n)) => match S[k]? with
    | some l => match ixN l.length n with
      | some j => some (.nx env, S.set k (l.set j x))
      | none => none
    | none => none
  | _ => none
theorem ds_seti {o i : Expr} {fo fi : Env → M SV} {pos' : Pos} (pg : ∀ {to ti : TE}, PE X o to → PE X i ti → PG X (.Subscript o i pos') (gSub to ti rSetL)) (he : DE X W e f) (ho : DE X W o fo) (hi : DE X W i fi) (hs : swapsWithSole [.Subscript o i pos'] e pos.line X.env = pure false := by rfl) (hw : swappedStores [.Subscript o i pos'] e X.env = pure none := by rfl) :
    DS X W (.Assign [.Subscript o i pos'] e pos) (sSetI fo fi f) := by
  obtain ⟨te, pe, ke⟩ := he
  obtain ⟨to, po, ko⟩ := ho
  obtain ⟨ti, pi, ki⟩ := hi
  refine ⟨_, ps_asg pe (pg po pi) hs hw, ?_⟩
  intro σ H A S env o S' hS hE he Dn hp
  rcases lift_some he with ⟨⟨v, ov, iv⟩, S1, ef, q⟩ | ⟨c, fs, l, ef, rfl⟩
  · rcases bnd_some ef with ⟨v1, S2, ef1, ef2⟩ | ⟨_, _, _, _, z⟩
    · refine ke σ H A S env _ S2 hS hE ef1 _ fun vv A' H' e1 s1 r1 => ?_
      rcases bnd_some ef2 with ⟨o1, S3, ef3, ef4⟩ | ⟨_, _, _, _, z⟩
      · refine ko σ H' A' S2 env _ S3 s1 (hE.mono e1) ef3 _ fun oo A2 H2 e2 s2 r2 => ?_
        rcases bnd_some ef4 with ⟨i1, S4, ef5, ef6⟩ | ⟨_, _, _, _, z⟩
        · refine ki σ H2 A2 S3 env _ S4 s2 ((hE.mono e1).mono e2) ef5 _ fun ii A3 H3 e3 s3 r3 => ?_
          cases ef6
          split at q
          · rename_i x k n q0
            cases q0
            rcases eS : S1[k]? with _ | l
            · rw [eS] at q; cases q
            · rw [eS] at q
              dsimp only at q
              rcases ej : ixN l.length n with _ | j
              · rw [ej] at q; cases q
              · rw [ej] at q
                cases q
                obtain ⟨aa, h1, h2, h0⟩ := RepS.mono (x := .ptr k) e3 r2
                have h3 : Rep X.K X.mg A3 H3 (.int n) ii := r3
                simp only [Rep] at h3
                obtain ⟨ws, h4, h5⟩ := s3.lst h1 h0 eS
                have rx : Rep X.K X.mg A3 H3 x vv := RepS.mono (x := .d x) (e2.trans e3) r1
                obtain ⟨s4, e4⟩ := s3.setF h1 h0 (h5.set j (.of rx))
                exact ⟨aa, ws, n, j, h2, h3, h4, by rw [← h5.length]; exact ej, hp σ A3 _ (((e1.trans e2).trans e3).trans e4) s4 ((((hE.mono e1).mono e2).mono e3).mono e4)⟩
          · cases q
        · cases z
      · cases z
    · cases z
  · rcases bnd_some ef with ⟨v1, S2, ef1, ef2⟩ | ⟨c', fs', l', ef1, z⟩
    · refine ke σ H A S env _ S2 hS hE ef1 _ fun vv A' H' e1 s1 r1 => ?_
      rcases bnd_some ef2 with ⟨o1, S3, ef3, ef4⟩ | ⟨c', fs', l', ef3, z⟩
      · refine ko σ H' A' S2 env _ S3 s1 (hE.mono e1) ef3 _ fun oo A2 H2 e2 s2 r2 => ?_
        rcases bnd_some ef4 with ⟨i1, S4, ef5, ef6⟩ | ⟨c', fs', l', ef5, z⟩
        · cases ef6
        · cases z
          exact ki σ H2 A2 S3 env _ _ s2 ((hE.mono e1).mono e2) ef5 _ fun C dd A3 H3 hc e s r => hp C dd σ A3 H3 hc ((e1.trans e2).trans e) s (((hE.mono e1).mono e2).mono e) r
      · cases z
        exact ko σ H' A' S2 env _ _ s1 (hE.mono e1) ef3 _ fun C dd A3 H3 hc e s r => hp C dd σ A3 H3 hc (e1.trans e) s ((hE.mono e1).mono e) r
    · cases z
      exact ke σ H A S env _ _ hS hE ef1 _ fun C dd A' H' hc e s r => hp C dd σ A' H' hc e s (hE.mono e) r
/-- xs.append(e) -/
def asPtr : SV → M Nat
  | .ptr k => ret k
  | _ => stuck
def sApp (fo fe : Env → M SV) : SM := fun env => lift env (bnd (bnd (fo env) asPtr) fun k => bnd (fe env) fun v => ret (k, v)) fun q S => match q with
  | (k, .d x) => match S[k]? with
    | some l => if l.length < lim then some (.nx env, S.set k (l ++ [x])) else none
    | none => none
  | _ => none
theorem ds_app {o : Expr} {fo : Env → M SV} (pe : ∀ {to : TE} {ta : TA}, PE X o to → PA X [e] ta → PS X st (tDrop (tBM X.K "list" rAppend to ta))) (ho : DE X W o fo) (he : DE X W e f) (hs : starEach [e] X.env = (false, eval e X.env) :: starEach [] X.env := by rfl) :
    DS X W st (sApp fo f) := by
  obtain ⟨to, po, ko⟩ := ho
  obtain ⟨te, pe', ke⟩ := he
  refine ⟨_, pe po (pa_cons pe' pa_nil hs), ?_⟩
  intro σ H A S env o S' hS hE he Dn hp
  have key : ∀ {m : M (Nat × SV)} , True := fun {m} => trivial
  rcases lift_some he with ⟨⟨k, v⟩, S1, ef, q⟩ | ⟨c, fs, l, ef, rfl⟩
  · rcases bnd_some ef with ⟨k1, S2, ef1, ef2⟩ | ⟨_, _, _, _, z⟩
    · rcases bnd_some ef1 with ⟨o1, S2', ef1', ef1b⟩ | ⟨_, _, _, _, z⟩
      · unfold asPtr at ef1b
        split at ef1b
        · rename_i k0
          cases ef1b
          refine ko σ H A S env _ S2 hS hE ef1' _ fun oo A1 H1 e1 s1 r1 => ?_
          rcases bnd_some ef2 with ⟨v1, S3, ef3, ef4⟩ | ⟨_, _, _, _, z⟩
          · cases ef4
            obtain ⟨aa, h1, h2, ws0, hw0⟩ := (show RepS X.K (gm X W) A1 H1 (.ptr k) oo from r1)
            subst h2
            refine ⟨.inl ⟨rfl, ws0, SqL.of hw0⟩, ?_⟩
            refine ke σ H1 A1 S2 env _ _ s1 (hE.mono e1) ef3 _ fun vv A2 H2 e2 s2 r2 => ?_
            obtain ⟨aa', h1', h2', h0'⟩ := RepS.mono (x := .ptr k) e2 r1
            cases h2'
            split at q
            · rename_i x q0
              cases q0
              rcases eS : S1[k]? with _ | l
              · rw [eS] at q; cases q
              · rw [eS] at q
                dsimp only at q
                by_cases c : l.length < lim
                · rw [if_pos c] at q
                  cases q
                  obtain ⟨ws, h4, h5⟩ := s2.lst h1' h0' eS
                  have rx : Rep X.K X.mg A2 H2 x vv := r2
                  have rr : RepFs X.K X.mg A2 H2 (l ++ [x]) (ws ++ [vv]) := h5.append ⟨vv, [], rfl, .of rx, rfl⟩
                  obtain ⟨s4, e4⟩ := s2.setF h1' h0' rr
                  refine ⟨aa, ws, vv, rfl, rfl, h4, ?_, hp σ A2 _ ((e1.trans e2).trans e4) s4 (((hE.mono e1).mono e2).mono e4)⟩
                  rw [← h5.length, sizeLine_eq]
                  exact c
                · rw [if_neg c] at q; cases q
            · cases q
          · cases z
        · cases ef1b
      · cases z
    · cases z
  · rcases bnd_some ef with ⟨o1, S2, ef1, ef2⟩ | ⟨c', fs', l', ef1, z⟩
    · rcases bnd_some ef1 with ⟨o2, S2', ef1', ef1b⟩ | ⟨_, _, _, _, z⟩
      · unfold asPtr at ef1b
        split at ef1b
        · rename_i k0
          cases ef1b
          refine ko σ H A S env _ S2 hS hE ef1' _ fun oo A1 H1 e1 s1 r1 => ?_
          obtain ⟨aa, h1, h2, ws0, hw0⟩ := (show RepS X.K (gm X W) A1 H1 (.ptr _) oo from r1)
          subst h2
          refine ⟨.inl ⟨rfl, ws0, SqL.of hw0⟩, ?_⟩
          rcases bnd_some ef2 with ⟨v1, S3, ef3, ef4⟩ | ⟨c', fs', l', ef3, z⟩
          · cases ef4
          · cases z
            exact ke σ H1 A1 S2 env _ _ s1 (hE.mono e1) ef3 _ fun C dd A3 H3 hc e s r => hp C dd σ A3 H3 hc (e1.trans e) s ((hE.mono e1).mono e) r
        · cases ef1b
      · cases z
    · rcases bnd_some ef1 with ⟨o2, S2', ef1', ef1b⟩ | ⟨c2, fs2, l2, ef0, z2⟩
      · unfold asPtr at ef1b
        split at ef1b
        · cases ef1b
        · cases ef1b
      · cases z
        cases z2
        exact ko σ H A S env _ _ hS hE ef0 _ fun C dd A3 H3 hc e s r => hp C dd σ A3 H3 hc e s (hE.mono e) r
end
end DL
namespace DL
open PySem L2
/-- lists of one's own that must not change meanwhile -/
abbrev KK := Option (List (Nat × List D))
def keepOk (kk : KK) (ds : List D) (S : Store) : Prop := match kk with
  | none => True
  | some l => ∀ p ∈ l, S[p.1]? = some p.2
theorem keepOk_app {kk : KK} {ds : List D} {S T : Store} (h : keepOk kk ds S) : keepOk kk ds (S ++ T) := by
  cases kk with
  | none => trivial
  | some l => exact fun p hp => by rw [List.getElem?_append_left (List.getElem?_eq_some_iff.mp (h p hp)).1]; exact h p hp
structure JOk (K : PySem.W.Frag) (mg : Gm) (J : It) (ds : List D) (kk : KK) (inv : List Addr → Hp → Store → Prop) : Prop where
  go : ∀ i A H S, inv A H S → i < ds.length → J.go i H
  stop : ∀ A H S, inv A H S → J.stop ds.length H
  yld : ∀ i A H S x H' d, Sta K mg A H S → inv A H S → ds[i]? = some d → J.yld i H x H' → Ext A H A H' ∧ Sta K mg A H' S ∧ inv A H' S ∧ Rep K mg.m A H' d x
  keep : ∀ A H S A' H' S', Sta K mg A H S → inv A H S → Ext A H A' H' → Sta K mg A' H' S' → keepOk kk ds S' → inv A' H' S'
section
variable (X : Cx) (W : WG)
def PoI (Rr : It → Hp → Prop) (σ : St) (A : List Addr) (H : Hp) : R (List D × KK) → Store → Prop
  | .ok (ds, kk), S' => ∀ J inv A' H', Ext A H A' H' → Sta X.K (gm X W) A' H' S' → JOk X.K (gm X W) J ds kk inv → inv A' H' S' → keepOk kk ds S' → Rr J H'
  | .err c fs l, S' => ∀ C dd A' H', X.mg c = some (.ref C) → Ext A H A' H' → Sta X.K (gm X W) A' H' S' → ErrR X.K X.mg A' H' dd fs l → W.w (.ref C) dd σ H'
def IOk (wi : TI) (f : Env → M (List D × KK)) : Prop :=
  ∀ (σ : St) (H : Hp) (A : List Addr) (S : Store) (env : Env) (r : R (List D × KK)) (S' : Store), Sta X.K (gm X W) A H S → EnvR X.K (gm X W) A H σ env → f env S = some (r, S') → ∀ Rr, PoI X W Rr σ A H r S' → wi σ H Rr
def DI (tg iter : Expr) (f : Env → M (List D × KK)) : Prop := ∃ wi, PI X tg iter wi ∧ IOk X W wi f
end
section
variable {K : PySem.W.Frag} {mg : Gm}
theorem jok_list {a : Addr} {ds : List D} : JOk K mg (Itl K a) ds none (fun A H S => ∃ vs, SqX K A H a vs ∧ Reps K mg.m A H ds vs) where
  go := fun i A H S ⟨vs, h, r⟩ hi => by
    have hi' : i < vs.length := by rw [← r.length]; exact hi
    exact ⟨vs, vs[i], h.sql, List.getElem?_eq_getElem hi'⟩
  stop := fun A H S ⟨vs, h, r⟩ => ⟨vs, h.sql, by rw [← r.length]; exact Nat.le_refl _⟩
  yld := fun i A H S x H' d hS hI hd hy => by
    obtain ⟨rfl, hy⟩ := hy
    obtain ⟨vs, h, r⟩ := hI
    obtain ⟨v, h1, h2⟩ := r.get hd
    have e := hy vs h.sql
    rw [h1] at e
    cases e
    exact ⟨Ext.refl A _, hS, ⟨vs, h, r⟩, h2⟩
  keep := fun A H S A' H' S' hS ⟨vs, h, r⟩ e _ _ => ⟨vs, h.mono e, Reps.mono e _ _ r⟩
theorem jok_ptr {a : Addr} {k : Nat} {ds : List D} (hc : clsd ds = true) : JOk K mg (Itl K a) ds (some [(k, ds)]) (fun A H S => A[k]? = some a ∧ ∃ vs, H a = some (.lst vs) ∧ Reps K mg.m A H ds vs) where
  go := fun i A H S ⟨_, vs, h, r⟩ hi => by
    have hi' : i < vs.length := by rw [← r.length]; exact hi
    exact ⟨vs, vs[i], SqL.of h, List.getElem?_eq_getElem hi'⟩
  stop := fun A H S ⟨_, vs, h, r⟩ => ⟨vs, SqL.of h, by rw [← r.length]; exact Nat.le_refl _⟩
  yld := fun i A H S x H' d hS hI hd hy => by
    obtain ⟨rfl, hy⟩ := hy
    obtain ⟨ha, vs, h, r⟩ := hI
    obtain ⟨v, h1, h2⟩ := r.get hd
    have e := hy vs (SqL.of h)
    rw [h1] at e
    cases e
    exact ⟨Ext.refl A _, hS, ⟨ha, vs, h, r⟩, h2⟩
  keep := fun A H S A' H' S' hS ⟨ha, vs, h, r⟩ e hS' hk => by
    have ha' : A'[k]? = some a := by
      obtain ⟨l, rfl, _⟩ := e.app
      rw [List.getElem?_append_left (List.getElem?_eq_some_iff.mp ha).1]; exact ha
    obtain ⟨ws, h1, h2⟩ := hS'.lstC ha' (e.kl a vs h) (hk _ (List.mem_singleton.mpr rfl)) hc
    exact ⟨ha', ws, h1, h2⟩
theorem jok_tup {a : Addr} {ds : List D} : JOk K mg (Itt K a) ds none (fun A H S => ∃ vs, a ∉ A ∧ H a = some (.tup vs) ∧ Reps K mg.m A H ds vs) where
  go := fun i A H S ⟨vs, _, h, r⟩ hi => by
    have hi' : i < vs.length := by rw [← r.length]; exact hi
    exact ⟨vs, vs[i], SqT.of h, List.getElem?_eq_getElem hi'⟩
  stop := fun A H S ⟨vs, _, h, r⟩ => ⟨vs, SqT.of h, by rw [← r.length]; exact Nat.le_refl _⟩
  yld := fun i A H S x H' d hS hI hd hy => by
    obtain ⟨rfl, hy⟩ := hy
    obtain ⟨vs, n, h, r⟩ := hI
    obtain ⟨v, h1, h2⟩ := r.get hd
    have e := hy vs (SqT.of h)
    rw [h1] at e
    cases e
    exact ⟨Ext.refl A _, hS, ⟨vs, n, h, r⟩, h2⟩
  keep := fun A H S A' H' S' hS ⟨vs, n, h, r⟩ e _ _ => ⟨vs, e.notin h n, e.keep _ _ h n, Reps.mono e _ _ r⟩
/-- lo, lo + 1, .. -/
def rangeD (lo : Int) (n : Nat) : List D := (List.range n).map fun i => .int (lo + (i : Nat))
theorem rangeD_length (lo : Int) (n : Nat) : (rangeD lo n).length = n := by simp [rangeD]
theorem rangeD_get {lo : Int} {n i : Nat} (h : i < n) : (rangeD lo n)[i]? = some (.int (lo + (i : Nat))) := by simp [rangeD, h]
theorem jok_range {lo : Int} {n : Nat} : JOk K mg (Itr lo n) (rangeD lo n) none (fun _ _ _ => True) where
  go := fun i A H S _ hi => by rw [rangeD_length] at hi; exact hi
  stop := fun A H S _ => by rw [rangeD_length]; exact Nat.le_refl n
  yld := fun i A H S x H' d hS _ hd hy => by
    obtain ⟨rfl, rfl⟩ := hy
    have hi : i < n := by
      have := (List.getElem?_eq_some_iff.mp hd).1
      rwa [rangeD_length] at this
    rw [rangeD_get hi] at hd
    cases hd
    exact ⟨Ext.refl A _, hS, trivial, by simp only [Rep]⟩
  keep := fun _ _ _ _ _ _ _ _ _ _ _ => trivial
end
section
variable {X : Cx} {W : WG} {e a b tg iter : Expr} {es : List Expr} {f g : Env → M SV} {fa : Env → M (List SV)} {t : Env → M Bool} {F G : SM} {st : Stmt} {rest : List Stmt} {pos p : Pos}
/-- the things of a list or a tuple, in their order -/
def walkD (x : SV) : M (List D × KK) := match x with
  | .d (.lst l) => ret (l, none)
  | .d (.scr l) => ret (l, none)
  | .d (.tup l) => ret (l, none)
  | .ptr k => fun S => match S[k]? with
    | some l => if clsd l = true then some (.ok (l, some [(k, l)]), S) else none
    | none => none
  | _ => stuck
def iOf (f : Env → M SV) : Env → M (List D × KK) := fun env => bnd (f env) walkD
theorem iok_bind {te : TE} {wk : V → Hp → (It → Hp → Prop) → Prop} {o : SV → M (List D × KK)} (k : TOk X.K (gm X W) (relS X.K (gm X W)) W te f)
    (hk : ∀ (a : SV) (v : V) (σ : St) (H : Hp) (A : List Addr) (S : Store) (r : R (List D × KK)) (S' : Store), Sta X.K (gm X W) A H S → RepS X.K (gm X W) A H a v → o a S = some (r, S') → ∀ Rr, PoI X W Rr σ A H r S' → wk v H Rr) :
    IOk X W (fun σ H R => te σ H fun x H1 => wk x H1 R) (fun env => bnd (f env) o) := by
  intro σ H A S env r S' hS hE he Rr hp
  rcases bnd_some he with ⟨a, S1, ef, q⟩ | ⟨c, fs, l, ef, rfl⟩
  · refine k σ H A S env _ S1 hS hE ef _ fun v A' H' e s z => hk a v σ H' A' S1 r S' s z q Rr ?_
    cases r with
    | ok q => exact fun J inv A2 H2 e2 s2 j i kp => hp J inv A2 H2 (e.trans e2) s2 j i kp
    | err c fs l => exact fun C dd A2 H2 hc e2 s2 z => hp C dd A2 H2 hc (e.trans e2) s2 z
  · exact k σ H A S env _ _ hS hE ef _ hp
def wkLT (K : PySem.W.Frag) (x : V) (H1 : Hp) (R : It → Hp → Prop) : Prop := (∃ a, x = .ref a ∧ (∃ xs, SqL K H1 a xs) ∧ R (Itl K a) H1) ∨ (∃ a, x = .ref a ∧ (∃ xs, SqT K H1 a xs) ∧ R (Itt K a) H1)
theorem iter_new {pins : List (Addr × Obj)} {σ : St} {H1 : Hp} {s1 : Shared} {R : It → Hp → Prop} {J : It} {o : Obj} {tn : Nat → Heap → Prop} (I1 : Inv X pins σ H1 s1)
    (tu : Turn X.prog X.w X.K tg J [s1.heap.objs.size] s1.heap.objs.size tn) (t0 : tn 0 (s1.heap.push o)) (q : R J H1) :
    PIE X pins σ tg R (.ref s1.heap.objs.size) { s1 with heap := s1.heap.push o } := by
  have keepH : ∀ b u, s1.heap.get? b = some u → (s1.heap.push o).get? b = some u := fun _ _ => Heap.get?_push_of_some _
  refine ⟨_, [s1.heap.objs.size], tn, J, H1, rfl, I1.kept (t' := s1.toks) keepH, tu, t0, ?_, q⟩
  rintro b hb
  cases List.mem_singleton.mp hb
  exact I1.fpOk (Nat.le_refl _) (I1.hok.fresh (Nat.le_refl _))
/-- over a list or a tuple -/
theorem pi_lt {te : TE} (he : PE X iter te) : PI X tg iter (fun σ H R => te σ H fun x H1 => wkLT X.K x H1 R) where
  run := fun ps0 s0 σ0 H0 R I h => thn (he.run ps0 s0 σ0 H0 _ I h) fun v s1 hv => by
    obtain ⟨x, H1, I1, r1, ⟨a, rfl, ⟨xs, hq⟩, q⟩ | ⟨a, rfl, ⟨xs, hq⟩, q⟩⟩ := hv
    · cases r1
      obtain ⟨its, rv, p, _⟩ := I1.list hq
      exact wpAny_pyIter_list p.isList (iter_new I1 (turn_list a _) ⟨_, Heap.get?_push_size _ rfl, rfl, rfl⟩ q)
    · cases r1
      obtain ⟨its, rv, p, _⟩ := I1.tuple hq
      exact wpAny_pyIter_tuple (show s1.heap.IsTuple a its.toArray from p) (iter_new I1 (turn_tuple a _) ⟨_, Heap.get?_push_size _ rfl, rfl, rfl⟩ q)
theorem di_lt (h : DE X W iter f) : DI X W tg iter (iOf f) := by
  obtain ⟨te, p, k⟩ := h
  refine ⟨_, pi_lt p, iok_bind (wk := fun x H1 R => wkLT X.K x H1 R) k fun a v σ H A S r S' hS hx he Rr hp => ?_⟩
  unfold walkD at he
  split at he
  · rename_i l
    cases he
    have h1 : Rep X.K X.mg A H (.lst l) v := hx
    simp only [Rep] at h1
    obtain ⟨q, vs, e1, n, h2, h3⟩ := h1
    exact .inl ⟨q, e1, ⟨vs, SqL.of h2⟩, hp _ _ A H (Ext.refl A H) hS jok_list ⟨vs, .inl ⟨.inl h2, n⟩, h3⟩ trivial⟩
  · rename_i l
    cases he
    have h1 : Rep X.K X.mg A H (.scr l) v := hx
    simp only [Rep] at h1
    obtain ⟨q, vs, e1, h2, h3⟩ := h1
    exact .inl ⟨q, e1, ⟨vs, h2.sql⟩, hp _ _ A H (Ext.refl A H) hS jok_list ⟨vs, h2, h3⟩ trivial⟩
  · rename_i l
    cases he
    have h1 : Rep X.K X.mg A H (.tup l) v := hx
    simp only [Rep] at h1
    obtain ⟨q, vs, e1, n, h2, h3⟩ := h1
    exact .inr ⟨q, e1, ⟨vs, SqT.of h2⟩, hp _ _ A H (Ext.refl A H) hS jok_tup ⟨vs, n, h2, h3⟩ trivial⟩
  · rename_i k
    rcases eS : S[k]? with _ | l
    · rw [eS] at he; cases he
    · rw [eS] at he
      dsimp only at he
      by_cases hc : clsd l = true
      rotate_left
      · rw [if_neg hc] at he; cases he
      rw [if_pos hc] at he
      cases he
      obtain ⟨q, h1, e1, h0⟩ := (show RepS X.K (gm X W) A H (.ptr k) v from hx)
      obtain ⟨vs, h2, h3⟩ := hS.lstC h1 h0 eS hc
      exact .inl ⟨q, e1, ⟨vs, SqL.of h2⟩, hp _ _ A H (Ext.refl A H) hS (jok_ptr hc) ⟨h1, vs, h2, h3⟩ (fun p hp => by rw [List.mem_singleton.mp hp]; exact eS)⟩
  · cases he
def rngOk (j : Int) : Bool := decide (-(2 ^ 62) ≤ j) && decide (j < 2 ^ 62)
def walkR1 (xs : List SV) : M (List D × KK) := match xs with
  | [.d (.int j)] => if rngOk j = true then ret (rangeD 0 j.toNat, none) else stuck
  | _ => stuck
theorem iok_args {ta : TA} {wk : List V → Hp → (It → Hp → Prop) → Prop} {o : List SV → M (List D × KK)} (k : TOk X.K (gm X W) (relA X.K (gm X W)) W ta fa)
    (hk : ∀ (a : List SV) (v : List V) (σ : St) (H : Hp) (A : List Addr) (S : Store) (r : R (List D × KK)) (S' : Store), Sta X.K (gm X W) A H S → RepSs X.K (gm X W) A H a v → o a S = some (r, S') → ∀ Rr, PoI X W Rr σ A H r S' → wk v H Rr) :
    IOk X W (fun σ H R => ta σ H fun x H1 => wk x H1 R) (fun env => bnd (fa env) o) := by
  intro σ H A S env r S' hS hE he Rr hp
  rcases bnd_some he with ⟨a, S1, ef, q⟩ | ⟨c, fs, l, ef, rfl⟩
  · refine k σ H A S env _ S1 hS hE ef _ fun v A' H' e s z => hk a v σ H' A' S1 r S' s z q Rr ?_
    cases r with
    | ok q => exact fun J inv A2 H2 e2 s2 j i kp => hp J inv A2 H2 (e.trans e2) s2 j i kp
    | err c fs l => exact fun C dd A2 H2 hc e2 s2 z => hp C dd A2 H2 hc (e.trans e2) s2 z
  · exact k σ H A S env _ _ hS hE ef _ hp
theorem di_range1 {a : Expr} (h : DA X W [a] fa) (hg : Gl X "range") (hm : X.mg "range" = none) (hs : starEach [a] X.env = [(false, eval a X.env)] := by rfl) : DI X W tg (.Call (.Name "range" p) [a] [] pos) (eArg walkR1 fa) := by
  obtain ⟨ta, pa, k⟩ := h
  refine ⟨_, pi_range1 hg hm pa hs, iok_args (wk := fun vs H1 R => ∃ j : Int, vs = [.int j] ∧ -(2 ^ 62) ≤ j ∧ j < 2 ^ 62 ∧ R (Itr 0 j.toNat) H1) k fun a v σ H A S r S' hS hx he Rr hp => ?_⟩
  unfold walkR1 at he
  split at he
  · rename_i j
    by_cases c : rngOk j = true
    · rw [if_pos c] at he
      cases he
      obtain ⟨w, rfl, h1⟩ := reps1 hx
      have h1 : Rep X.K X.mg A H (.int j) w := h1
      simp only [Rep] at h1
      subst h1
      simp only [rngOk, Bool.and_eq_true, decide_eq_true_eq] at c
      exact ⟨j, rfl, c.1, c.2, hp _ _ A H (Ext.refl A H) hS jok_range trivial trivial⟩
    · rw [if_neg c] at he; cases he
  · cases he
inductive Tg where
  | one (i : Nat)
  | many (is : List Nat)
def Tg.slots : Tg → List Nat
  | .one i => [i]
  | .many is => is
def setMany : Env → List Nat → List D → Option Env
  | env, [], [] => some env
  | env, i :: is, d :: ds => setMany (env.set i (some (.d d))) is ds
  | _, _, _ => none
def setManyV : St → List Nat → List V → St
  | σ, i :: is, v :: vs => setManyV (σ.set i (some v)) is vs
  | σ, _, _ => σ
def setT (t : Tg) (d : D) (env : Env) : Option Env := match t, d with
  | .one i, d => some (env.set i (some (.d d)))
  | .many is, .tup ds => setMany env is ds
  | _, _ => none
/-- the target's rule: it stores at its slots -/
def GOk (X : Cx) (W : WG) (t : Tg) (g : TG) : Prop := ∀ (A : List Addr) (H : Hp) (σ : St) (env env' : Env) (d : D) (v : V), Rep X.K X.mg A H d v → EnvR X.K (gm X W) A H σ env → setT t d env = some env' →
  ∃ vs, ∀ Q : St → Hp → Prop, (EnvR X.K (gm X W) A H (setManyV σ t.slots vs) env' → Q (setManyV σ t.slots vs) H) → g v σ H Q
theorem gok_one (i : Nat) : GOk X W (.one i) (gName i) := fun A H σ env env' d v hr hE he => ⟨[v], fun Q q => by
  cases he
  exact q (hE.set (sv := .d d) hr)⟩
theorem setMany_rep {A : List Addr} {H : Hp} : ∀ {is : List Nat} {ds : List D} {vs : List V} {σ : St} {env env' : Env}, Reps X.K X.mg A H ds vs → EnvR X.K (gm X W) A H σ env → setMany env is ds = some env' → EnvR X.K (gm X W) A H (setManyV σ is vs) env' ∧ is.length = ds.length
  | [], [], vs, σ, env, env', r, hE, he => by
    cases he
    exact ⟨hE, rfl⟩
  | [], _ :: _, vs, σ, env, env', r, hE, he => by cases he
  | _ :: _, [], vs, σ, env, env', r, hE, he => by cases he
  | i :: is, d :: ds, vs, σ, env, env', r, hE, he => by
    simp only [Reps] at r
    obtain ⟨v, r', e, h1, h2⟩ := r
    subst e
    obtain ⟨h3, h4⟩ := setMany_rep (is := is) (σ := σ.set i (some v)) h2 (hE.set (sv := .d d) h1) he
    exact ⟨h3, by rw [List.length_cons, List.length_cons, h4]⟩
/-- several names: what stores them one by one -/
def NOk (is : List Nat) (t : TGs) : Prop := ∀ (σ : St) (H : Hp) (vs : List V) (Q : St → Hp → Prop), vs.length = is.length → Q (setManyV σ is vs) H → t vs σ H Q
theorem nok_nil : NOk [] gNil := fun σ H vs Q hl q => by
  cases vs with
  | nil => exact ⟨rfl, q⟩
  | cons _ _ => cases hl
theorem nok_cons {i : Nat} {is : List Nat} {t : TGs} (h : NOk is t) : NOk (i :: is) (gCons (gName i) t) := fun σ H vs Q hl q => by
  cases vs with
  | nil => cases hl
  | cons v vs => exact ⟨v, vs, rfl, h _ H vs Q (by simpa using hl) q⟩
theorem gok_many {is : List Nat} {t : TGs} {n : Nat} (h : NOk is t) (hn : n = is.length) : GOk X W (.many is) (gTup X.K n t) := fun A H σ env env' d v hr hE he => by
  unfold setT at he
  split at he
  · rename_i i' hd; cases hd
  · rename_i is' ds hd
    cases hd
    simp only [Rep] at hr
    obtain ⟨a, vs, e, _, h1, r⟩ := hr
    obtain ⟨h2, h3⟩ := setMany_rep r hE he
    exact ⟨vs, fun Q q => ⟨a, vs, e, SqT.of h1, by rw [hn, h3, ← r.length], h σ H vs Q (by rw [h3, ← r.length]) (q h2)⟩⟩
  · cases he
def gsOf : List Nat → TGs
  | [] => gNil
  | i :: is => gCons (gName i) (gsOf is)
theorem nok_gs : ∀ is : List Nat, NOk is (gsOf is)
  | [] => nok_nil
  | _ :: is => nok_cons (nok_gs is)
def gT (K : PySem.W.Frag) : Tg → TG
  | .one i => gName i
  | .many is => gTup K is.length (gsOf is)
theorem gok_all : ∀ t : Tg, GOk X W t (gT X.K t)
  | .one i => gok_one i
  | .many is => gok_many (nok_gs is) rfl
def DG (X : Cx) (tg : Expr) (t : Tg) : Prop := PG X tg (gT X.K t)
def DGs (X : Cx) (tg : List Expr) (is : List Nat) : Prop := PGs X tg (gsOf is)
theorem dg_name (i : Nat) {x : Str} (hN : X.N.Nodup) (hi : X.N[i]? = some x := by rfl) (hx : Loc X.env.scope x := by first | exact Or.inl rfl | exact Or.inr rfl) (hf : X.fn x = true ∨ X.env.scope.names.lookup x = some .local := by first | exact .inl rfl | exact .inr rfl) :
    DG X (.Name x pos) (.one i) := pg_name hN hi hx hf
theorem dgs_nil : DGs X [] [] := pgs_nil
open Classical in
noncomputable def forL (t : Tg) (kk : KK) (all : List D) (F : SM) : List D → SM
  | [], env, S => some (.nx env, S)
  | d :: ds, env, S => match setT t d env with
    | none => none
    | some env1 => match F env1 S with
      | some (.nx env2, S2) => if keepOk kk all S2 then forL t kk all F ds env2 S2 else none
      | some (.ct env2, S2) => if keepOk kk all S2 then forL t kk all F ds env2 S2 else none
      | some (.bk env2, S2) => some (.nx env2, S2)
      | some (.rt sv, S2) => some (.rt sv, S2)
      | some (.er c fs l env2, S2) => some (.er c fs l env2, S2)
      | none => none
noncomputable def sFor (t : Tg) (f : Env → M (List D × KK)) (F : SM) : SM := fun env => lift env (f env) fun q S => forL t q.2 q.1 F q.1 env S
theorem sok_for {tb : TS} {wi : TI} {g : TG} {tt : Tg} {fi : Env → M (List D × KK)} (ki : IOk X W wi fi) (kg : GOk X W tt g) (kb : SOk X.K (gm X W) W tb F) : SOk X.K (gm X W) W (tFor wi g tb) (sFor tt fi F) := by
  intro σ H A S env o S' hS hE he Dn hp
  rcases lift_some he with ⟨⟨ds, kk⟩, S1, ef, q⟩ | ⟨c, fs, l, ef, rfl⟩
  · refine ki σ H A S env _ S1 hS hE ef _ ?_
    intro J inv A1 H1 e1 s1 jok hinv hkp
    dsimp only at q hkp
    refine ⟨fun i m σ2 H2 => m = ds.length - i ∧ i ≤ ds.length ∧ ∃ A2 S2 env2, Ext A H A2 H2 ∧ Sta X.K (gm X W) A2 H2 S2 ∧ EnvR X.K (gm X W) A2 H2 σ2 env2 ∧ inv A2 H2 S2 ∧ forL tt kk ds F (ds.drop i) env2 S2 = some (o, S'), ⟨ds.length, by simp, Nat.zero_le _, A1, S1, env, e1, s1, hE.mono e1, hinv, by simpa using q⟩, ?_⟩
    rintro i m σ2 H2 ⟨rfl, hi, A2, S2, env2, e2, s2, E2, i2, q2⟩
    by_cases hlt : i < ds.length
    · refine .inr ⟨jok.go i A2 H2 S2 i2 hlt, ?_⟩
      have hd : ds[i]? = some ds[i] := List.getElem?_eq_getElem hlt
      have hdrop : ds.drop i = ds[i] :: ds.drop (i + 1) := List.drop_eq_getElem_cons hlt
      rw [hdrop] at q2
      unfold forL at q2
      rcases eT : setT tt ds[i] env2 with _ | env3
      · rw [eT] at q2; cases q2
      · rw [eT] at q2
        dsimp only at q2
        rcases eF : F env3 S2 with _ | ⟨o3, S3⟩
        · rw [eF] at q2; cases q2
        · rw [eF] at q2
          refine ⟨fun σ4 H4 => ∃ A4 S4 env4, Ext A H A4 H4 ∧ Sta X.K (gm X W) A4 H4 S4 ∧ EnvR X.K (gm X W) A4 H4 σ4 env4 ∧ inv A4 H4 S4 ∧ forL tt kk ds F (ds.drop (i + 1)) env4 S4 = some (o, S'), fun σ4 H4 h4 => ⟨ds.length - (i + 1), by omega, rfl, hlt, h4⟩, ?_⟩
          intro x H3 hy
          obtain ⟨e3, s3, i3, r3⟩ := jok.yld i A2 H2 S2 x H3 ds[i] s2 i2 hd hy
          obtain ⟨vs, kg'⟩ := kg A2 H3 σ2 env2 env3 _ x r3 (E2.mono e3) eT
          refine kg' _ fun E3 => ?_
          refine kb _ H3 A2 S2 env3 o3 S3 s3 E3 eF _ ?_
          have e23 := e2.trans e3
          cases o3 with
          | nx env4 =>
            dsimp only at q2
            by_cases hk : keepOk kk ds S3
            · rw [if_pos hk] at q2
              exact fun σ4 A4 H4 e4 s4 E4 => ⟨A4, S3, env4, e23.trans e4, s4, E4, jok.keep A2 H3 S2 A4 H4 S3 s3 i3 e4 s4 hk, q2⟩
            · rw [if_neg hk] at q2; cases q2
          | ct env4 =>
            dsimp only at q2
            by_cases hk : keepOk kk ds S3
            · rw [if_pos hk] at q2
              exact fun σ4 A4 H4 e4 s4 E4 => ⟨A4, S3, env4, e23.trans e4, s4, E4, jok.keep A2 H3 S2 A4 H4 S3 s3 i3 e4 s4 hk, q2⟩
            · rw [if_neg hk] at q2; cases q2
          | bk env4 =>
            cases q2
            exact fun σ4 A4 H4 e4 s4 E4 => hp σ4 A4 H4 (e23.trans e4) s4 E4
          | rt sv =>
            cases q2
            exact fun v A4 H4 e4 s4 r4 => hp v A4 H4 (e23.trans e4) s4 r4
          | er c fs l env4 =>
            cases q2
            exact fun C dd σ4 A4 H4 hc e4 s4 E4 r4 => hp C dd σ4 A4 H4 hc (e23.trans e4) s4 E4 r4
    · have hi' : i = ds.length := by omega
      subst hi'
      refine .inl ⟨jok.stop A2 H2 S2 i2, ?_⟩
      rw [List.drop_length] at q2
      unfold forL at q2
      cases q2
      exact hp σ2 A2 H2 e2 s2 E2
  · exact ki σ H A S env _ _ hS hE ef _ fun C dd A' H' hc e s r => hp C dd σ A' H' hc e s (hE.mono e) r
theorem ds_for {tt : Tg} {fi : Env → M (List D × KK)} {body : List Stmt} (hp : PassesOwn (model X.prog X.w) X.A X.env X.xe) (hc : X.calm = true) (hi : DI X W tg iter fi) (hg : DG X tg tt) (hb : DSs X W body F) (hs : ∀ x, foldedSetIterable iter X.env x = pure x := by intro _; rfl) : DS X W (.For tg iter body [] pos) (sFor tt fi F) := by
  obtain ⟨wi, pi, ki⟩ := hi
  obtain ⟨tb, pb, kb⟩ := hb
  exact ⟨_, ps_for hp hc pi hg pb hs, sok_for ki (gok_all tt) kb⟩
def whL (t : Env → M Bool) (F : SM) : Nat → SM
  | 0, _, _ => none
  | n + 1, env, S => lift env (t env) (fun c S1 => if c then match F env S1 with
      | some (.nx env2, S2) => whL t F n env2 S2
      | some (.ct env2, S2) => whL t F n env2 S2
      | some (.bk env2, S2) => some (.nx env2, S2)
      | some (.rt sv, S2) => some (.rt sv, S2)
      | some (.er c fs l env2, S2) => some (.er c fs l env2, S2)
      | none => none else some (.nx env, S1)) S
theorem ds_while {body : List Stmt} (n : Nat) (hp : PassesOwn (model X.prog X.w) X.A X.env X.xe) (hc : DT X W e t) (hb : DSs X W body F) : DS X W (.While e body [] pos) (whL t F n) := by
  obtain ⟨tc, pc, kc⟩ := hc
  obtain ⟨tb, pb, kb⟩ := hb
  refine ⟨_, ps_while hp pc pb, ?_⟩
  intro σ H A S env o S' hS hE he Dn hp
  refine ⟨fun m σ2 H2 => ∃ A2 S2 env2, Ext A H A2 H2 ∧ Sta X.K (gm X W) A2 H2 S2 ∧ EnvR X.K (gm X W) A2 H2 σ2 env2 ∧ whL t F m env2 S2 = some (o, S'), ⟨n, A, S, env, Ext.refl A H, hS, hE, he⟩, ?_⟩
  rintro m σ2 H2 ⟨A2, S2, env2, e2, s2, E2, q2⟩
  cases m with
  | zero => cases q2
  | succ m =>
    unfold whL at q2
    rcases lift_some q2 with ⟨c, S3, ef, q⟩ | ⟨c, fs, l, ef, rfl⟩
    · refine kc σ2 H2 A2 S2 env2 _ S3 s2 E2 ef _ fun b A3 H3 e3 s3 hb => ?_
      cases (show c = b from hb)
      have e23 := e2.trans e3
      cases c with
      | false =>
        cases q
        exact hp σ2 A3 H3 e23 s3 (E2.mono e3)
      | true =>
        rw [if_pos rfl] at q ⊢
        rcases eF : F env2 S3 with _ | ⟨o3, S4⟩
        · rw [eF] at q; cases q
        · rw [eF] at q
          refine ⟨fun σ4 H4 => ∃ A4 S4 env4, Ext A H A4 H4 ∧ Sta X.K (gm X W) A4 H4 S4 ∧ EnvR X.K (gm X W) A4 H4 σ4 env4 ∧ whL t F m env4 S4 = some (o, S'), fun σ4 H4 h4 => ⟨m, Nat.lt_succ_self m, h4⟩, ?_⟩
          refine kb σ2 H3 A3 S3 env2 o3 S4 s3 (E2.mono e3) eF _ ?_
          cases o3 with
          | nx env4 => exact fun σ4 A4 H4 e4 s4 E4 => ⟨A4, S4, env4, e23.trans e4, s4, E4, q⟩
          | ct env4 => exact fun σ4 A4 H4 e4 s4 E4 => ⟨A4, S4, env4, e23.trans e4, s4, E4, q⟩
          | bk env4 => cases q; exact fun σ4 A4 H4 e4 s4 E4 => hp σ4 A4 H4 (e23.trans e4) s4 E4
          | rt sv => cases q; exact fun v A4 H4 e4 s4 r4 => hp v A4 H4 (e23.trans e4) s4 r4
          | er c fs l env4 => cases q; exact fun C dd σ4 A4 H4 hc e4 s4 E4 r4 => hp C dd σ4 A4 H4 hc (e23.trans e4) s4 E4 r4
    · exact kc σ2 H2 A2 S2 env2 _ _ s2 E2 ef _ fun C dd A' H' hc e s r => hp C dd σ2 A' H' hc (e2.trans e) s (E2.mono e) r
/-- a, b = x, y -/
def sPar (i j : Nat) (fa : Env → M (List SV)) : SM := fun env => lift env (fa env) fun xs S => match xs with
  | [x, y] => some (.nx ((env.set i (some x)).set j (some y)), S)
  | _ => none
theorem ds_par (i j : Nat) {x y : Str} {px py pt : Pos} {kt k2 pt2} (ps : ∀ {tr : TA}, PA X [a, b] tr → PS X (.Assign [.Tuple [.Name x px, .Name y py] kt pt] (.Tuple [a, b] k2 pt2) pos) (tPar i j tr)) (h : DA X W [a, b] fa) :
    DS X W (.Assign [.Tuple [.Name x px, .Name y py] kt pt] (.Tuple [a, b] k2 pt2) pos) (sPar i j fa) := by
  obtain ⟨tr, p, k⟩ := h
  refine ⟨_, ps p, slift (rel := relA X.K (gm X W)) (tk := fun vs Dn σ H => ∃ v w, vs = [v, w] ∧ Dn.nx ((σ.set i (some v)).set j (some w)) H) (k := fun env xs S => match xs with
    | [x, y] => some (.nx ((env.set i (some x)).set j (some y)), S)
    | _ => none) k fun as vs σ H A S env o S' hS hE hx he Dn hp => ?_⟩
  split at he
  · rename_i x y
    cases he
    obtain ⟨v, w, rfl, h1, h2⟩ := reps2 hx
    exact ⟨v, w, rfl, hp _ A H (Ext.refl A H) hS ((hE.set h1).set h2)⟩
  · cases he
end
end DL
namespace DL
open PySem L2
def wipeE (env : Env) : List Nat → Env
  | [] => env
  | v :: vs => (wipeE env vs).set v none
theorem envr_wipe {K : PySem.W.Frag} {mg : Gm} {A : List Addr} {H : Hp} {σ : St} {env : Env} (h : EnvR K mg A H σ env) : ∀ vs : List Nat, EnvR K mg A H (wipe σ vs) (wipeE env vs)
  | [] => h
  | v :: vs => (envr_wipe h vs).unset none
theorem wipe_get (σ : St) : ∀ (vs : List Nat) (j : Nat), (wipe σ vs)[j]? = if j ∈ vs ∧ j < σ.length then some none else σ[j]?
  | [], j => by simp [wipe]
  | v :: vs, j => by
    unfold wipe
    by_cases hj : j = v
    · subst hj
      by_cases hl : j < σ.length
      · rw [List.getElem?_set_self (by rw [wipe_length]; exact hl), if_pos ⟨by simp, hl⟩]
      · rw [if_neg (fun z => hl z.2), List.getElem?_eq_none_iff.mpr (by rw [List.length_set, wipe_length]; omega), List.getElem?_eq_none_iff.mpr (by omega)]
    · rw [List.getElem?_set_ne (fun e => hj e.symm), wipe_get σ vs j]
      by_cases hm : j ∈ vs
      · by_cases hl : j < σ.length
        · rw [if_pos ⟨hm, hl⟩, if_pos ⟨List.mem_cons_of_mem _ hm, hl⟩]
        · rw [if_neg (fun z => hl z.2), if_neg (fun z => hl z.2)]
      · rw [if_neg (fun z => hm z.1), if_neg (fun z => by
          rcases List.mem_cons.mp z.1 with e | e
          · exact hj e
          · exact hm e)]
theorem setManyV_length : ∀ (is : List Nat) (vs : List V) (σ : St), (setManyV σ is vs).length = σ.length
  | [], vs, σ => by cases vs <;> rfl
  | _ :: _, [], σ => rfl
  | i :: is, v :: vs, σ => by
    show (setManyV (σ.set i (some v)) is vs).length = _
    rw [setManyV_length is vs, List.length_set]
theorem setManyV_get : ∀ (is : List Nat) (vs : List V) (σ : St) (j : Nat), j ∉ is → (setManyV σ is vs)[j]? = σ[j]?
  | [], vs, σ, j, _ => by cases vs <;> rfl
  | _ :: _, [], σ, j, _ => rfl
  | i :: is, v :: vs, σ, j, h => by
    show (setManyV (σ.set i (some v)) is vs)[j]? = _
    rw [setManyV_get is vs _ j (fun z => h (List.mem_cons_of_mem _ z)), List.getElem?_set_ne (fun e => h (by rw [e]; exact List.mem_cons_self))]
theorem wipe_setMany (σ : St) (ws is : List Nat) (vs : List V) (hs : ∀ i, i ∈ is → i ∈ ws) : wipe (setManyV (wipe σ ws) is vs) ws = wipe σ ws := by
  apply List.ext_getElem?
  intro j
  rw [wipe_get, wipe_get, setManyV_length, wipe_length]
  by_cases c : j ∈ ws ∧ j < σ.length
  · rw [if_pos c, if_pos c]
  · rw [if_neg c, if_neg c]
    by_cases hj : j ∈ is
    · have hl : ¬ j < σ.length := fun z => c ⟨hs j hj, z⟩
      rw [List.getElem?_eq_none_iff.mpr (by rw [setManyV_length, wipe_length]; omega), List.getElem?_eq_none_iff.mpr (by omega)]
    · rw [setManyV_get is vs _ j hj, wipe_get, if_neg c]
def lcNext (kk : KK) (all : List D) (k : Nat) (x : D) (S : Store) : Option Store := match S[k]? with
  | some acc => if acc.length < lim then some (S.set k (acc ++ [x])) else none
  | none => none
open Classical in
noncomputable def lcL (t : Tg) (kk : KK) (all : List D) (cond : Env → M Bool) (fe : Env → M SV) (k : Nat) (env : Env) : List D → Store → Option Store
  | [], S => some S
  | d :: ds, S => match setT t d env with
    | none => none
    | some env1 => match cond env1 S with
      | some (.ok true, S1) => match fe env1 S1 with
        | some (.ok (.d x), S2) => match lcNext kk all k x S2 with
          | some S3 => if keepOk kk all S3 then lcL t kk all cond fe k env ds S3 else none
          | none => none
        | some (.ok (.ptr j), S2) => match lcNext kk all k (.own j) S2 with
          | some S3 => if keepOk kk all S3 then lcL t kk all cond fe k env ds S3 else none
          | none => none
        | _ => none
      | some (.ok false, S1) => if keepOk kk all S1 then lcL t kk all cond fe k env ds S1 else none
      | _ => none
open Classical in
noncomputable def eLc (ws : List Nat) (t : Tg) (f : Env → M (List D × KK)) (cond : Env → M Bool) (fe : Env → M SV) : Env → M SV := fun env => bnd (f env) fun q S => match lcL t q.2 q.1 cond fe S.length (wipeE env ws) q.1 (S ++ [[]]) with
  | some S' => match S'[S.length]? with
    | some acc => if Cal S S' ∧ clsd acc = true then some (.ok (.d (.lst acc)), S'.take S.length) else none
    | none => none
  | none => none
open Classical in
noncomputable def eLcOwn (ws : List Nat) (t : Tg) (f : Env → M (List D × KK)) (cond : Env → M Bool) (fe : Env → M SV) : Env → M SV := fun env => bnd (f env) fun q S => match lcL t q.2 q.1 cond fe S.length (wipeE env ws) q.1 (S ++ [[]]) with
  | some S' => match S'[S.length]? with
    | some acc => if Cal S S' ∧ clsd acc = true then some (.ok (.ptr S.length), S'.take S.length ++ [acc]) else none
    | none => none
  | none => none
def tYesD : Env → M Bool := fun _ => ret true
def WF : WX := fun _ _ _ _ => False
section
variable {X : Cx} {W : WG}
/-- a wish within a block: nothing may be raised -/
def WG.blk (W : WG) : WG := ⟨WF, W.G, W.mono, W.sub, W.xa⟩
theorem tok_yes {K : PySem.W.Frag} {g : Gm} {W : WG} : TOk K g relB W tYes tYesD := fun σ H A S env r S' hS hE he Q hp => by
  cases he
  exact hp.val hS rfl
theorem lc_main {wi : TI} {g : TG} {tt : TT} {te : TE} {t : Tg} {f : Env → M (List D × KK)} {cond : Env → M Bool} {fe : Env → M SV} {ws : List Nat} (ki : IOk X W wi f) (kg : GOk X W t g) (kt : TOk X.K (gm X W) relB W.blk tt cond) (ke : TOk X.K (gm X W) (relS X.K (gm X W)) W.blk te fe) (hsub : ∀ i, i ∈ t.slots → i ∈ ws)
    {σ : St} {H : Hp} {A : List Addr} {S S1 : Store} {env : Env} {Q : VK} {ds : List D} {kk : KK} {S' : Store} (hS : Sta X.K (gm X W) A H S) (hE : EnvR X.K (gm X W) A H σ env) (ef : f env S = some (.ok (ds, kk), S1))
    (q : lcL t kk ds cond fe S1.length (wipeE env ws) ds (S1 ++ [[]]) = some S')
    (hq : ∀ p H' A1 H1 l, Sta X.K (gm X W) A1 H1 S1 → Ext A H A1 H1 → Ext A1 H1 (A1 ++ p :: l) H' → Sta X.K (gm X W) (A1 ++ p :: l) H' S' → A1.length = S1.length → (∃ vs, H' p = some (.lst vs)) → Q (.ref p) H') : tLc wi g tt te ws σ H Q := by
  refine ki σ H A S env _ S1 hS hE ef _ ?_
  intro J inv A1 H1 e1 s1 jok hinv hkp Dd hD
  have s2 : Sta X.K (gm X W) (A1 ++ [Dd]) (upd H1 Dd (.lst [])) (S1 ++ [[]]) := s1.own hD (by simp only [Reps])
  have e2 : Ext A1 H1 (A1 ++ [Dd]) (upd H1 Dd (.lst [])) := Ext.own hD
  have hk1 : keepOk kk ds (S1 ++ [[]]) := keepOk_app hkp
  have i2 := jok.keep A1 H1 S1 _ _ _ s1 hinv e2 s2 hk1
  have E1 := (hE.mono e1).mono e2
  refine ⟨fun i m H2 => m = ds.length - i ∧ i ≤ ds.length ∧ ∃ l S2, Ext A1 H1 (A1 ++ Dd :: l) H2 ∧ Ext (A1 ++ [Dd]) (upd H1 Dd (.lst [])) (A1 ++ Dd :: l) H2 ∧ Sta X.K (gm X W) (A1 ++ Dd :: l) H2 S2 ∧ inv (A1 ++ Dd :: l) H2 S2 ∧ lcL t kk ds cond fe S1.length (wipeE env ws) (ds.drop i) S2 = some S',
    ⟨ds.length, by simp, Nat.zero_le _, [], _, e2, Ext.refl _ _, s2, i2, by simpa using q⟩, ?_⟩
  rintro i m H2 ⟨rfl, hi, l, S2, x1, x2, y2, j2, q2⟩
  have hlen1 : S1.length = A1.length := s1.len
  by_cases hlt : i < ds.length
  · refine .inr ⟨jok.go i _ H2 S2 j2 hlt, ?_⟩
    have hd : ds[i]? = some ds[i] := List.getElem?_eq_getElem hlt
    have hdrop : ds.drop i = ds[i] :: ds.drop (i + 1) := List.drop_eq_getElem_cons hlt
    rw [hdrop] at q2
    unfold lcL at q2
    rcases eT : setT t ds[i] (wipeE env ws) with _ | env3
    · rw [eT] at q2; cases q2
    · rw [eT] at q2
      dsimp only at q2
      refine ⟨fun H4 => ∃ l S4, Ext A1 H1 (A1 ++ Dd :: l) H4 ∧ Ext (A1 ++ [Dd]) (upd H1 Dd (.lst [])) (A1 ++ Dd :: l) H4 ∧ Sta X.K (gm X W) (A1 ++ Dd :: l) H4 S4 ∧ inv (A1 ++ Dd :: l) H4 S4 ∧ lcL t kk ds cond fe S1.length (wipeE env ws) (ds.drop (i + 1)) S4 = some S', fun H4 h4 => ⟨ds.length - (i + 1), by omega, rfl, hlt, h4⟩, ?_⟩
      intro x H3 hy
      obtain ⟨e3, s3, i3, r3⟩ := jok.yld i _ H2 S2 x H3 ds[i] y2 j2 hd hy
      have E3 : EnvR X.K (gm X W) (A1 ++ Dd :: l) H3 (wipe σ ws) (wipeE env ws) := envr_wipe ((E1.mono x2).mono e3) ws
      obtain ⟨vs, kg'⟩ := kg _ H3 (wipe σ ws) (wipeE env ws) env3 _ x r3 E3 eT
      refine kg' _ fun E4 => ⟨wipe_setMany σ ws _ vs hsub, ?_⟩
      rcases eC : cond env3 S2 with _ | ⟨c3 | ⟨_, _, _⟩, S3⟩
      · rw [eC] at q2; cases q2
      · rw [eC] at q2
        refine kt _ H3 _ S2 env3 _ S3 s3 E4 eC _ fun b A5 H5 e5 s5 hb => ?_
        cases (show c3 = b from hb)
        cases c3 with
        | false =>
          dsimp only at q2
          rw [if_neg Bool.false_ne_true]
          by_cases hk : keepOk kk ds S3
          · rw [if_pos hk] at q2
            obtain ⟨l5, rfl, hl5⟩ := e5.app
            have a5 : A1 ++ Dd :: l ++ l5 = A1 ++ Dd :: (l ++ l5) := by simp
            rw [a5] at e5 s5
            refine ⟨l ++ l5, S3, (x1.trans e3).trans e5, (x2.trans e3).trans e5, s5, ?_, q2⟩
            exact jok.keep _ H3 S2 _ H5 S3 s3 i3 e5 s5 hk
          · rw [if_neg hk] at q2; cases q2
        | true =>
          dsimp only at q2
          rw [if_pos rfl]
          rcases eF : fe env3 S3 with _ | ⟨⟨xd | k0 | _ | _ | _⟩ | ⟨_, _, _⟩, S6⟩
          · rw [eF] at q2; cases q2
          · rw [eF] at q2
            dsimp only at q2
            refine ke _ H5 _ S3 env3 _ S6 s5 (E4.mono e5) eF _ fun y A6 H6 e6 s6 r6 => ?_
            obtain ⟨l5, rfl, hl5⟩ := e5.app
            have a5 : A1 ++ Dd :: l ++ l5 = A1 ++ Dd :: (l ++ l5) := by simp
            rw [a5] at e5 s5 e6
            obtain ⟨l6, rfl, hl6⟩ := e6.app
            have a6 : A1 ++ Dd :: (l ++ l5) ++ l6 = A1 ++ Dd :: (l ++ l5 ++ l6) := by simp
            rw [a6] at e6 s6 r6
            have hat : (A1 ++ Dd :: (l ++ l5 ++ l6))[S1.length]? = some Dd := by
              rw [hlen1, List.getElem?_append_right (Nat.le_refl _)]
              simp
            unfold lcNext at q2
            rcases eA : S6[S1.length]? with _ | acc
            · rw [eA] at q2; cases q2
            · rw [eA] at q2
              dsimp only at q2
              by_cases hz : acc.length < lim
              · rw [if_pos hz] at q2
                dsimp only at q2
                have hkd := (x2.trans ((e3.trans e5).trans e6)).kl Dd [] upd_same
                obtain ⟨us, h7, h8⟩ := s6.lst hat hkd eA
                have rx : Rep X.K X.mg (A1 ++ Dd :: (l ++ l5 ++ l6)) H6 xd y := r6
                have rr : RepFs X.K X.mg (A1 ++ Dd :: (l ++ l5 ++ l6)) H6 (acc ++ [xd]) (us ++ [y]) := h8.append ⟨y, [], rfl, .of rx, rfl⟩
                obtain ⟨s7, e7⟩ := s6.setF hat hkd rr
                refine ⟨us, h7, by rw [← h8.length, sizeLine_eq]; exact hz, ?_⟩
                by_cases hk : keepOk kk ds (S6.set S1.length (acc ++ [xd]))
                · rw [if_pos hk] at q2
                  have e37 := ((e3.trans e5).trans e6).trans e7
                  refine ⟨l ++ l5 ++ l6, _, x1.trans e37, x2.trans e37, s7, ?_, q2⟩
                  exact jok.keep _ H3 S2 _ _ _ s3 i3 ((e5.trans e6).trans e7) s7 hk
                · rw [if_neg hk] at q2; cases q2
              · rw [if_neg hz] at q2; cases q2
          · rw [eF] at q2
            dsimp only at q2
            refine ke _ H5 _ S3 env3 _ S6 s5 (E4.mono e5) eF _ fun y A6 H6 e6 s6 r6 => ?_
            obtain ⟨l5, rfl, hl5⟩ := e5.app
            have a5 : A1 ++ Dd :: l ++ l5 = A1 ++ Dd :: (l ++ l5) := by simp
            rw [a5] at e5 s5 e6
            obtain ⟨l6, rfl, hl6⟩ := e6.app
            have a6 : A1 ++ Dd :: (l ++ l5) ++ l6 = A1 ++ Dd :: (l ++ l5 ++ l6) := by simp
            rw [a6] at e6 s6 r6
            have hat : (A1 ++ Dd :: (l ++ l5 ++ l6))[S1.length]? = some Dd := by
              rw [hlen1, List.getElem?_append_right (Nat.le_refl _)]
              simp
            unfold lcNext at q2
            rcases eA : S6[S1.length]? with _ | acc
            · rw [eA] at q2; cases q2
            · rw [eA] at q2
              dsimp only at q2
              by_cases hz : acc.length < lim
              · rw [if_pos hz] at q2
                dsimp only at q2
                have hkd := (x2.trans ((e3.trans e5).trans e6)).kl Dd [] upd_same
                obtain ⟨us, h7, h8⟩ := s6.lst hat hkd eA
                have rx : RepF X.K X.mg (A1 ++ Dd :: (l ++ l5 ++ l6)) H6 (.own k0) y := r6
                have rr : RepFs X.K X.mg (A1 ++ Dd :: (l ++ l5 ++ l6)) H6 (acc ++ [.own k0]) (us ++ [y]) := h8.append ⟨y, [], rfl, rx, rfl⟩
                obtain ⟨s7, e7⟩ := s6.setF hat hkd rr
                refine ⟨us, h7, by rw [← h8.length, sizeLine_eq]; exact hz, ?_⟩
                by_cases hk : keepOk kk ds (S6.set S1.length (acc ++ [.own k0]))
                · rw [if_pos hk] at q2
                  have e37 := ((e3.trans e5).trans e6).trans e7
                  refine ⟨l ++ l5 ++ l6, _, x1.trans e37, x2.trans e37, s7, ?_, q2⟩
                  exact jok.keep _ H3 S2 _ _ _ s3 i3 ((e5.trans e6).trans e7) s7 hk
                · rw [if_neg hk] at q2; cases q2
              · rw [if_neg hz] at q2; cases q2
          · rw [eF] at q2; cases q2
          · rw [eF] at q2; cases q2
          · rw [eF] at q2; cases q2
          · rw [eF] at q2; cases q2
      · rw [eC] at q2; cases q2
  · have hi' : i = ds.length := by omega
    subst hi'
    refine .inl ⟨jok.stop _ H2 S2 j2, ?_⟩
    rw [List.drop_length] at q2
    unfold lcL at q2
    cases q2
    exact hq Dd H2 A1 H1 l s1 e1 x1 y2 hlen1.symm (x2.kl Dd [] upd_same)
theorem tok_lc {wi : TI} {g : TG} {tt : TT} {te : TE} {t : Tg} {f : Env → M (List D × KK)} {cond : Env → M Bool} {fe : Env → M SV} {ws : List Nat} (ki : IOk X W wi f) (kg : GOk X W t g) (kt : TOk X.K (gm X W) relB W.blk tt cond) (ke : TOk X.K (gm X W) (relS X.K (gm X W)) W.blk te fe) (hsub : ∀ i, i ∈ t.slots → i ∈ ws) :
    TOk X.K (gm X W) (relS X.K (gm X W)) W (tLc wi g tt te ws) (eLc ws t f cond fe) := by
  intro σ H A S env r S' hS hE he Q hp
  rcases bnd_some he with ⟨⟨ds, kk⟩, S1, ef, q⟩ | ⟨c, fs, l, ef, rfl⟩
  · dsimp only at q
    rcases eL : lcL t kk ds cond fe S1.length (wipeE env ws) ds (S1 ++ [[]]) with _ | S2
    · rw [eL] at q; cases q
    · rw [eL] at q
      dsimp only at q
      rcases eA : S2[S1.length]? with _ | acc
      · rw [eA] at q; cases q
      · rw [eA] at q
        dsimp only at q
        by_cases cc : Cal S1 S2 ∧ clsd acc = true
        rotate_left
        · rw [if_neg cc] at q; cases q
        rw [if_pos cc] at q
        cases q
        refine lc_main ki kg kt ke hsub hS hE ef eL fun p H' A1 H1 l s1 e x1 s hl hkd => ?_
        have hp' : (A1 ++ p :: l)[A1.length]? = some p := by rw [List.getElem?_append_right (Nat.le_refl _)]; simp
        rw [← hl] at eA
        obtain ⟨s3, hpl⟩ := s1.pick s cc.1 (Nat.le_refl _) hp' eA hkd (frzL_of cc.2)
        have nd := List.nodup_append.mp s.nd
        have hpn : p ∉ A1 := fun z => nd.2.2 p z p hpl rfl
        have s4 := s1.drop s cc.1
        rw [← hl] at hp
        obtain ⟨vs, h1, h2⟩ := s.lstC hp' hkd eA cc.2
        refine hp _ A1 H' (e.trans x1.drop) s4 ?_
        show Rep X.K X.mg A1 H' (.lst acc) (.ref p)
        simp only [Rep]
        exact ⟨p, vs, rfl, hpn, h1, Reps.anti _ _ h2⟩
  · exact ki σ H A S env _ _ hS hE ef _ hp
theorem tok_lcOwn {wi : TI} {g : TG} {tt : TT} {te : TE} {t : Tg} {f : Env → M (List D × KK)} {cond : Env → M Bool} {fe : Env → M SV} {ws : List Nat} (ki : IOk X W wi f) (kg : GOk X W t g) (kt : TOk X.K (gm X W) relB W.blk tt cond) (ke : TOk X.K (gm X W) (relS X.K (gm X W)) W.blk te fe) (hsub : ∀ i, i ∈ t.slots → i ∈ ws) :
    TOk X.K (gm X W) (relS X.K (gm X W)) W (tLc wi g tt te ws) (eLcOwn ws t f cond fe) := by
  intro σ H A S env r S' hS hE he Q hp
  rcases bnd_some he with ⟨⟨ds, kk⟩, S1, ef, q⟩ | ⟨c, fs, l, ef, rfl⟩
  · dsimp only at q
    rcases eL : lcL t kk ds cond fe S1.length (wipeE env ws) ds (S1 ++ [[]]) with _ | S2
    · rw [eL] at q; cases q
    · rw [eL] at q
      dsimp only at q
      rcases eA : S2[S1.length]? with _ | acc
      · rw [eA] at q; cases q
      · rw [eA] at q
        dsimp only at q
        by_cases cc : Cal S1 S2 ∧ clsd acc = true
        rotate_left
        · rw [if_neg cc] at q; cases q
        rw [if_pos cc] at q
        cases q
        refine lc_main ki kg kt ke hsub hS hE ef eL fun p H' A1 H1 l s1 e x1 s hl hkd => ?_
        have hp' : (A1 ++ p :: l)[A1.length]? = some p := by rw [List.getElem?_append_right (Nat.le_refl _)]; simp
        rw [← hl] at eA hp
        obtain ⟨s3, hpl⟩ := s1.pick s cc.1 (Nat.le_refl _) hp' eA hkd (frzL_of cc.2)
        have x2 : Ext A1 H1 (A1 ++ [p]) H' := ⟨⟨[p], rfl, fun a ha => by
          obtain ⟨m, e', hm⟩ := x1.app
          rw [List.mem_singleton.mp ha]
          have : m = p :: l := by
            have := List.append_cancel_left e'
            exact this.symm
          subst this
          exact hm p List.mem_cons_self⟩, x1.keep, x1.dom, x1.kl, x1.ki, x1.kt, x1.kk⟩
        exact hp _ _ H' (e.trans x2) s3 ⟨p, by simp, rfl, hkd⟩
  · exact ki σ H A S env _ _ hS hE ef _ hp
/-- the list and the lists of one's own in it -/
noncomputable def eLcX (ws : List Nat) (t : Tg) (f : Env → M (List D × KK)) (cond : Env → M Bool) (fe : Env → M SV) : Env → M SV := fun env => bnd (f env) fun q S => match lcL t q.2 q.1 cond fe S.length (wipeE env ws) q.1 (S ++ [[]]) with
  | some S' => some (.ok (.ptr S.length), S')
  | none => none
theorem tok_lcX {wi : TI} {g : TG} {tt : TT} {te : TE} {t : Tg} {f : Env → M (List D × KK)} {cond : Env → M Bool} {fe : Env → M SV} {ws : List Nat} (ki : IOk X W wi f) (kg : GOk X W t g) (kt : TOk X.K (gm X W) relB W.blk tt cond) (ke : TOk X.K (gm X W) (relS X.K (gm X W)) W.blk te fe) (hsub : ∀ i, i ∈ t.slots → i ∈ ws) :
    TOk X.K (gm X W) (relS X.K (gm X W)) W (tLc wi g tt te ws) (eLcX ws t f cond fe) := by
  intro σ H A S env r S' hS hE he Q hp
  rcases bnd_some he with ⟨⟨ds, kk⟩, S1, ef, q⟩ | ⟨c, fs, l, ef, rfl⟩
  · dsimp only at q
    rcases eL : lcL t kk ds cond fe S1.length (wipeE env ws) ds (S1 ++ [[]]) with _ | S2
    · rw [eL] at q; cases q
    · rw [eL] at q
      dsimp only at q
      cases q
      refine lc_main ki kg kt ke hsub hS hE ef eL fun p H' A1 H1 l s1 e x1 s hl hkd => ?_
      rw [← hl] at hp
      exact hp _ _ H' (e.trans x1) s ⟨p, by rw [List.getElem?_append_right (Nat.le_refl _)]; simp, rfl, hkd⟩
  · exact ki σ H A S env _ _ hS hE ef _ hp
variable {e a b tg iter elt : Expr} {es ifs : List Expr} {f g : Env → M SV} {fa : Env → M (List SV)} {fi : Env → M (List D × KK)} {t : Tg} {cond : Env → M Bool} {st : Stmt} {pos p : Pos} {scope : Scope} {own : List (Str × Nat)}
def tOf {α β : Type} (K : PySem.W.Frag) (g : Gm) (rel : RelT α β) (W : WG) (f : Env → M α) : St → Hp → (β → Hp → Prop) → Prop := fun σ H Q =>
  ∃ A S env r S', Sta K g A H S ∧ EnvR K g A H σ env ∧ f env S = some (r, S') ∧ Po K g rel W Q σ A H r S'
theorem tok_of {α β : Type} {K : PySem.W.Frag} {g : Gm} {rel : RelT α β} {W : WG} {f : Env → M α} : TOk K g rel W (tOf K g rel W f) f := fun σ H A S env r S' hS hE he Q hp => ⟨A, S, env, r, S', hS, hE, he, hp⟩
theorem DE.one (h : DE X W e f) : PE X e (tOf X.K (gm X W) (relS X.K (gm X W)) W f) := by
  obtain ⟨t, p, k⟩ := h
  exact ⟨fun pins s σ H Q I ⟨A, S, env, r, S', hS, hE, he, hp⟩ => p.run pins s σ H Q I (k σ H A S env r S' hS hE he Q hp)⟩
def DTs (X : Cx) (W : WG) (ifs : List Expr) (c : Env → M Bool) : Prop := ∃ tt : TT, PTs X ifs tt ∧ TOk X.K (gm X W) relB W tt c
theorem dts_nil : DTs X W [] tYesD := ⟨_, pts_nil, tok_yes⟩
theorem dts_one {c : Expr} (h : DT X W c cond) : DTs X W [c] cond := let ⟨t, p, k⟩ := h; ⟨_, pts_one p, k⟩
theorem DTs.one (h : DTs X W ifs cond) : PTs X ifs (tOf X.K (gm X W) relB W cond) := by
  obtain ⟨t, p, k⟩ := h
  exact ⟨fun pins s σ H Q I ⟨A, S, env, r, S', hS, hE, he, hp⟩ => p.run pins s σ H Q I (k σ H A S env r S' hS hE he Q hp)⟩
def tsOf (K : PySem.W.Frag) (g : Gm) (W : WG) (F : SM) : TS := fun Dn σ H =>
  ∃ A S env o S', Sta K g A H S ∧ EnvR K g A H σ env ∧ F env S = some (o, S') ∧ PoS K g Dn W A H o S'
theorem DSs.one {F : SM} {sts : List Stmt} (h : DSs X W sts F) : PSs X sts (tsOf X.K (gm X W) W F) := by
  obtain ⟨t, p, k⟩ := h
  exact ⟨fun pins s σ H D I ⟨A, S, env, o, S', hS, hE, he, hp⟩ => p.run pins s σ H D I (k σ H A S env o S' hS hE he D hp)⟩
/-- [e for t in xs if c] -/
theorem de_lc (t : Tg) (own : List (Str × Nat)) (hc : X.calm = true) (hN : X.N.Nodup) (hi : DI X W tg iter fi) (ok : BlkOk X.N X.env.scope scope own)
    (hg : ∀ (s : Shared) (H : Hp) (C : Addr) (cl : List (Str × Addr)) (fp : List Addr), DG (X.blk s H scope (compEnvC scope cl C X.env) fp) tg t)
    (ht : ∀ (s : Shared) (H : Hp) (C : Addr) (cl : List (Str × Addr)) (fp : List Addr), DTs (X.blk s H scope (compEnvC scope cl C X.env) fp) W.blk ifs cond)
    (he : ∀ (s : Shared) (H : Hp) (C : Addr) (cl : List (Str × Addr)) (fp : List Addr), DE (X.blk s H scope (compEnvC scope cl C X.env) fp) W.blk elt f)
    (hsub : ∀ i, i ∈ t.slots → i ∈ own.map (·.2)) (hs : ∀ x, foldedSetIterable iter X.env x = pure x := by intro _; rfl) :
    DE X W (.ListComp elt [⟨tg, iter, ifs, 0⟩] scope pos) (eLc (own.map (·.2)) t fi cond f) := by
  obtain ⟨wi, pi, ki⟩ := hi
  exact ⟨_, pe_lc (g := gT X.K t) hc hN pi ok hg (fun s H C cl fp => (ht s H C cl fp).one) (fun s H C cl fp => (he s H C cl fp).one) hs, tok_lc ki (gok_all t) tok_of tok_of hsub⟩
theorem de_lcOwn (t : Tg) (own : List (Str × Nat)) (hc : X.calm = true) (hN : X.N.Nodup) (hi : DI X W tg iter fi) (ok : BlkOk X.N X.env.scope scope own)
    (hg : ∀ (s : Shared) (H : Hp) (C : Addr) (cl : List (Str × Addr)) (fp : List Addr), DG (X.blk s H scope (compEnvC scope cl C X.env) fp) tg t)
    (ht : ∀ (s : Shared) (H : Hp) (C : Addr) (cl : List (Str × Addr)) (fp : List Addr), DTs (X.blk s H scope (compEnvC scope cl C X.env) fp) W.blk ifs cond)
    (he : ∀ (s : Shared) (H : Hp) (C : Addr) (cl : List (Str × Addr)) (fp : List Addr), DE (X.blk s H scope (compEnvC scope cl C X.env) fp) W.blk elt f)
    (hsub : ∀ i, i ∈ t.slots → i ∈ own.map (·.2)) (hs : ∀ x, foldedSetIterable iter X.env x = pure x := by intro _; rfl) :
    DE X W (.ListComp elt [⟨tg, iter, ifs, 0⟩] scope pos) (eLcOwn (own.map (·.2)) t fi cond f) := by
  obtain ⟨wi, pi, ki⟩ := hi
  exact ⟨_, pe_lc (g := gT X.K t) hc hN pi ok hg (fun s H C cl fp => (ht s H C cl fp).one) (fun s H C cl fp => (he s H C cl fp).one) hs, tok_lcOwn ki (gok_all t) tok_of tok_of hsub⟩
/-- y = [e for t in xs if c] -/
theorem ds_setLc (t : Tg) (own : List (Str × Nat)) (i : Nat) {y : Str} {py spos : Pos} (hc : X.calm = true) (hN : X.N.Nodup) (hyl : X.env.scope.names.lookup y = some .local) (hi : DI X W tg iter fi) (ok : BlkOk X.N X.env.scope scope own)
    (hg : ∀ (s : Shared) (H : Hp) (C : Addr) (cl : List (Str × Addr)) (fp : List Addr), DG (X.blk s H scope (compEnvC scope cl C X.env) fp) tg t)
    (ht : ∀ (s : Shared) (H : Hp) (C : Addr) (cl : List (Str × Addr)) (fp : List Addr), DTs (X.blk s H scope (compEnvC scope cl C X.env) fp) W.blk ifs cond)
    (he : ∀ (s : Shared) (H : Hp) (C : Addr) (cl : List (Str × Addr)) (fp : List Addr), DE (X.blk s H scope (compEnvC scope cl C X.env) fp) W.blk elt f)
    (hsub : ∀ i, i ∈ t.slots → i ∈ own.map (·.2)) (hsw : swapsWith (.ListComp elt [⟨tg, iter, ifs, 0⟩] scope pos) (some (.Name y py)) spos.line X.env = pure true) (hy : X.N[i]? = some y := by rfl) (hs : ∀ x, foldedSetIterable iter X.env x = pure x := by intro _; rfl) :
    DS X W (.Assign [.Name y py] (.ListComp elt [⟨tg, iter, ifs, 0⟩] scope pos) spos) (sSet i (eLc (own.map (·.2)) t fi cond f)) := by
  obtain ⟨wi, pi, ki⟩ := hi
  exact ⟨_, ps_setLc (g := gT X.K t) hc hN hy hyl hsw pi ok hg (fun s H C cl fp => (ht s H C cl fp).one) (fun s H C cl fp => (he s H C cl fp).one) hs, sok_set (tok_lc ki (gok_all t) tok_of tok_of hsub)⟩
theorem ds_setLcOwn (t : Tg) (own : List (Str × Nat)) (i : Nat) {y : Str} {py spos : Pos} (hc : X.calm = true) (hN : X.N.Nodup) (hyl : X.env.scope.names.lookup y = some .local) (hi : DI X W tg iter fi) (ok : BlkOk X.N X.env.scope scope own)
    (hg : ∀ (s : Shared) (H : Hp) (C : Addr) (cl : List (Str × Addr)) (fp : List Addr), DG (X.blk s H scope (compEnvC scope cl C X.env) fp) tg t)
    (ht : ∀ (s : Shared) (H : Hp) (C : Addr) (cl : List (Str × Addr)) (fp : List Addr), DTs (X.blk s H scope (compEnvC scope cl C X.env) fp) W.blk ifs cond)
    (he : ∀ (s : Shared) (H : Hp) (C : Addr) (cl : List (Str × Addr)) (fp : List Addr), DE (X.blk s H scope (compEnvC scope cl C X.env) fp) W.blk elt f)
    (hsub : ∀ i, i ∈ t.slots → i ∈ own.map (·.2)) (hsw : swapsWith (.ListComp elt [⟨tg, iter, ifs, 0⟩] scope pos) (some (.Name y py)) spos.line X.env = pure true) (hy : X.N[i]? = some y := by rfl) (hs : ∀ x, foldedSetIterable iter X.env x = pure x := by intro _; rfl) :
    DS X W (.Assign [.Name y py] (.ListComp elt [⟨tg, iter, ifs, 0⟩] scope pos) spos) (sSet i (eLcOwn (own.map (·.2)) t fi cond f)) := by
  obtain ⟨wi, pi, ki⟩ := hi
  exact ⟨_, ps_setLc (g := gT X.K t) hc hN hy hyl hsw pi ok hg (fun s H C cl fp => (ht s H C cl fp).one) (fun s H C cl fp => (he s H C cl fp).one) hs, sok_set (tok_lcOwn ki (gok_all t) tok_of tok_of hsub)⟩
theorem ds_setLcX (t : Tg) (own : List (Str × Nat)) (i : Nat) {y : Str} {py spos : Pos} (hc : X.calm = true) (hN : X.N.Nodup) (hyl : X.env.scope.names.lookup y = some .local) (hi : DI X W tg iter fi) (ok : BlkOk X.N X.env.scope scope own)
    (hg : ∀ (s : Shared) (H : Hp) (C : Addr) (cl : List (Str × Addr)) (fp : List Addr), DG (X.blk s H scope (compEnvC scope cl C X.env) fp) tg t)
    (ht : ∀ (s : Shared) (H : Hp) (C : Addr) (cl : List (Str × Addr)) (fp : List Addr), DTs (X.blk s H scope (compEnvC scope cl C X.env) fp) W.blk ifs cond)
    (he : ∀ (s : Shared) (H : Hp) (C : Addr) (cl : List (Str × Addr)) (fp : List Addr), DE (X.blk s H scope (compEnvC scope cl C X.env) fp) W.blk elt f)
    (hsub : ∀ i, i ∈ t.slots → i ∈ own.map (·.2)) (hsw : swapsWith (.ListComp elt [⟨tg, iter, ifs, 0⟩] scope pos) (some (.Name y py)) spos.line X.env = pure true) (hy : X.N[i]? = some y := by rfl) (hs : ∀ x, foldedSetIterable iter X.env x = pure x := by intro _; rfl) :
    DS X W (.Assign [.Name y py] (.ListComp elt [⟨tg, iter, ifs, 0⟩] scope pos) spos) (sSet i (eLcX (own.map (·.2)) t fi cond f)) := by
  obtain ⟨wi, pi, ki⟩ := hi
  exact ⟨_, ps_setLc (g := gT X.K t) hc hN hy hyl hsw pi ok hg (fun s H C cl fp => (ht s H C cl fp).one) (fun s H C cl fp => (he s H C cl fp).one) hs, sok_set (tok_lcX ki (gok_all t) tok_of tok_of hsub)⟩
end
inductive RR where
  | d (x : D)
  | fresh (l : List D)
  | old (k : Nat)
  /-- what came to the store stays -/
  | grow (x : SV)
abbrev Fn := List SV → M RR
section
variable (K : PySem.W.Frag) (g : Gm)
def PoF (Q : VK) (E : XK) (A : List Addr) (H : Hp) : R RR → Store → Prop
  | .ok (.d x), S' => ∀ v H', Ext A H A H' → Sta K g A H' S' → Rep K g.m A H' x v → Q v H'
  | .ok (.fresh l), S' => ∀ p H', Ext A H (A ++ [p]) H' → Sta K g (A ++ [p]) H' (S' ++ [l]) → Sta K g A H' S' → (∃ vs, H' p = some (.lst vs)) → Q (.ref p) H'
  | .ok (.old k), S' => ∀ a H', A[k]? = some a → Ext A H A H' → Sta K g A H' S' → (∃ vs, H' a = some (.lst vs)) → Q (.ref a) H'
  | .ok (.grow x), S' => ∀ v A' H', Ext A H A' H' → Sta K g A' H' S' → RepS K g A' H' x v → Q v H'
  | .err c fs l, S' => ∀ C dd H', g.m c = some (.ref C) → Ext A H A H' → Sta K g A H' S' → ErrR K g.m A H' dd fs l → E (.ref C) dd H'
end
def gm0 (mg : Str → Option Value) : Gm := ⟨mg, fun _ _ => True, fun _ _ => trivial, fun _ _ => trivial, none⟩
def noExc : List SV → Bool
  | [] => true
  | .exc :: _ => false
  | _ :: r => noExc r
theorem repSs_0 {K : PySem.W.Frag} {g g' : Gm} {A : List Addr} {H : Hp} (hm : g.m = g'.m) : ∀ {xs : List SV} {vs : List V}, noExc xs = true → RepSs K g A H xs vs → RepSs K g' A H xs vs
  | [], vs, _, h => h
  | .d x :: xs, vs, hn, ⟨v, r, e, h1, h2⟩ => ⟨v, r, e, (show Rep K g'.m A H x v by rw [← hm]; exact h1), repSs_0 hm hn h2⟩
  | .ptr k :: xs, vs, hn, ⟨v, r, e, h1, h2⟩ => ⟨v, r, e, h1, repSs_0 hm hn h2⟩
  | .obj k :: xs, vs, hn, ⟨v, r, e, h1, h2⟩ => ⟨v, r, e, h1, repSs_0 hm hn h2⟩
  | .dic k :: xs, vs, hn, ⟨v, r, e, h1, h2⟩ => ⟨v, r, e, h1, repSs_0 hm hn h2⟩
theorem Sta.conv {K : PySem.W.Frag} {g g' : Gm} {A : List Addr} {H : Hp} {S : Store} (s : Sta K g A H S) (hm : g.m = g'.m) (h : g'.G A H) : Sta K g' A H S := ⟨s.nd, s.len, fun k a ds h1 h2 => by rw [← hm]; exact s.at' k a ds h1 h2, h⟩
def spD (K : PySem.W.Frag) (mg : Str → Option Value) (m : Fn) : Sp := fun vs H Q E => ∃ A S as r S', Sta K (gm0 mg) A H S ∧ RepSs K (gm0 mg) A H as vs ∧ m as S = some (r, S') ∧ PoF K (gm0 mg) Q E A H r S'
open Classical in
/-- a def from its body: np parameters, n slots -/
noncomputable def fnSem (np n : Nat) (body : SM) : Fn := fun as S => if as.length = np then match body (as.map some ++ List.replicate (n - as.length) none) S with
  | some (.nx _, S') => if Cal S S' then some (.ok (.d .non), S'.take S.length) else none
  | some (.rt (.d x), S') => if Cal S S' then some (.ok (.d x), S'.take S.length) else none
  | some (.rt (.ptr k), S') => if Cal S S' then if k < S.length then some (.ok (.old k), S'.take S.length) else match S'[k]? with
    | some l => match frzL S.length S' l with
      | some l' => some (.ok (.fresh l'), S'.take S.length)
      | none => none
    | none => none
    else none
  | some (.er c fs l _, S') => if Cal S S' then some (.err c fs l, S'.take S.length) else none
  | _ => none else none
open Classical in
/-- a def that leaves its lists behind -/
noncomputable def fnSemU (np n : Nat) (body : SM) : Fn := fun as S => if as.length = np then match body (as.map some ++ List.replicate (n - as.length) none) S with
  | some (.nx _, S') => some (.ok (.grow (.d .non)), S')
  | some (.rt .exc, S') => none
  | some (.rt x, S') => some (.ok (.grow x), S')
  | some (.er c fs l _, S') => if Cal S S' then some (.err c fs l, S'.take S.length) else none
  | _ => none else none
theorem start_env {K : PySem.W.Frag} {g : Gm} {A : List Addr} {H : Hp} (n : Nat) : ∀ {as : List SV} {vs : List V}, RepSs K g A H as vs → EnvR K g A H (vs.map some ++ List.replicate n none) (as.map some ++ List.replicate n none)
  | [], vs, h => by
    cases (show vs = [] from h)
    refine ⟨by simp, fun i sv q => ?_⟩
    simp only [List.map_nil, List.nil_append] at q
    rw [List.getElem?_replicate] at q
    split at q <;> cases q
  | a :: as, vs, ⟨v, r, e, h1, h2⟩ => by
    subst e
    have ih := start_env n h2
    refine ⟨by simpa using ih.len, fun i sv q => ?_⟩
    cases i with
    | zero =>
      simp at q
      subst q
      exact ⟨v, by simp, h1⟩
    | succ i =>
      obtain ⟨u, h3, h4⟩ := ih.at' i sv (by simpa using q)
      exact ⟨u, by simpa using h3, h4⟩
theorem errR_drop {K : PySem.W.Frag} {mg : Str → Option Value} {A l : List Addr} {H : Hp} {dd : Option Addr} {fs : List Str} {ds : List D} (h : ErrR K mg (A ++ l) H dd fs ds) : ErrR K mg A H dd fs ds := by
  rcases h with h | ⟨d, vs, e, n, h1, h2, h3⟩
  · exact .inl h
  · exact .inr ⟨d, vs, e, fun z => n (List.mem_append_left _ z), h1, h2, Reps.anti _ _ h3⟩
section
variable {P : Program} {w : World} {K : PySem.W.Frag} {mg : Str → Option Value} {base : Heap}
theorem RepSs.len' {g : Gm} {A : List Addr} {H : Hp} {as : List SV} {vs : List V} (h : RepSs K g A H as vs) : as.length = vs.length := RepSs.length h
theorem spD_len {np n : Nat} {body : SM} {vs : List V} {H : Hp} {Q : VK} {E : XK} (h : spD K mg (fnSem np n body) vs H Q E) : vs.length = np := by
  obtain ⟨A, S, as, r, S', hS, hx, he, _⟩ := h
  unfold fnSem at he
  by_cases c : as.length = np
  · rw [← hx.len', c]
  · rw [if_neg c] at he; cases he
theorem body_done {N : List Str} {body : SM} {vs : List V} {H : Hp} {Q : VK} {E : XK} {np : Nat} {t : TS} (hs : spD K mg (fnSem np N.length body) vs H Q E) (k : SOk K ⟨mg, fun _ _ => True, fun _ _ => trivial, fun _ _ => trivial, none⟩ (wg0 fun cls d _ H => E cls d H) t body) :
    t { nx := fun _ H' => Q .non H', rt := Q } (L2.start N vs) H := by
  obtain ⟨A, S, as, r, S', hS, hx, he, hp⟩ := hs
  unfold fnSem at he
  have hl := hx.len'
  by_cases c : as.length = np
  · rw [if_pos c] at he
    have hE : EnvR K (gm0 mg) A H (L2.start N vs) (as.map some ++ List.replicate (N.length - as.length) none) := by
      unfold L2.start
      rw [hl]
      exact start_env _ hx
    have hSl := hS.len
    rcases eb : body (as.map some ++ List.replicate (N.length - as.length) none) S with _ | ⟨o, S1⟩
    · rw [eb] at he; cases he
    · rw [eb] at he
      refine k (L2.start N vs) H A S _ o S1 hS hE eb _ ?_
      cases o with
      | nx env =>
        dsimp only at he
        by_cases cc : Cal S S1
        rotate_left
        · rw [if_neg cc] at he; cases he
        rw [if_pos cc] at he
        cases he
        intro σ' A' H' e s q
        obtain ⟨l, rfl, hll⟩ := e.app
        have s' := hS.drop s cc
        rw [← hSl] at s'
        exact hp .non H' e.drop s' (by simp only [Rep])
      | rt sv =>
        cases sv with
        | d x =>
          dsimp only at he
          by_cases cc : Cal S S1
          rotate_left
          · rw [if_neg cc] at he; cases he
          rw [if_pos cc] at he
          cases he
          intro v A' H' e s q
          obtain ⟨l, rfl, hll⟩ := e.app
          have s' := hS.drop s cc
          rw [← hSl] at s'
          exact hp v H' e.drop s' (Rep.anti _ _ q)
        | ptr j =>
          dsimp only at he
          by_cases cc : Cal S S1
          rotate_left
          · rw [if_neg cc] at he; cases he
          rw [if_pos cc] at he
          intro v A' H' e s q
          obtain ⟨l, rfl, hll⟩ := e.app
          obtain ⟨a, h1, h2, hkd⟩ := q
          subst h2
          have s' := hS.drop s cc
          by_cases cj : j < S.length
          · rw [if_pos cj] at he
            cases he
            rw [← hSl] at s'
            exact hp a H' (by rw [List.getElem?_append_left (by rw [← hSl]; exact cj)] at h1; exact h1) e.drop s' hkd
          · rw [if_neg cj] at he
            rcases el : S1[j]? with _ | ds
            · rw [el] at he; cases he
            · rw [el] at he
              dsimp only at he
              rcases ez : frzL S.length S1 ds with _ | ds'
              · rw [ez] at he; cases he
              rw [ez] at he
              cases he
              rw [hSl] at ez
              obtain ⟨s3, hpl⟩ := hS.pick s cc (by rw [← hSl]; exact Nat.le_of_not_lt cj) h1 el hkd ez
              rw [← hSl] at s3 s'
              exact hp a H' ⟨⟨[a], rfl, fun b hb => by rw [List.mem_singleton.mp hb]; exact hll a hpl⟩, e.keep, e.dom, e.kl, e.ki, e.kt, e.kk⟩ s3 s' hkd
        | exc => cases he
        | obj _ => cases he
        | dic _ => cases he
      | bk env => cases he
      | ct env => cases he
      | er c' fs l' env =>
        dsimp only at he
        by_cases cc : Cal S S1
        rotate_left
        · rw [if_neg cc] at he; cases he
        rw [if_pos cc] at he
        cases he
        intro C dd σ' A' H' hc e s q er
        obtain ⟨l, rfl, hll⟩ := e.app
        have s' := hS.drop s cc
        rw [← hSl] at s'
        exact hp C dd H' hc e.drop s' (errR_drop er)
  · rw [if_neg c] at he; cases he
theorem spU_len {np n : Nat} {body : SM} {vs : List V} {H : Hp} {Q : VK} {E : XK} (h : spD K mg (fnSemU np n body) vs H Q E) : vs.length = np := by
  obtain ⟨A, S, as, r, S', hS, hx, he, _⟩ := h
  unfold fnSemU at he
  by_cases c : as.length = np
  · rw [← hx.len', c]
  · rw [if_neg c] at he; cases he
theorem body_doneU {N : List Str} {body : SM} {vs : List V} {H : Hp} {Q : VK} {E : XK} {np : Nat} {t : TS} (hs : spD K mg (fnSemU np N.length body) vs H Q E) (k : SOk K ⟨mg, fun _ _ => True, fun _ _ => trivial, fun _ _ => trivial, none⟩ (wg0 fun cls d _ H => E cls d H) t body) :
    t { nx := fun _ H' => Q .non H', rt := Q } (L2.start N vs) H := by
  obtain ⟨A, S, as, r, S', hS, hx, he, hp⟩ := hs
  unfold fnSemU at he
  have hl := hx.len'
  by_cases c : as.length = np
  · rw [if_pos c] at he
    have hE : EnvR K (gm0 mg) A H (L2.start N vs) (as.map some ++ List.replicate (N.length - as.length) none) := by
      unfold L2.start
      rw [hl]
      exact start_env _ hx
    have hSl := hS.len
    rcases eb : body (as.map some ++ List.replicate (N.length - as.length) none) S with _ | ⟨o, S1⟩
    · rw [eb] at he; cases he
    · rw [eb] at he
      refine k (L2.start N vs) H A S _ o S1 hS hE eb _ ?_
      cases o with
      | nx env =>
        cases he
        intro σ' A' H' e s q
        exact hp .non A' H' e s (show Rep K mg A' H' .non .non by simp only [Rep])
      | rt sv =>
        cases sv <;> cases he <;> (intro v A' H' e s q; exact hp v A' H' e s q)
      | bk env => cases he
      | ct env => cases he
      | er c' fs l' env =>
        dsimp only at he
        by_cases cc : Cal S S1
        rotate_left
        · rw [if_neg cc] at he; cases he
        rw [if_pos cc] at he
        cases he
        intro C dd σ' A' H' hc e s q er
        obtain ⟨l, rfl, hll⟩ := e.app
        have s' := hS.drop s cc
        rw [← hSl] at s'
        exact hp C dd H' hc e.drop s' (errR_drop er)
  · rw [if_neg c] at he; cases he
/-- THE RULE for a def that leaves its lists behind -/
theorem fnDU {x qual : Str} {st : Stmt} {f : Addr} {fd : FuncData} {N ps : List Str} {k : Nat} {body : SM} (F : Fun K x qual st f fd) (sc : FnScope N ps (defScope st))
    (hb : ∀ (cdv : Value) (A : Around) (outer : List PySem.Env) (s : Shared) (H : Hp) (E : XK), Room k (A.deeper (PyProof.Rows.envOfC qual (defScope st) s.heap.objs.size f cdv)) →
      DSs (cxOf (L2N.CX P w) P w K mg base N qual (defScope st) f cdv A outer s H E) (wg0 fun cls d _ H => E cls d H) (defBody st) body) : FnOk P w K mg base (L2N.CX P w) (k + 1) f fd ps (spD K mg (fnSemU ps.length N.length body)) :=
  by
    obtain ⟨oc, od, kV, doc, pm, an, cdv, ct, osl, rfl, lk, hcd⟩ := F.ex
    exact fn_of lk hcd sc (fun vs H Q E h => spU_len h) fun A outer s H vs Q E hr hs => by
      obtain ⟨t, p, k⟩ := hb cdv A outer s H E hr
      exact ⟨t, p, body_doneU hs k⟩
/-- THE RULE for a def -/
theorem fnD {x qual : Str} {st : Stmt} {f : Addr} {fd : FuncData} {N ps : List Str} {k : Nat} {body : SM} (F : Fun K x qual st f fd) (sc : FnScope N ps (defScope st))
    (hb : ∀ (cdv : Value) (A : Around) (outer : List PySem.Env) (s : Shared) (H : Hp) (E : XK), Room k (A.deeper (PyProof.Rows.envOfC qual (defScope st) s.heap.objs.size f cdv)) →
      DSs (cxOf (L2N.CX P w) P w K mg base N qual (defScope st) f cdv A outer s H E) (wg0 fun cls d _ H => E cls d H) (defBody st) body) : FnOk P w K mg base (L2N.CX P w) (k + 1) f fd ps (spD K mg (fnSem ps.length N.length body)) :=
  by
    obtain ⟨oc, od, kV, doc, pm, an, cdv, ct, osl, rfl, lk, hcd⟩ := F.ex
    exact fn_of lk hcd sc (fun vs H Q E h => spD_len h) fun A outer s H vs Q E hr hs => by
      obtain ⟨t, p, k⟩ := hb cdv A outer s H E hr
      exact ⟨t, p, body_done hs k⟩
theorem fnDD {x qual : Str} {params : Arguments} {bd : List Stmt} {scope : Scope} {dvs : List V} {kws : List (Str × V)} {f : Addr} {fd : FuncData} {N ps : List Str} {k : Nat} {body : SM} (F : FunD K x qual params bd scope dvs kws f fd) (sc : FnScope N ps scope)
    (hb : ∀ (cdv : Value) (A : Around) (outer : List PySem.Env) (s : Shared) (H : Hp) (E : XK), Room k (A.deeper (PyProof.Rows.envOfC qual scope s.heap.objs.size f cdv)) →
      DSs (cxOf (L2N.CX P w) P w K mg base N qual scope f cdv A outer s H E) (wg0 fun cls d _ H => E cls d H) bd body) : FnOk P w K mg base (L2N.CX P w) (k + 1) f fd ps (spD K mg (fnSem ps.length N.length body)) :=
  F.ok sc (fun vs H Q E h => spD_len h) fun cdv A outer s H vs Q E hr hs => by
    obtain ⟨t, p, k⟩ := hb cdv A outer s H E hr
    exact ⟨t, p, body_done hs k⟩
end
def asPure : RR → M SV
  | .d x => ret (.d x)
  | .fresh l => if clsd l = true then ret (.d (.lst l)) else stuck
  | .old k => ret (.ptr k)
  | .grow x => ret x
def asOwn : RR → M SV
  | .d x => ret (.d x)
  | .fresh l => fun S => some (.ok (.ptr S.length), S ++ [l])
  | .old k => ret (.ptr k)
  | .grow x => ret x
def callM (cv : RR → M SV) (m : Fn) (as : List SV) : M SV := if noExc as = true then bnd (m as) cv else stuck
def eCall (cv : RR → M SV) (m : Fn) (dsv : List SV) (fa : Env → M (List SV)) : Env → M SV := fun env => bnd (fa env) fun as => callM cv m (as ++ dsv)
/-- a call by keywords, which must not raise -/
def callN (cv : RR → M SV) (m : Fn) (as : List SV) : M SV := fun S => match callM cv m as S with
  | some (.ok v, S') => some (.ok v, S')
  | _ => none
def eCallK (cv : RR → M SV) (m : Fn) (perm : List SV → List SV) (fa : Env → M (List SV)) : Env → M SV := fun env => bnd (fa env) fun as => callN cv m (perm as)
/-- a def that can be called -/
structure Callee (P : Program) (w : World) (K : PySem.W.Frag) (mg : Str → Option Value) (base : Heap) (k : Nat) (x : Str) (ps : List Str) (m : Fn) (f : Addr) (fd : FuncData) : Prop where
  F : FnOk P w K mg base (L2N.CX P w) k f fd ps (spD K mg m)
  mg : mg x = some (.ref f)
  kp : PySem.W.keepIn K (.ref f) = true
section
variable {X : Cx} {W : WG}
def CvOk (cv : RR → M SV) : Prop := cv = asPure ∨ cv = asOwn
theorem call_step {cv : RR → M SV} (hcv : CvOk cv) {m : Fn} {as : List SV} {vs : List V} {σ : St} {H : Hp} {A : List Addr} {S : Store} {r : R SV} {S' : Store} {Q : VK} (hS : Sta X.K (gm X W) A H S) (hx : RepSs X.K (gm X W) A H as vs)
    (he : callM cv m as S = some (r, S')) (hp : Po X.K (gm X W) (relS X.K (gm X W)) W Q σ A H r S') (E : XK) (hE : ∀ cls d H', W.w cls d σ H' → E cls d H') : spD X.K X.mg m vs H Q E := by
  unfold callM at he
  by_cases hn : noExc as = true
  · rw [if_pos hn] at he
    have hS0 : Sta X.K (gm0 X.mg) A H S := hS.conv rfl trivial
    have hx0 : RepSs X.K (gm0 X.mg) A H as vs := repSs_0 (g := gm X W) (g' := gm0 X.mg) rfl hn hx
    have back : ∀ {A' : List Addr} {H' : Hp} {S2 : Store}, Ext A H A' H' → Sta X.K (gm0 X.mg) A' H' S2 → Sta X.K (gm X W) A' H' S2 := fun e s => s.conv rfl (W.mono e hS.gh)
    rcases bnd_some he with ⟨rr, S1, em, q⟩ | ⟨c, fs, l, em, rfl⟩
    · refine ⟨A, S, as, _, S1, hS0, hx0, em, ?_⟩
      cases rr with
      | d x =>
        have q' : ret (.d x) S1 = some (r, S') := by rcases hcv with rfl | rfl <;> exact q
        cases q'
        exact fun v H' e s z => hp v A H' e (back e s) z
      | old k =>
        have q' : ret (.ptr k) S1 = some (r, S') := by rcases hcv with rfl | rfl <;> exact q
        cases q'
        exact fun a H' ha e s hkd => hp _ A H' e (back e s) ⟨a, ha, rfl, hkd⟩
      | grow x =>
        have q' : ret x S1 = some (r, S') := by rcases hcv with rfl | rfl <;> exact q
        cases q'
        exact fun v A' H' e s z => by
          refine hp v A' H' e (back e s) ?_
          cases x <;> first | exact z | (obtain ⟨a, h, _⟩ := z; cases h)
      | fresh l =>
        intro p H' e s sd hkd
        have sA := back e s
        have hl1 : S1.length = A.length := by
          have := s.len
          simpa using this
        rcases hcv with rfl | rfl
        · replace q : (if clsd l = true then ret (SV.d (.lst l)) else stuck) S1 = some (r, S') := q
          by_cases hcl : clsd l = true
          rotate_left
          · rw [if_neg hcl] at q; cases q
          rw [if_pos hcl] at q
          cases q
          have s2 := back e.drop sd
          obtain ⟨vs', h1, h2⟩ := sA.lstC (k := A.length) (a := p) (ds := l) (by simp) hkd (by rw [← hl1]; simp) hcl
          have nd := List.nodup_append.mp sA.nd
          refine hp _ A H' e.drop s2 ?_
          show Rep X.K X.mg A H' (.lst l) (.ref p)
          simp only [Rep]
          exact ⟨p, vs', rfl, fun z => nd.2.2 p z p (by simp) rfl, h1, Reps.anti _ _ h2⟩
        · cases q
          exact hp _ _ H' e sA ⟨p, by rw [hl1]; simp, rfl, hkd⟩
    · exact ⟨A, S, as, _, S', hS0, hx0, em, fun C dd H' hc e s er => hE _ _ _ (hp C dd A H' hc e (back e s) er)⟩
  · rw [if_neg hn] at he; cases he
variable {k : Nat} {f : Addr} {fd : FuncData} {ps : List Str} {m : Fn} {dvs : List V} {ds : List Value} {dsv : List SV} {x : Str} {p pos : Pos} {e : Expr} {es : List Expr} {fa : Env → M (List SV)}
theorem repSs_app {K : PySem.W.Frag} {g : Gm} {A : List Addr} {H : Hp} : ∀ {as bs : List SV} {vs ws : List V}, RepSs K g A H as vs → RepSs K g A H bs ws → RepSs K g A H (as ++ bs) (vs ++ ws)
  | [], bs, vs, ws, h, h' => by cases (show vs = [] from h); exact h'
  | a :: as, bs, vs, ws, ⟨v, r, e, h1, h2⟩, h' => ⟨v, r ++ ws, by rw [e]; rfl, h1, repSs_app h2 h'⟩
/-- f(e, ..), defaults dsv behind -/
theorem de_call {cv : RR → M SV} (hcv : CvOk cv) (F : FnOk X.prog X.w X.K X.mg X.base (L2N.CX X.prog X.w) k f fd ps (spD X.K X.mg m)) (hr : Room k X.A) (tk : L2N.Takes X W.w) (hg : Gl X x) (hm : X.mg x = some (.ref f)) (hk : PySem.W.keepIn X.K (.ref f) = true) (hb : Binds X.K fd ps ds) (hd : Vals dvs ds)
    (hdr : ∀ A H, RepSs X.K (gm X W) A H dsv dvs) (ha : DA X W (e :: es) fa) (hdb : (x == ("__debug__" : Str)) = false := by decide) (he : starEach (e :: es) X.env = (false, eval e X.env) :: starEach es X.env := by rfl) (hpl : (backTo pos (starEach es X.env)).any (·.1) = false := by rfl) :
    DE X W (.Call (.Name x p) (e :: es) [] pos) (eCall cv m dsv fa) := by
  obtain ⟨t, pa, ka⟩ := ha
  refine ⟨_, pe_callSD F hr hg hm hk hb hd (fun σ => L2N.passAt tk σ) pa hdb he hpl, ?_⟩
  exact tbind (rel := relA X.K (gm X W)) (rel2 := relS X.K (gm X W)) (g := fun _ as => callM cv m (as ++ dsv)) (tk := fun vs σ H Q => spD X.K X.mg m (vs ++ dvs) H Q (WE W.w σ)) ka fun as vs σ H A S env r S' hS hE hx he Q hp =>
    call_step hcv hS (repSs_app hx (hdr A H)) he hp _ fun _ _ _ h => h
theorem takesN {X : Cx} : L2N.Takes X WF := fun _ _ x => by
  obtain ⟨_, _, _, _, _, _, _, _, _, _, _, _, _, _, _, _, z⟩ := x
  exact z.elim
end
end DL
namespace DL
open PySem L2
def spInit1 (K : PySem.W.Frag) (C : Addr) (fld : Str) : Sp := fun vs H Q _ => ∃ a y, vs = [.ref a, y] ∧ H a = some (exo a C none) ∧ OexC K C ∧ PySem.W.findIn K (.ref C) fld = some none ∧
  ∀ dx, H dx = none → dx ≠ a → Q .non (upd (upd H dx (exd dx [(fld, y)])) a (exo a C (some dx)))
theorem ok_init1 {P : Program} {w : World} {K : PySem.W.Frag} {mg : Str → Option Value} {base : Heap} {f C : Addr} {fd : FuncData} {q fld y : Str} {st : Stmt} (F : Fun K "__init__" q st f fd) (sc : FnScope (["self", y] : List Str) (["self", y] : List Str) (defScope st))
    (hb : ∀ X : Cx, X.N = (["self", y] : List Str) → X.env.scope = defScope st → PSs X (defBody st) (tOst X.K fld (tVar 0) (tVar 1))) : FnOk P w K mg base CX0 1 f fd (["self", y] : List Str) (spInit1 K C fld) :=
  F.ok sc (fun vs H Q E h => by obtain ⟨a, v, rfl, _⟩ := h; rfl) fun cdv A outer s H vs Q E hr h => by
    obtain ⟨a, v, rfl, e, T, hno, k⟩ := h
    exact ⟨_, hb _ rfl rfl, v, rfl, .ref a, rfl, a, C, rfl, T, hno, .inl ⟨e, fun dx hn hne => k dx hn hne⟩⟩
theorem pmk_oexN {X : Cx} {e : Expr} {es : List Expr} {ta : TA} {p pos : Pos} {CX : CXT} {x : Str} {C fI : Addr} {k : Nat} {fd : FuncData} {ps : List Str} {sp : Sp} {ds : List Value} {dvs : List V} (T : OexC X.K C) (iC : PySem.W.findIn X.K (.ref C) "__init__" = some (some (.ref fI))) (tI : PySem.W.typeIn X.K (.ref fI) = some (.type "function"))
    (F1 : FnOk X.prog X.w X.K X.mg X.base CX k fI fd ps sp) (hr : Room (k + 1) X.A) (hb : Binds X.K fd ps ds) (hd : Vals dvs ds) (hx : Passes CX X (fun _ _ _ => False)) (hg : Gl X x) (hm : X.mg x = some (.ref C)) (ha : PA X (e :: es) ta)
    (hdb : (x == ("__debug__" : Str)) = false := by decide) (he : starEach (e :: es) X.env = (false, eval e X.env) :: starEach es X.env := by rfl) (hpl : (backTo pos (starEach es X.env)).any (·.1) = false := by rfl) :
    L2N.PMk X (.Call (.Name x p) (e :: es) [] pos) (tMkO C sp dvs ta) := by
  intro ps0 s0 σ0 H0 Q0 I0 h0
  obtain ⟨c1, c2, c3, c4, mm, c6, c7, c8, c9, c10, c11, c12, c13, c14, c15, kC, kM⟩ := T.cls
  refine wpAny_Call_Name_kw
    (L2.ld_glob I0 hg hm ?_ hdb)
  refine PySem.W.callWith_K (h₀ := X.base) I0.ok.mod.kin T.kC
    (thn (ha.run pos ps0 s0 σ0 H0 _ I0 h0) fun uu sA hA => ?_) he hpl
  obtain ⟨vv, HA, IA, rA, zA, qA⟩ := hA
  refine ⟨IA.kIn, ?_⟩
  show wpAny _ _ (call (.ref C) uu) _ _ _
  obtain ⟨hh, gg, dr, tt, oo⟩ := sA
  have fr : HA (hh.objs.size + 1) = none :=
    IA.hok.fresh (Nat.le_succ _)
  have go := qA _ fr
  have keepH : ∀ b o, hh.get? b = some o →
      ((hh.push (PySem.W.kdv_tup uu)).push (PySem.HandSPX.excO C hh.objs.size)).get? b = some o :=
    fun b o e => Heap.get?_push_of_some _ (Heap.get?_push_of_some _ e)
  have getH : ((hh.push (PySem.W.kdv_tup uu)).push (PySem.HandSPX.excO C hh.objs.size)).get? (hh.objs.size + 1)
      = some (PySem.HandSPX.excO C hh.objs.size) := by heap_get
  have IB : Inv X ps0 σ0 (upd HA (hh.objs.size + 1) (exo (hh.objs.size + 1) C none))
      ⟨(hh.push (PySem.W.kdv_tup uu)).push (PySem.HandSPX.excO C hh.objs.size), gg, dr, tt, oo⟩ :=
    IA.laid (t' := tt) (a := hh.objs.size + 1) (o := exo (hh.objs.size + 1) C none)
      (h' := (hh.push (PySem.W.kdv_tup uu)).push (PySem.HandSPX.excO C hh.objs.size)) keepH (Nat.le_succ _) (exo_ok getH)
  have rB : Vals (V.ref (hh.objs.size + 1) :: (vv ++ dvs)) (Value.ref (hh.objs.size + 1) :: (uu ++ ds)) :=
    .cons rfl (rA.append hd)
  have nB : (Value.ref (hh.objs.size + 1) :: uu ++ ds).length = ps.length :=
    rB.length.symm.trans (F1.len _ _ _ _ go)
  have nU : uu.length ≤ sizeLine := by
    have z := Paired.length rA
    have z2 : sizeLine = 16777216 := sizeLine_eq
    omega
  refine wpAny_call (PySem.HandSPX.call_own F.excBase_ValueError
    (fun _ => PySem.HandSPX.refsVE_contains _ mm kM) (IA.kIn _ _ kC)
    (PySem.W.looks_findIn IA.kIn iC) (fun self => PySem.W.bind_fn IA.kIn self tI) nU
    (codeAny_mono (F1.run _ X.stack _ _ ⟨Value.ref (hh.objs.size + 1) :: uu, []⟩ (Value.ref (hh.objs.size + 1) :: (uu ++ ds)) _ _
      (fun _ _ _ => False) (hr.make C uu []) (IB.env0.make C uu []) (hb _ (Value.ref (hh.objs.size + 1) :: uu) IB.kIn nB) rB go)
      fun rr sB hB => ?_))
  cases rr with
  | error er =>
    exact hx ps0 σ0 _ _ er sB IB hB
  | ok fl =>
    cases fl with
    | ret uv =>
      obtain ⟨v2, H2, os2, bare2, un2, hok2, rv, ev, d2, fs2, ea, ed, hd1, q2⟩ := hB
      subst ev
      obtain ⟨h2, g2, dd2, t2, os'⟩ := sB
      obtain ⟨tz, G2, J2, kG, ge, hoe, na⟩ :=
        mk_end0 (d2 := dd2) (t2 := t2) IA (Nat.le_succ _) keepH un2 hok2 os2 bare2 ea ed hd1
      refine ⟨rv, hh.objs.size + 1, _, _, ⟨G2, g2, dd2, t2, os'⟩, _, .ref C, some d2, rfl, J2, kG, ge, hoe, ?_, rfl, rfl, na, rfl, bare2,
        raises_own T.exC T.tyC, q2⟩
      exact ⟨rfl, rfl, fun _ hv => by cases hv; rfl⟩
    | next => exact hB.elim
    | brk => exact hB.elim
    | cont => exact hB.elim
section
variable {X : Cx} {W : WG} {x fld : Str} {p pos pos2 : Pos} {e : Expr} {f : Env → M SV} {C fI : Addr} {fd : FuncData} {y : Str}
def sRaise1 (c fld : Str) (f : Env → M SV) : SM := fun env => lift env (f env) fun a S => match a with
  | .d x => some (.er c [fld] [x] env, S)
  | _ => none
theorem ds_raise1 (hc : X.calm = true) (tk : L2N.Takes X W.w) (T : OexC X.K C) (iC : PySem.W.findIn X.K (.ref C) "__init__" = some (some (.ref fI))) (tI : PySem.W.typeIn X.K (.ref fI) = some (.type "function")) (hno : PySem.W.findIn X.K (.ref C) fld = some none)
    (F1 : FnOk X.prog X.w X.K X.mg X.base CX0 1 fI fd (["self", y] : List Str) (spInit1 X.K C fld)) (hr : Room 2 X.A) (hb : Binds X.K fd (["self", y] : List Str) []) (hg : Gl X x) (hm : X.mg x = some (.ref C)) (he : DE X W e f)
    (hdb : (x == ("__debug__" : Str)) = false := by decide) (hst : starEach [e] X.env = (false, eval e X.env) :: starEach [] X.env := by rfl) (hpl : (backTo pos (starEach [] X.env)).any (·.1) = false := by rfl) :
    DS X W (.Raise (some (.Call (.Name x p) [e] [] pos)) none pos2) (sRaise1 x fld f) := by
  obtain ⟨te, pe, ke⟩ := he
  have pa : PA X [e] (tCons te tNil) := pa_cons pe pa_nil hst
  refine ⟨_, L2N.ps_raise hc tk (pmk_oexN T iC tI F1 hr hb .nil pass0 hg hm pa hdb hst hpl), ?_⟩
  intro σ H A S env o S' hS hE h Dn hp
  rcases lift_some h with ⟨a, S1, ef, q⟩ | ⟨c, fs, l, ef, rfl⟩
  · refine ke σ H A S env _ S1 hS hE ef _ fun v A1 H1 e1 s1 r1 => ?_
    cases a with
    | d d =>
      cases q
      refine ⟨(by show 1 ≤ 1000; decide), fun a ha => ⟨a, v, rfl, upd_same, T, hno, fun dx hn hne => ⟨rfl, dx, _, upd_same, by rw [upd_ne hne, upd_same], ?_, ?_⟩⟩⟩
      · rw [upd_ne hne] at hn; exact hn
      · rw [upd_ne hne] at hn
        have eH : upd (del (upd (upd (upd H1 a (exo a C none)) dx (exd dx [(fld, v)])) a (exo a C (some dx))) a) dx (.xd [(fld, v)]) = upd H1 dx (.xd [(fld, v)]) := by
          funext b
          by_cases hb : b = dx
          · subst hb; rw [upd_same, upd_same]
          · rw [upd_ne hb, upd_ne hb]
            by_cases hba : b = a
            · subst hba; rw [del_same, ha]
            · rw [del_ne hba, upd_ne hba, upd_ne hb, upd_ne hba]
        rw [eH]
        have rx : Rep X.K X.mg A1 H1 d v := r1
        exact hp C (some dx) σ A1 _ hm (e1.trans (Ext.new hn)) (s1.new hn) ((hE.mono e1).mono (Ext.new hn)) (.inr ⟨dx, [v], rfl, s1.free hn, upd_same, rfl, by
          simp only [Reps]
          exact ⟨v, [], rfl, Rep.mono (Ext.new hn) _ _ rx, rfl⟩⟩)
    | ptr k => cases q
    | obj k => cases q
    | dic k => cases q
    | exc => cases q
  · exact ke σ H A S env _ _ hS hE ef _ fun C dd A' H' hc e s r => hp C dd σ A' H' hc e s (hE.mono e) r
def envNE (env : Env) : Bool := env.all fun o => match o with
  | some .exc => false
  | _ => true
def noX : SV → Bool
  | .exc => false
  | _ => true
def WG.body (W : WG) (w : WX) : WG := ⟨w, W.G, W.mono, W.sub, W.xa⟩
/-- e.f within the suite -/
def lookD (fld : Str) : List Str → List D → Option D
  | f :: fs, d :: ds => if fld = f then some d else lookD fld fs ds
  | _, _ => none
def eXf (i : Nat) (fld : Str) (fs : List Str) (l : List D) : Env → M SV := fun env => match env[i]? with
  | some (some .exc) => match lookD fld fs l with
    | some d => ret (.d d)
    | none => stuck
  | _ => stuck
/-- a module's def, called -/
theorem Callee.call {cv : RR → M SV} (hcv : CvOk cv) {m : Fn} {k j : Nat} {fA : Addr} {fd : FuncData} {ps : List Str} {es : List Expr} {fa : Env → M (List SV)} {dsv : List SV} {dvs : List V} {ds : List Value} (c : Callee X.prog X.w X.K X.mg X.base k x ps m fA fd) (hr : Room j X.A) (hj : k ≤ j) (tk : L2N.Takes X W.w) (hg : Gl X x) (hb : Binds X.K fd ps ds) (hd : Vals dvs ds)
    (hdr : ∀ A H, RepSs X.K (gm X W) A H dsv dvs) (ha : DA X W (e :: es) fa) (hdb : (x == ("__debug__" : Str)) = false := by decide) (he : starEach (e :: es) X.env = (false, eval e X.env) :: starEach es X.env := by rfl) (hpl : (backTo pos (starEach es X.env)).any (·.1) = false := by rfl) :
    DE X W (.Call (.Name x p) (e :: es) [] pos) (eCall cv m dsv fa) := de_call hcv c.F (hr.mono hj) tk hg c.mg c.kp hb hd hdr ha hdb he hpl
theorem Callee.of {P : Program} {w : World} {K : PySem.W.Frag} {mg : Str → Option Value} {base : Heap} {k : Nat} {x : Str} {ps : List Str} {m : Fn} {f : Addr} {fd : FuncData} (F : FnOk P w K mg base (L2N.CX P w) k f fd ps (spD K mg m)) (hm : mg x = some (.ref f)) (hk : PySem.W.keepIn K (.ref f) = true) : Callee P w K mg base k x ps m f fd := ⟨F, hm, hk⟩
/-- what the text says of an own error class with one field -/
structure ErrC (K : PySem.W.Frag) (mg : Str → Option Value) (x fld y : Str) (C fI : Addr) (fdI : FuncData) : Prop where
  gC : mg x = some (.ref C)
  T : OexC K C
  iC : PySem.W.findIn K (.ref C) "__init__" = some (some (.ref fI))
  tI : PySem.W.typeIn K (.ref fI) = some (.type "function")
  hno : PySem.W.findIn K (.ref C) fld = some none
  F : ∀ (P : Program) (w : World) (base : Heap), FnOk P w K mg base CX0 1 fI fdI (["self", y] : List Str) (spInit1 K C fld)
  b : Binds K fdI (["self", y] : List Str) []
  x : XfC K C
  te : PySem.W.exmOne K (.ref C) (.ref C) = some true
def spLaw (K : PySem.W.Frag) (n : Nat) : Sp := fun vs H Q E => ∃ (a : Addr) (ns : List Int), vs = [.ref a] ∧ SqL K H a (ns.map V.int) ∧ ns.length ≤ n ∧ ∀ H', Q (.bl true) H'
theorem reps_ints {K : PySem.W.Frag} {mg : Str → Option Value} {A : List Addr} {H : Hp} : ∀ ns : List Int, Reps K mg A H (ns.map D.int) (ns.map V.int)
  | [] => by simp only [List.map_nil, Reps]
  | n :: ns => by
    simp only [List.map_cons, Reps]
    exact ⟨.int n, _, rfl, by simp only [Rep], reps_ints ns⟩
theorem law_imp {P : Program} {w : World} {K : PySem.W.Frag} {mg : Str → Option Value} {base : Heap} {k n : Nat} {f : Addr} {fd : FuncData} {ps : List Str} {m : Fn} (F : FnOk P w K mg base (L2N.CX P w) k f fd ps (spD K mg m))
    (main : ∀ ns : List Int, ns.length ≤ n → m [.d (.scr (ns.map D.int))] [] = some (.ok (.d (.bl true)), [])) : FnOk P w K mg base (L2N.CX P w) k f fd ps (spLaw K n) :=
  F.imp fun vs H Q E h => by
    obtain ⟨a, ns, rfl, hs, hl, q⟩ := h
    refine ⟨[], [], [.d (.scr (ns.map D.int))], _, _, ⟨List.nodup_nil, rfl, fun k a ds e _ => by simp at e, trivial⟩, ⟨.ref a, [], rfl, ?_, rfl⟩, main ns hl, ?_⟩
    · show Rep K mg [] H (.scr (ns.map D.int)) (.ref a)
      simp only [Rep]
      refine ⟨a, _, rfl, ?_, reps_ints ns⟩
      rcases hs with hs | hs
      · exact .inl ⟨hs, by simp⟩
      · exact .inr fun H' => .inr hs
    · intro v H' e s r
      have r' : v = .bl true := by simpa only [Rep] using r
      rw [r']
      exact q H'
end
end DL
namespace DL
open PySem L2
section
variable {X : Cx} {W : WG} {x : Str} {p pos : Pos} {e tg : Expr} {es : List Expr}
theorem cok_gcd : COk X W rGcd bGcd := cok_two
theorem cok_max : COk X W (fun xs H Q => ∃ i j, xs = [.int i, .int j] ∧ Q (.int (if j > i then j else i)) H) bMax := cok_two (g := fun i j => if j > i then j else i)
theorem dgs_cons {ts : List Expr} {is : List Nat} (i : Nat) (hN : X.N.Nodup) (h : DGs X ts is) (hi : X.N[i]? = some x := by rfl) (hx : Loc X.env.scope x := by first | exact Or.inl rfl | exact Or.inr rfl) (hf : X.fn x = true ∨ X.env.scope.names.lookup x = some .local := by first | exact .inl rfl | exact .inr rfl)
    (pq : ∀ {g : TGs}, PG X (.Name x pos) (gName i) → PGs X ts g → PGs X (.Name x pos :: ts) (gCons (gName i) g) := by exact fun p q => pgs_cons p q) : DGs X (.Name x pos :: ts) (i :: is) := pq (pg_name hN hi hx hf) h
/-- does a raised class fall under the handler's class -/
theorem exm_own {K : PySem.W.Frag} {c : Value} {S : Addr} {b : Bool} (e1 : PySem.W.subIn K (.ref S) (.type "BaseException") = some true) (e2 : PySem.W.isClsIn K S = true)
    (e3 : PySem.W.typeIn K (.ref S) = some (.type "type")) (e4 : PySem.W.subIn K c (.ref S) = some b) : PySem.W.exmOne K c (.ref S) = some b := by
  have e5 : (PySem.W.clsIn K S).isSome = true := e2
  unfold PySem.W.exmOne PySem.W.kitCls
  simp [e1, e3, e4, e5]
end
end DL
namespace DL
open PySem L2
theorem clsd_cons {d : D} {l : List D} (h : isOwn d = false) (h' : clsd l = true) : clsd (d :: l) = true := by
  simp only [clsd, List.any_cons, h, Bool.false_or]; exact h'
theorem clsd_map {α : Type} {f : α → D} (h : ∀ a, isOwn (f a) = false) : ∀ l : List α, clsd (l.map f) = true
  | [] => rfl
  | a :: l => clsd_cons (h a) (clsd_map h l)
theorem clsd_ints (l : List Int) : clsd (l.map D.int) = true := clsd_map (fun _ => rfl) l
theorem clsd_append {l m : List D} (h : clsd l = true) (h' : clsd m = true) : clsd (l ++ m) = true := by
  simp only [clsd, List.any_append, Bool.not_or, Bool.and_eq_true] at h h' ⊢; exact ⟨h, h'⟩
theorem calC_of {n : Nat} {l : List D} (h : clsd l = true) (h2 : ∀ c fs m, l ≠ [.ins c fs m]) : CalC n l := ⟨fun j hj => by
  have h3 : l.any isOwn = true := List.any_eq_true.mpr ⟨_, hj, rfl⟩
  simp [clsd, h3] at h, fun c fs m e => (h2 c fs m e).elim⟩
theorem calC_2 {n : Nat} {a b : D} {l : List D} (h : clsd (a :: b :: l) = true) : CalC n (a :: b :: l) := calC_of h fun _ _ _ e => by cases e
theorem calC_ints {n : Nat} {l : List Int} : CalC n (l.map D.int) := calC_of (clsd_ints l) fun _ _ _ e => by
  cases l with
  | nil => cases e
  | cons a l => cases e
theorem cal_cons {l l' : List D} {rest junk : Store} (h : CalC (rest.length + 1) l') : Cal (l :: rest) (l' :: rest ++ junk) := fun k ds hk e => by
  cases k with
  | zero => cases e; exact .inr h
  | succ k => left; rw [List.cons_append, List.getElem?_cons_succ, List.getElem?_append_left (by simpa using hk)] at e; exact e
theorem cal_cons0 {l l' : List D} {rest : Store} (h : CalC (rest.length + 1) l') : Cal (l :: rest) (l' :: rest) := by
  have := cal_cons (l := l) (rest := rest) (junk := []) h
  rwa [List.append_nil] at this
section
variable {env : Env} {S : Store}
@[simp] theorem ev_C (d : D) : eC d env = ret (.d d) := rfl
theorem ev_Var {i : Nat} {sv : SV} (h : env[i]? = some (some sv)) : eVar i env = ret sv := by unfold eVar; rw [h]
@[simp] theorem ev_Op (o : SV → SV → M SV) (f g : Env → M SV) : eOp o f g env = bnd (f env) fun x => bnd (g env) fun y => o x y := rfl
@[simp] theorem ev_Un (o : SV → M SV) (f : Env → M SV) : eUn o f env = bnd (f env) o := rfl
@[simp] theorem ev_Arg {α : Type} (o : List SV → M α) (fa : Env → M (List SV)) : eArg o fa env = bnd (fa env) o := rfl
@[simp] theorem ev_Nil : aNil env = ret [] := rfl
@[simp] theorem ev_Cons (f : Env → M SV) (fa : Env → M (List SV)) : aCons f fa env = bnd (f env) fun x => bnd (fa env) fun xs => ret (x :: xs) := rfl
@[simp] theorem ev_Tst (f : Env → M SV) : eTst f env = bnd (f env) asB := rfl
@[simp] theorem ev_tyAnd (t u : Env → M Bool) : tyAnd t u env = bnd (t env) fun c => if c then u env else ret false := rfl
@[simp] theorem ev_tyOr (t u : Env → M Bool) : tyOr t u env = bnd (t env) fun c => if c then ret true else u env := rfl
@[simp] theorem ev_tyNot (t : Env → M Bool) : tyNot t env = bnd (t env) fun c => ret (!c) := rfl
@[simp] theorem ev_And (f g : Env → M SV) : eAnd f g env = bnd (bnd (f env) asB) fun c => if c then g env else ret (.d (.bl false)) := rfl
@[simp] theorem ev_Or (f g : Env → M SV) : eOr f g env = bnd (bnd (f env) asB) fun c => if c then ret (.d (.bl true)) else g env := rfl
@[simp] theorem ev_Not (f : Env → M SV) : eNot f env = bnd (bnd (f env) asB) fun c => ret (.d (.bl (!c))) := rfl
@[simp] theorem ev_If (t : Env → M Bool) (f g : Env → M SV) : eIf t f g env = bnd (t env) fun c => if c then f env else g env := rfl
@[simp] theorem ev_Call (cv : RR → M SV) (m : Fn) (dsv : List SV) (fa : Env → M (List SV)) : eCall cv m dsv fa env = bnd (fa env) fun as => callM cv m (as ++ dsv) := rfl
@[simp] theorem ev_CallK (cv : RR → M SV) (m : Fn) (p : List SV → List SV) (fa : Env → M (List SV)) : eCallK cv m p fa env = bnd (fa env) fun as => callN cv m (p as) := rfl
@[simp] theorem ev_iOf (f : Env → M SV) : iOf f env = bnd (f env) walkD := rfl
@[simp] theorem ev_Yes : tYesD env = ret true := rfl
@[simp] theorem bnd_ret' {α β : Type} (a : α) (k : α → M β) : bnd (ret a) k = k a := rfl
@[simp] theorem bnd_raise' {α β : Type} {c fs l} (k : α → M β) : bnd (raise c fs l : M α) k = raise c fs l := rfl
@[simp] theorem bnd_stuck' {α β : Type} (k : α → M β) : bnd (stuck : M α) k = stuck := rfl
@[simp] theorem bnd_if {α β : Type} (c : Prop) [Decidable c] (x y : M α) (k : α → M β) : bnd (if c then x else y) k = if c then bnd x k else bnd y k := by split <;> rfl
theorem bnd_at {α β : Type} {m : M α} {a : α} {S1 : Store} (h : m S = some (.ok a, S1)) (k : α → M β) : bnd m k S = k a S1 := by unfold bnd; rw [h]
@[simp] theorem ret_at {α : Type} (a : α) : ret a S = some (.ok a, S) := rfl
@[simp] theorem asB_b (b : Bool) : asB (.d (.bl b)) = ret b := rfl
@[simp] theorem oAdd_i (i j : Int) : oAdd (.d (.int i)) (.d (.int j)) = ret (.d (.int (i + j))) := rfl
@[simp] theorem oSub_i (i j : Int) : oSub (.d (.int i)) (.d (.int j)) = ret (.d (.int (i - j))) := rfl
theorem oMul_i {i j : Int} (h : i.natAbs.log2 + j.natAbs.log2 < 1000000) : oMul (.d (.int i)) (.d (.int j)) = ret (.d (.int (i * j))) := by
  unfold oMul iOp; simp only [mulOk, h, decide_true, if_true]
theorem oFdiv_i {i j : Int} (h0 : j ≠ 0) (h : j.natAbs.log2 < 9000) : oFdiv (.d (.int i)) (.d (.int j)) = ret (.d (.int (i.fdiv j))) := by
  unfold oFdiv iOp; simp only [divOk, h, h0, ne_eq, not_false_eq_true, decide_true, Bool.and_self, if_true]
theorem oMod_i {i j : Int} (h0 : j ≠ 0) : oMod (.d (.int i)) (.d (.int j)) = ret (.d (.int (i.fmod j))) := by
  unfold oMod iOp; simp only [modOk, h0, ne_eq, not_false_eq_true, decide_true, if_true]
theorem oPow_i {i j : Int} (h0 : 0 ≤ j) (h1 : j ≤ 1000000) (h : i.natAbs < 2 ^ 64) : oPow (.d (.int i)) (.d (.int j)) = ret (.d (.int (i ^ j.toNat))) := by
  unfold oPow iOp; simp only [powOk, h0, h1, h, decide_true, Bool.and_self, if_true]
@[simp] theorem oLt_i (i j : Int) : oLt (.d (.int i)) (.d (.int j)) = ret (.d (.bl (decide (i < j)))) := rfl
@[simp] theorem oLe_i (i j : Int) : oLe (.d (.int i)) (.d (.int j)) = ret (.d (.bl (decide (i ≤ j)))) := rfl
@[simp] theorem oGt_i (i j : Int) : oGt (.d (.int i)) (.d (.int j)) = ret (.d (.bl (decide (j < i)))) := rfl
@[simp] theorem oGe_i (i j : Int) : oGe (.d (.int i)) (.d (.int j)) = ret (.d (.bl (decide (j ≤ i)))) := rfl
@[simp] theorem oNeg_i (i : Int) : oNeg (.d (.int i)) = ret (.d (.int (-i))) := rfl
theorem shaped_int (i : Int) : SeqAt.shaped (.int i) = true := by
  unfold SeqAt.shaped; simp [PyData.canLay0, PyData.depth]
@[simp] theorem oEq_i (i j : Int) : oEq (.d (.int i)) (.d (.int j)) = ret (.d (.bl (decide (i = j)))) := by
  funext S
  unfold oEq
  simp [deref, eqOk, plain, toPy, shaped_int, eqD, PyData.eqv, Bool.beq_eq_decide_eq]
@[simp] theorem oNe_i (i j : Int) : oNe (.d (.int i)) (.d (.int j)) = ret (.d (.bl (!decide (i = j)))) := by
  funext S
  unfold oNe
  simp [deref, eqOk, plain, toPy, shaped_int, eqD, PyData.eqv, Bool.beq_eq_decide_eq]
/-- equality of two data, where it can be asked -/
theorem oEq_d {x y : D} (h : eqOk x y = true) : oEq (.d x) (.d y) = ret (.d (.bl (eqD x y))) := by
  funext S
  unfold oEq
  simp [deref, h]
theorem oNe_d {x y : D} (h : eqOk x y = true) : oNe (.d x) (.d y) = ret (.d (.bl (!eqD x y))) := by
  funext S
  unfold oNe
  simp [deref, h]
@[simp] theorem bGcd_i (i j : Int) : bGcd [.d (.int i), .d (.int j)] = ret (.d (.int ((Nat.gcd i.natAbs j.natAbs : Nat) : Int))) := rfl
@[simp] theorem bInt_i (i : Int) : bInt [.d (.int i)] = ret (.d (.int i)) := rfl
@[simp] theorem bInt_b (b : Bool) : bInt [.d (.bl b)] = ret (.d (.int (if b then 1 else 0))) := rfl
@[simp] theorem bAbs_i (i : Int) : bAbs [.d (.int i)] = ret (.d (.int (if i < 0 then -i else i))) := rfl
@[simp] theorem bMax_i (i j : Int) : bMax [.d (.int i), .d (.int j)] = ret (.d (.int (if j > i then j else i))) := rfl
@[simp] theorem bMin_i (i j : Int) : bMin [.d (.int i), .d (.int j)] = ret (.d (.int (if j < i then j else i))) := rfl
@[simp] theorem bLen_l (l : List D) : bLen [.d (.lst l)] = ret (.d (.int l.length)) := rfl
@[simp] theorem bLen_t (l : List D) : bLen [.d (.tup l)] = ret (.d (.int l.length)) := rfl
@[simp] theorem bLen_s (l : List D) : bLen [.d (.scr l)] = ret (.d (.int l.length)) := rfl
@[simp] theorem bList_l (l : List D) : bList [.d (.lst l)] = ret (.d (.lst l)) := rfl
@[simp] theorem bList_t (l : List D) : bList [.d (.tup l)] = ret (.d (.lst l)) := rfl
@[simp] theorem bList_s (l : List D) : bList [.d (.scr l)] = ret (.d (.lst l)) := rfl
@[simp] theorem bListOwn_l (l : List D) : bListOwn [.d (.lst l)] S = some (.ok (.ptr S.length), S ++ [l]) := rfl
@[simp] theorem bListOwn_t (l : List D) : bListOwn [.d (.tup l)] S = some (.ok (.ptr S.length), S ++ [l]) := rfl
@[simp] theorem bListOwn_s (l : List D) : bListOwn [.d (.scr l)] S = some (.ok (.ptr S.length), S ++ [l]) := rfl
@[simp] theorem bTuple_t (l : List D) : bTuple [.d (.tup l)] = ret (.d (.tup l)) := rfl
@[simp] theorem bTuple_l (l : List D) : bTuple [.d (.lst l)] = ret (.d (.tup l)) := rfl
@[simp] theorem kit_ii : kitB "int" "int" = some true := by decide +kernel
@[simp] theorem kit_ib : kitB "int" "bool" = some false := by decide +kernel
@[simp] theorem kit_bi : kitB "bool" "int" = some true := by decide +kernel
@[simp] theorem kit_bb : kitB "bool" "bool" = some true := by decide +kernel
@[simp] theorem kit_tt : kitB "tuple" "tuple" = some true := by decide +kernel
@[simp] theorem bIsi_ii (i : Int) : bIsi [.d (.int i), .d (.ty "int")] = ret (.d (.bl true)) := by simp [bIsi, tyN]
@[simp] theorem bIsi_ib (i : Int) : bIsi [.d (.int i), .d (.ty "bool")] = ret (.d (.bl false)) := by simp [bIsi, tyN]
@[simp] theorem bIsi_tt (l : List D) : bIsi [.d (.tup l), .d (.ty "tuple")] = ret (.d (.bl true)) := by simp [bIsi, tyN]
theorem oIdx_l {l : List D} {i : Int} {d : D} (h : atI l i = some d) : oIdx (.d (.lst l)) (.d (.int i)) = ret (.d d) := by
  funext S; simp [oIdx, seqIx, seqOf, h]
theorem oIdx_t {l : List D} {i : Int} {d : D} (h : atI l i = some d) : oIdx (.d (.tup l)) (.d (.int i)) = ret (.d d) := by
  funext S; simp [oIdx, seqIx, seqOf, h]
@[simp] theorem oIdx_t0 (a : D) (l : List D) : oIdx (.d (.tup (a :: l))) (.d (.int 0)) = ret (.d a) := oIdx_t (by simp [atI, ixN])
@[simp] theorem oIdx_t1 (a b : D) (l : List D) : oIdx (.d (.tup (a :: b :: l))) (.d (.int 1)) = ret (.d b) := oIdx_t (by
  have : (1 : Int) < (l.length : Int) + 1 + 1 := by omega
  simp [atI, ixN, this])
theorem oIdx_k {l : List D} {i : Int} {d : D} (h : atI l i = some d) : oIdx (.d (.kt l)) (.d (.int i)) = ret (.d d) := by
  funext S; simp [oIdx, seqIx, h]
@[simp] theorem oIdx_k0 (a : D) (l : List D) : oIdx (.d (.kt (a :: l))) (.d (.int 0)) = ret (.d a) := oIdx_k (by simp [atI, ixN])
@[simp] theorem oIdx_k1 (a b : D) (l : List D) : oIdx (.d (.kt (a :: b :: l))) (.d (.int 1)) = ret (.d b) := oIdx_k (by
  have : (1 : Int) < (l.length : Int) + 1 + 1 := by omega
  simp [atI, ixN, this])
theorem oIdx_p {k : Nat} {l : List D} {i : Int} {d : D} (h : S[k]? = some l) (h2 : atI l i = some d) (hc : clsd l = true := by (first | rfl | exact clsd_ints _ | exact clsd_map (fun _ => rfl) _ | assumption | (exact clsd_append (clsd_ints _) (by rfl)) | (exact clsd_append (clsd_map (fun _ => rfl) _) (by rfl)))) : oIdx (.ptr k) (.d (.int i)) S = some (.ok (.d d), S) := by
  simp [oIdx, seqIx, seqOf, cellC_of h hc, h2]
@[simp] theorem mkTup_2 (a b : D) : mkTup [.d a, .d b] = ret (.d (.tup [a, b])) := rfl
@[simp] theorem mkLst_0 : mkLst [] = ret (.d (.lst [])) := rfl
@[simp] theorem mkLst_1 (a : D) : mkLst [.d a] = ret (.d (.lst [a])) := rfl
@[simp] theorem mkLst_2 (a b : D) : mkLst [.d a, .d b] = ret (.d (.lst [a, b])) := rfl
@[simp] theorem mkLst_4 (a b c d : D) : mkLst [.d a, .d b, .d c, .d d] = ret (.d (.lst [a, b, c, d])) := rfl
@[simp] theorem mkOwn_0 : mkOwn [] S = some (.ok (.ptr S.length), S ++ [[]]) := rfl
@[simp] theorem mkOwn_2 (a b : D) : mkOwn [.d a, .d b] S = some (.ok (.ptr S.length), S ++ [[a, b]]) := rfl
@[simp] theorem mkOwn_3 (a b c : D) : mkOwn [.d a, .d b, .d c] S = some (.ok (.ptr S.length), S ++ [[a, b, c]]) := rfl
theorem st_SeqN {F G : SM} {env' : Env} {S' : Store} (h : F env S = some (.nx env', S')) : sSeq F G env S = G env' S' := by unfold sSeq; rw [h]
theorem st_SeqR {F G : SM} {sv : SV} {S' : Store} (h : F env S = some (.rt sv, S')) : sSeq F G env S = some (.rt sv, S') := by unfold sSeq; rw [h]
theorem st_Set {i : Nat} {f : Env → M SV} {a : SV} {S' : Store} (h : f env S = some (.ok a, S')) : sSet i f env S = some (.nx (env.set i (some a)), S') := by
  unfold sSet lift; rw [h]
theorem st_Drop {f : Env → M SV} {a : SV} {S' : Store} (h : f env S = some (.ok a, S')) : sDrop f env S = some (.nx env, S') := by
  unfold sDrop lift; rw [h]
theorem st_Ret {f : Env → M SV} {a : SV} {S' : Store} (h : f env S = some (.ok a, S')) : sRet f env S = some (.rt a, S') := by
  unfold sRet lift; rw [h]
theorem st_If {t : Env → M Bool} {F G : SM} {b : Bool} {S' : Store} (h : t env S = some (.ok b, S')) : sIf t F G env S = if b then F env S' else G env S' := by
  unfold sIf lift; rw [h]; cases b <;> rfl
theorem st_IfT {t : Env → M Bool} {F G : SM} {S' : Store} (h : t env S = some (.ok true, S')) : sIf t F G env S = F env S' := by rw [st_If h, if_pos rfl]
theorem st_IfF {t : Env → M Bool} {F G : SM} {S' : Store} (h : t env S = some (.ok false, S')) : sIf t F G env S = G env S' := by rw [st_If h]; rfl
theorem st_For {t : Tg} {f : Env → M (List D × KK)} {F : SM} {ds : List D} {kk : KK} {S' : Store} (h : f env S = some (.ok (ds, kk), S')) : sFor t f F env S = forL t kk ds F ds env S' := by
  unfold sFor lift; rw [h]
theorem st_SetI {fo fi fe : Env → M SV} {x : D} {k : Nat} {n : Int} {l : List D} {j : Nat} {S1 S2 S3 : Store} (h1 : fe env S = some (.ok (.d x), S1)) (h2 : fo env S1 = some (.ok (.ptr k), S2)) (h3 : fi env S2 = some (.ok (.d (.int n)), S3))
    (h4 : S3[k]? = some l) (h5 : ixN l.length n = some j) : sSetI fo fi fe env S = some (.nx env, S3.set k (l.set j x)) := by
  unfold sSetI lift bnd
  rw [h1]; dsimp only; rw [h2]; dsimp only; rw [h3]; dsimp only [ret]; rw [h4]; dsimp only; rw [h5]
theorem st_App {fo fe : Env → M SV} {x : D} {k : Nat} {l : List D} {S1 S2 : Store} (h1 : fo env S = some (.ok (.ptr k), S1)) (h2 : fe env S1 = some (.ok (.d x), S2)) (h4 : S2[k]? = some l) (h5 : l.length < 16777216) :
    sApp fo fe env S = some (.nx env, S2.set k (l ++ [x])) := by
  unfold sApp lift bnd
  rw [h1]; dsimp only [asPtr, ret]; rw [h2]; dsimp only; rw [h4]; dsimp only; rw [if_pos (show l.length < lim from h5)]
theorem call_pure {m : Fn} {as : List SV} {x : D} (hn : noExc as = true) (h : m as = ret (.d x)) : callM asPure m as = ret (.d x) := by
  unfold callM; rw [if_pos hn, h]; rfl
theorem call_pureO {m : Fn} {as : List SV} {x : D} (hn : noExc as = true) (h : m as = ret (.d x)) : callM asOwn m as = ret (.d x) := by
  unfold callM; rw [if_pos hn, h]; rfl
theorem call_at {m : Fn} {as : List SV} {x : D} {S1 : Store} (hn : noExc as = true) (h : m as S = some (.ok (.d x), S1)) : callM asPure m as S = some (.ok (.d x), S1) := by
  unfold callM; rw [if_pos hn]; unfold bnd; rw [h]; rfl
theorem call_atP {m : Fn} {as : List SV} {x : D} {S1 : Store} (hn : noExc as = true) (h : m as S = some (.ok (.d x), S1)) : callM asOwn m as S = some (.ok (.d x), S1) := by
  unfold callM; rw [if_pos hn]; unfold bnd; rw [h]; rfl
theorem call_atF {m : Fn} {as : List SV} {x : List D} {S1 : Store} (hn : noExc as = true) (h : m as S = some (.ok (.fresh x), S1)) (hc : clsd x = true := by (first | rfl | exact clsd_ints _ | exact clsd_map (fun _ => rfl) _ | assumption | (exact clsd_append (clsd_ints _) (by rfl)) | (exact clsd_append (clsd_map (fun _ => rfl) _) (by rfl)))) : callM asPure m as S = some (.ok (.d (.lst x)), S1) := by
  unfold callM; rw [if_pos hn]; unfold bnd; rw [h]; dsimp only [asPure]; rw [if_pos hc]; rfl
theorem call_atO {m : Fn} {as : List SV} {x : List D} {S1 : Store} (hn : noExc as = true) (h : m as S = some (.ok (.fresh x), S1)) : callM asOwn m as S = some (.ok (.ptr S1.length), S1 ++ [x]) := by
  unfold callM; rw [if_pos hn]; unfold bnd; rw [h]; rfl
theorem call_er {m : Fn} {as : List SV} {c fs l} {S1 : Store} {cv} (hn : noExc as = true) (h : m as S = some (.err c fs l, S1)) : callM cv m as S = some (.err c fs l, S1) := by
  unfold callM; rw [if_pos hn]; unfold bnd; rw [h]
theorem fn_ret {np n : Nat} {body : SM} {as : List SV} {x : D} {S1 : Store} (hl : as.length = np) (h : body (as.map some ++ List.replicate (n - as.length) none) S = some (.rt (.d x), S1)) (hc : Cal S S1 := by (first | exact cal_refl _ | exact cal_app _ _ | exact cal_cons (calC_2 rfl) | exact cal_cons0 (calC_2 rfl) | exact cal_cons calC_ints | exact cal_cons0 calC_ints | (exact cal_cons (by assumption)) | (exact cal_cons0 (by assumption)))) : fnSem np n body as S = some (.ok (.d x), S1.take S.length) := by
  unfold fnSem; rw [if_pos hl, h]; dsimp only; rw [if_pos hc]
theorem fn_retP {np n : Nat} {body : SM} {as : List SV} {k : Nat} {x : List D} {S1 : Store} (hl : as.length = np) (h : body (as.map some ++ List.replicate (n - as.length) none) S = some (.rt (.ptr k), S1)) (hk : S.length ≤ k) (hx : S1[k]? = some x) (hc : Cal S S1 := by (first | exact cal_refl _ | exact cal_app _ _ | exact cal_cons (calC_2 rfl) | exact cal_cons0 (calC_2 rfl) | exact cal_cons calC_ints | exact cal_cons0 calC_ints | (exact cal_cons (by assumption)) | (exact cal_cons0 (by assumption)))) (hcl : clsd x = true := by (first | rfl | exact clsd_ints _ | exact clsd_map (fun _ => rfl) _ | assumption | (exact clsd_append (clsd_ints _) (by rfl)) | (exact clsd_append (clsd_map (fun _ => rfl) _) (by rfl)))) :
    fnSem np n body as S = some (.ok (.fresh x), S1.take S.length) := by
  unfold fnSem; rw [if_pos hl, h]; dsimp only; rw [if_pos hc, if_neg (by omega), hx]; dsimp only; rw [frzL_of hcl]
theorem fn_retE {np n : Nat} {body : SM} {as : List SV} {x : D} {S1 : Store} (hl : as.length = np) (h : body (as.map some ++ List.replicate (n - as.length) none) S = some (.rt (.d x), S1)) (hS : S1.length = S.length) (hc : Cal S S1 := by (first | exact cal_refl _ | exact cal_app _ _ | exact cal_cons (calC_2 rfl) | exact cal_cons0 (calC_2 rfl) | exact cal_cons calC_ints | exact cal_cons0 calC_ints | (exact cal_cons (by assumption)) | (exact cal_cons0 (by assumption)))) : fnSem np n body as S = some (.ok (.d x), S1) := by
  rw [fn_ret hl h hc, ← hS, List.take_length]
theorem for_nil {t : Tg} {kk : KK} {all : List D} {F : SM} : forL t kk all F [] env S = some (.nx env, S) := by unfold forL; rfl
theorem for_nx {t : Tg} {kk : KK} {all : List D} {F : SM} {d : D} {ds : List D} {env1 env2 : Env} {S2 : Store} (h1 : setT t d env = some env1) (h2 : F env1 S = some (.nx env2, S2)) (h3 : keepOk kk all S2) :
    forL t kk all F (d :: ds) env S = forL t kk all F ds env2 S2 := by
  conv => lhs; unfold forL
  rw [h1]; dsimp only; rw [h2]; dsimp only; rw [if_pos h3]
theorem wh_f {t : Env → M Bool} {F : SM} {n : Nat} {S1 : Store} (h : t env S = some (.ok false, S1)) : whL t F (n + 1) env S = some (.nx env, S1) := by
  unfold whL lift; rw [h]; rfl
theorem wh_t {t : Env → M Bool} {F : SM} {n : Nat} {S1 S2 : Store} {env2 : Env} (h : t env S = some (.ok true, S1)) (h2 : F env S1 = some (.nx env2, S2)) : whL t F (n + 1) env S = whL t F n env2 S2 := by
  conv => lhs; unfold whL lift
  rw [h]; dsimp only; rw [if_pos rfl, h2]
theorem st_Par {i j : Nat} {fa : Env → M (List SV)} {x y : SV} {S1 : Store} (h : fa env S = some (.ok [x, y], S1)) : sPar i j fa env S = some (.nx ((env.set i (some x)).set j (some y)), S1) := by
  unfold sPar lift; rw [h]
theorem lc_loop {t : Tg} {cond : Env → M Bool} {fe : Env → M SV} {all : List D} {k : Nat} (h : D → D) {S0 : Store} (hk : k = S0.length) : ∀ (ds acc : List D),
    (∀ d ∈ ds, ∃ env1, setT t d env = some env1 ∧ cond env1 = ret true ∧ fe env1 = ret (.d (h d))) → acc.length + ds.length ≤ 16777216 → lcL t none all cond fe k env ds (S0 ++ [acc]) = some (S0 ++ [acc ++ ds.map h])
  | [], acc, _, _ => by unfold lcL; simp
  | d :: ds, acc, hd, hl => by
    obtain ⟨env1, h1, h2, h3⟩ := hd d List.mem_cons_self
    unfold lcL
    rw [h1]; dsimp only; rw [h2]; dsimp only [ret]; rw [h3]; dsimp only [ret]
    have hg : (S0 ++ [acc])[k]? = some acc := by rw [hk]; simp
    have hlt : acc.length < lim := by simp only [List.length_cons] at hl; simp only [lim]; omega
    unfold lcNext
    rw [hg]; dsimp only; rw [if_pos hlt]; dsimp only
    rw [if_pos (show keepOk none all _ from trivial)]
    have hs : (S0 ++ [acc]).set k (acc ++ [h d]) = S0 ++ [acc ++ [h d]] := by rw [hk]; simp
    rw [hs, lc_loop h hk ds (acc ++ [h d]) (fun x hx => hd x (List.mem_cons_of_mem _ hx)) (by simp only [List.length_append, List.length_cons, List.length_nil] at hl ⊢; omega)]
    simp
theorem lc_pureO {ws : List Nat} {t : Tg} {f : Env → M (List D × KK)} {cond : Env → M Bool} {fe : Env → M SV} {ds : List D} {S1 : Store} (h : D → D) (hf : f env S = some (.ok (ds, none), S1))
    (hd : ∀ d ∈ ds, ∃ env1, setT t d (wipeE env ws) = some env1 ∧ cond env1 = ret true ∧ fe env1 = ret (.d (h d))) (hl : ds.length ≤ 16777216) (hcl : ∀ d, isOwn (h d) = false := by intro _; rfl) : eLcOwn ws t f cond fe env S = some (.ok (.ptr S1.length), S1 ++ [ds.map h]) := by
  unfold eLcOwn
  rw [bnd_at hf]
  dsimp only
  rw [lc_loop h rfl ds [] hd (by simpa using hl)]
  simp [cal_app, clsd_map hcl]
theorem plains_ints : ∀ ns : List Int, plains (ns.map D.int) = true
  | [] => rfl
  | n :: ns => by simp only [List.map_cons, plains, plain, Bool.true_and]; exact plains_ints ns
end
end DL
namespace DL
open PySem L2
section
variable {X : Cx} {W : WG} {e a b c : Expr} {es : List Expr} {f g h : Env → M SV} {fa : Env → M (List SV)} {t : Env → M Bool} {F G : SM} {st : Stmt} {pos p : Pos} {x : Str}
def eCh (o o' : SV → SV → M SV) (f g h : Env → M SV) : Env → M SV := fun env => bnd (f env) fun x => bnd (g env) fun y => bnd (bnd (o x y) asB) fun k => if k then bnd (h env) fun z => o' y z else ret (.d (.bl false))
def bools : List D → Option (List Bool)
  | [] => some []
  | .bl b :: r => (bools r).map (b :: ·)
  | _ => none
def intsD : List D → Option (List Int)
  | [] => some []
  | .int b :: r => (intsD r).map (b :: ·)
  | _ => none
theorem bools_rep {K : PySem.W.Frag} {mg : Str → Option Value} {A : List Addr} {H : Hp} : ∀ {l : List D} {vs : List V} {bs : List Bool}, Reps K mg A H l vs → bools l = some bs → vs = bs.map V.bl
  | [], vs, bs, r, e => by
    cases e
    simp only [Reps] at r
    rw [r]
    rfl
  | d :: l, vs, bs, r, e => by
    simp only [Reps] at r
    obtain ⟨v, r', e1, h1, h2⟩ := r
    cases d with
    | bl b =>
      simp only [bools, Option.map_eq_some_iff] at e
      obtain ⟨bs', e2, e3⟩ := e
      subst e3
      simp only [Rep] at h1
      rw [e1, h1, bools_rep h2 e2]
      rfl
    | _ => cases e
theorem ints_rep {K : PySem.W.Frag} {mg : Str → Option Value} {A : List Addr} {H : Hp} : ∀ {l : List D} {vs : List V} {bs : List Int}, Reps K mg A H l vs → intsD l = some bs → vs = bs.map V.int
  | [], vs, bs, r, e => by
    cases e
    simp only [Reps] at r
    rw [r]
    rfl
  | d :: l, vs, bs, r, e => by
    simp only [Reps] at r
    obtain ⟨v, r', e1, h1, h2⟩ := r
    cases d with
    | int b =>
      simp only [intsD, Option.map_eq_some_iff] at e
      obtain ⟨bs', e2, e3⟩ := e
      subst e3
      simp only [Rep] at h1
      rw [e1, h1, ints_rep h2 e2]
      rfl
    | _ => cases e
/-- a fold over a list's data -/
def bFold {α : Type} (rd : List D → Option (List α)) (g : List α → D) : List SV → M SV
  | [x] => fun S => match items S x with
    | some l => match rd l with
      | some bs => some (.ok (.d (g bs)), S)
      | none => none
    | none => none
  | _ => stuck
def bAll := bFold bools fun bs => .bl (bs.all id)
def bAny := bFold bools fun bs => .bl (bs.any id)
def bSum : List SV → M SV
  | [.d (.tup l)] => match intsD l with
    | some ns => ret (.d (.int ns.sum))
    | none => stuck
  | xs => bFold intsD (fun ns => .int ns.sum) xs
theorem fold_step {α : Type} {rd : List D → Option (List α)} {gg : List α → D} {as : List SV} {vs : List V} {σ : St} {H : Hp} {A : List Addr} {S S' : Store} {rr : R SV} {Q : VK} (hS : Sta X.K (gm X W) A H S) (hx : RepSs X.K (gm X W) A H as vs) (he : bFold rd gg as S = some (rr, S')) (hp : Po X.K (gm X W) (relS X.K (gm X W)) W Q σ A H rr S') :
    ∃ p l ws bs, vs = [.ref p] ∧ H p = some (.lst ws) ∧ Reps X.K X.mg A H l ws ∧ rd l = some bs ∧ ∀ v, Rep X.K X.mg A H (gg bs) v → Q v H := by
  unfold bFold at he
  split at he
  · rename_i a
    obtain ⟨v, rfl, h1⟩ := reps1 hx
    rcases ea : items S a with _ | l
    · (try dsimp only at he); rw [ea] at he; cases he
    · (try dsimp only at he); rw [ea] at he
      dsimp only at he
      rcases eb : rd l with _ | bs
      · rw [eb] at he; cases he
      · rw [eb] at he
        cases he
        obtain ⟨p, ws, e1, h2, r1⟩ := items_rep hS h1 ea
        subst e1
        exact ⟨p, l, ws, bs, rfl, h2, r1, eb, fun v hv => hp.val hS hv⟩
  · cases he
theorem cok_all : COk X W (rAll X.K) bAll := by
  intro as vs σ H A S rr S' hS hx he Q hp
  obtain ⟨p, l, ws, bs, e1, h1, r1, eb, q⟩ := fold_step hS hx he hp
  exact ⟨p, bs, e1, by rw [← bools_rep r1 eb]; exact SqL.of h1, q _ (by simp only [Rep])⟩
theorem cok_any : COk X W (rAny X.K) bAny := by
  intro as vs σ H A S rr S' hS hx he Q hp
  obtain ⟨p, l, ws, bs, e1, h1, r1, eb, q⟩ := fold_step hS hx he hp
  exact ⟨p, bs, e1, by rw [← bools_rep r1 eb]; exact SqL.of h1, q _ (by simp only [Rep])⟩
/-- sum of a list or a tuple of ints -/
def rSumB (K : PySem.W.Frag) : List V → Hp → VK → Prop := fun vs H Q => ∃ (p : Addr) (ns : List Int), vs = [V.ref p] ∧ (SqL K H p (ns.map V.int) ∨ SqT K H p (ns.map V.int)) ∧ Q (.int ns.sum) H
theorem sum_tup {prog : Program} {w : World} {A : Around} {E : Value → Shared → Prop} {s : Shared} {l : Addr} {its : List Value} {ns : List Int} {Q : Value → Shared → Prop} (hh : A.handled = none) (hl : s.heap.IsTuple l its.toArray) (hi : PyProof.Rows.IntsAre its ns)
    (k : ∀ g tk t, (∀ b o, s.heap.get? b = some o → g.get? b = some o) → Q (.int ns.sum t) { s with heap := g, toks := tk }) : wpAny (model prog w) A (call (.builtin "sum") [.ref l]) Q E s := by
  obtain ⟨zs, ez⟩ := hi.allInts.items
  have en : numsOf (intItems zs).toList = ns := by rw [← ez]; exact hi.numsOf
  rw [nums_intItems] at en
  rw [ez] at hl
  have lt : l < s.heap.objs.size := by obtain ⟨_, q, _⟩ := hl; exact Heap.lt_size q
  refine call_sum_walkG (wpAny_pyIter_tuple hl ⟨s.heap.objs.size, _, _, _, _, _, numAt zs, rfl, Walks.tuple (A := A.in1) hh _ l (Nat.ne_of_lt lt) (intItems zs), ⟨⟨_, Heap.get?_push_size _ rfl, rfl, rfl⟩, Heap.IsTuple.push hl _⟩, fun b hb => ?_, fun _ _ => intItems_at, fun g tk t hk => ?_⟩)
  · show b < (s.heap.push _).objs.size
    rw [Heap.size_push]
    simp only [List.mem_cons, List.not_mem_nil, or_false] at hb
    rcases hb with rfl | rfl
    · exact Nat.lt_succ_self _
    · exact Nat.lt_succ_of_lt lt
  · have := k g tk t (fun b o e => hk b o (fun hm => by
      have e1 : b = s.heap.objs.size := by simpa using hm
      exact absurd (e1 ▸ Heap.lt_size e) (Nat.lt_irrefl _)) (Heap.get?_push_of_some _ e))
    have sz : (intItems zs).size = zs.size := by simp [intItems]
    rw [sz, preSum_eq, List.take_of_length_le (by simp), en]
    exact this
theorem cr_sumB {X : Cx} (hc : X.calm = true) : CallR X (.builtin "sum") (rSumB X.K) := by
  intro pn s σ H vs us Q I r h
  obtain ⟨p, ns, rfl, hs, q⟩ := h
  rw [Vals.ref1 r]
  rcases hs with hs | hs
  · obtain ⟨its, rv, pl, _⟩ := I.list hs
    exact sum_raw (I.ok.hd hc) pl.isList rv.ints fun g tk t hk => ⟨.int _, H, I.kept hk, ⟨_, rfl⟩, q⟩
  · obtain ⟨its, rv, pl, _⟩ := I.tuple hs
    exact sum_tup (I.ok.hd hc) (show s.heap.IsTuple p its.toArray from pl) rv.ints fun g tk t hk => ⟨.int _, H, I.kept hk, ⟨_, rfl⟩, q⟩
theorem cok_sum : COk X W (rSumB X.K) bSum := by
  intro as vs σ H A S rr S' hS hx he Q hp
  unfold bSum at he
  split at he
  · rename_i l
    obtain ⟨v, rfl, h1⟩ := reps1 hx
    rcases eb : intsD l with _ | ns
    · rw [eb] at he; cases he
    · rw [eb] at he
      cases he
      have h1 : Rep X.K X.mg A H (.tup l) v := h1
      simp only [Rep] at h1
      obtain ⟨a, ws, e1, n, h2, h3⟩ := h1
      exact ⟨a, ns, by rw [e1], .inr (by rw [← ints_rep h3 eb]; exact SqT.of h2), hp.val hS rfl⟩
  · obtain ⟨p, l, ws, bs, e1, h1, r1, eb, q⟩ := fold_step hS hx he hp
    exact ⟨p, bs, e1, .inl (by rw [← ints_rep r1 eb]; exact SqL.of h1), q _ (by simp only [Rep])⟩
structure Err0 (K : PySem.W.Frag) (mg : Str → Option Value) (x : Str) (C : Addr) : Prop where
  gC : mg x = some (.ref C)
  ex : PySem.W.excIn K C [.type "ValueError", .type "Exception", .type "BaseException", .type "object"] "ValueError.__new__" = true
  kC : PySem.W.keepIn K (.ref C) = true
  eC : PySem.W.subIn K (.ref C) (.type "BaseException") = some true
  tC : PySem.W.typeIn K (.ref C) = some (.type "type")
theorem pmk_own0 {C : Addr} (T : Err0 X.K X.mg x C) (hg : Gl X x) (hdb : (x == ("__debug__" : Str)) = false := by decide) : L2N.PMk X (.Call (.Name x p) [] [] pos) (fun _ H Q => Q (.ref C) none H) := by
  rintro ps0 s0 σ0 H0 Q0 I0 h0
  refine wpAny_Call_Name_kw
    (L2.ld_glob I0 hg T.gC ?_ hdb)
  refine PySem.W.callWith_K0 I0.kIn T.kC ?_
  show wpAny _ _ (call (.ref C) []) _ _ _
  obtain ⟨bm, N, nm, qn, bs, hdct, sn, sub, ab, col, dd, k0, k1, k2, k3, k5, mN, hC, hN, hni, TT⟩ := exc_obj I0.kIn T.ex
  exact wpAny_call_exc_subT F.excBase_ValueError TT hC hN hni (fun h' e hm => L2N.mk_of I0 hm (raises_own T.eC T.tC) h0 (I0.hok.gone hm.new)) (Nat.zero_le _)
def sRaise0 (c : Str) : SM := fun env S => some (.er c [] [] env, S)
theorem ds_raise0 {C : Addr} {pos2 : Pos} (hc : X.calm = true) (tk : L2N.Takes X W.w) (T : Err0 X.K X.mg x C) (hg : Gl X x) (hdb : (x == ("__debug__" : Str)) = false := by decide) : DS X W (.Raise (some (.Call (.Name x p) [] [] pos)) none pos2) (sRaise0 x) :=
  ⟨_, L2N.ps_raise hc tk (pmk_own0 T hg hdb), fun σ H A S env o S' hS hE he Dn hp => by
    cases he
    exact hp C none σ A H T.gC (Ext.refl A H) hS hE (.inl ⟨rfl, rfl⟩)⟩
theorem dg_tup {ts : List Expr} {is : List Nat} {k : Nat} (hc : X.calm = true) (hgs : DGs X ts is) (hn : (assignEach ts X.env).length = is.length := by rfl) (hst : (assignEach ts X.env).findIdx? (·.1) = none := by rfl) : DG X (.Tuple ts k pos) (.many is) := pg_tup hc hgs hn hst
def tysOf : List D → Option (List String)
  | [] => some []
  | .ty n :: r => (tysOf r).map (n :: ·)
  | _ => none
def kitS (t : String) : List String → Option Bool
  | [] => some false
  | n :: r => match kitB t n with
    | some true => some true
    | some false => kitS t r
    | none => none
def bIsiT : List SV → M SV
  | [x, .d (.tup l)] => match tyN x, tysOf l with
    | some t, some ns => match kitS t ns with
      | some b => ret (.d (.bl b))
      | none => stuck
    | _, _ => stuck
  | _ => stuck
theorem tys_rep {K : PySem.W.Frag} {mg : Str → Option Value} {A : List Addr} {H : Hp} : ∀ {l : List D} {vs : List V} {ns : List String}, Reps K mg A H l vs → tysOf l = some ns → Paired ClsV vs (ns.map Value.type)
  | [], vs, ns, r, e => by
    cases e
    simp only [Reps] at r
    subst r
    exact .nil
  | d :: l, vs, ns, r, e => by
    simp only [Reps] at r
    obtain ⟨v, r', e1, h1, h2⟩ := r
    cases d with
    | ty n =>
      simp only [tysOf, Option.map_eq_some_iff] at e
      obtain ⟨ns', e2, e3⟩ := e
      subst e3
      simp only [Rep] at h1
      rw [e1, h1]
      exact .cons (.ty n) (tys_rep h2 e2)
    | _ => cases e
theorem kitS_any {K : PySem.W.Frag} {t : String} : ∀ {ns : List String} {b : Bool}, kitS t ns = some b → PySem.W.kitAny K (.type t) (ns.map Value.type) = some b
  | [], b, e => by cases e; rfl
  | n :: ns, b, e => by
    unfold kitS at e
    rcases ek : kitB t n with _ | _ | _
    · rw [ek] at e; cases e
    · rw [ek] at e
      exact kitAny_cons (kit_ty ek) (fun _ => kitS_any e) (fun h => Bool.noConfusion h)
    · rw [ek] at e
      cases e
      exact kitAny_cons (kit_ty ek) (fun h => Bool.noConfusion h) (fun _ => rfl)
theorem cok_isiT : COk X W (rIsiT X.K) bIsiT := by
  intro as vs σ H A S rr S' hS hx he Q hp
  unfold bIsiT at he
  split at he
  · rename_i a l
    obtain ⟨v, u, rfl, h1, h2⟩ := reps2 hx
    have h2 : Rep X.K X.mg A H (.tup l) u := h2
    simp only [Rep] at h2
    obtain ⟨p, ws, e1, _, g1, r1⟩ := h2
    subst e1
    rcases ea : tyN a with _ | t
    · rw [ea] at he; cases he
    · rcases eb : tysOf l with _ | ns
      · rw [ea, eb] at he; cases he
      · rw [ea, eb] at he
        dsimp only at he
        rcases ek : kitS t ns with _ | b
        · rw [ek] at he; cases he
        · rw [ek] at he
          cases he
          exact ⟨v, p, ws, .type t, _, b, rfl, g1, tys_rep r1 eb, tyN_rep hS h1 ea, kitS_any ek, hp.val hS (show Rep X.K X.mg A H (.bl _) _ by simp only [Rep])⟩
  · cases he
def DP (X : Cx) (W : WG) (e : Option Expr) (f : Env → M (Option Int)) : Prop := ∃ t : TO, PO X e t ∧ TOk X.K (gm X W) (fun _ _ a b => a = b) W t f
def pNone : Env → M (Option Int) := fun _ => ret none
def pSome (f : Env → M SV) : Env → M (Option Int) := fun env => bnd (f env) fun x => match x with
  | .d (.int i) => ret (some i)
  | _ => stuck
theorem dp_none : DP X W none pNone := ⟨_, po_none, fun σ H A S env r S' hS hE he Q hp => by
  cases he
  exact hp.val hS rfl⟩
theorem dp_some (h : DE X W e f) : DP X W (some e) (pSome f) := by
  obtain ⟨te, pe, ke⟩ := h
  refine ⟨_, po_some pe, tbind (rel := relS X.K (gm X W)) (rel2 := fun _ _ a b => a = b) (g := fun _ x => match x with
    | .d (.int i) => ret (some i)
    | _ => stuck) (tk := fun v σ H Q => ∃ i, v = .int i ∧ Q (some i) H) ke fun a v σ H A S env r S' hS hE hx he Q hp => ?_⟩
  split at he
  · rename_i i
    cases he
    have hx : Rep X.K X.mg A H (.int i) v := hx
    simp only [Rep] at hx
    exact ⟨i, hx, hp.val hS rfl⟩
  · cases he
def cutD (l : List D) (lo hi : Option Int) : List D := (l.drop (HT.sIx l.length 0 lo)).take (HT.sIx l.length l.length hi - HT.sIx l.length 0 lo)
theorem reps_take {K : PySem.W.Frag} {mg : Str → Option Value} {A : List Addr} {H : Hp} : ∀ (n : Nat) {l : List D} {vs : List V}, Reps K mg A H l vs → Reps K mg A H (l.take n) (vs.take n)
  | 0, l, vs, _ => by simp only [List.take_zero, Reps]
  | n + 1, [], vs, h => by
    simp only [Reps] at h
    subst h
    simp only [List.take_nil, Reps]
  | n + 1, d :: l, vs, h => by
    simp only [Reps] at h
    obtain ⟨v, r, e, h1, h2⟩ := h
    subst e
    simp only [List.take_succ_cons, Reps]
    exact ⟨v, _, rfl, h1, reps_take n h2⟩
theorem reps_drop {K : PySem.W.Frag} {mg : Str → Option Value} {A : List Addr} {H : Hp} : ∀ (n : Nat) {l : List D} {vs : List V}, Reps K mg A H l vs → Reps K mg A H (l.drop n) (vs.drop n)
  | 0, l, vs, h => h
  | n + 1, [], vs, h => by
    simp only [Reps] at h
    subst h
    simp only [List.drop_nil, Reps]
  | n + 1, d :: l, vs, h => by
    simp only [Reps] at h
    obtain ⟨v, r, e, h1, h2⟩ := h
    subst e
    exact reps_drop n h2
theorem cut_rep {K : PySem.W.Frag} {mg : Str → Option Value} {A : List Addr} {H : Hp} {l : List D} {vs : List V} {lo hi : Option Int} (h : Reps K mg A H l vs) : Reps K mg A H (cutD l lo hi) (cutV vs lo hi) := by
  have e := h.length
  have z : cutV vs lo hi = (vs.drop (HT.sIx vs.length 0 lo)).take (HT.sIx vs.length vs.length hi - HT.sIx vs.length 0 lo) := rfl
  rw [z, ← e]
  exact reps_take _ (reps_drop _ h)
theorem cut_whole {l : List D} {lo hi : Option Int} (h : HT.sIx l.length 0 lo = 0 ∧ HT.sIx l.length l.length hi = l.length) : cutD l lo hi = l := by
  unfold cutD
  rw [h.1, h.2]
  simp
def oSl (x : SV) (lo hi : Option Int) : M SV := match x with
  | .d (.tup l) => ret (.d (.tup (cutD l lo hi)))
  | x => fun S => match items S x with
    | some l => some (.ok (.d (.lst (cutD l lo hi))), S)
    | none => none
def eSl (f : Env → M SV) (lo hi : Env → M (Option Int)) : Env → M SV := fun env => bnd (f env) fun x => bnd (lo env) fun l => bnd (hi env) fun h => oSl x l h
theorem de_slice {lo hi : Option Expr} {fl fh : Env → M (Option Int)} {p2 : Pos} (ha : DE X W e f) (hl : DP X W lo fl) (hh : DP X W hi fh) : DE X W (.Subscript e (.Slice lo hi none p2) pos) (eSl f fl fh) := by
  obtain ⟨te, pe, ke⟩ := ha
  obtain ⟨tl, pl, kl⟩ := hl
  obtain ⟨th, ph, kh⟩ := hh
  refine ⟨_, pe_slice (sl_list.or sl_tupA) pe pl ph, ?_⟩
  intro σ H A S env rr S' hS hE he Q hp
  rcases bnd_some he with ⟨x, S1, ef, q⟩ | ⟨c1, fs, l, ef, rfl⟩
  · refine ke σ H A S env _ S1 hS hE ef _ fun vx A1 H1 e1 s1 r1 => ?_
    have E1 := hE.mono e1
    rcases bnd_some q with ⟨y, S2, eg, q2⟩ | ⟨c1, fs, l, eg, rfl⟩
    · refine kl σ H1 A1 S1 env _ S2 s1 E1 eg _ fun vy A2 H2 e2 s2 r2 => ?_
      cases (show y = vy from r2)
      have E2 := E1.mono e2
      rcases bnd_some q2 with ⟨z, S3, eh, q3⟩ | ⟨c1, fs, l, eh, rfl⟩
      · refine kh σ H2 A2 S2 env _ S3 s2 E2 eh _ fun vz A3 H3 e3 s3 r3 => ?_
        cases (show z = vz from r3)
        have p3 := hp.mono ((e1.trans e2).trans e3)
        have rx := RepS.mono (e2.trans e3) r1
        unfold oSl at q3
        split at q3
        · rename_i l
          cases q3
          have h1 : Rep X.K X.mg A3 H3 (.tup l) vx := rx
          simp only [Rep] at h1
          obtain ⟨p, ws, e4, n, g1, r4⟩ := h1
          refine .inr ⟨p, ws, e4, SqT.of g1, fun hw => ?_, fun hw zz hz => ?_⟩
          · rw [← e4]
            have : cutD l y z = l := cut_whole (by rw [r4.length]; exact hw)
            rw [this] at p3
            exact p3.val s3 rx
          · refine p3.new s3 hz ?_
            simp only [Rep]
            exact ⟨zz, _, rfl, s3.free hz, upd_same, Reps.mono (Ext.new hz) _ _ (cut_rep r4)⟩
        · rcases ei : items S3 x with _ | l
          · (try dsimp only at q3); rw [ei] at q3; cases q3
          · (try dsimp only at q3); rw [ei] at q3
            cases q3
            obtain ⟨p, ws, e4, g1, r4⟩ := items_rep s3 rx ei
            refine .inl ⟨p, ws, e4, SqL.of g1, fun zz hz => p3.new s3 hz ?_⟩
            simp only [Rep]
            exact ⟨zz, _, rfl, s3.free hz, upd_same, Reps.mono (Ext.new hz) _ _ (cut_rep r4)⟩
      · exact kh σ H2 A2 S2 env _ _ s2 E2 eh _ (hp.mono (e1.trans e2))
    · exact kl σ H1 A1 S1 env _ _ s1 E1 eg _ (hp.mono e1)
  · exact ke σ H A S env _ _ hS hE ef _ hp
end
end DL
namespace DL
open PySem L2
def insOf (S : Store) : SV → Option (Str × List Str × List D)
  | .d (.ins c fs l) => some (c, fs, l)
  | .obj k => match S[k]? with
    | some [.ins c fs l] => some (c, fs, l)
    | _ => none
  | _ => none
/-- which class has which field -/
structure FldT (K : PySem.W.Frag) (mg : Str → Option Value) (ok : Str → Str → Bool) : Prop where
  of : ∀ c f C, ok c f = true → mg c = some (.ref C) → Cls K C ∧ NoAttr K C f
theorem OwnR.ins {K : PySem.W.Frag} {mg : Str → Option Value} {A : List Addr} {H : Hp} {a : Addr} {ds : List D} (h : OwnR K mg A H a ds) (h0 : ∃ C dx fs, H a = some (.ins C dx fs)) :
    ∃ c fs l C dx vs, ds = [.ins c fs l] ∧ mg c = some (.ref C) ∧ H a = some (.ins C dx (fs.zip vs)) ∧ fs.length = vs.length ∧ RepFs K mg A H l vs := by
  obtain ⟨C, dx, fs, h0⟩ := h0
  rcases h with ⟨vs, h, _⟩ | h | ⟨ks, l, vs, h1, h, _⟩ | ⟨ks, l, vs, h1, h, _⟩
  · rw [h] at h0
    cases h0
  · exact h
  · rw [h] at h0
    cases h0
  · rw [h] at h0
    cases h0
section
variable {K : PySem.W.Frag} {mg : Gm} {A : List Addr} {H : Hp} {S : Store}
theorem ins_rep (hS : Sta K mg A H S) {sv : SV} {v : V} {c : Str} {fs : List Str} {l : List D} (h : RepS K mg A H sv v) (e : insOf S sv = some (c, fs, l)) :
    ∃ a C dx vs, v = .ref a ∧ mg.m c = some (.ref C) ∧ H a = some (.ins C dx (fs.zip vs)) ∧ fs.length = vs.length ∧ RepFs K mg.m A H l vs := by
  unfold insOf at e
  split at e
  · cases e
    have h1 : Rep K mg.m A H (.ins c fs l) v := h
    simp only [Rep] at h1
    obtain ⟨a, C, dx, vs, e1, _, h2, h3, h4, h5⟩ := h1
    exact ⟨a, C, dx, vs, e1, h2, h3, h4, .of h5⟩
  · rename_i k
    split at e
    · rename_i c' fs' l' q
      cases e
      obtain ⟨a, h1, h2, h0⟩ := h
      obtain ⟨c2, fs2, l2, C, dx, vs, h3, h4, h5, h6, h7⟩ := (hS.at' k a _ h1 q).ins h0
      cases h3
      exact ⟨a, C, dx, vs, h2, h4, h5, h6, h7⟩
    · cases e
  · cases e
end
theorem lookF_rep {K : PySem.W.Frag} {mg : Str → Option Value} {A : List Addr} {H : Hp} {fld : Str} : ∀ {fs : List Str} {l : List D} {vs : List V} {d : D}, RepFs K mg A H l vs → lookD fld fs l = some d → ∃ v, (fs.zip vs).lookup fld = some v ∧ RepF K mg A H d v
  | [], l, vs, d, h, e => by cases l <;> cases e
  | f :: fs, [], vs, d, h, e => by cases e
  | f :: fs, x :: l, vs, d, ⟨v, r, e1, h1, h2⟩, e => by
    subst e1
    unfold lookD at e
    by_cases hf : fld = f
    · rw [if_pos hf] at e
      cases e
      exact ⟨v, by simp [List.lookup, hf], h1⟩
    · rw [if_neg hf] at e
      obtain ⟨u, h3, h4⟩ := lookF_rep h2 e
      exact ⟨u, by simp only [List.zip_cons_cons, List.lookup]; rw [beq_eq_false_iff_ne.mpr hf]; exact h3, h4⟩
def oFld (ok : Str → Str → Bool) (f : Str) (x : SV) : M SV := fun S => match insOf S x with
  | some (c, fs, l) => if ok c f = true then match lookD f fs l with
      | some (.own j) => some (.ok (.ptr j), S)
      | some d => some (.ok (.d d), S)
      | none => none
    else none
  | none => none
section
variable {X : Cx} {W : WG} {e o value : Expr} {es : List Expr} {f fo fe : Env → M SV} {fa : Env → M (List SV)} {pos pos' p : Pos} {fld x : Str} {ok : Str → Str → Bool}
theorem de_fld (T : FldT X.K X.mg ok) (he : DE X W e f) (hb : attributeBase e fld X.env (eval e X.env) = eval e X.env := by rfl) : DE X W (.Attribute e fld pos) (eUn (oFld ok fld) f) := by
  obtain ⟨te, pe, ke⟩ := he
  refine ⟨_, pe_fld pe hb, tbind (rel := relS X.K (gm X W)) (rel2 := relS X.K (gm X W)) (g := fun _ a => oFld ok fld a) (tk := fun x _ H1 Q => ∃ a C dx fs v, x = .ref a ∧ H1 a = some (.ins C dx fs) ∧ Cls X.K C ∧ NoAttr X.K C fld ∧ fs.lookup fld = some v ∧ Q v H1) ke fun a v σ H A S env r S' hS hE hx he Q hp => ?_⟩
  unfold oFld at he
  rcases ei : insOf S a with _ | ⟨c, fs, l⟩
  · rw [ei] at he; cases he
  · rw [ei] at he
    dsimp only at he
    by_cases hc : ok c fld = true
    · rw [if_pos hc] at he
      rcases el : lookD fld fs l with _ | d
      · rw [el] at he; cases he
      · rw [el] at he
        obtain ⟨q, C, dx, vs, e1, h2, h3, h4, h5⟩ := ins_rep hS hx ei
        obtain ⟨u, h6, h7⟩ := lookF_rep h5 el
        obtain ⟨t1, t2⟩ := T.of c fld C hc h2
        cases d <;> cases he <;> exact ⟨q, C, dx, _, u, e1, h3, t1, t2, h6, hp.val hS h7⟩
    · rw [if_neg hc] at he; cases he
/-- o.f = e -/
def putD (f : Str) (x : D) : List Str → List D → List Str × List D
  | g :: fs, y :: l => if g = f then (g :: fs, x :: l) else (g :: (putD f x fs l).1, y :: (putD f x fs l).2)
  | fs, l => (fs ++ [f], l ++ [x])
theorem putD_rep {K : PySem.W.Frag} {mg : Str → Option Value} {A : List Addr} {H : Hp} {f : Str} {x : D} {v : V} (rx : RepF K mg A H x v) : ∀ {fs : List Str} {l : List D} {vs : List V}, fs.length = vs.length → RepFs K mg A H l vs →
    ∃ ws, putF f v (fs.zip vs) = (putD f x fs l).1.zip ws ∧ (putD f x fs l).1.length = ws.length ∧ RepFs K mg A H (putD f x fs l).2 ws
  | [], [], vs, h, r => by
    cases (show vs = [] from r)
    exact ⟨[v], rfl, rfl, ⟨v, [], rfl, rx, rfl⟩⟩
  | [], y :: l, vs, h, ⟨_, _, e, _⟩ => by
    subst e
    cases h
  | g :: fs, [], vs, h, r => by
    cases (show vs = [] from r)
    cases h
  | g :: fs, y :: l, vs, h, ⟨u, r', e, h1, h2⟩ => by
    subst e
    obtain ⟨ws, e1, e2, e3⟩ := putD_rep rx (fs := fs) (l := l) (by simpa using h) h2
    by_cases hg : g = f
    · refine ⟨v :: r', ?_, ?_, ?_⟩
      · show (if g = f then (g, v) :: fs.zip r' else (g, u) :: putF f v (fs.zip r')) = _
        rw [if_pos hg]
        simp only [putD, if_pos hg]
        rfl
      · simp only [putD, if_pos hg]
        simpa using h
      · simp only [putD, if_pos hg]
        exact ⟨v, r', rfl, rx, h2⟩
    · refine ⟨u :: ws, ?_, ?_, ?_⟩
      · show (if g = f then (g, v) :: fs.zip r' else (g, u) :: putF f v (fs.zip r')) = _
        rw [if_neg hg, e1]
        simp only [putD, if_neg hg]
        rfl
      · simp only [putD, if_neg hg, List.length_cons, e2]
      · simp only [putD, if_neg hg]
        exact ⟨u, ws, rfl, h1, e3⟩
def sSetF (ok : Str → Str → Bool) (fld : Str) (fo fe : Env → M SV) : SM := fun env => lift env (bnd (fe env) fun v => bnd (fo env) fun o => ret (v, o)) fun q S => match q with
  | (v, .obj k) => match fldD v with
    | some x => match S[k]? with
      | some [.ins c fs l] => if ok c fld = true ∧ fs.length < 1000 then some (.nx env, S.set k [.ins c (putD fld x fs l).1 (putD fld x fs l).2]) else none
      | _ => none
    | none => none
  | _ => none
theorem ds_setF (T : FldT X.K X.mg ok) (he : DE X W value fe) (ho : DE X W o fo) (hs : swapsWith value (some (.Attribute o fld pos')) pos.line X.env = pure false := by rfl) : DS X W (.Assign [.Attribute o fld pos'] value pos) (sSetF ok fld fo fe) := by
  obtain ⟨te, pe, ke⟩ := he
  obtain ⟨to, po, ko⟩ := ho
  refine ⟨_, ps_fld po pe hs, ?_⟩
  intro σ H A S env o S' hS hE he Dn hp
  rcases lift_some he with ⟨⟨v, ov⟩, S1, ef, q⟩ | ⟨c, fs, l, ef, rfl⟩
  · rcases bnd_some ef with ⟨v1, S2, ef1, ef2⟩ | ⟨_, _, _, _, z⟩
    · refine ke σ H A S env _ S2 hS hE ef1 _ fun vv A1 H1 e1 s1 r1 => ?_
      rcases bnd_some ef2 with ⟨o1, S3, ef3, ef4⟩ | ⟨_, _, _, _, z⟩
      · refine ko σ H1 A1 S2 env _ S3 s1 (hE.mono e1) ef3 _ fun oo A2 H2 e2 s2 r2 => ?_
        cases ef4
        split at q
        · rename_i v' k q0
          cases q0
          rcases ex : fldD v with _ | x
          · rw [ex] at q; cases q
          rw [ex] at q
          dsimp only at q
          split at q
          · rename_i c fs l eS
            by_cases hc : ok c fld = true ∧ fs.length < 1000
            · rw [if_pos hc] at q
              cases q
              obtain ⟨aa, h1, h2, h0⟩ := r2
              obtain ⟨c2, fs2, l2, C, dx, vs, h3, h4, h5, h6, h7⟩ := (s2.at' k aa _ h1 eS).ins h0
              cases h3
              have rx : RepF X.K X.mg A2 H2 x vv := fldD_rep (RepS.mono e2 r1) ex
              obtain ⟨t1, t2⟩ := T.of c fld C hc.1 h4
              obtain ⟨ws, w1, w2, w3⟩ := putD_rep (f := fld) rx h6 h7
              have ee : Ext A2 H2 A2 (upd H2 aa (.ins C dx (putF fld vv (fs.zip vs)))) := Ext.setI (List.mem_of_getElem? h1) h5
              obtain ⟨s4, e4⟩ := s2.set' (ds := [.ins c (putD fld x fs l).1 (putD fld x fs l).2]) h1 ee (.inr (.inl ⟨c, _, _, C, dx, ws, rfl, h4, by rw [upd_same, w1], w2, RepFs.mono ee w3⟩))
              refine ⟨aa, C, dx, _, h2, h5, t1, t2, ?_, hp σ A2 _ ((e1.trans e2).trans e4) s4 (((hE.mono e1).mono e2).mono e4)⟩
              rw [List.length_zip, ← h6, Nat.min_self]
              exact hc.2
            · rw [if_neg hc] at q; cases q
          · cases q
        · cases q
      · cases z
    · cases z
  · rcases bnd_some ef with ⟨v1, S2, ef1, ef2⟩ | ⟨c', fs', l', ef1, z⟩
    · refine ke σ H A S env _ S2 hS hE ef1 _ fun vv A1 H1 e1 s1 r1 => ?_
      rcases bnd_some ef2 with ⟨o1, S3, ef3, ef4⟩ | ⟨c', fs', l', ef3, z⟩
      · cases ef4
      · cases z
        exact ko σ H1 A1 S2 env _ _ s1 (hE.mono e1) ef3 _ fun C dd A3 H3 hc e s r => hp C dd σ A3 H3 hc (e1.trans e) s ((hE.mono e1).mono e) r
    · cases z
      exact ke σ H A S env _ _ hS hE ef1 _ fun C dd A' H' hc e s r => hp C dd σ A' H' hc e s (hE.mono e) r
theorem run_makeD {CX : CXT} {k : Nat} {f C : Addr} {fd : FuncData} {ps : List Str} {sp : Sp} {E : St → XK} {pins : List (Addr × Obj)} {σ : St} {H : Hp} {s : Shared} {Q : VK} {us : List Value} {vs : List V}
    (M : Mk X.K C f) (F : FnOk X.prog X.w X.K X.mg X.base CX k f fd ps sp) (hr : Room (k + 1) X.A)
    (hb : Binds X.K fd ps []) (hx : PassesAt CX X σ (E σ)) (I : Inv X pins σ H s) (r : Vals vs us)
    (h : ∀ x dx, H x = none → H dx = none → dx ≠ x → sp (.ref x :: vs) (upd (upd H dx (.own x)) x (.ins C dx [])) (fun v H2 => v = .non ∧ Q (.ref x) H2) (E σ)) :
    wpAny (model X.prog X.w) X.A (call (.ref C) us) (EP X pins σ Q) X.xe s := by
  have f1 : H (s.heap.objs.size + 1) = none := I.hok.fresh (Nat.le_succ _)
  have f2 : H s.heap.objs.size = none := I.hok.fresh (Nat.le_refl _)
  have go := h _ _ f1 f2 (Nat.ne_of_lt (Nat.lt_succ_self _))
  have J := Inv.made (C := C) I
  have rr : Vals (V.ref (s.heap.objs.size + 1) :: vs) (Value.ref (s.heap.objs.size + 1) :: us) := .cons rfl r
  have hl : (Value.ref (s.heap.objs.size + 1) :: us).length = ps.length := rr.length.symm.trans (F.len _ _ _ _ go)
  have bb := hb _ (Value.ref (s.heap.objs.size + 1) :: us) J.kIn (by rw [List.append_nil]; exact hl)
  rw [List.append_nil] at bb
  have run := F.run _ X.stack _ _ ⟨Value.ref (s.heap.objs.size + 1) :: us, []⟩ (Value.ref (s.heap.objs.size + 1) :: us) _ _ (E σ) (hr.make C us []) (J.env0.make C us []) bb rr go
  refine wpAny_call (make_map (f := f) I.kIn M.makes M.init (beq_iff_eq.mp M.fn) (codeAny_mono run fun r1 s1 hq1 => ?_))
  cases r1 with
  | error er => exact hx pins _ _ er s1 J hq1
  | ok fl =>
    cases fl with
    | ret u =>
      obtain ⟨v, H1, I1, r2, rfl, q2⟩ := J.after hq1
      exact ⟨r2, ⟨V.ref (s.heap.objs.size + 1), H1, I1, rfl, q2⟩⟩
    | next => cases hq1
    | brk => cases hq1
    | cont => cases hq1
def tMakeD (C : Addr) (sp : Sp) (E : St → XK) (t : TA) : TE := fun σ H Q => t σ H fun vs H1 => ∀ x dx, H1 x = none → H1 dx = none → dx ≠ x →
  sp (.ref x :: vs) (upd (upd H1 dx (.own x)) x (.ins C dx [])) (fun v H2 => v = .non ∧ Q (.ref x) H2) (E σ)
theorem pe_makeS {CX : CXT} {k : Nat} {f C : Addr} {fd : FuncData} {ps : List Str} {sp : Sp} {E : St → XK} {t : TA} (M : Mk X.K C f) (F : FnOk X.prog X.w X.K X.mg X.base CX k f fd ps sp) (hr : Room (k + 1) X.A) (hg : Gl X x)
    (hm : X.mg x = some (.ref C)) (hb : Binds X.K fd ps []) (hx : ∀ σ, PassesAt CX X σ (E σ)) (ha : PA X (e :: es) t) (hdb : (x == ("__debug__" : Str)) = false := by decide)
    (he : starEach (e :: es) X.env = (false, eval e X.env) :: starEach es X.env := by rfl) (hpl : (backTo pos (starEach es X.env)).any (·.1) = false := by rfl) : PE X (.Call (.Name x p) (e :: es) [] pos) (tMakeD C sp E t) := by
  refine ⟨fun ps0 s0 σ0 H0 Q0 I0 h0 => wpAny_Call_Name_kw (ld_glob I0 hg hm ?_ hdb)⟩
  exact PySem.W.callWith_K (h₀ := X.base) I0.ok.mod.kin M.kp (thn (ha.run pos ps0 s0 σ0 H0 _ I0 h0) fun u1 s1 ⟨v1, H1, I1, r1, q1⟩ => ⟨I1.kIn, run_makeD M F hr hb (hx σ0) I1 r1 q1⟩) he hpl
/-- a class that can be made -/
structure Maker (P : Program) (w : World) (K : PySem.W.Frag) (mg : Str → Option Value) (base : Heap) (k : Nat) (c : Str) (ps : List Str) (m : Fn) (C f : Addr) (fd : FuncData) : Prop where
  F : FnOk P w K mg base (L2N.CX P w) k f fd ps (spD K mg m)
  M : Mk K C f
  mg : mg c = some (.ref C)
  b : Binds K fd ps []
open Classical in
/-- an object of one's own: C(e, ..) whose lists stay -/
noncomputable def mkO (c : Str) (m : Fn) (as : List SV) : M SV := fun S => if noExc as = true then match m (.obj S.length :: as) (S ++ [[.ins c [] []]]) with
  | some (.ok (.grow (.d .non)), S') => some (.ok (.obj S.length), S')
  | some (.err e fs l, S') => if Cal S S' then some (.err e fs l, S'.take S.length) else none
  | _ => none else none
theorem de_makeO {k : Nat} {c : Str} {ps : List Str} {m : Fn} {C fI : Addr} {fd : FuncData}
    (c0 : Maker X.prog X.w X.K X.mg X.base k c ps m C fI fd) (hr : Room (k + 1) X.A) (tk : L2N.Takes X W.w) (hg : Gl X c) (ha : DA X W (e :: es) fa) (hdb : (c == ("__debug__" : Str)) = false := by decide)
    (hst : starEach (e :: es) X.env = (false, eval e X.env) :: starEach es X.env := by rfl) (hpl : (backTo pos (starEach es X.env)).any (·.1) = false := by rfl) : DE X W (.Call (.Name c p) (e :: es) [] pos) (eArg (mkO c m) fa) := by
  obtain ⟨t, pa, ka⟩ := ha
  refine ⟨_, pe_makeS c0.M c0.F hr hg c0.mg c0.b (fun σ => L2N.passAt tk σ) pa hdb hst hpl, ?_⟩
  refine tbind (rel := relA X.K (gm X W)) (rel2 := relS X.K (gm X W)) (g := fun _ as => mkO c m as) (tk := fun vs σ H1 Q => ∀ x dx, H1 x = none → H1 dx = none → dx ≠ x →
    spD X.K X.mg m (.ref x :: vs) (upd (upd H1 dx (.own x)) x (.ins C dx [])) (fun v H2 => v = .non ∧ Q (.ref x) H2) (WE W.w σ)) ka fun as vs σ H A S env r S' hS hE hx he Q hp => ?_
  intro x dx hxn hdn hne
  unfold mkO at he
  by_cases hn : noExc as = true
  · rw [if_pos hn] at he
    have e1 : Ext A H A (upd H dx (.own x)) := Ext.new hdn
    have s1 := hS.new (o := .own x) hdn
    have hx1 : upd H dx (.own x) x = none := by rw [upd_ne (fun z => hne z.symm)]; exact hxn
    have e2 : Ext A (upd H dx (.own x)) (A ++ [x]) (upd (upd H dx (.own x)) x (.ins C dx [])) := Ext.own hx1
    have s2 : Sta X.K (gm X W) (A ++ [x]) (upd (upd H dx (.own x)) x (.ins C dx [])) (S ++ [[.ins c [] []]]) := s1.own' hx1 (.inr (.inl ⟨c, [], [], C, dx, [], rfl, c0.mg, upd_same, rfl, rfl⟩))
    have hx0 : RepSs X.K (gm0 X.mg) (A ++ [x]) (upd (upd H dx (.own x)) x (.ins C dx [])) as vs := repSs_0 (g := gm X W) (g' := gm0 X.mg) rfl hn ((hx.mono e1).mono e2)
    have hat : ∀ {B : List Addr}, (A ++ [x])[S.length]? = some x := fun {_} => own_at hS.len
    have hlen : A.length = S.length := hS.len.symm
    rcases em : m (.obj S.length :: as) (S ++ [[.ins c [] []]]) with _ | ⟨r1, S1⟩
    · rw [em] at he; cases he
    · rw [em] at he
      refine ⟨A ++ [x], _, .obj S.length :: as, r1, S1, s2.conv rfl trivial, ⟨.ref x, vs, rfl, ⟨x, own_at hS.len, rfl, C, dx, [], upd_same⟩, hx0⟩, em, ?_⟩
      cases r1 with
      | ok rr =>
        cases rr with
        | grow g1 =>
          rcases g1 with d1 | _ | _ | _ | _
          · cases d1 with
            | non =>
              cases he
              intro v A2 H2 e3 s3 hv
              have hv2 : Rep X.K X.mg A2 H2 .non v := hv
              simp only [Rep] at hv2
              refine ⟨hv2, ?_⟩
              obtain ⟨fs', hfs⟩ := e3.ki x C dx [] upd_same
              obtain ⟨l3, hl3, _⟩ := e3.app
              exact hp (.ref x) A2 H2 ((e1.trans e2).trans e3) (s3.conv rfl (W.mono e3 s2.gh)) ⟨x, by rw [hl3, List.getElem?_append_left (by simp [hS.len])]; exact own_at hS.len, rfl, C, dx, fs', hfs⟩
            | _ => cases he
          · cases he
          · cases he
          · cases he
          · cases he
        | _ => cases he
      | err c1 fs l =>
        dsimp only at he
        by_cases cc : Cal S S1
        rotate_left
        · rw [if_neg cc] at he; cases he
        rw [if_pos cc] at he
        cases he
        intro C1 dd H2 hc e3 s3 er
        have s4 : Sta X.K (gm X W) (A ++ [x]) H2 S1 := s3.conv rfl (W.mono e3 s2.gh)
        have s5 := hS.drop s4 cc
        rw [hlen] at s5
        exact hp C1 dd A H2 hc ((e1.trans e2).trans e3).drop s5 (errR_drop er)
  · rw [if_neg hn] at he; cases he
end
end DL
namespace DL
open PySem L2
structure HdM where
  slot : Option Nat
  yes : List Str
  no : List Str
  U : Str → List Str → List D → SM
def setX (k : Option Nat) (env : Env) : Env := match k with
  | none => env
  | some i => env.set i (some .exc)
def unX (k : Option Nat) (env : Env) : Env := match k with
  | none => env
  | some i => env.set i none
def endX (k : Option Nat) : Option (O × Store) → Option (O × Store)
  | some (.nx env, S) => if envNE (unX k env) = true then some (.nx (unX k env), S) else none
  | some (.bk env, S) => if envNE (unX k env) = true then some (.bk (unX k env), S) else none
  | some (.ct env, S) => if envNE (unX k env) = true then some (.ct (unX k env), S) else none
  | some (.rt sv, S) => if noX sv = true then some (.rt sv, S) else none
  | _ => none
def hdL : List HdM → Str → List Str → List D → SM
  | [], c, fs, l => fun env S => some (.er c fs l env, S)
  | h :: r, c, fs, l => fun env S => if h.yes.contains c = true then (if envNE env = true then endX h.slot (h.U c fs l (setX h.slot env) S) else none)
    else if h.no.contains c = true then hdL r c fs l env S else none
def sTryM (B : SM) (hs : List HdM) : SM := fun env S => match B env S with
  | some (.er c fs l env1, S1) => hdL hs c fs l env1 S1
  | x => x
end DL
namespace DL
open PySem L2
def tiOf (X : Cx) (W : WG) (f : Env → M (List D × KK)) : TI := fun σ H Rr => ∃ A S env r S', Sta X.K (gm X W) A H S ∧ EnvR X.K (gm X W) A H σ env ∧ f env S = some (r, S') ∧ PoI X W Rr σ A H r S'
section
variable {X : Cx} {W : WG}
theorem DI.one {tg iter : Expr} {f : Env → M (List D × KK)} (h : DI X W tg iter f) : PI X tg iter (tiOf X W f) := by
  obtain ⟨wi, p, k⟩ := h
  exact ⟨fun pins s σ H R I ⟨A, S, env, r, S', hS, hE, he, hp⟩ => p.run pins s σ H R I (k σ H A S env r S' hS hE he R hp)⟩
variable {tg tg1 iter iter1 elt : Expr} {ifs ifs1 : List Expr} {f : Env → M SV} {fi fi1 : Env → M (List D × KK)} {cond cond1 : Env → M Bool} {pos : Pos} {scope : Scope} {own : List (Str × Nat)}
end
end DL
namespace DL
open PySem L2
section
variable {X : Cx} {W : WG}
def isNon : SV → Option Bool
  | .d .non => some true
  | .exc => none
  | _ => some false
theorem isNon_rep {K : PySem.W.Frag} {mg : Gm} {A : List Addr} {H : Hp} {sv : SV} {v : V} {b : Bool} (h : RepS K mg A H sv v) (e : isNon sv = some b) : decide (v = .non) = b := by
  cases sv with
  | d x =>
    have h1 : Rep K mg.m A H x v := h
    cases x <;> simp only [Rep] at h1 <;> cases e
    · subst h1; rfl
    · subst h1; rfl
    · subst h1; rfl
    · subst h1; rfl
    · obtain ⟨a, vs, e1, _⟩ := h1; subst e1; rfl
    · obtain ⟨a, vs, e1, _⟩ := h1; subst e1; rfl
    · obtain ⟨a, vs, e1, _⟩ := h1; subst e1; rfl
    · obtain ⟨a, C, dx, vs, e1, _⟩ := h1; subst e1; rfl
    · subst h1; rfl
    · obtain ⟨C, _, e1⟩ := h1; subst e1; rfl
    · obtain ⟨a, od, vs, e1, _⟩ := h1; subst e1; rfl
    · obtain ⟨a, vs, e1, _⟩ := h1; subst e1; rfl
    · obtain ⟨a, vs, e1, _⟩ := h1; subst e1; rfl
  | ptr k =>
    cases e
    obtain ⟨a, _, e1, _⟩ := h
    subst e1; rfl
  | obj k =>
    cases e
    obtain ⟨a, _, e1, _⟩ := h
    subst e1; rfl
  | dic k =>
    cases e
    obtain ⟨a, _, e1, _⟩ := h
    subst e1; rfl
  | exc => cases e
def oIsN (x y : SV) : M SV := match y with
  | .d .non => match isNon x with
    | some b => ret (.d (.bl b))
    | none => stuck
  | _ => stuck
def oNotN (x y : SV) : M SV := match y with
  | .d .non => match isNon x with
    | some b => ret (.d (.bl (!b)))
    | none => stuck
  | _ => stuck
theorem rok_isN : ROk X W (fun x y H Q => y = .non ∧ Q (.bl (decide (x = .non))) H) oIsN := by
  intro a b x y σ H A S rr S' hS hx hy he Q hp
  unfold oIsN at he
  split at he
  · have h2 : Rep X.K X.mg A H .non y := hy
    simp only [Rep] at h2
    rcases ei : isNon a with _ | c
    · rw [ei] at he; cases he
    · rw [ei] at he
      cases he
      exact ⟨h2, by rw [isNon_rep hx ei]; exact hp.val hS (show Rep X.K X.mg A H (.bl c) _ by simp only [Rep])⟩
  · cases he
theorem rok_notN : ROk X W (fun x y H Q => y = .non ∧ Q (.bl (!decide (x = .non))) H) oNotN := by
  intro a b x y σ H A S rr S' hS hx hy he Q hp
  unfold oNotN at he
  split at he
  · have h2 : Rep X.K X.mg A H .non y := hy
    simp only [Rep] at h2
    rcases ei : isNon a with _ | c
    · rw [ei] at he; cases he
    · rw [ei] at he
      cases he
      exact ⟨h2, by rw [isNon_rep hx ei]; exact hp.val hS (show Rep X.K X.mg A H (.bl (!c)) _ by simp only [Rep])⟩
  · cases he
def minL : List Int → Int
  | [] => 0
  | x :: xs => xs.foldr min x
def maxL : List Int → Int
  | [] => 0
  | x :: xs => xs.foldr max x
theorem foldmin (x : Int) : ∀ xs : List Int, (xs.foldr min x = x ∨ xs.foldr min x ∈ xs) ∧ xs.foldr min x ≤ x ∧ ∀ y ∈ xs, xs.foldr min x ≤ y
  | [] => ⟨.inl rfl, Int.le_refl _, fun _ h => by cases h⟩
  | y :: xs => by
    obtain ⟨h1, h2, h3⟩ := foldmin x xs
    show (min y (xs.foldr min x) = x ∨ min y (xs.foldr min x) ∈ y :: xs) ∧ min y (xs.foldr min x) ≤ x ∧ ∀ z ∈ y :: xs, min y (xs.foldr min x) ≤ z
    refine ⟨?_, by omega, fun z hz => ?_⟩
    · by_cases h : y ≤ xs.foldr min x
      · rw [show min y (xs.foldr min x) = y by omega]
        exact .inr List.mem_cons_self
      · rw [show min y (xs.foldr min x) = xs.foldr min x by omega]
        rcases h1 with h1 | h1
        · exact .inl h1
        · exact .inr (List.mem_cons_of_mem _ h1)
    · rcases List.mem_cons.mp hz with e | e
      · omega
      · have := h3 z e
        omega
theorem foldmax (x : Int) : ∀ xs : List Int, (xs.foldr max x = x ∨ xs.foldr max x ∈ xs) ∧ x ≤ xs.foldr max x ∧ ∀ y ∈ xs, y ≤ xs.foldr max x
  | [] => ⟨.inl rfl, Int.le_refl _, fun _ h => by cases h⟩
  | y :: xs => by
    obtain ⟨h1, h2, h3⟩ := foldmax x xs
    show (max y (xs.foldr max x) = x ∨ max y (xs.foldr max x) ∈ y :: xs) ∧ x ≤ max y (xs.foldr max x) ∧ ∀ z ∈ y :: xs, z ≤ max y (xs.foldr max x)
    refine ⟨?_, by omega, fun z hz => ?_⟩
    · by_cases h : y ≤ xs.foldr max x
      · rw [show max y (xs.foldr max x) = xs.foldr max x by omega]
        rcases h1 with h1 | h1
        · exact .inl h1
        · exact .inr (List.mem_cons_of_mem _ h1)
      · rw [show max y (xs.foldr max x) = y by omega]
        exact .inr List.mem_cons_self
    · rcases List.mem_cons.mp hz with e | e
      · omega
      · have := h3 z e
        omega
theorem minL_is {ns : List Int} {m : Int} (h : m ∈ ns) (h2 : ∀ y, y ∈ ns → m ≤ y) : m = minL ns := by
  cases ns with
  | nil => cases h
  | cons x xs =>
    obtain ⟨k1, k2, k3⟩ := foldmin x xs
    have a : minL (x :: xs) ∈ x :: xs := by
      rcases k1 with k1 | k1
      · exact List.mem_cons.mpr (.inl k1)
      · exact List.mem_cons_of_mem _ k1
    have b := h2 _ a
    have c : minL (x :: xs) ≤ m := by
      rcases List.mem_cons.mp h with e | e
      · rw [e]; exact k2
      · exact k3 _ e
    omega
theorem maxL_is {ns : List Int} {m : Int} (h : m ∈ ns) (h2 : ∀ y, y ∈ ns → y ≤ m) : m = maxL ns := by
  cases ns with
  | nil => cases h
  | cons x xs =>
    obtain ⟨k1, k2, k3⟩ := foldmax x xs
    have a : maxL (x :: xs) ∈ x :: xs := by
      rcases k1 with k1 | k1
      · exact List.mem_cons.mpr (.inl k1)
      · exact List.mem_cons_of_mem _ k1
    have b := h2 _ a
    have c : m ≤ maxL (x :: xs) := by
      rcases List.mem_cons.mp h with e | e
      · rw [e]; exact k2
      · exact k3 _ e
    omega
def intsNe (l : List D) : Option (List Int) := match intsD l with
  | some (x :: xs) => some (x :: xs)
  | _ => none
theorem intsNe_some {l : List D} {ns : List Int} (h : intsNe l = some ns) : intsD l = some ns ∧ 0 < ns.length := by
  unfold intsNe at h
  split at h
  · rename_i x xs q
    cases h
    exact ⟨q, Nat.succ_pos _⟩
  · cases h
def bMinL := bFold intsNe fun ns => .int (minL ns)
def bMaxL := bFold intsNe fun ns => .int (maxL ns)
theorem cok_minL : COk X W (rMin X.K) bMinL := by
  intro as vs σ H A S rr S' hS hx he Q hp
  obtain ⟨p, l, ws, bs, e1, h1, r1, eb, q⟩ := fold_step hS hx he hp
  obtain ⟨eb, hn⟩ := intsNe_some eb
  exact ⟨p, bs, e1, by rw [← ints_rep r1 eb]; exact SqL.of h1, hn, fun m m1 m2 => q _ (by simp only [Rep]; rw [minL_is m1 m2])⟩
theorem cok_maxL : COk X W (rMax X.K) bMaxL := by
  intro as vs σ H A S rr S' hS hx he Q hp
  obtain ⟨p, l, ws, bs, e1, h1, r1, eb, q⟩ := fold_step hS hx he hp
  obtain ⟨eb, hn⟩ := intsNe_some eb
  exact ⟨p, bs, e1, by rw [← ints_rep r1 eb]; exact SqL.of h1, hn, fun m m1 m2 => q _ (by simp only [Rep]; rw [maxL_is m1 m2])⟩
end
end DL
namespace DL
open PySem L2
def okL (t : List (Str × List Str)) (c f : Str) : Bool := t.any fun p => p.1 == c && p.2.contains f
section
variable {K : PySem.W.Frag} {mg : Str → Option Value} {t : List (Str × List Str)} {c f x : Str} {fs : List Str} {C : Addr}
theorem fldT_nil : FldT K mg (okL []) := ⟨fun _ _ _ h => by cases h⟩
theorem nfl_nil : ∀ g ∈ ([] : List Str), NoAttr K C g := fun _ h => by cases h
theorem nfl_cons (h : NoAttr K C f) (r : ∀ g ∈ fs, NoAttr K C g) : ∀ g ∈ f :: fs, NoAttr K C g := fun g hg => by
  rcases List.mem_cons.mp hg with e | e
  · rw [e]; exact h
  · exact r g e
theorem fldT_cons (hc : mg c = some (.ref C)) (cl : Cls K C) (nf : ∀ g ∈ fs, NoAttr K C g) (r : FldT K mg (okL t)) : FldT K mg (okL ((c, fs) :: t)) := ⟨fun c' f' C' h hm => by
  have h' : ((c == c' && fs.contains f') || okL t c' f') = true := h
  rcases Bool.or_eq_true_iff.mp h' with h1 | h1
  · rw [Bool.and_eq_true, beq_iff_eq] at h1
    obtain ⟨e, h2⟩ := h1
    subst e
    have : C = C' := by
      have := hc.symm.trans hm
      injection this with z
      injection z
    subst this
    exact ⟨cl, nf f' (by simpa using h2)⟩
  · exact r.of c' f' C' h1 hm⟩
end
end DL
namespace DL
open PySem L2
section
variable {env : Env} {S : Store}
@[simp] theorem ev_Ch (o o' : SV → SV → M SV) (f g h : Env → M SV) : eCh o o' f g h env = bnd (f env) fun x => bnd (g env) fun y => bnd (bnd (o x y) asB) fun k => if k then bnd (h env) fun z => o' y z else ret (.d (.bl false)) := rfl
@[simp] theorem ev_Sl (f : Env → M SV) (lo hi : Env → M (Option Int)) : eSl f lo hi env = bnd (f env) fun x => bnd (lo env) fun l => bnd (hi env) fun h => oSl x l h := rfl
@[simp] theorem ev_pN : pNone env = ret none := rfl
theorem ev_pS (f : Env → M SV) : pSome f env = bnd (f env) fun x => match x with
  | .d (.int i) => ret (some i)
  | _ => stuck := rfl
@[simp] theorem ev_pSi (f : Env → M SV) {i : Int} (h : f env = ret (.d (.int i))) : pSome f env = ret (some i) := by rw [ev_pS, h]; rfl
theorem oSl_l (l : List D) (lo hi : Option Int) : oSl (.d (.lst l)) lo hi = ret (.d (.lst (cutD l lo hi))) := rfl
theorem oAdd_l {l m : List D} (h : l.length + m.length ≤ 16777216) : oAdd (.d (.lst l)) (.d (.lst m)) = ret (.d (.lst (l ++ m))) := by
  funext S
  show (if l.length + m.length ≤ lim then some (R.ok (SV.d (.lst (l ++ m))), S) else none) = _
  rw [if_pos (show l.length + m.length ≤ lim from h)]
  rfl
@[simp] theorem mkTup_0 : mkTup [] = ret (.d (.tup [])) := rfl
@[simp] theorem mkTup_1 (a : D) : mkTup [.d a] = ret (.d (.tup [a])) := rfl
@[simp] theorem mkTup_3 (a b c : D) : mkTup [.d a, .d b, .d c] = ret (.d (.tup [a, b, c])) := rfl
@[simp] theorem mkLst_3 (a b c : D) : mkLst [.d a, .d b, .d c] = ret (.d (.lst [a, b, c])) := rfl
@[simp] theorem mkOwn_1 (a : D) : mkOwn [.d a] S = some (.ok (.ptr S.length), S ++ [[a]]) := rfl
theorem bools_map {α : Type} (p : α → Bool) : ∀ xs : List α, bools (xs.map fun x => D.bl (p x)) = some (xs.map p)
  | [] => rfl
  | x :: xs => by
    simp only [List.map_cons, bools]
    rw [bools_map p xs]
    rfl
theorem intsD_map : ∀ xs : List Int, intsD (xs.map D.int) = some xs
  | [] => rfl
  | x :: xs => by
    simp only [List.map_cons, intsD]
    rw [intsD_map xs]
    rfl
theorem fold_l {α : Type} {rd : List D → Option (List α)} {g : List α → D} {l : List D} {bs : List α} (h : rd l = some bs) : bFold rd g [.d (.lst l)] = ret (.d (g bs)) := by
  funext S
  simp [bFold, items, h, ret]
theorem bAll_map {α : Type} (p : α → Bool) (xs : List α) : bAll [.d (.lst (xs.map fun x => D.bl (p x)))] = ret (.d (.bl (xs.all p))) := by
  unfold bAll
  rw [fold_l (bools_map p xs), List.all_map]
  rfl
theorem bSum_map (xs : List Int) : bSum [.d (.lst (xs.map D.int))] = ret (.d (.int xs.sum)) := fold_l (intsD_map xs)
theorem intsNe_map {xs : List Int} (h : xs ≠ []) : intsNe (xs.map D.int) = some xs := by
  unfold intsNe
  rw [intsD_map]
  cases xs with
  | nil => exact absurd rfl h
  | cons x xs => rfl
theorem bMaxL_map {xs : List Int} (h : xs ≠ []) : bMaxL [.d (.lst (xs.map D.int))] = ret (.d (.int (maxL xs))) := fold_l (intsNe_map h)
@[simp] theorem oIsN_n : oIsN (.d .non) (.d .non) = ret (.d (.bl true)) := rfl
@[simp] theorem oNotN_n : oNotN (.d .non) (.d .non) = ret (.d (.bl false)) := rfl
@[simp] theorem oIsN_i (i : Int) : oIsN (.d (.int i)) (.d .non) = ret (.d (.bl false)) := rfl
@[simp] theorem oNotN_i (i : Int) : oNotN (.d (.int i)) (.d .non) = ret (.d (.bl true)) := rfl
theorem lc_loopF {t : Tg} {cond : Env → M Bool} {fe : Env → M SV} {all : List D} {k : Nat} (p : D → Bool) (h : D → D) {S0 : Store} (hk : k = S0.length) : ∀ (ds acc : List D),
    (∀ d ∈ ds, ∃ env1, setT t d env = some env1 ∧ cond env1 = ret (p d) ∧ (p d = true → fe env1 = ret (.d (h d)))) → acc.length + ds.length ≤ 16777216 → lcL t none all cond fe k env ds (S0 ++ [acc]) = some (S0 ++ [acc ++ (ds.filter p).map h])
  | [], acc, _, _ => by unfold lcL; simp
  | d :: ds, acc, hd, hl => by
    obtain ⟨env1, h1, h2, h3⟩ := hd d List.mem_cons_self
    unfold lcL
    rw [h1]; dsimp only; rw [h2]; dsimp only [ret]
    cases hp : p d with
    | true =>
      rw [h3 hp]; dsimp only [ret]
      have hg : (S0 ++ [acc])[k]? = some acc := by rw [hk]; simp
      have hlt : acc.length < lim := by simp only [List.length_cons] at hl; simp only [lim]; omega
      unfold lcNext
      rw [hg]; dsimp only; rw [if_pos hlt]; dsimp only
      rw [if_pos (show keepOk none all _ from trivial)]
      have hs : (S0 ++ [acc]).set k (acc ++ [h d]) = S0 ++ [acc ++ [h d]] := by rw [hk]; simp
      rw [hs, lc_loopF p h hk ds (acc ++ [h d]) (fun x hx => hd x (List.mem_cons_of_mem _ hx)) (by simp only [List.length_append, List.length_cons, List.length_nil] at hl ⊢; omega)]
      simp [hp]
    | false =>
      dsimp only
      rw [if_pos (show keepOk none all _ from trivial)]
      rw [lc_loopF p h hk ds acc (fun x hx => hd x (List.mem_cons_of_mem _ hx)) (by simp only [List.length_cons] at hl; omega)]
      simp [hp]
theorem lc_ret {ws : List Nat} {t : Tg} {f : Env → M (List D × KK)} {cond : Env → M Bool} {fe : Env → M SV} {ds : List D} (p : D → Bool) (h : D → D) (hf : f env = ret (ds, none))
    (hd : ∀ d ∈ ds, ∃ env1, setT t d (wipeE env ws) = some env1 ∧ cond env1 = ret (p d) ∧ (p d = true → fe env1 = ret (.d (h d)))) (hl : ds.length ≤ 16777216) (hcl : ∀ d, isOwn (h d) = false := by intro _; rfl) : eLc ws t f cond fe env = ret (.d (.lst ((ds.filter p).map h))) := by
  funext S
  unfold eLc
  rw [bnd_at (show f env S = some (.ok (ds, none), S) by rw [hf]; rfl)]
  dsimp only
  rw [lc_loopF p h rfl ds [] hd (by simpa using hl)]
  simp [ret, List.getElem?_append_right, cal_app, clsd_map hcl]
/-- no test -/
theorem lc_all {ws : List Nat} {t : Tg} {f : Env → M (List D × KK)} {fe : Env → M SV} {ds : List D} (h : D → D) (hf : f env = ret (ds, none))
    (hd : ∀ d ∈ ds, ∃ env1, setT t d (wipeE env ws) = some env1 ∧ fe env1 = ret (.d (h d))) (hl : ds.length ≤ 16777216) (hcl : ∀ d, isOwn (h d) = false := by intro _; rfl) : eLc ws t f tYesD fe env = ret (.d (.lst (ds.map h))) := by
  rw [lc_ret (fun _ => true) h hf (fun d hm => by obtain ⟨e1, a, b⟩ := hd d hm; exact ⟨e1, a, rfl, fun _ => b⟩) hl hcl, List.filter_eq_self.mpr (fun _ _ => rfl)]
theorem st_R1 {c fld : Str} {f : Env → M SV} {x : D} {S' : Store} (h : f env S = some (.ok (.d x), S')) : sRaise1 c fld f env S = some (.er c [fld] [x] env, S') := by unfold sRaise1 lift; rw [h]
/-- f = e: a field of the object under way -/
theorem st_SetF {ok : Str → Str → Bool} {fld c : Str} {fo fe : Env → M SV} {x : D} {k : Nat} {fs : List Str} {l : List D} {S1 S2 : Store} (h1 : fe env S = some (.ok (.d x), S1)) (h2 : fo env S1 = some (.ok (.obj k), S2)) (h3 : S2[k]? = some [.ins c fs l]) (h4 : ok c fld = true ∧ fs.length < 1000) :
    sSetF ok fld fo fe env S = some (.nx env, S2.set k [.ins c (putD fld x fs l).1 (putD fld x fs l).2]) := by
  unfold sSetF lift
  rw [bnd_at h1, bnd_at h2]
  dsimp only [ret]
  rw [h3]
  dsimp only [fldD]
  rw [if_pos h4]
/-- .. a list of one's own -/
theorem st_SetFO {ok : Str → Str → Bool} {fld c : Str} {fo fe : Env → M SV} {j k : Nat} {fs : List Str} {l : List D} {S1 S2 : Store} (h1 : fe env S = some (.ok (.ptr j), S1)) (h2 : fo env S1 = some (.ok (.obj k), S2)) (h3 : S2[k]? = some [.ins c fs l]) (h4 : ok c fld = true ∧ fs.length < 1000) :
    sSetF ok fld fo fe env S = some (.nx env, S2.set k [.ins c (putD fld (.own j) fs l).1 (putD fld (.own j) fs l).2]) := by
  unfold sSetF lift
  rw [bnd_at h1, bnd_at h2]
  dsimp only [ret]
  rw [h3]
  dsimp only [fldD]
  rw [if_pos h4]
theorem fn_non {np n : Nat} {body : SM} {as : List SV} {env1 : Env} {S1 : Store} (hl : as.length = np) (h : body (as.map some ++ List.replicate (n - as.length) none) S = some (.nx env1, S1)) (hc : Cal S S1 := by (first | exact cal_refl _ | exact cal_app _ _ | exact cal_cons (calC_2 rfl) | exact cal_cons0 (calC_2 rfl) | exact cal_cons calC_ints | exact cal_cons0 calC_ints | (exact cal_cons (by assumption)) | (exact cal_cons0 (by assumption)))) : fnSem np n body as S = some (.ok (.d .non), S1.take S.length) := by
  unfold fnSem; rw [if_pos hl, h]; dsimp only; rw [if_pos hc]
theorem plains_of : ∀ {l : List D}, (∀ d ∈ l, plain d = true) → plains l = true
  | [], _ => rfl
  | d :: l, h => by
    simp only [plains, Bool.and_eq_true]
    exact ⟨h d List.mem_cons_self, plains_of fun x hx => h x (List.mem_cons_of_mem _ hx)⟩
theorem lay_of : ∀ {l : List D}, (∀ d ∈ l, PyData.canLay0 (toPy d) = true) → PyData.canLayAll0 (toPys l) = true
  | [], _ => by simp [toPys, PyData.canLayAll0]
  | d :: l, h => by
    simp only [toPys, PyData.canLayAll0, Bool.and_eq_true]
    exact ⟨h d List.mem_cons_self, lay_of fun x hx => h x (List.mem_cons_of_mem _ hx)⟩
theorem dep_of {n : Nat} : ∀ {l : List D}, (∀ d ∈ l, (toPy d).depth ≤ n) → PyData.depthAll (toPys l) ≤ n
  | [], _ => by simp [toPys, PyData.depthAll]
  | d :: l, h => by
    simp only [toPys, PyData.depthAll]
    exact Nat.max_le.mpr ⟨h d List.mem_cons_self, dep_of fun x hx => h x (List.mem_cons_of_mem _ hx)⟩
/-- can be compared: plain, and not deep -/
def Cmp (n : Nat) (d : D) : Prop := plain d = true ∧ PyData.canLay0 (toPy d) = true ∧ (toPy d).depth ≤ n
theorem Cmp.lst {n : Nat} {l : List D} (h : ∀ d ∈ l, Cmp n d) : Cmp (n + 1) (.lst l) := ⟨plains_of fun d hd => (h d hd).1, by
  simp only [toPy, PyData.canLay0]
  exact lay_of fun d hd => (h d hd).2.1, by
  simp only [toPy, PyData.depth]
  have := dep_of (l := l) fun d hd => (h d hd).2.2
  omega⟩
theorem Cmp.tup {n : Nat} {l : List D} (h : ∀ d ∈ l, Cmp n d) : Cmp (n + 1) (.tup l) := ⟨plains_of fun d hd => (h d hd).1, by
  simp only [toPy, PyData.canLay0]
  exact lay_of fun d hd => (h d hd).2.1, by
  simp only [toPy, PyData.depth]
  have := dep_of (l := l) fun d hd => (h d hd).2.2
  omega⟩
theorem Cmp.mono {n m : Nat} {d : D} (h : Cmp n d) (hn : n ≤ m) : Cmp m d := ⟨h.1, h.2.1, Nat.le_trans h.2.2 hn⟩
theorem Cmp.int (i : Int) : Cmp 0 (.int i) := ⟨rfl, by simp [toPy, PyData.canLay0], by simp [toPy, PyData.depth]⟩
theorem Cmp.str {i : Str} (h : PyData.strOk i = true) : Cmp 0 (.str i) := ⟨rfl, by simp [toPy, PyData.canLay0, h], by simp [toPy, PyData.depth]⟩
theorem Cmp.bl (i : Bool) : Cmp 0 (.bl i) := ⟨rfl, by simp [toPy, PyData.canLay0], by simp [toPy, PyData.depth]⟩
theorem Cmp.non : Cmp 0 .non := ⟨rfl, by simp [toPy, PyData.canLay0], by simp [toPy, PyData.depth]⟩
theorem Cmp.sh {n : Nat} {d : D} (h : Cmp n d) (hn : n ≤ 64) : SeqAt.shaped (toPy d) = true := by
  unfold SeqAt.shaped
  rw [h.2.1, Bool.true_and, decide_eq_true_eq]
  exact Nat.le_trans h.2.2 hn
theorem Cmp.ok {n m : Nat} {x y : D} (h : Cmp n x) (h' : Cmp m y) (hn : n ≤ 64) (hm : m ≤ 64) : eqOk x y = true := by
  unfold eqOk
  rw [h.1, h'.1, h.sh hn, h'.sh hm]
  rfl
theorem eqD_same {n : Nat} {d : D} (h : Cmp n d) : eqD d d = true := SeqAt.eqv_refl _ h.2.1
end
end DL
namespace DL
open PySem L2
/-- a class's own def, by its name -/
structure OwnM (P : Program) (w : World) (K : PySem.W.Frag) (mg : Str → Option Value) (base : Heap) (k : Nat) (c name : Str) (ps : List Str) (m : Fn) (C f : Addr) (fd : FuncData) : Prop where
  F : FnOk P w K mg base (L2N.CX P w) k f fd ps (spD K mg m)
  gC : mg c = some (.ref C)
  cl : Cls K C
  M : Meth K C name f
  b : Binds K fd ps []
section
variable {X : Cx} {W : WG} {P : Program} {k : Nat} {c name : Str} {ps : List Str} {m : Fn} {C f : Addr} {fd : FuncData} {x : Str} {p pos apos : Pos} {e o a b : Expr} {es : List Expr} {g h fo : Env → M SV} {fa : Env → M (List SV)}
/-- the callee runs, somewhere below the running body -/
theorem run_low {A : Around} {pins : List (Addr × Obj)} {σ : St} {H : Hp} {s : Shared} {Q : VK} {E : XK} {us : List Value} {vs : List V} {sp : Sp} (F : FnOk X.prog X.w X.K X.mg X.base (L2N.CX X.prog X.w) k f fd ps sp) (hr : Room k A) (hf : A.frames = X.A.frames) (hb : Binds X.K fd ps [])
    (hx : PassesAt (L2N.CX X.prog X.w) X σ E) (I : Inv X pins σ H s) (r : Vals vs us) (h : sp vs H Q E) : wpAny (model X.prog X.w) A (call (.ref f) us) (EP X pins σ Q) X.xe s := by
  have hl : us.length = ps.length := by rw [← r.length]; exact F.len _ _ _ _ h
  have bb := hb s us I.kIn (by rw [List.append_nil]; exact hl)
  rw [List.append_nil] at bb
  have e0 : Env0 X.prog X.w X.K X.mg X.base A X.stack s H := by
    have e := I.env0
    exact ⟨by rw [hf]; exact e.frames, e.mod, e.bs, e.bsz, e.funs, e.frf, e.hok, e.bare⟩
  refine wpAny_call (codeAny_mono (F.run A X.stack s H ⟨us, []⟩ us vs Q E hr e0 bb r h) fun r s' hq => ?_)
  cases r with
  | error e => exact hx pins H s e s' I hq
  | ok fl =>
    cases fl with
    | ret u => exact I.after hq
    | next => exact False.elim hq
    | brk => exact False.elim hq
    | cont => exact False.elim hq
def tMethE (K : PySem.W.Frag) (C : Addr) (m : Str) (sp : Sp) (E : St → XK) (ta : TE) (t : TA) : TE := fun σ H Q => ta σ H fun x H1 => ∃ a dx fs, x = .ref a ∧ H1 a = some (.ins C dx fs) ∧ fs.lookup m = none ∧ t σ H1 fun vs H2 => sp (.ref a :: vs) H2 Q (E σ)
theorem pe_methE {sp : Sp} {E : St → XK} {ta : TE} {t : TA} {pl : Sem Bool} (he : PE X o ta) (c0 : Cls X.K C) (hm : Meth X.K C name f) (F : FnOk X.prog X.w X.K X.mg X.base (L2N.CX X.prog X.w) k f fd ps sp) (hr : Room k X.A) (hb : Binds X.K fd ps []) (hx : ∀ σ, PassesAt (L2N.CX X.prog X.w) X σ (E σ)) (ha : PA X (e :: es) t)
    (hst : starEach (e :: es) X.env = (false, eval e X.env) :: starEach es X.env := by rfl) (hpl : (backTo pos (starEach es X.env)).any (·.1) = false := by rfl)
    (ht : eval (.Call (.Attribute o name apos) (e :: es) [] pos) X.env = (do
      let ov ← eval o X.env
      standAt apos.atName
      let (f, first) ← holding [ov] (getMethod ov name pl)
      callWith pos f first (backTo pos (starEach (e :: es) X.env)) (backToKw pos (keywordEach [] X.env))) := by rfl) :
    PE X (.Call (.Attribute o name apos) (e :: es) [] pos) (tMethE X.K C name sp E ta t) := by
  refine ⟨fun pins s σ H Q I h => ?_⟩
  refine PySem.W.methodCall_KW (pl := pl) (thn (he.run pins s σ H _ I h) fun u s1 ⟨x, H1, I1, rx, a, dx, fs, ex, ea, l, q⟩ => ?_) ht
  subst ex
  obtain rfl : u = Value.ref a := rx
  refine getmeth_ok I1 ea c0 hm l ?_
  refine PySem.W.callWith_K (first := [.ref a]) (h₀ := X.base) I.ok.mod.kin hm.kp (thn (ha.run pos pins s1 σ H1 _ I1 q) fun us s2 ⟨vs, H2, I2, r, q2⟩ => ⟨I2.kIn, ?_⟩) hst hpl
  exact run_low (us := .ref a :: us) (vs := .ref a :: vs) F hr rfl hb (hx σ) I2 (.cons rfl r) q2
theorem pe_methE0 {sp : Sp} {E : St → XK} {ta : TE} {pl : Sem Bool} (he : PE X o ta) (c0 : Cls X.K C) (hm : Meth X.K C name f) (F : FnOk X.prog X.w X.K X.mg X.base (L2N.CX X.prog X.w) k f fd ps sp) (hr : Room k X.A) (hb : Binds X.K fd ps []) (hx : ∀ σ, PassesAt (L2N.CX X.prog X.w) X σ (E σ))
    (ht : eval (.Call (.Attribute o name apos) [] [] pos) X.env = (do
      let ov ← eval o X.env
      standAt apos.atName
      let (f, first) ← holding [ov] (getMethod ov name pl)
      callWith pos f first (backTo pos (starEach [] X.env)) (backToKw pos (keywordEach [] X.env))) := by rfl) :
    PE X (.Call (.Attribute o name apos) [] [] pos) (tMethE X.K C name sp E ta tNil) := by
  refine ⟨fun pins s σ H Q I h => ?_⟩
  refine PySem.W.methodCall_KW (pl := pl) (thn (he.run pins s σ H _ I h) fun u s1 ⟨x, H1, I1, rx, a, dx, fs, ex, ea, l, q⟩ => ?_) ht
  subst ex
  obtain rfl : u = Value.ref a := rx
  refine getmeth_ok I1 ea c0 hm l ?_
  exact PySem.W.callWith_K0 (first := [.ref a]) I1.kIn hm.kp (run_low (us := [.ref a]) (vs := [.ref a]) F hr rfl hb (hx σ) I1 (.cons rfl .nil) q)
/-- no field of it has the name -/
def noFld (c name : Str) : SV → Bool
  | .d (.ins c' fs _) => c' == c && !fs.contains name
  | _ => false
theorem lookup_none {name : Str} : ∀ {fs : List Str} {vs : List V}, fs.contains name = false → (fs.zip vs).lookup name = none
  | [], vs, _ => by cases vs <;> rfl
  | g :: fs, [], _ => rfl
  | g :: fs, v :: vs, h => by
    rw [List.contains_cons, Bool.or_eq_false_iff] at h
    rw [List.zip_cons_cons, List.lookup, h.1]
    exact lookup_none h.2
def eMeth (c name : Str) (cv : RR → M SV) (m : Fn) (fo : Env → M SV) (fa : Env → M (List SV)) : Env → M SV := fun env => bnd (fo env) fun o => if noFld c name o = true then bnd (fa env) fun as => callM cv m (o :: as) else stuck
end
end DL
namespace DL
open PySem L2
open PyProof.Rows (subscriptTail Subscript_)
end DL
namespace DL
open PySem L2
structure IsC (K : PySem.W.Frag) (C : Addr) : Prop where
  cl : Cls K C
  ca : PySem.W.findIn K (.ref C) "__class__" = some (some (.builtin "object.__class__"))
  cn : PySem.W.specialIn K (.builtin "object.__class__") "__get__" = some (some (.builtin "getset_descriptor.__get__"))
  ct : PySem.W.takesIn K (.builtin "object.__class__") = some true
  cm : PySem.W.mroIn K C (.type "object") = some true
  jC : PySem.W.isClsIn K C = true
  tC : PySem.W.typeIn K (.ref C) = some (.type "type")
end DL
namespace DLW
open PySem PySem.W PySem.Calls PyProof.Rows
section
variable {prog : Program} {w : World} {A : Around} {E : Value → Shared → Prop} {s : Shared} {K : Frag} {x C L f : Addr} {h₀ : Heap} {m : Str → Option Value} {ox : Obj} {od : Option Obj}
theorem binopI_K {op : Operator} {b : Value} {U : String} {Q : Value → Shared → Prop} {z : Option Value} (F : Fr h₀ L s.heap m) (X₀ : K.In h₀) (I : InstAt s.heap x ox C od) (hb : Looks (model prog w) s.heap (typeOf b) (.type U)) (hc : selfFirst K C = true)
    (hs : findIn K (.ref C) (dunder op.info.2) = some (some (.ref f))) (hf : isFn K (.ref f) = true) (hr0 : findIn K (.ref C) (dunderR op.info.2) = some none)
    (hfU : fillsNumberSlot (.type U) op.info.2 = pure true) (hsub : PySem.W.subIn K (.type U) (.ref C) = some false) (hrU : typeLookup (.type U) (dunderR op.info.2) = pure z)
    (h : wpAny (model prog w) A (call (.ref f) [.ref x, b]) (PySem.W.CmpBack Q) E s) : wpAny (model prog w) A (binaryOp op (.ref x) b) Q E s := by
  have X := X₀.keeps F.keep
  obtain ⟨cd, hcd, hm⟩ := any_some hc
  obtain ⟨rest, hm⟩ : ∃ rest, cd.mro = .ref C :: rest := by
    cases q : cd.mro with
    | nil => rw [q] at hm; cases hm
    | cons a r => rw [q] at hm; exact ⟨r, by rw [List.head?_cons] at hm; cases (beq_iff_eq.mp hm); rfl⟩
  rcases hi : op.info with ⟨sym, nm⟩
  rw [hi] at hs hr0 hfU hrU
  dsimp only at hs hr0 hfU hrU
  simp only [binaryOp, hi]
  refine wpAny_holding (wpAny_bind ?_)
  unfold binaryOp1
  refine wpAny_bind (I.type.here (wpAny_bind (hb.here (wpAny_bind ((fills_K X hcd hm hs).here ?_)))))
  have hne : (Value.ref C == Value.type U) = false := by simp
  simp only [hne, Bool.false_eq_true, if_false]
  refine wpAny_bind (wpAny_of_eq hfU ?_)
  simp only [Bool.and_self, if_true]
  refine wpAny_bind ((looks_subIn X hsub).here ?_)
  simp only [Bool.false_eq_true, if_false, pure_bind, Bool.not_false, Bool.and_self, if_true]
  have np : wpAny (model prog w) A (numberSlotInPython (.ref C) nm) (fun b s' => b = true ∧ s' = s) E s := by
    unfold numberSlotInPython
    refine wpAny_bind ((looks_findIn X hs).here ?_)
    refine wpAny_bind (wpAny_pure ?_)
    refine wpAny_bind ((looks_findIn X hr0).here ?_)
    refine wpAny_bind (wpAny_pure ?_)
    exact wpAny_pure ⟨rfl, rfl⟩
  refine wpAny_bind (wpAny_mono np (fun b s' hb => ?_) fun _ _ x => x)
  obtain ⟨rfl, rfl⟩ := hb
  rw [if_pos rfl]
  refine wpAny_bind (wpAny_of_eq (show numberSlotInPython (.type U) nm = pure false from rfl) ?_)
  rw [if_pos (show (!false) = true from rfl)]
  refine wpAny_bind (wpAny_of_eq hrU ?_)
  rw [if_pos rfl]
  refine wpAny_bind (m := tryMethod (.ref x) _ b) ?_
  unfold tryMethod
  refine wpAny_bind (special_fn X I hs (beq_iff_eq.mp hf) (wpAny_mono h (fun v s' hv => ?_) fun _ _ e => e))
  cases v <;> first | exact hv.elim | exact wpAny_pure (wpAny_pure (wpAny_pure hv))
end
end DLW
namespace DL
open PySem L2
open DLW (binopI_K)
section
variable {X : Cx} {W : WG} {k : Nat} {c name : Str} {ps : List Str} {m : Fn} {C f : Addr} {fd : FuncData} {x : Str} {p pos apos : Pos} {e o a b : Expr} {es : List Expr} {g h fo : Env → M SV} {fa : Env → M (List SV)} {ta tb : TE}
/-- what is walked: data, with nothing to be kept -/
def seqD : SV → Option (Bool × List D)
  | .d (.lst l) => some (true, l)
  | .d (.scr l) => some (true, l)
  | .d (.tup l) => some (false, l)
  | _ => none
theorem seqD_rep {K : PySem.W.Frag} {mg : Gm} {A : List Addr} {H : Hp} {sv : SV} {l : List D} {v : V} {b : Bool} (h : RepS K mg A H sv v) (e : seqD sv = some (b, l)) :
    ∃ a vs, v = .ref a ∧ Reps K mg.m A H l vs ∧ (b = true → SqX K A H a vs) ∧ (b = false → a ∉ A ∧ H a = some (.tup vs)) := by
  unfold seqD at e
  split at e
  · cases e
    have h1 : Rep K mg.m A H (.lst l) v := h
    simp only [Rep] at h1
    obtain ⟨a, vs, e1, n, h2, h3⟩ := h1
    exact ⟨a, vs, e1, h3, fun _ => .inl ⟨.inl h2, n⟩, fun z => by cases z⟩
  · cases e
    have h1 : Rep K mg.m A H (.scr l) v := h
    simp only [Rep] at h1
    obtain ⟨a, vs, e1, h2, h3⟩ := h1
    exact ⟨a, vs, e1, h3, fun _ => h2, fun z => by cases z⟩
  · cases e
    have h1 : Rep K mg.m A H (.tup l) v := h
    simp only [Rep] at h1
    obtain ⟨a, vs, e1, n, h2, h3⟩ := h1
    exact ⟨a, vs, e1, h3, (fun z => by cases z), fun _ => ⟨n, h2⟩⟩
  · cases e
def pairD : List D → List D → List D
  | x :: xs, y :: ys => .tup [x, y] :: pairD xs ys
  | _, _ => []
theorem pairD_length : ∀ xs ys : List D, (pairD xs ys).length = min xs.length ys.length
  | [], ys => by simp [pairD]
  | x :: xs, [] => by simp [pairD]
  | x :: xs, y :: ys => by simp [pairD, pairD_length xs ys]
theorem pairD_get : ∀ {xs ys : List D} {i : Nat} {d : D}, (pairD xs ys)[i]? = some d → ∃ x y, xs[i]? = some x ∧ ys[i]? = some y ∧ d = .tup [x, y]
  | [], ys, i, d, h => by simp [pairD] at h
  | x :: xs, [], i, d, h => by simp [pairD] at h
  | x :: xs, y :: ys, 0, d, h => by simp [pairD] at h; exact ⟨x, y, rfl, rfl, h.symm⟩
  | x :: xs, y :: ys, i + 1, d, h => by
    simp only [pairD, List.getElem?_cons_succ] at h ⊢
    exact pairD_get h
def walkZ : List SV → M (List D × KK)
  | [x, y] => match seqD x, seqD y with
    | some (b, l), some (b', l') => if b = b' then ret (pairD l l', none) else ret (pairD l l', none)
    | _, _ => stuck
  | _ => stuck
theorem rep_pair {K : PySem.W.Frag} {mg : Str → Option Value} {A : List Addr} {H : Hp} {T : Addr} {x y : D} {v u : V} (hT : H T = none) (hA : T ∉ A) (rx : Rep K mg A H x v) (ry : Rep K mg A H y u) : Rep K mg A (upd H T (.tup [v, u])) (.tup [x, y]) (.ref T) := by
  simp only [Rep]
  exact ⟨T, [v, u], rfl, hA, upd_same, by simp only [Reps]; exact ⟨v, [u], rfl, Rep.mono (Ext.new hT) x v rx, u, [], rfl, Rep.mono (Ext.new hT) y u ry, rfl⟩⟩
end
end DL
namespace DL
open PySem L2
/-- a list (true) or a tuple (false) as it stands -/
def SqB (b : Bool) (K : PySem.W.Frag) (H : Hp) (a : Addr) (xs : List V) : Prop := match b with
  | true => SqL K H a xs
  | false => SqT K H a xs
def ItB (b : Bool) (h : Heap) (it l : Addr) (i : Nat) : Prop := match b with
  | true => h.IsListIter it l i
  | false => h.IsTupleIter it l i
def SeB (b : Bool) (h : Heap) (l : Addr) (its : Array Value) : Prop := match b with
  | true => h.IsList l its
  | false => h.IsTuple l its
def obB (b : Bool) (l : Addr) : Obj := match b with
  | true => { cls := .type "list_iterator", data := .fields #[.ref l, .int 0 0] }
  | false => { cls := .type "tuple_iterator", data := .fields #[.ref l, .int 0 0] }
theorem drB (b : Bool) {prog : Program} {w : World} {A : Around} (hh : A.handled = none) (it l : Addr) (hne : l ≠ it) (its : Array Value) :
    Draws prog w A it [it, l] its.size (fun i v => its[i]? = some v) (fun i h => ItB b h it l i ∧ SeB b h l its) := match b with
  | true => Draws.list hh it l hne its
  | false => Draws.tuple hh it l hne its
theorem beB (b : Bool) (l : Addr) (its : Array Value) : Begins (.ref l) (obB b l) fun h => SeB b h l its := match b with
  | true => begins_list l its
  | false => begins_tuple l its
theorem itB0 {b : Bool} {h : Heap} {it l : Addr} (e : h.get? it = some (obB b l)) : ItB b h it l 0 := by
  cases b
  · exact ⟨_, e, rfl, rfl⟩
  · exact ⟨_, e, rfl, rfl⟩
theorem ItB.up {b : Bool} {h h' : Heap} {it l : Addr} {i : Nat} (q : ItB b h it l i) (k : ∀ o, h.get? it = some o → h'.get? it = some o) : ItB b h' it l i := by
  cases b
  · exact Heap.IsTupleIter.at q fun o e => k o e
  · exact Heap.IsListIter.at q fun o e => k o e
theorem ItB.ob {b : Bool} {h : Heap} {it l : Addr} {i : Nat} (q : ItB b h it l i) : ∃ o, h.get? it = some o ∧ ∀ v, o.data ≠ .cell v := by
  cases b <;> (obtain ⟨o, e, _, d⟩ := q; exact ⟨o, e, fun v z => by rw [d] at z; cases z⟩)
theorem SeB.lt {b : Bool} {h : Heap} {l : Addr} {its : Array Value} (q : SeB b h l its) : l < h.objs.size := by
  cases b
  · obtain ⟨o, e, _⟩ := q; exact Heap.lt_size e
  · obtain ⟨o, e, _⟩ := q; exact Heap.lt_size e
theorem inB {b : Bool} {X : Cx} {pins : List (Addr × Obj)} {σ : L2.St} {H : Hp} {s : Shared} {a : Addr} {xs : List V} (I : Inv X pins σ H s) (q : SqB b X.K H a xs) : ∃ its : List Value, Vals xs its ∧ SeB b s.heap a its.toArray := by
  cases b
  · obtain ⟨its, r, p, _⟩ := I.tuple q; exact ⟨its, r, p⟩
  · obtain ⟨its, r, p, _⟩ := I.list q; exact ⟨its, r, p.isList⟩
theorem injB {b : Bool} {X : Cx} {pins : List (Addr × Obj)} {σ : L2.St} {H : Hp} {s : Shared} {a : Addr} {xs ys : List V} (I : Inv X pins σ H s) (q : SqB b X.K H a xs) (q' : SqB b X.K H a ys) : xs = ys := by
  cases b
  · exact I.tuple_inj q q'
  · exact I.list_inj q q'
/-- what a zip draws -/
def ItzB (b1 b2 : Bool) (K : PySem.W.Frag) (a b : Addr) : It where
  go := fun i H => ∃ (xs ys : List V) (x y : V), SqB b1 K H a xs ∧ SqB b2 K H b ys ∧ xs[i]? = some x ∧ ys[i]? = some y
  yld := fun i H v H' => ∃ T x y, v = .ref T ∧ H T = none ∧ H' = upd H T (.tup [x, y]) ∧ (∀ xs, SqB b1 K H a xs → xs[i]? = some x) ∧ ∀ ys, SqB b2 K H b ys → ys[i]? = some y
  stop := fun i H => ∃ xs ys : List V, SqB b1 K H a xs ∧ SqB b2 K H b ys ∧ (i ≤ xs.length ∧ i ≤ ys.length ∧ (i = xs.length ∨ i = ys.length))
theorem sepB {z TI TO i1 i2 a b : Addr} (D : ZipApart z TI TO i1 i2 a b) : ZipSep2 z TI TO i1 i2 [i1, a] [i2, b] := by
  have d12 := D.i12
  constructor
  all_goals (try simp only [List.mem_cons, List.not_mem_nil, or_false, not_or])
  · exact D.TIz
  · exact D.TOz
  · exact D.TITO
  · exact D.TIi1
  · exact .inl trivial
  · exact ⟨D.i1z.symm, D.l1z.symm⟩
  · exact ⟨D.TOi1, D.l1TO.symm⟩
  · exact D.TIi2
  · exact .inl trivial
  · exact ⟨D.i2z.symm, D.l2z.symm⟩
  · exact ⟨D.TOi2, D.l2TO.symm⟩
  · exact ⟨d12, D.l2i1.symm⟩
  · exact ⟨d12.symm, D.l1i2.symm⟩
theorem turn_zipB {b1 b2 : Bool} {P : Program} {w : World} {K : PySem.W.Frag} {elts : List Expr} {kk : Nat} {tpos : Pos} {a b z TI TO i1 i2 : Addr} (D : ZipApart z TI TO i1 i2 a b) :
    Turn P w K (.Tuple elts kk tpos) (ItzB b1 b2 K a b) [z, TI, TO, i1, i2] z (fun i h => IsZip h z TI TO .none ∧ IsTupOf2 h TI (.ref i1) (.ref i2) ∧ (∃ x y, IsTupOf2 h TO x y) ∧ ItB b1 h i1 a i ∧ ItB b2 h i2 b i) where
  mem := List.mem_cons_self
  obj := fun i h st c hc => by
    obtain ⟨f1, f2, ⟨x, y, f3⟩, f4, f5⟩ := st
    simp only [List.mem_cons, List.not_mem_nil, or_false] at hc
    rcases hc with rfl | rfl | rfl | rfl | rfl
    · exact ⟨_, f1, fun v e => by cases e⟩
    · exact ⟨_, f2, fun v e => by cases e⟩
    · exact ⟨_, f3, fun v e => by cases e⟩
    · exact f4.ob
    · exact f5.ob
  keep := fun i h h' st kp => by
    obtain ⟨f1, f2, ⟨x, y, f3⟩, f4, f5⟩ := st
    exact ⟨kp z (by simp) _ f1, kp TI (by simp) _ f2, ⟨x, y, kp TO (by simp) _ f3⟩, f4.up (kp i1 (by simp)), f5.up (kp i2 (by simp))⟩
  item := by
    intro Y y1 y2 y3 hc i pn s σ H E I hf st gg
    subst y1 y2 y3
    obtain ⟨f1, f2, ⟨u0, v0, f3⟩, f4, f5⟩ := st
    obtain ⟨xs, ys, x, y, k1, k2, gx, gy⟩ := gg
    obtain ⟨m1, r1, p1⟩ := inB I k1
    obtain ⟨m2, r2, p2⟩ := inB I k2
    obtain ⟨u, hu, ru⟩ := r1.get gx
    obtain ⟨v, hv, rv⟩ := r2.get gy
    have w1 : m1.toArray[i]? = some u := by simpa using hu
    have w2 : m2.toArray[i]? = some v := by simpa using hv
    have n1 : i < m1.toArray.size := (Array.getElem?_eq_some_iff.mp w1).1
    have n2 : i < m2.toArray.size := (Array.getElem?_eq_some_iff.mp w2).1
    have zlt : z < s.heap.objs.size := Heap.lt_size f1
    have d1 := drB b1 (prog := Y.prog) (w := Y.w) (A := Y.A.in1) (I.ok.hd hc) i1 a D.l1i1 m1.toArray
    have d2 := drB b2 (prog := Y.prog) (w := Y.w) (A := Y.A.in1) (I.ok.hd hc) i2 b D.l2i2 m2.toArray
    refine wpAny_pyNext_zipD2_item (sepB D) d1 d2 f1 f2 f3 ⟨f4, p1⟩ ⟨f5, p2⟩ n1 n2 fun x1 x2 g tk e1 e2 z' O' q1 q2 T' sz kp => ?_
    rw [w1] at e1
    rw [w2] at e2
    cases e1
    cases e2
    refine ⟨_, rfl, wpAny_letOwnedTupleGo_zip (s := { s with heap := g, toks := tk }) z' fun g2 z2 sb => ?_⟩
    have T2 : IsTupOf2 g2 s.heap.objs.size u v := (sb.2 _ (Nat.ne_of_gt zlt)).trans T'
    have new : ObjOk Y.prog Y.w (upd H s.heap.objs.size (.tup [x, y])) g2 s.heap.objs.size (.tup [x, y]) := ⟨by show 2 ≤ sizeLine; decide, [u, v], .cons ru (.cons rv .nil), ⟨_, T2, rfl, _, rfl⟩⟩
    have kp2 : ∀ c o, c ∉ [z, TI, TO, i1, i2] → s.heap.get? c = some o → g2.get? c = some o := fun c o hb e => by
      simp only [List.mem_cons, List.not_mem_nil, or_false, not_or] at hb
      exact (sb.2 c hb.1).trans (kp c o hb.1 hb.2.2.1 hb.2.2.2.1 hb.2.2.2.2 e)
    have I1 : Inv Y pn σ (upd H s.heap.objs.size (.tup [x, y])) { s with heap := g2, toks := tk } := I.turnedNew (t' := tk) kp2 hf (Nat.le_refl _) new
    refine ⟨.ref s.heap.objs.size, _, I1, rfl, ⟨_, x, y, rfl, I.hok.fresh (Nat.le_refl _), rfl, fun l hl => by rw [injB I hl k1]; exact gx, fun l hl => by rw [injB I hl k2]; exact gy⟩, ⟨z2, (sb.2 _ D.TIz).trans (kp _ _ D.TIz D.TITO D.TIi1 D.TIi2 f2), ⟨u, v, (sb.2 _ D.TOz).trans O'⟩, q1.1.up fun o e => (sb.2 _ D.i1z).trans e, q2.1.up fun o e => (sb.2 _ D.i2z).trans e⟩, fun c hcm => ?_⟩
    have lt : c < s.heap.objs.size := by
      simp only [List.mem_cons, List.not_mem_nil, or_false] at hcm
      rcases hcm with rfl | rfl | rfl | rfl | rfl
      · exact zlt
      · exact Heap.lt_size f2
      · exact Heap.lt_size f3
      · obtain ⟨_, e, _⟩ := f4.ob; exact Heap.lt_size e
      · obtain ⟨_, e, _⟩ := f5.ob; exact Heap.lt_size e
    rw [upd_ne (Nat.ne_of_lt lt)]
    exact (hf c hcm).1
  done := by
    intro Y y1 y2 y3 hc i pn s σ H E I hf st gg
    subst y1 y2 y3
    obtain ⟨f1, f2, ⟨u0, v0, f3⟩, f4, f5⟩ := st
    obtain ⟨xs, ys, k1, k2, l1, l2, l3⟩ := gg
    obtain ⟨m1, r1, p1⟩ := inB I k1
    obtain ⟨m2, r2, p2⟩ := inB I k2
    have e1 : m1.toArray.size = xs.length := by rw [List.size_toArray]; exact r1.length.symm
    have e2 : m2.toArray.size = ys.length := by rw [List.size_toArray]; exact r2.length.symm
    have d1 := drB b1 (prog := Y.prog) (w := Y.w) (A := Y.A.in1) (I.ok.hd hc) i1 a D.l1i1 m1.toArray
    have d2 := drB b2 (prog := Y.prog) (w := Y.w) (A := Y.A.in1) (I.ok.hd hc) i2 b D.l2i2 m2.toArray
    refine wpAny_pyNext_zipD2_end (sepB D) d1 d2 f1 f2 f3 ⟨f4, p1⟩ ⟨f5, p2⟩ (by omega) (by omega) (by omega) fun g tk kp => ⟨rfl, I.turnedL (t' := tk) (ch := [z, TI, TO, i1, i2]) (fun c o hb e => ?_) hf⟩
    simp only [List.mem_cons, List.not_mem_nil, or_false, not_or] at hb
    exact kp c o hb.1 hb.2.2.1 hb.2.2.2.1 hb.2.2.2.2 e
  self := fun A0 j t R0 E0 f q => wpAny_pyIter_zip f.1 q
def iZipB (K : PySem.W.Frag) (ta : TA) : TI := fun σ H R => ta σ H fun vs H1 => ∃ b1 b2 a b xs ys, vs = [.ref a, .ref b] ∧ SqB b1 K H1 a xs ∧ SqB b2 K H1 b ys ∧ R (ItzB b1 b2 K a b) H1
theorem pi_zipB {X : Cx} {e e2 : Expr} {ta : TA} {p pos tpos : Pos} {elts : List Expr} {kk : Nat} (hg : Gl X "zip") (hm : X.mg "zip" = none) (ha : PA X [e, e2] ta)
    (h0 : starEach [e, e2] X.env = (false, eval e X.env) :: starEach [e2] X.env := by rfl) (h1 : (backTo pos (starEach [e2] X.env)).any (·.1) = false := by rfl) :
    PI X (.Tuple elts kk tpos) (.Call (.Name "zip" p) [e, e2] [] pos) (iZipB X.K ta) where
  run := fun pn s σ H R I h => by
    refine PyProof.Rows.Call_ (ld_blt I hg hm PyProof.Rows.boot_zip (PyProof.Rows.callWith_type1 (thn (ha.run pos pn s σ H _ I h) fun us t ⟨vs, G, I1, r1, q1⟩ => ?_) h0 h1))
    obtain ⟨b1, b2, a, b, xs, ys, rfl, k1, k2, q⟩ := q1
    obtain ⟨u, v, rfl, ru, rv⟩ : ∃ u v, us = [u, v] ∧ RelV (.ref a) u ∧ RelV (.ref b) v := by
      cases r1 with
      | cons r rr => cases rr with
        | cons r' rr => cases rr; exact ⟨_, _, rfl, r, r'⟩
    cases ru
    cases rv
    obtain ⟨m1, _, p1⟩ := inB I1 k1
    obtain ⟨m2, _, p2⟩ := inB I1 k2
    let N := t.heap.objs.size
    have fr : ∀ c, c ∈ [N + 4, N + 2, N + 3, N, N + 1] → FpOk X pn G c := fun c hcm => by
      have le : N ≤ c := by
        simp only [List.mem_cons, List.not_mem_nil, or_false] at hcm
        omega
      exact I1.fpOk le (I1.hok.fresh le)
    refine zip_begins2 (beB b1 a m1.toArray) (beB b2 b m2.toArray) p1 p2 fun g z1 z2 z3 z4 z5 sz kp => wpAny_pyIter_zip z1 ?_
    exact ⟨N + 4, [N + 4, N + 2, N + 3, N, N + 1], _, _, G, rfl, I1.kept (t' := t.toks) kp, turn_zipB (PySem.W.ktu_apart N a b p1.lt p2.lt), ⟨z1, z2, ⟨_, _, z3⟩, itB0 z4, itB0 z5⟩, fr, q⟩
section
variable {K : PySem.W.Frag} {mg : Gm}
def SqD (b : Bool) (K : PySem.W.Frag) (A : List Addr) (H : Hp) (a : Addr) (vs : List V) : Prop := match b with
  | true => SqX K A H a vs
  | false => a ∉ A ∧ H a = some (.tup vs)
theorem SqD.sq {b : Bool} {A : List Addr} {H : Hp} {a : Addr} {vs : List V} (h : SqD b K A H a vs) : SqB b K H a vs := by
  cases b
  · exact SqT.of (And.right h)
  · exact SqX.sql h
theorem SqD.mono {b : Bool} {A A' : List Addr} {H H' : Hp} {a : Addr} {vs : List V} (e : Ext A H A' H') (h : SqD b K A H a vs) : SqD b K A' H' a vs := by
  cases b
  · obtain ⟨n, q⟩ := h
    exact ⟨e.notin q n, e.keep _ _ q n⟩
  · exact SqX.mono e h
theorem jok_zipB {b1 b2 : Bool} {a b : Addr} {xs ys : List D} : JOk K mg (ItzB b1 b2 K a b) (pairD xs ys) none (fun A H S => (∃ vs, SqD b1 K A H a vs ∧ Reps K mg.m A H xs vs) ∧ ∃ ws, SqD b2 K A H b ws ∧ Reps K mg.m A H ys ws) where
  go := fun i A H S ⟨⟨vs, h, r⟩, ws, h', r'⟩ hi => by
    have l := pairD_length xs ys
    have n1 : i < vs.length := by have := r.length; omega
    have n2 : i < ws.length := by have := r'.length; omega
    exact ⟨vs, ws, vs[i], ws[i], h.sq, h'.sq, List.getElem?_eq_getElem n1, List.getElem?_eq_getElem n2⟩
  stop := fun A H S ⟨⟨vs, h, r⟩, ws, h', r'⟩ => ⟨vs, ws, h.sq, h'.sq, by have l := pairD_length xs ys; have := r.length; have := r'.length; omega⟩
  yld := fun i A H S x H' d hS hI hd hy => by
    obtain ⟨T, x1, y1, rfl, hT, rfl, e1, e2⟩ := hy
    obtain ⟨⟨vs, h, r⟩, ws, h', r'⟩ := hI
    obtain ⟨dx, dy, g1, g2, rfl⟩ := pairD_get hd
    obtain ⟨v, q1, rv⟩ := r.get g1
    obtain ⟨u, q2, ru⟩ := r'.get g2
    have f1 := e1 vs h.sq
    have f2 := e2 ws h'.sq
    rw [q1] at f1
    rw [q2] at f2
    cases f1
    cases f2
    have e := Ext.new (A := A) (o := .tup [x1, y1]) hT
    exact ⟨e, hS.new hT, ⟨⟨vs, h.mono e, Reps.mono e _ _ r⟩, ws, h'.mono e, Reps.mono e _ _ r'⟩, rep_pair hT (hS.free hT) rv ru⟩
  keep := fun A H S A' H' S' hS ⟨⟨vs, h, r⟩, ws, h', r'⟩ e _ _ => ⟨⟨vs, h.mono e, Reps.mono e _ _ r⟩, ws, h'.mono e, Reps.mono e _ _ r'⟩
end
section
variable {X : Cx} {W : WG} {e e2 a b : Expr} {fa : Env → M (List SV)} {p pos tpos : Pos} {elts : List Expr} {kk : Nat}
theorem di_zip (h : DA X W [e, e2] fa) (hg : Gl X "zip") (hm : X.mg "zip" = none) (hs : starEach [e, e2] X.env = (false, eval e X.env) :: starEach [e2] X.env := by rfl) (hpl : (backTo pos (starEach [e2] X.env)).any (·.1) = false := by rfl) :
    DI X W (.Tuple elts kk tpos) (.Call (.Name "zip" p) [e, e2] [] pos) (eArg walkZ fa) := by
  obtain ⟨ta, pa, ka⟩ := h
  refine ⟨_, pi_zipB hg hm pa hs hpl, iok_args (o := walkZ) (wk := fun vs H1 R => ∃ b1 b2 a b xs ys, vs = [.ref a, .ref b] ∧ SqB b1 X.K H1 a xs ∧ SqB b2 X.K H1 b ys ∧ R (ItzB b1 b2 X.K a b) H1) ka fun as vs σ H A S r S' hS hx he Rr hp => ?_⟩
  unfold walkZ at he
  split at he
  · rename_i x y
    obtain ⟨v, u, rfl, h1, h2⟩ := reps2 hx
    rcases q1 : seqD x with _ | ⟨b1, l1⟩
    · (try dsimp only at he); rw [q1] at he; cases he
    · rcases q2 : seqD y with _ | ⟨b2, l2⟩
      · (try dsimp only at he); rw [q1, q2] at he; cases he
      · (try dsimp only at he); rw [q1, q2] at he
        dsimp only at he
        rw [ite_self] at he
        cases he
        obtain ⟨a1, vs1, rfl, r1, f1, t1⟩ := seqD_rep (mg := gm X W) h1 q1
        obtain ⟨a2, vs2, rfl, r2, f2, t2⟩ := seqD_rep (mg := gm X W) h2 q2
        have s1 : SqD b1 X.K A H a1 vs1 := by
          cases b1
          · exact t1 rfl
          · exact f1 rfl
        have s2 : SqD b2 X.K A H a2 vs2 := by
          cases b2
          · exact t2 rfl
          · exact f2 rfl
        exact ⟨b1, b2, a1, a2, vs1, vs2, rfl, s1.sq, s2.sq, hp _ _ A H (Ext.refl A H) hS jok_zipB ⟨⟨vs1, s1, r1⟩, vs2, s2, r2⟩ trivial⟩
  · cases he
end
end DL
namespace DL
open PySem L2
open PySem.Calls (spliced_cons spliced_nil)
/-- the zip's cells, while what it gave out is kept in the list at q -/
def ZS (z TI TO i1 i2 a b q : Addr) (i : Nat) (h : Heap) : Prop := IsPair h TI (.ref i1) (.ref i2) ∧ h.IsListIter i1 a i ∧ h.IsListIter i2 b i ∧
  ((IsZip h z TI TO .none ∧ ∃ x y, IsPair h TO x y) ∨ ∃ T f oT, IsZipHeld h z TI TO T f ∧ h.get? T = some oT ∧ T ≠ z ∧ T ≠ i1 ∧ T ≠ i2 ∧ T ≠ q)
theorem ZS.keep {z TI TO i1 i2 a b q : Addr} {i : Nat} {h h' : Heap} (st : ZS z TI TO i1 i2 a b q i h) (hq : q ≠ z ∧ q ≠ TI ∧ q ≠ TO ∧ q ≠ i1 ∧ q ≠ i2) (k : ∀ c o, c ≠ q → h.get? c = some o → h'.get? c = some o) : ZS z TI TO i1 i2 a b q i h' := by
  obtain ⟨hTI, h1, h2, hz⟩ := st
  obtain ⟨q1, q2, q3, q4, q5⟩ := hq
  refine ⟨k _ _ (Ne.symm q2) hTI, h1.at fun o e => k _ o (Ne.symm q4) e, h2.at fun o e => k _ o (Ne.symm q5) e, ?_⟩
  rcases hz with ⟨hz, x, y, hTO⟩ | ⟨T, f, oT, hz, hT, r1, r2, r3, r4⟩
  · exact .inl ⟨k _ _ (Ne.symm q1) hz, x, y, k _ _ (Ne.symm q3) hTO⟩
  · exact .inr ⟨T, f, oT, k _ _ (Ne.symm q1) hz, k _ _ r4 hT, r1, r2, r3, r4⟩
theorem ZS.lt {z TI TO i1 i2 a b q : Addr} {i : Nat} {h : Heap} (st : ZS z TI TO i1 i2 a b q i h) : z < h.objs.size ∧ TI < h.objs.size ∧ i1 < h.objs.size ∧ i2 < h.objs.size := by
  obtain ⟨hTI, ⟨_, e1, _⟩, ⟨_, e2, _⟩, hz⟩ := st
  refine ⟨?_, Heap.lt_size hTI, Heap.lt_size e1, Heap.lt_size e2⟩
  rcases hz with ⟨hz, _⟩ | ⟨T, f, oT, hz, _⟩
  · exact Heap.lt_size hz
  · exact Heap.lt_size hz
end DL
namespace DL
open PySem L2
open PyProof.Rows (Call_)
end DL
namespace DL
open PySem L2
open PyProof.Rows (Call_)
theorem meets_enum_newV {v : Value} {o : Obj} {H : Heap → Prop} (B : Begins v o H) :
    Meets (Builtin.«enumerate.__new__» ⟨[.type "enumerate", v], []⟩) (fun _ R s => H s.heap ∧
      R (.ok (.ret (.ref (s.heap.push o).objs.size))) { s with heap := (s.heap.push o).push { cls := .type "enumerate", data := .fields #[.none, .bool false, .ref s.heap.objs.size, rawInt 0, .none, .none] } }) :=
  .of_wp fun prog w A R s h => by
    obtain ⟨hp, g, d, tk, os⟩ := s; obtain ⟨h1, h⟩ := h
    have hsub := sub_enumerate
    have q1 : ∀ {A' : Around} {E : Value → Shared → Prop} {Q : Value → Shared → Prop}, Q (.ref hp.objs.size) ⟨hp.push o, g, d, tk, os⟩ → wpAny (model prog w) A' (pyIter v) Q E ⟨hp, g, d, tk, os⟩ :=
      fun q => B.iter prog w _ _ ⟨hp, g, d, tk, os⟩ _ h1 q
    wp_walk using q1
    refine wpAny_stack_any fun st => wpAny_pure ?_
    split
    · rename_i c _ _ _ _ _
      cases (c == Value.type "enumerate")
      · wp_walk using q1
        exact ⟨_, rfl, h⟩
      · wp_walk using q1
        exact ⟨_, rfl, h⟩
    · wp_walk using q1
      exact ⟨_, rfl, h⟩
theorem call_enum_tup {prog : Program} {w : World} {A : Around} {E : Value → Shared → Prop} {s : Shared} {t : Addr} {items : Array Value} {Q : Value → Shared → Prop} (ht : s.heap.IsTuple t items)
    (h : ∀ h', IsEnum h' (s.heap.objs.size + 1) s.heap.objs.size 0 .none → h'.IsTupleIter s.heap.objs.size t 0 → h'.objs.size = s.heap.objs.size + 2 →
      (∀ b o, s.heap.get? b = some o → h'.get? b = some o) → Q (.ref (s.heap.objs.size + 1)) { s with heap := h' }) :
    wpAny (model prog w) A (call (.type "enumerate") [.ref t]) Q E s := by
  refine callType_new F.called_enumerate (by decide) (F.typeCall_enumerate_1 _) (F.newCall_enumerate_1 _) (fun obj => F.args_object_init_2 obj _) F.entry_enumerate_new
    (meets_enum_newV (begins_tuple t items)) ⟨ht, ?_⟩
  have hz : (s.heap.push { cls := .type "tuple_iterator", data := .fields #[.ref t, .int 0 0] }).objs.size = s.heap.objs.size + 1 := Heap.size_push ..
  show _ ∧ _
  rw [hz]
  have he : IsEnum ((s.heap.push { cls := .type "tuple_iterator", data := .fields #[.ref t, .int 0 0] }).push { cls := .type "enumerate", data := .fields #[.none, .bool false, .ref s.heap.objs.size, rawInt 0, .none, .none] }) (s.heap.objs.size + 1) s.heap.objs.size 0 .none := by
    have := Heap.get?_push_size (s.heap.push { cls := .type "tuple_iterator", data := .fields #[.ref t, .int 0 0] }) (o := { cls := .type "enumerate", data := .fields #[.none, .bool false, .ref s.heap.objs.size, rawInt 0, .none, .none] }) rfl
    rw [hz] at this; exact this
  exact ⟨⟨_, he, rfl⟩, h _ he ⟨_, Heap.get?_push_of_some _ (Heap.get?_push_size _ rfl), rfl, rfl⟩ (by rw [Heap.size_push, hz]) fun b o x => Heap.get?_push_of_some _ (Heap.get?_push_of_some _ x)⟩
def IteT (K : PySem.W.Frag) (a : Addr) : It :=
  ⟨fun i H => ∃ (xs : List V) (x : V), SqT K H a xs ∧ xs[i]? = some x, fun i H v H' => ∃ T x, v = .ref T ∧ H T = none ∧ H' = upd H T (.tup [.int (i : Nat), x]) ∧ ∀ xs, SqT K H a xs → xs[i]? = some x, fun i H => ∃ xs : List V, SqT K H a xs ∧ xs.length ≤ i⟩
theorem turn_enumT {P : Program} {w : World} {K : PySem.W.Frag} {elts : List Expr} {kk : Nat} {tpos : Pos} (a e it : Addr) (hai : a ≠ it) (hae : a ≠ e) :
    Turn P w K (.Tuple elts kk tpos) (IteT K a) [e, it] e (fun i h => (∃ old, IsEnum h e it ((i : Nat) : Int) old) ∧ h.IsTupleIter it a i ∧ e ≠ it) where
  mem := by simp
  obj := fun i h st b hb => by
    obtain ⟨⟨old, he⟩, ⟨o, ho, hc, hd⟩, _⟩ := st
    have e' : b = e ∨ b = it := by simpa using hb
    rcases e' with z | z
    · rw [z]; exact ⟨_, he, fun v q => nomatch q⟩
    · rw [z]; exact ⟨o, ho, fun v q => by rw [hd] at q; cases q⟩
  keep := fun i h h' st k => let ⟨⟨old, he⟩, hi, hne⟩ := st; ⟨⟨old, k e (by simp) _ he⟩, hi.at fun o q => k it (by simp) o q, hne⟩
  item := by
    intro X hP hw hK hc i pins s σ H E I hf st hg
    subst hP hw hK
    obtain ⟨⟨old, he⟩, hit, hne⟩ := st
    obtain ⟨xs, x, hq, hx⟩ := hg
    obtain ⟨its, rv, p, hz⟩ := I.tuple hq
    obtain ⟨u, hu, ru⟩ := rv.get hx
    have hel : e < s.heap.objs.size := Heap.lt_size he
    have hil : it < s.heap.objs.size := by obtain ⟨_, q, _⟩ := hit; exact Heap.lt_size q
    have p' : s.heap.IsTuple a its.toArray := p
    refine wpAny_pyNext_enum_itemD (Draws.tuple (show X.A.in1.handled = none from I.ok.hd hc) it a hai its.toArray) he ⟨hit, p'⟩ (by have := (List.getElem?_eq_some_iff.mp hu).1; simpa using this) hne (fun hm => by
      rcases List.mem_cons.mp hm with z | z
      · exact hne z
      · exact hae (List.mem_singleton.mp z).symm) fun x' h' tk hPx ho hit' hT hsz hk => ?_
    have hxu : x' = u := by
      have h1 : its.toArray[i]? = some x' := hPx
      have h2 : its.toArray[i]? = some u := by simpa using hu
      rw [h1] at h2; exact Option.some.inj h2
    subst hxu
    refine ⟨_, rfl, wpAny_letOwnedTupleGo_enum (s := { s with heap := h', toks := tk + 1 }) ho fun h'' he' sb => ?_⟩
    have hT2 : h''.get? s.heap.objs.size = some { cls := .type "tuple", data := .seq #[.int i tk, x'] } := (sb.2 _ (Nat.ne_of_gt hel)).trans hT
    have new : ObjOk X.prog X.w (upd H s.heap.objs.size (.tup [.int (i : Nat), x])) h'' s.heap.objs.size (.tup [.int (i : Nat), x]) :=
      ⟨by show 2 ≤ sizeLine; decide, [.int i tk, x'], .cons ⟨_, rfl⟩ (.cons ru .nil), ⟨_, hT2, rfl, _, rfl⟩⟩
    have I1 : Inv X pins σ (upd H s.heap.objs.size (.tup [.int (i : Nat), x])) { s with heap := h'', toks := tk + 1 } :=
      I.turnedNew (ch := [e, it]) (fun b ob hb q => (sb.2 b (fun z => hb (by simp [z]))).trans (hk b ob (fun z => hb (by simp [z])) (fun z => hb (by simp [z])) q)) hf (Nat.le_refl _) new
    refine ⟨.ref s.heap.objs.size, _, I1, rfl, ⟨_, x, rfl, I.hok.fresh (Nat.le_refl _), rfl, fun ys hy => by rw [I.tuple_inj hy hq]; exact hx⟩, ⟨⟨x', ?_⟩, hit'.1.at fun o q => (sb.2 it (Ne.symm hne)).trans q, hne⟩, fun b hb => ?_⟩
    · have e1 : ((i + 1 : Nat) : Int) = (i : Int) + 1 := by omega
      rw [e1]; exact he'
    · have hb' : b < s.heap.objs.size := by
        have e' : b = e ∨ b = it := by simpa using hb
        rcases e' with z | z
        · rw [z]; exact hel
        · rw [z]; exact hil
      rw [upd_ne (Nat.ne_of_lt hb')]
      exact (hf b hb).1
  done := by
    intro X hP hw hK hc i pins s σ H E I hf st hg
    subst hP hw hK
    obtain ⟨⟨old, he⟩, hit, hne⟩ := st
    obtain ⟨xs, hq, hx⟩ := hg
    obtain ⟨its, rv, p, hz⟩ := I.tuple hq
    obtain ⟨f0, f1, f2, f3, f4, f5⟩ := hf it (by simp)
    have hl := rv.length
    have p' : s.heap.IsTuple a its.toArray := p
    have none' : its.toArray[i]? = none := by simp; omega
    have hT : s.TypeIs (.ref e) "enumerate" := ⟨_, he, rfl⟩
    unfold pyNext
    refine wpAny_bind (wpAny_attempt (wpAny_callSpecial?_slot (name := Str.ofString "__next__") hT F.slot_enumerate_next
      (wpAny_call_entry F.slot_enumerate_next hT F.entry_enumerate_next ?_ (F.args_enumerate_next_1 _))))
    show wpAny _ _ (field (.ref e) 2 >>= _) _ _ _
    refine wpAny_bind (wpAny_field he rfl (x := .ref it) rfl ?_)
    refine wpAny_bind (wpAny_nextOf_tuple_end (show X.A.in1.handled = none from I.ok.hd hc) hit p' none' fun h' x eb hx' => ?_)
    obtain ⟨o, ho, hcc⟩ := hx'
    refine wpAny_bind (wpAny_isInstance (T := "StopIteration") (b := true) ⟨o, ho, hcc⟩ isSubtype_stop ?_)
    exact wpAny_pure ⟨rfl, I.turned (t' := s.toks) (fun b o hb q => eb b o hb q) f0 f1 f3 f4 f5⟩
  self := fun A i s Q E st h => let ⟨⟨_, he⟩, _⟩ := st; wpAny_pyIter_enum he h
/-- enumerate of a list or a tuple -/
theorem pi_enumA {X : Cx} {e : Expr} {ta : TA} {p pos tpos : Pos} {elts : List Expr} {kk : Nat} (hg : Gl X "enumerate") (hm : X.mg "enumerate" = none) (ha : PA X [e] ta) (hs : starEach [e] X.env = [(false, eval e X.env)] := by rfl) :
    PI X (.Tuple elts kk tpos) (.Call (.Name "enumerate" p) [e] [] pos) (fun σ H R => ta σ H fun vs H1 => ∃ a xs, vs = [.ref a] ∧ ((SqL X.K H1 a xs ∧ R (Ite X.K a) H1) ∨ (SqT X.K H1 a xs ∧ R (IteT X.K a) H1))) := by
  refine ⟨fun pins s σ H R I h => ?_⟩
  refine Call_ (ld_blt I hg hm PyProof.Rows.boot_enumerate (PyProof.Rows.callWith_type1 (thn (ha.run pos pins s σ H _ I h) fun us s1 ⟨vs, H1, I1, r1, q1⟩ => ?_) hs rfl))
  obtain ⟨a, xs, ex, q1⟩ := q1
  subst ex
  cases r1 with
  | cons r rr =>
    cases rr
    cases r
    have fp : ∀ b ∈ [s1.heap.objs.size + 1, s1.heap.objs.size], FpOk X pins H1 b := fun b hb => by
      have e' : b = s1.heap.objs.size + 1 ∨ b = s1.heap.objs.size := by simpa using hb
      have hle : s1.heap.objs.size ≤ b := by
        rcases e' with z | z
        · rw [z]; exact Nat.le_add_right _ _
        · rw [z]; exact Nat.le_refl _
      exact I1.fpOk hle (I1.hok.fresh hle)
    rcases q1 with ⟨hq, q⟩ | ⟨hq, q⟩
    · obtain ⟨its, rv, p', hz⟩ := I1.list hq
      refine call_enumerate_list p'.isList fun h' he hit hsz hk => wpAny_pyIter_enum he ?_
      have I2 : Inv X pins σ H1 { s1 with heap := h' } := I1.kept (t' := s1.toks) hk
      exact ⟨s1.heap.objs.size + 1, [s1.heap.objs.size + 1, s1.heap.objs.size], _, _, H1, rfl, I2, turn_enum a (s1.heap.objs.size + 1) s1.heap.objs.size, ⟨⟨.none, he⟩, hit, Nat.succ_ne_self _⟩, fp, q⟩
    · obtain ⟨its, rv, p', hz⟩ := I1.tuple hq
      have pT : s1.heap.IsTuple a its.toArray := p'
      obtain ⟨o1, ho1, _⟩ := id pT
      have hal : a < s1.heap.objs.size := Heap.lt_size ho1
      refine call_enum_tup pT fun h' he hit hsz hk => wpAny_pyIter_enum he ?_
      have I2 : Inv X pins σ H1 { s1 with heap := h' } := I1.kept (t' := s1.toks) hk
      exact ⟨s1.heap.objs.size + 1, [s1.heap.objs.size + 1, s1.heap.objs.size], _, _, H1, rfl, I2, turn_enumT a (s1.heap.objs.size + 1) s1.heap.objs.size (Nat.ne_of_lt hal) (Nat.ne_of_lt (Nat.lt_succ_of_lt hal)), ⟨⟨.none, he⟩, hit, Nat.succ_ne_self _⟩, fp, q⟩
end DL
namespace DL
open PySem L2
def enumD : Nat → List D → List D
  | _, [] => []
  | i, x :: xs => .tup [.int (i : Nat), x] :: enumD (i + 1) xs
theorem enumD_length : ∀ (i : Nat) (xs : List D), (enumD i xs).length = xs.length
  | _, [] => rfl
  | i, x :: xs => by simp [enumD, enumD_length (i + 1) xs]
theorem enumD_get : ∀ {xs : List D} {k i : Nat} {d : D}, (enumD k xs)[i]? = some d → ∃ x, xs[i]? = some x ∧ d = .tup [.int ((k + i : Nat) : Int), x]
  | [], k, i, d, h => by simp [enumD] at h
  | x :: xs, k, 0, d, h => by simp [enumD] at h; exact ⟨x, rfl, by simpa using h.symm⟩
  | x :: xs, k, i + 1, d, h => by
    simp only [enumD, List.getElem?_cons_succ] at h ⊢
    obtain ⟨y, h1, h2⟩ := enumD_get h
    refine ⟨y, h1, ?_⟩
    have e : k + 1 + i = k + (i + 1) := by omega
    rw [e] at h2
    exact h2
end DL
namespace DL
open PySem L2
section
variable {X : Cx} {W : WG} {e e2 a b o i : Expr} {f g fo fi fe : Env → M SV} {fa : Env → M (List SV)} {p pos pos2 tpos apos cpos : Pos}
def firstEq (d : D) : List D → Nat → Option Nat
  | [], _ => none
  | z :: zs, i => if eqD z d = true then some i else firstEq d zs (i + 1)
theorem toPys_get : ∀ {l : List D} {i : Nat}, (toPys l)[i]? = (l[i]?).map toPy
  | [], i => by simp [toPys]
  | x :: l, 0 => by simp [toPys]
  | x :: l, i + 1 => by simp only [toPys, List.getElem?_cons_succ]; exact toPys_get
theorem firstEq_ok {d : D} : ∀ {l : List D} {i j : Nat}, firstEq d l i = some j → ∃ m z, j = i + m ∧ l[m]? = some z ∧ eqD z d = true ∧ ∀ k z', k < m → l[k]? = some z' → eqD z' d = false
  | [], i, j, h => by cases h
  | x :: l, i, j, h => by
    unfold firstEq at h
    by_cases c : eqD x d = true
    · rw [if_pos c] at h
      cases h
      exact ⟨0, x, rfl, rfl, c, fun k z' hk => absurd hk (Nat.not_lt_zero _)⟩
    · rw [if_neg c] at h
      obtain ⟨m, z, h1, h2, h3, h4⟩ := firstEq_ok h
      refine ⟨m + 1, z, by omega, by simpa using h2, h3, fun k z' hk hz => ?_⟩
      cases k with
      | zero =>
        simp at hz
        subst hz
        cases e : eqD x d
        · rfl
        · exact absurd e c
      | succ k => exact h4 k z' (by omega) (by simpa using hz)
def isL (x : SV) : M SV := fun S => match deref S x with
  | some (.lst l) => if plain (.lst l) = true then some (.ok x, S) else none
  | _ => none
def oIndex (x y : SV) : M SV := fun S => match deref S x, deref S y with
  | some (.lst l), some d => if eqOk (.lst l) d = true then match firstEq d l 0 with
    | some j => some (.ok (.d (.int (j : Nat))), S)
    | none => none else none
  | _, _ => none
def eIndex (fo fe : Env → M SV) : Env → M SV := fun env => bnd (bnd (fo env) isL) fun x => bnd (fe env) fun y => oIndex x y
theorem de_index {kr : Nat} (hr : Room kr X.A) (ho : DE X W o fo) (he : DE X W e fe) (hs : starEach [e] X.env = (false, eval e X.env) :: starEach [] X.env := by rfl)
    (hbase : attributeBase o "index" X.env (eval o X.env) = eval o X.env := by rfl)
    (hfew : ((backTo cpos (starEach [e] X.env)).all (fun x => !x.1) && (backToKw cpos (keywordEach [] X.env)).all (fun x => x.1.isSome)
      && decide (([e] : List Expr).length + ([] : List Keyword).length + (if ([] : List Keyword).isEmpty then 0 else 1) < 30)) = true := by rfl)
    (hline : (apos.endLine == cpos.line) = true := by rfl) (hplain : (backTo cpos (starEach [] X.env)).any (·.1) = false := by rfl) :
    DE X W (.Call (.Attribute o "index" apos) [e] [] cpos) (eIndex fo fe) := by
  have hu : X.A.units + 65 < cLine := by have := hr.un; omega
  obtain ⟨to, po, ko⟩ := ho
  obtain ⟨te, pe, ke⟩ := he
  refine ⟨_, pe_bm PySem.F.plainAttrs_list PySem.F.slot_list_index PySem.F.type_list_index (mt_indexD hu) po (pa_cons pe pa_nil hs) hbase hfew hline hs hplain, ?_⟩
  intro σ H A S env r S' hS hE he Q hp
  have lstOf : ∀ {A1 : List Addr} {H1 : Hp} {S1 : Store} {x : SV} {vv : V} {l : List D}, Sta X.K (gm X W) A1 H1 S1 → RepS X.K (gm X W) A1 H1 x vv → deref S1 x = some (.lst l) → plain (.lst l) = true → ∃ aa xs, vv = .ref aa ∧ SqL X.K H1 aa xs ∧ Dp X.K H1 (.ref aa) (.list (toPys l)) := fun {A1 H1 S1 x vv l} s1 r1 ed hpl => by
    have dp := deref_rep s1 r1 ed hpl
    simp only [toPy] at dp
    cases dp with
    | lst h1 h2 => exact ⟨_, _, rfl, h1, .lst h1 h2⟩
  rcases bnd_some he with ⟨x1, S1, ef, q⟩ | ⟨c, fs, l, ef, rfl⟩
  · rcases bnd_some ef with ⟨x0, S0, ef0, ef1⟩ | ⟨_, _, _, _, z⟩
    · refine ko σ H A S env _ S0 hS hE ef0 _ fun vo A1 H1 e1 s1 r1 => ?_
      unfold isL at ef1
      split at ef1
      · rename_i l ed
        by_cases hpl : plain (.lst l) = true
        · rw [if_pos hpl] at ef1
          cases ef1
          obtain ⟨aa, xs, rfl, sq, _⟩ := lstOf s1 r1 ed hpl
          refine ⟨.inl ⟨rfl, xs, sq⟩, ?_⟩
          rcases bnd_some q with ⟨y1, S2, ef2, ef3⟩ | ⟨c, fs, l, ef2, rfl⟩
          · refine ke σ H1 A1 S1 env _ S2 s1 (hE.mono e1) ef2 _ fun vy A2 H2 e2 s2 r2 => ?_
            have r1b := RepS.mono (x := x1) e2 r1
            unfold oIndex at ef3
            split at ef3
            · rename_i l2 d ed1 ed2
              by_cases c : eqOk (.lst l2) d = true
              · rw [if_pos c] at ef3
                rcases ej : firstEq d l2 0 with _ | j
                · rw [ej] at ef3; cases ef3
                · rw [ej] at ef3
                  cases ef3
                  simp only [eqOk, Bool.and_eq_true] at c
                  obtain ⟨aa', xs', ea, sq', dp⟩ := lstOf s2 r1b ed1 c.1
                  cases ea
                  obtain ⟨m, z, h1, h2, h3, h4⟩ := firstEq_ok ej
                  rw [Nat.zero_add] at h1
                  subst h1
                  have sh := c.2.2.1
                  simp only [toPy] at sh
                  refine ⟨aa, vy, toPy d, toPys l2, j, toPy z, rfl, rfl, dp, deref_rep s2 r2 ed2 c.2.1, sh, c.2.2.2, by rw [toPys_get, h2]; rfl, h3, fun k z' hk hz => ?_, ?_⟩
                  · rw [toPys_get] at hz
                    rcases ez : l2[k]? with _ | y
                    · rw [ez] at hz; cases hz
                    · rw [ez] at hz
                      cases hz
                      exact h4 k y hk ez
                  · exact hp _ A2 H2 (e1.trans e2) s2 (show Rep X.K X.mg A2 H2 (.int (j : Nat)) _ by simp only [Rep])
              · rw [if_neg c] at ef3; cases ef3
            · cases ef3
          · exact ke σ H1 A1 S1 env _ _ s1 (hE.mono e1) ef2 _ fun C dd A' H' hc e s r => hp C dd A' H' hc (e1.trans e) s r
        · rw [if_neg hpl] at ef1; cases ef1
      · cases ef1
    · cases z
  · rcases bnd_some ef with ⟨x0, S0, ef0, ef1⟩ | ⟨_, _, _, ef0, z⟩
    · unfold isL at ef1
      split at ef1
      · rename_i l ed
        by_cases hpl : plain (.lst l) = true
        · rw [if_pos hpl] at ef1; cases ef1
        · rw [if_neg hpl] at ef1; cases ef1
      · cases ef1
    · cases z
      exact ko σ H A S env _ _ hS hE ef0 _ fun C dd A' H' hc e s r => hp C dd A' H' hc e s r
def oListRg (x : SV) : M SV := match x with
  | .d (.int n) => if 0 ≤ n ∧ n ≤ 1000000 then ret (.d (.lst (rangeD 0 n.toNat))) else stuck
  | _ => stuck
theorem reps_rg {K : PySem.W.Frag} {mg : Str → Option Value} {A : List Addr} {H : Hp} (lo : Int) : ∀ l : List Nat, Reps K mg A H (l.map fun i => D.int (lo + (i : Nat))) (l.map fun i => V.int (lo + (i : Nat)))
  | [] => by simp only [List.map_nil, Reps]
  | i :: l => by
    rw [List.map_cons, List.map_cons]
    simp only [Reps]
    exact ⟨_, _, rfl, by simp only [Rep], reps_rg lo l⟩
theorem de_listRg (hc : X.calm = true) (hg : Gl X "list") (hm : X.mg "list" = none) (hg2 : Gl X "range") (hm2 : X.mg "range" = none) (ha : DE X W a f)
    (na : starEach [a] X.env = (false, eval a X.env) :: starEach [] X.env := by rfl) (na2 : starEach [.Call (.Name "range" pos2) [a] [] tpos] X.env = (false, eval (.Call (.Name "range" pos2) [a] [] tpos) X.env) :: starEach [] X.env := by rfl) :
    DE X W (.Call (.Name "list" p) [.Call (.Name "range" pos2) [a] [] tpos] [] pos) (eUn oListRg f) := by
  obtain ⟨ta, pa, ka⟩ := ha
  refine ⟨_, pe_listRg hc hg hm (prg_1 hg2 hm2 pa na) na2, ?_⟩
  refine tbind (rel := relS X.K (gm X W)) (rel2 := relS X.K (gm X W)) (g := fun _ x => oListRg x) (tk := fun x _ H1 Q => ∃ n, x = .int n ∧ (RgOk 0 n ∧ ∀ q, H1 q = none → Q (.ref q) (upd H1 q (.lst (rgV 0 n))))) ka fun a v σ H A S env r S' hS hE hx he Q hp => ?_
  unfold oListRg at he
  split at he
  · rename_i n
    by_cases c : 0 ≤ n ∧ n ≤ 1000000
    · rw [if_pos c] at he
      cases he
      have h1 : Rep X.K X.mg A H (.int n) v := hx
      simp only [Rep] at h1
      refine ⟨n, h1, RgOk.of_le (by omega) (by omega) (by omega) (by omega), fun q hq => hp.new hS hq ?_⟩
      simp only [Rep]
      refine ⟨q, _, rfl, hS.free hq, upd_same, Reps.mono (Ext.new hq) _ _ ?_⟩
      unfold rangeD rgV
      rw [show (n - 0).toNat = n.toNat by rw [Int.sub_zero]]
      exact reps_rg 0 _
    · rw [if_neg c] at he; cases he
  · cases he
end
section
variable {K : PySem.W.Frag} {mg : Gm}
theorem RepSs.get {A : List Addr} {H : Hp} : ∀ {ds : List SV} {vs : List V} {i : Nat} {d : SV}, RepSs K mg A H ds vs → ds[i]? = some d → ∃ v, vs[i]? = some v ∧ RepS K mg A H d v
  | [], vs, i, d, h, e => by simp at e
  | x :: ds, vs, 0, d, h, e => by
    obtain ⟨v, vs', rfl, h1, h2⟩ := h
    simp at e
    subst e
    exact ⟨v, rfl, h1⟩
  | x :: ds, vs, i + 1, d, h, e => by
    obtain ⟨v, vs', rfl, h1, h2⟩ := h
    exact RepSs.get (i := i) h2 (by simpa using e)
end
end DL
namespace DL
open PySem L2
section
variable {X : Cx} {W : WG} {e e2 a b o i : Expr} {f g fo fi fe : Env → M SV} {fa : Env → M (List SV)} {p pos pos2 tpos apos cpos : Pos} {st : Stmt} {es : List Expr}
def sMut (g : List D → List SV → Option (List D)) (fo : Env → M SV) (fa : Env → M (List SV)) : SM := fun env => lift env (bnd (bnd (fo env) asPtr) fun k => bnd (fa env) fun v => ret (k, v)) fun q S => match cellC S q.1 with
  | some l => match g l q.2 with
    | some l' => some (.nx env, S.set q.1 l')
    | none => none
  | none => none
end
end DL
namespace DL
open PySem L2 PySem.Spec PyProof.Rows
section
variable {X : Cx} {W : WG} {e a o : Expr} {f fo : Env → M SV} {p pos tpos : Pos}
def sSetAll (fo fe : Env → M SV) : SM := fun env => lift env (bnd (fe env) fun v => bnd (bnd (fo env) asPtr) fun k => ret (v, k)) fun q S => match q with
  | (.d (.lst ys), k) => match S[k]? with
    | some xs => if xs.length + ys.length ≤ lim then some (.nx env, S.set k ys) else none
    | none => none
  | _ => none
end
end DL
namespace DL
open PySem L2
structure Oth (K : PySem.W.Frag) (mg : Str → Option Value) (C : Addr) (c' : Str) (C' : Addr) : Prop where
  g : mg c' = some (.ref C')
  i : IsC K C'
  ns : PySem.W.subIn K (.ref C') (.ref C) = some false
  ne : (Value.ref C' == Value.ref C) = false
theorem Oth.kt {K : PySem.W.Frag} {mg : Str → Option Value} {C C' : Addr} {c' : Str} (o : Oth K mg C c' C') (i : IsC K C) : PySem.W.kitOne K (.ref C') (.ref C) = some false := by
  have e5 : (PySem.W.clsIn K C).isSome = true := i.jC
  have e6 : ((Value.ref C') == (Value.ref C)) = false := o.ne
  unfold PySem.W.kitOne PySem.W.kitCls
  simp [e5, e6, i.tC, o.ns]
end DL
namespace DL
open PySem L2
def mergeT (kvs more : List (List L2.Key × V)) : List (List L2.Key × V) := more.foldl (fun acc kv => putK acc kv.1 kv.2) kvs
theorem KT.merge {H : Hp} : ∀ {more : List (List L2.Key × V)} {ps : List (List L2.Key × Addr × Value)} {kvs : List (List L2.Key × V)} {xs : List (List L2.Key × Addr × Value)}, KT H more ps → KT H kvs xs → KT H (mergeT kvs more) (storedAllH xs ps) := by
  intro more ps kvs xs h
  induction h generalizing kvs xs with
  | nil => exact fun h => h
  | @cons p q r s hq t ih =>
    intro h2
    obtain ⟨e, hb, rv⟩ := hq
    have z := h2.put p.1 hb rv
    have := ih z
    rw [e] at this
    show KT H (mergeT (putK kvs p.1 p.2) r) (storedAllH (storedH xs q.1 q.2.1 q.2.2) s)
    rw [e]
    exact this
end DL
namespace DL
open PySem L2
def key1 : D → Option L2.Key
  | .int i => some (.inl i)
  | .str s => some (.inr s)
  | _ => none
def keyL : List D → Option (List L2.Key)
  | [] => some []
  | d :: r => match key1 d, keyL r with
    | some a, some b => some (a :: b)
    | _, _ => none
abbrev KD := List (List L2.Key × D)
def valD (l : KD) (k : List L2.Key) : Option D := (l.find? fun kv => decide (kv.1 = k)).map (·.2)
def putD' (l : KD) (k : List L2.Key) (d : D) : KD := if (l.any fun kv => decide (kv.1 = k)) = true then l.map (fun kv => if kv.1 = k then (kv.1, d) else kv) else l ++ [(k, d)]
def mergeD (l more : KD) : KD := more.foldl (fun acc kv => putD' acc kv.1 kv.2) l
section
variable {K : PySem.W.Frag} {mg : Str → Option Value} {A : List Addr} {H : Hp}
theorem keyL_rep : ∀ {l : List D} {vs : List V} {ks : List L2.Key}, Reps K mg A H l vs → keyL l = some ks → vs = ks.map kV
  | [], vs, ks, h, e => by
    simp only [Reps] at h
    cases e
    rw [h]; rfl
  | d :: l, vs, ks, h, e => by
    simp only [Reps] at h
    obtain ⟨v, r, rfl, h1, h2⟩ := h
    unfold keyL at e
    split at e
    · rename_i a b ea eb
      cases e
      rw [keyL_rep h2 eb, List.map_cons]
      have : v = kV a := by
        cases d <;> first | cases ea | skip
        · simp only [Rep] at h1; rw [h1]; rfl
        · simp only [Rep] at h1; rw [h1]; rfl
      rw [this]
    · cases e
/-- the entries and what they stand for -/
abbrev KR (K : PySem.W.Frag) (mg : Str → Option Value) (A : List Addr) (H : Hp) : KD → List (List L2.Key × V) → Prop := Paired fun p q => p.1 = q.1 ∧ Rep K mg A H p.2 q.2
theorem KR.any {l : KD} {kvs : List (List L2.Key × V)} (h : KR K mg A H l kvs) (k : List L2.Key) : (l.any fun kv => decide (kv.1 = k)) = (kvs.any fun kv => decide (kv.1 = k)) := by
  induction h with
  | nil => rfl
  | cons h t ih => rw [List.any_cons, List.any_cons, ih, h.1]
theorem KR.repl {l : KD} {kvs : List (List L2.Key × V)} (h : KR K mg A H l kvs) (k : List L2.Key) {d : D} {v : V} (r : Rep K mg A H d v) : KR K mg A H (l.map fun kv => if kv.1 = k then (kv.1, d) else kv) (kvs.map fun kv => if kv.1 = k then (kv.1, v) else kv) := by
  induction h with
  | nil => exact .nil
  | @cons p q ps qs h t ih =>
    rw [List.map_cons, List.map_cons]
    refine .cons ?_ ih
    by_cases e : p.1 = k
    · rw [if_pos e, if_pos (h.1.symm.trans e)]; exact ⟨h.1, r⟩
    · rw [if_neg e, if_neg (fun z => e (h.1.trans z))]; exact h
theorem KR.put {l : KD} {kvs : List (List L2.Key × V)} (h : KR K mg A H l kvs) (k : List L2.Key) {d : D} {v : V} (r : Rep K mg A H d v) : KR K mg A H (putD' l k d) (putK kvs k v) := by
  unfold putD' putK
  rw [h.any k]
  by_cases e : (kvs.any fun kv => decide (kv.1 = k)) = true
  · rw [if_pos e, if_pos e]; exact h.repl k r
  · rw [if_neg e, if_neg e]; exact Paired.snoc h ⟨rfl, r⟩
theorem KR.merge {more : KD} {ms : List (List L2.Key × V)} (h : KR K mg A H more ms) : ∀ {l : KD} {kvs : List (List L2.Key × V)}, KR K mg A H l kvs → KR K mg A H (mergeD l more) (mergeT kvs ms) := by
  induction h with
  | nil => exact fun h => h
  | @cons p q ps qs h t ih =>
    intro l kvs h2
    have z := h2.put p.1 h.2
    rw [h.1] at z
    have := ih z
    show KR K mg A H (mergeD (putD' l p.1 p.2) ps) (mergeT (putK kvs q.1 q.2) qs)
    rw [h.1]
    exact this
theorem KR.val {l : KD} {kvs : List (List L2.Key × V)} (h : KR K mg A H l kvs) (k : List L2.Key) : (∀ d, valD l k = some d → ∃ v, valV kvs k = some v ∧ Rep K mg A H d v) ∧ (valD l k = none → valV kvs k = none) := by
  induction h with
  | nil => exact ⟨fun d e => by simp [valD] at e, fun _ => rfl⟩
  | @cons p q ps qs h t ih =>
    by_cases e : p.1 = k
    · have e' : q.1 = k := h.1.symm.trans e
      have a : valD (p :: ps) k = some p.2 := by simp [valD, List.find?_cons, e]
      rw [a, valV_pos e']
      exact ⟨fun d z => by cases z; exact ⟨_, rfl, h.2⟩, fun z => by cases z⟩
    · have e' : ¬ q.1 = k := fun z => e (h.1.trans z)
      have a : valD (p :: ps) k = valD ps k := by simp [valD, List.find?_cons, e]
      rw [a, valV_neg e']
      exact ih
theorem zip_self' {α β : Type} : ∀ l : List (α × β), (l.map (·.1)).zip (l.map (·.2)) = l
  | [] => rfl
  | p :: l => by rw [List.map_cons, List.map_cons, List.zip_cons_cons, zip_self' l]
theorem KR.of : ∀ {ks : List (List L2.Key)} {l : List D} {vs : List V}, ks.length = vs.length → Reps K mg A H l vs → KR K mg A H (ks.zip l) (ks.zip vs)
  | [], l, vs, _, _ => by rw [List.zip_nil_left, List.zip_nil_left]; exact .nil
  | k :: ks, [], vs, e, h => by simp only [Reps] at h; subst h; simp at e
  | k :: ks, d :: l, vs, e, h => by
    simp only [Reps] at h
    obtain ⟨v, r, rfl, h1, h2⟩ := h
    rw [List.zip_cons_cons, List.zip_cons_cons]
    exact .cons ⟨rfl, h1⟩ (KR.of (by simpa using e) h2)
theorem KR.mono {A' : List Addr} {H' : Hp} (x : Ext A H A' H') {l : KD} {kvs : List (List L2.Key × V)} (h : KR K mg A H l kvs) : KR K mg A' H' l kvs := by
  induction h with
  | nil => exact .nil
  | cons h t ih => exact .cons ⟨h.1, Rep.mono x _ _ h.2⟩ ih
end
section
variable {X : Cx} {W : WG} {e e2 a b o i : Expr} {f g fo fi fe : Env → M SV} {fa : Env → M (List SV)} {p pos pos2 tpos apos cpos : Pos} {k : Nat}
theorem d2 {A : Around} (r : Room k A) : A.units + 2 < cLine := by have := r.un; omega
theorem d1 {A : Around} (r : Room k A) : A.units + 1 < cLine := by have := r.un; omega
end
end DL
namespace DL
open PySem L2
end DL
namespace DL
open PySem L2
end DL
namespace DL
open PySem L2
section
variable {X : Cx} {W : WG} {P : Program} {k : Nat} {c name : Str} {ps : List Str} {m : Fn} {C f : Addr} {fd : FuncData} {x : Str} {p pos apos : Pos} {e o a b : Expr} {es : List Expr} {g h fo fe : Env → M SV} {fa : Env → M (List SV)} {t : Env → M Bool} {F : SM} {body : List Stmt} {st : Stmt}
def noFldB (c name : Str) (S : Store) : SV → Bool
  | .obj k => match S[k]? with
    | some [.ins c' fs _] => c' == c && !fs.contains name
    | _ => false
  | _ => false
theorem noFldB_rep {K : PySem.W.Frag} {mg : Gm} {A : List Addr} {H : Hp} {S : Store} {sv : SV} {v : V} (hS : Sta K mg A H S) (hc : mg.m c = some (.ref C)) (h : RepS K mg A H sv v) (e : noFldB c name S sv = true) : ∃ q dx gs, v = .ref q ∧ H q = some (.ins C dx gs) ∧ gs.lookup name = none := by
  unfold noFldB at e
  split at e
  · rename_i k
    split at e
    · rename_i c' fs l q
      rw [Bool.and_eq_true] at e
      have ec : c' = c := by simpa using e.1
      subst ec
      obtain ⟨a, h1, h2, h0⟩ := h
      obtain ⟨c2, fs2, l2, C2, dx, vs, h3, h4, h5, h6, h7⟩ := (hS.at' k a _ h1 q).ins h0
      cases h3
      rw [hc] at h4
      cases h4
      exact ⟨a, dx, _, h2, h5, lookup_none (by simpa using e.2)⟩
    · cases e
  · cases e
def eMethB (c name : Str) (cv : RR → M SV) (m : Fn) (fo : Env → M SV) (fa : Env → M (List SV)) : Env → M SV := fun env => bnd (fo env) fun o S => if noFldB c name S o = true then (bnd (fa env) fun as => callM cv m (o :: as)) S else none
theorem tok_methB {cv : RR → M SV} (hcv : CvOk cv) {ta : TE} {t : TA} (hc : X.mg c = some (.ref C)) (ko : TOk X.K (gm X W) (relS X.K (gm X W)) W ta fo) (ka : TOk X.K (gm X W) (relA X.K (gm X W)) W t fa) :
    TOk X.K (gm X W) (relS X.K (gm X W)) W (tMethE X.K C name (spD X.K X.mg m) (WE W.w) ta t) (eMethB c name cv m fo fa) := by
  refine tbind (rel := relS X.K (gm X W)) (rel2 := relS X.K (gm X W)) (g := fun env o S => if noFldB c name S o = true then (bnd (fa env) fun as => callM cv m (o :: as)) S else none)
    (tk := fun x σ H1 Q => ∃ a dx fs, x = .ref a ∧ H1 a = some (.ins C dx fs) ∧ fs.lookup name = none ∧ t σ H1 fun vs H2 => spD X.K X.mg m (.ref a :: vs) H2 Q (WE W.w σ)) ko fun a v σ H A S env r S' hS hE hx he Q hp => ?_
  by_cases hn : noFldB c name S a = true
  · rw [if_pos hn] at he
    obtain ⟨q, dx, gs, e1, h1, h2⟩ := noFldB_rep (mg := gm X W) hS hc hx hn
    subst e1
    refine ⟨q, dx, gs, rfl, h1, h2, ?_⟩
    rcases bnd_some he with ⟨as, S1, ef, q2⟩ | ⟨c, fs, l, ef, rfl⟩
    · exact ka σ H A S env _ S1 hS hE ef _ fun vs A1 H1 e1 s1 r1 => call_step hcv s1 (as := a :: as) (vs := .ref q :: vs) ⟨.ref q, vs, rfl, RepS.mono e1 hx, r1⟩ q2 (hp.mono e1) _ fun _ _ _ h => h
    · exact ka σ H A S env _ _ hS hE ef _ hp
  · rw [if_neg hn] at he; cases he
theorem de_methB {cv : RR → M SV} (hcv : CvOk cv) {pl : Sem Bool} (M0 : OwnM X.prog X.w X.K X.mg X.base k c name ps m C f fd) (hr : Room k X.A) (tk : L2N.Takes X W.w) (ho : DE X W o fo) (ha : DA X W (e :: es) fa)
    (hst : starEach (e :: es) X.env = (false, eval e X.env) :: starEach es X.env := by rfl) (hpl : (backTo pos (starEach es X.env)).any (·.1) = false := by rfl)
    (ht : eval (.Call (.Attribute o name apos) (e :: es) [] pos) X.env = (do
      let ov ← eval o X.env
      standAt apos.atName
      let (f, first) ← holding [ov] (getMethod ov name pl)
      callWith pos f first (backTo pos (starEach (e :: es) X.env)) (backToKw pos (keywordEach [] X.env))) := by rfl) :
    DE X W (.Call (.Attribute o name apos) (e :: es) [] pos) (eMethB c name cv m fo fa) := by
  obtain ⟨ta, po, ko⟩ := ho
  obtain ⟨t, pa, ka⟩ := ha
  exact ⟨_, pe_methE (pl := pl) po M0.cl M0.M M0.F hr M0.b (fun σ => L2N.passAt tk σ) pa hst hpl ht, tok_methB hcv M0.gC ko ka⟩
theorem de_methB0 {cv : RR → M SV} (hcv : CvOk cv) {pl : Sem Bool} (M0 : OwnM X.prog X.w X.K X.mg X.base k c name ps m C f fd) (hr : Room k X.A) (tk : L2N.Takes X W.w) (ho : DE X W o fo)
    (ht : eval (.Call (.Attribute o name apos) [] [] pos) X.env = (do
      let ov ← eval o X.env
      standAt apos.atName
      let (f, first) ← holding [ov] (getMethod ov name pl)
      callWith pos f first (backTo pos (starEach [] X.env)) (backToKw pos (keywordEach [] X.env))) := by rfl) :
    DE X W (.Call (.Attribute o name apos) [] [] pos) (eMethB c name cv m fo aNil) := by
  obtain ⟨ta, po, ko⟩ := ho
  exact ⟨_, pe_methE0 (pl := pl) po M0.cl M0.M M0.F hr M0.b (fun σ => L2N.passAt tk σ) ht, tok_methB hcv M0.gC ko (t := tNil) (fun σ H A S env r S' hS hE he Q hp => by cases he; exact hp.val hS rfl)⟩
theorem whL_mono {t : Env → M Bool} {F : SM} : ∀ {n m : Nat} {env : Env} {S : Store} {r}, whL t F n env S = some r → n ≤ m → whL t F m env S = some r
  | 0, _, _, _, _, h, _ => by cases h
  | n + 1, 0, _, _, _, _, hm => by omega
  | n + 1, m + 1, env, S, r, h, hm => by
    unfold whL at h ⊢
    unfold lift at h ⊢
    rcases et : t env S with _ | ⟨c | ⟨_, _, _⟩, S1⟩
    · rw [et] at h; cases h
    · rw [et] at h
      dsimp only at h ⊢
      cases c with
      | false => exact h
      | true =>
        rw [if_pos rfl] at h ⊢
        rcases eF : F env S1 with _ | ⟨o, S2⟩
        · rw [eF] at h; cases h
        · rw [eF] at h
          cases o with
          | nx env2 => exact whL_mono h (by omega)
          | ct env2 => exact whL_mono h (by omega)
          | bk env2 => exact h
          | rt sv => exact h
          | er c fs l env2 => exact h
    · rw [et] at h; exact h
open Classical in
noncomputable def whE (t : Env → M Bool) (F : SM) : SM := fun env S => if h : ∃ n r, whL t F n env S = some r then some (choose (choose_spec h)) else none
theorem whE_some {t : Env → M Bool} {F : SM} {env : Env} {S : Store} {r} (h : whE t F env S = some r) : ∃ n, whL t F n env S = some r := by
  unfold whE at h
  by_cases c : ∃ n r, whL t F n env S = some r
  · rw [dif_pos c] at h
    cases h
    exact ⟨_, Classical.choose_spec (Classical.choose_spec c)⟩
  · rw [dif_neg c] at h; cases h
theorem whE_of {t : Env → M Bool} {F : SM} {env : Env} {S : Store} {r} {n : Nat} (h : whL t F n env S = some r) : whE t F env S = some r := by
  have c : ∃ n r, whL t F n env S = some r := ⟨n, r, h⟩
  unfold whE
  rw [dif_pos c]
  have h2 := Classical.choose_spec (Classical.choose_spec c)
  rcases Nat.le_total n (Classical.choose c) with hl | hl
  · have := whL_mono h hl
    exact this.symm.trans h2 |>.symm ▸ rfl
  · have := whL_mono h2 hl
    exact this.symm.trans h |>.symm ▸ rfl
theorem whE_f {t : Env → M Bool} {F : SM} {env : Env} {S S1 : Store} (h : t env S = some (.ok false, S1)) : whE t F env S = some (.nx env, S1) := whE_of (n := 1) (wh_f h)
theorem whE_t {t : Env → M Bool} {F : SM} {env env2 : Env} {S S1 S2 : Store} {r} (h : t env S = some (.ok true, S1)) (h2 : F env S1 = some (.nx env2, S2)) (h3 : whE t F env2 S2 = some r) : whE t F env S = some r := by
  obtain ⟨n, h3⟩ := whE_some h3
  exact whE_of (n := n + 1) ((wh_t h h2).trans h3)
theorem whE_rt {t : Env → M Bool} {F : SM} {env : Env} {S S1 S2 : Store} {sv : SV} (h : t env S = some (.ok true, S1)) (h2 : F env S1 = some (.rt sv, S2)) : whE t F env S = some (.rt sv, S2) := whE_of (n := 1) (by
  unfold whL lift; rw [h]; dsimp only; rw [if_pos rfl, h2])
theorem DS.one1 (h : DS X W st F) : PS X st (tsOf X.K (gm X W) W F) := by
  obtain ⟨t, p, k⟩ := h
  exact ⟨fun pins s σ H D I ⟨A, S, env, o, S', hS, hE, he, hp⟩ => p.run pins s σ H D I (k σ H A S env o S' hS hE he D hp)⟩
theorem ds_whileE (hp : PassesOwn (model X.prog X.w) X.A X.env X.xe) (hc : DT X W e t) (hb : DSs X W body F) : DS X W (.While e body [] pos) (whE t F) := by
  refine ⟨fun Dn σ H => ∃ n, tsOf X.K (gm X W) W (whL t F n) Dn σ H, ⟨fun pins s σ H D I ⟨n, q⟩ => (ds_while n hp hc hb).one1.run pins s σ H D I q⟩, fun σ H A S env o S' hS hE he Dn hp => ?_⟩
  obtain ⟨n, h⟩ := whE_some he
  exact ⟨n, A, S, env, o, S', hS, hE, h, hp⟩
def oAddOwn (x y : SV) : M SV := fun S => match items S x, items S y with
  | some l, some m => if l.length + m.length ≤ lim then some (.ok (.ptr S.length), S ++ [l ++ m]) else none
  | _, _ => none
theorem rok_addOwn : ROk X W rAddAll oAddOwn := by
  intro a b x y σ H A S rr S' hS hx hy he Q hp
  unfold oAddOwn at he
  rcases ea : items S a with _ | l
  · rw [ea] at he; cases he
  · rcases eb : items S b with _ | m
    · rw [ea, eb] at he; cases he
    · rw [ea, eb] at he
      dsimp only at he
      by_cases c : l.length + m.length ≤ lim
      · rw [if_pos c] at he
        cases he
        obtain ⟨p1, vs1, e1, h1, r1⟩ := items_rep hS hx ea
        obtain ⟨p2, vs2, e2, h2, r2⟩ := items_rep hS hy eb
        subst e1 e2
        refine .inr ⟨p1, p2, vs1, vs2, rfl, rfl, h1, h2, ?_, fun z hz => hp _ _ _ (Ext.own hz) (hS.own hz (r1.append r2)) ⟨z, own_at hS.len, rfl, _, upd_same⟩⟩
        rw [← r1.length, ← r2.length]
        exact lim_ok c
      · rw [if_neg c] at he; cases he
def asT : SV → M Bool
  | .d (.lst l) => ret (!l.isEmpty)
  | .d (.bl b) => ret b
  | _ => stuck
def eTru (f : Env → M SV) : Env → M Bool := fun env => bnd (f env) asT
theorem dt_tru (ha : DE X W e g) (he : ∀ whole, isTrue e X.env whole = (do let v ← whole; standAt e.pos; holding [v] (truthy v)) := by intro _; rfl) : DT X W e (eTru g) := by
  obtain ⟨ta, pa, ka⟩ := ha
  refine ⟨_, pt_truth pa he, tbind (rel := relS X.K (gm X W)) (rel2 := relB) (g := fun _ x => asT x) (tk := fun x _ H1 Q => ∃ k, TruV X.K x H1 k ∧ Q k H1) ka fun a v σ H A S env r S' hS hE hx he Q hp => ?_⟩
  unfold asT at he
  split at he
  · rename_i l
    cases he
    have h1 : Rep X.K X.mg A H (.lst l) v := hx
    simp only [Rep] at h1
    obtain ⟨q, vs, e1, n, hq, r⟩ := h1
    subst e1
    refine ⟨!vs.isEmpty, .inl ⟨vs, SqL.of hq, rfl⟩, hp.val hS ?_⟩
    have := r.length
    cases l <;> cases vs <;> first | rfl | cases this
  · rename_i b
    cases he
    have h1 : Rep X.K X.mg A H (.bl b) v := hx
    simp only [Rep] at h1
    subst h1
    exact ⟨b, rfl, hp.val hS rfl⟩
  · cases he
end
end DL
namespace DL
open PySem L2
section
variable {X : Cx} {W : WG} {p pos apos : Pos} {e o a b value o1 i1 o2 i2 : Expr} {es : List Expr} {g h fo fe f1 g1 f2 g2 : Env → M SV} {fa : Env → M (List SV)} {t : Env → M Bool} {F : SM} {body : List Stmt} {st : Stmt} {kt : Nat} {pt p1 p2 : Pos}
def putV (fo fi : Env → M SV) (x : D) (env : Env) (S : Store) : Option Store := match fo env S with
  | some (.ok (.ptr k), S1) => match fi env S1 with
    | some (.ok (.d (.int n)), S2) => match S2[k]? with
      | some l => match ixN l.length n with
        | some j => some (S2.set k (l.set j x))
        | none => none
      | none => none
    | _ => none
  | _ => none
theorem putV_ok {to ti : TE} {fo fi : Env → M SV} (ko : TOk X.K (gm X W) (relS X.K (gm X W)) W to fo) (ki : TOk X.K (gm X W) (relS X.K (gm X W)) W ti fi) {A : List Addr} {H : Hp} {S S' : Store} {σ : St} {env : Env} {x : D} {v : V}
    (hS : Sta X.K (gm X W) A H S) (hE : EnvR X.K (gm X W) A H σ env) (rx : Rep X.K X.mg A H x v) (he : putV fo fi x env S = some S') {Q : St → Hp → Prop} (hq : ∀ A' H', Ext A H A' H' → Sta X.K (gm X W) A' H' S' → Q σ H') : gSub to ti rSetL v σ H Q := by
  unfold putV at he
  split at he
  · rename_i k S1 e1
    split at he
    · rename_i n S2 e2
      rcases eS : S2[k]? with _ | l
      · rw [eS] at he; cases he
      · rw [eS] at he
        dsimp only at he
        rcases ej : ixN l.length n with _ | j
        · rw [ej] at he; cases he
        · rw [ej] at he
          cases he
          refine ko σ H A S env _ S1 hS hE e1 _ fun oo A1 H1 x1 s1 r1 => ?_
          refine ki σ H1 A1 S1 env _ S2 s1 (hE.mono x1) e2 _ fun ii A2 H2 x2 s2 r2 => ?_
          obtain ⟨aa, h1, h2, h0⟩ := RepS.mono (x := .ptr k) x2 r1
          have h3 : Rep X.K X.mg A2 H2 (.int n) ii := r2
          simp only [Rep] at h3
          obtain ⟨ws, h4, h5⟩ := s2.lst h1 h0 eS
          obtain ⟨s4, e4⟩ := s2.setF h1 h0 (h5.set j (.of (Rep.mono (x1.trans x2) x v rx)))
          exact ⟨aa, ws, n, j, h2, h3, h4, by rw [← h5.length]; exact ej, hq A2 _ ((x1.trans x2).trans e4) s4⟩
    · cases he
  · cases he
def sPut2 (f1 g1 f2 g2 fv : Env → M SV) : SM := fun env => lift env (fv env) fun a S => match a with
  | .d (.tup [x, y]) => match putV f1 g1 x env S with
    | some S1 => match putV f2 g2 y env S1 with
      | some S2 => some (.nx env, S2)
      | none => none
    | none => none
  | _ => none
theorem ds_put2 (hc : X.calm = true) (he : DE X W value fe) (h1 : DE X W o1 f1) (h2 : DE X W i1 g1) (h3 : DE X W o2 f2) (h4 : DE X W i2 g2)
    (pg1 : ∀ {to ti : TE}, PE X o1 to → PE X i1 ti → PG X (.Subscript o1 i1 p1) (gSub to ti rSetL)) (pg2 : ∀ {to ti : TE}, PE X o2 to → PE X i2 ti → PG X (.Subscript o2 i2 p2) (gSub to ti rSetL))
    (pa : ∀ {te : TE} {gg : TG}, PE X value te → PG X (.Tuple [.Subscript o1 i1 p1, .Subscript o2 i2 p2] kt pt) gg → PS X (.Assign [.Tuple [.Subscript o1 i1 p1, .Subscript o2 i2 p2] kt pt] value pos) (tAsg te gg)) :
    DS X W (.Assign [.Tuple [.Subscript o1 i1 p1, .Subscript o2 i2 p2] kt pt] value pos) (sPut2 f1 g1 f2 g2 fe) := by
  obtain ⟨te, pe, ke⟩ := he
  obtain ⟨t1, q1, k1⟩ := h1
  obtain ⟨t2, q2, k2⟩ := h2
  obtain ⟨t3, q3, k3⟩ := h3
  obtain ⟨t4, q4, k4⟩ := h4
  refine ⟨_, pa pe (pg_tup (n := 2) hc (pgs_cons (pg1 q1 q2) (pgs_cons (pg2 q3 q4) pgs_nil))), ?_⟩
  intro σ H A S env o S' hS hE he Dn hp
  unfold sPut2 at he
  rcases lift_some he with ⟨a, S1, ef, q⟩ | ⟨c, fs, l, ef, rfl⟩
  · refine ke σ H A S env _ S1 hS hE ef _ fun v A1 H1 e1 s1 r1 => ?_
    split at q
    · rename_i x y
      rcases ea : putV f1 g1 x env S1 with _ | S2
      · rw [ea] at q; cases q
      · rw [ea] at q
        dsimp only at q
        rcases eb : putV f2 g2 y env S2 with _ | S3
        · rw [eb] at q; cases q
        · rw [eb] at q
          cases q
          have h1 : Rep X.K X.mg A1 H1 (.tup [x, y]) v := r1
          simp only [Rep, Reps] at h1
          obtain ⟨aa, vs, hv, hn, hh, u, w, hu, ru, u2, w2, hu2, ru2, hw⟩ := h1
          subst hw hu2 hu
          refine ⟨aa, [u, u2], hv, SqT.of hh, rfl, u, [u2], rfl, ?_⟩
          refine putV_ok k1 k2 s1 (hE.mono e1) ru ea fun A2 H2 e2 s2 => ?_
          refine ⟨u2, [], rfl, putV_ok k3 k4 s2 ((hE.mono e1).mono e2) (Rep.mono e2 _ _ ru2) eb fun A3 H3 e3 s3 => ⟨rfl, ?_⟩⟩
          exact hp σ A3 H3 ((e1.trans e2).trans e3) s3 (((hE.mono e1).mono e2).mono e3)
    · cases q
  · exact ke σ H A S env _ _ hS hE ef _ fun C dd A' H' hc e s r => hp C dd σ A' H' hc e s (hE.mono e) r
end
end DL
namespace DL
open PySem L2 PySem.W PyProof.Rows
section
variable {X : Cx} {W : WG} {p pos sp : Pos} {e t1 t2 : Expr} {es : List Expr} {f : Env → M SV} {kt : Nat}
def gLstN (K : PySem.W.Frag) (n : Nat) (t : TGs) : TG := fun v σ H Q => ∃ a xs, v = .ref a ∧ SqL K H a xs ∧ xs.length = n ∧ t xs σ H Q
theorem pg_lstN {t : TGs} {n : Nat} (hc : X.calm = true) (h : PGs X es t)
    (hn : (assignEach es X.env).length = n := by rfl) (hst : (assignEach es X.env).findIdx? (·.1) = none := by rfl) : PG X (.Tuple es kt pos) (gLstN X.K n t) := by
  refine ⟨fun pins s σ H v u Q I r hw => ?_⟩
  obtain ⟨a, xs, e1, hq, hl, hw⟩ := hw
  subst e1
  cases r
  obtain ⟨its, rv, pl, hz⟩ := I.list hq
  rw [assign_Tuple]
  refine wpAny_bind (wpAny_standAt ?_)
  unfold unpack
  rw [hst, show (assignEach es X.env).length = its.toArray.size by simp [hn, ← hl, rv.length]]
  refine wpAny_bind (wpAny_holding (PySem.W.kun_itemsOf (I.ok.hd hc) pl.isList fun h' hx => ?_))
  have I1 : Inv X pins σ H { s with heap := h' } := I.kept (t' := s.toks) fun b o e => hx b o (Nat.ne_of_lt (Heap.lt_size e)) e
  exact h.run pins _ σ H xs _ Q I1 (by simpa using rv) hw
/-- a tuple or a list -/
def gTL (K : PySem.W.Frag) (n : Nat) (t : TGs) : TG := fun v σ H Q => gTup K n t v σ H Q ∨ gLstN K n t v σ H Q
theorem pg_tl {t : TGs} {n : Nat} (hc : X.calm = true) (h : PGs X es t)
    (hn : (assignEach es X.env).length = n := by rfl) (hst : (assignEach es X.env).findIdx? (·.1) = none := by rfl) : PG X (.Tuple es kt pos) (gTL X.K n t) :=
  ⟨fun pins s σ H v u Q I r hw => hw.elim ((pg_tup hc h hn hst).run pins s σ H v u Q I r) ((pg_lstN hc h hn hst).run pins s σ H v u Q I r)⟩
def sUnpA (is : List Nat) (f : Env → M SV) : SM := fun env => lift env (f env) fun a S => match a with
  | .d (.tup ds) => match setMany env is ds with
    | some env' => some (.nx env', S)
    | none => none
  | .d (.lst ds) => match setMany env is ds with
    | some env' => some (.nx env', S)
    | none => none
  | _ => none
theorem ds_unpA {is : List Nat} (hc : X.calm = true) (hg : DGs X es is) (he : DE X W e f)
    (pa : ∀ {te : TE} {gg : TG}, PE X e te → PG X (.Tuple es kt pos) gg → PS X (.Assign [.Tuple es kt pos] e p) (tAsg te gg))
    (hn : (assignEach es X.env).length = is.length := by rfl) (hst : (assignEach es X.env).findIdx? (·.1) = none := by rfl) : DS X W (.Assign [.Tuple es kt pos] e p) (sUnpA is f) := by
  obtain ⟨te, pe, ke⟩ := he
  refine ⟨_, pa pe (pg_tl hc hg hn hst), ?_⟩
  intro σ H A S env o S' hS hE he Dn hp
  unfold sUnpA at he
  rcases lift_some he with ⟨a, S1, ef, q⟩ | ⟨c, fs, l, ef, rfl⟩
  · refine ke σ H A S env _ S1 hS hE ef _ fun v A1 H1 e1 s1 r1 => ?_
    split at q
    · rename_i ds
      rcases em : setMany env is ds with _ | env'
      · rw [em] at q; cases q
      · rw [em] at q
        cases q
        have h1 : Rep X.K X.mg A1 H1 (.tup ds) v := r1
        simp only [Rep] at h1
        obtain ⟨a, vs, e2, _, h2, r⟩ := h1
        obtain ⟨h3, h4⟩ := setMany_rep r (hE.mono e1) em
        exact .inl ⟨a, vs, e2, SqT.of h2, by rw [h4, ← r.length], nok_gs is σ H1 vs _ (by rw [h4, ← r.length]) (hp _ A1 H1 e1 s1 h3)⟩
    · rename_i ds
      rcases em : setMany env is ds with _ | env'
      · rw [em] at q; cases q
      · rw [em] at q
        cases q
        have h1 : Rep X.K X.mg A1 H1 (.lst ds) v := r1
        simp only [Rep] at h1
        obtain ⟨a, vs, e2, _, h2, r⟩ := h1
        obtain ⟨h3, h4⟩ := setMany_rep r (hE.mono e1) em
        exact .inr ⟨a, vs, e2, SqL.of h2, by rw [h4, ← r.length], nok_gs is σ H1 vs _ (by rw [h4, ← r.length]) (hp _ A1 H1 e1 s1 h3)⟩
    · cases q
  · exact ke σ H A S env _ _ hS hE ef _ fun C dd A' H' hc e s r => hp C dd σ A' H' hc e s (hE.mono e) r
def gStar (K : PySem.W.Frag) (i j : Nat) : TG := fun v σ H Q => ∃ a x xs, v = .ref a ∧ SqL K H a (x :: xs) ∧ xs.length ≤ 16000 ∧ ∀ p, H p = none → Q ((σ.set i (some x)).set j (some (.ref p))) (upd H p (.lst xs))
theorem pg_star {i j : Nat} (hc : X.calm = true) (h1 : PG X t1 (gName i)) (h2 : PG X t2 (gName j)) (hx : assignEach [t1, .Starred t2 sp] X.env = [(false, assign t1 X.env), (true, assign t2 X.env)] := by rfl) : PG X (.Tuple [t1, .Starred t2 sp] kt pos) (gStar X.K i j) := by
  refine ⟨fun pins s σ H v u Q I r hw => ?_⟩
  obtain ⟨l, x, xs, e1, hq, hz, q⟩ := hw
  subst e1
  cases r
  obtain ⟨its, rv, pl, _⟩ := I.list hq
  cases rv with
  | @cons _ y _ ys ry rys =>
    have hl := pl.isList
    have hh := I.ok.hd hc
    have hsz : (y :: ys).toArray.size = ys.length + 1 := by simp
    have hlt : l ≠ s.heap.objs.size := by obtain ⟨o, ho, _⟩ := hl; exact Nat.ne_of_lt (Heap.lt_size ho)
    rw [assign_Tuple]
    refine wpAny_bind (wpAny_standAt ?_)
    unfold unpack
    rw [hx]
    show wpAny _ _ (holding [Value.ref l] (unpackItems (.ref l) 2 (some 1)) >>= fun vs => assignInOrder [assign t1 X.env, assign t2 X.env] vs) _ _ s
    refine wpAny_bind (wpAny_holding ?_)
    unfold unpackItems
    refine wpAny_bind ?_
    unfold notIterableAtAll
    refine wpAny_bind (wpAny_specialOf hl.typeIs slot_list_iter.lookup ?_)
    refine wpAny_pure ?_
    simp only [Bool.false_eq_true, if_false]
    refine wpAny_bind (wpAny_holding (wpAny_pyIter_list hl ?_))
    refine wpAny_bind (wpAny_holding (PySem.W.kun_draw hlt 1 0 _ _ ⟨_, Heap.get?_push_size _ rfl, rfl, rfl⟩ (hl.push _) (by omega) fun h₁ hit₁ hs₁ => ?_))
    have hl₁ : h₁.IsList l (y :: ys).toArray := (hl.push _).extBut hs₁.extBut hlt
    rw [Nat.zero_add] at hit₁
    have hit₁' := hit₁
    obtain ⟨oi, hoi, _⟩ := hit₁'
    have hl₁' := hl₁
    obtain ⟨ol, hol, _⟩ := hl₁'
    show wpAny _ _ (if ([y] : List Value).length < 1 then _ else _) _ _ _
    rw [if_neg (by simp)]
    have hlen : xs.length = ys.length := rys.length
    refine wpAny_bind (wpAny_holding (PySem.W.kun_collect (s := { s with heap := h₁ }) (T := "list_iterator") (.inr (.inr (.inl rfl))) (Walks.list (A := X.A.in1) hh s.heap.objs.size l hlt (y :: ys).toArray) (fun j u st => st.1.typeIs) (k := 1) (by omega) ⟨hit₁, hl₁⟩ (Heap.lt_size hoi) (Heap.lt_size hol) (fun h₂ tk hk => ?_) (by rw [sizeLine_eq]; omega)))
    show wpAny _ _ (if ys.length < 2 - 1 - 1 then _ else _) _ _ _
    rw [if_neg (by omega)]
    show wpAny _ _ (newList (ys.take (ys.length - (2 - 1 - 1))) >>= fun d => pure ([y] ++ [d] ++ ys.drop (ys.length - (2 - 1 - 1)))) _ _ _
    rw [show ys.take (ys.length - (2 - 1 - 1)) = ys from List.take_of_length_le (by omega), show ys.drop (ys.length - (2 - 1 - 1)) = [] from List.drop_of_length_le (by omega)]
    have he : Heap.ExtBut s.heap.objs.size s.heap h₂ := fun b o hb e => hk b o hb (hs₁.extBut b o hb (Heap.get?_push_of_some _ e))
    have I2 : Inv X pins σ H { s with heap := h₂, toks := tk } := I.kept (t' := tk) fun b u e => he b u (Nat.ne_of_lt (Heap.lt_size e)) e
    refine wpAny_bind (wpAny_newObj_type ?_ (by show ys.toArray.size ≤ sizeLine; rw [sizeLine_eq]; simp; omega))
    refine wpAny_pure ?_
    have hf : H h₂.objs.size = none := I2.hok.fresh (Nat.le_refl _)
    have I3 : Inv X pins σ (upd H h₂.objs.size (.lst xs)) { s with heap := h₂.push { cls := .type "list", data := .seq ys.toArray }, toks := tk } :=
      I2.laid (t' := tk) (fun b u e => Heap.get?_push_of_some _ e) (Nat.le_refl _) ⟨by rw [sizeLine_eq]; omega, ys, 0, rys, Heap.get?_push_size _ rfl⟩
    refine assignInOrder_cons (thn (h1.run pins _ σ _ x y (fun σ' H' => σ' = σ.set i (some x) ∧ H' = upd H h₂.objs.size (.lst xs)) I3 ry ⟨rfl, rfl⟩) fun _ s4 ⟨σ4, H4, I4, q4, q5⟩ => ?_)
    subst q4 q5
    refine assignInOrder_cons (thn (h2.run pins s4 _ _ (.ref h₂.objs.size) (.ref h₂.objs.size) Q I4 rfl (q _ hf)) fun _ s5 q5 => ?_)
    exact assignInOrder_nil q5
def sStar (i j : Nat) (f : Env → M SV) : SM := fun env => lift env (f env) fun a S => match a with
  | .d (.lst (x :: xs)) => if xs.length ≤ 16000 then some (.nx ((env.set i (some (.d x))).set j (some (.d (.lst xs)))), S) else none
  | _ => none
theorem ds_star {i j : Nat} (hc : X.calm = true) (h1 : DG X t1 (.one i)) (h2 : DG X t2 (.one j)) (he : DE X W e f)
    (pa : ∀ {te : TE} {gg : TG}, PE X e te → PG X (.Tuple [t1, .Starred t2 sp] kt pos) gg → PS X (.Assign [.Tuple [t1, .Starred t2 sp] kt pos] e p) (tAsg te gg))
    (hx : assignEach [t1, .Starred t2 sp] X.env = [(false, assign t1 X.env), (true, assign t2 X.env)] := by rfl) : DS X W (.Assign [.Tuple [t1, .Starred t2 sp] kt pos] e p) (sStar i j f) := by
  obtain ⟨te, pe, ke⟩ := he
  refine ⟨_, pa pe (pg_star hc h1 h2 hx), ?_⟩
  intro σ H A S env o S' hS hE he Dn hp
  unfold sStar at he
  rcases lift_some he with ⟨a, S1, ef, q⟩ | ⟨c, fs, l, ef, rfl⟩
  · refine ke σ H A S env _ S1 hS hE ef _ fun v A1 H1 e1 s1 r1 => ?_
    split at q
    · rename_i x xs
      by_cases c : xs.length ≤ 16000
      · rw [if_pos c] at q
        cases q
        have h1 : Rep X.K X.mg A1 H1 (.lst (x :: xs)) v := r1
        simp only [Rep, Reps] at h1
        obtain ⟨a, vs, e2, hn, h2, u, w, hu, ru, rw'⟩ := h1
        subst hu
        refine ⟨a, u, w, e2, SqL.of h2, by rw [← rw'.length]; exact c, fun p hp0 => ?_⟩
        have e3 := Ext.new (A := A1) (o := .lst w) hp0
        refine hp _ A1 _ (e1.trans e3) (s1.new hp0) ((((hE.mono e1).mono e3).set (sv := .d x) (Rep.mono e3 _ _ ru)).set (sv := .d (.lst xs)) ?_)
        show Rep X.K X.mg A1 _ (.lst xs) (.ref p)
        simp only [Rep]
        exact ⟨p, w, rfl, s1.free hp0, upd_same, Reps.mono e3 _ _ rw'⟩
      · rw [if_neg c] at q; cases q
    · cases q
  · exact ke σ H A S env _ _ hS hE ef _ fun C dd A' H' hc e s r => hp C dd σ A' H' hc e s (hE.mono e) r
end
end DL
namespace DL
open PySem L2
open PyProof.Rows (Call_)
theorem mergeK_new : ∀ (kvs acc : List (Key × V)), ((acc ++ kvs).map (·.1)).Nodup → mergeK acc kvs = acc ++ kvs
  | [], acc, _ => by simp [mergeK]
  | (k, v) :: kvs, acc, h => by
    have hv : valV acc k = none := by
      have h2 : k ∉ acc.map (·.1) := by
        intro hm
        rw [List.map_append, List.nodup_append] at h
        exact h.2.2 k hm k (by simp) rfl
      have h3 := valV_any k acc
      have h4 : (acc.any fun kv => decide (kv.1 = k)) = false := by
        rw [List.any_eq_false]
        intro x hx
        simp only [decide_eq_true_eq]
        exact fun e => h2 (List.mem_map.mpr ⟨x, hx, e⟩)
      rw [h4] at h3
      cases q : valV acc k with
      | none => rfl
      | some w => rw [q] at h3; cases h3
    show mergeK (putK acc k v) kvs = _
    rw [putK_new v hv, mergeK_new kvs (acc ++ [(k, v)]) (by rw [List.append_assoc]; exact h), List.append_assoc]
    rfl
def tDZ (K : PySem.W.Frag) (ta : TA) : TE := fun σ H Q => ta σ H fun vs H1 => ∃ a b xs ys, ∃ kvs : List (Key × V), vs = [.ref a, .ref b] ∧ SqL K H1 a xs ∧ SqL K H1 b ys ∧ kvs.length = min xs.length ys.length ∧ (∀ (i : Nat) (k : Key) (v : V), kvs[i]? = some (k, v) → xs[i]? = some (kV k) ∧ ys[i]? = some v) ∧
  ∀ q, H1 q = none → Q (.ref q) (upd H1 q (.dK (mergeK [] kvs)))
section
variable {X : Cx} {W : WG} {e e2 o i z : Expr} {ta : TA} {fa : Env → M (List SV)} {fo fi fz : Env → M SV} {p p2 pos pos2 apos cpos : Pos} {k : Nat}
theorem kvs_val : ∀ {kvs : List (Key × V)} {xs ys : List V} {us ws : List Value}, Vals xs us → Vals ys ws → kvs.length = min xs.length ys.length → (∀ (i : Nat) (k : Key) (v : V), kvs[i]? = some (k, v) → xs[i]? = some (kV k) ∧ ys[i]? = some v) →
    ∃ prs : List (Key × Value), KV kvs prs ∧ ∀ (i : Nat) (key v : Value), us[i]? = some key → ws[i]? = some v → ∃ k, prs[i]? = some (k, v) ∧ RelV (kV k) key
  | [], xs, ys, us, ws, hx, hy, hl, _ => ⟨[], .nil, fun i key v h1 h2 => by
    have l1 := hx.length
    have l2 := hy.length
    have := (List.getElem?_eq_some_iff.mp h1).1
    have := (List.getElem?_eq_some_iff.mp h2).1
    simp only [List.length_nil] at hl
    omega⟩
  | (k, v) :: kvs, xs, ys, us, ws, hx, hy, hl, h => by
    obtain ⟨h1, h2⟩ := h 0 k v rfl
    cases hx with
    | nil => simp at h1
    | @cons x u xs us rx rxs =>
      cases hy with
      | nil => simp at h2
      | @cons y w ys ws ry rys =>
        simp at h1 h2
        subst h1 h2
        obtain ⟨prs, r, hp⟩ := kvs_val (kvs := kvs) rxs rys (by simp only [List.length_cons] at hl; omega) (fun i k v e => by
          have := h (i + 1) k v (by simpa using e)
          simpa using this)
        refine ⟨(k, w) :: prs, .cons ⟨rfl, ry⟩ r, fun i key v e1 e2 => ?_⟩
        cases i with
        | zero =>
          simp at e1 e2
          subst e1 e2
          exact ⟨k, rfl, rx⟩
        | succ i =>
          obtain ⟨k2, a, b⟩ := hp i key v (by simpa using e1) (by simpa using e2)
          exact ⟨k2, by simpa using a, b⟩
theorem pe_dictZip (hc : X.calm = true) (hgl : Gl X "dict") (hml : X.mg "dict" = none) (hgz : Gl X "zip") (hmz : X.mg "zip" = none) (ha : PA X [e, e2] ta)
    (hs : starEach [e, e2] X.env = (false, eval e X.env) :: starEach [e2] X.env := by rfl) (hpl : (backTo pos2 (starEach [e2] X.env)).any (·.1) = false := by rfl)
    (he : starEach [.Call (.Name "zip" p2) [e, e2] [] pos2] X.env = (false, eval (.Call (.Name "zip" p2) [e, e2] [] pos2) X.env) :: starEach [] X.env := by rfl) :
    PE X (.Call (.Name "dict" p) [.Call (.Name "zip" p2) [e, e2] [] pos2] [] pos) (tDZ X.K ta) := by
  refine ⟨fun pins s σ H Q I h => ?_⟩
  refine Call_ (ld_blt I hgl hml PyProof.Rows.boot_dict (PyProof.Rows.callWith_type1 ?_ he rfl))
  rw [he]
  show wpAny _ _ (spliced ((false, eval (.Call (.Name "zip" p2) [e, e2] [] pos2) X.env) :: backTo pos (starEach [] X.env))) _ _ s
  refine Calls.spliced_cons ?_
  refine Call_ (ld_blt I hgz hmz PyProof.Rows.boot_zip (PyProof.Rows.callWith_type1 (thn (ha.run pos2 pins s σ H _ I h) fun us s1 ⟨vs, H1, I1, r1, q1⟩ => ?_) hs hpl))
  obtain ⟨a, b, xs, ys, kvs, ex, hqx, hqy, hkl, hkv, hq⟩ := q1
  subst ex
  cases r1 with
  | cons r rr =>
    cases rr with
    | cons r' rr =>
      cases rr
      cases r
      cases r'
      obtain ⟨its, rv, p1, zx⟩ := I1.list hqx
      obtain ⟨its2, rv2, pp2, zy⟩ := I1.list hqy
      refine call_zip_2 p1.isList pp2.isList fun h' hz hTI hTO h1 h2 hsz hk => ?_
      have I2 : Inv X pins σ H1 { s1 with heap := h' } := I1.kept (t' := s1.toks) hk
      refine Calls.spliced_nil ?_
      obtain ⟨prs, rk, hpr⟩ := kvs_val rv rv2 hkl hkv
      generalize hn : s1.heap.objs.size = n at hz hTI hTO h1 h2 hsz
      have fr : H1 h'.objs.size = none := I2.hok.fresh (Nat.le_refl _)
      have hm : (h'.objs.size == sysModules) = false := beq_eq_false_iff_ne.mpr (Nat.ne_of_gt I2.big)
      refine _root_.PySem.call_dict_pairs (knd := mixKind X.prog X.w) (kvs := prs) (PairArg.zip (prog := X.prog) (w := X.w) (n + 4) (n + 2) (n + 3) n (n + 1) a b (PySem.W.ktu_apart n a b (by rw [← hn]; exact p1.lt) (by rw [← hn]; exact pp2.lt)) its.toArray its2.toArray)
        (I.ok.hd hc) ⟨hz, hTI, ⟨_, _, hTO⟩, h1, h2, p1.isList.at fun o e => hk _ o e, pp2.isList.at fun o e => hk _ o e⟩ ⟨?_, ?_⟩ ?_ fun h'' tk hd hkk => ?_
      · have := Paired.length rk
        rw [← this, hkl, rv.length, rv2.length]
        simp
      · intro i key v ⟨e1, e2⟩
        obtain ⟨k, e3, e4⟩ := hpr i key v (by simpa using e1) (by simpa using e2)
        exact ⟨k, e3, kV_is e4⟩
      · have : min its.toArray.size its2.toArray.size ≤ its.toArray.size := Nat.min_le_left _ _
        have h3 := rv.length
        simp only [List.size_toArray] at this ⊢
        omega
      · have hz : (mergeK [] kvs).length ≤ sizeLine := by
          have h1 := length_mergeK kvs []
          rw [List.length_nil, hkl] at h1
          have : min xs.length ys.length ≤ xs.length := Nat.min_le_left _ _
          omega
        refine ⟨.ref h'.objs.size, upd H1 h'.objs.size (.dK (mergeK [] kvs)), I1.laid (t' := tk) (fun b u e => ?_) (by rw [hn, hsz]; exact Nat.le_add_right _ _) ⟨hz, hm, _, rk.merge .nil, hd⟩, rfl, hq _ fr⟩
        have hb : b < n := by rw [← hn]; exact Heap.lt_size e
        have hb2 : ∀ j, b ≠ n + j := fun j => Nat.ne_of_lt (Nat.lt_of_lt_of_le hb (Nat.le_add_right _ _))
        exact hkk b u (by simp only [List.mem_cons, List.not_mem_nil, or_false, not_or]; exact ⟨hb2 4, hb2 3, Nat.ne_of_lt hb, hb2 1⟩) (hk b u e)
end
end DL
namespace DL
open PySem L2
open RZ (ItzT pi_zipA)
def seqLO (S : Store) : SV → Option (List D × List (Nat × List D))
  | .d (.lst l) => some (l, [])
  | .d (.scr l) => some (l, [])
  | .ptr k => (cellC S k).map fun l => (l, [(k, l)])
  | _ => none
def walkZO : List SV → M (List D × KK)
  | [x, y] => fun S => match seqLO S x, seqLO S y with
    | some (l, p), some (l', p') => some (.ok (pairD l l', some (p ++ p')), S)
    | _, _ => none
  | _ => stuck
def walkEO : List SV → M (List D × KK)
  | [x] => fun S => match seqLO S x with
    | some (l, p) => some (.ok (enumD 0 l, some p), S)
    | none => none
  | _ => stuck
section
variable {K : PySem.W.Frag} {mg : Gm}
def InvL (K : PySem.W.Frag) (mg : Gm) (a : Addr) (ds : List D) (p : List (Nat × List D)) (A : List Addr) (H : Hp) : Prop :=
  ∃ vs, Reps K mg.m A H ds vs ∧ ((p = [] ∧ SqX K A H a vs) ∨ ∃ k, p = [(k, ds)] ∧ clsd ds = true ∧ A[k]? = some a ∧ H a = some (.lst vs))
theorem InvL.rd {a : Addr} {ds : List D} {p : List (Nat × List D)} {A : List Addr} {H : Hp} (h : InvL K mg a ds p A H) : ∃ vs, Reps K mg.m A H ds vs ∧ SqL K H a vs := by
  obtain ⟨vs, r, ⟨_, h⟩ | ⟨k, _, _, _, h⟩⟩ := h
  · exact ⟨vs, r, h.sql⟩
  · exact ⟨vs, r, SqL.of h⟩
theorem InvL.new {a T : Addr} {ds : List D} {p : List (Nat × List D)} {A : List Addr} {H : Hp} {o : HO} (h : InvL K mg a ds p A H) (hT : H T = none) : InvL K mg a ds p A (upd H T o) := by
  have e := Ext.new (A := A) (o := o) hT
  obtain ⟨vs, r, ⟨q, h⟩ | ⟨k, q, hc, h1, h⟩⟩ := h
  · exact ⟨vs, Reps.mono e _ _ r, .inl ⟨q, h.mono e⟩⟩
  · exact ⟨vs, Reps.mono e _ _ r, .inr ⟨k, q, hc, h1, by rw [upd_ne (ne_of_none h hT)]; exact h⟩⟩
theorem InvL.keep {a : Addr} {ds : List D} {p : List (Nat × List D)} {A A' : List Addr} {H H' : Hp} {S' : Store} (h : InvL K mg a ds p A H) (e : Ext A H A' H') (hS' : Sta K mg A' H' S') (hk : ∀ q ∈ p, S'[q.1]? = some q.2) : InvL K mg a ds p A' H' := by
  obtain ⟨vs, r, ⟨q, h⟩ | ⟨k, q, hc, h1, h⟩⟩ := h
  · exact ⟨vs, Reps.mono e _ _ r, .inl ⟨q, h.mono e⟩⟩
  · subst q
    have h1' : A'[k]? = some a := by
      obtain ⟨l, rfl, _⟩ := e.app
      rw [List.getElem?_append_left (List.getElem?_eq_some_iff.mp h1).1]; exact h1
    obtain ⟨ws, h3, h4⟩ := hS'.lstC h1' (e.kl a vs h) (hk _ (List.mem_singleton.mpr rfl)) hc
    exact ⟨ws, h4, .inr ⟨k, rfl, hc, h1', h3⟩⟩
theorem seqLO_rep {A : List Addr} {H : Hp} {S : Store} (hS : Sta K mg A H S) {sv : SV} {l : List D} {p : List (Nat × List D)} {v : V} (h : RepS K mg A H sv v) (e : seqLO S sv = some (l, p)) : ∃ a, v = .ref a ∧ InvL K mg a l p A H ∧ ∀ q ∈ p, S[q.1]? = some q.2 := by
  unfold seqLO at e
  split at e
  · cases e
    have h1 : Rep K mg.m A H (.lst l) v := h
    simp only [Rep] at h1
    obtain ⟨a, vs, e1, n, h2, h3⟩ := h1
    exact ⟨a, e1, ⟨vs, h3, .inl ⟨rfl, .inl ⟨.inl h2, n⟩⟩⟩, fun q hq => by cases hq⟩
  · cases e
    have h1 : Rep K mg.m A H (.scr l) v := h
    simp only [Rep] at h1
    obtain ⟨a, vs, e1, h2, h3⟩ := h1
    exact ⟨a, e1, ⟨vs, h3, .inl ⟨rfl, h2⟩⟩, fun q hq => by cases hq⟩
  · rename_i k
    obtain ⟨l', e1, e2⟩ := Option.map_eq_some_iff.mp e
    cases e2
    obtain ⟨e3, e4⟩ := cellC_some e1
    obtain ⟨a, h1, h2, h0⟩ := h
    obtain ⟨vs, h3, h4⟩ := hS.lstC h1 h0 e3 e4
    exact ⟨a, h2, ⟨vs, h4, .inr ⟨k, rfl, e4, h1, h3⟩⟩, fun q hq => by rw [List.mem_singleton.mp hq]; exact e3⟩
  · cases e
theorem jok_zipO {a b : Addr} {xs ys : List D} {p p' : List (Nat × List D)} : JOk K mg (Itz K a b) (pairD xs ys) (some (p ++ p')) (fun A H S => InvL K mg a xs p A H ∧ InvL K mg b ys p' A H) where
  go := fun i A H S ⟨h, h'⟩ hi => by
    obtain ⟨vs, r, q⟩ := h.rd
    obtain ⟨ws, r', q'⟩ := h'.rd
    rw [pairD_length] at hi
    have h1 : i < vs.length := by rw [← r.length]; omega
    have h2 : i < ws.length := by rw [← r'.length]; omega
    exact ⟨vs, ws, vs[i], ws[i], q, q', List.getElem?_eq_getElem h1, List.getElem?_eq_getElem h2⟩
  stop := fun A H S ⟨h, h'⟩ => by
    obtain ⟨vs, r, q⟩ := h.rd
    obtain ⟨ws, r', q'⟩ := h'.rd
    exact ⟨vs, ws, q, q', by rw [pairD_length, ← r.length, ← r'.length]; omega⟩
  yld := fun i A H S x H' d hS hI hd hy => by
    obtain ⟨T, x1, y1, rfl, hT, rfl, e1, e2⟩ := hy
    obtain ⟨h, h'⟩ := hI
    obtain ⟨vs, r, q⟩ := h.rd
    obtain ⟨ws, r', q'⟩ := h'.rd
    obtain ⟨dx, dy, g1, g2, rfl⟩ := pairD_get hd
    obtain ⟨v, q1, rv⟩ := r.get g1
    obtain ⟨u, q2, ru⟩ := r'.get g2
    have f1 := e1 vs q
    have f2 := e2 ws q'
    rw [q1] at f1
    rw [q2] at f2
    cases f1
    cases f2
    exact ⟨Ext.new hT, hS.new hT, ⟨h.new hT, h'.new hT⟩, rep_pair hT (hS.free hT) rv ru⟩
  keep := fun A H S A' H' S' hS ⟨h, h'⟩ e hS' hk => ⟨h.keep e hS' fun q hq => hk q (List.mem_append_left _ hq), h'.keep e hS' fun q hq => hk q (List.mem_append_right _ hq)⟩
theorem jok_enumO {a : Addr} {xs : List D} {p : List (Nat × List D)} : JOk K mg (Ite K a) (enumD 0 xs) (some p) (fun A H S => InvL K mg a xs p A H) where
  go := fun i A H S h hi => by
    obtain ⟨vs, r, q⟩ := h.rd
    rw [enumD_length] at hi
    have h1 : i < vs.length := by rw [← r.length]; omega
    exact ⟨vs, vs[i], q, List.getElem?_eq_getElem h1⟩
  stop := fun A H S h => by
    obtain ⟨vs, r, q⟩ := h.rd
    exact ⟨vs, q, by rw [enumD_length, ← r.length]; exact Nat.le_refl _⟩
  yld := fun i A H S x H' d hS h hd hy => by
    obtain ⟨T, x1, rfl, hT, rfl, e1⟩ := hy
    obtain ⟨vs, r, q⟩ := h.rd
    obtain ⟨dx, g1, rfl⟩ := enumD_get hd
    obtain ⟨v, q1, rv⟩ := r.get g1
    have f1 := e1 vs q
    rw [q1] at f1
    cases f1
    have e0 : ((0 + i : Nat) : Int) = (i : Nat) := by rw [Nat.zero_add]
    rw [e0]
    exact ⟨Ext.new hT, hS.new hT, h.new hT, rep_pair hT (hS.free hT) (by simp only [Rep]) rv⟩
  keep := fun A H S A' H' S' hS h e hS' hk => h.keep e hS' hk
end
section
variable {X : Cx} {W : WG} {e e2 a b : Expr} {fa : Env → M (List SV)} {p pos tpos : Pos} {elts : List Expr} {kk : Nat}
theorem di_zipO (h : DA X W [e, e2] fa) (hg : Gl X "zip") (hm : X.mg "zip" = none) (hs : starEach [e, e2] X.env = (false, eval e X.env) :: starEach [e2] X.env := by rfl) (hpl : (backTo pos (starEach [e2] X.env)).any (·.1) = false := by rfl) :
    DI X W (.Tuple elts kk tpos) (.Call (.Name "zip" p) [e, e2] [] pos) (eArg walkZO fa) := by
  obtain ⟨ta, pa, ka⟩ := h
  refine ⟨_, pi_zipA hg hm pa hs hpl, iok_args (o := walkZO) (wk := fun vs H1 R => ∃ a b xs ys, vs = [.ref a, .ref b] ∧ ((SqL X.K H1 a xs ∧ SqL X.K H1 b ys ∧ R (Itz X.K a b) H1) ∨ (SqT X.K H1 a xs ∧ SqT X.K H1 b ys ∧ R (ItzT X.K a b) H1))) ka fun as vs σ H A S r S' hS hx he Rr hp => ?_⟩
  unfold walkZO at he
  split at he
  · rename_i x y
    obtain ⟨v, u, rfl, h1, h2⟩ := reps2 hx
    rcases q1 : seqLO S x with _ | ⟨l1, b1⟩
    · rw [q1] at he; cases he
    · rcases q2 : seqLO S y with _ | ⟨l2, b2⟩
      · rw [q1, q2] at he; cases he
      · rw [q1, q2] at he
        cases he
        obtain ⟨a1, rfl, i1, k1⟩ := seqLO_rep hS h1 q1
        obtain ⟨a2, rfl, i2, k2⟩ := seqLO_rep hS h2 q2
        obtain ⟨vs1, _, sq1⟩ := i1.rd
        obtain ⟨vs2, _, sq2⟩ := i2.rd
        exact ⟨a1, a2, vs1, vs2, rfl, .inl ⟨sq1, sq2, hp _ _ A H (Ext.refl A H) hS jok_zipO ⟨i1, i2⟩ (fun q hq => (List.mem_append.mp hq).elim (k1 q) (k2 q))⟩⟩
  · cases he
theorem di_enumO (h : DA X W [e] fa) (hg : Gl X "enumerate") (hm : X.mg "enumerate" = none) (hs : starEach [e] X.env = [(false, eval e X.env)] := by rfl) :
    DI X W (.Tuple elts kk tpos) (.Call (.Name "enumerate" p) [e] [] pos) (eArg walkEO fa) := by
  obtain ⟨ta, pa, ka⟩ := h
  refine ⟨_, pi_enumA hg hm pa hs, iok_args (o := walkEO) (wk := fun vs H1 R => ∃ a xs, vs = [.ref a] ∧ ((SqL X.K H1 a xs ∧ R (Ite X.K a) H1) ∨ (SqT X.K H1 a xs ∧ R (IteT X.K a) H1))) ka fun as vs σ H A S r S' hS hx he Rr hp => ?_⟩
  unfold walkEO at he
  split at he
  · rename_i x
    obtain ⟨v, rfl, h1⟩ := reps1 hx
    rcases q1 : seqLO S x with _ | ⟨l1, b1⟩
    · rw [q1] at he; cases he
    · rw [q1] at he
      cases he
      obtain ⟨a1, rfl, i1, k1⟩ := seqLO_rep hS h1 q1
      obtain ⟨vs1, _, sq1⟩ := i1.rd
      exact ⟨a1, vs1, rfl, .inl ⟨sq1, hp _ _ A H (Ext.refl A H) hS jok_enumO i1 k1⟩⟩
  · cases he
end
def valK (l : List (Key × D)) (k : Key) : Option D := (l.find? fun kv => decide (kv.1 = k)).map (·.2)
open Classical in
noncomputable def bDictZ : List SV → M SV
  | [x, y] => fun S => match items S x, items S y with
    | some l, some m => match keyL l with
      | some ks => if ((ks.zip m).map (·.1)).Nodup then some (.ok (.d (.dkk ((ks.zip m).map (·.1)) ((ks.zip m).map (·.2)))), S) else none
      | none => none
    | _, _ => none
  | _ => stuck
def isDkk : SV → M SV
  | .d (.dkk ks l) => ret (.d (.dkk ks l))
  | _ => stuck
def oGetK (x y z : SV) : M SV := match x, y with
  | .d (.dkk ks l), .d d => match key1 d with
    | some k => match valK (ks.zip l) k with
      | some d => ret (.d d)
      | none => ret z
    | none => stuck
  | _, _ => stuck
def eGetK (fo fi fz : Env → M SV) : Env → M SV := fun env => bnd (bnd (fo env) isDkk) fun x => bnd (fi env) fun y => bnd (fz env) fun z => oGetK x y z
section
variable {X : Cx} {W : WG} {e e2 o i z : Expr} {ta : TA} {fa : Env → M (List SV)} {fo fi fz : Env → M SV} {p p2 pos pos2 apos cpos : Pos} {k : Nat}
theorem reps_zip {K : PySem.W.Frag} {mg : Str → Option Value} {A : List Addr} {H : Hp} : ∀ {ks : List Key} {m : List D} {vs : List V}, Reps K mg A H m vs → ∃ kvs : List (Key × V), kvs = ks.zip vs ∧ kvs.map (·.1) = (ks.zip m).map (·.1) ∧ Reps K mg A H ((ks.zip m).map (·.2)) (kvs.map (·.2))
  | [], m, vs, h => ⟨[], by simp, by simp, by simp [Reps]⟩
  | k :: ks, [], vs, h => by
    simp only [Reps] at h
    subst h
    exact ⟨[], by simp, by simp, by simp [Reps]⟩
  | k :: ks, d :: m, vs, h => by
    simp only [Reps] at h
    obtain ⟨v, r, rfl, h1, h2⟩ := h
    obtain ⟨kvs, e1, e2, e3⟩ := reps_zip (ks := ks) h2
    refine ⟨(k, v) :: kvs, by rw [e1]; rfl, by simp [e2], ?_⟩
    simp only [List.zip_cons_cons, List.map_cons, Reps]
    exact ⟨v, _, rfl, h1, e3⟩
theorem de_dictZip (hc : X.calm = true) (hgl : Gl X "dict") (hml : X.mg "dict" = none) (hgz : Gl X "zip") (hmz : X.mg "zip" = none) (ha : DA X W [e, e2] fa)
    (hs : starEach [e, e2] X.env = (false, eval e X.env) :: starEach [e2] X.env := by rfl) (hpl : (backTo pos2 (starEach [e2] X.env)).any (·.1) = false := by rfl)
    (he : starEach [.Call (.Name "zip" p2) [e, e2] [] pos2] X.env = (false, eval (.Call (.Name "zip" p2) [e, e2] [] pos2) X.env) :: starEach [] X.env := by rfl) :
    DE X W (.Call (.Name "dict" p) [.Call (.Name "zip" p2) [e, e2] [] pos2] [] pos) (eArg bDictZ fa) := by
  obtain ⟨ta, pa, ka⟩ := ha
  refine ⟨_, pe_dictZip hc hgl hml hgz hmz pa hs hpl he, ?_⟩
  refine tbind (rel := relA X.K (gm X W)) (rel2 := relS X.K (gm X W)) (g := fun _ x => bDictZ x) (tk := fun vs _ H1 Q => ∃ a b xs ys, ∃ kvs : List (Key × V), vs = [.ref a, .ref b] ∧ SqL X.K H1 a xs ∧ SqL X.K H1 b ys ∧ kvs.length = min xs.length ys.length ∧ (∀ (i : Nat) (k : Key) (v : V), kvs[i]? = some (k, v) → xs[i]? = some (kV k) ∧ ys[i]? = some v) ∧
    ∀ q, H1 q = none → Q (.ref q) (upd H1 q (.dK (mergeK [] kvs)))) ka fun as vs σ H A S env r S' hS hE hx he Q hp => ?_
  unfold bDictZ at he
  split at he
  · rename_i x y
    obtain ⟨v, u, rfl, h1, h2⟩ := reps2 hx
    rcases q1 : items S x with _ | l
    · rw [q1] at he; cases he
    · rcases q2 : items S y with _ | m
      · rw [q1, q2] at he; cases he
      · rw [q1, q2] at he
        dsimp only at he
        rcases q3 : keyL l with _ | ks
        · rw [q3] at he; cases he
        · rw [q3] at he
          dsimp only at he
          by_cases hn : ((ks.zip m).map (·.1)).Nodup
          · rw [if_pos hn] at he
            cases he
            obtain ⟨a, vs1, rfl, hh1, r1⟩ := items_rep hS h1 q1
            obtain ⟨b, vs2, rfl, hh2, r2⟩ := items_rep hS h2 q2
            have ek := keyL_rep r1 q3
            obtain ⟨kvs, e1, e2, e3⟩ := reps_zip (ks := ks) r2
            refine ⟨a, b, vs1, vs2, kvs, rfl, SqL.of hh1, SqL.of hh2, by rw [e1, ek]; simp, fun i k v ev => ?_, fun q hq => ?_⟩
            · rw [e1] at ev
              obtain ⟨g1, g2⟩ := List.getElem?_zip_eq_some.mp ev
              exact ⟨by rw [ek, List.getElem?_map, g1]; rfl, g2⟩
            · refine hp.new hS hq ?_
              show Rep X.K X.mg A (upd H q (.dK (mergeK [] kvs))) (.dkk ((ks.zip m).map (·.1)) ((ks.zip m).map (·.2))) (.ref q)
              simp only [Rep]
              refine ⟨q, kvs.map (·.2), rfl, hS.free hq, ?_, ?_, Reps.mono (Ext.new hq) _ _ e3⟩
              · rw [upd_same, mergeK_new kvs [] (by rw [List.nil_append, e2]; exact hn), List.nil_append, ← e2, zip_self']
              · rw [← e2]; simp
          · rw [if_neg hn] at he; cases he
  · cases he
theorem key1_rep {K : PySem.W.Frag} {mg : Str → Option Value} {A : List Addr} {H : Hp} {d : D} {v : V} {k : Key} (h : Rep K mg A H d v) (e : key1 d = some k) : v = kV k := by
  cases d <;> first | cases e | skip
  · simp only [Rep] at h; rw [h]; rfl
  · simp only [Rep] at h; rw [h]; rfl
theorem valK_rep {K : PySem.W.Frag} {mg : Str → Option Value} {A : List Addr} {H : Hp} (k : Key) : ∀ {ks : List Key} {l : List D} {vs : List V}, Reps K mg A H l vs → (∀ d, valK (ks.zip l) k = some d → ∃ v, valV (ks.zip vs) k = some v ∧ Rep K mg A H d v) ∧ (valK (ks.zip l) k = none → valV (ks.zip vs) k = none)
  | [], l, vs, h => by simp [valK, valV]
  | j :: ks, [], vs, h => by simp only [Reps] at h; subst h; simp [valK, valV]
  | j :: ks, d :: l, vs, h => by
    simp only [Reps] at h
    obtain ⟨v, r, rfl, h1, h2⟩ := h
    have ih := valK_rep k (ks := ks) h2
    rw [List.zip_cons_cons, List.zip_cons_cons]
    by_cases e : j = k
    · have a : valK ((j, d) :: ks.zip l) k = some d := by simp [valK, List.find?_cons, e]
      rw [a, valV_pos (p := (j, v)) e]
      exact ⟨fun d' z => by cases z; exact ⟨_, rfl, h1⟩, fun z => by cases z⟩
    · have a : valK ((j, d) :: ks.zip l) k = valK (ks.zip l) k := by simp [valK, List.find?_cons, e]
      rw [a, valV_neg (p := (j, v)) e]
      exact ih
theorem de_getK (hr : Room k X.A) (ho : DE X W o fo) (hi : DE X W i fi) (hz : DE X W z fz) (m : M2 X o "get" apos i z cpos := by exact ⟨rfl, rfl, rfl, rfl⟩) : DE X W (.Call (.Attribute o "get" apos) [i, z] [] cpos) (eGetK fo fi fz) := by
  obtain ⟨to, po, ko⟩ := ho
  obtain ⟨ti, pi, ki⟩ := hi
  obtain ⟨tz, pz, kz⟩ := hz
  refine ⟨_, pe_dget2 (d1 hr) po pi pz m, ?_⟩
  intro σ H A S env r S' hS hE he Q hp
  rcases bnd_some he with ⟨x1, S1, ef, q⟩ | ⟨c, fs, l, ef, rfl⟩
  · rcases bnd_some ef with ⟨x0, S0, ef0, ef1⟩ | ⟨_, _, _, _, z⟩
    · refine ko σ H A S env _ S0 hS hE ef0 _ fun vo A1 H1 e1 s1 r1 => ?_
      unfold isDkk at ef1
      split at ef1
      · rename_i ks l
        cases ef1
        have h1 : Rep X.K X.mg A1 H1 (.dkk ks l) vo := r1
        simp only [Rep] at h1
        obtain ⟨a, vs, rfl, hn, hH, hl, rr⟩ := h1
        refine ⟨a, rfl, .inl ⟨_, .inl hH⟩, ?_⟩
        rcases bnd_some q with ⟨y1, S2, ef2, q2⟩ | ⟨c, fs, l, ef2, rfl⟩
        · refine ki σ H1 A1 _ env _ S2 s1 (hE.mono e1) ef2 _ fun vi A2 H2 e2 s2 r2 => ?_
          rcases bnd_some q2 with ⟨z1, S3, ef3, q3⟩ | ⟨c, fs, l, ef3, rfl⟩
          · refine kz σ H2 A2 _ env _ S3 s2 ((hE.mono e1).mono e2) ef3 _ fun vz A3 H3 e3 s3 r3 => ?_
            have hH3 : H3 a = some (.dK (ks.zip vs)) := (e2.trans e3).keep _ _ hH hn
            have rr3 := Reps.mono (e2.trans e3) _ _ rr
            unfold oGetK at q3
            cases y1 with
            | d d =>
              dsimp only at q3
              rcases ek : key1 d with _ | kk
              · rw [ek] at q3; cases q3
              · rw [ek] at q3
                dsimp only at q3
                have ev := key1_rep (show Rep X.K X.mg A2 H2 d vi from r2) ek
                subst ev
                refine ⟨valV (ks.zip vs) kk, .inl ⟨_, kk, .inl hH3, rfl, rfl⟩, ?_⟩
                rcases eq : valK (ks.zip l) kk with _ | d2
                · rw [eq] at q3
                  cases q3
                  rw [(valK_rep kk rr3).2 eq]
                  exact hp _ A3 H3 ((e1.trans e2).trans e3) s3 r3
                · rw [eq] at q3
                  cases q3
                  obtain ⟨v, hv, rv⟩ := (valK_rep kk rr3).1 d2 eq
                  rw [hv]
                  exact hp _ A3 H3 ((e1.trans e2).trans e3) s3 rv
            | _ => cases q3
          · exact kz σ H2 A2 _ env _ _ s2 ((hE.mono e1).mono e2) ef3 _ fun C dd A' H' hc e s r => hp C dd A' H' hc ((e1.trans e2).trans e) s r
        · exact ki σ H1 A1 _ env _ _ s1 (hE.mono e1) ef2 _ fun C dd A' H' hc e s r => hp C dd A' H' hc (e1.trans e) s r
      · cases ef1
    · cases z
  · rcases bnd_some ef with ⟨x0, S0, ef0, ef1⟩ | ⟨c', fs', l', ef0, z⟩
    · unfold isDkk at ef1
      split at ef1 <;> cases ef1
    · cases z
      exact ko σ H A S env _ _ hS hE ef0 _ fun C dd A' H' hc e s r => hp C dd A' H' hc e s r
end
end DL
namespace DL
open PySem L2
def dicOf (S : Store) (k : Nat) : Option KD := match S[k]? with
  | some [.dct ks l] => some (ks.zip l)
  | _ => none
section
variable {K : PySem.W.Frag} {g : Gm} {A : List Addr} {H : Hp} {S : Store}
theorem Sta.dic {k : Nat} {a : Addr} {l : KD} (s : Sta K g A H S) (h1 : A[k]? = some a) (h0 : (∃ kvs, H a = some (.dT kvs)) ∨ ∃ kvs, H a = some (.dK kvs)) (e : dicOf S k = some l) : ∃ kvs, H a = some (.dT kvs) ∧ KR K g.m A H l kvs := by
  unfold dicOf at e
  split at e
  · rename_i ks l0 eS
    cases e
    rcases s.at' k a _ h1 eS with ⟨vs, hv, _⟩ | ⟨c, fs, l, C, dx, vs, z, _⟩ | ⟨ks', l', vs, z, hv, hl, r⟩ | ⟨ks', l', vs, z, _⟩
    · rcases h0 with ⟨_, h0⟩ | ⟨_, h0⟩ <;> · rw [hv] at h0; cases h0
    · cases z
    · cases z
      exact ⟨_, hv, KR.of hl r⟩
    · cases z
  · cases e
end
end DL
namespace DL
open PySem L2
section
variable {K : PySem.W.Frag} {mg : Str → Option Value} {A : List Addr} {H : Hp}
theorem KR.some {l : KD} {kvs : List (List L2.Key × V)} (h : KR K mg A H l kvs) (k : List L2.Key) : (valV kvs k).isSome = (valD l k).isSome := by
  rcases e : valD l k with _ | d
  · rw [(h.val k).2 e]; rfl
  · obtain ⟨v, hv, _⟩ := (h.val k).1 d e
    rw [hv]; rfl
end
end DL
namespace DL
open PySem L2
end DL
namespace DL
open PySem L2
end DL
namespace DL
open PySem L2
end DL
namespace DL
open PySem L2
end DL
namespace DL
open PySem L2
end DL
namespace DL
open PySem L2
end DL
namespace DL
open PySem L2 PySem.Spec PyProof.Rows
end DL
namespace DL
open PySem L2 PySem.Spec PyProof.Rows
end DL
namespace DL
open PySem L2 PySem.Spec PyProof.Rows
end DL
namespace DL
open PySem L2 PySem.Spec PyProof.Rows
end DL
namespace DL
open PySem L2
/-- data that is no object -/
def flatD : D → Bool
  | .non => true
  | .bl _ => true
  | .int _ => true
  | .str _ => true
  | _ => false
theorem flat_rep {K : PySem.W.Frag} {mg : Str → Option Value} {A A' : List Addr} {H H' : Hp} : ∀ {d : D} {v : V}, flatD d = true → Rep K mg A H d v → Rep K mg A' H' d v
  | .non, v, _, h => by simpa only [Rep] using h
  | .bl b, v, _, h => by simpa only [Rep] using h
  | .int i, v, _, h => by simpa only [Rep] using h
  | .str x, v, _, h => by simpa only [Rep] using h
end DL
namespace DL
open PySem L2
def oIdxX (x y : SV) : M SV := match x, y with
  | .ptr k, .d (.int i) => fun S => match S[k]? with
    | some l => match atI l i with
      | some (.own j) => some (.ok (.ptr j), S)
      | some d => some (.ok (.d d), S)
      | none => none
    | none => none
  | x, y => oIdx x y
section
variable {X : Cx} {W : WG} {a b : Expr} {f g : Env → M SV} {pos : Pos}
theorem atI_repF {K : PySem.W.Frag} {mg : Str → Option Value} {A : List Addr} {H : Hp} {l : List D} {vs : List V} {i : Int} {d : D} (r : RepFs K mg A H l vs) (e : atI l i = some d) : ∃ v, atI vs i = some v ∧ RepF K mg A H d v := by
  unfold atI at e ⊢
  rw [← r.length]
  rcases ej : ixN l.length i with _ | j
  · rw [ej] at e; cases e
  · rw [ej] at e
    exact r.get e
theorem rok_idxX : ROk X W (rIx X.K) oIdxX := by
  intro a b x y σ H A S rr S' hS hx hy he Q hp
  unfold oIdxX at he
  split at he
  · rename_i k i
    have h2 : Rep X.K X.mg A H (.int i) y := hy
    simp only [Rep] at h2
    rcases eS : S[k]? with _ | l
    · rw [eS] at he; cases he
    · rw [eS] at he
      dsimp only at he
      obtain ⟨p, h1, h3, h0⟩ := (show RepS X.K (gm X W) A H (.ptr k) x from hx)
      obtain ⟨vs, hv, r⟩ := hS.lst h1 h0 eS
      rcases ed : atI l i with _ | d
      · rw [ed] at he; cases he
      · rw [ed] at he
        obtain ⟨v, e3, e4⟩ := atI_repF r ed
        refine .inl ⟨p, vs, i, v, h3, h2, SqL.of hv, e3, ?_⟩
        cases d <;> (dsimp only at he; cases he) <;> first | exact hp.val hS (show RepS X.K (gm X W) A H (.ptr _) v from e4) | exact hp.val hS (show RepS X.K (gm X W) A H (.d _) v from e4)
  · exact rok_idx _ _ x y σ H A S rr S' hS hx hy he Q hp
theorem de_idxX (ha : DE X W a f) (hb : DE X W b g) (hs : PlainIx b := by exact fun _ _ => rfl) : DE X W (.Subscript a b pos) (eOp oIdxX f g) := by
  obtain ⟨ta, pa, ka⟩ := ha
  obtain ⟨tb, pb, kb⟩ := hb
  exact ⟨_, pe_ix ix_seq pa pb hs, tbind2 ka kb fun x y u v σ H A S r S' hS hx hy he Q hp => rok_idxX x y u v σ H A S r S' hS hx hy he Q hp⟩
theorem lend_list {K : PySem.W.Frag} {g : Gm} {A : List Addr} {H : Hp} {S : Store} (s : Sta K g A H S) : ∀ {ds ds' : List D} {vs : List V}, RepFs K g.m A H ds vs → frzL 0 S ds = some ds' → Reps K g.m [] H ds' vs
  | [], ds', vs, h, e => by
    cases e
    have : vs = [] := h
    subst this
    simp only [Reps]
  | d :: ds, ds', vs, ⟨v, r, e1, h1, h2⟩, e => by
    unfold frzL at e
    rcases e3 : frzD 0 S d with _ | x
    · rw [e3] at e; cases e
    · rcases e4 : frzL 0 S ds with _ | xs
      · rw [e3, e4] at e; cases e
      · rw [e3, e4] at e
        cases e
        simp only [Reps]
        refine ⟨v, r, e1, ?_, lend_list s h2 e4⟩
        have nil : ∀ a, a ∈ ([] : List Addr) → a ∈ A := fun a h => by cases h
        cases d <;> first | (cases e3; exact Rep.sub nil _ _ h1) | skip
        rename_i j
        obtain ⟨a, g1, g2, g3⟩ := h1
        unfold frzD at e3
        dsimp only at e3
        rw [if_neg (Nat.not_lt_zero j)] at e3
        rcases e5 : S[j]? with _ | l
        · rw [e5] at e3; cases e3
        · rw [e5] at e3
          dsimp only at e3
          by_cases hc : clsd l = true
          · rw [if_pos hc] at e3
            cases e3
            obtain ⟨ws, g4, g5⟩ := s.lstC g1 g3 e5 hc
            simp only [Rep]
            exact ⟨a, ws, g2, List.not_mem_nil, g4, Reps.sub nil _ _ g5⟩
          · rw [if_neg hc] at e3; cases e3
def lendSV (S : Store) : SV → Option SV
  | .d x => some (.d x)
  | .ptr k => match S[k]? with
    | some l => (frzL 0 S l).map fun l' => .d (.lst l')
    | none => none
  | _ => none
def lendEnv (S : Store) (env : Env) : Env := env.map fun s => s.bind (lendSV S)
theorem lend_env {K : PySem.W.Frag} {g : Gm} {A : List Addr} {H : Hp} {S : Store} {σ : St} {env : Env} (s : Sta K g A H S) (h : EnvR K g A H σ env) : EnvR K g [] H σ (lendEnv S env) := by
  refine ⟨by rw [h.len]; unfold lendEnv; rw [List.length_map], fun i sv q => ?_⟩
  unfold lendEnv at q
  rw [List.getElem?_map] at q
  rcases ei : env[i]? with _ | o
  · rw [ei] at q; cases q
  · rw [ei] at q
    cases o with
    | none => cases q
    | some x =>
      have q3 : (lendSV S x) = some sv := by simpa using q
      clear q
      obtain ⟨v, h1, h2⟩ := h.at' i x ei
      refine ⟨v, h1, ?_⟩
      unfold lendSV at q3
      split at q3
      · cases q3
        exact Rep.sub (fun a h => by cases h) _ _ h2
      · rename_i k
        obtain ⟨a, g1, g2, g3⟩ := h2
        rcases eS : S[k]? with _ | l
        · rw [eS] at q3; cases q3
        · rw [eS] at q3
          dsimp only at q3
          rcases ef : frzL 0 S l with _ | l'
          · rw [ef] at q3; cases q3
          · rw [ef] at q3
            cases q3
            obtain ⟨vs, hv, r⟩ := s.lst g1 g3 eS
            show Rep K g.m [] H (.lst l') v
            simp only [Rep]
            exact ⟨a, vs, g2, List.not_mem_nil, hv, lend_list s r ef⟩
      · cases q3
def sLend (F : SM) : SM := fun env S => match F (lendEnv S env) [] with
  | some (.rt (.d x), S1) => if flatD x = true then some (.rt (.d x), S) else none
  | _ => none
theorem keep_ext {A A' : List Addr} {H H' : Hp} (e : Ext [] H A' H') : Ext A H A H' := ⟨⟨[], by simp, by simp⟩, fun a o h _ => e.keep a o h List.not_mem_nil, e.dom, fun a vs h => ⟨vs, e.keep a _ h List.not_mem_nil⟩, fun a C dx fs h => ⟨fs, e.keep a _ h List.not_mem_nil⟩, fun a kv h => ⟨kv, e.keep a _ h List.not_mem_nil⟩, fun a kv h => ⟨kv, e.keep a _ h List.not_mem_nil⟩⟩
theorem dss_lend {sts : List Stmt} {F : SM} (h : DSs X W sts F) : DSs X W sts (sLend F) := by
  obtain ⟨t, p, k⟩ := h
  refine ⟨t, p, fun σ H A S env o S' hS hE he Dn hp => ?_⟩
  unfold sLend at he
  split at he
  · rename_i x S1 ef
    by_cases hf : flatD x = true
    · rw [if_pos hf] at he
      cases he
      have s0 : Sta X.K (gm X W) [] H [] := ⟨List.nodup_nil, rfl, fun k a ds h _ => by simp at h, W.sub (fun a h => by cases h) hS.gh⟩
      refine k σ H [] [] _ _ S1 s0 (lend_env hS hE) ef Dn fun v A1 H1 e s r => ?_
      have e2 : Ext A H A H1 := keep_ext e
      refine hp v A H1 e2 ⟨hS.nd, hS.len, fun j b ds h1 h2 => ?_, W.mono e2 hS.gh⟩ (flat_rep hf r)
      have q := hS.at' j b ds h1 h2
      obtain ⟨o, h3⟩ := q.none
      exact q.mono e2 (by rw [e.keep b o h3 List.not_mem_nil, h3])
    · rw [if_neg hf] at he; cases he
  · cases he
end
end DL
namespace DL
open PySem L2 PySem.Spec PyProof.Rows
end DL
namespace DL
open PySem L2
end DL
namespace DL
open PySem L2
section
variable {X : Cx} {W : WG} {st : Stmt} {o : Expr} {fo : Env → M SV}
def sClearX (fo : Env → M SV) : SM := fun env => lift env (bnd (bnd (fo env) asPtr) fun k => bnd (aNil env) fun v => ret (k, v)) fun q S => match S[q.1]? with
  | some _ => some (.nx env, S.set q.1 [])
  | none => none
end
end DL
namespace DL
open PySem
@[elab_as_elim] theorem ofN1 {motive : List Value → Prop} (us : List Value) (hl : us.length = 1) (h : ∀ a0 : Value, motive [a0]) : motive us := match us, hl with
  | [a0], _ => h a0
@[elab_as_elim] theorem ofN2 {motive : List Value → Prop} (us : List Value) (hl : us.length = 2) (h : ∀ a0 a1 : Value, motive [a0, a1]) : motive us := match us, hl with
  | [a0, a1], _ => h a0 a1
@[elab_as_elim] theorem ofN3 {motive : List Value → Prop} (us : List Value) (hl : us.length = 3) (h : ∀ a0 a1 a2 : Value, motive [a0, a1, a2]) : motive us := match us, hl with
  | [a0, a1, a2], _ => h a0 a1 a2
@[elab_as_elim] theorem ofN4 {motive : List Value → Prop} (us : List Value) (hl : us.length = 4) (h : ∀ a0 a1 a2 a3 : Value, motive [a0, a1, a2, a3]) : motive us := match us, hl with
  | [a0, a1, a2, a3], _ => h a0 a1 a2 a3
@[elab_as_elim] theorem ofN5 {motive : List Value → Prop} (us : List Value) (hl : us.length = 5) (h : ∀ a0 a1 a2 a3 a4 : Value, motive [a0, a1, a2, a3, a4]) : motive us := match us, hl with
  | [a0, a1, a2, a3, a4], _ => h a0 a1 a2 a3 a4
end DL
namespace DL
open PySem L2
open PyProof.Rows (step_dedup firstMet IntsAre)
section
variable {X : Cx} {W : WG} {a : Expr} {f : Env → M SV} {p p2 q pos : Pos}
def asTA (x : SV) : M Bool := fun S => match x with
  | .d .non => some (.ok false, S)
  | x => match seqOf S x with
    | some l => some (.ok (!l.isEmpty), S)
    | none => none
def eTruA (f : Env → M SV) : Env → M Bool := fun env => bnd (f env) asTA
end
end DL
namespace DL
open PySem L2
section
variable {K : PySem.W.Frag} {A : List Addr} {H : Hp}
theorem Sta.cut {g : Gm} {S : Store} {l : List Addr} (s : Sta K g (A ++ l) H S) (c : ∀ (k : Nat) (ds : List D), k < A.length → S[k]? = some ds → CalC A.length ds) : Sta K g A H (S.take A.length) := by
  refine ⟨(List.nodup_append.mp s.nd).1, ?_, fun k a ds h1 h2 => ?_, g.sub (fun _ m => List.mem_append_left _ m) s.gh⟩
  · rw [List.length_take, s.len, List.length_append]; omega
  · have hk := (List.getElem?_eq_some_iff.mp h1).1
    rw [List.getElem?_take_of_lt hk] at h2
    exact (s.at' k a ds (by rw [List.getElem?_append_left hk]; exact h1) h2).to rfl (fun ds vs => Reps.anti ds vs) (fun vs q => q.sub (fun _ m => List.mem_append_left _ m) fun j hj => (List.getElem?_append_left ((c k ds hk h2).1 j hj)).symm) fun c' fs l' vs e q => q.sub (fun _ m => List.mem_append_left _ m) fun j hj => (List.getElem?_append_left ((c k ds hk h2).2 c' fs l' e j hj)).symm
theorem not_take {q j : Nat} {a : Addr} (nd : A.Nodup) (hq : q ≤ j) (h : A[j]? = some a) : a ∉ A.take q := fun m => by
  have e : A = A.take q ++ A.drop q := (List.take_append_drop q A).symm
  rw [e] at nd
  have hd : a ∈ A.drop q := List.mem_iff_getElem?.mpr ⟨j - q, by rw [List.getElem?_drop, show q + (j - q) = j by omega]; exact h⟩
  exact (List.nodup_append.mp nd).2.2 a m a hd rfl
theorem lend_listQ {g : Gm} {S : Store} (q : Nat) (s : Sta K g A H S) : ∀ {ds ds' : List D} {vs : List V}, RepFs K g.m A H ds vs → frzL q S ds = some ds' → clsd ds' = true → Reps K g.m (A.take q) H ds' vs
  | [], ds', vs, h, e, _ => by
    cases e
    have : vs = [] := h
    subst this
    simp only [Reps]
  | d :: ds, ds', vs, ⟨v, r, e1, h1, h2⟩, e, hc => by
    unfold frzL at e
    rcases e3 : frzD q S d with _ | x
    · rw [e3] at e; cases e
    · rcases e4 : frzL q S ds with _ | xs
      · rw [e3, e4] at e; cases e
      · rw [e3, e4] at e
        cases e
        have hc' : isOwn x = false ∧ clsd xs = true := by
          simp only [clsd, List.any_cons, Bool.not_or, Bool.and_eq_true, Bool.not_eq_true'] at hc
          exact ⟨hc.1, by simpa [clsd] using hc.2⟩
        simp only [Reps]
        refine ⟨v, r, e1, ?_, lend_listQ q s h2 e4 hc'.2⟩
        have sub : ∀ a, a ∈ A.take q → a ∈ A := fun a h => List.mem_of_mem_take h
        cases d <;> first | (cases e3; exact Rep.sub sub _ _ h1) | skip
        rename_i j
        obtain ⟨a, g1, g2, g3⟩ := h1
        unfold frzD at e3
        dsimp only at e3
        by_cases hj : j < q
        · rw [if_pos hj] at e3
          cases e3
          cases hc'.1
        rw [if_neg hj] at e3
        rcases e5 : S[j]? with _ | l
        · rw [e5] at e3; cases e3
        · rw [e5] at e3
          dsimp only at e3
          by_cases hcl : clsd l = true
          · rw [if_pos hcl] at e3
            cases e3
            obtain ⟨ws, g4, g5⟩ := s.lstC g1 g3 e5 hcl
            simp only [Rep]
            exact ⟨a, ws, g2, not_take s.nd (Nat.le_of_not_lt hj) g1, g4, Reps.sub sub _ _ g5⟩
          · rw [if_neg hcl] at e3; cases e3
end
def lendQ (q : Nat) (S : Store) : SV → Option SV
  | .d x => some (.d x)
  | .ptr k => if k < q then some (.ptr k) else match S[k]? with
    | some l => match frzL q S l with
      | some l' => if clsd l' = true then some (.d (.lst l')) else none
      | none => none
    | none => none
  | _ => none
def lendEnvQ (q : Nat) (S : Store) (env : Env) : Env := env.map fun s => s.bind (lendQ q S)
theorem lend_envQ {K : PySem.W.Frag} {g : Gm} {A : List Addr} {H : Hp} {S : Store} {σ : St} {env : Env} (q : Nat) (s : Sta K g A H S) (h : EnvR K g A H σ env) : EnvR K g (A.take q) H σ (lendEnvQ q S env) := by
  refine ⟨by rw [h.len]; unfold lendEnvQ; rw [List.length_map], fun i sv e => ?_⟩
  unfold lendEnvQ at e
  rw [List.getElem?_map] at e
  have sub : ∀ a, a ∈ A.take q → a ∈ A := fun a h => List.mem_of_mem_take h
  rcases ei : env[i]? with _ | o
  · rw [ei] at e; cases e
  · rw [ei] at e
    cases o with
    | none => cases e
    | some x =>
      have q3 : (lendQ q S x) = some sv := by simpa using e
      clear e
      obtain ⟨v, h1, h2⟩ := h.at' i x ei
      refine ⟨v, h1, ?_⟩
      cases x with
      | d x =>
        cases q3
        exact Rep.sub sub _ _ h2
      | ptr k =>
        obtain ⟨a, g1, g2, g3⟩ := h2
        unfold lendQ at q3
        dsimp only at q3
        by_cases hk : k < q
        · rw [if_pos hk] at q3
          cases q3
          exact ⟨a, by rw [List.getElem?_take_of_lt hk]; exact g1, g2, g3⟩
        · rw [if_neg hk] at q3
          rcases eS : S[k]? with _ | l
          · rw [eS] at q3; cases q3
          · rw [eS] at q3
            dsimp only at q3
            rcases ef : frzL q S l with _ | l'
            · rw [ef] at q3; cases q3
            · rw [ef] at q3
              dsimp only at q3
              by_cases hc : clsd l' = true
              · rw [if_pos hc] at q3
                cases q3
                obtain ⟨vs, hv, r⟩ := s.lst g1 g3 eS
                show Rep K g.m (A.take q) H (.lst l') v
                simp only [Rep]
                exact ⟨a, vs, g2, not_take s.nd (Nat.le_of_not_lt hk) g1, hv, lend_listQ q s r ef hc⟩
              · rw [if_neg hc] at q3; cases q3
      | _ => cases q3
def plainL (l : List D) : Bool := clsd l && match l with
  | [.ins _ _ _] => false
  | _ => true
theorem plain_cal {n : Nat} {l : List D} (h : plainL l = true) : CalC n l := by
  unfold plainL at h
  rw [Bool.and_eq_true] at h
  refine ⟨fun j hj => ?_, fun c fs l' e => ?_⟩
  · have h1 := h.1
    unfold clsd at h1
    have : l.any isOwn = true := List.any_eq_true.mpr ⟨_, hj, rfl⟩
    rw [this] at h1
    cases h1
  · subst e
    exact absurd h.2 (by simp)
def sLendQ (q : Nat) (F : SM) : SM := fun env S => if q ≤ S.length ∧ (S.take q).all plainL = true then match F (lendEnvQ q S env) (S.take q) with
  | some (.rt (.d x), S1) => some (.rt (.d x), S1)
  | _ => none else none
def TSOk (K : PySem.W.Frag) (mg : Gm) (W : WG) (q : Nat) (t : TS) (F : SM) : Prop :=
  ∀ (σ : St) (H : Hp) (A : List Addr) (S : Store) (env : Env) (A0 : List Addr) (H0 : Hp) (x : D) (S' : Store), A0.length ≤ q → Ext A0 H0 A H → Sta K mg A H S → EnvR K mg A H σ env → F env S = some (.rt (.d x), S') →
    ∀ Dn : Ends, (∀ v A' H', Ext A0 H0 A' H' → Sta K mg A' H' S' → Rep K mg.m A' H' x v → Dn.rt v H') → t Dn σ H
section
variable {X : Cx} {W : WG} {F G : SM} {st : Stmt} {rest : List Stmt}
def DTq (X : Cx) (W : WG) (q : Nat) (st : List Stmt) (F : SM) : Prop := ∃ t : TS, PSs X st t ∧ TSOk X.K (gm X W) W q t F
theorem ext_cut {q : Nat} {A0 A A1 : List Addr} {H0 H H1 : Hp} (e : Ext A0 H0 A H) (hq : A0.length ≤ q) (f : Ext (A.take q) H A1 H1) : Ext A0 H0 A1 H1 := by
  have ht : ∀ a, a ∈ A.take q → a ∈ A0 ∨ H0 a = none := fun a ha => by
    obtain ⟨l, rfl, hl⟩ := e.app
    rcases List.mem_append.mp (List.mem_of_mem_take ha) with z | z
    · exact .inl z
    · exact .inr (hl a z)
  refine ⟨?_, fun a o h n => f.keep a o (e.keep a o h n) fun m => ?_, fun a h => e.dom a (f.dom a h), fun a vs h => let ⟨_, h1⟩ := e.kl a vs h; f.kl a _ h1, fun a C dx fs h => let ⟨_, h1⟩ := e.ki a C dx fs h; f.ki a _ _ _ h1, fun a kv h => let ⟨_, h1⟩ := e.kt a kv h; f.kt a _ h1, fun a kv h => let ⟨_, h1⟩ := e.kk a kv h; f.kk a _ h1⟩
  · obtain ⟨l, rfl, hl⟩ := e.app
    obtain ⟨m, rfl, hm⟩ := f.app
    refine ⟨l.take (q - A0.length) ++ m, by rw [List.take_append, List.take_of_length_le hq, List.append_assoc], fun p hp => ?_⟩
    rcases List.mem_append.mp hp with z | z
    · exact hl p (List.mem_of_mem_take z)
    · exact e.dom p (hm p z)
  · rcases ht a m with z | z
    · exact n z
    · rw [z] at h; cases h
theorem dts_lend {sts : List Stmt} (q : Nat) (h : DSs X W sts F) : DTq X W q sts (sLendQ q F) := by
  obtain ⟨t, p, k⟩ := h
  refine ⟨t, p, fun σ H A S env A0 H0 x S' hq e0 hS hE he Dn hp => ?_⟩
  unfold sLendQ at he
  by_cases hg : q ≤ S.length ∧ (S.take q).all plainL = true
  · rw [if_pos hg] at he
    have hl : (A.take q).length = q := by rw [List.length_take, ← hS.len]; omega
    have s0 : Sta X.K (gm X W) (A.take q) H (S.take q) := by
      have c := Sta.cut (A := A.take q) (l := A.drop q) (g := gm X W) (S := S) (by rw [List.take_append_drop]; exact hS) fun k ds hk hd => plain_cal (by
        refine List.all_eq_true.mp hg.2 ds (List.mem_iff_getElem?.mpr ⟨k, ?_⟩)
        rw [List.getElem?_take_of_lt (by omega)]; exact hd)
      rw [hl] at c
      exact c
    split at he
    · rename_i x1 S1 ef
      cases he
      exact k σ H (A.take q) (S.take q) _ _ _ s0 (lend_envQ q hS hE) ef Dn fun v A1 H1 e s r => hp v A1 H1 (ext_cut e0 hq e) s r
    · cases he
  · rw [if_neg hg] at he; cases he
theorem dts_cons {q : Nat} (h : DS X W st F) (h2 : DTq X W q rest G) : DTq X W q (st :: rest) (sSeq F G) := by
  obtain ⟨x, p, k⟩ := h
  obtain ⟨y, p2, k2⟩ := h2
  refine ⟨_, pss_cons p p2, fun σ H A S env A0 H0 d S' hq e0 hS hE he Dn hp => ?_⟩
  unfold sSeq at he
  rcases q : F env S with _ | ⟨o1, S1⟩
  · rw [q] at he; cases he
  · rw [q] at he
    cases o1 with
    | nx env1 => exact k σ H A S env _ S1 hS hE q _ fun σ' A' H' e s r => k2 σ' H' A' S1 env1 A0 H0 d S' hq (e0.trans e) s r he Dn hp
    | rt sv => cases he; exact k σ H A S env _ _ hS hE q _ fun v A' H' e s r => hp v A' H' (e0.trans e) s r
    | _ => cases he
end
open Classical in
/-- a def whose tail has its lists lent -/
noncomputable def fnSemT (q np n : Nat) (body : SM) : Fn := fun as S => if as.length = np ∧ S.length ≤ q then match body (as.map some ++ List.replicate (n - as.length) none) S with
  | some (.rt (.d x), S') => if Cal S S' then some (.ok (.d x), S'.take S.length) else none
  | _ => none else none
section
variable {P : Program} {w : World} {K : PySem.W.Frag} {mg : Str → Option Value} {base : Heap}
theorem spT_len {q np n : Nat} {body : SM} {vs : List V} {H : Hp} {Q : VK} {E : XK} (h : spD K mg (fnSemT q np n body) vs H Q E) : vs.length = np := by
  obtain ⟨A, S, as, r, S', hS, hx, he, _⟩ := h
  unfold fnSemT at he
  by_cases c : as.length = np ∧ S.length ≤ q
  · rw [← hx.len', c.1]
  · rw [if_neg c] at he; cases he
theorem body_doneT {q : Nat} {N : List Str} {body : SM} {vs : List V} {H : Hp} {Q : VK} {E : XK} {np : Nat} {t : TS} (hs : spD K mg (fnSemT q np N.length body) vs H Q E) (k : TSOk K ⟨mg, fun _ _ => True, fun _ _ => trivial, fun _ _ => trivial, none⟩ (wg0 fun cls d _ H => E cls d H) q t body) :
    t { nx := fun _ H' => Q .non H', rt := Q } (L2.start N vs) H := by
  obtain ⟨A, S, as, r, S', hS, hx, he, hp⟩ := hs
  unfold fnSemT at he
  have hl := hx.len'
  by_cases c : as.length = np ∧ S.length ≤ q
  · rw [if_pos c] at he
    have hE : EnvR K (gm0 mg) A H (L2.start N vs) (as.map some ++ List.replicate (N.length - as.length) none) := by
      unfold L2.start
      rw [hl]
      exact start_env _ hx
    have hSl := hS.len
    split at he
    · rename_i x S1 eb
      by_cases cc : Cal S S1
      rotate_left
      · rw [if_neg cc] at he; cases he
      rw [if_pos cc] at he
      cases he
      refine k (L2.start N vs) H A S _ A H x S1 (by rw [← hSl]; exact c.2) (Ext.refl A H) hS hE eb _ fun v A' H' e s q => ?_
      obtain ⟨l, rfl, hll⟩ := e.app
      have s' := hS.drop s cc
      rw [← hSl] at s'
      exact hp v H' e.drop s' (Rep.anti _ _ q)
    · cases he
  · rw [if_neg c] at he; cases he
/-- THE RULE for a def whose tail has its lists lent -/
theorem fnDT {x qual : Str} {st : Stmt} {f : Addr} {fd : FuncData} {N ps : List Str} {k q : Nat} {body : SM} (F : Fun K x qual st f fd) (sc : FnScope N ps (defScope st))
    (hb : ∀ (cdv : Value) (A : Around) (outer : List PySem.Env) (s : Shared) (H : Hp) (E : XK), Room k (A.deeper (PyProof.Rows.envOfC qual (defScope st) s.heap.objs.size f cdv)) →
      DTq (cxOf (L2N.CX P w) P w K mg base N qual (defScope st) f cdv A outer s H E) (wg0 fun cls d _ H => E cls d H) q (defBody st) body) : FnOk P w K mg base (L2N.CX P w) (k + 1) f fd ps (spD K mg (fnSemT q ps.length N.length body)) :=
  by
    obtain ⟨oc, od, kV, doc, pm, an, cdv, ct, osl, rfl, lk, hcd⟩ := F.ex
    exact fn_of lk hcd sc (fun vs H Q E h => spT_len h) fun A outer s H vs Q E hr hs => by
      obtain ⟨t, p, k⟩ := hb cdv A outer s H E hr
      exact ⟨t, p, body_doneT hs k⟩
end
theorem fn_TT {q np n : Nat} {body : SM} {as : List SV} {x : D} {S S1 T : Store} (hl : as.length = np) (hq : S.length ≤ q) (h : body (as.map some ++ List.replicate (n - as.length) none) S = some (.rt (.d x), S1)) (hS : S1 = S ++ T) : fnSemT q np n body as S = some (.ok (.d x), S) := by
  subst hS
  unfold fnSemT
  rw [if_pos ⟨hl, hq⟩, h]
  dsimp only
  rw [if_pos (cal_app _ _), List.take_left]
theorem q_LendQ {q : Nat} {F : SM} {env e' : Env} {S S0 S1 : Store} {x : D} (hq : q ≤ S.length) (hp : (S.take q).all plainL = true) (he : lendEnvQ q S env = e') (h0 : S.take q = S0) (h : F e' S0 = some (.rt (.d x), S1)) : sLendQ q F env S = some (.rt (.d x), S1) := by
  unfold sLendQ
  rw [if_pos ⟨hq, hp⟩, he, h0, h]
end DL
namespace DL
open PySem L2
def pick {α : Type} (b : Bool) (x y : α) : α := if b then x else y
section
variable {env e' : Env} {S S1 S2 S3 S4 : Store}
theorem q_pkT {α : Type} {x y r : α} (h : x = r) : pick true x y = r := h
theorem q_pkF {α : Type} {x y r : α} (h : y = r) : pick false x y = r := h
theorem q_pkNF {α : Type} {x y r : α} (h : x = r) : pick (!false) x y = r := h
theorem q_pkNT {α : Type} {x y r : α} (h : y = r) : pick (!true) x y = r := h
theorem q_go {α : Type} {x y : α} (h : x = y) : x = y := h
theorem q_fin {α : Type} {x y : α} (h : some x = some y) : some x = some y := h
theorem q_leaf {α : Type} {x : Option (R α × Store)} {r : R α × Store} (h : x = some r) : x = some r := h
theorem q_pickT {α : Type} {b : Bool} {x y r : α} (hb : b = true) (h : x = r) : pick b x y = r := by rw [hb]; exact h
theorem q_pickF {α : Type} {b : Bool} {x y r : α} (hb : b = false) (h : y = r) : pick b x y = r := by rw [hb]; exact h
theorem q_pickNT {α : Type} {b : Bool} {x y r : α} (hb : b = false) (h : x = r) : pick (!b) x y = r := by rw [hb]; exact h
theorem q_pickNF {α : Type} {b : Bool} {x y r : α} (hb : b = true) (h : y = r) : pick (!b) x y = r := by rw [hb]; exact h
theorem q_nr {b : Bool} : (!b) = !b := rfl
theorem q_pkAnd {b c : Bool} {x : Option (R SV × Store)} (h : x = some (.ok (.d (.bl c)), S)) : pick b x (some (.ok (.d (.bl false)), S)) = some (.ok (.d (.bl (b && c))), S) := by cases b <;> first | exact h | rfl
theorem q_pkOr {b c : Bool} {x : Option (R SV × Store)} (h : x = some (.ok (.d (.bl c)), S)) : pick b (some (.ok (.d (.bl true)), S)) x = some (.ok (.d (.bl (b || c))), S) := by cases b <;> first | exact h | rfl
theorem q_pkAndB {b c : Bool} {x : Option (R Bool × Store)} (h : x = some (.ok c, S)) : pick b x (some (.ok false, S)) = some (.ok (b && c), S) := by cases b <;> first | exact h | rfl
theorem q_pkOrB {b c : Bool} {x : Option (R Bool × Store)} (h : x = some (.ok c, S)) : pick b (some (.ok true, S)) x = some (.ok (b || c), S) := by cases b <;> first | exact h | rfl
theorem q_nt : (!true) = false := rfl
theorem q_nf : (!false) = true := rfl
theorem q_nn {b : Bool} : (!(!b)) = b := Bool.not_not b
theorem q_ret {α : Type} {m : M α} {a : α} (h : m = ret a) : m S = some (.ok a, S) := by rw [h]; rfl
theorem q_fun {α : Type} {m : M α} {a : α} (h : ∀ S, m S = some (.ok a, S)) : m = ret a := funext h
theorem q_var {i : Nat} {x : SV} (h : env[i]? = some (some x)) : eVar i env S = some (.ok x, S) := by unfold eVar; rw [h]; rfl
theorem q_c {d : D} : eC d env S = some (.ok (.d d), S) := rfl
theorem q_op {o : SV → SV → M SV} {f g : Env → M SV} {x y : SV} {r} (h1 : f env S = some (.ok x, S1)) (h2 : g env S1 = some (.ok y, S2)) (h3 : o x y S2 = r) : eOp o f g env S = r := by
  unfold eOp; rw [bnd_at h1, bnd_at h2, h3]
theorem q_un {o : SV → M SV} {f : Env → M SV} {x : SV} {r} (h1 : f env S = some (.ok x, S1)) (h3 : o x S1 = r) : eUn o f env S = r := by unfold eUn; rw [bnd_at h1, h3]
theorem q_nil : aNil env S = some (.ok [], S) := rfl
theorem q_cons {f : Env → M SV} {fa : Env → M (List SV)} {x : SV} {xs : List SV} (h1 : f env S = some (.ok x, S1)) (h2 : fa env S1 = some (.ok xs, S2)) : aCons f fa env S = some (.ok (x :: xs), S2) := by
  unfold aCons; rw [bnd_at h1, bnd_at h2]; rfl
theorem q_arg {α : Type} {o : List SV → M α} {fa : Env → M (List SV)} {xs : List SV} {r} (h1 : fa env S = some (.ok xs, S1)) (h3 : o xs S1 = r) : eArg o fa env S = r := by unfold eArg; rw [bnd_at h1, h3]
theorem q_call {cv : RR → M SV} {m : Fn} {fa : Env → M (List SV)} {xs : List SV} {r} (h1 : fa env S = some (.ok xs, S1)) (h3 : callM cv m xs S1 = r) : eCall cv m [] fa env S = r := by
  unfold eCall; rw [bnd_at h1, List.append_nil, h3]
theorem q_callD {cv : RR → M SV} {m : Fn} {fa : Env → M (List SV)} {xs : List SV} {d : SV} {r} (h1 : fa env S = some (.ok xs, S1)) (h3 : callM cv m (xs ++ [d]) S1 = r) : eCall cv m [d] fa env S = r := by
  unfold eCall; rw [bnd_at h1, h3]
theorem q_tst {f : Env → M SV} {b : Bool} (h1 : f env S = some (.ok (.d (.bl b)), S1)) : eTst f env S = some (.ok b, S1) := by unfold eTst; rw [bnd_at h1]; rfl
theorem q_tru {f : Env → M SV} {x : SV} {r} (h1 : f env S = some (.ok x, S1)) (h2 : asT x S1 = r) : eTru f env S = r := by unfold eTru; rw [bnd_at h1, h2]
theorem q_truA {f : Env → M SV} {x : SV} {r} (h1 : f env S = some (.ok x, S1)) (h2 : asTA x S1 = r) : eTruA f env S = r := by unfold eTruA; rw [bnd_at h1, h2]
theorem q_not {t : Env → M Bool} {b c : Bool} (h1 : t env S = some (.ok b, S1)) (h2 : (!b) = c) : tyNot t env S = some (.ok c, S1) := by unfold tyNot; rw [bnd_at h1, ← h2]; rfl
theorem q_enot {t : Env → M SV} {b c : Bool} (h1 : t env S = some (.ok (.d (.bl b)), S1)) (h2 : (!b) = c) : eNot t env S = some (.ok (.d (.bl c)), S1) := by
  unfold eNot; rw [bnd_at (show bnd (t env) asB S = some (.ok b, S1) by rw [bnd_at h1]; rfl), ← h2]; rfl
theorem q_yes : tYesD env S = some (.ok true, S) := rfl
theorem q_and {t u : Env → M Bool} {b : Bool} {r} (h1 : t env S = some (.ok b, S1)) (h2 : pick b (u env S1) (some (.ok false, S1)) = r) : tyAnd t u env S = r := by
  unfold tyAnd; rw [bnd_at h1, ← h2]; cases b <;> rfl
theorem q_or {t u : Env → M Bool} {b : Bool} {r} (h1 : t env S = some (.ok b, S1)) (h2 : pick b (some (.ok true, S1)) (u env S1) = r) : tyOr t u env S = r := by
  unfold tyOr; rw [bnd_at h1, ← h2]; cases b <;> rfl
theorem q_eand {f g : Env → M SV} {b : Bool} {r} (h1 : f env S = some (.ok (.d (.bl b)), S1)) (h2 : pick b (g env S1) (some (.ok (.d (.bl false)), S1)) = r) : eAnd f g env S = r := by
  unfold eAnd; rw [bnd_at (show bnd (f env) asB S = some (.ok b, S1) by rw [bnd_at h1]; rfl), ← h2]; cases b <;> rfl
theorem q_eor {f g : Env → M SV} {b : Bool} {r} (h1 : f env S = some (.ok (.d (.bl b)), S1)) (h2 : pick b (some (.ok (.d (.bl true)), S1)) (g env S1) = r) : eOr f g env S = r := by
  unfold eOr; rw [bnd_at (show bnd (f env) asB S = some (.ok b, S1) by rw [bnd_at h1]; rfl), ← h2]; cases b <;> rfl
theorem q_eif {t : Env → M Bool} {f g : Env → M SV} {b : Bool} {r} (h1 : t env S = some (.ok b, S1)) (h2 : pick b (f env S1) (g env S1) = r) : eIf t f g env S = r := by
  unfold eIf; rw [bnd_at h1, ← h2]; cases b <;> rfl
def chK (o : SV → SV → M SV) (y : SV) (h : Env → M SV) (env : Env) : M SV := bnd (h env) fun z => o y z
theorem q_chK {o : SV → SV → M SV} {y z : SV} {h : Env → M SV} {r} (h1 : h env S = some (.ok z, S1)) (h2 : o y z S1 = r) : chK o y h env S = r := by unfold chK; rw [bnd_at h1, h2]
theorem q_ch {o o' : SV → SV → M SV} {f g h : Env → M SV} {x y : SV} {b : Bool} {r} (h1 : f env S = some (.ok x, S1)) (h2 : g env S1 = some (.ok y, S2)) (h3 : o x y S2 = some (.ok (.d (.bl b)), S3)) (h4 : pick b (chK o' y h env S3) (some (.ok (.d (.bl false)), S3)) = r) : eCh o o' f g h env S = r := by
  unfold eCh; rw [bnd_at h1, bnd_at h2, bnd_at (show bnd (o x y) asB S2 = some (.ok b, S3) by rw [bnd_at h3]; rfl), ← h4]; cases b <;> rfl
theorem q_sl {f : Env → M SV} {lo hi : Env → M (Option Int)} {x : SV} {l h : Option Int} {r} (h1 : f env S = some (.ok x, S1)) (h2 : lo env S1 = some (.ok l, S2)) (h3 : hi env S2 = some (.ok h, S3)) (h4 : oSl x l h S3 = r) : eSl f lo hi env S = r := by
  unfold eSl; rw [bnd_at h1, bnd_at h2, bnd_at h3, h4]
theorem q_pN : pNone env S = some (.ok none, S) := rfl
theorem q_pS {f : Env → M SV} {i : Int} (h : f env S = some (.ok (.d (.int i)), S1)) : pSome f env S = some (.ok (some i), S1) := by unfold pSome; rw [bnd_at h]; rfl
theorem q_slL {l : List D} {lo hi : Option Int} : oSl (.d (.lst l)) lo hi S = some (.ok (.d (.lst (cutD l lo hi))), S) := rfl
theorem q_slT {l : List D} {lo hi : Option Int} : oSl (.d (.tup l)) lo hi S = some (.ok (.d (.tup (cutD l lo hi))), S) := rfl
theorem q_meth {c name : Str} {cv : RR → M SV} {m : Fn} {fo : Env → M SV} {fa : Env → M (List SV)} {o : SV} {as : List SV} {r} (h1 : fo env S = some (.ok o, S1)) (hn : noFld c name o = true) (h2 : fa env S1 = some (.ok as, S2)) (h3 : callM cv m (o :: as) S2 = r) : eMeth c name cv m fo fa env S = r := by
  unfold eMeth; rw [bnd_at h1, if_pos hn, bnd_at h2, h3]
theorem q_ble {a b : Nat} (h : Nat.ble a b = true) : Nat.ble a b = true := h
theorem q_nofld {c n : Str} {o : SV} (h : noFld c n o = true) : noFld c n o = true := h
theorem q_dn : datas [] = some [] := rfl
theorem q_dc {x : D} {xs : List SV} {ds : List D} (h : datas xs = some ds) : datas (.d x :: xs) = some (x :: ds) := by show (datas xs).map _ = _; rw [h]; rfl
theorem q_fn : fldDs [] = some [] := rfl
theorem q_fc {x : D} {xs : List SV} {ds : List D} (h : fldDs xs = some ds) : fldDs (.d x :: xs) = some (x :: ds) := by show (match fldD (.d x), fldDs xs with | some d, some ds => some (d :: ds) | _, _ => none) = _; rw [h]; rfl
theorem q_fp {k : Nat} {xs : List SV} {ds : List D} (h : fldDs xs = some ds) : fldDs (.ptr k :: xs) = some (.own k :: ds) := by show (match fldD (.ptr k), fldDs xs with | some d, some ds => some (d :: ds) | _, _ => none) = _; rw [h]; rfl
theorem q_mkLst {xs : List SV} {ds : List D} (h : datas xs = some ds) (hl : Nat.ble ds.length lim = true) : mkLst xs S = some (.ok (.d (.lst ds)), S) := by unfold mkLst; rw [h]; dsimp only; rw [if_pos (Nat.le_of_ble_eq_true hl)]; rfl
theorem q_mkTup {xs : List SV} {ds : List D} (h : datas xs = some ds) (hl : Nat.ble ds.length lim = true) : mkTup xs S = some (.ok (.d (.tup ds)), S) := by unfold mkTup; rw [h]; dsimp only; rw [if_pos (Nat.le_of_ble_eq_true hl)]; rfl
theorem q_mkOwn {xs : List SV} {ds : List D} (h : fldDs xs = some ds) (hl : Nat.ble ds.length lim = true) : mkOwn xs S = some (.ok (.ptr S.length), S ++ [ds]) := by unfold mkOwn; rw [h]; dsimp only; rw [if_pos (Nat.le_of_ble_eq_true hl)]
theorem q_lenM {α : Type} {f : α → D} {l : List α} : bLen [.d (.lst (l.map f))] S = some (.ok (.d (.int l.length)), S) := by rw [bLen_l, List.length_map]; rfl
theorem q_lenMT {α : Type} {f : α → D} {l : List α} : bLen [.d (.tup (l.map f))] S = some (.ok (.d (.int l.length)), S) := by rw [bLen_t, List.length_map]; rfl
theorem q_iOf {f : Env → M SV} {x : SV} {r} (h1 : f env S = some (.ok x, S1)) (h2 : walkD x S1 = r) : iOf f env S = r := by unfold iOf; rw [bnd_at h1, h2]
theorem q_wkL {l : List D} : walkD (.d (.lst l)) S = some (.ok (l, none), S) := rfl
theorem q_wkT {l : List D} : walkD (.d (.tup l)) S = some (.ok (l, none), S) := rfl
theorem q_wkS {l : List D} : walkD (.d (.scr l)) S = some (.ok (l, none), S) := rfl
theorem q_cP {m : Fn} {as : List SV} {x : D} (h : m as = ret (.d x)) (hn : noExc as = true) : callM asPure m as S = some (.ok (.d x), S) := q_ret (call_pure hn h)
theorem q_cA {m : Fn} {as : List SV} {x : D} (h : m as S = some (.ok (.d x), S1)) (hn : noExc as = true) : callM asPure m as S = some (.ok (.d x), S1) := call_at hn h
theorem q_cF {m : Fn} {as : List SV} {x : List D} (h : m as S = some (.ok (.fresh x), S1)) (hn : noExc as = true) (hc : clsd x = true) : callM asPure m as S = some (.ok (.d (.lst x)), S1) := call_atF hn h hc
theorem q_cFO {m : Fn} {as : List SV} {x : List D} (h : m as S = some (.ok (.fresh x), S1)) (hn : noExc as = true) : callM asOwn m as S = some (.ok (.ptr S1.length), S1 ++ [x]) := call_atO hn h
theorem q_cE {m : Fn} {as : List SV} {c fs l} {cv} (h : m as S = some (.err c fs l, S1)) (hn : noExc as = true) : callM cv m as S = some (.err c fs l, S1) := call_er hn h
theorem q_gC {cv : RR → M SV} {m : Fn} {as : List SV} {r} (h : callM cv m as S = r) : callM cv m as S = r := h
theorem q_gP {α : Type} {b : Bool} {x y r : α} (h : pick b x y = r) : pick b x y = r := h
def thenS (G : SM) : O → Store → Option (O × Store)
  | .nx e, S => G e S
  | o, S => some (o, S)
theorem q_Seq {F G : SM} {o : O} {r} (h1 : F env S = some (o, S1)) (h2 : thenS G o S1 = r) : sSeq F G env S = r := by unfold sSeq; rw [h1, ← h2]; cases o <;> rfl
theorem q_thN {G : SM} {r} (h : G e' S = r) : thenS G (.nx e') S = r := h
theorem q_thR {G : SM} {v : SV} : thenS G (.rt v) S = some (.rt v, S) := rfl
theorem q_thB {G : SM} : thenS G (.bk e') S = some (.bk e', S) := rfl
theorem q_thC {G : SM} : thenS G (.ct e') S = some (.ct e', S) := rfl
theorem q_thE {G : SM} {c fs l} : thenS G (.er c fs l e') S = some (.er c fs l e', S) := rfl
theorem q_Nop : sNop env S = some (.nx env, S) := rfl
theorem q_Brk : sBrk env S = some (.bk env, S) := rfl
theorem q_Cnt : sCnt env S = some (.ct env, S) := rfl
theorem q_RetN : sRetN env S = some (.rt (.d .non), S) := rfl
def setK (i : Nat) (env : Env) : R SV → Store → Option (O × Store)
  | .ok a, S => some (.nx (env.set i (some a)), S)
  | .err c fs l, S => some (.er c fs l env, S)
theorem q_Set {i : Nat} {f : Env → M SV} {a : R SV} {r} (h : f env S = some (a, S1)) (h2 : setK i env a S1 = r) : sSet i f env S = r := by unfold sSet lift; rw [h, ← h2]; cases a <;> rfl
theorem q_setN {i : Nat} {a : SV} (he : env.set i (some a) = e') : setK i env (.ok a) S = some (.nx e', S) := by rw [← he]; rfl
theorem q_setE {i : Nat} {c fs l} : setK i env (.err c fs l) S = some (.er c fs l env, S) := rfl
def dropK (env : Env) : R SV → Store → Option (O × Store)
  | .ok _, S => some (.nx env, S)
  | .err c fs l, S => some (.er c fs l env, S)
theorem q_Drop {f : Env → M SV} {a : R SV} {r} (h : f env S = some (a, S1)) (h2 : dropK env a S1 = r) : sDrop f env S = r := by unfold sDrop lift; rw [h, ← h2]; cases a <;> rfl
theorem q_drN {a : SV} : dropK env (.ok a) S = some (.nx env, S) := rfl
theorem q_drE {c fs l} : dropK env (.err c fs l) S = some (.er c fs l env, S) := rfl
def retK (env : Env) : R SV → Store → Option (O × Store)
  | .ok a, S => some (.rt a, S)
  | .err c fs l, S => some (.er c fs l env, S)
theorem q_Ret {f : Env → M SV} {a : R SV} {r} (h : f env S = some (a, S1)) (h2 : retK env a S1 = r) : sRet f env S = r := by unfold sRet lift; rw [h, ← h2]; cases a <;> rfl
theorem q_rtN {a : SV} : retK env (.ok a) S = some (.rt a, S) := rfl
theorem q_rtE {c fs l} : retK env (.err c fs l) S = some (.er c fs l env, S) := rfl
theorem q_If {t : Env → M Bool} {F G : SM} {b : Bool} {r} (h : t env S = some (.ok b, S1)) (h2 : pick b (F env S1) (G env S1) = r) : sIf t F G env S = r := by rw [st_If h, ← h2]; rfl
theorem q_For {t : Tg} {f : Env → M (List D × KK)} {F : SM} {ds : List D} {kk : KK} {r} (h : f env S = some (.ok (ds, kk), S1)) (h2 : forL t kk ds F ds env S1 = r) : sFor t f F env S = r := (st_For h).trans h2
theorem q_R0 {c : Str} : sRaise0 c env S = some (.er c [] [] env, S) := rfl
theorem q_R1 {c fld : Str} {f : Env → M SV} {x : D} (h : f env S = some (.ok (.d x), S1)) : sRaise1 c fld f env S = some (.er c [fld] [x] env, S1) := st_R1 h
def tryK (hs : List HdM) : O → Store → Option (O × Store)
  | .er c fs l env1, S1 => hdL hs c fs l env1 S1
  | o, S => some (o, S)
theorem q_Try {B : SM} {hs : List HdM} {o : O} {r} (h : B env S = some (o, S1)) (h2 : tryK hs o S1 = r) : sTryM B hs env S = r := by unfold sTryM; rw [h, ← h2]; cases o <;> rfl
theorem q_tyN {hs : List HdM} : tryK hs (.nx e') S = some (.nx e', S) := rfl
theorem q_tyR {hs : List HdM} {v : SV} : tryK hs (.rt v) S = some (.rt v, S) := rfl
theorem q_tyE {hs : List HdM} {c fs l} {r} (h : hdL hs c fs l e' S = r) : tryK hs (.er c fs l e') S = r := h
theorem q_hdY {h : HdM} {hs : List HdM} {c fs l} {r} (hy : h.yes.contains c = true) (hn : envNE env = true) (h1 : endX h.slot (h.U c fs l (setX h.slot env) S) = r) : hdL (h :: hs) c fs l env S = r := by
  show (if h.yes.contains c = true then (if envNE env = true then endX h.slot (h.U c fs l (setX h.slot env) S) else none) else _) = r
  rw [if_pos hy, if_pos hn, h1]
theorem q_hdN {h : HdM} {hs : List HdM} {c fs l} {r} (hy : h.yes.contains c = false) (hn : h.no.contains c = true) (h1 : hdL hs c fs l env S = r) : hdL (h :: hs) c fs l env S = r := by
  show (if h.yes.contains c = true then _ else if h.no.contains c = true then hdL hs c fs l env S else none) = r
  rw [if_neg (by rw [hy]; decide), if_pos hn, h1]
def endK (k : Option Nat) (o : O) (S : Store) : Option (O × Store) := endX k (some (o, S))
theorem q_ex {k : Option Nat} {u : Option (O × Store)} {o : O} {r} (h : u = some (o, S1)) (h2 : endK k o S1 = r) : endX k u = r := by rw [h]; exact h2
theorem q_ekR {k : Option Nat} {v : SV} (hn : noX v = true) : endK k (.rt v) S = some (.rt v, S) := by unfold endK endX; dsimp only; rw [if_pos hn]
theorem q_ekN {k : Option Nat} {e : Env} (he : unX k e = e') (hn : envNE e' = true) : endK k (.nx e) S = some (.nx e', S) := by rw [← he]; unfold endK endX; dsimp only; rw [he, if_pos hn]
theorem q_xf {i : Nat} {fld : Str} {fs : List Str} {l : List D} {d : D} (h : env[i]? = some (some .exc)) (h2 : lookD fld fs l = some d) : eXf i fld fs l env S = some (.ok (.d d), S) := by unfold eXf; rw [h]; dsimp only; rw [h2]; rfl
theorem q_SetI {fo fi fe : Env → M SV} {x : D} {k : Nat} {n : Int} {l : List D} {j : Nat} {r} (h1 : fe env S = some (.ok (.d x), S1)) (h2 : fo env S1 = some (.ok (.ptr k), S2)) (h3 : fi env S2 = some (.ok (.d (.int n)), S3)) (h4 : S3[k]? = some l) (h5 : ixN l.length n = some j) (h6 : some (O.nx env, S3.set k (l.set j x)) = r) : sSetI fo fi fe env S = r := (st_SetI h1 h2 h3 h4 h5).trans h6
theorem q_App {fo fe : Env → M SV} {x : D} {k : Nat} {l : List D} {r} (h1 : fo env S = some (.ok (.ptr k), S1)) (h2 : fe env S1 = some (.ok (.d x), S2)) (h4 : S2[k]? = some l) (h5 : l.length < 16777216) (h6 : some (O.nx env, S2.set k (l ++ [x])) = r) : sApp fo fe env S = r := (st_App h1 h2 h4 h5).trans h6
theorem q_AppL {fo fe : Env → M SV} {x : D} {T : Store} {l : List D} (h1 : fo env S = some (.ok (.ptr T.length), S1)) (h2 : fe env S1 = some (.ok (.d x), T ++ [l])) (h5 : l.length < 16777216) : sApp fo fe env S = some (.nx env, T ++ [l ++ [x]]) := by
  rw [st_App h1 h2 (by simp) h5]; simp
theorem q_SetAll {fo fe : Env → M SV} {k : Nat} {xs ys : List D} {r} (h1 : fe env S = some (.ok (.d (.lst ys)), S1)) (h2 : fo env S1 = some (.ok (.ptr k), S2)) (h3 : S2[k]? = some xs) (h4 : xs.length + ys.length ≤ 16777216) (h6 : some (O.nx env, S2.set k ys) = r) : sSetAll fo fe env S = r := by
  unfold sSetAll lift
  rw [bnd_at h1, bnd_at (show bnd (fo env) asPtr S1 = some (.ok k, S2) by rw [bnd_at h2]; rfl)]
  dsimp only [ret]
  rw [h3]; dsimp only
  rw [if_pos (show xs.length + ys.length ≤ lim from h4), h6]
theorem q_Mut {g : List D → List SV → Option (List D)} {fo : Env → M SV} {fa : Env → M (List SV)} {k : Nat} {as : List SV} {l l' : List D} {r} (h1 : fo env S = some (.ok (.ptr k), S1)) (h2 : fa env S1 = some (.ok as, S2)) (h3 : cellC S2 k = some l) (h4 : g l as = some l') (h6 : some (O.nx env, S2.set k l') = r) : sMut g fo fa env S = r := by
  unfold sMut lift
  rw [bnd_at (show bnd (fo env) asPtr S = some (.ok k, S1) by rw [bnd_at h1]; rfl), bnd_at h2]
  dsimp only [ret]
  rw [h3]; dsimp only
  rw [h4]; dsimp only; rw [h6]
theorem q_ClearX {fo : Env → M SV} {k : Nat} {l : List D} {r} (h1 : fo env S = some (.ok (.ptr k), S1)) (h3 : S1[k]? = some l) (h6 : some (O.nx env, S1.set k []) = r) : sClearX fo env S = r := by
  unfold sClearX lift
  rw [bnd_at (show bnd (fo env) asPtr S = some (.ok k, S1) by rw [bnd_at h1]; rfl), bnd_at (show aNil env S1 = some (.ok [], S1) from rfl)]
  dsimp only [ret]
  rw [h3]; dsimp only; rw [h6]
theorem q_UnpT {is : List Nat} {f : Env → M SV} {ds : List D} (h : f env S = some (.ok (.d (.tup ds)), S1)) (h2 : setMany env is ds = some e') : sUnpA is f env S = some (.nx e', S1) := by
  unfold sUnpA lift; rw [h]; dsimp only [seqOf]; rw [h2]
theorem q_UnpL {is : List Nat} {f : Env → M SV} {ds : List D} (h : f env S = some (.ok (.d (.lst ds)), S1)) (h2 : setMany env is ds = some e') : sUnpA is f env S = some (.nx e', S1) := by
  unfold sUnpA lift; rw [h]; dsimp only [seqOf]; rw [h2]
theorem q_Lend {F : SM} {x : D} (he : lendEnv S env = e') (h : F e' [] = some (.rt (.d x), S1)) (hf : flatD x = true) : sLend F env S = some (.rt (.d x), S) := by
  unfold sLend; rw [he, h]; dsimp only; rw [if_pos hf]
theorem q_flat {x : D} (h : flatD x = true) : flatD x = true := h
theorem fn_rtZ {S : Store} {np n : Nat} {body : SM} {as : List SV} {k : Nat} {x y : List D} {S1 : Store} (hl : as.length = np) (h : body (as.map some ++ List.replicate (n - as.length) none) S = some (.rt (.ptr k), S1)) (hk : S.length ≤ k) (hx : S1[k]? = some x) (hf : frzL S.length S1 x = some y) (hc : Cal S S1) :
    fnSem np n body as S = some (.ok (.fresh y), S1.take S.length) := by
  unfold fnSem; rw [if_pos hl, h]; dsimp only; rw [if_pos hc, if_neg (by omega), hx]; dsimp only; rw [hf]
end
end DL
namespace Lw
open PySem L2 DL
def top (i : Nat) : Stmt := PySem.Challenge.pw_everyhint_k52_allowed_mixes_bound.main.body.getD i (.Pass ⟨0, 0, 0, 0⟩)
abbrev okF : Str → Str → Bool := okL [("Table", ["unit", "free", "tied", "bound", "lines"])]
abbrev s_is_whole : Stmt := top 6
abbrev N_is_whole : List Str := ["value"]
abbrev P_is_whole : List Str := ["value"]
abbrev s_is_positive : Stmt := top 7
abbrev N_is_positive : List Str := ["value"]
abbrev P_is_positive : List Str := ["value"]
abbrev s_is_list : Stmt := top 8
abbrev N_is_list : List Str := ["value"]
abbrev P_is_list : List Str := ["value"]
abbrev s_is_row : Stmt := top 9
abbrev N_is_row : List Str := ["value", "many", "each"]
abbrev P_is_row : List Str := ["value", "many"]
abbrev s_is_weights : Stmt := top 10
abbrev N_is_weights : List Str := ["value", "many", "each"]
abbrev P_is_weights : List Str := ["value", "many"]
abbrev s_ratio : Stmt := top 12
abbrev N_ratio : List Str := ["top", "bottom", "common"]
abbrev P_ratio : List Str := ["top", "bottom"]
abbrev s_lowest : Stmt := top 13
abbrev N_lowest : List Str := ["numbers", "common", "number"]
abbrev P_lowest : List Str := ["numbers"]
abbrev s_first_line : Stmt := top 16
abbrev N_first_line : List Str := ["rows", "goal", "top", "index", "row"]
abbrev P_first_line : List Str := ["rows", "goal", "top", "index"]
abbrev s_replaced : Stmt := top 17
abbrev N_replaced : List Str := ["line", "used", "column", "unit", "factor", "next_unit", "found", "mine", "theirs"]
abbrev P_replaced : List Str := ["line", "used", "column", "unit"]
abbrev s_greatest : Stmt := top 18
abbrev N_greatest : List Str := ["rows", "goal", "table", "column", "at"]
abbrev P_greatest : List Str := ["rows", "goal"]
abbrev s_best_answer : Stmt := top 19
abbrev N_best_answer : List Str := ["table", "rows", "many", "mix", "constants", "line", "scale", "amounts"]
abbrev P_best_answer : List Str := ["table", "rows", "many"]
abbrev s_endless_amounts : Stmt := top 20
abbrev N_endless_amounts : List Str := ["table", "column", "rows", "unknowns", "factors", "line"]
abbrev P_endless_amounts : List Str := ["table", "column", "rows"]
abbrev s_numbers_of : Stmt := top 21
abbrev N_numbers_of : List Str := ["owners", "numbers", "first", "many", "found", "index"]
abbrev P_numbers_of : List Str := ["owners", "numbers", "first", "many"]
abbrev s_check_program : Stmt := top 22
abbrev N_check_program : List Str := ["rows", "goal", "row"]
abbrev P_check_program : List Str := ["rows", "goal"]
abbrev s_is_answer : Stmt := top 23
abbrev N_is_answer : List Str := ["rows", "goal", "answer", "_", "mix", "value", "scale", "amounts"]
abbrev P_is_answer : List Str := ["rows", "goal", "answer"]
abbrev s_shows_none : Stmt := top 24
abbrev N_shows_none : List Str := ["rows", "goal", "amounts", "each"]
abbrev P_shows_none : List Str := ["rows", "goal", "amounts"]
abbrev s_is_attained : Stmt := top 25
abbrev N_is_attained : List Str := ["rows", "goal", "mix", "value", "row"]
abbrev P_is_attained : List Str := ["rows", "goal", "mix", "value"]
abbrev s_is_bound : Stmt := top 26
abbrev N_is_bound : List Str := ["rows", "goal", "value", "scale", "amounts", "top", "bottom", "found", "number", "each"]
abbrev P_is_bound : List Str := ["rows", "goal", "value", "scale", "amounts"]
abbrev s_is_amounts : Stmt := top 27
abbrev N_is_amounts : List Str := ["rows", "amounts", "each"]
abbrev P_is_amounts : List Str := ["rows", "amounts"]
abbrev s_sums : Stmt := top 28
abbrev N_sums : List Str := ["rows", "amounts", "many", "index", "row", "amount"]
abbrev P_sums : List Str := ["rows", "amounts", "many"]
abbrev s_weighted : Stmt := top 29
abbrev N_weighted : List Str := ["row", "mix", "number", "weight"]
abbrev P_weighted : List Str := ["row", "mix"]
abbrev s__law_pool : Stmt := top 31
abbrev N__law_pool : List Str := ["_law_script"]
abbrev P__law_pool : List Str := ["_law_script"]
abbrev s__law_take : Stmt := top 32
abbrev N__law_take : List Str := ["_law_pool_here", "_law_many", "_law_at", "_law_drawn", "_law_mixed", "_law_digit"]
abbrev P__law_take : List Str := ["_law_pool_here", "_law_many"]
abbrev s__law_is : Stmt := top 33
abbrev N__law_is : List Str := ["_law_says", "_law_due"]
abbrev P__law_is : List Str := ["_law_says", "_law_due"]
abbrev s__law_divisor : Stmt := top 34
abbrev N__law_divisor : List Str := ["_law_numbers", "_law_found", "_law_number", "_law_one", "_law_other"]
abbrev P__law_divisor : List Str := ["_law_numbers"]
abbrev s__law_ratio : Stmt := top 35
abbrev N__law_ratio : List Str := ["_law_up", "_law_down", "_law_part"]
abbrev P__law_ratio : List Str := ["_law_up", "_law_down"]
abbrev s__law_less : Stmt := top 36
abbrev N__law_less : List Str := ["_law_one", "_law_other"]
abbrev P__law_less : List Str := ["_law_one", "_law_other"]
abbrev s__law_weighed : Stmt := top 37
abbrev N__law_weighed : List Str := ["_law_one", "_law_other", "_law_k"]
abbrev P__law_weighed : List Str := ["_law_one", "_law_other"]
abbrev s__law_integers : Stmt := top 38
abbrev N__law_integers : List Str := ["_law_pool_here", "_law_many", "_law_most", "_law_k"]
abbrev P__law_integers : List Str := ["_law_pool_here", "_law_many", "_law_most"]
abbrev s__law_weights : Stmt := top 39
abbrev N__law_weights : List Str := ["_law_pool_here", "_law_count", "_law_most", "_law_found", "_law_k"]
abbrev P__law_weights : List Str := ["_law_pool_here", "_law_count", "_law_most"]
abbrev s__law_goal_rows : Stmt := top 40
abbrev N__law_goal_rows : List Str := ["_law_pool_here", "_law_most_rows", "_law_most_columns", "_law_large", "_law_wide", "_law_rows", "_law_k", "_law_row", "_law_kind", "_law_item", "_law_at"]
abbrev P__law_goal_rows : List Str := ["_law_pool_here", "_law_most_rows", "_law_most_columns"]
abbrev s__law_sums : Stmt := top 41
abbrev N__law_sums : List Str := ["_law_rows", "_law_amounts", "_law_wide", "_law_found", "_law_at", "_law_k"]
abbrev P__law_sums : List Str := ["_law_rows", "_law_amounts", "_law_wide"]
abbrev s__law_amounts_right : Stmt := top 42
abbrev N__law_amounts_right : List Str := ["_law_rows", "_law_amounts", "_law_amount"]
abbrev P__law_amounts_right : List Str := ["_law_rows", "_law_amounts"]
abbrev s__law_none_right : Stmt := top 43
abbrev N__law_none_right : List Str := ["_law_rows", "_law_amounts", "_law_wide"]
abbrev P__law_none_right : List Str := ["_law_rows", "_law_amounts", "_law_wide"]
abbrev s__law_mean : Stmt := top 44
abbrev N__law_mean : List Str := ["_law_numbers", "_law_mix"]
abbrev P__law_mean : List Str := ["_law_numbers", "_law_mix"]
abbrev s_law : Stmt := top 45
abbrev N_law : List Str := ["_law_script", "_law_pool_here", "_law_rows", "_law_goal", "_law_wide", "_law_mix", "_law_made", "_law_row", "_law_lack", "_law_more", "_law_drawn", "_law_answer", "_law_step", "_law_top", "_law_bottom", "_law_item", "_law_amounts", "_law_totals", "_law_at", "_law_k", "_law_barred", "_law_column", "_law_over", "_law_says"]
abbrev P_law : List Str := ["_law_script"]
abbrev s_Table___init__ : Stmt := inClass (top 15) 0
abbrev N_Table___init__ : List Str := ["self", "rows", "goal", "top", "below", "index", "row"]
abbrev P_Table___init__ : List Str := ["self", "rows", "goal"]
abbrev s_Table_entering : Stmt := inClass (top 15) 1
abbrev N_Table_entering : List Str := ["self", "found", "unknown", "factor"]
abbrev P_Table_entering : List Str := ["self"]
abbrev s_Table_leaving : Stmt := inClass (top 15) 2
abbrev N_Table_leaving : List Str := ["self", "column", "best", "at", "line"]
abbrev P_Table_leaving : List Str := ["self", "column"]
abbrev s_Table_is_sooner : Stmt := inClass (top 15) 3
abbrev N_Table_is_sooner : List Str := ["self", "at", "best", "column", "one", "other"]
abbrev P_Table_is_sooner : List Str := ["self", "at", "best", "column"]
abbrev s_Table_exchange : Stmt := inClass (top 15) 4
abbrev N_Table_exchange : List Str := ["self", "at", "column", "used", "lines", "line"]
abbrev P_Table_exchange : List Str := ["self", "at", "column"]
noncomputable def y_is_whole : SM := (sRet (eAnd (eArg bIsi (aCons (eVar 0) (aCons (eC (.ty "int")) aNil))) (eNot (eArg bIsi (aCons (eVar 0) (aCons (eC (.ty "bool")) aNil))))))
noncomputable def m_is_whole : Fn := fnSem 1 1 y_is_whole
noncomputable def y_is_positive : SM := (sRet (eAnd (eCall asPure m_is_whole [] (aCons (eVar 0) aNil)) (eOp oGe (eVar 0) (eC (.int 1)))))
noncomputable def m_is_positive : Fn := fnSem 1 1 y_is_positive
noncomputable def y_is_list : SM := (sRet (eArg bIsiT (aCons (eVar 0) (aCons (eArg mkTup (aCons (eC (.ty "list")) (aCons (eC (.ty "tuple")) aNil))) aNil))))
noncomputable def m_is_list : Fn := fnSem 1 1 y_is_list
noncomputable def y_is_row : SM := (sRet (eAnd (eCall asPure m_is_list [] (aCons (eVar 0) aNil)) (eAnd (eOp oEq (eArg bLen (aCons (eVar 0) aNil)) (eVar 1)) (eArg bAll (aCons (eLc [2] (.one 2) (iOf (eVar 0)) tYesD (eCall asPure m_is_whole [] (aCons (eVar 2) aNil))) aNil)))))
noncomputable def m_is_row : Fn := fnSem 2 3 y_is_row
noncomputable def y_is_weights : SM := (sSeq (sIf (tyNot (eTst (eCall asPure m_is_row [] (aCons (eVar 0) (aCons (eVar 1) aNil))))) (sRet (eC (.bl false))) sNop)
    (sRet (eAnd (eArg bAll (aCons (eLc [2] (.one 2) (iOf (eVar 0)) tYesD (eOp oGe (eVar 2) (eC (.int 0)))) aNil)) (eArg bAny (aCons (eLc [2] (.one 2) (iOf (eVar 0)) tYesD (eOp oGt (eVar 2) (eC (.int 0)))) aNil)))))
noncomputable def m_is_weights : Fn := fnSem 2 3 y_is_weights
noncomputable def y_ratio : SM := (sSeq (sIf (eTst (eOp oEq (eVar 1) (eC (.int 0)))) (sRaise1 "BadRatio" "bottom" (eVar 1)) sNop)
    (sSeq (sSet 2 (eArg bGcd (aCons (eVar 0) (aCons (eVar 1) aNil))))
    (sSeq (sIf (eTst (eOp oLt (eVar 1) (eC (.int 0)))) (sSet 2 (eUn oNeg (eVar 2))) sNop)
    (sRet (eArg mkTup (aCons (eOp oFdiv (eVar 0) (eVar 2)) (aCons (eOp oFdiv (eVar 1) (eVar 2)) aNil)))))))
noncomputable def m_ratio : Fn := fnSem 2 3 y_ratio
noncomputable def y_lowest : SM := (sSeq (sSet 1 (eC (.int 0)))
    (sSeq (sFor (.one 2) (iOf (eVar 0)) (sSet 1 (eArg bGcd (aCons (eVar 1) (aCons (eVar 2) aNil)))))
    (sSeq (sIf (eTst (eOp oEq (eVar 1) (eC (.int 0)))) (sRet (eArg bListOwn (aCons (eVar 0) aNil))) sNop)
    (sRet (eLcOwn [2] (.one 2) (iOf (eVar 0)) tYesD (eOp oFdiv (eVar 2) (eVar 1)))))))
noncomputable def m_lowest : Fn := fnSem 1 3 y_lowest
noncomputable def y_first_line : SM := (sRet (eOp oAdd (eLc [4] (.one 4) (iOf (eVar 0)) tYesD (eOp oSub (eOp oIdx (eVar 4) (eVar 2)) (eOp oIdx (eVar 4) (eVar 3)))) (eArg mkLst (aCons (eC (.int 1)) (aCons (eOp oSub (eOp oIdx (eVar 1) (eVar 2)) (eOp oIdx (eVar 1) (eVar 3))) aNil)))))
noncomputable def m_first_line : Fn := fnSem 4 5 y_first_line
noncomputable def y_replaced : SM := (sSeq (sSet 4 (eOp oIdx (eVar 0) (eVar 2)))
    (sSeq (sSet 5 (eUn oNeg (eOp oIdx (eVar 1) (eVar 2))))
    (sSeq (sSet 6 (eLcOwn [7, 8] (.many [7, 8]) (eArg walkZ (aCons (eVar 0) (aCons (eVar 1) aNil))) tYesD (eOp oFdiv (eOp oAdd (eOp oMul (eVar 7) (eVar 5)) (eOp oMul (eVar 8) (eVar 4))) (eVar 3))))
    (sSeq (sSetI (eVar 6) (eVar 2) (eUn oNeg (eVar 4)))
    (sRet (eVar 6))))))
noncomputable def m_replaced : Fn := fnSem 4 9 y_replaced
noncomputable def y_check_program : SM := (sSeq (sIf (tyOr (tyNot (eTst (eCall asPure m_is_list [] (aCons (eVar 1) aNil)))) (tyOr (eTst (eOp oEq (eArg bLen (aCons (eVar 1) aNil)) (eC (.int 0)))) (tyNot (eTst (eCall asPure m_is_row [] (aCons (eVar 1) (aCons (eArg bLen (aCons (eVar 1) aNil)) aNil))))))) (sRaise0 "BadRows") sNop)
    (sIf (tyOr (tyNot (eTst (eCall asPure m_is_list [] (aCons (eVar 0) aNil)))) (tyNot (eTst (eArg bAll (aCons (eLc [2] (.one 2) (iOf (eVar 0)) tYesD (eCall asPure m_is_row [] (aCons (eVar 2) (aCons (eArg bLen (aCons (eVar 1) aNil)) aNil)))) aNil))))) (sRaise0 "BadRows") sNop))
noncomputable def m_check_program : Fn := fnSem 2 3 y_check_program
noncomputable def y_numbers_of : SM := (sSeq (sSet 4 (eArg bDictZ (aCons (eVar 0) (aCons (eVar 1) aNil))))
    (sRet (eLcOwn [5] (.one 5) (eArg walkR1 (aCons (eVar 3) aNil)) tYesD (eGetK (eVar 4) (eOp oAdd (eVar 2) (eVar 5)) (eC (.int 0))))))
noncomputable def m_numbers_of : Fn := fnSem 4 6 y_numbers_of
noncomputable def y_endless_amounts : SM := (sSeq (sSet 3 (eOp oAdd (eUn (oFld okF "tied") (eVar 0)) (eArg mkLst (aCons (eOp oIdx (eUn (oFld okF "free") (eVar 0)) (eVar 1)) aNil))))
    (sSeq (sSet 4 (eOp oAdd (eLc [5] (.one 5) (iOf (eUn (oFld okF "lines") (eVar 0))) tYesD (eOp oIdx (eVar 5) (eVar 1))) (eArg mkLst (aCons (eUn (oFld okF "unit") (eVar 0)) aNil))))
    (sRet (eCall asOwn m_lowest [] (aCons (eCall asPure m_numbers_of [] (aCons (eVar 3) (aCons (eVar 4) (aCons (eC (.int 0)) (aCons (eVar 2) aNil))))) aNil)))))
noncomputable def m_endless_amounts : Fn := fnSem 3 6 y_endless_amounts
noncomputable def y_best_answer : SM := (sSeq (sSet 3 (eCall asPure m_lowest [] (aCons (eCall asPure m_numbers_of [] (aCons (eUn (oFld okF "free") (eVar 0)) (aCons (eUn (oFld okF "bound") (eVar 0)) (aCons (eVar 1) (aCons (eVar 2) aNil))))) aNil)))
    (sSeq (sSet 4 (eLc [5] (.one 5) (iOf (eUn (oFld okF "lines") (eVar 0))) tYesD (eOp oIdx (eVar 5) (eUn oNeg (eC (.int 1))))))
    (sSeq (sStar 6 7 (eCall asPure m_lowest [] (aCons (eOp oAdd (eArg mkLst (aCons (eUn (oFld okF "unit") (eVar 0)) aNil)) (eCall asPure m_numbers_of [] (aCons (eUn (oFld okF "tied") (eVar 0)) (aCons (eVar 4) (aCons (eC (.int 0)) (aCons (eVar 1) aNil)))))) aNil)))
    (sRet (eArg mkTup (aCons (eC (.str "best")) (aCons (eVar 3) (aCons (eCall asPure m_ratio [] (aCons (eOp oIdx (eUn (oFld okF "bound") (eVar 0)) (eUn oNeg (eC (.int 1)))) (aCons (eUn (oFld okF "unit") (eVar 0)) aNil))) (aCons (eVar 6) (aCons (eVar 7) aNil))))))))))
noncomputable def m_best_answer : Fn := fnSem 3 8 y_best_answer
noncomputable def y_Table___init__ : SM := (sSeq (sSet 3 (eIndex (eVar 2) (eArg bMaxL (aCons (eVar 2) aNil))))
    (sSeq (sSet 4 (eLc [5] (.one 5) (eArg walkR1 (aCons (eArg bLen (aCons (eVar 2) aNil)) aNil)) (eTst (eOp oNe (eVar 5) (eVar 3))) (eVar 5)))
    (sSeq (sSetF okF "unit" (eVar 0) (eC (.int 1)))
    (sSeq (sSetF okF "free" (eVar 0) (eOp oAddOwn (eUn oListRg (eArg bLen (aCons (eVar 1) aNil))) (eArg mkLst (aCons (eOp oAdd (eArg bLen (aCons (eVar 1) aNil)) (eVar 3)) aNil))))
    (sSeq (sSetF okF "tied" (eVar 0) (eLcOwn [5] (.one 5) (iOf (eVar 4)) tYesD (eOp oAdd (eArg bLen (aCons (eVar 1) aNil)) (eVar 5))))
    (sSeq (sSetF okF "bound" (eVar 0) (eOp oAdd (eLc [6] (.one 6) (iOf (eVar 1)) tYesD (eOp oIdx (eVar 6) (eVar 3))) (eArg mkLst (aCons (eC (.int 1)) (aCons (eOp oIdx (eVar 2) (eVar 3)) aNil)))))
    (sSetF okF "lines" (eVar 0) (eLc [5] (.one 5) (iOf (eVar 4)) tYesD (eCall asPure m_first_line [] (aCons (eVar 1) (aCons (eVar 2) (aCons (eVar 3) (aCons (eVar 5) aNil)))))))))))))
noncomputable def m_Table___init__ : Fn := fnSemU 3 7 y_Table___init__
noncomputable def y_Table_entering : SM := (sSeq (sSet 1 (eLc [2, 3] (.many [2, 3]) (eArg walkZO (aCons (eUn (oFld okF "free") (eVar 0)) (aCons (eUn (oFld okF "bound") (eVar 0)) aNil))) (eTst (eOp oLt (eVar 3) (eC (.int 0)))) (eVar 2)))
    (sRet (eIf (eTru (eVar 1)) (eIndex (eUn (oFld okF "free") (eVar 0)) (eArg bMinL (aCons (eVar 1) aNil))) (eC .non))))
noncomputable def m_Table_entering : Fn := fnSem 1 4 y_Table_entering
noncomputable def y_Table_is_sooner : SM := (sSeq (sSet 4 (eOp oMul (eOp oIdx (eOp oIdx (eUn (oFld okF "lines") (eVar 0)) (eVar 1)) (eUn oNeg (eC (.int 1)))) (eOp oIdx (eOp oIdx (eUn (oFld okF "lines") (eVar 0)) (eVar 2)) (eVar 3))))
    (sSeq (sSet 5 (eOp oMul (eOp oIdx (eOp oIdx (eUn (oFld okF "lines") (eVar 0)) (eVar 2)) (eUn oNeg (eC (.int 1)))) (eOp oIdx (eOp oIdx (eUn (oFld okF "lines") (eVar 0)) (eVar 1)) (eVar 3))))
    (sRet (eOr (eOp oGt (eVar 4) (eVar 5)) (eAnd (eOp oEq (eVar 4) (eVar 5)) (eOp oLt (eOp oIdx (eUn (oFld okF "tied") (eVar 0)) (eVar 1)) (eOp oIdx (eUn (oFld okF "tied") (eVar 0)) (eVar 2))))))))
noncomputable def m_Table_is_sooner : Fn := fnSem 4 6 y_Table_is_sooner
noncomputable def y_Table_leaving : SM := (sSeq (sSet 2 (eC .non))
    (sSeq (sFor (.many [3, 4]) (eArg walkEO (aCons (eUn (oFld okF "lines") (eVar 0)) aNil)) (sIf (tyAnd (eTst (eOp oLt (eOp oIdx (eVar 4) (eVar 1)) (eC (.int 0)))) (tyOr (eTst (eOp oIsN (eVar 2) (eC .non))) (eTst (eMethB "Table" "is_sooner" asPure m_Table_is_sooner (eVar 0) (aCons (eVar 3) (aCons (eVar 2) (aCons (eVar 1) aNil))))))) (sSet 2 (eVar 3)) sNop))
    (sRet (eVar 2))))
noncomputable def m_Table_leaving : Fn := fnSem 2 5 y_Table_leaving
noncomputable def y_Table_exchange : SM := (sSeq (sSet 3 (eOp oIdx (eUn (oFld okF "lines") (eVar 0)) (eVar 1)))
    (sSeq (sSet 4 (eLcOwn [5] (.one 5) (iOf (eUn (oFld okF "lines") (eVar 0))) tYesD (eCall asPure m_replaced [] (aCons (eVar 5) (aCons (eVar 3) (aCons (eVar 2) (aCons (eUn (oFld okF "unit") (eVar 0)) aNil)))))))
    (sSeq (sSetF okF "bound" (eVar 0) (eCall asPure m_replaced [] (aCons (eUn (oFld okF "bound") (eVar 0)) (aCons (eVar 3) (aCons (eVar 2) (aCons (eUn (oFld okF "unit") (eVar 0)) aNil))))))
    (sSeq (sSetI (eVar 4) (eVar 1) (eOp oAdd (eOp oAdd (eSl (eVar 3) pNone (pSome (eVar 2))) (eArg mkLst (aCons (eUn oNeg (eUn (oFld okF "unit") (eVar 0))) aNil))) (eSl (eVar 3) (pSome (eOp oAdd (eVar 2) (eC (.int 1)))) pNone)))
    (sSeq (sSetF okF "lines" (eVar 0) (eVar 4))
    (sSeq (sSetF okF "unit" (eVar 0) (eUn oNeg (eOp oIdx (eVar 3) (eVar 2))))
    (sPut2 (eUn (oFld okF "free") (eVar 0)) (eVar 2) (eUn (oFld okF "tied") (eVar 0)) (eVar 1) (eArg mkTup (aCons (eOp oIdx (eUn (oFld okF "tied") (eVar 0)) (eVar 1)) (aCons (eOp oIdx (eUn (oFld okF "free") (eVar 0)) (eVar 2)) aNil))))))))))
noncomputable def m_Table_exchange : Fn := fnSemU 3 6 y_Table_exchange
noncomputable def y_greatest : SM := (sSeq (sDrop (eCall asPure m_check_program [] (aCons (eVar 0) (aCons (eVar 1) aNil))))
    (sSeq (sSet 2 (eArg (mkO "Table" m_Table___init__) (aCons (eVar 0) (aCons (eVar 1) aNil))))
    (sSeq (sSet 3 (eMethB "Table" "entering" asPure m_Table_entering (eVar 2) aNil))
    (sSeq (whE (eTst (eOp oNotN (eVar 3) (eC .non))) (sSeq (sSet 4 (eMethB "Table" "leaving" asPure m_Table_leaving (eVar 2) (aCons (eVar 3) aNil)))
    (sSeq (sIf (eTst (eOp oIsN (eVar 4) (eC .non))) (sRet (eArg mkTup (aCons (eC (.str "none")) (aCons (eCall asPure m_endless_amounts [] (aCons (eVar 2) (aCons (eVar 3) (aCons (eArg bLen (aCons (eVar 0) aNil)) aNil)))) aNil)))) sNop)
    (sSeq (sDrop (eMethB "Table" "exchange" asPure m_Table_exchange (eVar 2) (aCons (eVar 4) (aCons (eVar 3) aNil))))
    (sSet 3 (eMethB "Table" "entering" asPure m_Table_entering (eVar 2) aNil))))))
    (sRet (eCall asOwn m_best_answer [] (aCons (eVar 2) (aCons (eArg bLen (aCons (eVar 0) aNil)) (aCons (eArg bLen (aCons (eVar 1) aNil)) aNil)))))))))
noncomputable def m_greatest : Fn := fnSem 2 5 y_greatest
noncomputable def y_is_amounts : SM := (sRet (eAnd (eCall asPure m_is_row [] (aCons (eVar 1) (aCons (eArg bLen (aCons (eVar 0) aNil)) aNil))) (eArg bAll (aCons (eLc [2] (.one 2) (iOf (eVar 1)) tYesD (eOp oGe (eVar 2) (eC (.int 0)))) aNil))))
noncomputable def m_is_amounts : Fn := fnSem 2 3 y_is_amounts
noncomputable def y_sums : SM := (sRet (eLcOwn [3] (.one 3) (eArg walkR1 (aCons (eVar 2) aNil)) tYesD (eArg bSum (aCons (eLc [4, 5] (.many [4, 5]) (eArg walkZ (aCons (eVar 0) (aCons (eVar 1) aNil))) tYesD (eOp oMul (eVar 5) (eOp oIdx (eVar 4) (eVar 3)))) aNil))))
noncomputable def m_sums : Fn := fnSem 3 6 y_sums
noncomputable def y_shows_none : SM := (sRet (eAnd (eCall asPure m_is_amounts [] (aCons (eVar 0) (aCons (eVar 2) aNil))) (eArg bAll (aCons (eLc [3] (.one 3) (iOf (eCall asPure m_sums [] (aCons (eVar 0) (aCons (eVar 2) (aCons (eArg bLen (aCons (eVar 1) aNil)) aNil))))) tYesD (eOp oLt (eVar 3) (eC (.int 0)))) aNil))))
noncomputable def m_shows_none : Fn := fnSem 3 4 y_shows_none
noncomputable def y_weighted : SM := (sRet (eArg bSum (aCons (eLc [2, 3] (.many [2, 3]) (eArg walkZ (aCons (eVar 0) (aCons (eVar 1) aNil))) tYesD (eOp oMul (eVar 2) (eVar 3))) aNil)))
noncomputable def m_weighted : Fn := fnSem 2 4 y_weighted
noncomputable def y_is_attained : SM := (sSeq (sIf (tyOr (tyNot (eTst (eCall asPure m_is_weights [] (aCons (eVar 2) (aCons (eArg bLen (aCons (eVar 1) aNil)) aNil))))) (eTst (eArg bAny (aCons (eLc [4] (.one 4) (iOf (eVar 0)) tYesD (eOp oLt (eCall asPure m_weighted [] (aCons (eVar 4) (aCons (eVar 2) aNil))) (eC (.int 0)))) aNil)))) (sRet (eC (.bl false))) sNop)
    (sRet (eOp oEq (eCall asPure m_ratio [] (aCons (eCall asPure m_weighted [] (aCons (eVar 1) (aCons (eVar 2) aNil))) (aCons (eArg bSum (aCons (eVar 2) aNil)) aNil))) (eVar 3))))
noncomputable def m_is_attained : Fn := fnSem 4 5 y_is_attained
noncomputable def y_is_bound : SM := (sSeq (sIf (tyOr (tyNot (eTst (eCall asPure m_is_positive [] (aCons (eVar 3) aNil)))) (tyNot (eTst (eCall asPure m_is_amounts [] (aCons (eVar 0) (aCons (eVar 4) aNil)))))) (sRet (eC (.bl false))) sNop)
    (sSeq (sUnpA [5, 6] (eVar 2))
    (sSeq (sSet 7 (eLc [8, 9] (.many [8, 9]) (eArg walkZ (aCons (eVar 1) (aCons (eCall asPure m_sums [] (aCons (eVar 0) (aCons (eVar 4) (aCons (eArg bLen (aCons (eVar 1) aNil)) aNil)))) aNil))) tYesD (eOp oAdd (eOp oMul (eVar 8) (eVar 3)) (eVar 9))))
    (sRet (eArg bAll (aCons (eLc [9] (.one 9) (iOf (eVar 7)) tYesD (eOp oLe (eOp oMul (eVar 9) (eVar 6)) (eOp oMul (eVar 3) (eVar 5)))) aNil))))))
noncomputable def m_is_bound : Fn := fnSem 5 10 y_is_bound
noncomputable def y_is_answer : SM := (sSeq (sDrop (eCall asPure m_check_program [] (aCons (eVar 0) (aCons (eVar 1) aNil))))
    (sSeq (sIf (tyAnd (eTst (eOp oEq (eArg bLen (aCons (eVar 2) aNil)) (eC (.int 2)))) (eTst (eOp oEq (eOp oIdx (eVar 2) (eC (.int 0))) (eC (.str "none"))))) (sRet (eCall asOwn m_shows_none [] (aCons (eVar 0) (aCons (eVar 1) (aCons (eOp oIdx (eVar 2) (eC (.int 1))) aNil))))) sNop)
    (sSeq (sIf (tyAnd (eTst (eOp oEq (eArg bLen (aCons (eVar 2) aNil)) (eC (.int 5)))) (eTst (eOp oEq (eOp oIdx (eVar 2) (eC (.int 0))) (eC (.str "best"))))) (sSeq (sUnpA [3, 4, 5, 6, 7] (eVar 2))
    (sRet (eAnd (eCall asPure m_is_attained [] (aCons (eVar 0) (aCons (eVar 1) (aCons (eVar 4) (aCons (eVar 5) aNil))))) (eCall asPure m_is_bound [] (aCons (eVar 0) (aCons (eVar 1) (aCons (eVar 5) (aCons (eVar 6) (aCons (eVar 7) aNil))))))))) sNop)
    (sRet (eC (.bl false))))))
noncomputable def m_is_answer : Fn := fnSem 3 8 y_is_answer
noncomputable def y__law_pool : SM := (sRet (eArg mkOwn (aCons (eC (.int 0)) (aCons (eC (.int 0)) (aCons (eArg bList (aCons (eVar 0) aNil)) aNil)))))
noncomputable def m__law_pool : Fn := fnSem 1 1 y__law_pool
noncomputable def y__law_take : SM := (sSeq (sIf (eTst (eOp oEq (eOp oIdx (eVar 0) (eC (.int 1))) (eC (.int 0)))) (sSeq (sSet 2 (eOp oIdx (eVar 0) (eC (.int 0))))
    (sSeq (sSetI (eVar 0) (eC (.int 0)) (eOp oAdd (eVar 2) (eC (.int 1))))
    (sSeq (sSet 3 (eOp oIdx (eOp oAdd (eOp oIdx (eVar 0) (eC (.int 2))) (eArg mkLst (aCons (eC (.int 0)) aNil))) (eOp oMod (eArg bInt (aCons (eVar 2) aNil)) (eArg bMax (aCons (eC (.int 1)) (aCons (eArg bLen (aCons (eOp oIdx (eVar 0) (eC (.int 2))) aNil)) aNil))))))
    (sSeq (sSet 4 (eOp oMod (eOp oPow (eOp oAdd (eOp oAdd (eOp oMod (eArg bInt (aCons (eVar 3) aNil)) (eC (.int 2147483647))) (eOp oMul (eC (.int 7919)) (eVar 2))) (eC (.int 13))) (eC (.int 5))) (eC (.int 2147483647))))
    (sSeq (sSet 4 (eOp oMod (eOp oPow (eOp oAdd (eOp oAdd (eVar 4) (eOp oMul (eC (.int 104729)) (eVar 2))) (eC (.int 29))) (eC (.int 3))) (eC (.int 2147483629))))
    (sSeq (sIf (eTst (eOp oLt (eVar 3) (eOp oPow (eC (.int 10)) (eC (.int 18))))) (sRet (eOp oMod (eOp oFdiv (eVar 4) (eC (.int 11))) (eVar 1))) sNop)
    (sSetI (eVar 0) (eC (.int 1)) (eVar 3)))))))) sNop)
    (sSeq (sSet 5 (eOp oMod (eArg bInt (aCons (eOp oIdx (eVar 0) (eC (.int 1))) aNil)) (eVar 1)))
    (sSeq (sSetI (eVar 0) (eC (.int 1)) (eOp oFdiv (eOp oIdx (eVar 0) (eC (.int 1))) (eVar 1)))
    (sRet (eVar 5)))))
noncomputable def m__law_take : Fn := fnSem 2 6 y__law_take
noncomputable def y__law_is : SM := (sRet (eAnd (eArg bIsi (aCons (eVar 0) (aCons (eC (.ty "bool")) aNil))) (eOp oEq (eVar 0) (eVar 1))))
noncomputable def m__law_is : Fn := fnSem 2 2 y__law_is
noncomputable def y__law_divisor : SM := (sSeq (sSet 1 (eC (.int 0)))
    (sSeq (sFor (.one 2) (iOf (eVar 0)) (sSeq (sSet 3 (eArg bAbs (aCons (eVar 2) aNil)))
    (sSeq (sSet 4 (eVar 1))
    (sSeq (whL (eTst (eOp oNe (eVar 4) (eC (.int 0)))) (sPar 3 4 (aCons (eVar 4) (aCons (eOp oMod (eArg bInt (aCons (eVar 3) aNil)) (eVar 4)) aNil))) 100000)
    (sSet 1 (eVar 3))))))
    (sRet (eVar 1))))
noncomputable def m__law_divisor : Fn := fnSem 1 5 y__law_divisor
noncomputable def y__law_ratio : SM := (sSeq (sSet 2 (eCall asPure m__law_divisor [] (aCons (eArg mkLst (aCons (eVar 0) (aCons (eVar 1) aNil))) aNil)))
    (sSeq (sIf (eTst (eOp oLt (eVar 1) (eC (.int 0)))) (sSet 2 (eUn oNeg (eVar 2))) sNop)
    (sRet (eArg mkTup (aCons (eOp oFdiv (eVar 0) (eVar 2)) (aCons (eOp oFdiv (eVar 1) (eVar 2)) aNil))))))
noncomputable def m__law_ratio : Fn := fnSem 2 3 y__law_ratio
noncomputable def y__law_less : SM := (sRet (eOp oLt (eOp oMul (eOp oIdx (eVar 0) (eC (.int 0))) (eOp oIdx (eVar 1) (eC (.int 1)))) (eOp oMul (eOp oIdx (eVar 1) (eC (.int 0))) (eOp oIdx (eVar 0) (eC (.int 1))))))
noncomputable def m__law_less : Fn := fnSem 2 2 y__law_less
noncomputable def y__law_weighed : SM := (sRet (eArg bSum (aCons (eLc [2] (.one 2) (eArg walkR1 (aCons (eArg bLen (aCons (eVar 0) aNil)) aNil)) tYesD (eOp oMul (eOp oIdx (eVar 0) (eVar 2)) (eOp oIdx (eVar 1) (eVar 2)))) aNil)))
noncomputable def m__law_weighed : Fn := fnSem 2 3 y__law_weighed
noncomputable def y__law_integers : SM := (sRet (eLcOwn [3] (.one 3) (eArg walkR1 (aCons (eVar 1) aNil)) tYesD (eOp oSub (eCall asPure m__law_take [] (aCons (eVar 0) (aCons (eOp oAdd (eOp oMul (eC (.int 2)) (eVar 2)) (eC (.int 1))) aNil))) (eVar 2))))
noncomputable def m__law_integers : Fn := fnSem 3 4 y__law_integers
noncomputable def y__law_weights : SM := (sSeq (sSet 3 (eLcOwn [4] (.one 4) (eArg walkR1 (aCons (eVar 1) aNil)) tYesD (eCall asPure m__law_take [] (aCons (eVar 0) (aCons (eOp oAdd (eVar 2) (eC (.int 1))) aNil)))))
    (sSeq (sIf (eTst (eOp oEq (eArg bSum (aCons (eVar 3) aNil)) (eC (.int 0)))) (sSetI (eVar 3) (eCall asPure m__law_take [] (aCons (eVar 0) (aCons (eVar 1) aNil))) (eC (.int 1))) sNop)
    (sRet (eVar 3))))
noncomputable def m__law_weights : Fn := fnSem 3 5 y__law_weights
noncomputable def y__law_goal_rows : SM := (sSeq (sSet 3 (eOp oIdx (eArg mkLst (aCons (eC (.int 2)) (aCons (eC (.int 9)) (aCons (eC (.int 1000)) aNil)))) (eCall asPure m__law_take [] (aCons (eVar 0) (aCons (eC (.int 3)) aNil)))))
    (sSeq (sSet 4 (eOp oAdd (eC (.int 1)) (eCall asPure m__law_take [] (aCons (eVar 0) (aCons (eVar 2) aNil)))))
    (sSeq (sSet 5 (eArg mkOwn aNil))
    (sSeq (sFor (.one 6) (eArg walkR1 (aCons (eCall asPure m__law_take [] (aCons (eVar 0) (aCons (eOp oAdd (eVar 1) (eC (.int 1))) aNil))) aNil)) (sSeq (sSet 7 (eCall asPure m__law_integers [] (aCons (eVar 0) (aCons (eVar 4) (aCons (eVar 3) aNil)))))
    (sSeq (sSet 8 (eCall asPure m__law_take [] (aCons (eVar 0) (aCons (eC (.int 8)) aNil))))
    (sSeq (sIf (tyAnd (eTst (eOp oEq (eVar 8) (eC (.int 0)))) (eTst (eOp oNe (eVar 5) (eArg mkLst aNil)))) (sSet 7 (eLc [9] (.one 9) (iOf (eOp oIdx (eVar 5) (eC (.int 0)))) tYesD (eOp oSub (eC (.int 0)) (eVar 9)))) sNop)
    (sSeq (sIf (tyAnd (eTst (eOp oEq (eVar 8) (eC (.int 1)))) (eTst (eOp oGt (eArg bLen (aCons (eVar 5) aNil)) (eC (.int 1))))) (sSet 7 (eLc [10] (.one 10) (eArg walkR1 (aCons (eVar 4) aNil)) tYesD (eOp oSub (eOp oIdx (eOp oIdx (eVar 5) (eC (.int 0))) (eVar 10)) (eOp oIdx (eOp oIdx (eVar 5) (eC (.int 1))) (eVar 10))))) sNop)
    (sSeq (sIf (eTst (eOp oEq (eVar 8) (eC (.int 2)))) (sSet 7 (eLc [9] (.one 9) (iOf (eVar 7)) tYesD (eOp oSub (eC (.int 0)) (eArg bAbs (aCons (eVar 9) aNil))))) sNop)
    (sApp (eVar 5) (eVar 7))))))))
    (sRet (eArg mkOwn (aCons (eVar 5) (aCons (eCall asPure m__law_integers [] (aCons (eVar 0) (aCons (eVar 4) (aCons (eVar 3) aNil)))) aNil))))))))
noncomputable def m__law_goal_rows : Fn := fnSem 3 11 y__law_goal_rows
noncomputable def y__law_sums : SM := (sSeq (sSet 3 (eLc [4] (.one 4) (eArg walkR1 (aCons (eVar 2) aNil)) tYesD (eC (.int 0))))
    (sSeq (sFor (.one 5) (eArg walkR1 (aCons (eArg bLen (aCons (eVar 0) aNil)) aNil)) (sSet 3 (eLc [4] (.one 4) (eArg walkR1 (aCons (eVar 2) aNil)) tYesD (eOp oAdd (eOp oIdx (eVar 3) (eVar 4)) (eOp oMul (eOp oIdx (eVar 1) (eVar 5)) (eOp oIdx (eOp oIdx (eVar 0) (eVar 5)) (eVar 4)))))))
    (sRet (eVar 3))))
noncomputable def m__law_sums : Fn := fnSem 3 6 y__law_sums
noncomputable def y__law_amounts_right : SM := (sRet (eAnd (eOp oEq (eArg bLen (aCons (eVar 1) aNil)) (eArg bLen (aCons (eVar 0) aNil))) (eArg bAll (aCons (eLc [2] (.one 2) (iOf (eVar 1)) tYesD (eOp oGe (eVar 2) (eC (.int 0)))) aNil))))
noncomputable def m__law_amounts_right : Fn := fnSem 2 3 y__law_amounts_right
noncomputable def y__law_none_right : SM := (sRet (eAnd (eCall asPure m__law_amounts_right [] (aCons (eVar 0) (aCons (eVar 1) aNil))) (eOp oLt (eArg bMaxL (aCons (eCall asPure m__law_sums [] (aCons (eVar 0) (aCons (eVar 1) (aCons (eVar 2) aNil)))) aNil)) (eC (.int 0)))))
noncomputable def m__law_none_right : Fn := fnSem 3 3 y__law_none_right
noncomputable def y__law_mean : SM := (sRet (eCall asOwn m__law_ratio [] (aCons (eCall asPure m__law_weighed [] (aCons (eVar 0) (aCons (eVar 1) aNil))) (aCons (eArg bSum (aCons (eVar 1) aNil)) aNil))))
noncomputable def m__law_mean : Fn := fnSem 2 2 y__law_mean
noncomputable abbrev b0_law : SM := (sSeq (sSet 22 (eArg bMax (aCons (eC (.int 0)) (aCons (eOp oAdd (eOp oIdx (eVar 17) (eVar 21)) (eC (.int 1))) aNil))))
    (sSetI (eOp oIdxX (eVar 20) (eVar 18)) (eVar 21) (eOp oSub (eOp oIdx (eOp oIdxX (eVar 20) (eVar 18)) (eVar 21)) (eVar 22))))
noncomputable abbrev c0_law : DL.Env → M SV := (eLcX [7] (.one 7) (iOf (eVar 2)) tYesD (eArg bListOwn (aCons (eVar 7) aNil)))
noncomputable abbrev c1_law : DL.Env → M SV := (eLc [19] (.one 19) (eArg walkR1 (aCons (eArg bLen (aCons (eVar 16) aNil)) aNil)) (eTst (eOp oGt (eOp oIdx (eVar 16) (eVar 19)) (eC (.int 0)))) (eVar 19))
noncomputable abbrev c2_law : DL.Env → M SV := (eLc [15] (.one 15) (iOf (eVar 9)) tYesD (eVar 12))
noncomputable abbrev c3_law : DL.Env → M SV := (eLc [15] (.one 15) (iOf (eVar 9)) tYesD (eOp oAdd (eVar 15) (eVar 12)))
noncomputable abbrev b1_law : SM := (sSeq (sSet 8 (eArg bMax (aCons (eC (.int 0)) (aCons (eOp oSub (eC (.int 0)) (eCall asPure m__law_weighed [] (aCons (eVar 7) (aCons (eVar 5) aNil)))) aNil))))
    (sApp (eVar 6) (eOp oAdd (eVar 7) (eArg mkLst (aCons (eVar 8) aNil)))))
noncomputable def y_law : SM := (sSeq (sSet 1 (eCall asOwn m__law_pool [] (aCons (eVar 0) aNil)))
    (sSeq (sUnpA [2, 3] (eCall asPure m__law_goal_rows [] (aCons (eVar 1) (aCons (eC (.int 6)) (aCons (eC (.int 6)) aNil)))))
    (sSeq (sSet 4 (eArg bLen (aCons (eVar 3) aNil)))
    (sSeq (sSet 5 (eCall asPure m__law_weights [] (aCons (eVar 1) (aCons (eVar 4) (aCons (eC (.int 5)) aNil)))))
    (sSeq (sSet 6 (eArg mkOwn aNil))
    (sSeq (sFor (.one 7) (iOf (eVar 2)) b1_law)
    (sSeq (sSet 9 (eOp oAdd (eVar 3) (eArg mkLst (aCons (eOp oSub (eCall asPure m__law_take [] (aCons (eVar 1) (aCons (eC (.int 19)) aNil))) (eC (.int 9))) aNil))))
    (sSeq (sSet 10 (eOp oAdd (eVar 5) (eArg mkLst (aCons (eC (.int 1)) aNil))))
    (sLendQ 1 (sSeq (sSet 11 (eCall asPure m_greatest [] (aCons (eVar 6) (aCons (eVar 9) aNil))))
    (sSeq (sIf (tyOr (eTst (eOp oNe (eOp oIdx (eVar 11) (eC (.int 0))) (eC (.str "best")))) (eTst (eCall asPure m__law_less [] (aCons (eOp oIdx (eVar 11) (eC (.int 2))) (aCons (eCall asPure m__law_mean [] (aCons (eVar 9) (aCons (eVar 10) aNil))) aNil))))) (sRet (eC (.bl false))) sNop)
    (sSeq (sSet 12 (eOp oSub (eCall asPure m__law_take [] (aCons (eVar 1) (aCons (eC (.int 2001)) aNil))) (eC (.int 1000))))
    (sSeq (sUnpA [13, 14] (eOp oIdx (eVar 11) (eC (.int 2))))
    (sSeq (sIf (eTst (eOp oNe (eOp oIdx (eCall asPure m_greatest [] (aCons (eVar 6) (aCons c3_law aNil))) (eC (.int 2))) (eCall asPure m__law_ratio [] (aCons (eOp oAdd (eVar 13) (eOp oMul (eVar 12) (eVar 14))) (aCons (eVar 14) aNil))))) (sRet (eC (.bl false))) sNop)
    (sSeq (sIf (eTst (eOp oNe (eOp oIdx (eCall asPure m_greatest [] (aCons (eVar 6) (aCons c2_law aNil))) (eC (.int 2))) (eArg mkTup (aCons (eVar 12) (aCons (eC (.int 1)) aNil))))) (sRet (eC (.bl false))) sNop)
    (sSeq (sIf (eTst (eOp oEq (eVar 6) (eArg mkLst aNil))) (sRet (eOp oEq (eOp oIdx (eVar 11) (eC (.int 2))) (eArg mkTup (aCons (eArg bMaxL (aCons (eVar 9) aNil)) (aCons (eC (.int 1)) aNil))))) sNop)
    (sSeq (sSet 16 (eCall asPure m__law_weights [] (aCons (eVar 1) (aCons (eArg bLen (aCons (eVar 2) aNil)) (aCons (eC (.int 4)) aNil)))))
    (sSeq (sSet 17 (eCall asPure m__law_sums [] (aCons (eVar 2) (aCons (eVar 16) (aCons (eVar 4) aNil)))))
    (sSeq (sSet 18 (eOp oIdx c1_law (eC (.int 0))))
    (sSeq (sSet 20 c0_law)
    (sSeq (sFor (.one 21) (eArg walkR1 (aCons (eVar 4) aNil)) b0_law)
    (sLend (sSeq (sSet 23 (eCall asPure m_greatest [] (aCons (eVar 20) (aCons (eVar 3) aNil))))
    (sSeq (sIf (tyOr (eTst (eOp oNe (eOp oIdx (eVar 23) (eC (.int 0))) (eC (.str "none")))) (tyNot (eTst (eCall asPure m__law_none_right [] (aCons (eVar 20) (aCons (eOp oIdx (eVar 23) (eC (.int 1))) (aCons (eVar 4) aNil))))))) (sRet (eC (.bl false))) sNop)
    (sRet (eCall asOwn m__law_is [] (aCons (eCall asPure m_is_answer [] (aCons (eVar 20) (aCons (eVar 3) (aCons (eArg mkTup (aCons (eC (.str "none")) (aCons (eVar 16) aNil))) aNil)))) (aCons (eCall asPure m__law_none_right [] (aCons (eVar 20) (aCons (eVar 16) (aCons (eVar 4) aNil)))) aNil))))))))))))))))))))))))))))
noncomputable def m_law : Fn := fnSemT 1 1 24 y_law
end Lw
namespace Lw
open PySem L2 DL
def PoolOk (n : Nat) (l : List D) : Prop := ∃ (at' cur : Int) (ns : List Int), l = [.int at', .int cur, .lst (ns.map D.int)] ∧ 0 ≤ at' ∧ at' ≤ n ∧ ns.length ≤ 63
theorem pool_cal {n : Nat} {l l' : List D} {rest junk : Store} (h : PoolOk n l') : Cal (l :: rest) (l' :: (rest ++ junk)) := by
  obtain ⟨_, _, _, rfl, _⟩ := h
  exact cal_cons (calC_2 rfl)
theorem fmod_lt {a b : Int} (h : 0 < b) : 0 ≤ a.fmod b ∧ a.fmod b < b := ⟨Int.fmod_nonneg_of_pos a h, Int.fmod_lt_of_pos a h⟩
theorem at0 (a b c : D) : atI [a, b, c] 0 = some a := by simp [atI, ixN]
theorem at1 (a b c : D) : atI [a, b, c] 1 = some b := by simp [atI, ixN]
theorem at2 (a b c : D) : atI [a, b, c] 2 = some c := by simp [atI, ixN]
theorem log2_lt {a : Int} {k : Nat} (h : a.natAbs < 2 ^ k) (hk : 0 < k) : a.natAbs.log2 < k := PySem.Flt.log2_lt_of hk h
theorem draw_at (ns : List Int) (i : Int) : ∃ d : Int, atI (ns.map D.int ++ [.int 0]) (i.fmod (if (ns.length : Int) > 1 then (ns.length : Int) else 1)) = some (.int d) := by
  have hb : (0 : Int) < (if (ns.length : Int) > 1 then (ns.length : Int) else 1) := by split <;> omega
  obtain ⟨h0, h1⟩ := fmod_lt (a := i) hb
  generalize hj : i.fmod (if (ns.length : Int) > 1 then (ns.length : Int) else 1) = j at h0 h1
  obtain ⟨m, rfl⟩ := Int.eq_ofNat_of_zero_le h0
  have hm : m < ns.length + 1 := by split at h1 <;> omega
  have e : ns.map D.int ++ [.int 0] = (ns ++ [0]).map D.int := by simp
  rw [e]
  have hm2 : m < (ns ++ [0]).length := by simpa using hm
  exact ⟨(ns ++ [0])[m], atI_nat (by rw [List.getElem?_map, List.getElem?_eq_getElem hm2]; rfl)⟩
/-- the last rows of a draw -/
theorem take_rest (n : Nat) (many at' cur : Int) (ns : List Int) (rest : Store) (a b c d : Option SV) (hm : 0 < many) (hl : many.natAbs.log2 < 9000) (h0 : 0 ≤ at') (h1 : at' ≤ n) (hn : ns.length ≤ 63) :
    ∃ r cur', 0 ≤ r ∧ r < many ∧ (sSeq (sSet 5 (eOp oMod (eArg bInt (aCons (eOp oIdx (eVar 0) (eC (.int 1))) aNil)) (eVar 1)))
    (sSeq (sSetI (eVar 0) (eC (.int 1)) (eOp oFdiv (eOp oIdx (eVar 0) (eC (.int 1))) (eVar 1)))
    (sRet (eVar 5)))) [some (.ptr 0), some (.d (.int many)), a, b, c, d] ([.int at', .int cur, .lst (ns.map D.int)] :: rest) = some (.rt (.d (.int r)), [.int at', .int cur', .lst (ns.map D.int)] :: rest) := by
  obtain ⟨r0, r1⟩ := fmod_lt (a := cur) hm
  refine ⟨cur.fmod many, cur.fdiv many, r0, r1, ?_⟩
  have hne : many ≠ 0 := by omega
  have i1 : oIdx (.ptr 0) (.d (.int 1)) ([.int at', .int cur, .lst (ns.map D.int)] :: rest) = some (.ok (.d (.int cur)), [.int at', .int cur, .lst (ns.map D.int)] :: rest) := oIdx_p rfl (at1 _ _ _)
  rw [st_SeqN (st_Set (a := .d (.int (cur.fmod many))) (S' := [.int at', .int cur, .lst (ns.map D.int)] :: rest) (by
    simp only [ev_Op, ev_Arg, ev_Cons, ev_Nil, ev_C, eVar, List.getElem?_cons_zero, List.getElem?_cons_succ, bnd_ret']
    rw [bnd_assoc, bnd_assoc, bnd_at i1]
    simp [oMod_i hne]))]
  rw [st_SeqN (st_SetI (x := .int (cur.fdiv many)) (k := 0) (n := 1) (j := 1) (l := [.int at', .int cur, .lst (ns.map D.int)]) (S1 := [.int at', .int cur, .lst (ns.map D.int)] :: rest) (S2 := [.int at', .int cur, .lst (ns.map D.int)] :: rest) (S3 := [.int at', .int cur, .lst (ns.map D.int)] :: rest) (by
    simp only [ev_Op, ev_C, eVar, List.set_cons_succ, List.set_cons_zero, List.getElem?_cons_zero, List.getElem?_cons_succ, bnd_ret']
    rw [bnd_at i1]
    simp [oFdiv_i hne hl]) (by simp [eVar]) (by simp) rfl (by simp [ixN]))]
  rw [st_Ret (a := .d (.int (cur.fmod many))) (S' := [.int at', .int (cur.fdiv many), .lst (ns.map D.int)] :: rest) (by simp [eVar])]
theorem take_ok (n : Nat) (hnn : n ≤ 1000000) (many : Int) (l : List D) (rest : Store) (hm : 0 < many) (hl : many.natAbs.log2 < 9000) (hp : PoolOk n l) :
    ∃ r l', 0 ≤ r ∧ r < many ∧ PoolOk (n + 1) l' ∧ m__law_take [.ptr 0, .d (.int many)] (l :: rest) = some (.ok (.d (.int r)), l' :: rest) := by
  obtain ⟨at', cur, ns, rfl, h0, h1, hn⟩ := hp
  have hne : many ≠ 0 := by omega
  have i0 : oIdx (.ptr 0) (.d (.int 0)) ([.int at', .int cur, .lst (ns.map D.int)] :: rest) = some (.ok (.d (.int at')), [.int at', .int cur, .lst (ns.map D.int)] :: rest) := oIdx_p rfl (at0 _ _ _)
  have i1 : oIdx (.ptr 0) (.d (.int 1)) ([.int at', .int cur, .lst (ns.map D.int)] :: rest) = some (.ok (.d (.int cur)), [.int at', .int cur, .lst (ns.map D.int)] :: rest) := oIdx_p rfl (at1 _ _ _)
  by_cases hc : cur = 0
  · subst hc
    have i2 : oIdx (.ptr 0) (.d (.int 2)) ([.int (at' + 1), .int 0, .lst (ns.map D.int)] :: rest) = some (.ok (.d (.lst (ns.map D.int))), [.int (at' + 1), .int 0, .lst (ns.map D.int)] :: rest) := oIdx_p rfl (at2 _ _ _)
    obtain ⟨dr, hdr⟩ := draw_at ns at'
    have hmx : (if (ns.length : Int) > 1 then (ns.length : Int) else 1) ≠ 0 := by split <;> omega
    let A := [Option.some (SV.ptr 0), some (.d (.int many)), none, none, none, none]
    let S1 : Store := [.int (at' + 1), .int 0, .lst (ns.map D.int)] :: rest
    let m1 : Int := ((dr.fmod 2147483647 + 7919 * at' + 13) ^ (5 : Nat)).fmod 2147483647
    let m2 : Int := ((m1 + 104729 * at' + 29) ^ (3 : Nat)).fmod 2147483629
    have b1 : (dr.fmod 2147483647 + 7919 * at' + 13).natAbs < 2 ^ 64 := by
      have := fmod_lt (a := dr) (b := 2147483647) (by decide)
      omega
    have b2 : (m1 + 104729 * at' + 29).natAbs < 2 ^ 64 := by
      have := fmod_lt (a := (dr.fmod 2147483647 + 7919 * at' + 13) ^ (5 : Nat)) (b := 2147483647) (by decide)
      have e : m1 = ((dr.fmod 2147483647 + 7919 * at' + 13) ^ (5 : Nat)).fmod 2147483647 := rfl
      omega
    have la : at'.natAbs.log2 < 64 := log2_lt (by omega) (by decide)
    have blk : (sSeq (sSet 2 (eOp oIdx (eVar 0) (eC (.int 0))))
    (sSeq (sSetI (eVar 0) (eC (.int 0)) (eOp oAdd (eVar 2) (eC (.int 1))))
    (sSeq (sSet 3 (eOp oIdx (eOp oAdd (eOp oIdx (eVar 0) (eC (.int 2))) (eArg mkLst (aCons (eC (.int 0)) aNil))) (eOp oMod (eArg bInt (aCons (eVar 2) aNil)) (eArg bMax (aCons (eC (.int 1)) (aCons (eArg bLen (aCons (eOp oIdx (eVar 0) (eC (.int 2))) aNil)) aNil))))))
    (sSeq (sSet 4 (eOp oMod (eOp oPow (eOp oAdd (eOp oAdd (eOp oMod (eArg bInt (aCons (eVar 3) aNil)) (eC (.int 2147483647))) (eOp oMul (eC (.int 7919)) (eVar 2))) (eC (.int 13))) (eC (.int 5))) (eC (.int 2147483647))))
    (sSeq (sSet 4 (eOp oMod (eOp oPow (eOp oAdd (eOp oAdd (eVar 4) (eOp oMul (eC (.int 104729)) (eVar 2))) (eC (.int 29))) (eC (.int 3))) (eC (.int 2147483629))))
    (sSeq (sIf (eTst (eOp oLt (eVar 3) (eOp oPow (eC (.int 10)) (eC (.int 18))))) (sRet (eOp oMod (eOp oFdiv (eVar 4) (eC (.int 11))) (eVar 1))) sNop)
    (sSetI (eVar 0) (eC (.int 1)) (eVar 3)))))))) A ([.int at', .int 0, .lst (ns.map D.int)] :: rest) =
      if dr < 10 ^ 18 then some (.rt (.d (.int ((m2.fdiv 11).fmod many))), S1) else
        some (.nx [some (.ptr 0), some (.d (.int many)), some (.d (.int at')), some (.d (.int dr)), some (.d (.int m2)), none], [.int (at' + 1), .int dr, .lst (ns.map D.int)] :: rest) := by
      rw [st_SeqN (st_Set (a := .d (.int at')) (S' := [.int at', .int 0, .lst (ns.map D.int)] :: rest) (by
        simp only [A, ev_Op, ev_C, eVar, List.getElem?_cons_zero, bnd_ret']
        exact i0))]
      rw [st_SeqN (st_SetI (x := .int (at' + 1)) (k := 0) (n := 0) (j := 0) (l := [.int at', .int 0, .lst (ns.map D.int)]) (S1 := [.int at', .int 0, .lst (ns.map D.int)] :: rest) (S2 := [.int at', .int 0, .lst (ns.map D.int)] :: rest) (S3 := [.int at', .int 0, .lst (ns.map D.int)] :: rest) (by simp [A, eVar]) (by simp [A, eVar]) (by simp) rfl (by simp [ixN]))]
      have cat : oAdd (.d (.lst (ns.map D.int))) (.d (.lst [.int 0])) S1 = some (.ok (.d (.lst (ns.map D.int ++ [.int 0]))), S1) := by
        have : (ns.map D.int).length + [D.int 0].length ≤ lim := by simp only [List.length_map, List.length_cons, List.length_nil, lim]; omega
        show (match items S1 (.d (.lst (ns.map D.int))), items S1 (.d (.lst [.int 0])) with
          | some l, some m => if l.length + m.length ≤ lim then some (R.ok (SV.d (.lst (l ++ m))), S1) else none
          | _, _ => none) = _
        dsimp only [items]
        rw [if_pos this]
      rw [st_SeqN (st_Set (a := .d (.int dr)) (S' := S1) (by
        simp only [A, ev_Op, ev_Arg, ev_Cons, ev_Nil, ev_C, eVar, List.set_cons_succ, List.set_cons_zero, List.getElem?_cons_zero, List.getElem?_cons_succ, bnd_ret', mkLst_1, bInt_i]
        rw [bnd_assoc, bnd_at i2, bnd_at cat]
        simp only [bnd_assoc]
        rw [bnd_at i2]
        simp only [bnd_ret', bLen_l, bMax_i, List.length_map, oMod_i hmx, oIdx_l hdr, ret_at]
        rfl))]
      rw [st_SeqN (st_Set (a := .d (.int m1)) (S' := S1) (by
        simp only [A, ev_Op, ev_Arg, ev_Cons, ev_Nil, ev_C, eVar, List.set_cons_succ, List.set_cons_zero, List.getElem?_cons_zero, List.getElem?_cons_succ, bnd_ret', bInt_i]
        rw [oMod_i (by decide)]
        simp only [bnd_ret']
        rw [oMul_i (by have : (7919 : Int).natAbs.log2 < 64 := by decide
                       omega)]
        simp only [bnd_ret', oAdd_i]
        rw [oPow_i (by decide) (by decide) b1]
        simp only [bnd_ret']
        rw [oMod_i (by decide)]
        rfl))]
      rw [st_SeqN (st_Set (a := .d (.int m2)) (S' := S1) (by
        simp only [A, ev_Op, ev_Arg, ev_Cons, ev_Nil, ev_C, eVar, List.set_cons_succ, List.set_cons_zero, List.getElem?_cons_zero, List.getElem?_cons_succ, bnd_ret']
        rw [oMul_i (by have : (104729 : Int).natAbs.log2 < 64 := by decide
                       omega)]
        simp only [bnd_ret', oAdd_i]
        rw [oPow_i (by decide) (by decide) b2]
        simp only [bnd_ret']
        rw [oMod_i (by decide)]
        rfl))]
      have tst : (eTst (eOp oLt (eVar 3) (eOp oPow (eC (.int 10)) (eC (.int 18))))) [some (.ptr 0), some (.d (.int many)), some (.d (.int at')), some (.d (.int dr)), some (.d (.int m2)), none] S1 = some (.ok (decide (dr < 10 ^ 18)), S1) := by
        simp only [ev_Tst, ev_Op, ev_C, eVar, List.getElem?_cons_zero, List.getElem?_cons_succ, bnd_ret']
        rw [oPow_i (by decide) (by decide) (by decide)]
        simp only [bnd_ret', oLt_i, asB_b, ret_at]
        rfl
      by_cases hd : dr < 10 ^ 18
      · rw [if_pos hd]
        rw [decide_eq_true hd] at tst
        refine st_SeqR ?_
        show sIf _ _ _ [some (.ptr 0), some (.d (.int many)), some (.d (.int at')), some (.d (.int dr)), some (.d (.int m2)), none] S1 = _
        rw [st_IfT tst]
        refine st_Ret ?_
        simp only [ev_Op, ev_C, eVar, List.getElem?_cons_zero, List.getElem?_cons_succ, bnd_ret']
        rw [oFdiv_i (by decide) (by decide)]
        simp only [bnd_ret']
        rw [oMod_i hne]
        rfl
      · rw [if_neg hd]
        rw [decide_eq_false hd] at tst
        refine (st_SeqN (env' := [some (.ptr 0), some (.d (.int many)), some (.d (.int at')), some (.d (.int dr)), some (.d (.int m2)), none]) (S' := S1) ?_).trans ?_
        · show sIf _ _ _ [some (.ptr 0), some (.d (.int many)), some (.d (.int at')), some (.d (.int dr)), some (.d (.int m2)), none] S1 = _
          rw [st_IfF tst]
          rfl
        · rw [st_SetI (x := .int dr) (k := 0) (n := 1) (j := 1) (l := [.int (at' + 1), .int 0, .lst (ns.map D.int)]) (S1 := S1) (S2 := S1) (S3 := S1) (by simp [eVar]) (by simp [eVar]) (by simp) rfl (by simp [ixN])]
          rfl
    have tst0 : (eTst (eOp oEq (eOp oIdx (eVar 0) (eC (.int 1))) (eC (.int 0)))) A ([.int at', .int 0, .lst (ns.map D.int)] :: rest) = some (.ok true, [.int at', .int 0, .lst (ns.map D.int)] :: rest) := by
      simp only [A, ev_Tst, ev_Op, ev_C, eVar, List.getElem?_cons_zero, List.getElem?_cons_succ, bnd_ret']
      rw [bnd_assoc, bnd_at i1]
      simp
    by_cases hd : dr < 10 ^ 18
    · rw [if_pos hd] at blk
      obtain ⟨r0, r1⟩ := fmod_lt (a := m2.fdiv 11) hm
      refine ⟨_, [.int (at' + 1), .int 0, .lst (ns.map D.int)], r0, r1, ⟨at' + 1, 0, ns, rfl, by omega, by omega, hn⟩, ?_⟩
      refine fn_retE rfl (S1 := S1) ?_ (by simp [S1])
      show y__law_take A _ = _
      unfold y__law_take
      refine st_SeqR ?_
      rw [st_IfT tst0, blk]
    · rw [if_neg hd] at blk
      obtain ⟨r, cur', r0, r1, hr⟩ := take_rest (n + 1) many (at' + 1) dr ns rest (some (.d (.int at'))) (some (.d (.int dr))) (some (.d (.int m2))) none hm hl (by omega) (by omega) hn
      refine ⟨r, [.int (at' + 1), .int cur', .lst (ns.map D.int)], r0, r1, ⟨at' + 1, cur', ns, rfl, by omega, by omega, hn⟩, ?_⟩
      refine fn_retE rfl (S1 := [.int (at' + 1), .int cur', .lst (ns.map D.int)] :: rest) ?_ (by simp)
      show y__law_take A _ = _
      unfold y__law_take
      rw [st_SeqN (env' := [some (.ptr 0), some (.d (.int many)), some (.d (.int at')), some (.d (.int dr)), some (.d (.int m2)), none]) (S' := [.int (at' + 1), .int dr, .lst (ns.map D.int)] :: rest) (by rw [st_IfT tst0, blk])]
      exact hr
  · obtain ⟨r, cur', r0, r1, hr⟩ := take_rest n many at' cur ns rest none none none none hm hl h0 h1 hn
    refine ⟨r, [.int at', .int cur', .lst (ns.map D.int)], r0, r1, ⟨at', cur', ns, rfl, h0, by omega, hn⟩, ?_⟩
    refine fn_retE rfl (S1 := [.int at', .int cur', .lst (ns.map D.int)] :: rest) ?_ (by simp)
    show y__law_take [some (.ptr 0), some (.d (.int many)), none, none, none, none] _ = _
    unfold y__law_take
    rw [st_SeqN (env' := [some (.ptr 0), some (.d (.int many)), none, none, none, none]) (S' := [.int at', .int cur, .lst (ns.map D.int)] :: rest) (by
      rw [st_IfF (S' := [.int at', .int cur, .lst (ns.map D.int)] :: rest) (by
        simp only [ev_Tst, ev_Op, ev_C, eVar, List.getElem?_cons_zero, List.getElem?_cons_succ, bnd_ret']
        rw [bnd_assoc, bnd_at i1]
        simp [hc])]
      rfl)]
    exact hr
end Lw
namespace Lw
open PySem L2 DL
def basic : D → Bool
  | .non => true
  | .bl _ => true
  | .int _ => true
  | .str _ => true
  | .tup _ => true
  | .lst _ => true
  | _ => false
def whole : D → Bool
  | .int _ => true
  | _ => false
@[simp] theorem kit_ni : kitB "NoneType" "int" = some false := by decide +kernel
@[simp] theorem kit_si : kitB "str" "int" = some false := by decide +kernel
@[simp] theorem kit_ti : kitB "tuple" "int" = some false := by decide +kernel
@[simp] theorem kit_li : kitB "list" "int" = some false := by decide +kernel
@[simp] theorem kit_nl : kitB "NoneType" "list" = some false := by decide +kernel
@[simp] theorem kit_sl : kitB "str" "list" = some false := by decide +kernel
@[simp] theorem kit_tl : kitB "tuple" "list" = some false := by decide +kernel
@[simp] theorem kit_ll : kitB "list" "list" = some true := by decide +kernel
@[simp] theorem kit_bl : kitB "bool" "list" = some false := by decide +kernel
@[simp] theorem kit_il : kitB "int" "list" = some false := by decide +kernel
@[simp] theorem kit_nt : kitB "NoneType" "tuple" = some false := by decide +kernel
@[simp] theorem kit_st : kitB "str" "tuple" = some false := by decide +kernel
@[simp] theorem kit_lt : kitB "list" "tuple" = some false := by decide +kernel
@[simp] theorem kit_bt : kitB "bool" "tuple" = some false := by decide +kernel
@[simp] theorem kit_it : kitB "int" "tuple" = some false := by decide +kernel
theorem fn_R {np n : Nat} {f : DL.Env → M SV} {as : List SV} {x : D} (hl : as.length = np) (h : f (as.map some ++ List.replicate (n - as.length) none) = ret (.d x)) : fnSem np n (sRet f) as = ret (.d x) := by
  funext S
  exact fn_retE hl (st_Ret (by rw [h]; rfl)) rfl
theorem fn_B {np n : Nat} {body : SM} {as : List SV} {x : D} (hl : as.length = np) (h : ∀ S, body (as.map some ++ List.replicate (n - as.length) none) S = some (.rt (.d x), S)) : fnSem np n body as = ret (.d x) := by
  funext S
  exact fn_retE hl (h S) rfl
theorem whole_ev (d : D) (h : basic d = true) (env : DL.Env) (i : Nat) (he : env[i]? = some (some (.d d))) : (eAnd (eArg bIsi (aCons (eVar i) (aCons (eC (.ty "int")) aNil))) (eNot (eArg bIsi (aCons (eVar i) (aCons (eC (.ty "bool")) aNil))))) env = ret (.d (.bl (whole d))) := by
  simp only [ev_And, ev_Not, ev_Arg, ev_Cons, ev_Nil, ev_C, ev_Var he, bnd_ret']
  cases d <;> first | cases h | skip
  all_goals simp [bIsi, tyN, whole]
theorem v_whole (d : D) (h : basic d = true) : m_is_whole [.d d] = ret (.d (.bl (whole d))) := fn_R rfl (whole_ev d h _ 0 rfl)
def islst : D → Bool
  | .lst _ => true
  | .tup _ => true
  | _ => false
theorem v_list (d : D) (h : basic d = true) : m_is_list [.d d] = ret (.d (.bl (islst d))) := by
  refine fn_R rfl ?_
  show (eArg bIsiT (aCons (eVar 0) (aCons (eArg mkTup (aCons (eC (.ty "list")) (aCons (eC (.ty "tuple")) aNil))) aNil))) [some (.d d)] = _
  simp only [ev_Arg, ev_Cons, ev_Nil, ev_C, eVar, List.getElem?_cons_zero, bnd_ret', mkTup_2]
  cases d <;> first | cases h | skip
  all_goals simp [bIsiT, tyN, tysOf, kitS, islst]
/-- all are whole, by a comprehension -/
theorem all_whole (m : Fn) (hm : ∀ d, basic d = true → m [.d d] = ret (.d (.bl (whole d)))) (env : DL.Env) (i : Nat) (fi : DL.Env → M (List D × KK)) (r : List D) (hi : fi env = ret (r, none)) (hw : ∀ d, (wipeE env [i]).set i (some (.d d)) = (wipeE env [i]).set i (some (.d d)) ∧ i < env.length) (hb : ∀ d ∈ r, basic d = true) (hl : r.length ≤ 1000) :
    (eArg bAll (aCons (eLc [i] (.one i) fi tYesD (eCall asPure m [] (aCons (eVar i) aNil))) aNil)) env = ret (.d (.bl (r.all whole))) := by
  have lc : (eLc [i] (.one i) fi tYesD (eCall asPure m [] (aCons (eVar i) aNil))) env = ret (.d (.lst (r.map fun d => D.bl (whole d)))) := by
    refine lc_all (fun d => .bl (whole d)) hi (fun d hd => ⟨_, rfl, ?_⟩) (by omega)
    have hlen : i < (wipeE env [i]).length := by
      show i < (env.set i none).length
      rw [List.length_set]
      exact (hw d).2
    have hv : ((wipeE env [i]).set i (some (.d d)))[i]? = some (some (SV.d d)) := by rw [List.getElem?_set_self hlen]
    simp only [ev_Call, ev_Cons, ev_Nil, ev_Var hv, bnd_ret', List.append_nil]
    exact call_pure rfl (hm d (hb d hd))
  simp only [ev_Arg, ev_Cons, ev_Nil, lc, bnd_ret']
  exact bAll_map whole r
def prodI : Int → List Int → Int
  | a, [] => a
  | a, m :: ms => prodI (a * m) ms
def Rng (ms : List Int) : Prop := ∀ m ∈ ms, 1 ≤ m ∧ m ≤ 4
theorem mul_rng {a m : Int} {k : Nat} (h1 : 1 ≤ a) (h2 : a ≤ 4 ^ k) (hm : 1 ≤ m ∧ m ≤ 4) : 1 ≤ a * m ∧ a * m ≤ 4 ^ (k + 1) := by
  constructor
  · have := Int.mul_le_mul_of_nonneg_left hm.1 (show 0 ≤ a by omega)
    omega
  · rw [Int.pow_succ]
    exact Int.mul_le_mul h2 hm.2 (by omega) (by omega)
theorem prod_bd : ∀ (ms : List Int) (a : Int) (k : Nat), 1 ≤ a → a ≤ 4 ^ k → Rng ms → 1 ≤ prodI a ms ∧ prodI a ms ≤ 4 ^ (k + ms.length)
  | [], a, k, h1, h2, _ => ⟨h1, h2⟩
  | m :: ms, a, k, h1, h2, hr => by
    obtain ⟨q1, q2⟩ := mul_rng h1 h2 (hr m List.mem_cons_self)
    have := prod_bd ms (a * m) (k + 1) q1 q2 fun x hx => hr x (List.mem_cons_of_mem _ hx)
    rw [show k + (m :: ms).length = k + 1 + ms.length by simp only [List.length_cons]; omega]
    exact this
end Lw
namespace Lw
open PySem L2 DL
def intOf : D → Int
  | .int n => n
  | _ => 0
end Lw
namespace Lw
open PySem L2 DL
def cellStep (found : List (List Int)) (m : Int) : List (List Int) := found.flatMap fun s => (List.range m.toNat).map fun i => s ++ [((i : Nat) : Int)]
def cellsOf (ms : List Int) : List (List Int) := ms.foldl cellStep [[]]
end Lw
namespace Lw
open PySem L2 DL
theorem ev_CallR {cv : RR → M SV} {m : Fn} {fa : DL.Env → M (List SV)} {env : DL.Env} {as : List SV} {x : SV} (h : fa env = ret as) (h2 : callM cv m as = ret x) : eCall cv m [] fa env = ret x := by
  rw [ev_Call, h, bnd_ret', List.append_nil, h2]
theorem ev_ArgR {α : Type} {o : List SV → M α} {fa : DL.Env → M (List SV)} {env : DL.Env} {as : List SV} {x : α} (h : fa env = ret as) (h2 : o as = ret x) : eArg o fa env = ret x := by
  rw [ev_Arg, h, bnd_ret', h2]
theorem at_ret {α : Type} {m : M α} {a : α} (h : m = ret a) (S : Store) : m S = some (.ok a, S) := by rw [h]; rfl
/-- a list of short lists of plain values -/
def Row (d : D) : Prop := ∃ r, d = .lst r ∧ r.length ≤ 100 ∧ ∀ x ∈ r, basic x = true
def Rows (rows : List D) : Prop := rows.length ≤ 1000 ∧ ∀ d ∈ rows, Row d
theorem rangeD_0 (n : Nat) : rangeD 0 n = (List.range' 0 n).map fun i => .int ((0 : Int) + (i : Nat)) := by
  unfold rangeD
  rw [List.range_eq_range']
theorem walk_i (j : Int) (h : 0 ≤ j ∧ j ≤ 1000000) : walkR1 [.d (.int j)] = ret (rangeD 0 j.toNat, none) := by
  show (if rngOk j = true then ret (rangeD 0 j.toNat, none) else stuck) = _
  rw [if_pos (by unfold rngOk; rw [decide_eq_true (by omega), decide_eq_true (by omega)]; rfl)]
theorem walk_n (n : Nat) (hn : n ≤ 1000) : walkR1 [.d (.int n)] = ret (rangeD 0 n, none) := by
  have h := walk_i n (by omega)
  rw [Int.toNat_natCast] at h
  exact h
theorem map_intOf (ms : List Int) : (ms.map D.int).map intOf = ms := by
  rw [List.map_map]
  exact List.map_id ms
end Lw
namespace Lw
open PySem L2 DL
theorem call_fr {m : Fn} {as : List SV} {x : List D} (hn : noExc as = true) (h : ∀ S, m as S = some (.ok (.fresh x), S)) (hc : clsd x = true := by (first | rfl | exact clsd_ints _ | exact clsd_map (fun _ => rfl) _ | assumption | (exact clsd_append (clsd_ints _) (by rfl)) | (exact clsd_append (clsd_map (fun _ => rfl) _) (by rfl)))) : callM asPure m as = ret (.d (.lst x)) := by
  funext S
  exact call_atF hn (h S) hc
theorem fn_F {np n : Nat} {body : SM} {as : List SV} {x : List D} {S : Store} (hl : as.length = np) (h : body (as.map some ++ List.replicate (n - as.length) none) S = some (.rt (.ptr S.length), S ++ [x])) (hc : clsd x = true := by (first | rfl | exact clsd_ints _ | exact clsd_map (fun _ => rfl) _ | assumption | (exact clsd_append (clsd_ints _) (by rfl)) | (exact clsd_append (clsd_map (fun _ => rfl) _) (by rfl)))) : fnSem np n body as S = some (.ok (.fresh x), S) := by
  rw [fn_retP (x := x) hl h (Nat.le_refl _) (by simp) (cal_app _ _) hc, List.take_left' rfl]
end Lw
namespace Lw
open PySem L2 DL
theorem nat_log {k : Nat} (h : k ≤ 1000000) : (k : Int).natAbs.log2 < 9000 := Nat.lt_of_lt_of_le (log2_lt (k := 64) (by
  have : (2 : Nat) ^ 64 = 18446744073709551616 := by decide
  omega) (by decide)) (by decide)
end Lw
namespace Lw
open PySem L2 DL
/-- a number that is drawn -/
theorem v_num (n : Nat) (hn : n ≤ 900000) (most : Nat) (hmo : most ≤ 100000) (l : List D) (rest : Store) (hp : PoolOk n l) (env : DL.Env) (h0 : env[0]? = some (some (.ptr 0))) (h2 : env[2]? = some (some (.d (.int most)))) :
    ∃ v l', PoolOk (n + 1) l' ∧ -(most : Int) ≤ v ∧ v ≤ most ∧ (eOp oSub (eCall asPure m__law_take [] (aCons (eVar 0) (aCons (eOp oAdd (eOp oMul (eC (.int 2)) (eVar 2)) (eC (.int 1))) aNil))) (eVar 2)) env (l :: rest) = some (.ok (.d (.int v)), l' :: rest) := by
  obtain ⟨r, l', r0, r1, p1, e1⟩ := take_ok n (by omega) (2 * (most : Int) + 1) l rest (by omega) (Nat.lt_of_lt_of_le (log2_lt (k := 64) (by
    have : (2 : Nat) ^ 64 = 18446744073709551616 := by decide
    omega) (by decide)) (by decide)) hp
  refine ⟨r - most, l', p1, by omega, by omega, ?_⟩
  have fa : (aCons (eVar 0) (aCons (eOp oAdd (eOp oMul (eC (.int 2)) (eVar 2)) (eC (.int 1))) aNil)) env = ret [.ptr 0, .d (.int (2 * (most : Int) + 1))] := by
    simp only [ev_Cons, ev_Op, ev_C, ev_Nil, ev_Var h0, ev_Var h2, bnd_ret']
    rw [oMul_i (by
      have a : (2 : Int).natAbs.log2 < 64 := by decide
      have b : (most : Int).natAbs.log2 < 64 := log2_lt (by
        have : (2 : Nat) ^ 64 = 18446744073709551616 := by decide
        omega) (by decide)
      omega)]
    rfl
  rw [ev_Op, ev_Call, fa, bnd_ret', List.append_nil, bnd_at (call_at rfl e1), ev_Var h2]
  rfl
theorem comp_loop (most : Nat) (hmo : most ≤ 100000) (fe : DL.Env → M SV) (t : Tg) (all : List D) (env : DL.Env) (ht : ∀ d, ∃ env1, setT t d env = some env1)
    (hfe : ∀ d env1 (n : Nat) (l : List D) (rest : Store), setT t d env = some env1 → n ≤ 900000 → PoolOk n l → ∃ v l', PoolOk (n + 1) l' ∧ -(most : Int) ≤ v ∧ v ≤ most ∧ fe env1 (l :: rest) = some (.ok (.d (.int v)), l' :: rest)) (rest : Store) :
    ∀ (ds : List D) (n : Nat) (l : List D) (acc : List D), n + ds.length ≤ 900000 → acc.length + ds.length ≤ 100000 → PoolOk n l → ∃ (l' : List D) (vs : List Int), PoolOk (n + ds.length) l' ∧ vs.length = ds.length ∧ (∀ v ∈ vs, -(most : Int) ≤ v ∧ v ≤ most) ∧
      lcL t none all tYesD fe (rest.length + 1) env ds (l :: rest ++ [acc]) = some (l' :: rest ++ [acc ++ vs.map D.int])
  | [], n, l, acc, _, _, hp => ⟨l, [], hp, rfl, by simp, by unfold lcL; simp⟩
  | d :: ds, n, l, acc, hn, ha, hp => by
    obtain ⟨env1, h1⟩ := ht d
    simp only [List.length_cons] at hn ha
    obtain ⟨v, l1, p1, v0, v1, e1⟩ := hfe d env1 n l (rest ++ [acc]) h1 (by omega) hp
    obtain ⟨l', vs, p2, hl, hv, e2⟩ := comp_loop most hmo fe t all env ht hfe rest ds (n + 1) l1 (acc ++ [.int v]) (by omega) (by simp only [List.length_append, List.length_cons, List.length_nil]; omega) p1
    refine ⟨l', v :: vs, by rw [show n + (d :: ds).length = n + 1 + ds.length by simp only [List.length_cons]; omega]; exact p2, by simp [hl], fun w hw => ?_, ?_⟩
    · rcases List.mem_cons.mp hw with e | e
      · rw [e]; exact ⟨v0, v1⟩
      · exact hv w e
    · unfold lcL
      rw [h1]; dsimp only; rw [ev_Yes]; dsimp only [DL.ret]
      rw [show (l :: rest ++ [acc] : Store) = l :: (rest ++ [acc]) from rfl, e1]
      dsimp only
      have hg : (l1 :: (rest ++ [acc]) : Store)[rest.length + 1]? = some acc := by simp
      unfold lcNext
      rw [hg]; dsimp only
      rw [if_pos (show acc.length < lim by simp only [lim]; omega)]; dsimp only
      rw [if_pos (show keepOk none all _ from trivial)]
      have hs : (l1 :: (rest ++ [acc]) : Store).set (rest.length + 1) (acc ++ [.int v]) = l1 :: rest ++ [acc ++ [.int v]] := by simp
      rw [hs, e2]
      simp
end Lw
namespace Lw
open PySem L2 DL
def sq (b : Bool) (l : List D) : D := if b then .tup l else .lst l
theorem it_sq {b : Bool} {l : List D} {env : DL.Env} {i : Nat} (h : env[i]? = some (some (.d (sq b l)))) : iOf (eVar i) env = ret (l, none) := by
  show bnd (eVar i env) walkD = _
  rw [ev_Var h, bnd_ret']
  cases b <;> rfl
theorem len_sq (b : Bool) (l : List D) : bLen [.d (sq b l)] = ret (.d (.int l.length)) := by cases b <;> rfl
theorem list_sq (b : Bool) (l : List D) : callM asPure m_is_list [.d (sq b l)] = ret (.d (.bl true)) := by cases b <;> exact call_pure rfl (v_list _ rfl)
/-- a sound shape -/
structure Snd (ms : List Int) : Prop where
  l1 : 1 ≤ ms.length
  l2 : ms.length ≤ 3
  r : Rng ms
  p : prodI 1 ms ≤ 16
theorem Snd.pos {ms : List Int} (s : Snd ms) : 1 ≤ prodI 1 ms := (prod_bd ms 1 0 (by decide) (by decide) s.r).1
theorem whole_ints (r : List Int) : (r.map D.int).all whole = true := by
  rw [List.all_eq_true]
  intro d hd
  obtain ⟨i, _, rfl⟩ := List.mem_map.mp hd
  rfl
end Lw
namespace Lw
open PySem L2 DL
def gI (a b : Int) : Int := ((Nat.gcd a.natAbs b.natAbs : Nat) : Int)
def sg (b g : Int) : Int := if b < 0 then -g else g
def ratL (a b : Int) : List Int := [a.fdiv (sg b (gI a b)), b.fdiv (sg b (gI a b))]
def ratD (a b : Int) : D := .tup ((ratL a b).map D.int)
def Sm (k : Nat) (x : Int) : Prop := x.natAbs < 2 ^ k
theorem Sm.log {k : Nat} {x : Int} (h : Sm k x) (hk : 0 < k) : x.natAbs.log2 < k := log2_lt h hk
theorem Sm.mono {j k : Nat} {x : Int} (h : Sm j x) (hk : j ≤ k) : Sm k x := Nat.lt_of_lt_of_le h (Nat.pow_le_pow_right (by decide) hk)
theorem Sm.mul {j k : Nat} {x y : Int} (h : Sm j x) (h2 : Sm k y) : Sm (j + k) (x * y) := wide_lt h h2
theorem Sm.add {k : Nat} {x y : Int} (h : Sm k x) (h2 : Sm k y) : Sm (k + 1) (x + y) := by
  unfold Sm at *
  rw [Nat.pow_succ]
  have := Int.natAbs_add_le x y
  omega
theorem Sm.neg {k : Nat} {x : Int} (h : Sm k x) : Sm k (-x) := by unfold Sm at *; rw [Int.natAbs_neg]; exact h
theorem Sm.sub {k : Nat} {x y : Int} (h : Sm k x) (h2 : Sm k y) : Sm (k + 1) (x - y) := by
  rw [Int.sub_eq_add_neg]; exact h.add h2.neg
theorem Sm.le {k : Nat} {x y : Int} (h : Sm k x) (h2 : y.natAbs ≤ x.natAbs) : Sm k y := Nat.lt_of_le_of_lt h2 h
theorem gI_pos {a b : Int} (h : b ≠ 0) : 0 < gI a b := by
  unfold gI
  have : 0 < Nat.gcd a.natAbs b.natAbs := Nat.gcd_pos_of_pos_right _ (by omega)
  omega
theorem gI_sm {k : Nat} {a b : Int} (h : b ≠ 0) (hb : Sm k b) : Sm k (gI a b) := by
  refine hb.le ?_
  unfold gI
  rw [Int.natAbs_natCast]
  exact Nat.gcd_le_right _ (by omega)
theorem sg_ne {a b : Int} (h : b ≠ 0) : sg b (gI a b) ≠ 0 := by
  have := gI_pos (a := a) h
  unfold sg; split <;> omega
theorem sg_sm {k : Nat} {a b : Int} (h : b ≠ 0) (hb : Sm k b) : Sm k (sg b (gI a b)) := by
  unfold sg; split
  · exact (gI_sm h hb).neg
  · exact gI_sm h hb
theorem sg_dvd (a b : Int) : sg b (gI a b) ∣ a ∧ sg b (gI a b) ∣ b := by
  have h1 : gI a b ∣ a := by
    unfold gI; exact Int.ofNat_dvd_left.mpr (Nat.gcd_dvd_left _ _)
  have h2 : gI a b ∣ b := by
    unfold gI; exact Int.ofNat_dvd_left.mpr (Nat.gcd_dvd_right _ _)
  unfold sg; split
  · exact ⟨Int.neg_dvd.mpr h1, Int.neg_dvd.mpr h2⟩
  · exact ⟨h1, h2⟩
/-- what a ratio is: t * g = a, d * g = b -/
theorem rat_spec {a b : Int} (h : b ≠ 0) : ∃ t d g : Int, ratL a b = [t, d] ∧ t * g = a ∧ d * g = b ∧ 0 < d ∧ g = sg b (gI a b) := by
  obtain ⟨⟨t, ht⟩, ⟨d, hd⟩⟩ := sg_dvd a b
  have hn := sg_ne (a := a) h
  have hgp := gI_pos (a := a) h
  generalize hg : sg b (gI a b) = g at ht hd hn
  refine ⟨t, d, g, ?_, by rw [Int.mul_comm]; exact ht.symm, by rw [Int.mul_comm]; exact hd.symm, ?_, rfl⟩
  · unfold ratL
    rw [hg]
    have e1 : a.fdiv g = t := by
      conv => lhs; rw [ht]
      exact Int.mul_fdiv_cancel_left t hn
    have e2 : b.fdiv g = d := by
      conv => lhs; rw [hd]
      exact Int.mul_fdiv_cancel_left d hn
    rw [e1, e2]
  · unfold sg at hg
    by_cases hb : b < 0
    · rw [if_pos hb] at hg
      have hg0 : g < 0 := by omega
      have : 0 < g * d ∨ g * d ≤ 0 := by omega
      rcases Int.lt_or_le 0 d with z | z
      · exact z
      · exfalso
        have := Int.mul_nonneg_of_nonpos_of_nonpos (Int.le_of_lt hg0) z
        omega
    · rw [if_neg hb] at hg
      have hg0 : 0 < g := by omega
      rcases Int.lt_or_le 0 d with z | z
      · exact z
      · exfalso
        have := Int.mul_nonpos_of_nonneg_of_nonpos (Int.le_of_lt hg0) z
        omega
theorem rat_sm {j k : Nat} {a b t d : Int} (h : b ≠ 0) (ha : Sm j a) (hb : Sm k b) (e : ratL a b = [t, d]) : Sm j t ∧ Sm k d ∧ 0 < d := by
  obtain ⟨t', d', g, e', h1, h2, h3, hg⟩ := rat_spec (a := a) h
  rw [e'] at e
  simp only [List.cons.injEq, and_true] at e
  obtain ⟨rfl, rfl⟩ := e
  have hn : g ≠ 0 := by rw [hg]; exact sg_ne h
  have g1 : 1 ≤ g.natAbs := by omega
  refine ⟨ha.le ?_, hb.le ?_, h3⟩
  · rw [← h1, Int.natAbs_mul]; exact Nat.le_mul_of_pos_right _ g1
  · rw [← h2, Int.natAbs_mul]; exact Nat.le_mul_of_pos_right _ g1
theorem v_ratio {a b : Int} (h : b ≠ 0) (hb : Sm 4000 b) : m_ratio [.d (.int a), .d (.int b)] = ret (.d (ratD a b)) := by
  funext S
  refine fn_retE rfl ?_ rfl
  show y_ratio [some (.d (.int a)), some (.d (.int b)), none] S = _
  unfold y_ratio
  rw [st_SeqN (env' := [some (.d (.int a)), some (.d (.int b)), none]) (S' := S) (by rw [st_IfF (S' := S) (by simp [eVar, h])]; rfl)]
  rw [st_SeqN (st_Set (a := .d (.int (gI a b))) (S' := S) (by simp [eVar, gI]))]
  have hd : divOk 0 (sg b (gI a b)) = true := by
    simp only [divOk, Bool.and_eq_true, decide_eq_true_eq]
    exact ⟨sg_ne h, Nat.lt_of_lt_of_le ((sg_sm h hb).log (by decide)) (by decide)⟩
  have hd' : (sg b (gI a b)).natAbs.log2 < 9000 := Nat.lt_of_lt_of_le ((sg_sm h hb).log (by decide)) (by decide)
  have fin : ∀ S, sRet (eArg mkTup (aCons (eOp oFdiv (eVar 0) (eVar 2)) (aCons (eOp oFdiv (eVar 1) (eVar 2)) aNil))) [some (.d (.int a)), some (.d (.int b)), some (.d (.int (sg b (gI a b))))] S = some (.rt (.d (ratD a b)), S) := fun S => by
    refine st_Ret ?_
    simp only [ev_Arg, ev_Cons, ev_Nil, ev_Op, eVar, List.getElem?_cons_zero, List.getElem?_cons_succ, bnd_ret']
    rw [oFdiv_i (sg_ne h) hd', oFdiv_i (sg_ne h) hd']
    rfl
  show sSeq _ _ [some (.d (.int a)), some (.d (.int b)), some (.d (.int (gI a b)))] S = _
  by_cases hn : b < 0
  · have e : sg b (gI a b) = -(gI a b) := by unfold sg; rw [if_pos hn]
    rw [st_SeqN (env' := [some (.d (.int a)), some (.d (.int b)), some (.d (.int (-(gI a b))))]) (S' := S) (by
      rw [st_IfT (S' := S) (by simp [eVar, hn])]
      rw [st_Set (a := .d (.int (-(gI a b)))) (S' := S) (by simp [eVar])]
      rfl)]
    rw [← e]
    exact fin S
  · have e : sg b (gI a b) = gI a b := by unfold sg; rw [if_neg hn]
    rw [st_SeqN (env' := [some (.d (.int a)), some (.d (.int b)), some (.d (.int (gI a b)))]) (S' := S) (by
      rw [st_IfF (S' := S) (by simp [eVar, hn])]
      rfl)]
    rw [← e]
    exact fin S
abbrev wT : DL.Env → M Bool := eTst (eOp oNe (eVar 4) (eC (.int 0)))
abbrev wB : SM := sPar 3 4 (aCons (eVar 4) (aCons (eOp oMod (eArg bInt (aCons (eVar 3) aNil)) (eVar 4)) aNil))
theorem gw_step (e0 e1 e2 : Option SV) (a b : Nat) (hb : b ≠ 0) (n : Nat) (S : Store) : whL wT wB (n + 1) [e0, e1, e2, some (.d (.int a)), some (.d (.int b))] S = whL wT wB n [e0, e1, e2, some (.d (.int b)), some (.d (.int ((a % b : Nat) : Int)))] S := by
  have hb' : (b : Int) ≠ 0 := by omega
  refine wh_t (S1 := S) (by simp [eVar, hb]) ?_
  show sPar 3 4 _ _ _ = _
  rw [st_Par (x := .d (.int b)) (y := .d (.int ((a % b : Nat) : Int))) (S1 := S) (by
    simp only [ev_Op, ev_Arg, ev_Cons, ev_Nil, eVar, List.getElem?_cons_zero, List.getElem?_cons_succ, bnd_ret', bInt_i]
    rw [oMod_i hb', Int.fmod_eq_emod_of_nonneg _ (by omega)]
    rfl)]
  rfl
theorem gw_stop (e0 e1 e2 : Option SV) (a : Nat) (n : Nat) (S : Store) : whL wT wB (n + 1) [e0, e1, e2, some (.d (.int a)), some (.d (.int 0))] S = some (.nx [e0, e1, e2, some (.d (.int a)), some (.d (.int 0))], S) := wh_f (by simp [eVar])
theorem half_lt {a b : Nat} (hb : 0 < b) (hr : 0 < a % b) : b % (a % b) < b / 2 + 1 ∧ 2 * (b % (a % b)) < b := by
  have h1 : a % b < b := Nat.mod_lt _ hb
  generalize a % b = r at hr h1
  have h2 : b % r < r := Nat.mod_lt _ hr
  have h3 := Nat.div_add_mod b r
  have h4 : 1 ≤ b / r := Nat.div_pos (by omega) hr
  have h5 : r ≤ r * (b / r) := Nat.le_mul_of_pos_right _ h4
  omega
theorem gw_loop (e0 e1 e2 : Option SV) (S : Store) : ∀ (k a b n : Nat), b < 2 ^ k → 2 * k + 1 ≤ n → whL wT wB n [e0, e1, e2, some (.d (.int a)), some (.d (.int b))] S = some (.nx [e0, e1, e2, some (.d (.int (Nat.gcd a b))), some (.d (.int 0))], S)
  | 0, a, b, n, hb, hn => by
    have : b = 0 := by simpa using hb
    subst this
    obtain ⟨m, rfl⟩ : ∃ m, n = m + 1 := ⟨n - 1, by omega⟩
    rw [Nat.gcd_zero_right]
    exact gw_stop e0 e1 e2 a m S
  | k + 1, a, b, n, hb, hn => by
    obtain ⟨m, rfl⟩ : ∃ m, n = m + 1 := ⟨n - 1, by omega⟩
    by_cases h0 : b = 0
    · subst h0
      rw [Nat.gcd_zero_right]
      exact gw_stop e0 e1 e2 a m S
    · rw [gw_step e0 e1 e2 a b h0]
      obtain ⟨j, rfl⟩ : ∃ j, m = j + 1 := ⟨m - 1, by omega⟩
      have hg : Nat.gcd a b = Nat.gcd b (a % b) := by rw [Nat.gcd_comm a b, Nat.gcd_rec b a, Nat.gcd_comm]
      rw [hg]
      by_cases h1 : a % b = 0
      · rw [h1, Nat.gcd_zero_right]
        exact gw_stop e0 e1 e2 b j S
      · rw [gw_step e0 e1 e2 b (a % b) h1]
        have hg2 : Nat.gcd b (a % b) = Nat.gcd (a % b) (b % (a % b)) := by rw [Nat.gcd_comm b, Nat.gcd_rec (a % b) b, Nat.gcd_comm]
        rw [hg2]
        have := (half_lt (a := a) (b := b) (by omega) (by omega)).2
        rw [Nat.pow_succ] at hb
        exact gw_loop e0 e1 e2 S k _ _ j (by omega) (by omega)
def gFold (f : Nat) (ns : List Int) : Nat := ns.foldl (fun f n => Nat.gcd n.natAbs f) f
theorem gd_loop (all : List D) (e0 : Option SV) (S : Store) : ∀ (ns : List Int) (f : Nat) (e2 e3 e4 : Option SV), f < 2 ^ 4000 → (∀ n ∈ ns, Sm 4000 n) → ∃ x2 x3 x4,
    forL (.one 2) none all (sSeq (sSet 3 (eArg bAbs (aCons (eVar 2) aNil))) (sSeq (sSet 4 (eVar 1)) (sSeq (whL wT wB 100000) (sSet 1 (eVar 3))))) (ns.map D.int) [e0, some (.d (.int f)), e2, e3, e4] S = some (.nx [e0, some (.d (.int (gFold f ns))), x2, x3, x4], S)
  | [], f, e2, e3, e4, _, _ => ⟨e2, e3, e4, for_nil⟩
  | n :: ns, f, e2, e3, e4, hf, hn => by
    have hn0 : Sm 4000 n := hn n List.mem_cons_self
    have hf' : Nat.gcd n.natAbs f < 2 ^ 4000 := by
      by_cases h : n.natAbs = 0
      · rw [h, Nat.gcd_zero_left]; exact hf
      · exact Nat.lt_of_le_of_lt (Nat.gcd_le_left _ (by omega)) hn0
    obtain ⟨x2, x3, x4, ih⟩ := gd_loop all e0 S ns (Nat.gcd n.natAbs f) (some (.d (.int n))) (some (.d (.int (Nat.gcd n.natAbs f)))) (some (.d (.int 0))) hf' (fun m hm => hn m (List.mem_cons_of_mem _ hm))
    refine ⟨x2, x3, x4, ?_⟩
    rw [List.map_cons, for_nx (kk := none) (all := all) (env2 := [e0, some (.d (.int (Nat.gcd n.natAbs f))), some (.d (.int n)), some (.d (.int (Nat.gcd n.natAbs f))), some (.d (.int 0))]) (S2 := S) rfl ?_ (show keepOk none all S from trivial)]
    · exact ih
    · show sSeq _ _ [e0, some (.d (.int f)), some (.d (.int n)), e3, e4] S = _
      have ab : (if n < 0 then -n else n) = (n.natAbs : Int) := by split <;> omega
      rw [st_SeqN (st_Set (a := .d (.int (n.natAbs : Int))) (S' := S) (by simp only [ev_Arg, ev_Cons, ev_Nil, eVar, List.getElem?_cons_zero, List.getElem?_cons_succ, bnd_ret', bAbs_i, ab]; rfl))]
      rw [st_SeqN (st_Set (a := .d (.int f)) (S' := S) rfl)]
      show sSeq (whL wT wB 100000) _ [e0, some (.d (.int f)), some (.d (.int n)), some (.d (.int (n.natAbs : Int))), some (.d (.int f))] S = _
      rw [st_SeqN (gw_loop e0 (some (.d (.int f))) (some (.d (.int n))) S 4000 n.natAbs f 100000 hf (by decide))]
      rw [st_Set (a := .d (.int (Nat.gcd n.natAbs f))) (S' := S) rfl]
      rfl
theorem v_divisor (ns : List Int) (h : ∀ n ∈ ns, Sm 4000 n) : m__law_divisor [.d (.lst (ns.map D.int))] = ret (.d (.int (gFold 0 ns))) := by
  funext S
  refine fn_retE rfl ?_ rfl
  show y__law_divisor [some (.d (.lst (ns.map D.int))), none, none, none, none] S = _
  unfold y__law_divisor
  rw [st_SeqN (st_Set (a := .d (.int 0)) (S' := S) rfl)]
  obtain ⟨x2, x3, x4, hx⟩ := gd_loop (ns.map D.int) (some (.d (.lst (ns.map D.int)))) S ns 0 none none none (Nat.two_pow_pos _) h
  rw [st_SeqN (by rw [st_For (ds := ns.map D.int) (kk := none) (S' := S) rfl]; exact hx)]
  rw [st_Ret (a := .d (.int (gFold 0 ns))) (S' := S) rfl]
theorem v_lratio {a b : Int} (h : b ≠ 0) (ha : Sm 4000 a) (hb : Sm 4000 b) : m__law_ratio [.d (.int a), .d (.int b)] = ret (.d (ratD a b)) := by
  funext S
  refine fn_retE rfl ?_ rfl
  show y__law_ratio [some (.d (.int a)), some (.d (.int b)), none] S = _
  unfold y__law_ratio
  have g2 : ((gFold 0 [a, b] : Nat) : Int) = gI a b := by
    unfold gFold gI
    simp only [List.foldl_cons, List.foldl_nil, Nat.gcd_zero_right]
    rw [Nat.gcd_comm]
  rw [st_SeqN (st_Set (a := .d (.int (gI a b))) (S' := S) (by
    simp only [ev_Call, ev_Arg, ev_Cons, ev_Nil, eVar, List.getElem?_cons_zero, List.getElem?_cons_succ, bnd_ret', mkLst_2]
    rw [List.append_nil, show D.lst [D.int a, D.int b] = .lst ([a, b].map D.int) from rfl, call_pure rfl (v_divisor [a, b] (by
      intro n hn
      simp only [List.mem_cons, List.not_mem_nil, or_false] at hn
      rcases hn with rfl | rfl
      · exact ha
      · exact hb)), g2]
    rfl))]
  have hd' : (sg b (gI a b)).natAbs.log2 < 9000 := Nat.lt_of_lt_of_le ((sg_sm h hb).log (by decide)) (by decide)
  have fin : ∀ S, sRet (eArg mkTup (aCons (eOp oFdiv (eVar 0) (eVar 2)) (aCons (eOp oFdiv (eVar 1) (eVar 2)) aNil))) [some (.d (.int a)), some (.d (.int b)), some (.d (.int (sg b (gI a b))))] S = some (.rt (.d (ratD a b)), S) := fun S => by
    refine st_Ret ?_
    simp only [ev_Arg, ev_Cons, ev_Nil, ev_Op, eVar, List.getElem?_cons_zero, List.getElem?_cons_succ, bnd_ret']
    rw [oFdiv_i (sg_ne h) hd', oFdiv_i (sg_ne h) hd']
    rfl
  show sSeq _ _ [some (.d (.int a)), some (.d (.int b)), some (.d (.int (gI a b)))] S = _
  by_cases hn : b < 0
  · have e : sg b (gI a b) = -(gI a b) := by unfold sg; rw [if_pos hn]
    rw [st_SeqN (env' := [some (.d (.int a)), some (.d (.int b)), some (.d (.int (-(gI a b))))]) (S' := S) (by
      rw [st_IfT (S' := S) (by simp [eVar, hn])]
      rw [st_Set (a := .d (.int (-(gI a b)))) (S' := S) (by simp [eVar])]
      rfl)]
    rw [← e]
    exact fin S
  · have e : sg b (gI a b) = gI a b := by unfold sg; rw [if_neg hn]
    rw [st_SeqN (env' := [some (.d (.int a)), some (.d (.int b)), some (.d (.int (gI a b)))]) (S' := S) (by
      rw [st_IfF (S' := S) (by simp [eVar, hn])]
      rfl)]
    rw [← e]
    exact fin S
def lowI (ns : List Int) : List Int := if gFold 0 ns = 0 then ns else ns.map fun n => n.fdiv (gFold 0 ns : Int)
theorem gFold_sm : ∀ (ns : List Int) (f : Nat), f < 2 ^ 4000 → (∀ n ∈ ns, Sm 4000 n) → gFold f ns < 2 ^ 4000
  | [], f, hf, _ => hf
  | n :: ns, f, hf, hn => by
    refine gFold_sm ns _ ?_ (fun m hm => hn m (List.mem_cons_of_mem _ hm))
    have hn0 : Sm 4000 n := hn n List.mem_cons_self
    show Nat.gcd n.natAbs f < 2 ^ 4000
    by_cases h : n.natAbs = 0
    · rw [h, Nat.gcd_zero_left]; exact hf
    · exact Nat.lt_of_le_of_lt (Nat.gcd_le_left _ (by omega)) hn0
theorem gl_loop (all : List D) (e0 : Option SV) (S : Store) : ∀ (ns : List Int) (f : Nat) (e2 : Option SV), ∃ x2,
    forL (.one 2) none all (sSet 1 (eArg bGcd (aCons (eVar 1) (aCons (eVar 2) aNil)))) (ns.map D.int) [e0, some (.d (.int f)), e2] S = some (.nx [e0, some (.d (.int (gFold f ns))), x2], S)
  | [], f, e2 => ⟨e2, for_nil⟩
  | n :: ns, f, e2 => by
    obtain ⟨x2, ih⟩ := gl_loop all e0 S ns (Nat.gcd n.natAbs f) (some (.d (.int n)))
    refine ⟨x2, ?_⟩
    rw [List.map_cons, for_nx (kk := none) (all := all) (env2 := [e0, some (.d (.int (Nat.gcd n.natAbs f))), some (.d (.int n))]) (S2 := S) rfl ?_ (show keepOk none all S from trivial)]
    · exact ih
    · rw [st_Set (a := .d (.int (Nat.gcd n.natAbs f))) (S' := S) (by
        simp only [ev_Arg, ev_Cons, ev_Nil, eVar, List.set_cons_succ, List.set_cons_zero, List.getElem?_cons_zero, List.getElem?_cons_succ, bnd_ret', bGcd_i, Int.natAbs_natCast]
        rw [Nat.gcd_comm]
        rfl)]
      rfl
/-- the division of each -/
theorem glow_lc (x : SV) (g : Int) (hg : g ≠ 0) (hl : g.natAbs.log2 < 9000) (ns : List Int) (hn : ns.length ≤ 100000) (e2 : Option SV) (S : Store) (hx : walkD x = ret (ns.map D.int, none)) :
    eLcOwn [2] (.one 2) (iOf (eVar 0)) tYesD (eOp oFdiv (eVar 2) (eVar 1)) [some x, some (.d (.int g)), e2] S = some (.ok (.ptr S.length), S ++ [(ns.map fun n => n.fdiv g).map D.int]) := by
  rw [lc_pureO (ds := ns.map D.int) (S1 := S) (fun d => .int (match d with
    | .int n => n.fdiv g
    | _ => 0)) (by
      show (iOf (eVar 0)) _ _ = _
      simp only [ev_iOf, eVar, List.getElem?_cons_zero, bnd_ret', hx]
      rfl) (fun d hd => by
      obtain ⟨n, _, rfl⟩ := List.mem_map.mp hd
      refine ⟨[some x, some (.d (.int g)), some (.d (.int n))], rfl, rfl, ?_⟩
      simp only [ev_Op, eVar, List.getElem?_cons_zero, List.getElem?_cons_succ, bnd_ret']
      exact oFdiv_i hg hl) (by rw [List.length_map]; omega)]
  rw [List.map_map, List.map_map]
  rfl
theorem v_lowest (x : SV) (ns : List Int) (hn : ns.length ≤ 100000) (hs : ∀ n ∈ ns, Sm 4000 n) (hx : walkD x = ret (ns.map D.int, none)) (hb : ∀ S : Store, bListOwn [x] S = some (.ok (.ptr S.length), S ++ [ns.map D.int])) (S : Store) :
    m_lowest [x] S = some (.ok (.fresh ((lowI ns).map D.int)), S) := by
  have hg := gFold_sm ns 0 (Nat.two_pow_pos _) hs
  have body : y_lowest [some x, none, none] S = some (.rt (.ptr S.length), S ++ [(lowI ns).map D.int]) := by
    unfold y_lowest
    rw [st_SeqN (st_Set (a := .d (.int 0)) (S' := S) rfl)]
    obtain ⟨x2, h2⟩ := gl_loop (ns.map D.int) (some x) S ns 0 none
    rw [st_SeqN (by
      rw [st_For (ds := ns.map D.int) (kk := none) (S' := S) (by
        show (iOf (eVar 0)) [some x, some (.d (.int 0)), none] S = _
        simp only [ev_iOf, eVar, List.getElem?_cons_zero, bnd_ret', hx]
        rfl)]
      exact h2)]
    unfold lowI
    by_cases h0 : gFold 0 ns = 0
    · rw [if_pos h0]
      refine st_SeqR ?_
      rw [st_IfT (S' := S) (by simp [eVar, h0])]
      refine st_Ret ?_
      simp only [ev_Arg, ev_Cons, ev_Nil, eVar, List.getElem?_cons_zero, bnd_ret']
      exact hb S
    · rw [if_neg h0]
      rw [st_SeqN (env' := [some x, some (.d (.int (gFold 0 ns))), x2]) (S' := S) (by
        rw [st_IfF (S' := S) (by simp [eVar, h0])]
        rfl)]
      refine st_Ret ?_
      exact glow_lc x (gFold 0 ns) (by omega) (Nat.lt_of_lt_of_le (log2_lt (k := 4000) (by rw [Int.natAbs_natCast]; exact hg) (by decide)) (by decide)) ns hn x2 S hx
  refine (fn_retP (np := 1) (n := 3) (body := y_lowest) (as := [x]) (k := S.length) (x := (lowI ns).map D.int) (S1 := S ++ [(lowI ns).map D.int]) rfl body (Nat.le_refl _) (by simp)).trans ?_
  simp
end Lw
namespace Lw
open PySem L2 DL
section
variable {α : Type} {env : DL.Env} {S : Store}
theorem lcA_loop {t : Tg} {cond : DL.Env → M Bool} {fe : DL.Env → M SV} {all : List D} {k : Nat} (mk : α → D) (p : α → Bool) (h : α → D) {S0 : Store} (hk : k = S0.length) : ∀ (ds : List α) (acc : List D),
    (∀ d ∈ ds, ∃ env1, setT t (mk d) env = some env1 ∧ cond env1 = ret (p d) ∧ (p d = true → fe env1 = ret (.d (h d)))) → acc.length + ds.length ≤ 16777216 → lcL t none all cond fe k env (ds.map mk) (S0 ++ [acc]) = some (S0 ++ [acc ++ (ds.filter p).map h])
  | [], acc, _, _ => by rw [List.map_nil]; unfold lcL; simp
  | d :: ds, acc, hd, hl => by
    obtain ⟨env1, h1, h2, h3⟩ := hd d List.mem_cons_self
    rw [List.map_cons]
    unfold lcL
    rw [h1]; dsimp only; rw [h2]; dsimp only [DL.ret]
    cases hp : p d with
    | true =>
      rw [h3 hp]; dsimp only [DL.ret]
      have hg : (S0 ++ [acc])[k]? = some acc := by rw [hk]; simp
      have hlt : acc.length < lim := by simp only [List.length_cons] at hl; simp only [lim]; omega
      unfold lcNext
      rw [hg]; dsimp only; rw [if_pos hlt]; dsimp only
      rw [if_pos (show keepOk none all _ from trivial)]
      have hs : (S0 ++ [acc]).set k (acc ++ [h d]) = S0 ++ [acc ++ [h d]] := by rw [hk]; simp
      rw [hs, lcA_loop mk p h hk ds (acc ++ [h d]) (fun x hx => hd x (List.mem_cons_of_mem _ hx)) (by simp only [List.length_append, List.length_cons, List.length_nil] at hl ⊢; omega)]
      simp [hp]
    | false =>
      dsimp only
      rw [if_pos (show keepOk none all _ from trivial)]
      rw [lcA_loop mk p h hk ds acc (fun x hx => hd x (List.mem_cons_of_mem _ hx)) (by simp only [List.length_cons] at hl; omega)]
      simp [hp]
theorem lcA_ret {ws : List Nat} {t : Tg} {f : DL.Env → M (List D × KK)} {cond : DL.Env → M Bool} {fe : DL.Env → M SV} {ds : List α} (mk : α → D) (p : α → Bool) (h : α → D) (hf : f env = ret (ds.map mk, none))
    (hd : ∀ d ∈ ds, ∃ env1, setT t (mk d) (wipeE env ws) = some env1 ∧ cond env1 = ret (p d) ∧ (p d = true → fe env1 = ret (.d (h d)))) (hl : ds.length ≤ 16777216) (hcl : ∀ d, isOwn (h d) = false := by intro _; rfl) : eLc ws t f cond fe env = ret (.d (.lst ((ds.filter p).map h))) := by
  funext S
  unfold eLc
  rw [bnd_at (show f env S = some (.ok (ds.map mk, none), S) by rw [hf]; rfl)]
  dsimp only
  rw [lcA_loop mk p h rfl ds [] hd (by simpa using hl)]
  simp [DL.ret, List.getElem?_append_right, cal_app, clsd_map hcl]
theorem lcA_retO {ws : List Nat} {t : Tg} {f : DL.Env → M (List D × KK)} {cond : DL.Env → M Bool} {fe : DL.Env → M SV} {ds : List α} (mk : α → D) (p : α → Bool) (h : α → D) (hf : f env = ret (ds.map mk, none))
    (hd : ∀ d ∈ ds, ∃ env1, setT t (mk d) (wipeE env ws) = some env1 ∧ cond env1 = ret (p d) ∧ (p d = true → fe env1 = ret (.d (h d)))) (hl : ds.length ≤ 16777216) (hcl : ∀ d, isOwn (h d) = false := by intro _; rfl) : eLcOwn ws t f cond fe env S = some (.ok (.ptr S.length), S ++ [(ds.filter p).map h]) := by
  unfold eLcOwn
  rw [bnd_at (show f env S = some (.ok (ds.map mk, none), S) by rw [hf]; rfl)]
  dsimp only
  rw [lcA_loop mk p h rfl ds [] hd (by simpa using hl)]
  simp [cal_app, clsd_map hcl]
theorem lcA_all {ws : List Nat} {t : Tg} {f : DL.Env → M (List D × KK)} {fe : DL.Env → M SV} {ds : List α} (mk : α → D) (h : α → D) (hf : f env = ret (ds.map mk, none))
    (hd : ∀ d ∈ ds, ∃ env1, setT t (mk d) (wipeE env ws) = some env1 ∧ fe env1 = ret (.d (h d))) (hl : ds.length ≤ 16777216) (hcl : ∀ d, isOwn (h d) = false := by intro _; rfl) : eLc ws t f tYesD fe env = ret (.d (.lst (ds.map h))) := by
  rw [lcA_ret mk (fun _ => true) h hf (fun d hm => by obtain ⟨e1, a, b⟩ := hd d hm; exact ⟨e1, a, rfl, fun _ => b⟩) hl hcl, List.filter_eq_self.mpr (fun _ _ => rfl)]
theorem lcA_allO {ws : List Nat} {t : Tg} {f : DL.Env → M (List D × KK)} {fe : DL.Env → M SV} {ds : List α} (mk : α → D) (h : α → D) (hf : f env = ret (ds.map mk, none))
    (hd : ∀ d ∈ ds, ∃ env1, setT t (mk d) (wipeE env ws) = some env1 ∧ fe env1 = ret (.d (h d))) (hl : ds.length ≤ 16777216) (hcl : ∀ d, isOwn (h d) = false := by intro _; rfl) : eLcOwn ws t f tYesD fe env S = some (.ok (.ptr S.length), S ++ [ds.map h]) := by
  rw [lcA_retO mk (fun _ => true) h hf (fun d hm => by obtain ⟨e1, a, b⟩ := hd d hm; exact ⟨e1, a, rfl, fun _ => b⟩) hl hcl, List.filter_eq_self.mpr (fun _ _ => rfl)]
/-- at a state, lists of one's own being walked or read -/
theorem lcG_loop {t : Tg} {kk : KK} {cond : DL.Env → M Bool} {fe : DL.Env → M SV} {all : List D} {k : Nat} (mk : α → D) (p : α → Bool) (h : α → D) {S0 : Store} (hk : k = S0.length) (hkk : keepOk kk all S0) : ∀ (ds : List α) (acc : List D),
    (∀ d ∈ ds, ∃ env1, setT t (mk d) env = some env1 ∧ (∀ acc, cond env1 (S0 ++ [acc]) = some (.ok (p d), S0 ++ [acc])) ∧ (p d = true → ∀ acc, fe env1 (S0 ++ [acc]) = some (.ok (.d (h d)), S0 ++ [acc]))) → acc.length + ds.length ≤ 16777216 →
    lcL t kk all cond fe k env (ds.map mk) (S0 ++ [acc]) = some (S0 ++ [acc ++ (ds.filter p).map h])
  | [], acc, _, _ => by rw [List.map_nil]; unfold lcL; simp
  | d :: ds, acc, hd, hl => by
    obtain ⟨env1, h1, h2, h3⟩ := hd d List.mem_cons_self
    rw [List.map_cons]
    unfold lcL
    rw [h1]; dsimp only; rw [h2 acc]
    cases hp : p d with
    | true =>
      dsimp only
      rw [h3 hp acc]; dsimp only
      have hg : (S0 ++ [acc])[k]? = some acc := by rw [hk]; simp
      have hlt : acc.length < lim := by simp only [List.length_cons] at hl; simp only [lim]; omega
      unfold lcNext
      rw [hg]; dsimp only; rw [if_pos hlt]; dsimp only
      have hs : (S0 ++ [acc]).set k (acc ++ [h d]) = S0 ++ [acc ++ [h d]] := by rw [hk]; simp
      rw [hs, if_pos (keepOk_app hkk), lcG_loop mk p h hk hkk ds (acc ++ [h d]) (fun x hx => hd x (List.mem_cons_of_mem _ hx)) (by simp only [List.length_append, List.length_cons, List.length_nil] at hl ⊢; omega)]
      simp [hp]
    | false =>
      dsimp only
      rw [if_pos (keepOk_app hkk), lcG_loop mk p h hk hkk ds acc (fun x hx => hd x (List.mem_cons_of_mem _ hx)) (by simp only [List.length_cons] at hl; omega)]
      simp [hp]
theorem lcG {S : Store} {ws : List Nat} {t : Tg} {kk : KK} {f : DL.Env → M (List D × KK)} {cond : DL.Env → M Bool} {fe : DL.Env → M SV} {ds : List α} (mk : α → D) (p : α → Bool) (h : α → D) (hf : f env S = some (.ok (ds.map mk, kk), S)) (hkk : keepOk kk (ds.map mk) S)
    (hd : ∀ d ∈ ds, ∃ env1, setT t (mk d) (wipeE env ws) = some env1 ∧ (∀ acc, cond env1 (S ++ [acc]) = some (.ok (p d), S ++ [acc])) ∧ (p d = true → ∀ acc, fe env1 (S ++ [acc]) = some (.ok (.d (h d)), S ++ [acc]))) (hl : ds.length ≤ 16777216) (hcl : ∀ d, isOwn (h d) = false := by intro _; rfl) : eLc ws t f cond fe env S = some (.ok (.d (.lst ((ds.filter p).map h))), S) := by
  unfold eLc
  rw [bnd_at hf]
  dsimp only
  rw [lcG_loop mk p h rfl hkk ds [] hd (by simpa using hl)]
  simp [cal_app, clsd_map hcl]
theorem lcGO {S : Store} {ws : List Nat} {t : Tg} {kk : KK} {f : DL.Env → M (List D × KK)} {cond : DL.Env → M Bool} {fe : DL.Env → M SV} {ds : List α} (mk : α → D) (p : α → Bool) (h : α → D) (hf : f env S = some (.ok (ds.map mk, kk), S)) (hkk : keepOk kk (ds.map mk) S)
    (hd : ∀ d ∈ ds, ∃ env1, setT t (mk d) (wipeE env ws) = some env1 ∧ (∀ acc, cond env1 (S ++ [acc]) = some (.ok (p d), S ++ [acc])) ∧ (p d = true → ∀ acc, fe env1 (S ++ [acc]) = some (.ok (.d (h d)), S ++ [acc]))) (hl : ds.length ≤ 16777216) (hcl : ∀ d, isOwn (h d) = false := by intro _; rfl) : eLcOwn ws t f cond fe env S = some (.ok (.ptr S.length), S ++ [(ds.filter p).map h]) := by
  unfold eLcOwn
  rw [bnd_at hf]
  dsimp only
  rw [lcG_loop mk p h rfl hkk ds [] hd (by simpa using hl)]
  simp [cal_app, clsd_map hcl]
end
theorem range_map (n : Nat) : rangeD 0 n = (List.range n).map fun i => D.int (i : Nat) := by
  unfold rangeD
  refine List.map_congr_left fun i _ => ?_
  rw [Int.zero_add]
end Lw
namespace Lw
open PySem L2 DL
def r4 : List Int := [1, 2, 3, 4]
def allShapes : List (List Int) := (r4.map fun a => [a]) ++ ((r4.flatMap fun a => r4.map fun b => [a, b]) ++ (r4.flatMap fun a => r4.flatMap fun b => r4.map fun c => [a, b, c]))
theorem in_r4 {a : Int} (h : 1 ≤ a ∧ a ≤ 4) : a ∈ r4 := by
  have : a = 1 ∨ a = 2 ∨ a = 3 ∨ a = 4 := by omega
  rcases this with h | h | h | h <;> subst h <;> decide
theorem Snd.mem {ms : List Int} (s : Snd ms) : ms ∈ allShapes := by
  have hl1 := s.l1
  have hl2 := s.l2
  have hr := s.r
  unfold allShapes
  match ms, hl1, hl2, hr with
  | [a], _, _, hr => exact List.mem_append_left _ (List.mem_map.mpr ⟨a, in_r4 (hr a (by simp)), rfl⟩)
  | [a, b], _, _, hr => exact List.mem_append_right _ (List.mem_append_left _ (List.mem_flatMap.mpr ⟨a, in_r4 (hr a (by simp)), List.mem_map.mpr ⟨b, in_r4 (hr b (by simp)), rfl⟩⟩))
  | [a, b, c], _, _, hr => exact List.mem_append_right _ (List.mem_append_right _ (List.mem_flatMap.mpr ⟨a, in_r4 (hr a (by simp)), List.mem_flatMap.mpr ⟨b, in_r4 (hr b (by simp)), List.mem_map.mpr ⟨c, in_r4 (hr c (by simp)), rfl⟩⟩⟩))
  | [], h, _, _ => exact absurd h (by decide)
  | _ :: _ :: _ :: _ :: _, _, h, _ => simp only [List.length_cons] at h; omega
def plI (f : Int) : List Int → List Int → Int
  | m :: ms, c :: cs => plI (f * m + c) ms cs
  | _, _ => f
def inCell (ms c : List Int) : Bool := decide (c.length = ms.length) && (List.range ms.length).all fun p => decide (0 ≤ c.getD p 0) && decide (c.getD p 0 < ms.getD p 0)
def shFact (ms : List Int) : Bool := decide (((cellsOf ms).length : Int) = prodI 1 ms) && (List.range (cellsOf ms).length).all fun k => decide (plI 0 ms ((cellsOf ms).getD k []) = (k : Int)) && inCell ms ((cellsOf ms).getD k [])
theorem shFacts : allShapes.all shFact = true := by decide +kernel
theorem cells_len {ms : List Int} (s : Snd ms) : ((cellsOf ms).length : Int) = prodI 1 ms := by
  have := List.all_eq_true.mp shFacts ms s.mem
  unfold shFact at this
  rw [Bool.and_eq_true] at this
  exact of_decide_eq_true this.1
structure Wts (ms ws : List Int) : Prop where
  s : Snd ms
  n : (ws.length : Int) = prodI 1 ms
  nn : ∀ w ∈ ws, 0 ≤ w
  le : ∀ w ∈ ws, w ≤ 1000000000000000000000000000000
  pos : 0 < ws.sum
theorem Wts.len {ms ws : List Int} (h : Wts ms ws) : ws.length ≤ 16 ∧ ws.length = (cellsOf ms).length := by
  have := h.n; have := cells_len h.s; have := h.s.p
  omega
theorem sum_bd : ∀ {l : List Int}, (∀ w ∈ l, 0 ≤ w) → (∀ w ∈ l, w ≤ 1000000000000000000000000000000) → 0 ≤ l.sum ∧ l.sum ≤ 1000000000000000000000000000000 * l.length
  | [], _, _ => ⟨by simp, by simp⟩
  | a :: l, h, h' => by
    have ih := sum_bd (l := l) (fun w hw => h w (List.mem_cons_of_mem _ hw)) (fun w hw => h' w (List.mem_cons_of_mem _ hw))
    have h1 := h a List.mem_cons_self
    have h2 := h' a List.mem_cons_self
    rw [List.sum_cons, List.length_cons]
    omega
theorem Wts.sum {ms ws : List Int} (h : Wts ms ws) : ws.sum ≤ 16000000000000000000000000000000 := by
  have := (sum_bd h.nn h.le).2
  have := h.len
  omega
theorem sum_scale (g : Int) : ∀ l : List Int, (l.map fun x => g * x).sum = g * l.sum
  | [] => by simp
  | a :: l => by rw [List.map_cons, List.sum_cons, List.sum_cons, sum_scale g l, Int.mul_add]
theorem gFold_dvd : ∀ (ns : List Int) (f : Nat), gFold f ns ∣ f ∧ ∀ n ∈ ns, gFold f ns ∣ n.natAbs
  | [], f => ⟨Nat.dvd_refl _, by simp⟩
  | n :: ns, f => by
    obtain ⟨h1, h2⟩ := gFold_dvd ns (Nat.gcd n.natAbs f)
    have e : gFold f (n :: ns) = gFold (Nat.gcd n.natAbs f) ns := rfl
    rw [e]
    refine ⟨Nat.dvd_trans h1 (Nat.gcd_dvd_right _ _), fun m hm => ?_⟩
    rcases List.mem_cons.mp hm with rfl | hm
    · exact Nat.dvd_trans h1 (Nat.gcd_dvd_left _ _)
    · exact h2 m hm
theorem pos_mem : ∀ {l : List Int}, 0 < l.sum → ∃ n ∈ l, 0 < n
  | [], h => by simp at h
  | a :: l, h => by
    by_cases ha : 0 < a
    · exact ⟨a, List.mem_cons_self, ha⟩
    · rw [List.sum_cons] at h
      obtain ⟨n, hn, q⟩ := pos_mem (l := l) (by omega)
      exact ⟨n, List.mem_cons_of_mem _ hn, q⟩
theorem gFold_ne {ns : List Int} (h : 0 < ns.sum) : gFold 0 ns ≠ 0 := fun e => by
  obtain ⟨n, hn, q⟩ := pos_mem h
  have := (gFold_dvd ns 0).2 n hn
  rw [e] at this
  have := Nat.eq_zero_of_zero_dvd this
  omega
theorem fdiv_scale {g a b : Int} (hg : 0 < g) (hb : 0 < b) : (g * a).fdiv (g * b) = a.fdiv b := by
  have h1 : 0 < g * b := Int.mul_pos hg hb
  rw [Int.fdiv_eq_ediv_of_nonneg _ (by omega), Int.fdiv_eq_ediv_of_nonneg _ (by omega), Int.mul_ediv_mul_of_pos _ _ hg]
theorem lowI_spec {ns : List Int} (h : gFold 0 ns ≠ 0) : ns = (lowI ns).map fun n => (gFold 0 ns : Int) * n := by
  unfold lowI
  rw [if_neg h, List.map_map]
  conv => lhs; rw [← List.map_id ns]
  refine List.map_congr_left fun n hn => ?_
  show n = (gFold 0 ns : Int) * n.fdiv (gFold 0 ns : Int)
  have d : (gFold 0 ns : Int) ∣ n := Int.dvd_natAbs.mp (Int.natCast_dvd_natCast.mpr ((gFold_dvd ns 0).2 n hn))
  rw [Int.fdiv_eq_ediv_of_nonneg _ (by omega), Int.mul_ediv_cancel' d]
theorem low_len (ns : List Int) : (lowI ns).length = ns.length := by
  unfold lowI
  split
  · rfl
  · rw [List.length_map]
theorem Wts.low {ms ws : List Int} (h : Wts ms ws) : Wts ms (lowI ws) := by
  have hg := gFold_ne h.pos
  have e := lowI_spec hg
  have m : ∀ x ∈ lowI ws, (gFold 0 ws : Int) * x ∈ ws := fun x hx => by
    have : (gFold 0 ws : Int) * x ∈ (lowI ws).map fun n => (gFold 0 ws : Int) * n := List.mem_map.mpr ⟨x, hx, rfl⟩
    rw [← e] at this
    exact this
  have hg1 : (1 : Int) ≤ (gFold 0 ws : Int) := by omega
  have nn : ∀ x ∈ lowI ws, 0 ≤ x := fun x hx => by
    have := h.nn _ (m x hx)
    by_cases q : 0 ≤ x
    · exact q
    · have : (gFold 0 ws : Int) * x < 0 := Int.mul_neg_of_pos_of_neg (by omega) (by omega)
      omega
  refine ⟨h.s, by rw [low_len]; exact h.n, nn, fun x hx => ?_, ?_⟩
  · have h1 := h.le _ (m x hx)
    have h2 := Int.mul_le_mul_of_nonneg_right hg1 (nn x hx)
    omega
  · have hp := h.pos
    rw [e, sum_scale] at hp
    exact Int.pos_of_mul_pos_right hp (by omega) |> fun z => z
theorem gI_scale {g : Nat} (a b : Int) : gI ((g : Int) * a) ((g : Int) * b) = (g : Int) * gI a b := by
  unfold gI
  rw [Int.natAbs_mul, Int.natAbs_mul, Int.natAbs_natCast, Nat.gcd_mul_left, Int.natCast_mul]
theorem ratL_scale {g : Nat} (hg : 0 < g) {a b : Int} (hb : 0 < b) : ratL ((g : Int) * a) ((g : Int) * b) = ratL a b := by
  have hgb : 0 < (g : Int) * b := Int.mul_pos (by omega) hb
  have hG : 0 < gI a b := gI_pos (by omega)
  unfold ratL sg
  rw [if_neg (by omega), if_neg (by omega), gI_scale, fdiv_scale (by omega) hG, fdiv_scale (by omega) hG]
end Lw
namespace Lw
open PySem L2 DL
theorem comp_loopP (P : Int → Prop) (fe : DL.Env → M SV) (t : Tg) (all : List D) (env : DL.Env) (ht : ∀ d, ∃ env1, setT t d env = some env1)
    (hfe : ∀ d env1 (n : Nat) (l : List D) (rest : Store), setT t d env = some env1 → n ≤ 900000 → PoolOk n l → ∃ v l', PoolOk (n + 1) l' ∧ P v ∧ fe env1 (l :: rest) = some (.ok (.d (.int v)), l' :: rest)) (rest : Store) :
    ∀ (ds : List D) (n : Nat) (l : List D) (acc : List D), n + ds.length ≤ 900000 → acc.length + ds.length ≤ 100000 → PoolOk n l → ∃ (l' : List D) (vs : List Int), PoolOk (n + ds.length) l' ∧ vs.length = ds.length ∧ (∀ v ∈ vs, P v) ∧
      lcL t none all tYesD fe (rest.length + 1) env ds (l :: rest ++ [acc]) = some (l' :: rest ++ [acc ++ vs.map D.int])
  | [], n, l, acc, _, _, hp => ⟨l, [], hp, rfl, by simp, by unfold lcL; simp⟩
  | d :: ds, n, l, acc, hn, ha, hp => by
    obtain ⟨env1, h1⟩ := ht d
    simp only [List.length_cons] at hn ha
    obtain ⟨v, l1, p1, v0, e1⟩ := hfe d env1 n l (rest ++ [acc]) h1 (by omega) hp
    obtain ⟨l', vs, p2, hl, hv, e2⟩ := comp_loopP P fe t all env ht hfe rest ds (n + 1) l1 (acc ++ [.int v]) (by omega) (by simp only [List.length_append, List.length_cons, List.length_nil]; omega) p1
    refine ⟨l', v :: vs, by rw [show n + (d :: ds).length = n + 1 + ds.length by simp only [List.length_cons]; omega]; exact p2, by simp [hl], fun w hw => ?_, ?_⟩
    · rcases List.mem_cons.mp hw with e | e
      · rw [e]; exact v0
      · exact hv w e
    · unfold lcL
      rw [h1]; dsimp only; rw [ev_Yes]; dsimp only [DL.ret]
      rw [show (l :: rest ++ [acc] : Store) = l :: (rest ++ [acc]) from rfl, e1]
      dsimp only
      have hg : (l1 :: (rest ++ [acc]) : Store)[rest.length + 1]? = some acc := by simp
      unfold lcNext
      rw [hg]; dsimp only
      rw [if_pos (show acc.length < lim by simp only [lim]; omega)]; dsimp only
      rw [if_pos (show keepOk none all _ from trivial)]
      have hs : (l1 :: (rest ++ [acc]) : Store).set (rest.length + 1) (acc ++ [.int v]) = l1 :: rest ++ [acc ++ [.int v]] := by simp
      rw [hs, e2]
      simp
theorem sum_ptr {S : Store} {k : Nat} {xs : List Int} (h : S[k]? = some (xs.map D.int)) : bSum [.ptr k] S = some (.ok (.d (.int xs.sum)), S) := by
  simp [bSum, bFold, items, cellC_of h (clsd_ints _), intsD_map, DL.ret]
theorem sum_pos_of : ∀ {l : List Int}, (∀ w ∈ l, 0 ≤ w) → (∃ n ∈ l, 0 < n) → 0 < l.sum
  | [], _, h => by obtain ⟨n, hn, _⟩ := h; exact absurd hn (by simp)
  | a :: l, h, ⟨n, hn, q⟩ => by
    rw [List.sum_cons]
    have ha := h a List.mem_cons_self
    have hl : 0 ≤ l.sum := by
      clear q hn ha
      induction l with
      | nil => simp
      | cons b l ih =>
        rw [List.sum_cons]
        have := h b (by simp)
        have := ih (fun w hw => h w (by rcases List.mem_cons.mp hw with e | e; rw [e]; exact List.mem_cons_self; exact List.mem_cons_of_mem _ (List.mem_cons_of_mem _ e)))
        omega
    rcases List.mem_cons.mp hn with e | e
    · rw [e] at q; omega
    · have := sum_pos_of (fun w hw => h w (List.mem_cons_of_mem _ hw)) ⟨n, e, q⟩
      omega
end Lw
namespace Lw
open PySem L2 DL
theorem ix_ints {l : List Int} {k : Nat} (h : k < l.length) : oIdx (.d (.lst (l.map D.int))) (.d (.int (k : Nat))) = ret (.d (.int (l.getD k 0))) := by
  refine oIdx_l (atI_nat ?_)
  rw [List.getElem?_map, List.getD_eq_getElem?_getD, List.getElem?_eq_getElem h]
  rfl
theorem log_of {x : Int} (h : 0 ≤ x) (h2 : x ≤ 1000000) : x.natAbs.log2 < 9000 := Nat.lt_of_lt_of_le (log2_lt (k := 64) (by
  have : (2 : Nat) ^ 64 = 18446744073709551616 := by decide
  omega) (by decide)) (by decide)
theorem ne_same {n : Nat} {d : D} (h : Cmp n d) (hn : n ≤ 64) : oNe (.d d) (.d d) = ret (.d (.bl false)) := by
  rw [oNe_d (h.ok h hn hn), eqD_same h]
  rfl
theorem eq_same {n : Nat} {d : D} (h : Cmp n d) (hn : n ≤ 64) : oEq (.d d) (.d d) = ret (.d (.bl true)) := by
  rw [oEq_d (h.ok h hn hn), eqD_same h]
theorem clsd_plains : ∀ {l : List D}, plains l = true → clsd l = true
  | [], _ => rfl
  | d :: l, h => by
    simp only [plains, Bool.and_eq_true] at h
    exact clsd_cons (by cases d <;> first | rfl | (exact absurd h.1 (by simp [DL.plain]))) (clsd_plains h.2)
theorem cmp_clsd {n : Nat} {l : List D} (c : Cmp n (.lst l)) : clsd l = true := clsd_plains (by have := c.1; exact this)
theorem deref_p {S : Store} {k : Nat} {l : List D} (h : S[k]? = some l) (hc : clsd l = true) : deref S (.ptr k) = some (.lst l) := by
  simp only [deref, h, Option.bind_some, if_pos hc]
theorem cmp_ints (l : List Int) : Cmp 1 (.lst (l.map D.int)) := Cmp.lst fun d hd => by obtain ⟨i, _, rfl⟩ := List.mem_map.mp hd; exact Cmp.int i
end Lw
namespace BL
abbrev Vec := Nat → Int
def sumN : Nat → (Nat → Int) → Int
  | 0, _ => 0
  | n + 1, f => sumN n f + f n
theorem sumN_congr {n : Nat} {f g : Nat → Int} (h : ∀ i, i < n → f i = g i) : sumN n f = sumN n g := by
  induction n with
  | zero => rfl
  | succ n ih => rw [sumN, sumN, ih fun i hi => h i (by omega), h n (by omega)]
theorem sumN_zero {n : Nat} {f : Nat → Int} (h : ∀ i, i < n → f i = 0) : sumN n f = 0 := by
  induction n with
  | zero => rfl
  | succ n ih => rw [sumN, ih fun i hi => h i (by omega), h n (by omega)]; rfl
theorem sumN_lin (n : Nat) (a b : Int) (f g : Nat → Int) : sumN n (fun i => a * f i + b * g i) = a * sumN n f + b * sumN n g := by
  induction n with
  | zero => simp [sumN]
  | succ n ih => rw [sumN, sumN, sumN, ih]; grind
theorem sumN_mul (n : Nat) (a : Int) (f : Nat → Int) : sumN n (fun i => a * f i) = a * sumN n f := by
  induction n with
  | zero => simp [sumN]
  | succ n ih => rw [sumN, sumN, ih]; grind
theorem sumN_one {n k : Nat} {f : Nat → Int} (hk : k < n) (h : ∀ i, i < n → i ≠ k → f i = 0) : sumN n f = f k := by
  induction n with
  | zero => omega
  | succ n ih =>
    rw [sumN]
    by_cases e : k = n
    · subst e
      rw [sumN_zero fun i hi => h i (by omega) (by omega)]; simp
    · rw [ih (by omega) fun i hi => h i (by omega), h n (by omega) (fun e' => e e'.symm)]; simp
theorem sumN_two {n k : Nat} {f : Nat → Int} (hk : k + 1 < n) (h : ∀ i, i < n → i ≠ k → i ≠ k + 1 → f i = 0) : sumN n f = f k + f (k + 1) := by
  induction n with
  | zero => omega
  | succ n ih =>
    rw [sumN]
    by_cases e : k + 1 = n
    · subst e
      rw [sumN_one (k := k) (by omega) fun i hi hn => h i (by omega) hn (by omega)]
    · rw [ih (by omega) fun i hi => h i (by omega), h n (by omega) (by omega) (fun e' => e e'.symm)]; simp
theorem sumN_nonneg {n : Nat} {f : Nat → Int} (h : ∀ i, i < n → 0 ≤ f i) : 0 ≤ sumN n f := by
  induction n with
  | zero => exact Int.le_refl _
  | succ n ih => rw [sumN]; have := ih fun i hi => h i (by omega); have := h n (by omega); omega
/-- two sums exchanged -/
theorem sumN_comm (n m : Nat) (f : Nat → Nat → Int) : sumN n (fun i => sumN m fun j => f i j) = sumN m (fun j => sumN n fun i => f i j) := by
  induction n with
  | zero => exact (sumN_zero fun _ _ => rfl).symm
  | succ n ih =>
    rw [sumN, ih]
    show _ = sumN m fun j => sumN n (fun i => f i j) + f n j
    have := sumN_lin m 1 1 (fun j => sumN n fun i => f i j) (fun j => f n j)
    simp only [Int.one_mul] at this
    rw [this]
def out (v : Nat → Vec) (i : Nat) : Nat → Vec := fun j => if j < i then v j else v (j + 1)
def up (v : Nat → Vec) (k : Nat) (x : Vec) : Nat → Vec := fun j => if j = k then x else v j
def sg (i : Nat) : Int := if i % 2 = 0 then 1 else -1
theorem sg_succ (i : Nat) : sg (i + 1) = -sg i := by
  unfold sg
  rcases Nat.mod_two_eq_zero_or_one i with h | h <;> simp [Nat.add_mod, h]
theorem sg_cases (i : Nat) : sg i = 1 ∨ sg i = -1 := by
  unfold sg
  split
  · exact .inl rfl
  · exact .inr rfl
def det : Nat → (Nat → Vec) → Int
  | 0, _ => 1
  | n + 1, v => sumN (n + 1) fun i => sg i * v i n * det n (out v i)
theorem up_same (v : Nat → Vec) (k : Nat) (x : Vec) : up v k x k = x := by simp [up]
theorem up_ne {v : Nat → Vec} {k j : Nat} {x : Vec} (h : j ≠ k) : up v k x j = v j := by simp [up, h]
theorem up_id (v : Nat → Vec) (k : Nat) : up v k (v k) = v := by
  funext j; unfold up; split
  · rename_i h; rw [h]
  · rfl
theorem up_up (v : Nat → Vec) (k : Nat) (x y : Vec) : up (up v k x) k y = up v k y := by
  funext j; unfold up; split <;> rfl
theorem up_comm {v : Nat → Vec} {k j : Nat} {x y : Vec} (h : k ≠ j) : up (up v k x) j y = up (up v j y) k x := by
  funext i; unfold up; split <;> split <;> simp_all
theorem out_up_eq (v : Nat → Vec) (k : Nat) (x : Vec) : out (up v k x) k = out v k := by
  funext j; unfold out up; split
  · rw [if_neg (by omega)]
  · rw [if_neg (by omega)]
theorem out_up_lt {v : Nat → Vec} {i k : Nat} {x : Vec} (h : i < k) : out (up v k x) i = up (out v i) (k - 1) x := by
  funext j
  show (if j < i then (if j = k then x else v j) else (if j + 1 = k then x else v (j + 1))) = if j = k - 1 then x else if j < i then v j else v (j + 1)
  by_cases h1 : j < i
  · rw [if_pos h1, if_neg (by omega), if_neg (by omega), if_pos h1]
  · rw [if_neg h1]
    by_cases h2 : j + 1 = k
    · rw [if_pos h2, if_pos (by omega)]
    · rw [if_neg h2, if_neg (by omega), if_neg h1]
theorem out_up_gt {v : Nat → Vec} {i k : Nat} {x : Vec} (h : k < i) : out (up v k x) i = up (out v i) k x := by
  funext j
  show (if j < i then (if j = k then x else v j) else (if j + 1 = k then x else v (j + 1))) = if j = k then x else if j < i then v j else v (j + 1)
  by_cases h1 : j < i
  · rw [if_pos h1]
    by_cases h2 : j = k
    · rw [if_pos h2, if_pos h2]
    · rw [if_neg h2, if_neg h2, if_pos h1]
  · rw [if_neg h1, if_neg (by omega), if_neg (by omega), if_neg h1]
theorem det_lin : ∀ (n : Nat) (v : Nat → Vec) (k : Nat) (a b : Int) (x y : Vec), k < n → det n (up v k fun r => a * x r + b * y r) = a * det n (up v k x) + b * det n (up v k y)
  | 0, v, k, a, b, x, y, h => by omega
  | n + 1, v, k, a, b, x, y, h => by
    rw [det, det, det, ← sumN_lin]
    refine sumN_congr fun i hi => ?_
    by_cases e : i = k
    · subst e
      rw [up_same, up_same, up_same, out_up_eq, out_up_eq, out_up_eq]; grind
    · rw [up_ne e, up_ne e, up_ne e]
      rcases Nat.lt_or_gt_of_ne e with h1 | h1
      · rw [out_up_lt h1, out_up_lt h1, out_up_lt h1, det_lin n _ _ a b x y (by omega)]; grind
      · rw [out_up_gt h1, out_up_gt h1, out_up_gt h1, det_lin n _ _ a b x y (by omega)]; grind
theorem det_congr : ∀ (n : Nat) {v w : Nat → Vec}, (∀ j, j < n → ∀ r, r < n → v j r = w j r) → det n v = det n w
  | 0, v, w, h => rfl
  | n + 1, v, w, h => by
    rw [det, det]
    refine sumN_congr fun i hi => ?_
    rw [h i hi n (by omega), det_congr n (v := out v i) (w := out w i) fun j hj r hr => ?_]
    unfold out; split
    · exact h j (by omega) r (by omega)
    · exact h (j + 1) (by omega) r (by omega)
theorem det_adj : ∀ (n : Nat) (v : Nat → Vec) (k : Nat), k + 1 < n → v k = v (k + 1) → det n v = 0
  | 0, v, k, h, e => by omega
  | n + 1, v, k, h, e => by
    rw [det, sumN_two (k := k) h]
    · have : out v (k + 1) = out v k := by
        funext j; unfold out
        by_cases h1 : j < k
        · rw [if_pos h1, if_pos (by omega)]
        · rw [if_neg h1]
          by_cases h2 : j = k
          · subst h2; rw [if_pos (by omega), e]
          · rw [if_neg (by omega)]
      rw [this, sg_succ, ← e]; grind
    · intro i hi h1 h2
      have : det n (out v i) = 0 := by
        by_cases h3 : i < k
        · refine det_adj n _ (k - 1) (by omega) ?_
          unfold out
          rw [if_neg (by omega), if_neg (by omega), show k - 1 + 1 = k by omega, e]
        · refine det_adj n _ k (by omega) ?_
          unfold out
          rw [if_pos (by omega), if_pos (by omega), e]
      rw [this]; simp
/-- two places -/
theorem det_alt {n k j : Nat} (hk : k < n) (hj : j < n) (hn : k ≠ j) (h0 : ∀ (v : Nat → Vec) (x : Vec), det n (up (up v k x) j x) = 0) (v : Nat → Vec) (x y : Vec) : det n (up (up v k x) j y) = -det n (up (up v k y) j x) := by
  have e := h0 v fun r => 1 * x r + 1 * y r
  rw [det_lin n _ _ 1 1 x y hj, up_comm hn, det_lin n _ _ 1 1 x y hk, up_comm hn, det_lin n _ _ 1 1 x y hk, up_comm (Ne.symm hn), up_comm (Ne.symm hn), up_comm (Ne.symm hn), up_comm (Ne.symm hn), h0 v x, h0 v y] at e
  grind
theorem det_eq : ∀ (d n a : Nat) (v : Nat → Vec), a + d + 1 < n → v a = v (a + d + 1) → det n v = 0
  | 0, n, a, v, h, e => det_adj n v a h e
  | d + 1, n, a, v, h, e => by
    have h0 : ∀ (v : Nat → Vec) (x : Vec), det n (up (up v (a + d + 1) x) (a + d + 2) x) = 0 := fun v x => det_adj n _ (a + d + 1) (by omega) (by rw [up_ne (by omega), up_same, show a + d + 1 + 1 = a + d + 2 by omega, up_same])
    have s := det_alt (k := a + d + 1) (j := a + d + 2) (by omega) (by omega) (by omega) h0 v (v (a + d + 1)) (v (a + d + 2))
    rw [up_id, up_id] at s
    rw [s, det_eq d n a _ (by omega) (by rw [up_ne (by omega), up_ne (by omega), up_ne (by omega), up_same, e]; rfl)]
    rfl
theorem det_same {n a b : Nat} {v : Nat → Vec} (ha : a < n) (hb : b < n) (hn : a ≠ b) (e : v a = v b) : det n v = 0 := by
  rcases Nat.lt_or_gt_of_ne hn with h | h
  · exact det_eq (b - a - 1) n a v (by omega) (by rw [e]; congr 1; omega)
  · exact det_eq (a - b - 1) n b v (by omega) (by rw [← e]; congr 1; omega)
theorem det_swap {n k j : Nat} (hk : k < n) (hj : j < n) (hn : k ≠ j) (v : Nat → Vec) (x y : Vec) : det n (up (up v k x) j y) = -det n (up (up v k y) j x) :=
  det_alt hk hj hn (fun v x => det_same hk hj hn (by rw [up_ne hn, up_same, up_same])) v x y
theorem det_zero {n k : Nat} (hk : k < n) (v : Nat → Vec) : det n (up v k fun _ => 0) = 0 := by
  have := det_lin n v k 0 0 (fun _ => 0) (fun _ => 0) hk
  simpa using this
theorem det_sum {n k : Nat} (hk : k < n) (v : Nat → Vec) : ∀ (m : Nat) (a : Nat → Int) (w : Nat → Vec), det n (up v k fun r => sumN m fun i => a i * w i r) = sumN m fun i => a i * det n (up v k (w i))
  | 0, a, w => det_zero hk v
  | m + 1, a, w => by
    have := det_lin n v k 1 (a m) (fun r => sumN m fun i => a i * w i r) (w m) hk
    simp only [Int.one_mul] at this
    show det n (up v k fun r => sumN m (fun i => a i * w i r) + a m * w m r) = _
    rw [this, det_sum hk v m a w]; rfl
def E (k : Nat) : Vec := fun r => if r = k then 1 else 0
theorem det_E : ∀ n, det n E = 1 ∨ det n E = -1
  | 0 => .inl rfl
  | n + 1 => by
    rw [det, sumN_one (k := n) (by omega) fun i hi hn => by simp [E, Ne.symm hn]]
    rw [det_congr n (v := out E n) (w := E) fun j hj r _ => by unfold out; rw [if_pos hj]]
    rcases sg_cases n with h | h <;> rcases det_E n with h' | h' <;> simp [h, h', E]
theorem E_sum {n : Nat} (x : Vec) {r : Nat} (hr : r < n) : sumN n (fun i => x i * E i r) = x r := by
  rw [sumN_one (k := r) hr fun i _ hn => by simp [E, Ne.symm hn]]
  simp [E]
theorem det_EX {n k : Nat} (hk : k < n) (x : Vec) : det n (up E k x) = x k * det n E := by
  rw [det_congr n (w := up E k fun r => sumN n fun i => x i * E i r) fun j _ r hr => ?_]
  · rw [det_sum hk, sumN_one hk fun i hi hn => ?_]
    · rw [up_id]
    · rw [det_same hi hk hn (by rw [up_ne hn, up_same])]; simp
  · unfold up; split
    · exact (E_sum x hr).symm
    · rfl
end BL
namespace BL
def lam (W : Nat) (ε : Int) (F : Nat → Vec) (k : Nat) (x : Vec) : Int := ε * det W (up F k x)
structure Cr (W : Nat) (ε u : Int) (F : Nat → Vec) : Prop where
  e : ε = 1 ∨ ε = -1
  ud : u = ε * det W F
  pos : 0 < u
  cr : ∀ (x : Vec) (r : Nat), r < W → u * x r = sumN W fun k => lam W ε F k x * F k r
section
variable {W : Nat} {ε u : Int} {F : Nat → Vec}
theorem lam_lin {k : Nat} (hk : k < W) (a b : Int) (x y : Vec) : lam W ε F k (fun r => a * x r + b * y r) = a * lam W ε F k x + b * lam W ε F k y := by
  unfold lam; rw [det_lin W F k a b x y hk]; grind
theorem lam_congr {k : Nat} {x y : Vec} (h : ∀ r, r < W → x r = y r) : lam W ε F k x = lam W ε F k y := by
  unfold lam
  rw [det_congr W (v := up F k x) (w := up F k y) fun j _ r hr => ?_]
  by_cases e : j = k
  · subst e; rw [up_same, up_same]; exact h r hr
  · rw [up_ne e, up_ne e]
theorem lam_sum {k : Nat} (hk : k < W) (m : Nat) (a : Nat → Int) (w : Nat → Vec) : lam W ε F k (fun r => sumN m fun i => a i * w i r) = sumN m fun i => a i * lam W ε F k (w i) := by
  unfold lam
  rw [det_sum hk, ← sumN_mul]
  exact sumN_congr fun i _ => by grind
theorem lam_self (c : Cr W ε u F) (k : Nat) : lam W ε F k (F k) = u := by
  unfold lam; rw [up_id, ← c.ud]
theorem lam_other {k j : Nat} (hk : k < W) (hj : j < W) (h : j ≠ k) : lam W ε F k (F j) = 0 := by
  unfold lam
  rw [det_same hj hk h (by rw [up_ne h, up_same])]; simp
theorem lam_mul {k : Nat} (hk : k < W) (a : Int) (x : Vec) : lam W ε F k (fun r => a * x r) = a * lam W ε F k x := by
  have := lam_lin (ε := ε) (F := F) hk a 0 x x
  simpa using this
/-- what another state says of a vector, by this state's coordinates -/
theorem lam_cr {ε' : Int} {F' : Nat → Vec} (c : Cr W ε u F) {k : Nat} (hk : k < W) (x : Vec) : u * lam W ε' F' k x = sumN W fun j => lam W ε F j x * lam W ε' F' k (F j) := by
  rw [← lam_sum hk, ← lam_mul hk]
  exact lam_congr fun r hr => c.cr x r hr
section
variable {c : Nat} {l : Vec}
theorem piv_c (x : Vec) : lam W (-ε) (up F c l) c x = -lam W ε F c x := by
  unfold lam; rw [up_up]; grind
theorem piv_k (C : Cr W ε u F) (hc : c < W) {k : Nat} (hk : k < W) (hn : k ≠ c) (x : Vec) : u * lam W (-ε) (up F c l) k x = -lam W ε F c l * lam W ε F k x + lam W ε F k l * lam W ε F c x := by
  rw [lam_cr C hk]
  have e1 : ∀ j, j < W → j ≠ k → j ≠ c → lam W (-ε) (up F c l) k (F j) = 0 := fun j hj h1 h2 => by
    unfold lam
    rw [det_same hj hk h1 (by rw [up_ne h1, up_ne h2, up_same])]; simp
  have e2 : lam W (-ε) (up F c l) k (F k) = -lam W ε F c l := by
    unfold lam
    rw [show up (up F c l) k (F k) = up F c l by rw [up_comm (Ne.symm hn), up_id]]; grind
  have e3 : lam W (-ε) (up F c l) k (F c) = lam W ε F k l := by
    unfold lam
    rw [det_swap hc hk (Ne.symm hn), up_id]; grind
  -- the sum has two terms
  have : ∀ (f : Nat → Int) (n a b : Nat), a < n → b < n → a ≠ b → (∀ j, j < n → j ≠ a → j ≠ b → f j = 0) → sumN n f = f a + f b := by
    intro f n
    induction n with
    | zero => intro a b h; omega
    | succ n ih =>
      intro a b ha hb hab h0
      rw [sumN]
      by_cases h1 : a = n
      · subst h1
        rw [sumN_one (k := b) (by omega) fun j hj hn => h0 j (by omega) (by omega) hn]; omega
      · by_cases h2 : b = n
        · subst h2
          rw [sumN_one (k := a) (by omega) fun j hj hn => h0 j (by omega) hn (by omega)]
        · rw [ih a b (by omega) (by omega) hab fun j hj => h0 j (by omega), h0 n (by omega) (Ne.symm h1) (Ne.symm h2)]; omega
  rw [this _ W k c hk hc hn fun j hj h1 h2 => by rw [e1 j hj h1 h2]; simp]
  rw [e2, e3]; grind
theorem Cr.pivot (C : Cr W ε u F) (hc : c < W) (hp : 0 < -lam W ε F c l) : Cr W (-ε) (-lam W ε F c l) (up F c l) := by
  refine ⟨by rcases C.e with h | h <;> simp [h], by unfold lam; grind, hp, fun x r hr => ?_⟩
  have h1 : u * sumN W (fun k => lam W (-ε) (up F c l) k x * up F c l k r) = u * (-lam W ε F c l * x r) := by
    rw [← sumN_mul]
    have e : ∀ k, k < W → u * (lam W (-ε) (up F c l) k x * up F c l k r) = (if k = c then u * (-lam W ε F c x) * l r else (-lam W ε F c l) * (lam W ε F k x * F k r) + lam W ε F c x * (lam W ε F k l * F k r)) := fun k hk => by
      by_cases h : k = c
      · subst h; rw [if_pos rfl, piv_c, up_same]; grind
      · rw [if_neg h, up_ne h]
        have := piv_k (l := l) C hc hk h x
        grind
    rw [sumN_congr e]
    -- the sum with the one term set apart
    have split : ∀ (n : Nat) (f : Nat → Int) (a : Int), c < n → sumN n (fun k => if k = c then a else f k) = sumN n f - f c + a := by
      intro n f a
      induction n with
      | zero => intro h; omega
      | succ n ih =>
        intro h
        rw [sumN, sumN]
        by_cases h1 : n = c
        · subst h1
          rw [if_pos rfl, sumN_congr (g := f) fun i hi => by rw [if_neg (by omega)]]; omega
        · rw [if_neg h1, ih (by omega)]; omega
    rw [split W (fun k => (-lam W ε F c l) * (lam W ε F k x * F k r) + lam W ε F c x * (lam W ε F k l * F k r)) _ hc, sumN_lin, ← C.cr x r hr, ← C.cr l r hr]
    grind
  have hu := C.pos
  exact (Int.eq_of_mul_eq_mul_left (by omega) h1).symm
end
end
/-- where everything begins -/
theorem Cr.init (W : Nat) : Cr W (det W E) 1 E := by
  have h := det_E W
  refine ⟨h, by rcases h with h | h <;> simp [h], by decide, fun x r hr => ?_⟩
  rw [Int.one_mul, ← E_sum x hr]
  refine sumN_congr fun k hk => ?_
  unfold lam
  rw [det_EX hk]
  rcases h with h | h <;> simp [h]
theorem lam_init {W k : Nat} (hk : k < W) (x : Vec) : lam W (det W E) E k x = x k := by
  unfold lam
  rw [det_EX hk]
  rcases det_E W with h | h <;> simp [h]
end BL
namespace BL
structure Tb where
  eps : Int
  u : Int
  F : Nat → Vec
  fr : Nat → Nat
section
variable (R V : Nat) (φ : Nat → Vec) (φv : Vec)
def Tb.lam (s : Tb) (k : Nat) (x : Vec) : Int := BL.lam (R + 2) s.eps s.F k x
structure TInv (s : Tb) : Prop where
  cr : Cr (R + 2) s.eps s.u s.F
  fr : ∀ k, k ≤ R → s.fr k < V ∧ s.F k = φ (s.fr k)
  last : s.F (R + 1) = E (R + 1)
  feas : ∀ g, g < V → 0 ≤ s.lam R (R + 1) (φ g)
structure TStp (s s' : Tb) (c l : Nat) : Prop where
  hc : c ≤ R
  hl : l < V
  bnd : s.lam R c φv < 0
  least : ∀ k, k ≤ R → s.lam R k φv < 0 → s.fr c ≤ s.fr k
  neg : s.lam R c (φ l) < 0
  ratio : ∀ g, g < V → s.lam R c (φ g) < 0 → s.lam R (R + 1) (φ g) * s.lam R c (φ l) ≤ s.lam R (R + 1) (φ l) * s.lam R c (φ g) ∧ (s.lam R (R + 1) (φ g) * s.lam R c (φ l) = s.lam R (R + 1) (φ l) * s.lam R c (φ g) → l ≤ g)
  eps : s'.eps = -s.eps
  u : s'.u = -s.lam R c (φ l)
  F : s'.F = up s.F c (φ l)
  frc : s'.fr c = l
  frk : ∀ k, k ≠ c → s'.fr k = s.fr k
def Tb.free (s : Tb) (g : Nat) : Prop := ∃ k, k ≤ R ∧ s.fr k = g
end
section
variable {R V : Nat} {φ : Nat → Vec} {φv : Vec}
theorem TStp.lamc {s s' : Tb} {c l : Nat} (h : TStp R V φ φv s s' c l) (x : Vec) : s'.lam R c x = -s.lam R c x := by
  unfold Tb.lam; rw [h.eps, h.F]; exact piv_c x
theorem TStp.lamk {s s' : Tb} {c l : Nat} (h : TStp R V φ φv s s' c l) (i : TInv R V φ s) {k : Nat} (hk : k ≤ R + 1) (hn : k ≠ c) (x : Vec) : s.u * s'.lam R k x = -s.lam R c (φ l) * s.lam R k x + s.lam R k (φ l) * s.lam R c x := by
  unfold Tb.lam; rw [h.eps, h.F]
  exact piv_k i.cr (by have := h.hc; omega) (by omega) hn x
theorem TInv.free0 {s : Tb} (i : TInv R V φ s) {g k : Nat} (hk : k ≤ R + 1) (hg : s.free R g) (hn : ∀ j, j ≤ R → s.fr j = g → j ≠ k) : s.lam R k (φ g) = 0 := by
  obtain ⟨j, hj, rfl⟩ := hg
  rw [← (i.fr j hj).2]
  exact lam_other (by omega) (by omega) (hn j hj rfl)
theorem TInv.self {s : Tb} (i : TInv R V φ s) {k : Nat} (hk : k ≤ R) : s.lam R k (φ (s.fr k)) = s.u := by
  rw [← (i.fr k hk).2]
  exact lam_self i.cr k
theorem TInv.inj {s : Tb} (i : TInv R V φ s) {j k : Nat} (hj : j ≤ R) (hk : k ≤ R) (e : s.fr j = s.fr k) : j = k := by
  apply Classical.byContradiction
  intro hn
  have h1 := i.self hk
  rw [← e, i.free0 (k := k) (by omega) ⟨j, hj, rfl⟩ (fun j' hj' e' h => ?_)] at h1
  · have := i.cr.pos; omega
  · subst h
    have h2 := i.self hj
    have h3 : s.lam R j' (s.F j) = 0 := lam_other (by omega) (by omega) hn
    rw [(i.fr j hj).2, e] at h3
    rw [i.self hk] at h3
    have := i.cr.pos; omega
theorem TInv.val0 {s : Tb} (i : TInv R V φ s) {g : Nat} (hg : s.free R g) : s.lam R (R + 1) (φ g) = 0 := i.free0 (by omega) hg fun j hj _ => by omega
theorem TInv.next {s s' : Tb} {c l : Nat} (i : TInv R V φ s) (h : TStp R V φ φv s s' c l) : TInv R V φ s' := by
  have hc := h.hc
  refine ⟨?_, fun k hk => ?_, ?_, fun g hg => ?_⟩
  · rw [h.eps, h.u, h.F]
    exact i.cr.pivot (by omega) (by have := h.neg; unfold Tb.lam at this; omega)
  · by_cases e : k = c
    · subst e
      rw [h.frc, h.F, up_same]
      exact ⟨h.hl, rfl⟩
    · rw [h.frk k e, h.F, up_ne e]
      exact i.fr k hk
  · rw [h.F, up_ne (by omega)]; exact i.last
  · have e := h.lamk i (k := R + 1) (by omega) (by omega) (φ g)
    have hu := i.cr.pos
    have : 0 ≤ s.u * s'.lam R (R + 1) (φ g) := by
      rw [e]
      have hn := h.neg
      have hv := i.feas g hg
      have hv' := i.feas l h.hl
      by_cases h1 : s.lam R c (φ g) < 0
      · have := (h.ratio g hg h1).1
        have e2 : -s.lam R c (φ l) * s.lam R (R + 1) (φ g) = -(s.lam R (R + 1) (φ g) * s.lam R c (φ l)) := by grind
        omega
      · have a1 := Int.mul_nonneg (show 0 ≤ -s.lam R c (φ l) by omega) hv
        have a2 := Int.mul_nonneg hv' (show 0 ≤ s.lam R c (φ g) by omega)
        omega
    exact Int.le_of_not_gt fun hneg => by
      have := Int.mul_neg_of_pos_of_neg hu hneg
      omega
theorem TStp.enter {s s' : Tb} {c l : Nat} (h : TStp R V φ φv s s' c l) (i : TInv R V φ s) : s.free R (s.fr c) ∧ ¬ s'.free R (s.fr c) := by
  refine ⟨⟨c, h.hc, rfl⟩, fun ⟨k, hk, e⟩ => ?_⟩
  by_cases ek : k = c
  · subst ek
    rw [h.frc] at e
    have h1 := i.self h.hc
    have h2 := h.neg
    have h3 := i.cr.pos
    rw [e] at h2; omega
  · rw [h.frk k ek] at e
    exact ek (i.inj hk h.hc e)
theorem TStp.leave {s s' : Tb} {c l : Nat} (h : TStp R V φ φv s s' c l) (i : TInv R V φ s) : ¬ s.free R l ∧ s'.free R l := by
  refine ⟨fun ⟨k, hk, e⟩ => ?_, ⟨c, h.hc, h.frc⟩⟩
  have h2 := h.neg
  have h3 := i.cr.pos
  by_cases ek : k = c
  · subst ek
    have h1 := i.self hk
    rw [e] at h1; omega
  · have := i.free0 (g := l) (k := c) (by have := h.hc; omega) ⟨k, hk, e⟩ fun j hj ej => fun q => ek (i.inj hk hj (e.trans ej.symm) ▸ q)
    omega
theorem TStp.other {s s' : Tb} {c l g : Nat} (h : TStp R V φ φv s s' c l) (h1 : g ≠ s.fr c) (h2 : g ≠ l) : s'.free R g ↔ s.free R g := by
  constructor
  · intro ⟨k, hk, e⟩
    by_cases ek : k = c
    · subst ek; rw [h.frc] at e; exact absurd e.symm h2
    · exact ⟨k, hk, by rw [← h.frk k ek]; exact e⟩
  · intro ⟨k, hk, e⟩
    by_cases ek : k = c
    · subst ek; exact absurd e.symm h1
    · exact ⟨k, hk, by rw [h.frk k ek]; exact e⟩
theorem TStp.down {s s' : Tb} {c l : Nat} (h : TStp R V φ φv s s' c l) (i : TInv R V φ s) : s'.lam R (R + 1) φv * s.u ≤ s.lam R (R + 1) φv * s'.u ∧ (s'.lam R (R + 1) φv * s.u = s.lam R (R + 1) φv * s'.u → s.lam R (R + 1) (φ l) = 0) := by
  have e := h.lamk i (k := R + 1) (by omega) (by have := h.hc; omega) φv
  have hv := i.feas l h.hl
  have hb := h.bnd
  have hm : s.lam R (R + 1) (φ l) * s.lam R c φv ≤ 0 := Int.mul_nonpos_of_nonneg_of_nonpos hv (by omega)
  rw [h.u]
  have e1 : s'.lam R (R + 1) φv * s.u = s.u * s'.lam R (R + 1) φv := Int.mul_comm _ _
  have e2 : s.lam R (R + 1) φv * -s.lam R c (φ l) = -s.lam R c (φ l) * s.lam R (R + 1) φv := Int.mul_comm _ _
  rw [e1, e2, e]
  refine ⟨by omega, fun q => ?_⟩
  have : s.lam R (R + 1) (φ l) * s.lam R c φv = 0 := by omega
  rcases Int.mul_eq_zero.mp this with z | z
  · exact z
  · omega
/-- fractions -/
theorem frac_trans {a b c x y z : Int} (hx : 0 < x) (hy : 0 < y) (hz : 0 < z) (h1 : b * x ≤ a * y) (h2 : c * y ≤ b * z) : c * x ≤ a * z := by
  have h3 : c * y * x ≤ b * z * x := Int.mul_le_mul_of_nonneg_right h2 (by omega)
  have h4 : b * x * z ≤ a * y * z := Int.mul_le_mul_of_nonneg_right h1 (by omega)
  have e1 : c * y * x = c * x * y := by grind
  have e2 : b * z * x = b * x * z := by grind
  have e3 : a * y * z = a * z * y := by grind
  exact Int.le_of_mul_le_mul_right (by omega : c * x * y ≤ a * z * y) hy
theorem frac_strict {a b c x y z : Int} (hx : 0 < x) (hy : 0 < y) (hz : 0 < z) (h1 : b * x ≤ a * y) (h2 : c * y ≤ b * z) (he : c * x = a * z) : b * x = a * y ∧ c * y = b * z := by
  have e1 : c * y * x = c * x * y := by grind
  have e2 : b * z * x = b * x * z := by grind
  have e3 : a * y * z = a * z * y := by grind
  have h3 : c * y * x ≤ b * z * x := Int.mul_le_mul_of_nonneg_right h2 (by omega)
  have h4 : b * x * z ≤ a * y * z := Int.mul_le_mul_of_nonneg_right h1 (by omega)
  have h5 : c * x * y = a * z * y := by rw [he]
  have h6 : b * x * z = a * y * z := by omega
  have h7 : c * y * x = b * z * x := by omega
  exact ⟨Int.eq_of_mul_eq_mul_right (by omega) h6, Int.eq_of_mul_eq_mul_right (by omega) h7⟩
end
theorem pigeon : ∀ (N : Nat) (f : Nat → Nat), (∀ i, f i < N) → ∃ i j, i < j ∧ f i = f j
  | 0, f, h => absurd (h 0) (by omega)
  | N + 1, f, h => by
    by_cases h1 : ∃ i, f i = N
    · obtain ⟨i, hi⟩ := h1
      by_cases h2 : ∃ j, i < j ∧ f j = N
      · obtain ⟨j, hj, e⟩ := h2
        exact ⟨i, j, hj, by omega⟩
      · obtain ⟨a, b, hab, e⟩ := pigeon N (fun k => f (i + 1 + k)) fun k => by
          have := h (i + 1 + k)
          have : f (i + 1 + k) ≠ N := fun e => h2 ⟨i + 1 + k, by omega, e⟩
          omega
        exact ⟨i + 1 + a, i + 1 + b, by omega, e⟩
    · exact pigeon N f fun i => by
        have := h i
        have : f i ≠ N := fun e => h1 ⟨i, e⟩
        omega
def bits : Nat → (Nat → Bool) → Nat
  | 0, _ => 0
  | n + 1, b => 2 * bits n b + (if b n = true then 1 else 0)
theorem bits_lt (n : Nat) (b : Nat → Bool) : bits n b < 2 ^ n := by
  induction n with
  | zero => exact Nat.one_pos
  | succ n ih => rw [bits, Nat.pow_succ]; split <;> omega
theorem bits_inj {n : Nat} {b c : Nat → Bool} (h : bits n b = bits n c) : ∀ g, g < n → b g = c g := by
  induction n with
  | zero => intro g hg; omega
  | succ n ih =>
    rw [bits, bits] at h
    intro g hg
    by_cases e : g = n
    · subst e
      cases hb : b g <;> cases hc : c g <;> simp [hb, hc] at h ⊢ <;> omega
    · refine ih ?_ g (by omega)
      split at h <;> split at h <;> omega
end BL
namespace BL
section
variable {R V : Nat} {φ : Nat → Vec} {φv : Vec} {f : Nat → Tb} {cs ls : Nat → Nat}
/-- a run without an end -/
structure Run (R V : Nat) (φ : Nat → Vec) (φv : Vec) (f : Nat → Tb) (cs ls : Nat → Nat) : Prop where
  inv : ∀ i, TInv R V φ (f i)
  stp : ∀ i, TStp R V φ φv (f i) (f (i + 1)) (cs i) (ls i)
theorem Run.down (r : Run R V φ φv f cs ls) (i : Nat) : ∀ d, (f (i + d)).lam R (R + 1) φv * (f i).u ≤ (f i).lam R (R + 1) φv * (f (i + d)).u
  | 0 => Int.le_refl _
  | d + 1 => frac_trans (r.inv i).cr.pos (r.inv (i + d)).cr.pos (r.inv (i + d + 1)).cr.pos (r.down i d) ((r.stp (i + d)).down (r.inv (i + d))).1
/-- the same free ones: the same bound -/
theorem Run.same (r : Run R V φ φv f cs ls) {i j : Nat} (h : ∀ k, k ≤ R → (f i).free R ((f j).fr k)) : (f j).lam R (R + 1) φv * (f i).u = (f i).lam R (R + 1) φv * (f j).u := by
  have e := lam_cr (ε' := (f i).eps) (F' := (f i).F) (r.inv j).cr (k := R + 1) (by omega) φv
  rw [sumN_one (k := R + 1) (by omega) fun k hk hn => ?_] at e
  · rw [(r.inv j).last] at e
    have e2 : BL.lam (R + 2) (f i).eps (f i).F (R + 1) (E (R + 1)) = (f i).u := by
      rw [← (r.inv i).last]; exact lam_self (r.inv i).cr _
    rw [e2] at e
    unfold Tb.lam
    grind
  · have : BL.lam (R + 2) (f i).eps (f i).F (R + 1) ((f j).F k) = 0 := by
      rw [((r.inv j).fr k (by omega)).2]
      exact (r.inv i).val0 (h k (by omega))
    rw [this]; simp
/-- .. and nothing moves between -/
theorem Run.rest (r : Run R V φ φv f cs ls) {i n : Nat} (h : ∀ k, k ≤ R → (f i).free R ((f (i + n)).fr k)) {d : Nat} (hd : d < n) : (f (i + d)).lam R (R + 1) (φ (ls (i + d))) = 0 := by
  have e := r.same h
  have h1 := r.down i d
  have h2 := (r.stp (i + d)).down (r.inv (i + d))
  have h3 := r.down (i + d + 1) (n - d - 1)
  rw [show i + d + 1 + (n - d - 1) = i + n by omega] at h3
  have p1 := (r.inv i).cr.pos
  have p2 := (r.inv (i + d)).cr.pos
  have p3 := (r.inv (i + d + 1)).cr.pos
  have p4 := (r.inv (i + n)).cr.pos
  have h4 := frac_trans p1 p2 p3 h1 h2.1
  have h5 := (frac_strict p1 p3 p4 h4 h3 e).1
  exact h2.2 (frac_strict p1 p2 p3 h1 h2.1 h5).2
theorem Run.val (r : Run R V φ φv f cs ls) {i n : Nat} (h : ∀ k, k ≤ R → (f i).free R ((f (i + n)).fr k)) (g : Nat) : ∀ d, d ≤ n → ((f (i + d)).lam R (R + 1) (φ g) = 0 ↔ (f i).lam R (R + 1) (φ g) = 0)
  | 0, _ => Iff.rfl
  | d + 1, hd => by
    rw [← r.val h g d (by omega)]
    have s := r.stp (i + d)
    have e := s.lamk (r.inv (i + d)) (k := R + 1) (by omega) (by have := s.hc; omega) (φ g)
    rw [r.rest h (by omega)] at e
    have p := (r.inv (i + d)).cr.pos
    have hn := s.neg
    constructor
    · intro z
      rw [show i + (d + 1) = i + d + 1 by omega] at z
      rw [z] at e
      have : -(f (i + d)).lam R (cs (i + d)) (φ (ls (i + d))) * (f (i + d)).lam R (R + 1) (φ g) = 0 := by grind
      rcases Int.mul_eq_zero.mp this with q | q
      · omega
      · exact q
    · intro z
      rw [z] at e
      have : (f (i + d)).u * (f (i + d + 1)).lam R (R + 1) (φ g) = 0 := by grind
      rcases Int.mul_eq_zero.mp this with q | q
      · omega
      · exact q
/-- an unknown that enters or leaves -/
def Fick (f : Nat → Tb) (cs ls : Nat → Nat) (i n g : Nat) : Prop := ∃ d, d < n ∧ (g = (f (i + d)).fr (cs (i + d)) ∨ g = ls (i + d))
theorem Run.still (r : Run R V φ φv f cs ls) {i n g : Nat} (h : ¬ Fick f cs ls i n g) : ∀ d, d ≤ n → ((f (i + d)).free R g ↔ (f i).free R g)
  | 0, _ => Iff.rfl
  | d + 1, hd => by
    rw [← r.still h d (by omega)]
    exact (r.stp (i + d)).other (fun e => h ⟨d, by omega, .inl e⟩) (fun e => h ⟨d, by omega, .inr e⟩)
theorem Run.fval (r : Run R V φ φv f cs ls) {i n : Nat} (h : ∀ k, k ≤ R → (f i).free R ((f (i + n)).fr k)) {g : Nat} (hg : Fick f cs ls i n g) {d : Nat} (hd : d ≤ n) : (f (i + d)).lam R (R + 1) (φ g) = 0 := by
  rw [r.val h g d hd]
  obtain ⟨a, ha, e⟩ := hg
  rw [← r.val h g a (by omega)]
  rcases e with e | e
  · rw [e]; exact (r.inv (i + a)).val0 ((r.stp (i + a)).enter (r.inv (i + a))).1
  · rw [e]; exact r.rest h ha
/-- never taken out of the free ones: free stays free -/
theorem Run.keepF (r : Run R V φ φv f cs ls) {i n g : Nat} (h : ∀ d, d < n → g ≠ (f (i + d)).fr (cs (i + d))) : ∀ a b, a ≤ b → b ≤ n → (f (i + a)).free R g → (f (i + b)).free R g
  | a, 0, h1, _, q => by rw [show a = 0 by omega] at q; exact q
  | a, b + 1, h1, h2, q => by
    by_cases e : a = b + 1
    · rw [← e]; exact q
    · have q2 := r.keepF h a b (by omega) (by omega) q
      by_cases el : g = ls (i + b)
      · rw [el]; exact ((r.stp (i + b)).leave (r.inv (i + b))).2
      · exact ((r.stp (i + b)).other (h b (by omega)) el).mpr q2
theorem Run.keepT (r : Run R V φ φv f cs ls) {i n g : Nat} (h : ∀ d, d < n → g ≠ ls (i + d)) : ∀ a b, a ≤ b → b ≤ n → ¬ (f (i + a)).free R g → ¬ (f (i + b)).free R g
  | a, 0, h1, _, q => by rw [show a = 0 by omega] at q; exact q
  | a, b + 1, h1, h2, q => by
    by_cases e : a = b + 1
    · rw [← e]; exact q
    · have q2 := r.keepT h a b (by omega) (by omega) q
      by_cases el : g = (f (i + b)).fr (cs (i + b))
      · rw [el]; exact ((r.stp (i + b)).enter (r.inv (i + b))).2
      · exact fun z => q2 (((r.stp (i + b)).other el (h b (by omega))).mp z)
theorem max_of {P : Nat → Prop} {B : Nat} (hB : ∀ g, P g → g < B) (h : ∃ g, P g) : ∃ g, P g ∧ ∀ k, P k → k ≤ g := by
  induction B with
  | zero => obtain ⟨g, hg⟩ := h; exact absurd (hB g hg) (by omega)
  | succ B ih =>
    by_cases hp : P B
    · exact ⟨B, hp, fun k hk => by have := hB k hk; omega⟩
    · exact ih fun g hg => by
        have := hB g hg
        have : g ≠ B := fun e => hp (e ▸ hg)
        omega
theorem Run.round (r : Run R V φ φv f cs ls) {i n : Nat} (hn : 0 < n) (h : ∀ g, g < V → ((f i).free R g ↔ (f (i + n)).free R g)) : False := by
  have h' : ∀ k, k ≤ R → (f i).free R ((f (i + n)).fr k) := fun k hk => (h _ ((r.inv (i + n)).fr k hk).1).mpr ⟨k, hk, rfl⟩
  have fV : ∀ g, Fick f cs ls i n g → g < V := fun g ⟨d, hd, e⟩ => by
    rcases e with e | e
    · rw [e]; exact ((r.inv (i + d)).fr _ (r.stp (i + d)).hc).1
    · rw [e]; exact (r.stp (i + d)).hl
  obtain ⟨t, ht, hmax⟩ := max_of fV ⟨_, 0, hn, .inl rfl⟩
  have htV := fV t ht
  -- it leaves once, and enters once
  have hleave : ∃ a, a < n ∧ t = ls (i + a) := by
    apply Classical.byContradiction
    intro hno
    have hno' : ∀ d, d < n → t ≠ ls (i + d) := fun d hd e => hno ⟨d, hd, e⟩
    obtain ⟨b, hb, e⟩ := ht
    have e : t = (f (i + b)).fr (cs (i + b)) := e.resolve_right (hno' b hb)
    have en := (r.stp (i + b)).enter (r.inv (i + b))
    rw [← e] at en
    have q1 : ¬ (f (i + n)).free R t := r.keepT hno' (b + 1) n (by omega) (by omega) en.2
    have q2 : ¬ (f i).free R t := fun z => q1 ((h t htV).mp z)
    exact r.keepT hno' 0 b (by omega) (by omega) q2 en.1
  have henter : ∃ b, b < n ∧ t = (f (i + b)).fr (cs (i + b)) := by
    apply Classical.byContradiction
    intro hno
    have hno' : ∀ d, d < n → t ≠ (f (i + d)).fr (cs (i + d)) := fun d hd e => hno ⟨d, hd, e⟩
    obtain ⟨a, ha, e⟩ := hleave
    have le := (r.stp (i + a)).leave (r.inv (i + a))
    rw [← e] at le
    have q1 : (f (i + n)).free R t := r.keepF hno' (a + 1) n (by omega) (by omega) le.2
    have q2 : (f i).free R t := (h t htV).mpr q1
    exact le.1 (r.keepF hno' 0 a (by omega) (by omega) q2)
  obtain ⟨a, ha, ea⟩ := hleave
  obtain ⟨b, hb, eb⟩ := henter
  have A := r.stp (i + a); have iA := r.inv (i + a)
  have B := r.stp (i + b); have iB := r.inv (i + b)
  have e := lam_cr (ε' := (f (i + a)).eps) (F' := (f (i + a)).F) iB.cr (k := cs (i + a)) (by have := A.hc; omega) φv
  have hs : 0 ≤ sumN (R + 2) fun j => BL.lam (R + 2) (f (i + b)).eps (f (i + b)).F j φv * BL.lam (R + 2) (f (i + a)).eps (f (i + a)).F (cs (i + a)) ((f (i + b)).F j) := by
    refine sumN_nonneg fun k hk => ?_
    by_cases hkl : k = R + 1
    · rw [hkl, iB.last, ← iA.last, lam_other (by have := A.hc; omega) (by omega) (by have := A.hc; omega)]; simp
    · have hk' : k ≤ R := by omega
      rw [(iB.fr k hk').2]
      show 0 ≤ (f (i + b)).lam R k φv * (f (i + a)).lam R (cs (i + a)) (φ ((f (i + b)).fr k))
      by_cases hf : Fick f cs ls i n ((f (i + b)).fr k)
      · by_cases hg : (f (i + b)).fr k = t
        · have : k = cs (i + b) := iB.inj hk' B.hc (hg.trans eb)
          have h1 : (f (i + b)).lam R k φv < 0 := by rw [this]; exact B.bnd
          have h2 := A.neg
          rw [← ea, ← hg] at h2
          exact Int.mul_nonneg_of_nonpos_of_nonpos (by omega) (by omega)
        · have hlt : (f (i + b)).fr k < t := by have := hmax _ hf; omega
          have h1 : 0 ≤ (f (i + b)).lam R k φv := by
            apply Int.le_of_not_gt
            intro hneg
            have := B.least k hk' hneg
            rw [← eb] at this; omega
          refine Int.mul_nonneg h1 ?_
          by_cases hfa : (f (i + a)).free R ((f (i + b)).fr k)
          · by_cases es : (f (i + b)).fr k = (f (i + a)).fr (cs (i + a))
            · rw [es, iA.self A.hc]; have := iA.cr.pos; omega
            · rw [iA.free0 (k := cs (i + a)) (by have := A.hc; omega) hfa fun j hj ej q => es (by rw [← ej, q])]; omega
          · apply Int.le_of_not_gt
            intro hneg
            have v0 := r.fval h' hf (d := a) (by omega)
            have v1 := r.fval h' ht (d := a) (by omega)
            have rt := (A.ratio _ (fV _ hf) hneg).2
            rw [← ea, v0, v1] at rt
            have := rt (by simp)
            omega
      · have hfb : (f (i + b)).free R ((f (i + b)).fr k) := ⟨k, hk', rfl⟩
        have hfa := (r.still hf a (by omega)).mpr ((r.still hf b (by omega)).mp hfb)
        rw [iA.free0 (k := cs (i + a)) (by have := A.hc; omega) hfa fun j hj ej q => hf ⟨a, ha, .inl (by rw [← ej, q])⟩]; simp
  have hl : (f (i + b)).u * BL.lam (R + 2) (f (i + a)).eps (f (i + a)).F (cs (i + a)) φv < 0 := Int.mul_neg_of_pos_of_neg iB.cr.pos A.bnd
  omega
/-- Bland's rule stops -/
theorem no_run (r : Run R V φ φv f cs ls) : False := by
  classical
  obtain ⟨i, j, hij, e⟩ := pigeon (2 ^ V) (fun i => bits V fun g => decide ((f i).free R g)) fun i => bits_lt _ _
  have e' := bits_inj e
  refine r.round (i := i) (n := j - i) (by omega) fun g hg => ?_
  have h2 := e' g hg
  rw [show i + (j - i) = j by omega]
  exact decide_eq_decide.mp h2
end
end BL
namespace BL
structure Ts where
  s : Tb
  td : Nat → Nat
section
variable (R m : Nat) (φ : Nat → Vec) (φv : Vec)
structure Gd (t : Ts) : Prop where
  inv : TInv R (R + 1 + m) φ t.s
  td : ∀ i, i < m → t.td i < R + 1 + m ∧ ¬ t.s.free R (t.td i)
  inj : ∀ i j, i < m → j < m → t.td i = t.td j → i = j
  cover : ∀ g, g < R + 1 + m → t.s.free R g ∨ ∃ i, i < m ∧ t.td i = g
/-- the next column and line, by the rule -/
structure Legit (t : Ts) (c q : Nat) : Prop where
  hc : c ≤ R
  hq : q < m
  bnd : t.s.lam R c φv < 0
  least : ∀ k, k ≤ R → t.s.lam R k φv < 0 → t.s.fr c ≤ t.s.fr k
  neg : t.s.lam R c (φ (t.td q)) < 0
  ratio : ∀ i, i < m → t.s.lam R c (φ (t.td i)) < 0 → t.s.lam R (R + 1) (φ (t.td i)) * t.s.lam R c (φ (t.td q)) ≤ t.s.lam R (R + 1) (φ (t.td q)) * t.s.lam R c (φ (t.td i)) ∧ (t.s.lam R (R + 1) (φ (t.td i)) * t.s.lam R c (φ (t.td q)) = t.s.lam R (R + 1) (φ (t.td q)) * t.s.lam R c (φ (t.td i)) → t.td q ≤ t.td i)
def Ts.next (t : Ts) (c q : Nat) : Ts := ⟨⟨-t.s.eps, -t.s.lam R c (φ (t.td q)), up t.s.F c (φ (t.td q)), fun k => if k = c then t.td q else t.s.fr k⟩, fun i => if i = q then t.s.fr c else t.td i⟩
inductive Halts : Ts → Prop
  | mk (t : Ts) : (∀ c q, Legit R m φ φv t c q → Halts (t.next R φ c q)) → Halts t
end
section
variable {R m : Nat} {φ : Nat → Vec} {φv : Vec} {t : Ts} {c q : Nat}
theorem Legit.stp (l : Legit R m φ φv t c q) (g : Gd R m φ t) : TStp R (R + 1 + m) φ φv t.s (t.next R φ c q).s c (t.td q) := by
  refine ⟨l.hc, (g.td q l.hq).1, l.bnd, l.least, l.neg, fun x hx hn => ?_, rfl, rfl, rfl, if_pos rfl, fun k hk => if_neg hk⟩
  rcases g.cover x hx with hf | ⟨i, hi, rfl⟩
  · exfalso
    obtain ⟨k, hk, rfl⟩ := hf
    by_cases e : k = c
    · subst e; rw [g.inv.self hk] at hn; have := g.inv.cr.pos; omega
    · rw [g.inv.free0 (k := c) (by have := l.hc; omega) ⟨k, hk, rfl⟩ fun j hj ej z => e (g.inv.inj hk hj ej.symm |>.trans z)] at hn; omega
  · exact l.ratio i hi hn
theorem Gd.next (g : Gd R m φ t) (l : Legit R m φ φv t c q) : Gd R m φ (t.next R φ c q) := by
  have s := l.stp g
  have le := s.leave g.inv
  have en := s.enter g.inv
  refine ⟨g.inv.next s, fun i hi => ?_, fun i j hi hj e => ?_, fun x hx => ?_⟩
  · by_cases e : i = q
    · subst e
      rw [show (t.next R φ c i).td i = t.s.fr c from if_pos rfl]
      exact ⟨(g.inv.fr c l.hc).1, en.2⟩
    · rw [show (t.next R φ c q).td i = t.td i from if_neg e]
      refine ⟨(g.td i hi).1, fun z => ?_⟩
      have n1 : t.td i ≠ t.s.fr c := fun z => (g.td i hi).2 (z ▸ en.1)
      have n2 : t.td i ≠ t.td q := fun z => e (g.inj i q hi l.hq z)
      exact (g.td i hi).2 ((s.other n1 n2).mp z)
  · have n1 : ∀ k, k < m → t.td k ≠ t.s.fr c := fun k hk z => (g.td k hk).2 (z ▸ en.1)
    have d : ∀ k, (t.next R φ c q).td k = if k = q then t.s.fr c else t.td k := fun _ => rfl
    rw [d, d] at e
    by_cases h1 : i = q <;> by_cases h2 : j = q
    · omega
    · rw [if_pos h1, if_neg h2] at e; exact absurd e.symm (n1 j hj)
    · rw [if_neg h1, if_pos h2] at e; exact absurd e (n1 i hi)
    · rw [if_neg h1, if_neg h2] at e; exact g.inj i j hi hj e
  · by_cases h1 : x = t.s.fr c
    · exact .inr ⟨q, l.hq, by rw [h1]; exact if_pos rfl⟩
    · by_cases h2 : x = t.td q
      · exact .inl (h2 ▸ le.2)
      · rcases g.cover x hx with z | ⟨i, hi, rfl⟩
        · exact .inl ((s.other h1 h2).mpr z)
        · exact .inr ⟨i, hi, if_neg fun e => h2 (by rw [e])⟩
theorem halts (g : Gd R m φ t) : Halts R m φ φv t := by
  apply Classical.byContradiction
  intro h0
  have stepE : ∀ x : { t : Ts // Gd R m φ t ∧ ¬ Halts R m φ φv t }, ∃ p : Nat × Nat, Legit R m φ φv x.1 p.1 p.2 ∧ ¬ Halts R m φ φv (x.1.next R φ p.1 p.2) := by
    intro ⟨t, gt, ht⟩
    apply Classical.byContradiction
    intro hno
    exact ht (.mk t fun c q l => Classical.byContradiction fun z => hno ⟨(c, q), l, z⟩)
  let ch := fun x => Classical.choose (stepE x)
  have hch := fun x => Classical.choose_spec (stepE x)
  let seq : Nat → { t : Ts // Gd R m φ t ∧ ¬ Halts R m φ φv t } := fun i => Nat.rec ⟨t, g, h0⟩ (fun _ x => ⟨x.1.next R φ (ch x).1 (ch x).2, x.2.1.next (hch x).1, (hch x).2⟩) i
  exact no_run (R := R) (V := R + 1 + m) (φ := φ) (φv := φv) (f := fun i => (seq i).1.s) (cs := fun i => (ch (seq i)).1) (ls := fun i => (seq i).1.td (ch (seq i)).2)
    ⟨fun i => (seq i).2.1.inv, fun i => (hch (seq i)).1.stp (seq i).2.1⟩
theorem Legit.ent (l : Legit R m φ φv t c q) (g : Gd R m φ t) {k : Nat} (hk : k ≤ R + 1) (x : Vec) : (t.next R φ c q).s.lam R k x = if k = c then -t.s.lam R c x else (t.s.lam R k x * (-t.s.lam R c (φ (t.td q))) + t.s.lam R k (φ (t.td q)) * t.s.lam R c x).fdiv t.s.u := by
  have s := l.stp g
  by_cases e : k = c
  · subst e; rw [if_pos rfl]; exact s.lamc x
  · rw [if_neg e]
    have h := s.lamk g.inv hk e x
    have : t.s.lam R k x * (-t.s.lam R c (φ (t.td q))) + t.s.lam R k (φ (t.td q)) * t.s.lam R c x = t.s.u * (t.next R φ c q).s.lam R k x := by rw [h]; grind
    rw [this, Int.mul_fdiv_cancel_left _ (by have := g.inv.cr.pos; omega)]
end
section
variable (R m top : Nat) (a : Nat → Nat → Int) (gl : Nat → Int)
def phi : Nat → Vec := fun g k => if g < R then E g k else if k < R then a k top - a k (g - R) else if k = R then 1 else if k = R + 1 then gl top - gl (g - R) else 0
def phiv : Vec := fun k => if k < R then a k top else if k = R then 1 else if k = R + 1 then gl top else 0
/-- where it begins -/
def t0 : Ts := ⟨⟨det (R + 2) E, 1, E, fun k => if k < R then k else R + top⟩, fun i => R + if i < top then i else i + 1⟩
variable {R m top a gl}
theorem phi_y {g : Nat} (h : g < R) : phi R top a gl g = E g := by funext k; unfold phi; rw [if_pos h]
theorem phi_top : phi R top a gl (R + top) = E R := by
  funext k; unfold phi E
  rw [if_neg (by omega)]
  by_cases h1 : k < R
  · rw [if_pos h1, if_neg (by omega)]; simp
  · rw [if_neg h1]
    by_cases h2 : k = R
    · rw [if_pos h2, if_pos h2]
    · rw [if_neg h2, if_neg h2]; split <;> simp
theorem lam0 {k : Nat} (hk : k ≤ R + 1) (x : Vec) : (t0 R top).s.lam R k x = x k := lam_init (by omega) x
theorem gd0 (ht : top ≤ m) (hf : ∀ j, j ≤ m → gl j ≤ gl top) : Gd R m (phi R top a gl) (t0 R top) := by
  have fr0 : ∀ g, (t0 R top).s.free R g ↔ g < R ∨ g = R + top := fun g => by
    constructor
    · intro ⟨k, hk, e⟩
      have e : (if k < R then k else R + top) = g := e
      split at e <;> omega
    · intro h
      rcases h with h | h
      · exact ⟨g, by omega, by show (if g < R then g else R + top) = g; rw [if_pos h]⟩
      · exact ⟨R, by omega, by show (if R < R then R else R + top) = g; rw [if_neg (by omega), h]⟩
  have tdv : ∀ i, (t0 R top).td i = R + if i < top then i else i + 1 := fun _ => rfl
  refine ⟨⟨Cr.init _, fun k hk => ?_, rfl, fun g hg => ?_⟩, fun i hi => ?_, fun i j hi hj e => ?_, fun g hg => ?_⟩
  · show (if k < R then k else R + top) < R + 1 + m ∧ E k = phi R top a gl (if k < R then k else R + top)
    split
    · rename_i h; exact ⟨by omega, (phi_y h).symm⟩
    · have : k = R := by omega
      subst this; exact ⟨by omega, phi_top.symm⟩
  · rw [lam0 (by omega)]
    unfold phi E
    split
    · split <;> omega
    · rw [if_neg (by omega), if_neg (by omega), if_pos rfl]
      have := hf (g - R) (by omega)
      omega
  · rw [fr0, tdv]; split <;> omega
  · rw [tdv, tdv] at e; split at e <;> split at e <;> omega
  · rw [fr0]
    by_cases h1 : g < R
    · exact .inl (.inl h1)
    · by_cases h2 : g = R + top
      · exact .inl (.inr h2)
      · by_cases h3 : g < R + top
        · exact .inr ⟨g - R, by omega, by rw [tdv, if_pos (by omega)]; omega⟩
        · exact .inr ⟨g - R - 1, by omega, by rw [tdv, if_neg (by omega)]; omega⟩
variable {φ : Nat → Vec} {t : Ts}
theorem lam_rel (s : Tb) {k : Nat} (hk : k ≤ R + 1) (j : Nat) : s.lam R k (phi R top a gl (R + j)) = s.lam R k (phiv R top a gl) - gl j * s.lam R k (E (R + 1)) - sumN R fun i => a i j * s.lam R k (phi R top a gl i) := by
  have hk' : k < R + 2 := by omega
  have e1 : s.lam R k (phi R top a gl (R + j)) = s.lam R k fun r => 1 * (fun r => 1 * phiv R top a gl r + -gl j * E (R + 1) r) r + -1 * (fun r => sumN R fun i => a i j * phi R top a gl i r) r := by
    refine lam_congr fun r hr => ?_
    have e2 : (sumN R fun i => a i j * phi R top a gl i r) = if r < R then a r j else 0 := by
      by_cases h : r < R
      · rw [if_pos h, sumN_one h fun i hi hn => by rw [phi_y hi]; simp [E, Ne.symm hn], phi_y h]; simp [E]
      · rw [if_neg h]
        exact sumN_zero fun i hi => by rw [phi_y hi]; simp [E, show r ≠ i by omega]
    show phi R top a gl (R + j) r = 1 * (1 * phiv R top a gl r + -gl j * E (R + 1) r) + -1 * (sumN R fun i => a i j * phi R top a gl i r)
    rw [e2]
    unfold phi phiv E
    rw [if_neg (by omega), Nat.add_sub_cancel_left]
    by_cases h1 : r < R
    · rw [if_pos h1, if_pos h1, if_pos h1, if_neg (by omega)]; omega
    · rw [if_neg h1, if_neg h1, if_neg h1]
      by_cases h2 : r = R
      · rw [if_pos h2, if_pos h2, if_neg (by omega)]; omega
      · rw [if_neg h2, if_neg h2, if_pos (by omega), if_pos (by omega), if_pos (by omega)]; omega
  have e3 : s.lam R k (fun r => sumN R fun i => a i j * phi R top a gl i r) = sumN R fun i => a i j * s.lam R k (phi R top a gl i) := lam_sum hk' R (fun i => a i j) (phi R top a gl)
  have e4 := lam_lin (ε := s.eps) (F := s.F) hk' 1 (-1) (fun r => 1 * phiv R top a gl r + -gl j * E (R + 1) r) (fun r => sumN R fun i => a i j * phi R top a gl i r)
  have e5 := lam_lin (ε := s.eps) (F := s.F) hk' 1 (-gl j) (phiv R top a gl) (E (R + 1))
  have e4' : s.lam R k (fun r => 1 * (fun r => 1 * phiv R top a gl r + -gl j * E (R + 1) r) r + -1 * (fun r => sumN R fun i => a i j * phi R top a gl i r) r) = 1 * s.lam R k (fun r => 1 * phiv R top a gl r + -gl j * E (R + 1) r) + -1 * s.lam R k (fun r => sumN R fun i => a i j * phi R top a gl i r) := e4
  have e5' : s.lam R k (fun r => 1 * phiv R top a gl r + -gl j * E (R + 1) r) = 1 * s.lam R k (phiv R top a gl) + -gl j * s.lam R k (E (R + 1)) := e5
  rw [e1, e4', e5', e3]; grind
theorem TInv.last0 {V : Nat} {s : Tb} (i : TInv R V φ s) {k : Nat} (hk : k ≤ R) : s.lam R k (E (R + 1)) = 0 := by
  rw [← i.last]; exact lam_other (by omega) (by omega) (by omega)
theorem TInv.lastu {V : Nat} {s : Tb} (i : TInv R V φ s) : s.lam R (R + 1) (E (R + 1)) = s.u := by
  rw [← i.last]; exact lam_self i.cr _
/-- what the bound owes to each unknown -/
def coef (R : Nat) (φv : Vec) (s : Tb) (g : Nat) : Int := sumN (R + 1) fun k => if s.fr k = g then s.lam R k φv else 0
theorem coef_sum {V : Nat} {φv : Vec} (s : Tb) (h : ∀ k, k ≤ R → s.fr k < V) (ψ : Nat → Int) : (sumN (R + 1) fun k => s.lam R k φv * ψ (s.fr k)) = sumN V fun g => coef R φv s g * ψ g := by
  have e : (sumN V fun g => coef R φv s g * ψ g) = sumN V fun g => sumN (R + 1) fun k => (if s.fr k = g then s.lam R k φv else 0) * ψ g := by
    refine sumN_congr fun g _ => ?_
    unfold coef
    rw [Int.mul_comm, ← sumN_mul]
    exact sumN_congr fun k _ => Int.mul_comm _ _
  rw [e, sumN_comm]
  refine sumN_congr fun k hk => ?_
  rw [sumN_one (k := s.fr k) (h k (by omega)) fun g _ hn => by rw [if_neg (Ne.symm hn)]; simp, if_pos rfl]
theorem sumN_app (n k : Nat) (f : Nat → Int) : sumN (n + k) f = sumN n f + sumN k fun i => f (n + i) := by
  induction k with
  | zero => simp [sumN]
  | succ k ih => rw [show n + (k + 1) = n + k + 1 by omega, sumN, sumN, ih]; omega
/-- the bound as it stands: a mix, what the rows' means are, and the goal's mean -/
theorem Gd.mix (g : Gd R m (phi R top a gl) t) :
    (sumN (m + 1) fun j => coef R (phiv R top a gl) t.s (R + j)) = t.s.u ∧
    (∀ i, i < R → (sumN (m + 1) fun j => coef R (phiv R top a gl) t.s (R + j) * a i j) = coef R (phiv R top a gl) t.s i) ∧
    (sumN (m + 1) fun j => coef R (phiv R top a gl) t.s (R + j) * gl j) = t.s.lam R (R + 1) (phiv R top a gl) := by
  have cr : ∀ r, r < R + 2 → t.s.u * phiv R top a gl r = (sumN R fun y => coef R (phiv R top a gl) t.s y * phi R top a gl y r) + (sumN (m + 1) fun j => coef R (phiv R top a gl) t.s (R + j) * phi R top a gl (R + j) r) + t.s.lam R (R + 1) (phiv R top a gl) * E (R + 1) r := fun r hr => by
    have h := g.inv.cr.cr (phiv R top a gl) r hr
    rw [sumN, g.inv.last] at h
    rw [h, sumN_congr (g := fun k => t.s.lam R k (phiv R top a gl) * phi R top a gl (t.s.fr k) r) fun k hk => by rw [(g.inv.fr k (by omega)).2]; rfl, coef_sum (V := R + (m + 1)) t.s (fun k hk => by have := (g.inv.fr k hk).1; omega) (fun x => phi R top a gl x r), sumN_app]
    rfl
  have sum1 : (sumN (m + 1) fun j => coef R (phiv R top a gl) t.s (R + j)) = t.s.u := by
    have h := cr R (by omega)
    rw [sumN_zero (n := R) fun y hy => by rw [phi_y hy]; simp [E, show R ≠ y by omega]] at h
    rw [sumN_congr (g := fun j => coef R (phiv R top a gl) t.s (R + j)) fun j _ => by simp [phi, show ¬ (R + j < R) by omega]] at h
    simp [phiv, E] at h
    exact h.symm
  refine ⟨sum1, fun i hi => ?_, ?_⟩
  · have h := cr i (by omega)
    rw [sumN_one (n := R) hi fun y hy hn => by rw [phi_y hy]; simp [E, Ne.symm hn], phi_y hi] at h
    rw [sumN_congr (g := fun j => a i top * coef R (phiv R top a gl) t.s (R + j) + -1 * (coef R (phiv R top a gl) t.s (R + j) * a i j)) fun j _ => by simp [phi, hi, show ¬ (R + j < R) by omega]; grind, sumN_lin, sum1] at h
    simp [phiv, E, hi, show i ≠ R + 1 by omega] at h
    grind
  · have h := cr (R + 1) (by omega)
    rw [sumN_zero (n := R) fun y hy => by rw [phi_y hy]; simp [E, show R + 1 ≠ y by omega]] at h
    rw [sumN_congr (g := fun j => gl top * coef R (phiv R top a gl) t.s (R + j) + -1 * (coef R (phiv R top a gl) t.s (R + j) * gl j)) fun j _ => by simp [phi, show ¬ (R + j < R) by omega]; grind, sumN_lin, sum1] at h
    simp [phiv, E] at h
    grind
/-- the amounts -/
theorem Gd.duals (g : Gd R m (phi R top a gl) t) {j : Nat} (hj : j ≤ m) : gl j * t.s.u + (sumN R fun i => a i j * t.s.lam R (R + 1) (phi R top a gl i)) ≤ t.s.lam R (R + 1) (phiv R top a gl) := by
  have h := g.inv.feas (R + j) (by omega)
  rw [lam_rel t.s (by omega), g.inv.lastu] at h
  omega
theorem Gd.rays (g : Gd R m (phi R top a gl) t) {c j : Nat} (hc : c ≤ R) (hb : t.s.lam R c (phiv R top a gl) < 0) (hn : ∀ i, i < m → 0 ≤ t.s.lam R c (phi R top a gl (t.td i))) (hj : j ≤ m) : (∀ x, x < R + 1 + m → 0 ≤ t.s.lam R c (phi R top a gl x)) ∧ (sumN R fun i => a i j * t.s.lam R c (phi R top a gl i)) < 0 := by
  have h0 : ∀ x, x < R + 1 + m → 0 ≤ t.s.lam R c (phi R top a gl x) := fun x hx => by
    rcases g.cover x hx with ⟨k, hk, rfl⟩ | ⟨i, hi, rfl⟩
    · by_cases e : k = c
      · subst e; rw [g.inv.self hk]; have := g.inv.cr.pos; omega
      · rw [g.inv.free0 (k := c) (by omega) ⟨k, hk, rfl⟩ fun j hj ej z => e ((g.inv.inj hk hj ej.symm).trans z)]; exact Int.le_refl _
    · exact hn i hi
  refine ⟨h0, ?_⟩
  have h := h0 (R + j) (by omega)
  rw [lam_rel t.s (by omega), g.inv.last0 hc] at h
  omega
/-- .. read off the table -/
theorem Gd.coef_fr (g : Gd R m φ t) {φv : Vec} {k : Nat} (hk : k ≤ R) : coef R φv t.s (t.s.fr k) = t.s.lam R k φv := by
  unfold coef
  rw [sumN_one (k := k) (by omega) fun j hj hn => by rw [if_neg fun e => hn (g.inv.inj (by omega) hk e)], if_pos rfl]
theorem coef_no {φv : Vec} {s : Tb} {x : Nat} (h : ¬ s.free R x) : coef R φv s x = 0 := by
  unfold coef
  exact sumN_zero fun k hk => if_neg fun e => h ⟨k, by omega, e⟩
end
end BL
namespace BL
theorem sumN_le {n B : Nat} {f : Nat → Int} (h : ∀ i, i < n → (f i).natAbs ≤ B) : (sumN n f).natAbs ≤ n * B := by
  induction n with
  | zero => simp [sumN]
  | succ n ih =>
    have h1 := ih fun i hi => h i (by omega)
    have h2 := h n (by omega)
    show (sumN n f + f n).natAbs ≤ _
    rw [Nat.succ_mul]
    omega
def dB (M : Nat) : Nat → Nat
  | 0 => 1
  | n + 1 => (n + 1) * (M * dB M n)
theorem det_le {M : Nat} : ∀ (n : Nat) (v : Nat → Vec), (∀ j, j < n → ∀ r, r < n → (v j r).natAbs ≤ M) → (det n v).natAbs ≤ dB M n
  | 0, v, _ => by simp [det, dB]
  | n + 1, v, h => by
    refine sumN_le fun i hi => ?_
    have h1 := det_le n (out v i) fun j hj r hr => by
      unfold out
      split
      · exact h j (by omega) r (by omega)
      · exact h (j + 1) (by omega) r (by omega)
    rw [Int.natAbs_mul, Int.natAbs_mul]
    have h2 := h i hi n (by omega)
    have h3 : (sg i).natAbs = 1 := by rcases sg_cases i with e | e <;> rw [e] <;> rfl
    rw [h3, Nat.one_mul]
    exact Nat.mul_le_mul h2 h1
section
variable {R m M : Nat} {φ : Nat → Vec} {t : Ts}
theorem Gd.le (g : Gd R m φ t) (hM : 1 ≤ M) (hp : ∀ x, x < R + 1 + m → ∀ r, r < R + 2 → (φ x r).natAbs ≤ M) {k : Nat} {x : Vec} (hx : ∀ r, r < R + 2 → (x r).natAbs ≤ M) : (t.s.lam R k x).natAbs ≤ dB M (R + 2) := by
  show (t.s.eps * det (R + 2) (up t.s.F k x)).natAbs ≤ _
  have he : t.s.eps.natAbs = 1 := by rcases g.inv.cr.e with e | e <;> rw [e] <;> rfl
  rw [Int.natAbs_mul, he, Nat.one_mul]
  refine det_le _ _ fun j hj r hr => ?_
  by_cases e : j = k
  · subst e; rw [up_same]; exact hx r hr
  · rw [up_ne e]
    by_cases hjR : j ≤ R
    · rw [(g.inv.fr j hjR).2]; exact hp _ (g.inv.fr j hjR).1 r hr
    · have : j = R + 1 := by omega
      subst this
      rw [g.inv.last]
      unfold E
      split
      · exact hM
      · exact Nat.zero_le _
theorem Gd.ule (g : Gd R m φ t) (hM : 1 ≤ M) (hp : ∀ x, x < R + 1 + m → ∀ r, r < R + 2 → (φ x r).natAbs ≤ M) : t.s.u.natAbs ≤ dB M (R + 2) := by
  rw [← g.inv.self (k := 0) (by omega)]
  exact g.le hM hp (hp _ (g.inv.fr 0 (by omega)).1)
end
end BL
namespace Lw
open PySem L2 DL
def rI (n : Nat) (f : Nat → Int) : List Int := (List.range n).map f
abbrev rD (n : Nat) (f : Nat → Int) : List D := (rI n f).map D.int
theorem rI_len (n : Nat) (f : Nat → Int) : (rI n f).length = n := by unfold rI; rw [List.length_map, List.length_range]
theorem rD_len (n : Nat) (f : Nat → Int) : (rD n f).length = n := by rw [List.length_map, rI_len]
theorem rI_get {n i : Nat} {f : Nat → Int} (h : i < n) : (rI n f)[i]? = some (f i) := by unfold rI; rw [List.getElem?_map, List.getElem?_range h]; rfl
theorem rD_get {n i : Nat} {f : Nat → Int} (h : i < n) : (rD n f)[i]? = some (.int (f i)) := by rw [List.getElem?_map, rI_get h]; rfl
theorem rD_eq (n : Nat) (f : Nat → Int) : rD n f = (List.range n).map fun i => D.int (f i) := by unfold rD rI; rw [List.map_map]; rfl
theorem rI_congr {n : Nat} {f g : Nat → Int} (h : ∀ i, i < n → f i = g i) : rI n f = rI n g := List.map_congr_left fun i hi => h i (List.mem_range.mp hi)
theorem rI_ext {n : Nat} {f : Nat → Int} {l : List Int} (hl : l.length = n) (h : ∀ i, i < n → l[i]? = some (f i)) : l = rI n f := by
  refine List.ext_getElem? fun i => ?_
  by_cases hi : i < n
  · rw [h i hi, rI_get hi]
  · rw [List.getElem?_eq_none (by omega), List.getElem?_eq_none (by rw [rI_len]; omega)]
theorem rI_snoc (n : Nat) (f : Nat → Int) : rI (n + 1) f = rI n f ++ [f n] := by unfold rI; rw [List.range_succ, List.map_append]; rfl
theorem rD_snoc (n : Nat) (f : Nat → Int) : rD (n + 1) f = rD n f ++ [.int (f n)] := by unfold rD; rw [rI_snoc, List.map_append]; rfl
theorem rI_set {n q : Nat} {f : Nat → Int} (v : Int) : (rI n f).set q v = rI n fun i => if i = q then v else f i := by
  refine rI_ext (by rw [List.length_set, rI_len]) fun i hi => ?_
  by_cases e : i = q
  · subst e; rw [List.getElem?_set_self (by rw [rI_len]; exact hi), if_pos rfl]
  · rw [List.getElem?_set_ne (fun z => e z.symm), rI_get hi, if_neg e]
theorem rD_set {n q : Nat} {f : Nat → Int} (v : Int) : (rD n f).set q (.int v) = rD n fun i => if i = q then v else f i := by
  show ((rI n f).map D.int).set q (D.int v) = _
  rw [← List.map_set, rI_set]
theorem atI_nat {l : List D} {i : Nat} {d : D} (h : l[i]? = some d) : atI l (i : Nat) = some d := by
  have hl := (List.getElem?_eq_some_iff.mp h).1
  unfold atI ixN
  rw [if_pos (Int.natCast_nonneg i), if_pos (by omega)]
  simpa using h
theorem atI_last {l : List D} {n : Nat} {d : D} (hl : l.length = n + 1) (h : l[n]? = some d) : atI l (-1) = some d := by
  unfold atI ixN
  rw [if_neg (by decide), if_pos (by omega)]
  have : (-1 + (l.length : Int)).toNat = n := by omega
  simp [this, h]
theorem ixN_nat {n i : Nat} (h : i < n) : ixN n (i : Nat) = some i := by
  unfold ixN
  rw [if_pos (Int.natCast_nonneg i), if_pos (by omega)]
  simp
theorem rD_at {n i : Nat} {f : Nat → Int} (h : i < n) : atI (rD n f) (i : Nat) = some (.int (f i)) := atI_nat (rD_get h)
theorem rD_last {n : Nat} {f : Nat → Int} : atI (rD (n + 1) f) (-1) = some (.int (f n)) := atI_last (rD_len _ _) (rD_get (Nat.lt_succ_self n))
theorem sq_at {b : Bool} {l : List D} {i : Int} {d : D} (h : atI l i = some d) : oIdx (.d (sq b l)) (.d (.int i)) = ret (.d d) := by
  cases b
  · exact oIdx_l h
  · exact oIdx_t h
theorem bnd_val {α β : Type} {m : M α} {k : α → M β} {a : α} {S S' : Store} (h : m S = some (.ok a, S')) : bnd m k S = k a S' := bnd_at h k
/-- rows of numbers, as lists or tuples -/
def rowsD (b : Bool) (R n : Nat) (a : Nat → Nat → Int) : List D := (List.range R).map fun i => sq b (rD n (a i))
theorem oAdd_ll {l m : List D} (h : l.length + m.length ≤ 16777216) : oAdd (.d (.lst l)) (.d (.lst m)) = ret (.d (.lst (l ++ m))) := by
  funext S
  simp only [oAdd, items]
  rw [if_pos (by simpa [lim] using h)]
  rfl
section
variable {b : Bool} {R n top j : Nat} {a : Nat → Nat → Int} {gl : Nat → Int}
/-- a number of each row -/
theorem col_lc {env : DL.Env} {f : DL.Env → M (List D × KK)} {fe : DL.Env → M SV} {i : Nat} (h : Nat → Int) (hf : f env = ret (rowsD b R n a, none)) (hR : R ≤ 1000)
    (hd : ∀ q, q < R → ∃ env1, setT (.one i) (sq b (rD n (a q))) (wipeE env [i]) = some env1 ∧ fe env1 = ret (.d (.int (h q)))) : eLc [i] (.one i) f tYesD fe env = ret (.d (.lst (rD R h))) := by
  rw [lcA_all (fun q => sq b (rD n (a q))) (fun q => .int (h q)) hf (fun q hq => hd q (List.mem_range.mp hq)) (by rw [List.length_range]; omega), rD_eq]
theorem v_first (ht : top < n) (hj : j < n) (hR : R ≤ 1000) : m_first_line [.d (sq b (rowsD b R n a)), .d (sq b (rD n gl)), .d (.int (top : Nat)), .d (.int (j : Nat))] = ret (.d (.lst (rD (R + 2) (BL.phi R top a gl (R + j))))) := by
  refine fn_R rfl ?_
  let E : DL.Env := [some (.d (sq b (rowsD b R n a))), some (.d (sq b (rD n gl))), some (.d (.int (top : Nat))), some (.d (.int (j : Nat))), none]
  show (eOp oAdd (eLc [4] (.one 4) (iOf (eVar 0)) tYesD (eOp oSub (eOp oIdx (eVar 4) (eVar 2)) (eOp oIdx (eVar 4) (eVar 3)))) (eArg mkLst (aCons (eC (.int 1)) (aCons (eOp oSub (eOp oIdx (eVar 1) (eVar 2)) (eOp oIdx (eVar 1) (eVar 3))) aNil)))) E = _
  have lc := col_lc (env := E) (i := 4) (f := iOf (eVar 0)) (fe := eOp oSub (eOp oIdx (eVar 4) (eVar 2)) (eOp oIdx (eVar 4) (eVar 3))) (b := b) (R := R) (n := n) (a := a) (fun q => a q top - a q j) (it_sq rfl) hR fun q hq => ⟨_, rfl, by
    simp only [ev_Op, eVar, wipeE, E, List.set_cons_succ, List.set_cons_zero, List.getElem?_cons_succ, List.getElem?_cons_zero, bnd_ret', sq_at (rD_at ht), sq_at (rD_at hj)]
    rfl⟩
  rw [ev_Op, lc, bnd_ret']
  simp only [ev_Op, ev_Arg, ev_Cons, ev_Nil, ev_C, eVar, E, List.getElem?_cons_succ, List.getElem?_cons_zero, bnd_ret', sq_at (rD_at ht), sq_at (rD_at hj)]
  rw [show oSub (.d (.int (gl top))) (.d (.int (gl j))) = ret (.d (.int (gl top - gl j))) from rfl, bnd_ret', bnd_ret', bnd_ret', mkLst_2, bnd_ret', oAdd_ll (by rw [rD_len]; simp; omega)]
  congr 3
  rw [rD_snoc, rD_snoc, List.append_assoc]
  have e1 : rD R (BL.phi R top a gl (R + j)) = rD R fun q => a q top - a q j := by
    unfold rD
    rw [rI_congr fun i hi => ?_]
    unfold BL.phi
    rw [if_neg (by omega), if_pos hi, Nat.add_sub_cancel_left]
  rw [e1]
  have e2 : BL.phi R top a gl (R + j) R = 1 := by unfold BL.phi; rw [if_neg (by omega), if_neg (by omega), if_pos rfl]
  have e3 : BL.phi R top a gl (R + j) (R + 1) = gl top - gl j := by unfold BL.phi; rw [if_neg (by omega), if_neg (by omega), if_neg (by omega), if_pos rfl, Nat.add_sub_cancel_left]
  rw [e2, e3]
  rfl
end
end Lw
namespace Lw
open PySem L2 DL
theorem eqD_i (a b : Int) : eqD (.int a) (.int b) = decide (a = b) := by
  simp only [eqD, toPy, PyData.eqv]
  by_cases h : a = b <;> simp [h]
theorem first_some : ∀ (l : List Int) (i : Nat) (v : Int), v ∈ l → ∃ m, firstEq (.int v) (l.map D.int) i = some (i + m) ∧ l[m]? = some v
  | [], i, v, h => by cases h
  | x :: l, i, v, h => by
    rw [List.map_cons]
    unfold firstEq
    rw [eqD_i]
    by_cases e : x = v
    · exact ⟨0, by rw [if_pos (by simpa using e)]; rfl, by rw [e]; rfl⟩
    · rw [if_neg (by simpa using e)]
      obtain ⟨m, h1, h2⟩ := first_some l (i + 1) v ((List.mem_cons.mp h).resolve_left fun z => e z.symm)
      exact ⟨m + 1, by rw [h1]; congr 1; omega, by simpa using h2⟩
theorem ix_at {fo fe : DL.Env → M SV} {env : DL.Env} {S : Store} {x : SV} {l : List Int} {v : Int} (h1 : fo env S = some (.ok x, S)) (hd : deref S x = some (.lst (l.map D.int))) (h2 : fe env S = some (.ok (.d (.int v)), S)) (hv : v ∈ l) :
    ∃ m : Nat, eIndex fo fe env S = some (.ok (.d (.int (m : Nat))), S) ∧ l[m]? = some v := by
  obtain ⟨m, e1, e2⟩ := first_some l 0 v hv
  refine ⟨m, ?_, e2⟩
  have hp : DL.plain (.lst (l.map D.int)) = true := plains_ints l
  have hi : isL x S = some (.ok x, S) := by
    unfold isL
    rw [hd]
    dsimp only
    rw [if_pos hp]
  unfold eIndex
  rw [bnd_val (show bnd (fo env) isL S = some (.ok x, S) by rw [bnd_val h1]; exact hi), bnd_val h2]
  unfold oIndex
  rw [hd]
  dsimp only [deref]
  rw [if_pos ((cmp_ints l).ok (Cmp.int v) (by decide) (by decide)), e1, Nat.zero_add]
theorem maxL_mem : ∀ {l : List Int}, l ≠ [] → maxL l ∈ l ∧ ∀ y ∈ l, y ≤ maxL l
  | [], h => absurd rfl h
  | x :: xs, h0 => by
    clear h0
    have : ∃ m ∈ x :: xs, ∀ y ∈ x :: xs, y ≤ m := by
      induction xs generalizing x with
      | nil => exact ⟨x, by simp, by simp⟩
      | cons z zs ih =>
        obtain ⟨m, h1, h2⟩ := ih z
        by_cases c : m ≤ x
        · exact ⟨x, by simp, fun y hy => by rcases List.mem_cons.mp hy with e | e; exact Int.le_of_eq e; exact Int.le_trans (h2 y e) c⟩
        · exact ⟨m, List.mem_cons_of_mem _ h1, fun y hy => by rcases List.mem_cons.mp hy with e | e; rw [e]; omega; exact h2 y e⟩
    obtain ⟨m, h1, h2⟩ := this
    rw [← maxL_is h1 h2]
    exact ⟨h1, h2⟩
theorem minL_mem : ∀ {l : List Int}, l ≠ [] → minL l ∈ l ∧ ∀ y ∈ l, minL l ≤ y
  | [], h => absurd rfl h
  | x :: xs, h0 => by
    clear h0
    have : ∃ m ∈ x :: xs, ∀ y ∈ x :: xs, m ≤ y := by
      induction xs generalizing x with
      | nil => exact ⟨x, by simp, by simp⟩
      | cons z zs ih =>
        obtain ⟨m, h1, h2⟩ := ih z
        by_cases c : x ≤ m
        · exact ⟨x, by simp, fun y hy => by rcases List.mem_cons.mp hy with e | e; exact Int.le_of_eq e.symm; exact Int.le_trans c (h2 y e)⟩
        · exact ⟨m, List.mem_cons_of_mem _ h1, fun y hy => by rcases List.mem_cons.mp hy with e | e; rw [e]; omega; exact h2 y e⟩
    obtain ⟨m, h1, h2⟩ := this
    rw [← minL_is h1 h2]
    exact ⟨h1, h2⟩
theorem intsNe_of {l : List Int} (h : l ≠ []) : intsNe (l.map D.int) = some l := by
  unfold intsNe
  rw [intsD_map]
  cases l with
  | nil => exact absurd rfl h
  | cons x xs => rfl
theorem bMax_of {l : List Int} (h : l ≠ []) : bMaxL [.d (.lst (l.map D.int))] = ret (.d (.int (maxL l))) := by
  funext S
  simp [bMaxL, bFold, items, intsNe_of h, DL.ret]
theorem bMin_of {l : List Int} (h : l ≠ []) : bMinL [.d (.lst (l.map D.int))] = ret (.d (.int (minL l))) := by
  funext S
  simp [bMinL, bFold, items, intsNe_of h, DL.ret]
theorem rI_ne {n : Nat} {f : Nat → Int} (h : 0 < n) : rI n f ≠ [] := fun e => by have := rI_len n f; rw [e] at this; simp at this; omega
theorem rI_mem {n : Nat} {f : Nat → Int} {v : Int} : v ∈ rI n f ↔ ∃ i, i < n ∧ f i = v := by
  unfold rI
  simp [List.mem_map, List.mem_range]
/-- the first place of the greatest -/
theorem top_at {n : Nat} {gl : Nat → Int} (hn : 0 < n) : ∃ top, top < n ∧ (∀ j, j < n → gl j ≤ gl top) ∧ ∀ (env : DL.Env) (S : Store), env[2]? = some (some (.d (.lst (rD n gl)))) → eIndex (eVar 2) (eArg bMaxL (aCons (eVar 2) aNil)) env S = some (.ok (.d (.int (top : Nat))), S) := by
  obtain ⟨h1, h2⟩ := maxL_mem (rI_ne (f := gl) hn)
  have key : ∀ (env : DL.Env) (S : Store), env[2]? = some (some (.d (.lst (rD n gl)))) → ∃ m : Nat, eIndex (eVar 2) (eArg bMaxL (aCons (eVar 2) aNil)) env S = some (.ok (.d (.int (m : Nat))), S) ∧ (rI n gl)[m]? = some (maxL (rI n gl)) := fun env S h =>
    ix_at (x := .d (.lst (rD n gl))) (by rw [ev_Var h]; rfl) rfl (by
      simp only [ev_Arg, ev_Cons, ev_Nil, ev_Var h, bnd_ret', bMax_of (rI_ne (f := gl) hn)]
      rfl) h1
  obtain ⟨m, e1, e2⟩ := first_some (rI n gl) 0 (maxL (rI n gl)) h1
  have hm : m < n := by have := (List.getElem?_eq_some_iff.mp e2).1; rwa [rI_len] at this
  rw [rI_get hm] at e2
  refine ⟨m, hm, fun j hj => ?_, fun env S h => ?_⟩
  · rw [Option.some.inj e2]; exact h2 _ (rI_mem.mpr ⟨j, hj, rfl⟩)
  · have hp : DL.plain (.lst (rD n gl)) = true := plains_ints _
    have hi : isL (.d (.lst (rD n gl))) S = some (.ok (.d (.lst (rD n gl))), S) := by
      unfold isL
      dsimp only [deref]
      rw [if_pos hp]
    have ev : eVar 2 env S = some (.ok (.d (.lst (rD n gl))), S) := by rw [ev_Var h]; rfl
    have em : (eArg bMaxL (aCons (eVar 2) aNil)) env S = some (.ok (.d (.int (maxL (rI n gl)))), S) := by
      simp only [ev_Arg, ev_Cons, ev_Nil, ev_Var h, bnd_ret', bMax_of (rI_ne (f := gl) hn)]
      rfl
    unfold eIndex
    rw [bnd_val (show bnd (eVar 2 env) isL S = some (.ok (.d (.lst (rD n gl))), S) by rw [bnd_val ev]; exact hi), bnd_val em]
    unfold oIndex
    dsimp only [deref]
    rw [if_pos ((cmp_ints (rI n gl)).ok (Cmp.int _) (by decide) (by decide)), e1, Nat.zero_add]
abbrev tf : List Str := ["unit", "free", "tied", "bound", "lines"]
def tabO (u : Int) (k : Nat) (bd : List D) (X : D) : D := .ins "Table" tf [.int u, .own (k + 1), .own (k + 2), .lst bd, X]
section
variable {S0 J : Store} {o f d o' : List D}
theorem st_0 : (S0 ++ o :: f :: d :: J)[S0.length]? = some o := by rw [List.getElem?_append_right (Nat.le_refl _)]; simp
theorem st_1 : (S0 ++ o :: f :: d :: J)[S0.length + 1]? = some f := by rw [List.getElem?_append_right (by omega)]; simp
theorem st_2 : (S0 ++ o :: f :: d :: J)[S0.length + 2]? = some d := by rw [List.getElem?_append_right (by omega)]; simp
theorem st_3 {j : Nat} : (S0 ++ o :: f :: d :: J)[S0.length + 3 + j]? = J[j]? := by
  rw [List.getElem?_append_right (by omega), show S0.length + 3 + j - S0.length = j + 3 by omega]; rfl
theorem set_0 : (S0 ++ o :: f :: d :: J).set S0.length o' = S0 ++ o' :: f :: d :: J := by rw [List.set_append_right _ _ (Nat.le_refl _)]; simp
theorem set_1 : (S0 ++ o :: f :: d :: J).set (S0.length + 1) o' = S0 ++ o :: o' :: d :: J := by rw [List.set_append_right _ _ (by omega)]; simp
theorem set_2 : (S0 ++ o :: f :: d :: J).set (S0.length + 2) o' = S0 ++ o :: f :: o' :: J := by rw [List.set_append_right _ _ (by omega)]; simp
end
def outD : D → SV
  | .own j => .ptr j
  | d => .d d
theorem fld_at {env : DL.Env} {S : Store} {i k : Nat} {fld c : Str} {fs : List Str} {l : List D} {d : D} (he : env[i]? = some (some (.obj k))) (hS : S[k]? = some [.ins c fs l]) (hok : okF c fld = true) (hl : lookD fld fs l = some d) : (eUn (oFld okF fld) (eVar i)) env S = some (.ok (outD d), S) := by
  rw [ev_Un, ev_Var he, bnd_ret']
  unfold oFld insOf
  dsimp only
  rw [hS]
  dsimp only
  rw [if_pos hok, hl]
  cases d <;> rfl
section
variable {env : DL.Env} {S : Store} {i k : Nat} {u : Int} {bd : List D} {X : D}
theorem tf_unit (he : env[i]? = some (some (.obj k))) (hS : S[k]? = some [tabO u k bd X]) : (eUn (oFld okF "unit") (eVar i)) env S = some (.ok (.d (.int u)), S) := fld_at he hS (by decide +kernel) (d := .int u) rfl
theorem f_free (he : env[i]? = some (some (.obj k))) (hS : S[k]? = some [tabO u k bd X]) : (eUn (oFld okF "free") (eVar i)) env S = some (.ok (.ptr (k + 1)), S) := fld_at he hS (by decide +kernel) (d := .own (k + 1)) rfl
theorem f_tied (he : env[i]? = some (some (.obj k))) (hS : S[k]? = some [tabO u k bd X]) : (eUn (oFld okF "tied") (eVar i)) env S = some (.ok (.ptr (k + 2)), S) := fld_at he hS (by decide +kernel) (d := .own (k + 2)) rfl
theorem f_bound (he : env[i]? = some (some (.obj k))) (hS : S[k]? = some [tabO u k bd X]) : (eUn (oFld okF "bound") (eVar i)) env S = some (.ok (.d (.lst bd)), S) := fld_at he hS (by decide +kernel) (d := .lst bd) rfl
theorem f_lines (he : env[i]? = some (some (.obj k))) (hS : S[k]? = some [tabO u k bd X]) : (eUn (oFld okF "lines") (eVar i)) env S = some (.ok (outD X), S) := fld_at he hS (by decide +kernel) rfl
end
end Lw
namespace Lw
open PySem L2 DL
def frD (R : Nat) (t : BL.Ts) : List D := rD (R + 1) fun k => (t.s.fr k : Nat)
def tdD (m : Nat) (t : BL.Ts) : List D := rD m fun i => (t.td i : Nat)
def bdD (R : Nat) (φv : BL.Vec) (t : BL.Ts) : List D := rD (R + 2) fun k => t.s.lam R k φv
def lnD (R : Nat) (φ : Nat → BL.Vec) (t : BL.Ts) (i : Nat) : List D := rD (R + 2) fun k => t.s.lam R k (φ (t.td i))
def lnsD (R m : Nat) (φ : Nat → BL.Vec) (t : BL.Ts) : List D := (List.range m).map fun i => .lst (lnD R φ t i)
theorem putD_nil (f : Str) (x : D) : putD f x [] [] = ([f], [x]) := rfl
theorem putD_ne {f g : Str} {x y : D} {fs : List Str} {l : List D} (h : ¬ g = f) : putD f x (g :: fs) (y :: l) = (g :: (putD f x fs l).1, y :: (putD f x fs l).2) := by
  conv => lhs; unfold putD
  rw [if_neg h]
theorem putD_eq {f : Str} {x y : D} {fs : List Str} {l : List D} : putD f x (f :: fs) (y :: l) = (f :: fs, x :: l) := by
  conv => lhs; unfold putD
  rw [if_pos rfl]
theorem pd_1 (x y : D) : putD "free" x ["unit"] [y] = ((["unit", "free"] : List Str), [y, x]) := by rw [putD_ne (by decide +kernel), putD_nil]
theorem pd_2 (x y z : D) : putD "tied" x ["unit", "free"] [y, z] = ((["unit", "free", "tied"] : List Str), [y, z, x]) := by rw [putD_ne (by decide +kernel), putD_ne (by decide +kernel), putD_nil]
theorem pd_3 (x y z w : D) : putD "bound" x ["unit", "free", "tied"] [y, z, w] = ((["unit", "free", "tied", "bound"] : List Str), [y, z, w, x]) := by rw [putD_ne (by decide +kernel), putD_ne (by decide +kernel), putD_ne (by decide +kernel), putD_nil]
theorem pd_4 (x y z w v : D) : putD "lines" x ["unit", "free", "tied", "bound"] [y, z, w, v] = (tf, [y, z, w, v, x]) := by rw [putD_ne (by decide +kernel), putD_ne (by decide +kernel), putD_ne (by decide +kernel), putD_ne (by decide +kernel), putD_nil]
theorem pu_bound (x y z w v v' : D) : putD "bound" x tf [y, z, w, v, v'] = (tf, [y, z, w, x, v']) := by rw [putD_ne (by decide +kernel), putD_ne (by decide +kernel), putD_ne (by decide +kernel), putD_eq]
theorem pu_lines (x y z w v v' : D) : putD "lines" x tf [y, z, w, v, v'] = (tf, [y, z, w, v, x]) := by rw [putD_ne (by decide +kernel), putD_ne (by decide +kernel), putD_ne (by decide +kernel), putD_ne (by decide +kernel), putD_eq]
theorem pu_unit (x y z w v v' : D) : putD "unit" x tf [y, z, w, v, v'] = (tf, [x, z, w, v, v']) := by rw [putD_eq]
theorem ok_tf : ∀ f ∈ tf, okF "Table" f = true := by decide +kernel
theorem fnU_nx {np n : Nat} {body : SM} {as : List SV} {env1 : DL.Env} {S S1 : Store} (hl : as.length = np) (h : body (as.map some ++ List.replicate (n - as.length) none) S = some (.nx env1, S1)) : fnSemU np n body as S = some (.ok (.grow (.d .non)), S1) := by
  unfold fnSemU; rw [if_pos hl, h]
theorem walk_range {n : Nat} (h : n ≤ 1000000) : walkR1 [.d (.int (n : Nat))] = ret ((List.range n).map fun i => D.int (i : Nat), none) := by
  unfold walkR1
  dsimp only
  rw [if_pos (by unfold rngOk; rw [decide_eq_true (by omega), decide_eq_true (by omega)]; rfl), Int.toNat_natCast, range_map]
theorem filter_ne (m top : Nat) (h : top ≤ m) : (List.range (m + 1)).filter (fun i => decide (i ≠ top)) = (List.range m).map fun i => if i < top then i else i + 1 := by
  induction m with
  | zero =>
    have : top = 0 := by omega
    subst this
    decide
  | succ m ih =>
    rw [List.range_succ, List.filter_append]
    by_cases e : top = m + 1
    · subst e
      rw [show (List.filter (fun i => decide (i ≠ m + 1)) [m + 1]) = [] by simp, List.append_nil, List.filter_eq_self.mpr (fun a ha => by have := List.mem_range.mp ha; simp; omega)]
      conv => lhs; rw [← List.map_id (List.range (m + 1))]
      exact List.map_congr_left fun i hi => by rw [if_pos (by have := List.mem_range.mp hi; omega)]; rfl
    · rw [ih (by omega), show (List.filter (fun i => decide (i ≠ top)) [m + 1]) = [m + 1] by simp; omega, List.range_succ, List.map_append]
      simp only [List.map_cons, List.map_nil, if_neg (show ¬ m < top by omega)]
theorem ne_nat (i j : Nat) : oNe (.d (.int (i : Nat))) (.d (.int (j : Nat))) = ret (.d (.bl (decide (i ≠ j)))) := by
  rw [oNe_i]
  congr 3
  by_cases h : i = j <;> simp [h]; omega
section
variable {b : Bool} {R m top : Nat} {a : Nat → Nat → Int} {gl : Nat → Int} {S0 S : Store}
def skp (top i : Nat) : Nat := if i < top then i else i + 1
abbrev iBel (m top : Nat) : D := .lst ((List.range m).map fun i => D.int (skp top i : Nat))
abbrev iEnv (b : Bool) (R m top : Nat) (a : Nat → Nat → Int) (gl : Nat → Int) (k : Nat) (x : Option SV) (y z : Option SV) : DL.Env := [some (.obj k), some (.d (sq b (rowsD b R (m + 1) a))), some (.d (sq b (rD (m + 1) gl))), some (.d (.int (top : Nat))), x, y, z]
theorem lenR_of (b : Bool) (R n : Nat) (a : Nat → Nat → Int) : bLen [.d (sq b (rowsD b R n a))] = ret (.d (.int (R : Nat))) := by
  rw [len_sq]; unfold rowsD; rw [List.length_map, List.length_range]
theorem lenG_of (b : Bool) (n : Nat) (gl : Nat → Int) : bLen [.d (sq b (rD n gl))] = ret (.d (.int (n : Nat))) := by rw [len_sq, rD_len]
theorem i_below (hm : m ≤ 1000) (ht : top ≤ m) (k : Nat) : (eLc [5] (.one 5) (eArg walkR1 (aCons (eArg bLen (aCons (eVar 2) aNil)) aNil)) (eTst (eOp oNe (eVar 5) (eVar 3))) (eVar 5)) (iEnv b R m top a gl k none none none) = ret (.d (iBel m top)) := by
  have w : (eArg walkR1 (aCons (eArg bLen (aCons (eVar 2) aNil)) aNil)) (iEnv b R m top a gl k none none none) = ret ((List.range (m + 1)).map fun i => D.int (i : Nat), none) := by
    refine ev_ArgR (as := [.d (.int ((m + 1 : Nat) : Int))]) ?_ (walk_range (by omega))
    rw [ev_Cons, ev_ArgR (as := [.d (sq b (rD (m + 1) gl))]) rfl (lenG_of b (m + 1) gl), bnd_ret']
    rfl
  rw [lcA_ret (fun i : Nat => D.int (i : Nat)) (fun i => decide (i ≠ top)) (fun i => .int (i : Nat)) w (fun i _ => ⟨iEnv b R m top a gl k none (some (.d (.int (i : Nat)))) none, rfl, by
      rw [ev_Tst, ev_Op]
      show bnd (oNe (.d (.int (i : Nat))) (.d (.int (top : Nat)))) asB = _
      rw [ne_nat]
      rfl, fun _ => rfl⟩) (by rw [List.length_range]; omega), filter_ne m top ht, List.map_map]
  rfl
theorem i_free (hR : R ≤ 1000) (o : List D) (x : Option SV) : (eOp oAddOwn (eUn oListRg (eArg bLen (aCons (eVar 1) aNil))) (eArg mkLst (aCons (eOp oAdd (eArg bLen (aCons (eVar 1) aNil)) (eVar 3)) aNil))) (iEnv b R m top a gl S0.length x none none) (S0 ++ [o]) = some (.ok (.ptr (S0.length + 1)), S0 ++ [o, frD R (BL.t0 R top)]) := by
  have l1 : (eArg bLen (aCons (eVar 1) aNil)) (iEnv b R m top a gl S0.length x none none) = ret (.d (.int (R : Nat))) := ev_ArgR (as := [.d (sq b (rowsD b R (m + 1) a))]) rfl (lenR_of b R (m + 1) a)
  have e1 : (eUn oListRg (eArg bLen (aCons (eVar 1) aNil))) (iEnv b R m top a gl S0.length x none none) = ret (.d (.lst ((List.range R).map fun i => D.int (i : Nat)))) := by
    rw [ev_Un, l1, bnd_ret']
    unfold oListRg
    dsimp only
    rw [if_pos ⟨Int.natCast_nonneg R, by omega⟩, Int.toNat_natCast, range_map]
  have e2 : (eArg mkLst (aCons (eOp oAdd (eArg bLen (aCons (eVar 1) aNil)) (eVar 3)) aNil)) (iEnv b R m top a gl S0.length x none none) = ret (.d (.lst [.int ((R : Int) + top)])) := by
    rw [ev_Arg, ev_Cons, ev_Op, l1]
    rfl
  rw [ev_Op, e1, bnd_ret', e2, bnd_ret']
  unfold oAddOwn
  dsimp only [items]
  rw [if_pos (by rw [List.length_map, List.length_range]; simp [lim]; omega)]
  have hf : (List.range R).map (fun i => D.int (i : Nat)) ++ [.int ((R : Int) + top)] = frD R (BL.t0 R top) := by
    unfold frD
    rw [rD_snoc, rD_eq]
    have h1 : (BL.t0 R top).s.fr R = R + top := if_neg (Nat.lt_irrefl R)
    rw [h1, show (((R + top : Nat) : Int)) = (R : Int) + top by omega]
    congr 1
    refine List.map_congr_left fun i hi => ?_
    have h2 : (BL.t0 R top).s.fr i = i := if_pos (List.mem_range.mp hi)
    rw [h2]
  rw [hf]
  simp
theorem i_tied (hm : m ≤ 1000) (k : Nat) : (eLcOwn [5] (.one 5) (iOf (eVar 4)) tYesD (eOp oAdd (eArg bLen (aCons (eVar 1) aNil)) (eVar 5))) (iEnv b R m top a gl k (some (.d (iBel m top))) none none) S = some (.ok (.ptr S.length), S ++ [tdD m (BL.t0 R top)]) := by
  rw [lcA_allO (fun i : Nat => D.int (skp top i : Nat)) (fun i => .int ((R : Int) + (skp top i : Nat))) rfl (fun i _ => ⟨iEnv b R m top a gl k (some (.d (iBel m top))) (some (.d (.int (skp top i : Nat)))) none, rfl, by
    rw [ev_Op, ev_ArgR (as := [.d (sq b (rowsD b R (m + 1) a))]) rfl (lenR_of b R (m + 1) a)]
    rfl⟩) (by rw [List.length_range]; omega)]
  have hd : (List.range m).map (fun i => D.int ((R : Int) + (skp top i : Nat))) = tdD m (BL.t0 R top) := by
    unfold tdD
    rw [rD_eq]
    refine List.map_congr_left fun i _ => ?_
    rw [show (BL.t0 R top).td i = R + skp top i from rfl, show (((R + skp top i : Nat) : Int)) = (R : Int) + (skp top i : Nat) by omega]
  rw [hd]
theorem i_bound (hR : R ≤ 1000) (ht : top ≤ m) (k : Nat) (x : Option SV) : (eOp oAdd (eLc [6] (.one 6) (iOf (eVar 1)) tYesD (eOp oIdx (eVar 6) (eVar 3))) (eArg mkLst (aCons (eC (.int 1)) (aCons (eOp oIdx (eVar 2) (eVar 3)) aNil)))) (iEnv b R m top a gl k x none none) = ret (.d (.lst (bdD R (BL.phiv R top a gl) (BL.t0 R top)))) := by
  have lc := col_lc (env := iEnv b R m top a gl k x none none) (i := 6) (f := iOf (eVar 1)) (fe := eOp oIdx (eVar 6) (eVar 3)) (b := b) (R := R) (n := m + 1) (a := a) (fun q => a q top) (it_sq rfl) hR fun q hq => ⟨iEnv b R m top a gl k x none (some (.d (sq b (rD (m + 1) (a q))))), rfl, by
    rw [ev_Op]
    exact sq_at (rD_at (show top < m + 1 by omega))⟩
  rw [ev_Op, lc, bnd_ret', ev_Arg, ev_Cons, ev_C, bnd_ret', ev_Cons, ev_Op]
  rw [show bnd (bnd (eVar 2 (iEnv b R m top a gl k x none none)) fun x_1 => bnd (eVar 3 (iEnv b R m top a gl k x none none)) fun y => oIdx x_1 y) = bnd (oIdx (.d (sq b (rD (m + 1) gl))) (.d (.int (top : Nat)))) (β := List SV) from rfl]
  rw [sq_at (rD_at (show top < m + 1 by omega)), bnd_ret', ev_Nil, bnd_ret', bnd_ret', bnd_ret', mkLst_2, bnd_ret', oAdd_ll (by rw [rD_len]; simp; omega)]
  congr 3
  unfold bdD
  rw [rD_snoc, rD_snoc, List.append_assoc]
  have l0 : ∀ q, q ≤ R + 1 → (BL.t0 R top).s.lam R q (BL.phiv R top a gl) = BL.phiv R top a gl q := fun q hq => BL.lam0 hq _
  have e1 : (rD R fun q => (BL.t0 R top).s.lam R q (BL.phiv R top a gl)) = rD R fun q => a q top := by
    unfold rD
    rw [rI_congr fun i hi => ?_]
    rw [l0 i (by omega)]
    exact if_pos hi
  rw [e1, l0 R (by omega), l0 (R + 1) (by omega)]
  have e2 : BL.phiv R top a gl R = 1 := by unfold BL.phiv; rw [if_neg (by omega), if_pos rfl]
  have e3 : BL.phiv R top a gl (R + 1) = gl top := by unfold BL.phiv; rw [if_neg (by omega), if_neg (by omega), if_pos rfl]
  rw [e2, e3]
  rfl
theorem i_lines (hR : R ≤ 1000) (hm : m ≤ 1000) (ht : top ≤ m) (k : Nat) : (eLc [5] (.one 5) (iOf (eVar 4)) tYesD (eCall asPure m_first_line [] (aCons (eVar 1) (aCons (eVar 2) (aCons (eVar 3) (aCons (eVar 5) aNil)))))) (iEnv b R m top a gl k (some (.d (iBel m top))) none none) = ret (.d (.lst (lnsD R m (BL.phi R top a gl) (BL.t0 R top)))) := by
  rw [lcA_all (fun i : Nat => D.int (skp top i : Nat)) (fun i => .lst (rD (R + 2) (BL.phi R top a gl (R + skp top i)))) rfl (fun i hi => ⟨iEnv b R m top a gl k (some (.d (iBel m top))) (some (.d (.int (skp top i : Nat)))) none, rfl, by
    refine ev_CallR (as := [.d (sq b (rowsD b R (m + 1) a)), .d (sq b (rD (m + 1) gl)), .d (.int (top : Nat)), .d (.int (skp top i : Nat))]) rfl ?_
    exact call_pure rfl (v_first (by omega) (by have := List.mem_range.mp hi; unfold skp; split <;> omega) hR)⟩) (by rw [List.length_range]; omega)]
  congr 3
  unfold lnsD
  refine List.map_congr_left fun i _ => ?_
  unfold lnD rD
  rw [show (BL.t0 R top).td i = R + skp top i from rfl, rI_congr fun q hq => (BL.lam0 (show q ≤ R + 1 by omega) _).symm]
theorem init_at (hR : R ≤ 1000) (hm : m ≤ 1000) (ht : top ≤ m) (hix : ∀ (env : DL.Env) (S : Store), env[2]? = some (some (.d (sq b (rD (m + 1) gl)))) → eIndex (eVar 2) (eArg bMaxL (aCons (eVar 2) aNil)) env S = some (.ok (.d (.int (top : Nat))), S)) :
    m_Table___init__ [.obj S0.length, .d (sq b (rowsD b R (m + 1) a)), .d (sq b (rD (m + 1) gl))] (S0 ++ [[.ins "Table" [] []]]) =
      some (.ok (.grow (.d .non)), S0 ++ [tabO 1 S0.length (bdD R (BL.phiv R top a gl) (BL.t0 R top)) (.lst (lnsD R m (BL.phi R top a gl) (BL.t0 R top)))] :: frD R (BL.t0 R top) :: tdD m (BL.t0 R top) :: []) := by
  refine fnU_nx (env1 := iEnv b R m top a gl S0.length (some (.d (iBel m top))) none none) rfl ?_
  show y_Table___init__ [some (.obj S0.length), some (.d (sq b (rowsD b R (m + 1) a))), some (.d (sq b (rD (m + 1) gl))), none, none, none, none] _ = _
  unfold y_Table___init__
  generalize hFr : frD R (BL.t0 R top) = Fr
  generalize hTd : tdD m (BL.t0 R top) = Td
  generalize hBd : bdD R (BL.phiv R top a gl) (BL.t0 R top) = Bd
  generalize hLn : lnsD R m (BL.phi R top a gl) (BL.t0 R top) = Ln
  rw [st_SeqN (env' := iEnv b R m top a gl S0.length none none none) (st_Set (hix [some (.obj S0.length), some (.d (sq b (rowsD b R (m + 1) a))), some (.d (sq b (rD (m + 1) gl))), none, none, none, none] _ rfl))]
  rw [st_SeqN (env' := iEnv b R m top a gl S0.length (some (.d (iBel m top))) none none) (st_Set (S' := S0 ++ [[.ins "Table" [] []]]) (at_ret (i_below hm ht S0.length) _))]
  have g0 : ∀ (x : List D), (S0 ++ [x])[S0.length]? = some x := fun x => by simp
  have g1 : ∀ (x y : List D), (S0 ++ [x, y])[S0.length]? = some x := fun x y => by simp
  have g2 : ∀ (x y z : List D), (S0 ++ [x, y, z])[S0.length]? = some x := fun x y z => by simp
  have s0 : ∀ (x y : List D), (S0 ++ [x]).set S0.length y = S0 ++ [y] := fun x y => by simp
  have s1 : ∀ (x y z : List D), (S0 ++ [x, z]).set S0.length y = S0 ++ [y, z] := fun x y z => by simp
  have s2 : ∀ (x y z w : List D), (S0 ++ [x, z, w]).set S0.length y = S0 ++ [y, z, w] := fun x y z w => by simp
  rw [st_SeqN ((st_SetF (x := .int 1) (c := "Table") (k := S0.length) (fs := []) (l := []) (S1 := S0 ++ [[.ins "Table" [] []]]) (S2 := S0 ++ [[.ins "Table" [] []]]) rfl rfl (g0 _) ⟨ok_tf _ (by simp), by decide⟩).trans (by rw [putD_nil, s0]))]
  rw [st_SeqN ((st_SetFO (j := S0.length + 1) (c := "Table") (k := S0.length) (fs := ["unit"]) (l := [.int 1]) (S1 := S0 ++ [[.ins "Table" ["unit"] [.int 1]], Fr]) (S2 := S0 ++ [[.ins "Table" ["unit"] [.int 1]], Fr]) (by rw [i_free hR, hFr]) rfl (g1 _ _) ⟨ok_tf _ (by simp), by decide⟩).trans (by rw [pd_1, s1]))]
  rw [st_SeqN ((st_SetFO (j := S0.length + 2) (c := "Table") (k := S0.length) (fs := ["unit", "free"]) (l := [.int 1, .own (S0.length + 1)]) (S1 := S0 ++ [[.ins "Table" ["unit", "free"] [.int 1, .own (S0.length + 1)]], Fr, Td]) (S2 := S0 ++ [[.ins "Table" ["unit", "free"] [.int 1, .own (S0.length + 1)]], Fr, Td]) (by rw [i_tied hm, hTd]; simp) rfl (g2 _ _ _) ⟨ok_tf _ (by simp), by decide⟩).trans (by rw [pd_2, s2]))]
  rw [st_SeqN ((st_SetF (x := .lst Bd) (c := "Table") (k := S0.length) (fs := ["unit", "free", "tied"]) (l := [.int 1, .own (S0.length + 1), .own (S0.length + 2)]) (S1 := S0 ++ [[.ins "Table" ["unit", "free", "tied"] [.int 1, .own (S0.length + 1), .own (S0.length + 2)]], Fr, Td]) (S2 := S0 ++ [[.ins "Table" ["unit", "free", "tied"] [.int 1, .own (S0.length + 1), .own (S0.length + 2)]], Fr, Td]) (by rw [i_bound hR ht, hBd]; rfl) rfl (g2 _ _ _) ⟨ok_tf _ (by simp), by decide⟩).trans (by rw [pd_3, s2]))]
  exact (st_SetF (x := .lst Ln) (c := "Table") (k := S0.length) (fs := ["unit", "free", "tied", "bound"]) (l := [.int 1, .own (S0.length + 1), .own (S0.length + 2), .lst Bd]) (S1 := S0 ++ [[.ins "Table" ["unit", "free", "tied", "bound"] [.int 1, .own (S0.length + 1), .own (S0.length + 2), .lst Bd]], Fr, Td]) (S2 := S0 ++ [[.ins "Table" ["unit", "free", "tied", "bound"] [.int 1, .own (S0.length + 1), .own (S0.length + 2), .lst Bd]], Fr, Td]) (by rw [i_lines hR hm ht, hLn]; rfl) rfl (g2 _ _ _) ⟨ok_tf _ (by simp), by decide⟩).trans (by rw [pd_4, s2]; rfl)
end
end Lw
namespace Lw
open PySem L2 DL
section
variable {env : DL.Env} {S S1 S2 S3 : Store} {f g h : DL.Env → M SV} {fa : DL.Env → M (List SV)} {x y z : SV} {i : Nat}
theorem a_var (h : env[i]? = some (some x)) : eVar i env S = some (.ok x, S) := by rw [ev_Var h]; rfl
theorem a_c (d : D) : eC d env S = some (.ok (.d d), S) := rfl
theorem a_op {o : SV → SV → M SV} (h1 : f env S = some (.ok x, S1)) (h2 : g env S1 = some (.ok y, S2)) (h3 : o x y S2 = some (.ok z, S3)) : eOp o f g env S = some (.ok z, S3) := by
  rw [ev_Op, bnd_at h1, bnd_at h2, h3]
theorem a_un {o : SV → M SV} (h1 : f env S = some (.ok x, S1)) (h3 : o x S1 = some (.ok z, S3)) : eUn o f env S = some (.ok z, S3) := by
  rw [ev_Un, bnd_at h1, h3]
theorem a_nil : aNil env S = some (.ok [], S) := rfl
theorem a_cons {xs : List SV} (h1 : f env S = some (.ok x, S1)) (h2 : fa env S1 = some (.ok xs, S2)) : aCons f fa env S = some (.ok (x :: xs), S2) := by
  rw [ev_Cons, bnd_at h1, bnd_at h2]; rfl
theorem a_arg {α : Type} {o : List SV → M α} {xs : List SV} {r : α} (h1 : fa env S = some (.ok xs, S1)) (h3 : o xs S1 = some (.ok r, S3)) : eArg o fa env S = some (.ok r, S3) := by
  rw [ev_Arg, bnd_at h1, h3]
theorem a_call {cv : RR → M SV} {m : Fn} {xs : List SV} (h1 : fa env S = some (.ok xs, S1)) (h3 : callM cv m xs S1 = some (.ok z, S3)) : eCall cv m [] fa env S = some (.ok z, S3) := by
  rw [ev_Call, bnd_at h1, List.append_nil, h3]
theorem a_tst {b : Bool} (h1 : f env S = some (.ok (.d (.bl b)), S1)) : eTst f env S = some (.ok b, S1) := by
  rw [ev_Tst, bnd_at h1]; rfl
theorem a_andF {t u : DL.Env → M Bool} (h1 : t env S = some (.ok false, S1)) : tyAnd t u env S = some (.ok false, S1) := by
  rw [ev_tyAnd, bnd_at h1]; rfl
theorem a_andT {t u : DL.Env → M Bool} {b : Bool} (h1 : t env S = some (.ok true, S1)) (h2 : u env S1 = some (.ok b, S2)) : tyAnd t u env S = some (.ok b, S2) := by
  rw [ev_tyAnd, bnd_at h1]; exact h2
theorem a_orT {t u : DL.Env → M Bool} (h1 : t env S = some (.ok true, S1)) : tyOr t u env S = some (.ok true, S1) := by
  rw [ev_tyOr, bnd_at h1]; rfl
theorem a_orF {t u : DL.Env → M Bool} {b : Bool} (h1 : t env S = some (.ok false, S1)) (h2 : u env S1 = some (.ok b, S2)) : tyOr t u env S = some (.ok b, S2) := by
  rw [ev_tyOr, bnd_at h1]; exact h2
theorem a_not {t : DL.Env → M Bool} {b : Bool} (h1 : t env S = some (.ok b, S1)) : tyNot t env S = some (.ok (!b), S1) := by
  rw [ev_tyNot, bnd_at h1]; rfl
theorem a_meth {c name : Str} {cv : RR → M SV} {m : Fn} {xs : List SV} {k : Nat} {fs : List Str} {l : List D} (h1 : f env S = some (.ok (.obj k), S)) (h2 : S[k]? = some [.ins c fs l]) (hn : (c == c && !fs.contains name) = true) (h3 : fa env S = some (.ok xs, S1)) (h4 : callM cv m (.obj k :: xs) S1 = some (.ok z, S3)) : eMethB c name cv m f fa env S = some (.ok z, S3) := by
  unfold eMethB
  rw [bnd_at h1]
  have : noFldB c name S (.obj k) = true := by unfold noFldB; dsimp only; rw [h2]; exact hn
  rw [if_pos this, bnd_at h3, h4]
theorem a_eand {b c : Bool} (h1 : f env S = some (.ok (.d (.bl b)), S)) (h2 : g env S = some (.ok (.d (.bl c)), S)) : eAnd f g env S = some (.ok (.d (.bl (b && c))), S) := by
  rw [ev_And, bnd_at (show bnd (f env) asB S = some (.ok b, S) by rw [bnd_at h1]; rfl)]
  cases b
  · rfl
  · exact h2
theorem a_eor {b c : Bool} (h1 : f env S = some (.ok (.d (.bl b)), S)) (h2 : g env S = some (.ok (.d (.bl c)), S)) : eOr f g env S = some (.ok (.d (.bl (b || c))), S) := by
  rw [ev_Or, bnd_at (show bnd (f env) asB S = some (.ok b, S) by rw [bnd_at h1]; rfl)]
  cases b
  · exact h2
  · rfl
theorem call_at' {cv : RR → M SV} {m : Fn} {as : List SV} {x : D} (hc : CvOk cv) (hn : noExc as = true) (h : m as S = some (.ok (.d x), S1)) : callM cv m as S = some (.ok (.d x), S1) := by
  rcases hc with rfl | rfl
  · exact call_at hn h
  · exact call_atP hn h
end
theorem noF_tf {name : Str} (h : tf.contains name = false) : (("Table" : Str) == "Table" && !tf.contains name) = true := by rw [h]; rfl
theorem nf1 : tf.contains "entering" = false := by decide +kernel
theorem nf2 : tf.contains "leaving" = false := by decide +kernel
theorem nf3 : tf.contains "is_sooner" = false := by decide +kernel
theorem nf4 : tf.contains "exchange" = false := by decide +kernel
def LinesAt (S : Store) (X : D) (L : List D) : Prop := X = .lst L ∨ ∃ j, X = .own j ∧ S[j]? = some L
theorem lines_ix {S : Store} {X : D} {L : List D} (h : LinesAt S X L) (hc : clsd L = true) {q : Nat} {d : D} (hq : L[q]? = some d) : oIdx (outD X) (.d (.int (q : Nat))) S = some (.ok (.d d), S) := by
  rcases h with rfl | ⟨j, rfl, h⟩
  · exact at_ret (oIdx_l (atI_nat hq)) S
  · exact oIdx_p h (atI_nat hq) hc
structure TabS (R m : Nat) (φ : Nat → BL.Vec) (φv : BL.Vec) (k : Nat) (t : BL.Ts) (X : D) (S : Store) : Prop where
  ob : S[k]? = some [tabO t.s.u k (bdD R φv t) X]
  fr : S[k + 1]? = some (frD R t)
  td : S[k + 2]? = some (tdD m t)
  ln : LinesAt S X (lnsD R m φ t)
structure Bnd (R m : Nat) (φ : Nat → BL.Vec) (φv : BL.Vec) (t : BL.Ts) : Prop where
  u : Sm 4000 t.s.u
  bd : ∀ k, k ≤ R + 1 → Sm 4000 (t.s.lam R k φv)
  ln : ∀ k i, k ≤ R + 1 → i < m → Sm 4000 (t.s.lam R k (φ (t.td i)))
theorem lns_clsd {R m : Nat} {φ : Nat → BL.Vec} {t : BL.Ts} : clsd (lnsD R m φ t) = true := clsd_map (fun _ => rfl) _
theorem lns_get {R m : Nat} {φ : Nat → BL.Vec} {t : BL.Ts} {q : Nat} (h : q < m) : (lnsD R m φ t)[q]? = some (.lst (lnD R φ t q)) := by
  unfold lnsD; rw [List.getElem?_map, List.getElem?_range h]; rfl
theorem pairD_app : ∀ (xs ys zs : List D), xs.length ≤ ys.length → pairD xs (ys ++ zs) = pairD xs ys
  | [], ys, zs, _ => by simp [pairD]
  | x :: xs, [], zs, h => by simp at h
  | x :: xs, y :: ys, zs, h => by
    rw [List.cons_append]
    simp only [pairD]
    rw [pairD_app xs ys zs (by simpa using h)]
theorem pairD_same {α : Type} (f g : α → D) : ∀ l : List α, pairD (l.map f) (l.map g) = l.map fun a => .tup [f a, g a]
  | [] => rfl
  | a :: l => by simp only [List.map_cons, pairD, pairD_same f g l]
theorem mulS {x y : Int} {S : Store} (h1 : Sm 4000 x) (h2 : Sm 4000 y) : oMul (.d (.int x)) (.d (.int y)) S = some (.ok (.d (.int (x * y))), S) := at_ret (oMul_i (by have := h1.log (by decide); have := h2.log (by decide); omega)) S
section
variable {R m k c : Nat} {φ : Nat → BL.Vec} {φv : BL.Vec} {t : BL.Ts} {X : D} {S : Store}
/-- the column that is to be taken in -/
theorem enter_at (hR : R ≤ 1000) (T : TabS R m φ φv k t X S) (inj : ∀ i j, i ≤ R → j ≤ R → t.s.fr i = t.s.fr j → i = j) :
    (∀ i, i ≤ R → 0 ≤ t.s.lam R i φv) ∧ m_Table_entering [.obj k] S = some (.ok (.d .non), S) ∨
    ∃ c, c ≤ R ∧ t.s.lam R c φv < 0 ∧ (∀ i, i ≤ R → t.s.lam R i φv < 0 → t.s.fr c ≤ t.s.fr i) ∧ m_Table_entering [.obj k] S = some (.ok (.d (.int (c : Nat))), S) := by
  let E : DL.Env := [some (.obj k), none, none, none]
  let idx := (List.range (R + 1)).filter fun i => decide (t.s.lam R i φv < 0)
  have walk : (eArg walkZO (aCons (eUn (oFld okF "free") (eVar 0)) (aCons (eUn (oFld okF "bound") (eVar 0)) aNil))) E S = some (.ok ((List.range (R + 1)).map (fun i : Nat => D.tup [.int (t.s.fr i : Nat), .int (t.s.lam R i φv)]), some ([(k + 1, frD R t)] ++ [])), S) := by
    refine a_arg (a_cons (f_free rfl T.ob) (a_cons (f_bound rfl T.ob) a_nil)) ?_
    unfold walkZO
    dsimp only [seqLO]
    rw [cellC_of T.fr (clsd_ints _)]
    dsimp only [Option.map_some]
    congr 4
    unfold bdD frD
    rw [rD_snoc (R + 1), pairD_app _ _ _ (by rw [rD_len, rD_len]; omega), rD_eq, rD_eq, pairD_same]
  have comp : (eLc [2, 3] (.many [2, 3]) (eArg walkZO (aCons (eUn (oFld okF "free") (eVar 0)) (aCons (eUn (oFld okF "bound") (eVar 0)) aNil))) (eTst (eOp oLt (eVar 3) (eC (.int 0)))) (eVar 2)) E S = some (.ok (.d (.lst ((idx.map fun i => (t.s.fr i : Int)).map D.int))), S) := by
    rw [lcG (fun i : Nat => D.tup [.int (t.s.fr i : Nat), .int (t.s.lam R i φv)]) (fun i => decide (t.s.lam R i φv < 0)) (fun i => .int (t.s.fr i : Nat)) walk (fun p hp => by
      rw [List.append_nil] at hp
      rw [List.mem_singleton.mp hp]; exact T.fr) (fun i _ => ⟨[some (.obj k), none, some (.d (.int (t.s.fr i : Nat))), some (.d (.int (t.s.lam R i φv)))], rfl, fun acc => rfl, fun _ acc => rfl⟩) (by rw [List.length_range]; omega), List.map_map]
    rfl
  let E1 : DL.Env := [some (.obj k), some (.d (.lst ((idx.map fun i => (t.s.fr i : Int)).map D.int))), none, none]
  have body : ∀ r : D, (eIf (eTru (eVar 1)) (eIndex (eUn (oFld okF "free") (eVar 0)) (eArg bMinL (aCons (eVar 1) aNil))) (eC .non)) E1 S = some (.ok (.d r), S) → m_Table_entering [.obj k] S = some (.ok (.d r), S) := fun r h => by
    refine fn_retE (S1 := S) rfl ?_ rfl
    show y_Table_entering E S = _
    unfold y_Table_entering
    rw [st_SeqN (env' := E1) (st_Set comp)]
    exact st_Ret h
  by_cases hz : idx = []
  · left
    refine ⟨fun i hi => ?_, body .non ?_⟩
    · have : i ∉ idx := by rw [hz]; simp
      have h2 : ¬ (t.s.lam R i φv < 0) := fun z => this (List.mem_filter.mpr ⟨List.mem_range.mpr (by omega), by simpa using z⟩)
      omega
    · rw [ev_If]
      unfold eTru
      rw [show eVar 1 E1 = ret (.d (.lst ((idx.map fun i => (t.s.fr i : Int)).map D.int))) from rfl, bnd_ret', hz]
      rfl
  · right
    have hne : (idx.map fun i => (t.s.fr i : Int)) ≠ [] := by simpa using hz
    obtain ⟨h1, h2⟩ := minL_mem hne
    obtain ⟨i0, hi0, e0⟩ := List.mem_map.mp h1
    obtain ⟨hr0, hl0⟩ := List.mem_filter.mp hi0
    have hi0R : i0 ≤ R := by have := List.mem_range.mp hr0; omega
    obtain ⟨q, e1, e2⟩ := ix_at (fo := eUn (oFld okF "free") (eVar 0)) (fe := eArg bMinL (aCons (eVar 1) aNil)) (env := E1) (S := S) (x := .ptr (k + 1)) (l := rI (R + 1) fun i => (t.s.fr i : Nat)) (v := minL (idx.map fun i => (t.s.fr i : Int))) (f_free rfl T.ob) (deref_p T.fr (clsd_ints _))
      (a_arg (a_cons (a_var (i := 1) rfl) a_nil) (at_ret (bMin_of hne) S)) (by rw [← e0]; exact rI_mem.mpr ⟨i0, by omega, rfl⟩)
    have hq : q < R + 1 := by have := (List.getElem?_eq_some_iff.mp e2).1; rwa [rI_len] at this
    rw [rI_get hq] at e2
    have e3 : t.s.fr q = t.s.fr i0 := by have := Option.some.inj e2; omega
    have e4 := inj q i0 (by omega) hi0R e3
    subst e4
    refine ⟨q, hi0R, by simpa using hl0, fun i hi hn => ?_, body _ ?_⟩
    · have := h2 (t.s.fr i : Int) (List.mem_map.mpr ⟨i, List.mem_filter.mpr ⟨List.mem_range.mpr (by omega), by simpa using hn⟩, rfl⟩)
      omega
    · rw [ev_If]
      unfold eTru
      rw [show eVar 1 E1 = ret (.d (.lst ((idx.map fun i => (t.s.fr i : Int)).map D.int))) from rfl, bnd_ret']
      have ht : asT (.d (.lst ((idx.map fun i => (t.s.fr i : Int)).map D.int))) = ret true := by
        unfold asT
        dsimp only
        cases hidx : idx with
        | nil => exact absurd hidx hz
        | cons a l => rfl
      rw [ht, bnd_ret', if_pos rfl]
      exact e1
/-- whether one line comes ahead of another one -/
theorem sooner_at (T : TabS R m φ φv k t X S) (B : Bnd R m φ φv t) {p q : Nat} (hp : p < m) (hq : q < m) (hc : c ≤ R) :
    m_Table_is_sooner [.obj k, .d (.int (p : Nat)), .d (.int (q : Nat)), .d (.int (c : Nat))] S = some (.ok (.d (.bl (decide (t.s.lam R (R + 1) (φ (t.td q)) * t.s.lam R c (φ (t.td p)) < t.s.lam R (R + 1) (φ (t.td p)) * t.s.lam R c (φ (t.td q))) || (decide (t.s.lam R (R + 1) (φ (t.td p)) * t.s.lam R c (φ (t.td q)) = t.s.lam R (R + 1) (φ (t.td q)) * t.s.lam R c (φ (t.td p))) && decide (t.td p < t.td q))))), S) := by
  have last : ∀ {env : DL.Env} {i j : Nat}, j < m → env[0]? = some (some (.obj k)) → env[i]? = some (some (.d (.int (j : Nat)))) → (eOp oIdx (eOp oIdx (eUn (oFld okF "lines") (eVar 0)) (eVar i)) (eUn oNeg (eC (.int 1)))) env S = some (.ok (.d (.int (t.s.lam R (R + 1) (φ (t.td j))))), S) := fun hj h0 hi =>
    a_op (a_op (f_lines h0 T.ob) (a_var hi) (lines_ix T.ln lns_clsd (lns_get hj))) rfl (at_ret (oIdx_l rD_last) S)
  have col : ∀ {env : DL.Env} {i i' j : Nat}, j < m → env[0]? = some (some (.obj k)) → env[i]? = some (some (.d (.int (j : Nat)))) → env[i']? = some (some (.d (.int (c : Nat)))) → (eOp oIdx (eOp oIdx (eUn (oFld okF "lines") (eVar 0)) (eVar i)) (eVar i')) env S = some (.ok (.d (.int (t.s.lam R c (φ (t.td j))))), S) := fun hj h0 hi hi' =>
    a_op (a_op (f_lines h0 T.ob) (a_var hi) (lines_ix T.ln lns_clsd (lns_get hj))) (a_var hi') (at_ret (oIdx_l (rD_at (show c < R + 2 by omega))) S)
  have tied : ∀ {env : DL.Env} {i j : Nat}, j < m → env[0]? = some (some (.obj k)) → env[i]? = some (some (.d (.int (j : Nat)))) → (eOp oIdx (eUn (oFld okF "tied") (eVar 0)) (eVar i)) env S = some (.ok (.d (.int (t.td j : Nat))), S) := fun hj h0 hi =>
    a_op (f_tied h0 T.ob) (a_var hi) (oIdx_p T.td (rD_at hj) (clsd_ints _))
  refine fn_retE (S1 := S) rfl ?_ rfl
  show y_Table_is_sooner [some (.obj k), some (.d (.int (p : Nat))), some (.d (.int (q : Nat))), some (.d (.int (c : Nat))), none, none] S = _
  unfold y_Table_is_sooner
  rw [st_SeqN (st_Set (a_op (last hp rfl rfl) (col hq rfl rfl rfl) (mulS (B.ln _ _ (Nat.le_refl _) hp) (B.ln _ _ (by omega) hq))))]
  rw [st_SeqN (st_Set (a_op (last hq rfl rfl) (col hp rfl rfl rfl) (mulS (B.ln _ _ (Nat.le_refl _) hq) (B.ln _ _ (by omega) hp))))]
  refine st_Ret ?_
  refine a_eor (a_op (a_var rfl) (a_var rfl) rfl) (a_eand (a_op (a_var rfl) (a_var rfl) (at_ret (oEq_i _ _) S)) ?_)
  have : decide ((t.td p : Int) < (t.td q : Int)) = decide (t.td p < t.td q) := by congr 1; exact propext (by omega)
  rw [← this]
  exact a_op (tied hp rfl rfl) (tied hq rfl rfl) rfl
def BestL (R : Nat) (φ : Nat → BL.Vec) (t : BL.Ts) (c i : Nat) : Option Nat → Prop
  | none => ∀ p, p < i → 0 ≤ t.s.lam R c (φ (t.td p))
  | some q => q < i ∧ t.s.lam R c (φ (t.td q)) < 0 ∧ ∀ p, p < i → t.s.lam R c (φ (t.td p)) < 0 → t.s.lam R (R + 1) (φ (t.td p)) * t.s.lam R c (φ (t.td q)) ≤ t.s.lam R (R + 1) (φ (t.td q)) * t.s.lam R c (φ (t.td p)) ∧ (t.s.lam R (R + 1) (φ (t.td p)) * t.s.lam R c (φ (t.td q)) = t.s.lam R (R + 1) (φ (t.td q)) * t.s.lam R c (φ (t.td p)) → t.td q ≤ t.td p)
def optS : Option Nat → D
  | none => .non
  | some q => .int (q : Nat)
/-- one more line -/
theorem best_next {R : Nat} {φ : Nat → BL.Vec} {t : BL.Ts} {c i : Nat} {o : Option Nat} (h : BestL R φ t c i o) :
    BestL R φ t c (i + 1) (if t.s.lam R c (φ (t.td i)) < 0 then (match o with
      | none => some i
      | some q => if (t.s.lam R (R + 1) (φ (t.td q)) * t.s.lam R c (φ (t.td i)) < t.s.lam R (R + 1) (φ (t.td i)) * t.s.lam R c (φ (t.td q)) ∨ (t.s.lam R (R + 1) (φ (t.td i)) * t.s.lam R c (φ (t.td q)) = t.s.lam R (R + 1) (φ (t.td q)) * t.s.lam R c (φ (t.td i)) ∧ t.td i < t.td q)) then some i else some q) else o) := by
  by_cases hn : t.s.lam R c (φ (t.td i)) < 0
  · rw [if_pos hn]
    cases o with
    | none =>
      refine ⟨Nat.lt_succ_self i, hn, fun p hp hpn => ?_⟩
      by_cases e : p = i
      · subst e; exact ⟨Int.le_refl _, fun _ => Nat.le_refl _⟩
      · have := h p (by omega); omega
    | some q =>
      obtain ⟨h1, h2, h3⟩ := h
      dsimp only
      by_cases hs : (t.s.lam R (R + 1) (φ (t.td q)) * t.s.lam R c (φ (t.td i)) < t.s.lam R (R + 1) (φ (t.td i)) * t.s.lam R c (φ (t.td q)) ∨ (t.s.lam R (R + 1) (φ (t.td i)) * t.s.lam R c (φ (t.td q)) = t.s.lam R (R + 1) (φ (t.td q)) * t.s.lam R c (φ (t.td i)) ∧ t.td i < t.td q))
      · rw [if_pos hs]
        refine ⟨Nat.lt_succ_self i, hn, fun p hp hpn => ?_⟩
        by_cases e : p = i
        · subst e; exact ⟨Int.le_refl _, fun _ => Nat.le_refl _⟩
        · obtain ⟨g1, g2⟩ := h3 p (by omega) hpn
          generalize t.s.lam R c (φ (t.td p)) = cp at *
          generalize t.s.lam R c (φ (t.td q)) = cq at *
          generalize t.s.lam R c (φ (t.td i)) = ci at *
          generalize t.s.lam R (R + 1) (φ (t.td p)) = lp at *
          generalize t.s.lam R (R + 1) (φ (t.td q)) = lq at *
          generalize t.s.lam R (R + 1) (φ (t.td i)) = li at *
          have gi : lq * ci ≤ li * cq := by rcases hs with z | z; omega; omega
          have key : lp * ci ≤ li * cp := by
            have f := BL.frac_trans (a := lp) (b := lq) (c := li) (x := -cp) (y := -cq) (z := -ci) (by omega) (by omega) (by omega) (by rw [Int.mul_neg, Int.mul_neg]; omega) (by rw [Int.mul_neg, Int.mul_neg]; omega)
            rw [Int.mul_neg, Int.mul_neg] at f; omega
          refine ⟨key, fun he => ?_⟩
          have f := BL.frac_strict (a := lp) (b := lq) (c := li) (x := -cp) (y := -cq) (z := -ci) (by omega) (by omega) (by omega) (by rw [Int.mul_neg, Int.mul_neg]; omega) (by rw [Int.mul_neg, Int.mul_neg]; omega) (by rw [Int.mul_neg, Int.mul_neg]; omega)
          rw [Int.mul_neg, Int.mul_neg, Int.mul_neg, Int.mul_neg] at f
          have e1 : lp * cq = lq * cp := by omega
          have e2 : li * cq = lq * ci := by omega
          have t1 := g2 e1
          rcases hs with z | z
          · omega
          · omega
      · rw [if_neg hs]
        refine ⟨by omega, h2, fun p hp hpn => ?_⟩
        by_cases e : p = i
        · subst e
          generalize t.s.lam R c (φ (t.td p)) = ci at *
          generalize t.s.lam R c (φ (t.td q)) = cq at *
          generalize t.s.lam R (R + 1) (φ (t.td p)) = li at *
          generalize t.s.lam R (R + 1) (φ (t.td q)) = lq at *
          constructor
          · exact Int.not_lt.mp fun z => hs (.inl z)
          · intro z
            exact Nat.not_lt.mp fun w => hs (.inr ⟨z, w⟩)
        · exact h3 p (by omega) hpn
  · rw [if_neg hn]
    cases o with
    | none => intro p hp; by_cases e : p = i; subst e; omega; exact h p (by omega)
    | some q =>
      obtain ⟨h1, h2, h3⟩ := h
      refine ⟨by omega, h2, fun p hp hpn => ?_⟩
      by_cases e : p = i
      · subst e; exact absurd hpn hn
      · exact h3 p (by omega) hpn
end
end Lw
namespace Lw
open PySem L2 DL
theorem enum_range (f : Nat → D) : ∀ (n i : Nat), enumD i ((List.range' i n).map f) = (List.range' i n).map fun j => D.tup [.int (j : Nat), f j]
  | 0, i => rfl
  | n + 1, i => by
    rw [List.range'_succ, List.map_cons, List.map_cons]
    simp only [enumD]
    rw [enum_range f n (i + 1)]
theorem lines_walk {S : Store} {X : D} {L : List D} (h : LinesAt S X L) (hc : clsd L = true) : ∃ kk, walkD (outD X) S = some (.ok (L, kk), S) ∧ keepOk kk L S := by
  rcases h with rfl | ⟨j, rfl, h⟩
  · exact ⟨none, rfl, trivial⟩
  · refine ⟨some [(j, L)], ?_, fun p hp => by rw [List.mem_singleton.mp hp]; exact h⟩
    show walkD (.ptr j) S = _
    unfold walkD
    dsimp only
    rw [h]
    dsimp only
    rw [if_pos hc]
theorem lines_enum {S : Store} {X : D} {L : List D} (h : LinesAt S X L) (hc : clsd L = true) : ∃ kk, walkEO [outD X] S = some (.ok (enumD 0 L, kk), S) ∧ keepOk kk (enumD 0 L) S := by
  rcases h with rfl | ⟨j, rfl, h⟩
  · exact ⟨some [], rfl, fun p hp => by cases hp⟩
  · refine ⟨some [(j, L)], ?_, fun p hp => by rw [List.mem_singleton.mp hp]; exact h⟩
    show walkEO [.ptr j] S = _
    unfold walkEO
    dsimp only [seqLO]
    rw [cellC_of h hc]
    rfl
section
variable {R m k c : Nat} {φ : Nat → BL.Vec} {φv : BL.Vec} {t : BL.Ts} {X : D} {S : Store}
noncomputable abbrev lvB : SM := (sIf (tyAnd (eTst (eOp oLt (eOp oIdx (eVar 4) (eVar 1)) (eC (.int 0)))) (tyOr (eTst (eOp oIsN (eVar 2) (eC .non))) (eTst (eMethB "Table" "is_sooner" asPure m_Table_is_sooner (eVar 0) (aCons (eVar 3) (aCons (eVar 2) (aCons (eVar 1) aNil))))))) (sSet 2 (eVar 3)) sNop)
abbrev lvE (k c : Nat) (o : Option Nat) (x y : Option SV) : DL.Env := [some (.obj k), some (.d (.int (c : Nat))), some (.d (optS o)), x, y]
theorem leave_loop (T : TabS R m φ φv k t X S) (B : Bnd R m φ φv t) (hc : c ≤ R) {kk : KK} {all : List D} (hkk : keepOk kk all S) : ∀ (n i : Nat) (o : Option Nat) (x y : Option SV), i + n = m → BestL R φ t c i o →
    ∃ o' x' y', BestL R φ t c m o' ∧ forL (.many [3, 4]) kk all lvB ((List.range' i n).map fun j => D.tup [.int (j : Nat), .lst (lnD R φ t j)]) (lvE k c o x y) S = some (.nx (lvE k c o' x' y'), S)
  | 0, i, o, x, y, e, h => ⟨o, x, y, by have : i = m := by omega
                                        subst this; exact h, for_nil⟩
  | n + 1, i, o, x, y, e, h => by
    have hi : i < m := by omega
    have nb := best_next h
    have step : ∀ o2, lvB (lvE k c o (some (.d (.int (i : Nat)))) (some (.d (.lst (lnD R φ t i))))) S = some (.nx (lvE k c o2 (some (.d (.int (i : Nat)))) (some (.d (.lst (lnD R φ t i))))), S) → BestL R φ t c (i + 1) o2 →
        ∃ o' x' y', BestL R φ t c m o' ∧ forL (.many [3, 4]) kk all lvB ((List.range' i (n + 1)).map fun j => D.tup [.int (j : Nat), .lst (lnD R φ t j)]) (lvE k c o x y) S = some (.nx (lvE k c o' x' y'), S) := fun o2 hb h2 => by
      obtain ⟨o', x', y', g1, g2⟩ := leave_loop T B hc hkk n (i + 1) o2 (some (.d (.int (i : Nat)))) (some (.d (.lst (lnD R φ t i)))) (by omega) h2
      refine ⟨o', x', y', g1, ?_⟩
      rw [List.range'_succ, List.map_cons, for_nx (env1 := lvE k c o (some (.d (.int (i : Nat)))) (some (.d (.lst (lnD R φ t i))))) rfl hb hkk]
      exact g2
    have tst : (eTst (eOp oLt (eOp oIdx (eVar 4) (eVar 1)) (eC (.int 0)))) (lvE k c o (some (.d (.int (i : Nat)))) (some (.d (.lst (lnD R φ t i))))) S = some (.ok (decide (t.s.lam R c (φ (t.td i)) < 0)), S) :=
      a_tst (a_op (a_op (a_var rfl) (a_var rfl) (at_ret (oIdx_l (rD_at (show c < R + 2 by omega))) S)) (a_c _) rfl)
    by_cases hn : t.s.lam R c (φ (t.td i)) < 0
    · rw [if_pos hn] at nb
      rw [decide_eq_true hn] at tst
      cases o with
      | none =>
        refine step (some i) ?_ nb
        rw [show lvB = sIf _ _ _ from rfl, st_IfT (a_andT tst (a_orT (a_tst (S1 := S) (b := true) rfl)))]
        exact st_Set (a_var rfl)
      | some q =>
        dsimp only at nb
        have hq : q < m := by have := h.1; omega
        have sn := sooner_at T B hi hq hc
        have ms : (eTst (eMethB "Table" "is_sooner" asPure m_Table_is_sooner (eVar 0) (aCons (eVar 3) (aCons (eVar 2) (aCons (eVar 1) aNil))))) (lvE k c (some q) (some (.d (.int (i : Nat)))) (some (.d (.lst (lnD R φ t i))))) S = _ :=
          a_tst (a_meth (a_var rfl) T.ob (noF_tf nf3) (a_cons (a_var rfl) (a_cons (a_var rfl) (a_cons (a_var rfl) a_nil))) (call_at' (.inl rfl) rfl sn))
        by_cases hs : (t.s.lam R (R + 1) (φ (t.td q)) * t.s.lam R c (φ (t.td i)) < t.s.lam R (R + 1) (φ (t.td i)) * t.s.lam R c (φ (t.td q)) ∨ (t.s.lam R (R + 1) (φ (t.td i)) * t.s.lam R c (φ (t.td q)) = t.s.lam R (R + 1) (φ (t.td q)) * t.s.lam R c (φ (t.td i)) ∧ t.td i < t.td q))
        · rw [if_pos hs] at nb
          have e2 : (decide (t.s.lam R (R + 1) (φ (t.td q)) * t.s.lam R c (φ (t.td i)) < t.s.lam R (R + 1) (φ (t.td i)) * t.s.lam R c (φ (t.td q))) || (decide (t.s.lam R (R + 1) (φ (t.td i)) * t.s.lam R c (φ (t.td q)) = t.s.lam R (R + 1) (φ (t.td q)) * t.s.lam R c (φ (t.td i))) && decide (t.td i < t.td q))) = true := by
            simpa using hs
          rw [e2] at ms
          refine step (some i) ?_ nb
          rw [show lvB = sIf _ _ _ from rfl, st_IfT (a_andT tst (a_orF (a_tst (S1 := S) (b := false) rfl) ms))]
          exact st_Set (a_var rfl)
        · rw [if_neg hs] at nb
          have e2 : (decide (t.s.lam R (R + 1) (φ (t.td q)) * t.s.lam R c (φ (t.td i)) < t.s.lam R (R + 1) (φ (t.td i)) * t.s.lam R c (φ (t.td q))) || (decide (t.s.lam R (R + 1) (φ (t.td i)) * t.s.lam R c (φ (t.td q)) = t.s.lam R (R + 1) (φ (t.td q)) * t.s.lam R c (φ (t.td i))) && decide (t.td i < t.td q))) = false := by
            rw [← Bool.not_eq_true]
            simpa using hs
          rw [e2] at ms
          refine step (some q) ?_ nb
          rw [show lvB = sIf _ _ _ from rfl, st_IfF (a_andT tst (a_orF (a_tst (S1 := S) (b := false) rfl) ms))]
          rfl
    · rw [if_neg hn] at nb
      rw [decide_eq_false hn] at tst
      refine step o ?_ nb
      rw [show lvB = sIf _ _ _ from rfl, st_IfF (a_andF tst)]
      rfl
theorem leave_at (T : TabS R m φ φv k t X S) (B : Bnd R m φ φv t) (hc : c ≤ R) : ∃ o, BestL R φ t c m o ∧ m_Table_leaving [.obj k, .d (.int (c : Nat))] S = some (.ok (.d (optS o)), S) := by
  obtain ⟨kk, w1, w2⟩ := lines_enum T.ln lns_clsd
  have el : enumD 0 (lnsD R m φ t) = (List.range' 0 m).map fun j => D.tup [.int (j : Nat), .lst (lnD R φ t j)] := by
    unfold lnsD
    rw [List.range_eq_range', enum_range]
  rw [el] at w1 w2
  obtain ⟨o, x, y, g1, g2⟩ := leave_loop T B hc w2 m 0 none none none (by omega) (fun p hp => absurd hp (Nat.not_lt_zero _))
  refine ⟨o, g1, fn_retE (S1 := S) rfl ?_ rfl⟩
  show y_Table_leaving [some (.obj k), some (.d (.int (c : Nat))), none, none, none] S = _
  unfold y_Table_leaving
  rw [st_SeqN (env' := lvE k c none none none) (st_Set (a_c .non))]
  rw [st_SeqN (env' := lvE k c o x y) (S' := S) (by
    rw [st_For (a_arg (a_cons (f_lines rfl T.ob) a_nil) w1)]
    exact g2)]
  exact st_Ret (a_var rfl)
end
end Lw
namespace Lw
open PySem L2 DL
theorem cut_to' (l : List D) {p : Nat} (h : p ≤ l.length) : cutD l none (some (p : Int)) = l.take p := by
  unfold cutD
  rw [HT.sIx_none, HT.sIx_nat, Nat.min_eq_left h]
  simp
theorem cut_from' (l : List D) {p : Nat} (h : p ≤ l.length) : cutD l (some (p : Int)) none = l.drop p := by
  unfold cutD
  rw [HT.sIx_none, HT.sIx_nat, Nat.min_eq_left h]
  exact List.take_of_length_le (by rw [List.length_drop]; exact Nat.le_refl _)
theorem cut_mid {n c : Nat} {f : Nat → Int} {v : Int} (h : c < n) : (rD n f).take c ++ [.int v] ++ (rD n f).drop (c + 1) = rD n fun k => if k = c then v else f k := by
  have : (rI n f).take c ++ [v] ++ (rI n f).drop (c + 1) = rI n fun k => if k = c then v else f k := by
    refine rI_ext (by simp only [List.length_append, List.length_take, List.length_drop, rI_len, List.length_cons, List.length_nil]; omega) fun i hi => ?_
    have hc : ((rI n f).take c).length = c := by rw [List.length_take, rI_len]; omega
    by_cases h1 : i < c
    · rw [List.append_assoc, List.getElem?_append_left (by rw [hc]; exact h1), List.getElem?_take_of_lt h1, rI_get hi, if_neg (by omega)]
    · by_cases h2 : i = c
      · subst h2
        rw [List.append_assoc, List.getElem?_append_right (by rw [hc]; exact Nat.le_refl _), hc, Nat.sub_self, if_pos rfl]
        rfl
      · rw [List.getElem?_append_right (by rw [List.length_append, hc]; simp; omega), List.length_append, hc, List.getElem?_drop, if_neg h2]
        have : c + 1 + (i - (c + [v].length)) = i := by simp; omega
        rw [this, rI_get hi]
  show ((rI n f).map D.int).take c ++ [.int v] ++ ((rI n f).map D.int).drop (c + 1) = (rI n fun k => if k = c then v else f k).map D.int
  rw [← this, List.map_append, List.map_append, List.map_take, List.map_drop]
  rfl
def repI (f g : Nat → Int) (c : Nat) (u : Int) : Nat → Int := fun k => if k = c then -f c else (f k * -g c + g k * f c).fdiv u
theorem v_repl {n c : Nat} {f g : Nat → Int} {u : Int} (hc : c < n) (hn : n ≤ 1000) (hu : u ≠ 0) (su : Sm 4000 u) (sf : ∀ k, k < n → Sm 4000 (f k)) (sg : ∀ k, k < n → Sm 4000 (g k)) (S : Store) :
    m_replaced [.d (.lst (rD n f)), .d (.lst (rD n g)), .d (.int (c : Nat)), .d (.int u)] S = some (.ok (.fresh (rD n (repI f g c u))), S) := by
  let E0 : DL.Env := [some (.d (.lst (rD n f))), some (.d (.lst (rD n g))), some (.d (.int (c : Nat))), some (.d (.int u)), none, none, none, none, none]
  let E2 : DL.Env := [some (.d (.lst (rD n f))), some (.d (.lst (rD n g))), some (.d (.int (c : Nat))), some (.d (.int u)), some (.d (.int (f c))), some (.d (.int (-g c))), none, none, none]
  let E3 : DL.Env := [some (.d (.lst (rD n f))), some (.d (.lst (rD n g))), some (.d (.int (c : Nat))), some (.d (.int u)), some (.d (.int (f c))), some (.d (.int (-g c))), some (.ptr S.length), none, none]
  have body : y_replaced E0 S = some (.rt (.ptr S.length), S ++ [rD n (repI f g c u)]) := by
    unfold y_replaced
    rw [st_SeqN (env' := [some (.d (.lst (rD n f))), some (.d (.lst (rD n g))), some (.d (.int (c : Nat))), some (.d (.int u)), some (.d (.int (f c))), none, none, none, none]) (st_Set (a_op (a_var rfl) (a_var rfl) (at_ret (oIdx_l (rD_at hc)) S)))]
    rw [st_SeqN (env' := E2) (st_Set (a_un (a_op (a_var rfl) (a_var rfl) (at_ret (oIdx_l (rD_at hc)) S)) rfl))]
    have w : (eArg walkZ (aCons (eVar 0) (aCons (eVar 1) aNil))) E2 S = some (.ok ((List.range n).map (fun k => D.tup [.int (f k), .int (g k)]), none), S) := by
      refine a_arg (a_cons (a_var rfl) (a_cons (a_var rfl) a_nil)) ?_
      unfold walkZ
      dsimp only [seqD]
      rw [if_pos rfl, rD_eq, rD_eq, pairD_same]
      rfl
    rw [st_SeqN (env' := E3) (S' := S ++ [rD n fun k => (f k * -g c + g k * f c).fdiv u]) (st_Set (by
      rw [lcGO (fun k : Nat => D.tup [.int (f k), .int (g k)]) (fun _ => true) (fun k => .int ((f k * -g c + g k * f c).fdiv u)) w trivial (fun k hk => ⟨[some (.d (.lst (rD n f))), some (.d (.lst (rD n g))), some (.d (.int (c : Nat))), some (.d (.int u)), some (.d (.int (f c))), some (.d (.int (-g c))), none, some (.d (.int (f k))), some (.d (.int (g k)))], rfl, fun acc => rfl, fun _ acc => by
        have hk' := List.mem_range.mp hk
        exact a_op (a_op (a_op (a_var rfl) (a_var rfl) (mulS (sf k hk') (sg c hc).neg)) (a_op (a_var rfl) (a_var rfl) (mulS (sg k hk') (sf c hc))) rfl) (a_var rfl) (at_ret (oFdiv_i hu (by have := su.log (by decide); omega)) _)⟩) (by rw [List.length_range]; omega)]
      rw [List.filter_eq_self.mpr (fun _ _ => rfl), rD_eq]))]
    rw [st_SeqN (env' := E3) (S' := S ++ [rD n (repI f g c u)]) (by
      rw [st_SetI (x := .int (-f c)) (k := S.length) (n := (c : Nat)) (l := rD n fun k => (f k * -g c + g k * f c).fdiv u) (j := c) (a_un (a_var rfl) rfl) (a_var rfl) (a_var rfl) (by simp) (ixN_nat (by rw [rD_len]; exact hc)), rD_set]
      rw [List.set_append_right _ _ (Nat.le_refl _), Nat.sub_self]
      rfl)]
    exact st_Ret (a_var rfl)
  exact (fn_retP (k := S.length) (x := rD n (repI f g c u)) (S1 := S ++ [rD n (repI f g c u)]) rfl body (Nat.le_refl _) (by simp)).trans (by rw [List.take_left' rfl])
theorem c_repl {n c : Nat} {f g : Nat → Int} {u : Int} (hc : c < n) (hn : n ≤ 1000) (hu : u ≠ 0) (su : Sm 4000 u) (sf : ∀ k, k < n → Sm 4000 (f k)) (sg : ∀ k, k < n → Sm 4000 (g k)) (S : Store) :
    callM asPure m_replaced [.d (.lst (rD n f)), .d (.lst (rD n g)), .d (.int (c : Nat)), .d (.int u)] S = some (.ok (.d (.lst (rD n (repI f g c u)))), S) := call_atF rfl (v_repl hc hn hu su sf sg S)
theorem st_Put2 {f1 g1 f2 g2 fv : DL.Env → M SV} {env : DL.Env} {x y : D} {S S1 S2 S3 : Store} (h : fv env S = some (.ok (.d (.tup [x, y])), S1)) (h1 : putV f1 g1 x env S1 = some S2) (h2 : putV f2 g2 y env S2 = some S3) : sPut2 f1 g1 f2 g2 fv env S = some (.nx env, S3) := by
  unfold sPut2 lift
  rw [h]; dsimp only; rw [h1]; dsimp only; rw [h2]
theorem putV_at {fo fi : DL.Env → M SV} {env : DL.Env} {x : D} {S : Store} {k : Nat} {n : Nat} {l : List D} (h1 : fo env S = some (.ok (.ptr k), S)) (h2 : fi env S = some (.ok (.d (.int (n : Nat))), S)) (h3 : S[k]? = some l) (h4 : n < l.length) : putV fo fi x env S = some (S.set k (l.set n x)) := by
  unfold putV
  rw [h1]; dsimp only; rw [h2]; dsimp only; rw [h3]; dsimp only; rw [ixN_nat h4]
section
variable {R m c q : Nat} {φ : Nat → BL.Vec} {φv : BL.Vec} {t : BL.Ts} {X : D} {S0 J : Store}
/-- the table in its store -/
abbrev tabSt (R m : Nat) (φ : Nat → BL.Vec) (φv : BL.Vec) (t : BL.Ts) (X : D) (S0 J : Store) : Store := S0 ++ [tabO t.s.u S0.length (bdD R φv t) X] :: frD R t :: tdD m t :: J
theorem tabS_of (h : LinesAt (tabSt R m φ φv t X S0 J) X (lnsD R m φ t)) : TabS R m φ φv S0.length t X (tabSt R m φ φv t X S0 J) := ⟨st_0, st_1, st_2, h⟩
theorem ent_bd (l : BL.Legit R m φ φv t c q) (g : BL.Gd R m φ t) (x : BL.Vec) : rD (R + 2) (repI (fun k => t.s.lam R k x) (fun k => t.s.lam R k (φ (t.td q))) c t.s.u) = rD (R + 2) fun k => (t.next R φ c q).s.lam R k x := by
  unfold rD
  rw [rI_congr fun k hk => ?_]
  rw [l.ent g (by omega)]
  rfl
theorem exch_at (hR : R ≤ 900) (hm : m ≤ 900) (l : BL.Legit R m φ φv t c q) (g : BL.Gd R m φ t) (B : Bnd R m φ φv t) (hL : LinesAt (tabSt R m φ φv t X S0 J) X (lnsD R m φ t)) :
    m_Table_exchange [.obj S0.length, .d (.int (q : Nat)), .d (.int (c : Nat))] (tabSt R m φ φv t X S0 J) =
      some (.ok (.grow (.d .non)), tabSt R m φ φv (t.next R φ c q) (.own (S0.length + 3 + J.length)) S0 (J ++ [lnsD R m φ (t.next R φ c q)])) := by
  have hc := l.hc
  have hq := l.hq
  have hu : t.s.u ≠ 0 := by have := g.inv.cr.pos; omega
  let S := tabSt R m φ φv t X S0 J
  have T : TabS R m φ φv S0.length t X S := tabS_of hL
  let gq : Nat → Int := fun k => t.s.lam R k (φ (t.td q))
  let used : SV := .d (.lst (lnD R φ t q))
  let E3 : DL.Env := [some (.obj S0.length), some (.d (.int (q : Nat))), some (.d (.int (c : Nat))), some used, none, none]
  let E : DL.Env := [some (.obj S0.length), some (.d (.int (q : Nat))), some (.d (.int (c : Nat))), some used, some (.ptr (S0.length + 3 + J.length)), none]
  have sgq : ∀ k, k < R + 2 → Sm 4000 (gq k) := fun k hk => B.ln k q (by omega) hq
  refine fnU_nx (env1 := E) rfl ?_
  show y_Table_exchange [some (.obj S0.length), some (.d (.int (q : Nat))), some (.d (.int (c : Nat))), none, none, none] S = _
  unfold y_Table_exchange
  rw [st_SeqN (env' := E3) (st_Set (a_op (f_lines rfl T.ob) (a_var rfl) (lines_ix T.ln lns_clsd (lns_get hq))))]
  -- the new lines
  obtain ⟨kk, w1, w2⟩ := lines_walk T.ln lns_clsd
  let L1 : List D := (List.range m).map fun i => .lst (rD (R + 2) (repI (fun k => t.s.lam R k (φ (t.td i))) gq c t.s.u))
  have hlen : S.length = S0.length + 3 + J.length := by show (S0 ++ _ :: _ :: _ :: J).length = _; simp; omega
  have comp : (eLcOwn [5] (.one 5) (iOf (eUn (oFld okF "lines") (eVar 0))) tYesD (eCall asPure m_replaced [] (aCons (eVar 5) (aCons (eVar 3) (aCons (eVar 2) (aCons (eUn (oFld okF "unit") (eVar 0)) aNil)))))) E3 S = some (.ok (.ptr (S0.length + 3 + J.length)), S ++ [L1]) := by
    rw [lcGO (fun i : Nat => D.lst (lnD R φ t i)) (fun _ => true) (fun i => .lst (rD (R + 2) (repI (fun k => t.s.lam R k (φ (t.td i))) gq c t.s.u))) (kk := kk) (by
      rw [ev_iOf, bnd_at (f_lines rfl T.ob)]
      exact w1) w2 (fun i hi => ⟨[some (.obj S0.length), some (.d (.int (q : Nat))), some (.d (.int (c : Nat))), some used, none, some (.d (.lst (lnD R φ t i)))], rfl, fun acc => rfl, fun _ acc =>
        a_call (a_cons (a_var rfl) (a_cons (a_var rfl) (a_cons (a_var rfl) (a_cons (tf_unit (i := 0) (k := S0.length) (u := t.s.u) rfl (by rw [List.getElem?_append_left (List.getElem?_eq_some_iff.mp T.ob).1]; exact T.ob)) a_nil))))
          (c_repl (by omega) (by omega) hu B.u (fun k hk => B.ln k i (by omega) (List.mem_range.mp hi)) sgq _)⟩) (by rw [List.length_range]; omega), List.filter_eq_self.mpr (fun _ _ => rfl), hlen]
  rw [st_SeqN (env' := E) (st_Set comp)]
  have eS : S ++ [L1] = tabSt R m φ φv t X S0 (J ++ [L1]) := by show (S0 ++ _ :: _ :: _ :: J) ++ [L1] = S0 ++ _ :: _ :: _ :: (J ++ [L1]); simp
  rw [eS]
  -- the bound
  have eb := ent_bd l g φv
  have hb : (eCall asPure m_replaced [] (aCons (eUn (oFld okF "bound") (eVar 0)) (aCons (eVar 3) (aCons (eVar 2) (aCons (eUn (oFld okF "unit") (eVar 0)) aNil))))) E (tabSt R m φ φv t X S0 (J ++ [L1])) = some (.ok (.d (.lst (bdD R φv (t.next R φ c q)))), tabSt R m φ φv t X S0 (J ++ [L1])) := by
    have := a_call (env := E) (S := tabSt R m φ φv t X S0 (J ++ [L1])) (a_cons (f_bound (i := 0) (k := S0.length) (u := t.s.u) (bd := bdD R φv t) (X := X) rfl st_0) (a_cons (a_var (i := 3) rfl) (a_cons (a_var (i := 2) rfl) (a_cons (tf_unit (i := 0) (k := S0.length) (u := t.s.u) (bd := bdD R φv t) (X := X) rfl st_0) a_nil)))) (c_repl (n := R + 2) (c := c) (f := fun k => t.s.lam R k φv) (g := gq) (u := t.s.u) (by omega) (by omega) hu B.u (fun k hk => B.bd k (by omega)) sgq _)
    rw [eb] at this
    exact this
  generalize hB' : bdD R φv (t.next R φ c q) = Bd at hb
  rw [st_SeqN ((st_SetF (x := .lst Bd) (c := "Table") (k := S0.length) (fs := tf) (l := [.int t.s.u, .own (S0.length + 1), .own (S0.length + 2), .lst (bdD R φv t), X]) hb rfl st_0 ⟨ok_tf _ (by simp), by decide⟩).trans (by rw [pu_bound, set_0]))]
  -- the used line
  let S2 : Store := S0 ++ [tabO t.s.u S0.length Bd X] :: frD R t :: tdD m t :: (J ++ [L1])
  have ul : (eOp oAdd (eOp oAdd (eSl (eVar 3) pNone (pSome (eVar 2))) (eArg mkLst (aCons (eUn oNeg (eUn (oFld okF "unit") (eVar 0))) aNil))) (eSl (eVar 3) (pSome (eOp oAdd (eVar 2) (eC (.int 1)))) pNone)) E S2 = some (.ok (.d (.lst (rD (R + 2) fun k => if k = c then -t.s.u else gq k))), S2) := by
    have s1 : (eSl (eVar 3) pNone (pSome (eVar 2))) E S2 = some (.ok (.d (.lst ((rD (R + 2) gq).take c))), S2) := by
      refine at_ret ?_ S2
      rw [ev_Sl, ev_Var (sv := used) rfl, bnd_ret', ev_pN, bnd_ret', ev_pSi (i := (c : Nat)) _ rfl, bnd_ret']
      show oSl (.d (.lst (rD (R + 2) gq))) none (some (c : Nat)) = _
      rw [oSl_l, cut_to' _ (by rw [rD_len]; omega)]
    have s2 : (eSl (eVar 3) (pSome (eOp oAdd (eVar 2) (eC (.int 1)))) pNone) E S2 = some (.ok (.d (.lst ((rD (R + 2) gq).drop (c + 1)))), S2) := by
      refine at_ret ?_ S2
      rw [ev_Sl, ev_Var (sv := used) rfl, bnd_ret', ev_pSi (i := ((c + 1 : Nat) : Int)) _ rfl, bnd_ret', ev_pN, bnd_ret']
      show oSl (.d (.lst (rD (R + 2) gq))) (some ((c + 1 : Nat) : Int)) none = _
      rw [oSl_l, cut_from' _ (by rw [rD_len]; omega)]
    have s3 : (eArg mkLst (aCons (eUn oNeg (eUn (oFld okF "unit") (eVar 0))) aNil)) E S2 = some (.ok (.d (.lst [.int (-t.s.u)])), S2) := a_arg (a_cons (a_un (tf_unit rfl st_0) rfl) a_nil) rfl
    refine a_op (a_op s1 s3 (at_ret (oAdd_ll (by rw [List.length_take, rD_len]; simp; omega)) S2)) s2 ?_
    rw [at_ret (oAdd_ll (by rw [List.length_append, List.length_take, List.length_drop, rD_len]; simp; omega)) S2, cut_mid (by omega)]
  have setJ : ∀ (o f d x y : List D), (S0 ++ o :: f :: d :: (J ++ [x])).set (S0.length + 3 + J.length) y = S0 ++ o :: f :: d :: (J ++ [y]) := fun o f d x y => by
    rw [List.set_append_right _ _ (by omega), show S0.length + 3 + J.length - S0.length = J.length + 3 by omega]
    show S0 ++ (o :: f :: d :: (J ++ [x]).set J.length y) = _
    rw [List.set_append_right _ _ (Nat.le_refl _), Nat.sub_self]
    rfl
  have getJ : ∀ (o f d x : List D), (S0 ++ o :: f :: d :: (J ++ [x]))[S0.length + 3 + J.length]? = some x := fun o f d x => by rw [st_3]; simp
  have hL2 : L1.set q (.lst (rD (R + 2) fun k => if k = c then -t.s.u else gq k)) = lnsD R m φ (t.next R φ c q) := by
    refine List.ext_getElem? fun i => ?_
    by_cases hi : i < m
    · rw [lns_get hi]
      by_cases e : i = q
      · subst e
        rw [List.getElem?_set_self (by show i < ((List.range m).map _).length; rw [List.length_map, List.length_range]; exact hi)]
        unfold lnD rD
        rw [rI_congr fun k hk => ?_]
        rw [show (t.next R φ c i).td i = t.s.fr c from if_pos rfl, l.ent g (by omega)]
        by_cases hk2 : k = c
        · subst hk2
          rw [if_pos rfl, if_pos rfl, g.inv.self hc]
        · rw [if_neg hk2, if_neg hk2, g.inv.self hc, g.inv.free0 (k := k) (by omega) ⟨c, hc, rfl⟩ (fun j hj ej z => hk2 (by rw [← z]; exact g.inv.inj hj hc ej))]
          rw [Int.zero_mul, Int.zero_add, Int.mul_fdiv_cancel _ hu]
      · rw [List.getElem?_set_ne (fun z => e z.symm)]
        show ((List.range m).map _)[i]? = _
        rw [List.getElem?_map, List.getElem?_range hi]
        show some (D.lst (rD (R + 2) (repI (fun k => t.s.lam R k (φ (t.td i))) gq c t.s.u))) = _
        rw [ent_bd l g]
        unfold lnD
        rw [show (t.next R φ c q).td i = t.td i from if_neg e]
    · rw [List.getElem?_eq_none (by rw [List.length_set]; show ((List.range m).map _).length ≤ i; rw [List.length_map, List.length_range]; omega), List.getElem?_eq_none (by unfold lnsD; rw [List.length_map, List.length_range]; omega)]
  generalize hLn : lnsD R m φ (t.next R φ c q) = Ln at hL2
  rw [st_SeqN (env' := E) (S' := S0 ++ [tabO t.s.u S0.length Bd X] :: frD R t :: tdD m t :: (J ++ [Ln])) (by
    show sSetI _ _ _ E S2 = _
    rw [st_SetI (k := S0.length + 3 + J.length) (n := (q : Nat)) (l := L1) (j := q) ul (a_var rfl) (a_var rfl) (getJ _ _ _ _) (ixN_nat (by show q < ((List.range m).map _).length; rw [List.length_map, List.length_range]; exact hq)), hL2, setJ])]
  rw [st_SeqN ((st_SetFO (j := S0.length + 3 + J.length) (c := "Table") (k := S0.length) (fs := tf) (l := [.int t.s.u, .own (S0.length + 1), .own (S0.length + 2), .lst Bd, X]) (a_var rfl) rfl st_0 ⟨ok_tf _ (by simp), by decide⟩).trans (by rw [pu_lines, set_0]))]
  rw [st_SeqN ((st_SetF (x := .int (-gq c)) (c := "Table") (k := S0.length) (fs := tf) (l := [.int t.s.u, .own (S0.length + 1), .own (S0.length + 2), .lst Bd, .own (S0.length + 3 + J.length)]) (a_un (a_op (a_var rfl) (a_var rfl) (at_ret (oIdx_l (rD_at (show c < R + 2 by omega))) _)) rfl) rfl st_0 ⟨ok_tf _ (by simp), by decide⟩).trans (by rw [pu_unit, set_0]))]
  -- the swap
  let ob : List D := [.ins "Table" tf [.int (-gq c), .own (S0.length + 1), .own (S0.length + 2), .lst Bd, .own (S0.length + 3 + J.length)]]
  have fo : ∀ f d K, (S0 ++ ob :: f :: d :: K)[S0.length]? = some [tabO (-gq c) S0.length Bd (.own (S0.length + 3 + J.length))] := fun f d K => st_0
  show sPut2 _ _ _ _ _ E (S0 ++ ob :: frD R t :: tdD m t :: (J ++ [Ln])) = _
  refine (st_Put2 (x := .int (t.td q : Nat)) (y := .int (t.s.fr c : Nat)) (S1 := S0 ++ ob :: frD R t :: tdD m t :: (J ++ [Ln])) (S2 := S0 ++ ob :: (frD R t).set c (.int (t.td q : Nat)) :: tdD m t :: (J ++ [Ln])) (S3 := S0 ++ ob :: (frD R t).set c (.int (t.td q : Nat)) :: (tdD m t).set q (.int (t.s.fr c : Nat)) :: (J ++ [Ln])) ?_ ?_ ?_).trans ?_
  · exact a_arg (a_cons (a_op (f_tied rfl (fo _ _ _)) (a_var rfl) (oIdx_p st_2 (rD_at hq) (clsd_ints _))) (a_cons (a_op (f_free rfl (fo _ _ _)) (a_var rfl) (oIdx_p st_1 (rD_at (show c < R + 1 by omega)) (clsd_ints _))) a_nil)) rfl
  · rw [putV_at (k := S0.length + 1) (n := c) (l := frD R t) (f_free rfl (fo _ _ _)) (a_var rfl) st_1 (by unfold frD; rw [rD_len]; omega), set_1]
  · rw [putV_at (k := S0.length + 2) (n := q) (l := tdD m t) (f_tied rfl (fo _ _ _)) (a_var rfl) st_2 (by unfold tdD; rw [rD_len]; exact hq), set_2]
  have e1 : (frD R t).set c (.int (t.td q : Nat)) = frD R (t.next R φ c q) := by
    unfold frD
    rw [rD_set]
    unfold rD
    rw [rI_congr fun k hk => ?_]
    show _ = (((if k = c then t.td q else t.s.fr k : Nat)) : Int)
    split <;> rfl
  have e2 : (tdD m t).set q (.int (t.s.fr c : Nat)) = tdD m (t.next R φ c q) := by
    unfold tdD
    rw [rD_set]
    unfold rD
    rw [rI_congr fun k hk => ?_]
    show _ = (((if k = q then t.s.fr c else t.td k : Nat)) : Int)
    split <;> rfl
  rw [e1, e2]
  show some (O.nx E, S0 ++ ob :: _) = some (O.nx E, S0 ++ [tabO (-gq c) S0.length (bdD R φv (t.next R φ c q)) _] :: _)
  rw [hB']
  rfl
end
end Lw
namespace Lw
open PySem L2 DL
def pick (n : Nat) (f g : Nat → Int) (v : Int) : Int := match (List.range n).find? fun k => decide (f k = v) with
  | some k => g k
  | none => 0
theorem pick_of {n k : Nat} {f g : Nat → Int} {v : Int} (hk : k < n) (e : f k = v) (inj : ∀ i j, i < n → j < n → f i = f j → i = j) : pick n f g v = g k := by
  unfold pick
  rcases h : (List.range n).find? fun k => decide (f k = v) with _ | q
  · have := List.find?_eq_none.mp h k (List.mem_range.mpr hk)
    simp [e] at this
  · have h1 := List.find?_some h
    have h2 := List.mem_range.mp (List.mem_of_find?_eq_some h)
    have h3 : f q = v := by simpa using h1
    rw [inj q k h2 hk (h3.trans e.symm)]
theorem pick_no {n : Nat} {f g : Nat → Int} {v : Int} (h : ∀ k, k < n → f k ≠ v) : pick n f g v = 0 := by
  unfold pick
  rw [List.find?_eq_none.mpr fun k hk => by simpa using h k (List.mem_range.mp hk)]
theorem keyL_ints : ∀ l : List Int, keyL (l.map D.int) = some (l.map Sum.inl)
  | [] => rfl
  | a :: l => by
    rw [List.map_cons]
    unfold keyL
    rw [keyL_ints l]
    rfl
theorem zip_rI (n n' : Nat) (h : n ≤ n') (f g : Nat → Int) : ((rI n f).map Sum.inl : List Key).zip (rD n' g) = (List.range n).map fun k => ((Sum.inl (f k) : Key), D.int (g k)) := by
  refine List.ext_getElem? fun i => ?_
  by_cases hi : i < n
  · rw [List.getElem?_zip_eq_some (z := ((Sum.inl (f i) : Key), D.int (g i))) |>.mpr ⟨by rw [List.getElem?_map, rI_get hi]; rfl, rD_get (by omega)⟩, List.getElem?_map, List.getElem?_range hi]
    rfl
  · rw [List.getElem?_eq_none (by rw [List.length_zip, List.length_map, rI_len, rD_len]; omega), List.getElem?_eq_none (by rw [List.length_map, List.length_range]; omega)]
theorem valK_pick (n : Nat) (f g : Nat → Int) (v : Int) : valK ((List.range n).map fun k => ((Sum.inl (f k) : Key), D.int (g k))) (Sum.inl v) = ((List.range n).find? fun k => decide (f k = v)).map fun k => D.int (g k) := by
  unfold valK
  rw [List.find?_map, Option.map_map]
  have : (fun k => decide ((Sum.inl (f k) : Key) = Sum.inl v)) = fun k => decide (f k = v) := by
    funext k
    congr 1
    exact propext ⟨fun e => Sum.inl.inj e, fun e => by rw [e]⟩
  show Option.map _ (List.find? (fun k => decide ((Sum.inl (f k) : Key) = Sum.inl v)) _) = _
  rw [this]
  rfl
theorem v_nums {n n' many : Nat} {f g : Nat → Int} {first : Int} {x y : SV} {S : Store} (hx : noExc [x] = true) (hy : noExc [y] = true) (h1 : items S x = some (rD n f)) (h2 : items S y = some (rD n' g)) (hn : n ≤ n') (hm : many ≤ 1000) (inj : ∀ i j, i < n → j < n → f i = f j → i = j) :
    m_numbers_of [x, y, .d (.int first), .d (.int (many : Nat))] S = some (.ok (.fresh (rD many fun i => pick n f g (first + (i : Nat)))), S) := by
  have kf : ((List.range n).map fun k => ((Sum.inl (f k) : Key), D.int (g k))).map (·.1) = (rI n f).map Sum.inl := by
    unfold rI; rw [List.map_map, List.map_map]; rfl
  have kg : ((List.range n).map fun k => ((Sum.inl (f k) : Key), D.int (g k))).map (·.2) = rD n g := by
    rw [rD_eq, List.map_map]; rfl
  have nd : ((rI n f).map (Sum.inl : Int → Key)).Nodup := by
    unfold rI
    rw [List.map_map]
    refine List.pairwise_map.mpr ?_
    have base := List.nodup_range (n := n)
    refine List.Pairwise.imp_of_mem (fun {a b} ha hb hne e => hne (inj a b (List.mem_range.mp ha) (List.mem_range.mp hb) (Sum.inl.inj e))) base
  let dk : D := .dkk ((rI n f).map Sum.inl) (rD n g)
  have body : y_numbers_of [some x, some y, some (.d (.int first)), some (.d (.int (many : Nat))), none, none] S = some (.rt (.ptr S.length), S ++ [rD many fun i => pick n f g (first + (i : Nat))]) := by
    unfold y_numbers_of
    rw [st_SeqN (env' := [some x, some y, some (.d (.int first)), some (.d (.int (many : Nat))), some (.d dk), none]) (st_Set (a_arg (a_cons (a_var rfl) (a_cons (a_var rfl) a_nil)) (by
      unfold bDictZ
      dsimp only
      rw [h1, h2]
      dsimp only
      rw [keyL_ints]
      dsimp only
      rw [zip_rI n n' hn, kf, kg, if_pos nd])))]
    refine st_Ret ?_
    rw [lcGO (fun i : Nat => D.int (i : Nat)) (fun _ => true) (fun i => .int (pick n f g (first + (i : Nat)))) (kk := none) (a_arg (a_cons (a_var rfl) a_nil) (at_ret (walk_range (by omega)) S)) trivial (fun i _ => ⟨[some x, some y, some (.d (.int first)), some (.d (.int (many : Nat))), some (.d dk), some (.d (.int (i : Nat)))], rfl, fun acc => rfl, fun _ acc => by
      show (bnd (bnd (DL.ret (SV.d dk)) isDkk) fun x => bnd (oAdd (.d (.int first)) (.d (.int (i : Nat)))) fun y => bnd (DL.ret (SV.d (.int 0))) fun z => oGetK x y z) (S ++ [acc]) = _
      rw [bnd_ret', show isDkk (.d dk) = DL.ret (SV.d dk) from rfl, bnd_ret', oAdd_i, bnd_ret', bnd_ret']
      show (match valK (((rI n f).map Sum.inl).zip (rD n g)) (Sum.inl (first + (i : Nat))) with
        | some d => DL.ret (SV.d d)
        | none => DL.ret (SV.d (.int 0))) (S ++ [acc]) = _
      rw [zip_rI n n (Nat.le_refl _), valK_pick]
      unfold pick
      cases (List.range n).find? fun k => decide (f k = first + (i : Nat)) <;> rfl⟩) (by rw [List.length_range]; omega), List.filter_eq_self.mpr (fun _ _ => rfl), rD_eq]
  have hl : [x, y, .d (.int first), .d (.int (many : Nat))].length = 4 := rfl
  exact (fn_retP (np := 4) (n := 6) (body := y_numbers_of) (k := S.length) (x := rD many fun i => pick n f g (first + (i : Nat))) (S1 := S ++ [rD many fun i => pick n f g (first + (i : Nat))]) hl body (Nat.le_refl _) (by simp)).trans (by rw [List.take_left' rfl])
theorem low_call {l : List Int} {cv : RR → M SV} (hl : l.length ≤ 1000) (hs : ∀ n ∈ l, Sm 4000 n) (S : Store) : m_lowest [.d (.lst (l.map D.int))] S = some (.ok (.fresh ((lowI l).map D.int)), S) := v_lowest (.d (.lst (l.map D.int))) l (by omega) hs rfl (fun S => rfl) S
end Lw
namespace Lw
open PySem L2 DL
def mixN (R m : Nat) (φv : BL.Vec) (t : BL.Ts) : List Int := rI (m + 1) fun j => BL.coef R φv t.s (R + j)
def dualN (R : Nat) (φ : Nat → BL.Vec) (t : BL.Ts) : List Int := rI R fun i => t.s.lam R (R + 1) (φ i)
def rayN (R : Nat) (φ : Nat → BL.Vec) (t : BL.Ts) (c : Nat) : List Int := rI R fun i => t.s.lam R c (φ i)
def bestD (R m : Nat) (φ : Nat → BL.Vec) (φv : BL.Vec) (t : BL.Ts) : D := .tup [.str "best", .lst ((lowI (mixN R m φv t)).map D.int), ratD (t.s.lam R (R + 1) φv) t.s.u, .int ((lowI (t.s.u :: dualN R φ t)).headD 0), .lst ((lowI (t.s.u :: dualN R φ t)).tail.map D.int)]
def noneD (R : Nat) (φ : Nat → BL.Vec) (t : BL.Ts) (c : Nat) : D := .tup [.str "none", .lst ((lowI (rayN R φ t c)).map D.int)]
section
variable {R m c : Nat} {φ : Nat → BL.Vec} {φv : BL.Vec} {t : BL.Ts} {X : D} {S0 J : Store}
theorem coef_pick (g : BL.Gd R m φ t) (j : Nat) : pick (R + 1) (fun k => (t.s.fr k : Nat)) (fun k => t.s.lam R k φv) ((R : Int) + (j : Nat)) = BL.coef R φv t.s (R + j) := by
  by_cases h : t.s.free R (R + j)
  · obtain ⟨k, hk, e⟩ := h
    rw [pick_of (k := k) (by omega) (by show (t.s.fr k : Int) = _; omega) (fun i j hi hj e => g.inv.inj (by omega) (by omega) (by exact_mod_cast e)), ← e, g.coef_fr hk]
  · rw [BL.coef_no h, pick_no fun k hk e => h ⟨k, by omega, by exact_mod_cast e⟩]
theorem dual_pick (g : BL.Gd R m φ t) {i : Nat} (hi : i < R) : pick m (fun k => (t.td k : Nat)) (fun k => t.s.lam R (R + 1) (φ (t.td k))) (0 + (i : Nat)) = t.s.lam R (R + 1) (φ i) := by
  rw [Int.zero_add]
  rcases g.cover i (by omega) with h | ⟨k, hk, e⟩
  · rw [pick_no fun k hk e => (g.td k hk).2 (by have : t.td k = i := (by exact_mod_cast e); rw [this]; exact h), g.inv.val0 h]
  · rw [pick_of (k := k) hk (by exact_mod_cast e) (fun i j hi hj e => g.inj i j hi hj (by exact_mod_cast e)), e]
theorem ray_pick (g : BL.Gd R m φ t) (hc : c ≤ R) {i : Nat} (hi : i < R) : pick (m + 1) (fun k => if k < m then (t.td k : Int) else (t.s.fr c : Nat)) (fun k => if k < m then t.s.lam R c (φ (t.td k)) else t.s.u) (0 + (i : Nat)) = t.s.lam R c (φ i) := by
  rw [Int.zero_add]
  have fc : t.s.free R (t.s.fr c) := ⟨c, hc, rfl⟩
  have inj : ∀ i j, i < m + 1 → j < m + 1 → (if i < m then (t.td i : Int) else (t.s.fr c : Nat)) = (if j < m then (t.td j : Int) else (t.s.fr c : Nat)) → i = j := fun i j hi hj e => by
    by_cases h1 : i < m <;> by_cases h2 : j < m
    · rw [if_pos h1, if_pos h2] at e; exact g.inj i j h1 h2 (by exact_mod_cast e)
    · rw [if_pos h1, if_neg h2] at e
      exact absurd fc (by have : t.td i = t.s.fr c := (by exact_mod_cast e); rw [← this]; exact (g.td i h1).2)
    · rw [if_neg h1, if_pos h2] at e
      exact absurd fc (by have : t.s.fr c = t.td j := (by exact_mod_cast e); rw [this]; exact (g.td j h2).2)
    · omega
  rcases g.cover i (by omega) with h | ⟨k, hk, e⟩
  · by_cases e : i = t.s.fr c
    · rw [pick_of (k := m) (by omega) (by rw [if_neg (Nat.lt_irrefl m), e]) inj, if_neg (Nat.lt_irrefl m), e, g.inv.self hc]
    · rw [pick_no fun k hk z => ?_, g.inv.free0 (k := c) (by omega) h fun j hj ej w => e (by rw [← ej, w])]
      by_cases hk2 : k < m
      · rw [if_pos hk2] at z
        exact (g.td k hk2).2 (by have : t.td k = i := (by exact_mod_cast z); rw [this]; exact h)
      · rw [if_neg hk2] at z
        exact e (by exact_mod_cast z.symm)
  · rw [pick_of (k := k) (by omega) (by rw [if_pos hk]; exact_mod_cast e) inj, if_pos hk, e]
structure Bnd2 (R m : Nat) (φ : Nat → BL.Vec) (φv : BL.Vec) (t : BL.Ts) : Prop where
  b : Bnd R m φ φv t
  f : ∀ k i, k ≤ R + 1 → i < R + 1 + m → Sm 4000 (t.s.lam R k (φ i))
  c : ∀ j, Sm 4000 (BL.coef R φv t.s j)
theorem best_at (hR : R ≤ 900) (hm : m ≤ 900) (g : BL.Gd R m φ t) (B : Bnd2 R m φ φv t) (hL : LinesAt (tabSt R m φ φv t X S0 J) X (lnsD R m φ t)) :
    m_best_answer [.obj S0.length, .d (.int (R : Nat)), .d (.int ((m + 1 : Nat) : Int))] (tabSt R m φ φv t X S0 J) = some (.ok (.d (bestD R m φ φv t)), tabSt R m φ φv t X S0 J) := by
  let S := tabSt R m φ φv t X S0 J
  have T : TabS R m φ φv S0.length t X S := tabS_of hL
  have hu : t.s.u ≠ 0 := by have := g.inv.cr.pos; omega
  let o : Option SV := some (.obj S0.length)
  let r : Option SV := some (.d (.int (R : Nat)))
  let mm : Option SV := some (.d (.int ((m + 1 : Nat) : Int)))
  let mx : D := .lst ((lowI (mixN R m φv t)).map D.int)
  let cs : D := .lst (rD m fun i => t.s.lam R (R + 1) (φ (t.td i)))
  have n1 : callM asPure m_numbers_of [.ptr (S0.length + 1), .d (.lst (bdD R φv t)), .d (.int (R : Nat)), .d (.int ((m + 1 : Nat) : Int))] S = some (.ok (.d (.lst ((mixN R m φv t).map D.int))), S) := by
    have h := v_nums (n := R + 1) (n' := R + 2) (many := m + 1) (f := fun k => (t.s.fr k : Nat)) (g := fun k => t.s.lam R k φv) (first := (R : Nat)) (x := .ptr (S0.length + 1)) (y := .d (.lst (bdD R φv t))) (S := S) rfl rfl (cellC_of T.fr (clsd_ints _)) rfl (by omega) (by omega) (fun i j hi hj e => g.inv.inj (by omega) (by omega) (by exact_mod_cast e))
    have e : rD (m + 1) (fun i => pick (R + 1) (fun k => (t.s.fr k : Nat)) (fun k => t.s.lam R k φv) ((R : Int) + (i : Nat))) = (mixN R m φv t).map D.int := by
      unfold rD mixN
      rw [rI_congr fun i _ => coef_pick g i]
    rw [e] at h
    exact call_atF rfl h
  have n2 : callM asPure m_numbers_of [.ptr (S0.length + 2), .d cs, .d (.int 0), .d (.int (R : Nat))] S = some (.ok (.d (.lst ((dualN R φ t).map D.int))), S) := by
    have h := v_nums (n := m) (n' := m) (many := R) (f := fun k => (t.td k : Nat)) (g := fun k => t.s.lam R (R + 1) (φ (t.td k))) (first := 0) (x := .ptr (S0.length + 2)) (y := .d cs) (S := S) rfl rfl (cellC_of T.td (clsd_ints _)) rfl (Nat.le_refl _) (by omega) (fun i j hi hj e => g.inj i j hi hj (by exact_mod_cast e))
    have e : rD R (fun i => pick m (fun k => (t.td k : Nat)) (fun k => t.s.lam R (R + 1) (φ (t.td k))) (0 + (i : Nat))) = (dualN R φ t).map D.int := by
      unfold rD dualN
      rw [rI_congr fun i hi => dual_pick g hi]
    rw [e] at h
    exact call_atF rfl h
  have s1 : ∀ n ∈ mixN R m φv t, Sm 4000 n := fun n hn => by obtain ⟨j, _, rfl⟩ := rI_mem.mp hn; exact B.c _
  have s2 : ∀ n ∈ t.s.u :: dualN R φ t, Sm 4000 n := fun n hn => by
    rcases List.mem_cons.mp hn with e | hn
    · rw [e]; exact B.b.u
    · obtain ⟨j, hj, rfl⟩ := rI_mem.mp hn; exact B.f _ _ (Nat.le_refl _) (by omega)
  obtain ⟨kk, w1, w2⟩ := lines_walk T.ln lns_clsd
  refine fn_retE (S1 := S) rfl ?_ rfl
  show y_best_answer [o, r, mm, none, none, none, none, none] S = _
  unfold y_best_answer
  rw [st_SeqN (env' := [o, r, mm, some (.d mx), none, none, none, none]) (st_Set (a_call (a_cons (a_call (a_cons (f_free rfl T.ob) (a_cons (f_bound rfl T.ob) (a_cons (a_var rfl) (a_cons (a_var rfl) a_nil)))) n1) a_nil) (call_atF rfl (low_call (cv := asPure) (by unfold mixN; rw [rI_len]; omega) s1 S))))]
  rw [st_SeqN (env' := [o, r, mm, some (.d mx), some (.d cs), none, none, none]) (S' := S) (st_Set (by
    rw [lcG (fun i : Nat => D.lst (lnD R φ t i)) (fun _ => true) (fun i => .int (t.s.lam R (R + 1) (φ (t.td i)))) (kk := kk) (by
      rw [ev_iOf, bnd_at (f_lines rfl T.ob)]
      exact w1) w2 (fun i _ => ⟨[o, r, mm, some (.d mx), none, some (.d (.lst (lnD R φ t i))), none, none], rfl, fun acc => rfl, fun _ acc => a_op (a_var rfl) (a_un (a_c _) rfl) (at_ret (oIdx_l rD_last) _)⟩) (by rw [List.length_range]; omega), List.filter_eq_self.mpr (fun _ _ => rfl)]
    show _ = some (DL.R.ok (SV.d (.lst (rD m fun i => t.s.lam R (R + 1) (φ (t.td i))))), S)
    rw [rD_eq]))]
  have l2 : (lowI (t.s.u :: dualN R φ t)).length = R + 1 := by rw [low_len, List.length_cons]; unfold dualN; rw [rI_len]
  obtain ⟨s, am, el⟩ : ∃ s am, lowI (t.s.u :: dualN R φ t) = s :: am := by
    cases h : lowI (t.s.u :: dualN R φ t) with
    | nil => rw [h] at l2; cases l2
    | cons s am => exact ⟨s, am, rfl⟩
  have lw : (eCall asPure m_lowest [] (aCons (eOp oAdd (eArg mkLst (aCons (eUn (oFld okF "unit") (eVar 0)) aNil)) (eCall asPure m_numbers_of [] (aCons (eUn (oFld okF "tied") (eVar 0)) (aCons (eVar 4) (aCons (eC (.int 0)) (aCons (eVar 1) aNil)))))) aNil)) [o, r, mm, some (.d mx), some (.d cs), none, none, none] S = some (.ok (.d (.lst (D.int s :: am.map D.int))), S) := by
    refine a_call (a_cons (a_op (a_arg (a_cons (tf_unit rfl T.ob) a_nil) rfl) (a_call (a_cons (f_tied rfl T.ob) (a_cons (a_var rfl) (a_cons (a_c _) (a_cons (a_var rfl) a_nil)))) n2) (at_ret (oAdd_ll (by unfold dualN; rw [List.length_map, rI_len]; simp; omega)) S)) a_nil) ?_
    have := call_atF (m := m_lowest) (as := [.d (.lst ((t.s.u :: dualN R φ t).map D.int))]) rfl (low_call (cv := asPure) (by rw [List.length_cons]; unfold dualN; rw [rI_len]; omega) s2 S)
    rw [el] at this
    exact this
  rw [st_SeqN (env' := [o, r, mm, some (.d mx), some (.d cs), none, some (.d (.int s)), some (.d (.lst (am.map D.int)))]) (S' := S) (by
    unfold sStar lift
    rw [lw]
    dsimp only
    rw [if_pos (by rw [List.length_map]; rw [el, List.length_cons] at l2; omega)]
    rfl)]
  have rt : (eCall asPure m_ratio [] (aCons (eOp oIdx (eUn (oFld okF "bound") (eVar 0)) (eUn oNeg (eC (.int 1)))) (aCons (eUn (oFld okF "unit") (eVar 0)) aNil))) [o, r, mm, some (.d mx), some (.d cs), none, some (.d (.int s)), some (.d (.lst (am.map D.int)))] S = some (.ok (.d (ratD (t.s.lam R (R + 1) φv) t.s.u)), S) :=
    a_call (a_cons (a_op (f_bound rfl T.ob) (a_un (a_c _) rfl) (at_ret (oIdx_l rD_last) S)) (a_cons (tf_unit rfl T.ob) a_nil)) (at_ret (call_pure rfl (v_ratio hu B.b.u)) S)
  refine st_Ret (a_arg (a_cons (a_c _) (a_cons (a_var rfl) (a_cons rt (a_cons (a_var rfl) (a_cons (a_var rfl) a_nil))))) ?_)
  unfold bestD
  rw [el]
  rfl
theorem endless_at (hR : R ≤ 900) (hm : m ≤ 900) (hc : c ≤ R) (g : BL.Gd R m φ t) (B : Bnd2 R m φ φv t) (hL : LinesAt (tabSt R m φ φv t X S0 J) X (lnsD R m φ t)) :
    m_endless_amounts [.obj S0.length, .d (.int (c : Nat)), .d (.int (R : Nat))] (tabSt R m φ φv t X S0 J) = some (.ok (.fresh ((lowI (rayN R φ t c)).map D.int)), tabSt R m φ φv t X S0 J) := by
  let S := tabSt R m φ φv t X S0 J
  have T : TabS R m φ φv S0.length t X S := tabS_of hL
  let o : Option SV := some (.obj S0.length)
  let cc : Option SV := some (.d (.int (c : Nat)))
  let r : Option SV := some (.d (.int (R : Nat)))
  let f : Nat → Int := fun k => if k < m then (t.td k : Int) else (t.s.fr c : Nat)
  let gg : Nat → Int := fun k => if k < m then t.s.lam R c (φ (t.td k)) else t.s.u
  have ef : tdD m t ++ [.int (t.s.fr c : Nat)] = rD (m + 1) f := by
    rw [rD_snoc]
    unfold tdD rD
    rw [rI_congr fun k hk => (if_pos hk).symm, show f m = (t.s.fr c : Nat) from if_neg (Nat.lt_irrefl m)]
  have eg : rD m (fun i => t.s.lam R c (φ (t.td i))) ++ [.int t.s.u] = rD (m + 1) gg := by
    rw [rD_snoc]
    unfold rD
    rw [rI_congr fun k hk => (if_pos hk).symm, show gg m = t.s.u from if_neg (Nat.lt_irrefl m)]
  obtain ⟨kk, w1, w2⟩ := lines_walk T.ln lns_clsd
  have inj : ∀ i j, i < m + 1 → j < m + 1 → f i = f j → i = j := fun i j hi hj e => by
    have fc : t.s.free R (t.s.fr c) := ⟨c, hc, rfl⟩
    by_cases h1 : i < m <;> by_cases h2 : j < m
    · simp only [f, if_pos h1, if_pos h2] at e; exact g.inj i j h1 h2 (by exact_mod_cast e)
    · simp only [f, if_pos h1, if_neg h2] at e
      exact absurd fc (by have : t.td i = t.s.fr c := (by exact_mod_cast e); rw [← this]; exact (g.td i h1).2)
    · simp only [f, if_neg h1, if_pos h2] at e
      exact absurd fc (by have : t.s.fr c = t.td j := (by exact_mod_cast e); rw [this]; exact (g.td j h2).2)
    · omega
  have n1 : callM asPure m_numbers_of [.d (.lst (rD (m + 1) f)), .d (.lst (rD (m + 1) gg)), .d (.int 0), .d (.int (R : Nat))] S = some (.ok (.d (.lst ((rayN R φ t c).map D.int))), S) := by
    have h := v_nums (n := m + 1) (n' := m + 1) (many := R) (f := f) (g := gg) (first := 0) (x := .d (.lst (rD (m + 1) f))) (y := .d (.lst (rD (m + 1) gg))) (S := S) rfl rfl rfl rfl (Nat.le_refl _) (by omega) inj
    have e : rD R (fun i => pick (m + 1) f gg (0 + (i : Nat))) = (rayN R φ t c).map D.int := by
      unfold rD rayN
      rw [rI_congr fun i hi => ray_pick g hc hi]
    rw [e] at h
    exact call_atF rfl h
  have s1 : ∀ n ∈ rayN R φ t c, Sm 4000 n := fun n hn => by obtain ⟨j, hj, rfl⟩ := rI_mem.mp hn; exact B.f _ _ (by omega) (by omega)
  have body : y_endless_amounts [o, cc, r, none, none, none] S = some (.rt (.ptr S.length), S ++ [(lowI (rayN R φ t c)).map D.int]) := by
    unfold y_endless_amounts
    rw [st_SeqN (env' := [o, cc, r, some (.d (.lst (rD (m + 1) f))), none, none]) (S' := S) (st_Set (a_op (f_tied rfl T.ob) (a_arg (a_cons (a_op (f_free rfl T.ob) (a_var rfl) (oIdx_p T.fr (rD_at (show c < R + 1 by omega)) (clsd_ints _))) a_nil) rfl) (by
      show (match items S (.ptr (S0.length + 2)), items S (.d (.lst [.int (t.s.fr c : Nat)])) with
        | some l, some m => if l.length + m.length ≤ lim then some (DL.R.ok (SV.d (D.lst (l ++ m))), S) else none
        | _, _ => none) = _
      rw [show items S (.ptr (S0.length + 2)) = some (tdD m t) from cellC_of T.td (clsd_ints _)]
      dsimp only [items]
      rw [if_pos (by unfold tdD; rw [rD_len]; simp [lim]; omega), ef])))]
    have lc : (eLc [5] (.one 5) (iOf (eUn (oFld okF "lines") (eVar 0))) tYesD (eOp oIdx (eVar 5) (eVar 1))) [o, cc, r, some (.d (.lst (rD (m + 1) f))), none, none] S = some (.ok (.d (.lst (rD m fun i => t.s.lam R c (φ (t.td i))))), S) := by
      rw [lcG (fun i : Nat => D.lst (lnD R φ t i)) (fun _ => true) (fun i => .int (t.s.lam R c (φ (t.td i)))) (kk := kk) (by
        rw [ev_iOf, bnd_at (f_lines rfl T.ob)]
        exact w1) w2 (fun i _ => ⟨[o, cc, r, some (.d (.lst (rD (m + 1) f))), none, some (.d (.lst (lnD R φ t i)))], rfl, fun acc => rfl, fun _ acc => a_op (a_var rfl) (a_var rfl) (at_ret (oIdx_l (rD_at (show c < R + 2 by omega))) _)⟩) (by rw [List.length_range]; omega), List.filter_eq_self.mpr (fun _ _ => rfl), rD_eq]
    rw [st_SeqN (env' := [o, cc, r, some (.d (.lst (rD (m + 1) f))), some (.d (.lst (rD (m + 1) gg))), none]) (S' := S) (st_Set (a_op lc (a_arg (a_cons (tf_unit rfl T.ob) a_nil) rfl) (by
      rw [at_ret (oAdd_ll (by rw [rD_len]; simp; omega)) S, eg])))]
    refine st_Ret (a_call (a_cons (a_call (a_cons (a_var rfl) (a_cons (a_var rfl) (a_cons (a_c _) (a_cons (a_var rfl) a_nil)))) n1) a_nil) ?_)
    exact call_atO rfl (low_call (cv := asOwn) (by unfold rayN; rw [rI_len]; omega) s1 S)
  exact (fn_retP (as := [.obj S0.length, .d (.int (c : Nat)), .d (.int (R : Nat))]) (np := 3) (n := 6) (body := y_endless_amounts) (k := S.length) (x := (lowI (rayN R φ t c)).map D.int) (S1 := S ++ [(lowI (rayN R φ t c)).map D.int]) rfl body (Nat.le_refl _) (by simp)).trans (by rw [List.take_left' rfl])
end
end Lw
namespace Lw
open PySem L2 DL
theorem seq_wh {T : DL.Env → M Bool} {B G : SM} {env env2 : DL.Env} {S S1 S2 : Store} {r} (h : T env S = some (.ok true, S1)) (h2 : B env S1 = some (.nx env2, S2)) (h3 : sSeq (whE T B) G env2 S2 = some r) : sSeq (whE T B) G env S = some r := by
  unfold sSeq at h3 ⊢
  rcases e : whE T B env2 S2 with _ | ⟨o, S3⟩
  · rw [e] at h3; cases h3
  · rw [whE_t h h2 e]
    rw [e] at h3
    exact h3
theorem seq_rt {F G : SM} {env : DL.Env} {S S1 : Store} {v : SV} (h : F env S = some (.rt v, S1)) : sSeq F G env S = some (.rt v, S1) := by
  unfold sSeq; rw [h]
theorem least_of {P : Nat → Prop} (f : Nat → Nat) : ∀ (n : Nat), (∃ c, P c ∧ f c = n) → ∃ c, P c ∧ ∀ d, P d → f c ≤ f d := by
  intro n
  induction n using Nat.strongRecOn with
  | ind n ih =>
    intro ⟨c, hc, e⟩
    by_cases h : ∃ d, P d ∧ f d < f c
    · obtain ⟨d, hd, hl⟩ := h
      exact ih (f d) (by omega) ⟨d, hd, rfl⟩
    · exact ⟨c, hc, fun d hd => Nat.not_lt.mp fun z => h ⟨d, hd, z⟩⟩
section
variable {R m c : Nat} {φ : Nat → BL.Vec} {φv : BL.Vec} {t : BL.Ts}
theorem best_some (c : Nat) : ∀ i, ∃ o, BestL R φ t c i o
  | 0 => ⟨none, fun p hp => absurd hp (Nat.not_lt_zero _)⟩
  | i + 1 => by
    obtain ⟨o, h⟩ := best_some c i
    exact ⟨_, best_next h⟩
theorem best_uniq (g : BL.Gd R m φ t) {o o' : Option Nat} (h : BestL R φ t c m o) (h' : BestL R φ t c m o') : o = o' := by
  cases o with
  | none =>
    cases o' with
    | none => rfl
    | some q => have := h q h'.1; have := h'.2.1; omega
  | some q =>
    cases o' with
    | none => have := h' q h.1; have := h.2.1; omega
    | some q' =>
      obtain ⟨a1, a2, a3⟩ := h
      obtain ⟨b1, b2, b3⟩ := h'
      have x := a3 q' b1 b2
      have y := b3 q a1 a2
      have e := Int.le_antisymm x.1 y.1
      have l1 := x.2 e
      have l2 := y.2 e.symm
      rw [g.inj q q' a1 b1 (Nat.le_antisymm l1 l2)]
def GoodR (R m : Nat) (φ : Nat → BL.Vec) (φv : BL.Vec) (res : D) : Prop :=
  (∃ t c, BL.Gd R m φ t ∧ c ≤ R ∧ t.s.lam R c φv < 0 ∧ (∀ i, i < m → 0 ≤ t.s.lam R c (φ (t.td i))) ∧ res = noneD R φ t c) ∨
  (∃ t, BL.Gd R m φ t ∧ (∀ i, i ≤ R → 0 ≤ t.s.lam R i φv) ∧ res = bestD R m φ φv t)
noncomputable abbrev gT : DL.Env → M Bool := eTst (eOp oNotN (eVar 3) (eC .non))
noncomputable abbrev gB : SM := (sSeq (sSet 4 (eMethB "Table" "leaving" asPure m_Table_leaving (eVar 2) (aCons (eVar 3) aNil)))
    (sSeq (sIf (eTst (eOp oIsN (eVar 4) (eC .non))) (sRet (eArg mkTup (aCons (eC (.str "none")) (aCons (eCall asPure m_endless_amounts [] (aCons (eVar 2) (aCons (eVar 3) (aCons (eArg bLen (aCons (eVar 0) aNil)) aNil)))) aNil)))) sNop)
    (sSeq (sDrop (eMethB "Table" "exchange" asPure m_Table_exchange (eVar 2) (aCons (eVar 4) (aCons (eVar 3) aNil))))
    (sSet 3 (eMethB "Table" "entering" asPure m_Table_entering (eVar 2) aNil)))))
noncomputable abbrev gE : SM := sRet (eCall asOwn m_best_answer [] (aCons (eVar 2) (aCons (eArg bLen (aCons (eVar 0) aNil)) (aCons (eArg bLen (aCons (eVar 1) aNil)) aNil))))
theorem c_meth0 {c name : Str} {cv : RR → M SV} {m : Fn} {f : DL.Env → M SV} {env : DL.Env} {S S3 : Store} {z : SV} {k : Nat} {fs : List Str} {l : List D} (h1 : f env S = some (.ok (.obj k), S)) (h2 : S[k]? = some [.ins c fs l]) (hn : (c == c && !fs.contains name) = true) (h4 : callM cv m [.obj k] S = some (.ok z, S3)) : eMethB c name cv m f aNil env S = some (.ok z, S3) := a_meth h1 h2 hn a_nil h4
theorem grow_call {m : Fn} {as : List SV} {S S1 : Store} {cv : RR → M SV} (hc : CvOk cv) (hn : noExc as = true) (h : m as S = some (.ok (.grow (.d .non)), S1)) : callM cv m as S = some (.ok (.d .non), S1) := by
  unfold callM
  rw [if_pos hn]
  unfold bnd
  rw [h]
  rcases hc with rfl | rfl <;> rfl
theorem run_at (hR : R ≤ 900) (hm : m ≤ 900) (hB : ∀ t, BL.Gd R m φ t → Bnd2 R m φ φv t) (h : BL.Halts R m φ φv t) (g : BL.Gd R m φ t) : ∃ res, GoodR R m φ φv res ∧ ∀ (S0 J : Store) (X : D) (rs gs : SV) (x4 : Option SV) (colv : D),
    bLen [rs] = ret (.d (.int (R : Nat))) → bLen [gs] = ret (.d (.int ((m + 1 : Nat) : Int))) → LinesAt (tabSt R m φ φv t X S0 J) X (lnsD R m φ t) → m_Table_entering [.obj S0.length] (tabSt R m φ φv t X S0 J) = some (.ok (.d colv), tabSt R m φ φv t X S0 J) →
    ∃ rest, sSeq (whE gT gB) gE [some rs, some gs, some (.obj S0.length), some (.d colv), x4] (tabSt R m φ φv t X S0 J) = some (.rt (.d res), S0 ++ rest) := by
  induction h with
  | mk t hn ih =>
    have B := hB t g
    have fin : ∀ i j, i ≤ R → j ≤ R → t.s.fr i = t.s.fr j → i = j := fun i j hi hj e => g.inv.inj hi hj e
    have rsOf : ∀ (S0 J : Store) (X : D), tabSt R m φ φv t X S0 J = S0 ++ ([tabO t.s.u S0.length (bdD R φv t) X] :: frD R t :: tdD m t :: J) := fun S0 J X => rfl
    by_cases hcol : ∃ c, c ≤ R ∧ t.s.lam R c φv < 0
    · obtain ⟨c0, h0, h1⟩ := hcol
      obtain ⟨c, ⟨hc, hb⟩, hl⟩ := least_of (P := fun c => c ≤ R ∧ t.s.lam R c φv < 0) t.s.fr _ ⟨c0, ⟨h0, h1⟩, rfl⟩
      have colEq : ∀ {S0 J : Store} {X colv : D}, LinesAt (tabSt R m φ φv t X S0 J) X (lnsD R m φ t) → m_Table_entering [.obj S0.length] (tabSt R m φ φv t X S0 J) = some (.ok (.d colv), tabSt R m φ φv t X S0 J) → colv = .int (c : Nat) := fun hL he => by
        rcases enter_at (by omega) (tabS_of hL) fin with ⟨z, _⟩ | ⟨c', h2, h3, h4, h5⟩
        · have := z c hc; omega
        · rw [h5] at he
          have e : c' = c := fin _ _ h2 hc (Nat.le_antisymm (h4 c hc hb) (hl c' ⟨h2, h3⟩))
          rw [e] at he
          cases he
          rfl
      obtain ⟨o, ho⟩ := best_some (R := R) (φ := φ) (t := t) c m
      have leave : ∀ {S0 J : Store} {X : D}, LinesAt (tabSt R m φ φv t X S0 J) X (lnsD R m φ t) → m_Table_leaving [.obj S0.length, .d (.int (c : Nat))] (tabSt R m φ φv t X S0 J) = some (.ok (.d (optS o)), tabSt R m φ φv t X S0 J) := fun hL => by
        obtain ⟨o', h1, h2⟩ := leave_at (tabS_of hL) B.b hc
        rw [best_uniq g h1 ho] at h2
        exact h2
      cases o with
      | none =>
        refine ⟨noneD R φ t c, .inl ⟨t, c, g, hc, hb, ho, rfl⟩, fun S0 J X rs gs x4 colv hr hg hL he => ?_⟩
        obtain rfl := colEq hL he
        refine ⟨[tabO t.s.u S0.length (bdD R φv t) X] :: frD R t :: tdD m t :: J, seq_rt (whE_rt (S1 := tabSt R m φ φv t X S0 J) (a_tst (b := true) rfl) ?_)⟩
        unfold gB
        rw [st_SeqN (env' := [some rs, some gs, some (.obj S0.length), some (.d (.int (c : Nat))), some (.d .non)]) (st_Set (a_meth (a_var rfl) st_0 (noF_tf nf2) (a_cons (a_var rfl) a_nil) (call_at' (.inl rfl) rfl (leave hL))))]
        refine st_SeqR ?_
        rw [st_IfT (a_tst (b := true) rfl)]
        refine st_Ret (a_arg (a_cons (a_c _) (a_cons (a_call (a_cons (a_var rfl) (a_cons (a_var rfl) (a_cons (a_arg (a_cons (a_var rfl) a_nil) (at_ret hr _)) a_nil))) (call_atF rfl (endless_at hR hm hc g B hL))) a_nil)) rfl)
      | some q =>
        obtain ⟨b1, b2, b3⟩ := ho
        have l : BL.Legit R m φ φv t c q := ⟨hc, b1, hb, fun k hk hn => hl k ⟨hk, hn⟩, b2, b3⟩
        have g' := g.next l
        obtain ⟨res, gd, run⟩ := ih c q l g'
        refine ⟨res, gd, fun S0 J X rs gs x4 colv hr hg hL he => ?_⟩
        obtain rfl := colEq hL he
        have ex := exch_at hR hm l g B.b hL
        let X' : D := .own (S0.length + 3 + J.length)
        let J' := J ++ [lnsD R m φ (t.next R φ c q)]
        have hL' : LinesAt (tabSt R m φ φv (t.next R φ c q) X' S0 J') X' (lnsD R m φ (t.next R φ c q)) := .inr ⟨_, rfl, by rw [st_3]; simp [J']⟩
        have en : ∃ colv', m_Table_entering [.obj S0.length] (tabSt R m φ φv (t.next R φ c q) X' S0 J') = some (.ok (.d colv'), tabSt R m φ φv (t.next R φ c q) X' S0 J') := by
          rcases enter_at (by omega) (tabS_of hL') (fun i j hi hj e => g'.inv.inj hi hj e) with ⟨_, z⟩ | ⟨c', _, _, _, z⟩
          · exact ⟨_, z⟩
          · exact ⟨_, z⟩
        obtain ⟨colv', en⟩ := en
        obtain ⟨rest, hrun⟩ := run S0 J' X' rs gs (some (.d (.int (q : Nat)))) colv' hr hg hL' en
        refine ⟨rest, seq_wh (S1 := tabSt R m φ φv t X S0 J) (a_tst (b := true) rfl) ?_ hrun⟩
        unfold gB
        rw [st_SeqN (env' := [some rs, some gs, some (.obj S0.length), some (.d (.int (c : Nat))), some (.d (.int (q : Nat)))]) (st_Set (a_meth (a_var rfl) st_0 (noF_tf nf2) (a_cons (a_var rfl) a_nil) (call_at' (.inl rfl) rfl (leave hL))))]
        rw [st_SeqN (env' := [some rs, some gs, some (.obj S0.length), some (.d (.int (c : Nat))), some (.d (.int (q : Nat)))]) (S' := tabSt R m φ φv t X S0 J) (by rw [st_IfF (a_tst (S1 := tabSt R m φ φv t X S0 J) (b := false) rfl)]; rfl)]
        refine (st_SeqN (env' := [some rs, some gs, some (.obj S0.length), some (.d (.int (c : Nat))), some (.d (.int (q : Nat)))]) (S' := tabSt R m φ φv (t.next R φ c q) X' S0 J') (st_Drop (a_meth (a_var rfl) st_0 (noF_tf nf4) (a_cons (a_var rfl) (a_cons (a_var rfl) a_nil)) (grow_call (.inl rfl) rfl ex)))).trans ?_
        exact st_Set (c_meth0 (a_var rfl) st_0 (noF_tf nf1) (call_at' (.inl rfl) rfl en))
    · have hz : ∀ i, i ≤ R → 0 ≤ t.s.lam R i φv := fun i hi => Int.not_lt.mp fun z => hcol ⟨i, hi, z⟩
      refine ⟨bestD R m φ φv t, .inr ⟨t, g, hz, rfl⟩, fun S0 J X rs gs x4 colv hr hg hL he => ?_⟩
      have : colv = .non := by
        rcases enter_at (by omega) (tabS_of hL) fin with ⟨_, z⟩ | ⟨c', h2, h3, _⟩
        · rw [z] at he; cases he; rfl
        · have := hz c' h2; omega
      subst this
      refine ⟨[tabO t.s.u S0.length (bdD R φv t) X] :: frD R t :: tdD m t :: J, ?_⟩
      rw [st_SeqN (whE_f (S1 := tabSt R m φ φv t X S0 J) (a_tst (b := false) rfl))]
      exact st_Ret (a_call (a_cons (a_var rfl) (a_cons (a_arg (a_cons (a_var rfl) a_nil) (at_ret hr _)) (a_cons (a_arg (a_cons (a_var rfl) a_nil) (at_ret hg _)) a_nil))) (call_at' (.inr rfl) rfl (best_at hR hm g B hL)))
end
structure Dat (R m A : Nat) (a : Nat → Nat → Int) (gl : Nat → Int) : Prop where
  hR : R ≤ 900
  hm : m ≤ 900
  ha : ∀ i j, i < R → j ≤ m → (a i j).natAbs ≤ A
  hg : ∀ j, j ≤ m → (gl j).natAbs ≤ A
  sz : BL.dB (2 * A + 1) (R + 2) < 2 ^ 4000
section
variable {R m A top : Nat} {a : Nat → Nat → Int} {gl : Nat → Int}
theorem Dat.phi (d : Dat R m A a gl) (ht : top ≤ m) : ∀ x, x < R + 1 + m → ∀ r, r < R + 2 → (BL.phi R top a gl x r).natAbs ≤ 2 * A + 1 := fun x hx r hr => by
  unfold BL.phi
  split
  · unfold BL.E; split <;> simp
  · split
    · rename_i h1 h2
      have e1 := d.ha r top h2 ht
      have e2 := d.ha r (x - R) h2 (by omega)
      omega
    · split
      · simp
      · split
        · have e1 := d.hg top ht
          have e2 := d.hg (x - R) (by omega)
          omega
        · simp
theorem Dat.phiv (d : Dat R m A a gl) (ht : top ≤ m) : ∀ r, r < R + 2 → (BL.phiv R top a gl r).natAbs ≤ 2 * A + 1 := fun r hr => by
  unfold BL.phiv
  split
  · rename_i h; have := d.ha r top h ht; omega
  · split
    · simp
    · split
      · have := d.hg top ht; omega
      · simp
theorem Dat.bnd (d : Dat R m A a gl) (ht : top ≤ m) (t : BL.Ts) (g : BL.Gd R m (BL.phi R top a gl) t) : Bnd2 R m (BL.phi R top a gl) (BL.phiv R top a gl) t := by
  have le := fun k x hx => Nat.lt_of_le_of_lt (g.le (k := k) (x := x) (by omega) (d.phi ht) hx) d.sz
  refine ⟨⟨Nat.lt_of_le_of_lt (g.ule (by omega) (d.phi ht)) d.sz, fun k _ => le k _ (d.phiv ht), fun k i _ hi => le k _ (d.phi ht _ (g.td i hi).1)⟩, fun k i _ hi => le k _ (d.phi ht _ (by omega)), fun j => ?_⟩
  by_cases h : t.s.free R j
  · obtain ⟨k, hk, e⟩ := h
    rw [← e, g.coef_fr hk]
    exact le k _ (d.phiv ht)
  · rw [BL.coef_no h]
    exact Nat.two_pow_pos _
end
end Lw
namespace Lw
open PySem L2 DL
theorem v_rowQ (b : Bool) (n k : Nat) (f : Nat → Int) (hn : n ≤ 1000) : callM asPure m_is_row [.d (sq b (rD n f)), .d (.int (k : Nat))] = ret (.d (.bl (decide (n = k)))) := by
  refine call_pure rfl (fn_R rfl ?_)
  let E : DL.Env := [some (.d (sq b (rD n f))), some (.d (.int (k : Nat))), none]
  show (eAnd (eCall asPure m_is_list [] (aCons (eVar 0) aNil)) (eAnd (eOp oEq (eArg bLen (aCons (eVar 0) aNil)) (eVar 1)) (eArg bAll (aCons (eLc [2] (.one 2) (iOf (eVar 0)) tYesD (eCall asPure m_is_whole [] (aCons (eVar 2) aNil))) aNil)))) E = _
  have al := all_whole m_is_whole v_whole E 2 (iOf (eVar 0)) (rD n f) (it_sq rfl) (fun d => ⟨rfl, show 2 < 3 by decide⟩) (fun d hd => by obtain ⟨i, _, rfl⟩ := List.mem_map.mp hd; rfl) (by rw [rD_len]; exact hn)
  have e1 : (eCall asPure m_is_list [] (aCons (eVar 0) aNil)) E = ret (.d (.bl true)) := ev_CallR rfl (list_sq b _)
  have e2 : (eOp oEq (eArg bLen (aCons (eVar 0) aNil)) (eVar 1)) E = ret (.d (.bl (decide (n = k)))) := by
    rw [ev_Op, ev_ArgR (as := [.d (sq b (rD n f))]) rfl (lenG_of b n f), bnd_ret', ev_Var (sv := .d (.int (k : Nat))) rfl, bnd_ret', oEq_i, show decide (((n : Nat) : Int) = ((k : Nat) : Int)) = decide (n = k) from decide_eq_decide.mpr (by omega)]
  rw [ev_And, e1, bnd_ret', asB_b, bnd_ret', if_pos rfl, ev_And, e2, bnd_ret', asB_b, bnd_ret', al, whole_ints]
  by_cases h : n = k
  · rw [decide_eq_true h]; rfl
  · rw [decide_eq_false h]; rfl
section
variable {b : Bool} {R m A : Nat} {a : Nat → Nat → Int} {gl : Nat → Int}
theorem check_ok (hR : R ≤ 900) (hm : m ≤ 900) : m_check_program [.d (sq b (rowsD b R (m + 1) a)), .d (sq b (rD (m + 1) gl))] = ret (.d .non) := by
  funext S
  let E : DL.Env := [some (.d (sq b (rowsD b R (m + 1) a))), some (.d (sq b (rD (m + 1) gl))), none]
  have lG : (eArg bLen (aCons (eVar 1) aNil)) E S = some (.ok (.d (.int ((m + 1 : Nat) : Int))), S) := a_arg (a_cons (a_var rfl) a_nil) (at_ret (lenG_of b (m + 1) gl) S)
  have t1 : (tyOr (tyNot (eTst (eCall asPure m_is_list [] (aCons (eVar 1) aNil)))) (tyOr (eTst (eOp oEq (eArg bLen (aCons (eVar 1) aNil)) (eC (.int 0)))) (tyNot (eTst (eCall asPure m_is_row [] (aCons (eVar 1) (aCons (eArg bLen (aCons (eVar 1) aNil)) aNil))))))) E S = some (.ok false, S) := by
    refine a_orF (a_not (b := true) (a_tst (a_call (a_cons (a_var rfl) a_nil) (at_ret (list_sq b _) S)))) (a_orF (a_tst (a_op lG (a_c _) ?_)) (a_not (b := true) (a_tst (a_call (a_cons (a_var rfl) (a_cons lG a_nil)) ?_))))
    · rw [at_ret (oEq_i _ _) S]
      rw [decide_eq_false (by omega)]
    · rw [at_ret (v_rowQ b (m + 1) (m + 1) gl (by omega)) S]
      rw [decide_eq_true rfl]
  have lc : (eLc [2] (.one 2) (iOf (eVar 0)) tYesD (eCall asPure m_is_row [] (aCons (eVar 2) (aCons (eArg bLen (aCons (eVar 1) aNil)) aNil)))) E = ret (.d (.lst ((List.range R).map fun _ => D.bl true))) := by
    refine lcA_all (fun q => sq b (rD (m + 1) (a q))) (fun _ => .bl true) (it_sq rfl) (fun q _ => ⟨[some (.d (sq b (rowsD b R (m + 1) a))), some (.d (sq b (rD (m + 1) gl))), some (.d (sq b (rD (m + 1) (a q))))], rfl, ?_⟩) (by rw [List.length_range]; omega)
    refine ev_CallR (as := [.d (sq b (rD (m + 1) (a q))), .d (.int ((m + 1 : Nat) : Int))]) ?_ ?_
    · rw [ev_Cons, ev_Var (sv := .d (sq b (rD (m + 1) (a q)))) rfl, bnd_ret', ev_Cons, ev_ArgR (as := [.d (sq b (rD (m + 1) gl))]) rfl (lenG_of b (m + 1) gl), bnd_ret']
      rfl
    · rw [v_rowQ b (m + 1) (m + 1) (a q) (by omega), decide_eq_true rfl]
  have al : (eArg bAll (aCons (eLc [2] (.one 2) (iOf (eVar 0)) tYesD (eCall asPure m_is_row [] (aCons (eVar 2) (aCons (eArg bLen (aCons (eVar 1) aNil)) aNil)))) aNil)) E S = some (.ok (.d (.bl true)), S) := by
    refine a_arg (a_cons (at_ret lc S) a_nil) ?_
    have h2 : ((List.range R).all fun _ => true) = true := by simp
    have h1 := bAll_map (fun _ : Nat => true) (List.range R)
    rw [h2] at h1
    exact at_ret h1 S
  have t2 : (tyOr (tyNot (eTst (eCall asPure m_is_list [] (aCons (eVar 0) aNil)))) (tyNot (eTst (eArg bAll (aCons (eLc [2] (.one 2) (iOf (eVar 0)) tYesD (eCall asPure m_is_row [] (aCons (eVar 2) (aCons (eArg bLen (aCons (eVar 1) aNil)) aNil)))) aNil))))) E S = some (.ok false, S) :=
    a_orF (a_not (b := true) (a_tst (a_call (a_cons (a_var rfl) a_nil) (at_ret (list_sq b _) S)))) (a_not (b := true) (a_tst al))
  have := fn_non (np := 2) (n := 3) (body := y_check_program) (S := S) (env1 := E) (as := [.d (sq b (rowsD b R (m + 1) a)), .d (sq b (rD (m + 1) gl))]) (S1 := S) rfl (by
    show y_check_program E S = _
    unfold y_check_program
    rw [st_SeqN (env' := E) (S' := S) (by rw [st_IfF t1]; rfl), st_IfF t2]
    rfl)
  rw [List.take_length] at this
  exact this
theorem greatest_at (d : Dat R m A a gl) (htop : ∃ top, top < m + 1 ∧ (∀ j, j < m + 1 → gl j ≤ gl top) ∧ ∀ (env : DL.Env) (S : Store), env[2]? = some (some (.d (sq b (rD (m + 1) gl)))) → eIndex (eVar 2) (eArg bMaxL (aCons (eVar 2) aNil)) env S = some (.ok (.d (.int (top : Nat))), S)) :
    ∃ top res, top ≤ m ∧ (∀ j, j ≤ m → gl j ≤ gl top) ∧ GoodR R m (BL.phi R top a gl) (BL.phiv R top a gl) res ∧ m_greatest [.d (sq b (rowsD b R (m + 1) a)), .d (sq b (rD (m + 1) gl))] = ret (.d res) := by
  obtain ⟨top, h1, h2, h3⟩ := htop
  have ht : top ≤ m := by omega
  have g0 : BL.Gd R m (BL.phi R top a gl) (BL.t0 R top) := BL.gd0 ht fun j hj => h2 j (by omega)
  obtain ⟨res, gd, run⟩ := run_at (φ := BL.phi R top a gl) (φv := BL.phiv R top a gl) d.hR d.hm (d.bnd ht) (BL.halts g0) g0
  refine ⟨top, res, ht, fun j hj => h2 j (by omega), gd, ?_⟩
  funext S
  have hR := d.hR
  have hm := d.hm
  let rs : SV := .d (sq b (rowsD b R (m + 1) a))
  let gs : SV := .d (sq b (rD (m + 1) gl))
  let T0 : Store := tabSt R m (BL.phi R top a gl) (BL.phiv R top a gl) (BL.t0 R top) (.lst (lnsD R m (BL.phi R top a gl) (BL.t0 R top))) S []
  have ini := init_at (b := b) (R := R) (m := m) (top := top) (a := a) (gl := gl) (S0 := S) (by omega) (by omega) ht h3
  have hL : LinesAt T0 (.lst (lnsD R m (BL.phi R top a gl) (BL.t0 R top))) (lnsD R m (BL.phi R top a gl) (BL.t0 R top)) := .inl rfl
  have en : ∃ colv, m_Table_entering [.obj S.length] T0 = some (.ok (.d colv), T0) := by
    rcases enter_at (by omega) (tabS_of hL) (fun i j hi hj e => g0.inv.inj hi hj e) with ⟨_, z⟩ | ⟨c', _, _, _, z⟩
    · exact ⟨_, z⟩
    · exact ⟨_, z⟩
  obtain ⟨colv, en⟩ := en
  obtain ⟨rest, hrun⟩ := run S [] _ rs gs none colv (lenR_of b R (m + 1) a) (lenG_of b (m + 1) gl) hL en
  have body : y_greatest [some rs, some gs, none, none, none] S = some (.rt (.d res), S ++ rest) := by
    unfold y_greatest
    rw [st_SeqN (env' := [some rs, some gs, none, none, none]) (S' := S) (st_Drop (a_call (a_cons (a_var rfl) (a_cons (a_var rfl) a_nil)) (at_ret (call_pure rfl (check_ok hR hm)) S)))]
    rw [st_SeqN (env' := [some rs, some gs, some (.obj S.length), none, none]) (S' := T0) (st_Set (a_arg (a_cons (a_var rfl) (a_cons (a_var rfl) a_nil)) (by
      unfold mkO
      rw [if_pos (show noExc [rs, gs] = true from rfl), ini]
      rfl)))]
    rw [st_SeqN (env' := [some rs, some gs, some (.obj S.length), some (.d colv), none]) (S' := T0) (st_Set (c_meth0 (a_var rfl) st_0 (noF_tf nf1) (call_at' (.inl rfl) rfl en)))]
    exact hrun
  exact (fn_ret (np := 2) (n := 5) (body := y_greatest) (as := [rs, gs]) rfl body).trans (by rw [List.take_left' rfl]; rfl)
end
end Lw
namespace Lw
open PySem L2 DL
theorem fn_retZ {S : Store} {np n : Nat} {body : SM} {as : List SV} {k : Nat} {x y : List D} {S1 : Store} (hl : as.length = np) (h : body (as.map some ++ List.replicate (n - as.length) none) S = some (.rt (.ptr k), S1)) (hk : S.length ≤ k) (hx : S1[k]? = some x) (hf : frzL S.length S1 x = some y) (hc : Cal S S1) :
    fnSem np n body as S = some (.ok (.fresh y), S1.take S.length) := by
  unfold fnSem; rw [if_pos hl, h]; dsimp only; rw [if_pos hc, if_neg (by omega), hx]; dsimp only; rw [hf]
theorem PoolOk.mono {n n' : Nat} {l : List D} (h : PoolOk n l) (hn : n ≤ n') : PoolOk n' l := by
  obtain ⟨a, b, c, e, h1, h2, h3⟩ := h
  exact ⟨a, b, c, e, h1, by omega, h3⟩
theorem v_ints (n : Nat) (hn : n ≤ 700000) (many : Nat) (hm : many ≤ 100) (most : Nat) (hmo : most ≤ 100000) (l : List D) (rest : Store) (hp : PoolOk n l) :
    ∃ (l' : List D) (vs : List Int), PoolOk (n + many) l' ∧ vs.length = many ∧ (∀ v ∈ vs, -(most : Int) ≤ v ∧ v ≤ most) ∧ m__law_integers [.ptr 0, .d (.int (many : Nat)), .d (.int (most : Nat))] (l :: rest) = some (.ok (.fresh (vs.map D.int)), l' :: rest) := by
  let E : DL.Env := [some (.ptr 0), some (.d (.int (many : Nat))), some (.d (.int (most : Nat))), none]
  obtain ⟨l', vs, p, h1, h2, e⟩ := comp_loop most hmo (eOp oSub (eCall asPure m__law_take [] (aCons (eVar 0) (aCons (eOp oAdd (eOp oMul (eC (.int 2)) (eVar 2)) (eC (.int 1))) aNil))) (eVar 2)) (.one 3) (rangeD 0 many) E (fun d => ⟨_, rfl⟩) (fun d env1 n l rest h hn hp => by
    cases h
    exact v_num n hn most hmo l rest hp _ rfl rfl) rest (rangeD 0 many) n l [] (by rw [rangeD_length]; omega) (by rw [rangeD_length]; simp only [List.length_nil]; omega) hp
  rw [rangeD_length] at h1 p
  refine ⟨l', vs, p, h1, h2, ?_⟩
  have c1 : (eLcOwn [3] (.one 3) (eArg walkR1 (aCons (eVar 1) aNil)) tYesD (eOp oSub (eCall asPure m__law_take [] (aCons (eVar 0) (aCons (eOp oAdd (eOp oMul (eC (.int 2)) (eVar 2)) (eC (.int 1))) aNil))) (eVar 2))) E (l :: rest) = some (.ok (.ptr (rest.length + 1)), l' :: rest ++ [vs.map D.int]) := by
    unfold eLcOwn
    rw [bnd_at (show (eArg walkR1 (aCons (eVar 1) aNil)) E (l :: rest) = some (.ok (rangeD 0 many, none), l :: rest) from at_ret (ev_ArgR (as := [.d (.int many)]) rfl (walk_n many (by omega))) _)]
    dsimp only
    rw [show wipeE E [3] = E from rfl, show (l :: rest : Store).length = rest.length + 1 from rfl, show (l :: rest : Store) ++ [[]] = l :: rest ++ [[]] from rfl, e]
    simp [clsd_ints]
    exact pool_cal p
  have := fn_retP (np := 3) (n := 4) (body := y__law_integers) (as := [.ptr 0, .d (.int (many : Nat)), .d (.int (most : Nat))]) (S := l :: rest) (k := rest.length + 1) (x := vs.map D.int) (S1 := l' :: rest ++ [vs.map D.int]) rfl (st_Ret c1) (Nat.le_refl _) (by simp) (pool_cal p)
  rw [show (l' :: rest ++ [vs.map D.int] : Store).take (l :: rest).length = l' :: rest by simp] at this
  exact this
def RowI (w : Nat) (B : Int) (d : D) : Prop := ∃ vs : List Int, d = .lst (vs.map D.int) ∧ vs.length = w ∧ ∀ v ∈ vs, -B ≤ v ∧ v ≤ B
def bnd2 (i : Nat) : Int := if i < 2 then 1000 else 2000
def RowsG (w : Nat) (rows : List D) : Prop := ∀ i d, rows[i]? = some d → RowI w (bnd2 i) d
theorem RowI.up {w : Nat} {B B' : Int} {d : D} (h : RowI w B d) (hB : B ≤ B') : RowI w B' d := by
  obtain ⟨vs, e, h1, h2⟩ := h
  exact ⟨vs, e, h1, fun v hv => by have := h2 v hv; omega⟩
theorem RowsG.cmp {w : Nat} {rows : List D} (h : RowsG w rows) : Cmp 2 (.lst rows) := Cmp.lst fun d hd => by
  obtain ⟨i, hi⟩ := List.getElem?_of_mem hd
  obtain ⟨vs, rfl, _⟩ := h i d hi
  exact cmp_ints vs
theorem RowsG.cl {w : Nat} {rows : List D} (h : RowsG w rows) : clsd rows = true := cmp_clsd h.cmp
theorem ne_any {S : Store} {k n m : Nat} {l : List D} {y : D} (h : S[k]? = some l) (c : Cmp n (.lst l)) (c' : Cmp m y) (hn : n ≤ 64) (hm : m ≤ 64) : oNe (.ptr k) (.d y) S = some (.ok (.d (.bl (!eqD (.lst l) y))), S) := by
  unfold oNe; rw [deref_p h (cmp_clsd c)]; dsimp only [deref]; rw [if_pos (c.ok c' hn hm)]
theorem at_0 {l : List D} {d : D} (h : l[0]? = some d) : atI l 0 = some d := atI_nat (i := 0) h
theorem at_1 {l : List D} {d : D} (h : l[1]? = some d) : atI l 1 = some d := atI_nat (i := 1) h
theorem cmp_nil : Cmp 1 (.lst []) := Cmp.lst fun d hd => by cases hd
abbrev Eg (mr mc lg w : Int) (k : Nat) (x6 x7 x8 : Option SV) : DL.Env := [some (.ptr 0), some (.d (.int mr)), some (.d (.int mc)), some (.d (.int lg)), some (.d (.int w)), some (.ptr k), x6, x7, x8, none, none]
section
variable {S : Store} {mr mc lg B : Int} {w k : Nat} {x6 : Option SV} {rows : List D} {kd : Int} {d7 : D}
noncomputable abbrev if0 : SM := (sIf (tyAnd (eTst (eOp oEq (eVar 8) (eC (.int 0)))) (eTst (eOp oNe (eVar 5) (eArg mkLst aNil)))) (sSet 7 (eLc [9] (.one 9) (iOf (eOp oIdx (eVar 5) (eC (.int 0)))) tYesD (eOp oSub (eC (.int 0)) (eVar 9)))) sNop)
noncomputable abbrev if1 : SM := (sIf (tyAnd (eTst (eOp oEq (eVar 8) (eC (.int 1)))) (eTst (eOp oGt (eArg bLen (aCons (eVar 5) aNil)) (eC (.int 1))))) (sSet 7 (eLc [10] (.one 10) (eArg walkR1 (aCons (eVar 4) aNil)) tYesD (eOp oSub (eOp oIdx (eOp oIdx (eVar 5) (eC (.int 0))) (eVar 10)) (eOp oIdx (eOp oIdx (eVar 5) (eC (.int 1))) (eVar 10))))) sNop)
noncomputable abbrev if2 : SM := (sIf (eTst (eOp oEq (eVar 8) (eC (.int 2)))) (sSet 7 (eLc [9] (.one 9) (iOf (eVar 7)) tYesD (eOp oSub (eC (.int 0)) (eArg bAbs (aCons (eVar 9) aNil))))) sNop)
theorem kd_tst (env : DL.Env) (h : env[8]? = some (some (.d (.int kd)))) (v : Int) : (eTst (eOp oEq (eVar 8) (eC (.int v)))) env S = some (.ok (decide (kd = v)), S) :=
  a_tst (a_op (a_var h) (a_c _) (at_ret (oEq_i kd v) S))
theorem g_if0 (hk : S[k]? = some rows) (g : RowsG w rows) (hw : w ≤ 100) (hB : 1000 ≤ B) (h7 : RowI w B d7) :
    ∃ d7', RowI w B d7' ∧ if0 (Eg mr mc lg w k x6 (some (.d d7)) (some (.d (.int kd)))) S = some (.nx (Eg mr mc lg w k x6 (some (.d d7')) (some (.d (.int kd)))), S) := by
  let E : DL.Env := Eg mr mc lg w k x6 (some (.d d7)) (some (.d (.int kd)))
  have t0 := kd_tst (S := S) E rfl 0
  by_cases h0 : kd = 0
  · rw [decide_eq_true h0] at t0
    have ne : (eTst (eOp oNe (eVar 5) (eArg mkLst aNil))) E S = some (.ok (!eqD (.lst rows) (.lst [])), S) := a_tst (a_op (a_var rfl) (show (eArg mkLst aNil) E S = some (.ok (.d (.lst [])), S) from rfl) (ne_any hk g.cmp cmp_nil (by decide) (by decide)))
    cases rows with
    | nil =>
      rw [show (!eqD (.lst []) (.lst [])) = false by decide +kernel] at ne
      exact ⟨d7, h7, (st_IfF (a_andT t0 ne)).trans rfl⟩
    | cons r0 rs =>
      generalize (!eqD (.lst (r0 :: rs)) (.lst [])) = b at ne
      cases b with
      | false => exact ⟨d7, h7, (st_IfF (a_andT t0 ne)).trans rfl⟩
      | true =>
        obtain ⟨vs, e, h1, h2⟩ := g 0 r0 rfl
        have lc : (eLc [9] (.one 9) (iOf (eOp oIdx (eVar 5) (eC (.int 0)))) tYesD (eOp oSub (eC (.int 0)) (eVar 9))) E S = some (.ok (.d (.lst ((vs.map fun v => 0 - v).map D.int))), S) := by
          rw [lcG (ds := vs) D.int (fun _ => true) (fun v => .int (0 - v)) (kk := none) (by
            rw [ev_iOf]
            exact (bnd_at (a_op (a_var (x := .ptr k) rfl) (a_c _) (oIdx_p hk (at_0 rfl) g.cl)) walkD).trans (by rw [e]; rfl)) trivial (fun v _ => ⟨_, rfl, fun acc => rfl, fun _ acc => rfl⟩) (by omega), List.filter_eq_self.mpr (fun _ _ => rfl), List.map_map]
          rfl
        refine ⟨.lst ((vs.map fun v => 0 - v).map D.int), ⟨_, rfl, by rw [List.length_map]; exact h1, fun v hv => ?_⟩, ?_⟩
        · obtain ⟨u, hu, rfl⟩ := List.mem_map.mp hv
          have := h2 u hu
          simp only [bnd2] at this
          omega
        · exact (st_IfT (a_andT t0 ne)).trans (st_Set lc)
  · rw [decide_eq_false h0] at t0
    exact ⟨d7, h7, (st_IfF (a_andF t0)).trans rfl⟩
theorem g_if1 (hk : S[k]? = some rows) (g : RowsG w rows) (hw : w ≤ 100) (hB : 2 ≤ rows.length → 2000 ≤ B) (h7 : RowI w B d7) :
    ∃ d7', RowI w B d7' ∧ if1 (Eg mr mc lg w k x6 (some (.d d7)) (some (.d (.int kd)))) S = some (.nx (Eg mr mc lg w k x6 (some (.d d7')) (some (.d (.int kd)))), S) := by
  let E : DL.Env := Eg mr mc lg w k x6 (some (.d d7)) (some (.d (.int kd)))
  have t0 := kd_tst (S := S) E rfl 1
  by_cases h0 : kd = 1
  · rw [decide_eq_true h0] at t0
    have ln : (eArg bLen (aCons (eVar 5) aNil)) E S = some (.ok (.d (.int (rows.length : Nat))), S) := a_arg (a_cons (a_var rfl) a_nil) (by simp [bLen, seqOf, cellC_of hk g.cl])
    have t1 : (eTst (eOp oGt (eArg bLen (aCons (eVar 5) aNil)) (eC (.int 1)))) E S = some (.ok (decide (1 < (rows.length : Int))), S) := a_tst (a_op ln (a_c _) (at_ret (oGt_i _ _) S))
    by_cases h2 : 2 ≤ rows.length
    · rw [decide_eq_true (by omega)] at t1
      have e0 : rows[0]? = some rows[0] := List.getElem?_eq_getElem (by omega)
      have e1 : rows[1]? = some rows[1] := List.getElem?_eq_getElem (by omega)
      obtain ⟨v0, q0, l0, b0⟩ := g 0 _ e0
      obtain ⟨v1, q1, l1, b1⟩ := g 1 _ e1
      rw [q0] at e0
      rw [q1] at e1
      have lc : (eLc [10] (.one 10) (eArg walkR1 (aCons (eVar 4) aNil)) tYesD (eOp oSub (eOp oIdx (eOp oIdx (eVar 5) (eC (.int 0))) (eVar 10)) (eOp oIdx (eOp oIdx (eVar 5) (eC (.int 1))) (eVar 10)))) E S = some (.ok (.d (.lst (((List.range w).map fun i => v0.getD i 0 - v1.getD i 0).map D.int))), S) := by
        rw [lcG (ds := List.range w) (fun i : Nat => D.int (i : Nat)) (fun _ => true) (fun i => .int (v0.getD i 0 - v1.getD i 0)) (kk := none) (by
          rw [← range_map]
          exact at_ret (ev_ArgR (as := [.d (.int (w : Nat))]) rfl (walk_n w (by omega))) S) trivial (fun i hi => ⟨E.set 10 (some (.d (.int (i : Nat)))), rfl, fun acc => rfl, fun _ acc => by
            have hi := List.mem_range.mp hi
            have hk' : (S ++ [acc])[k]? = some rows := by rw [List.getElem?_append_left (List.getElem?_eq_some_iff.mp hk).1]; exact hk
            exact a_op (a_op (a_op (a_var rfl) (a_c _) (oIdx_p hk' (at_0 e0) g.cl)) (a_var rfl) (at_ret (ix_ints (by omega)) _)) (a_op (a_op (a_var rfl) (a_c _) (oIdx_p hk' (at_1 e1) g.cl)) (a_var rfl) (at_ret (ix_ints (by omega)) _)) rfl⟩) (by rw [List.length_range]; omega), List.filter_eq_self.mpr (fun _ _ => rfl), List.map_map]
        rfl
      refine ⟨.lst (((List.range w).map fun i => v0.getD i 0 - v1.getD i 0).map D.int), ⟨_, rfl, by rw [List.length_map, List.length_range], fun v hv => ?_⟩, ?_⟩
      · obtain ⟨i, hi, rfl⟩ := List.mem_map.mp hv
        have hi := List.mem_range.mp hi
        have a := b0 (v0.getD i 0) (by rw [List.getD_eq_getElem?_getD, List.getElem?_eq_getElem (by omega)]; exact List.getElem_mem _)
        have b := b1 (v1.getD i 0) (by rw [List.getD_eq_getElem?_getD, List.getElem?_eq_getElem (by omega)]; exact List.getElem_mem _)
        simp only [bnd2] at a b
        have := hB h2
        omega
      · exact (st_IfT (a_andT t0 t1)).trans (st_Set lc)
    · rw [decide_eq_false (by omega)] at t1
      exact ⟨d7, h7, (st_IfF (a_andT t0 t1)).trans rfl⟩
  · rw [decide_eq_false h0] at t0
    exact ⟨d7, h7, (st_IfF (a_andF t0)).trans rfl⟩
theorem g_if2 (hw : w ≤ 100) (h7 : RowI w B d7) :
    ∃ d7', RowI w B d7' ∧ if2 (Eg mr mc lg w k x6 (some (.d d7)) (some (.d (.int kd)))) S = some (.nx (Eg mr mc lg w k x6 (some (.d d7')) (some (.d (.int kd)))), S) := by
  let E : DL.Env := Eg mr mc lg w k x6 (some (.d d7)) (some (.d (.int kd)))
  have t0 := kd_tst (S := S) E rfl 2
  by_cases h0 : kd = 2
  · rw [decide_eq_true h0] at t0
    obtain ⟨vs, e, h1, h2⟩ := h7
    have lc : (eLc [9] (.one 9) (iOf (eVar 7)) tYesD (eOp oSub (eC (.int 0)) (eArg bAbs (aCons (eVar 9) aNil)))) E S = some (.ok (.d (.lst ((vs.map fun v => 0 - (if v < 0 then -v else v)).map D.int))), S) := by
      rw [lcG (ds := vs) D.int (fun _ => true) (fun v => .int (0 - (if v < 0 then -v else v))) (kk := none) (by
        rw [ev_iOf]
        exact (bnd_at (a_var (env := E) (i := 7) (x := .d d7) rfl) walkD).trans (by rw [e]; rfl)) trivial (fun v _ => ⟨_, rfl, fun acc => rfl, fun _ acc => rfl⟩) (by omega), List.filter_eq_self.mpr (fun _ _ => rfl), List.map_map]
      rfl
    refine ⟨.lst ((vs.map fun v => 0 - (if v < 0 then -v else v)).map D.int), ⟨_, rfl, by rw [List.length_map]; exact h1, fun v hv => ?_⟩, ?_⟩
    · obtain ⟨u, hu, rfl⟩ := List.mem_map.mp hv
      have := h2 u hu
      split <;> omega
    · exact (st_IfT t0).trans (st_Set lc)
  · rw [decide_eq_false h0] at t0
    exact ⟨d7, h7, (st_IfF t0).trans rfl⟩
end
end Lw
namespace Lw
open PySem L2 DL
noncomputable abbrev gF : SM := (sSeq (sSet 7 (eCall asPure m__law_integers [] (aCons (eVar 0) (aCons (eVar 4) (aCons (eVar 3) aNil)))))
    (sSeq (sSet 8 (eCall asPure m__law_take [] (aCons (eVar 0) (aCons (eC (.int 8)) aNil))))
    (sSeq if0 (sSeq if1 (sSeq if2 (sApp (eVar 5) (eVar 7)))))))
theorem log_le {x : Int} (h : 0 ≤ x) (h2 : x ≤ 1000000) : x.natAbs.log2 < 9000 := log_of h h2
theorem bnd2_ge (i : Nat) : 1000 ≤ bnd2 i := by unfold bnd2; split <;> omega
theorem g_step (mr mc : Int) (lg w : Nat) (hlg : lg ≤ 1000) (hw : w ≤ 100) (n : Nat) (hn : n ≤ 600000) (l : List D) (rest : Store) (rows : List D) (hr : rows.length ≤ 1000) (hp : PoolOk n l) (g : RowsG w rows) (x6 e7 e8 : Option SV) :
    ∃ (l' : List D) (d : D) (x7 x8 : Option SV), PoolOk (n + (w + 1)) l' ∧ RowI w (bnd2 rows.length) d ∧ gF (Eg mr mc lg w (rest.length + 1) x6 e7 e8) (l :: rest ++ [rows]) = some (.nx (Eg mr mc lg w (rest.length + 1) x6 x7 x8), l' :: rest ++ [rows ++ [d]]) := by
  let k := rest.length + 1
  obtain ⟨l1, vs, p1, h1, h2, c1⟩ := v_ints n (by omega) w (by omega) lg (by omega) l (rest ++ [rows]) hp
  obtain ⟨kd, l2, k0, k1, p2, c2⟩ := take_ok (n + w) (by omega) 8 l1 (rest ++ [rows]) (by decide) (by decide) p1
  let S : Store := l2 :: rest ++ [rows]
  have hk : S[k]? = some rows := by simp [S, k]
  have r0 : RowI w (bnd2 rows.length) (.lst (vs.map D.int)) := ⟨vs, rfl, h1, fun v hv => by have := h2 v hv; have := bnd2_ge rows.length; omega⟩
  obtain ⟨d1, r1, q1⟩ := g_if0 (mr := mr) (mc := mc) (lg := lg) (x6 := x6) (kd := kd) hk g hw (bnd2_ge _) r0
  obtain ⟨d2, r2, q2⟩ := g_if1 (mr := mr) (mc := mc) (lg := lg) (x6 := x6) (kd := kd) hk g hw (fun h => by unfold bnd2; rw [if_neg (by omega)]; omega) r1
  obtain ⟨d3, r3, q3⟩ := g_if2 (S := S) (k := k) (mr := mr) (mc := mc) (lg := lg) (x6 := x6) (kd := kd) hw r2
  refine ⟨l2, d3, some (.d d3), some (.d (.int kd)), p2, r3, ?_⟩
  unfold gF
  refine (st_SeqN (env' := Eg mr mc lg w k x6 (some (.d (.lst (vs.map D.int)))) e8) (S' := l1 :: (rest ++ [rows])) (st_Set (a_call (a_cons (a_var rfl) (a_cons (a_var rfl) (a_cons (a_var rfl) a_nil))) (call_atF rfl c1)))).trans ?_
  refine (st_SeqN (env' := Eg mr mc lg w k x6 (some (.d (.lst (vs.map D.int)))) (some (.d (.int kd)))) (S' := S) (st_Set (a_call (a_cons (a_var rfl) (a_cons (a_c _) a_nil)) (call_at rfl c2)))).trans ?_
  refine (st_SeqN q1).trans ((st_SeqN q2).trans ((st_SeqN q3).trans ?_))
  refine (st_App (k := k) (l := rows) (x := d3) (S1 := S) (S2 := S) (a_var rfl) (a_var rfl) hk (by omega)).trans ?_
  simp [S, k]
theorem RowsG.snoc {w : Nat} {rows : List D} {d : D} (g : RowsG w rows) (h : RowI w (bnd2 rows.length) d) : RowsG w (rows ++ [d]) := fun i x hx => by
  by_cases hi : i < rows.length
  · rw [List.getElem?_append_left hi] at hx; exact g i x hx
  · rw [List.getElem?_append_right (by omega)] at hx
    have : i = rows.length := by
      by_cases e : i = rows.length
      · exact e
      · rw [List.getElem?_eq_none (by simp; omega)] at hx; cases hx
    subst this
    simp at hx
    rw [← hx]; exact h
theorem g_loop (mr mc : Int) (lg w : Nat) (hlg : lg ≤ 1000) (hw : w ≤ 100) (all : List D) (rest : Store) : ∀ (ds : List D) (n : Nat) (l rows : List D) (e6 e7 e8 : Option SV), n + (w + 1) * ds.length ≤ 600000 → rows.length + ds.length ≤ 1000 → PoolOk n l → RowsG w rows →
    ∃ (l' rows' : List D) (x6 x7 x8 : Option SV), PoolOk (n + (w + 1) * ds.length) l' ∧ rows'.length = rows.length + ds.length ∧ RowsG w rows' ∧
      forL (.one 6) none all gF ds (Eg mr mc lg w (rest.length + 1) e6 e7 e8) (l :: rest ++ [rows]) = some (.nx (Eg mr mc lg w (rest.length + 1) x6 x7 x8), l' :: rest ++ [rows'])
  | [], n, l, rows, e6, e7, e8, _, _, hp, g => ⟨l, rows, e6, e7, e8, hp, rfl, g, for_nil⟩
  | d :: ds, n, l, rows, e6, e7, e8, hn, hl, hp, g => by
    simp only [List.length_cons] at hn hl
    rw [Nat.mul_succ] at hn
    obtain ⟨l1, r, y7, y8, p1, hr, e⟩ := g_step mr mc lg w hlg hw n (by omega) l rest rows (by omega) hp g (some (.d d)) e7 e8
    obtain ⟨l', rows', x6, x7, x8, p2, h2, g2, e2⟩ := g_loop mr mc lg w hlg hw all rest ds (n + (w + 1)) l1 (rows ++ [r]) (some (.d d)) y7 y8 (by omega) (by simp only [List.length_append, List.length_cons, List.length_nil]; omega) p1 (g.snoc hr)
    refine ⟨l', rows', x6, x7, x8, by rw [List.length_cons, Nat.mul_succ, show n + ((w + 1) * ds.length + (w + 1)) = n + (w + 1) + (w + 1) * ds.length by omega]; exact p2, by rw [h2]; simp only [List.length_append, List.length_cons, List.length_nil]; omega, g2, ?_⟩
    rw [for_nx (env2 := Eg mr mc lg w (rest.length + 1) (some (.d d)) y7 y8) (S2 := l1 :: rest ++ [rows ++ [r]]) rfl e (show keepOk none all _ from trivial)]
    exact e2
/-- rows as numbers by their places -/
theorem rowsG_of {w : Nat} {B : Nat} : ∀ {rows : List D}, (∀ d ∈ rows, RowI w B d) → ∃ a : Nat → Nat → Int, rows = rowsD false rows.length w a ∧ ∀ i j, i < rows.length → j < w → (a i j).natAbs ≤ B := by
  intro rows h
  refine ⟨fun i j => match rows[i]? with
    | some (.lst l) => (match l[j]? with
      | some (.int v) => v
      | _ => 0)
    | _ => 0, ?_, ?_⟩
  · refine List.ext_getElem? fun i => ?_
    unfold rowsD
    by_cases hi : i < rows.length
    · rw [List.getElem?_map, List.getElem?_range hi]
      obtain ⟨vs, e, h1, h2⟩ := h _ (List.getElem_mem hi)
      have e' : rows[i]? = some (.lst (vs.map D.int)) := by rw [List.getElem?_eq_getElem hi, e]
      rw [e']
      show _ = some (D.lst (rD w _))
      congr 2
      show vs.map D.int = (rI w _).map D.int
      congr 1
      refine rI_ext h1 fun j hj => ?_
      dsimp only
      rw [e']
      dsimp only
      rw [List.getElem?_map, List.getElem?_eq_getElem (by omega)]
      rfl
    · rw [List.getElem?_eq_none (by omega), List.getElem?_eq_none (by rw [List.length_map, List.length_range]; omega)]
  · intro i j hi hj
    obtain ⟨vs, e, h1, h2⟩ := h _ (List.getElem_mem hi)
    have e' : rows[i]? = some (.lst (vs.map D.int)) := by rw [List.getElem?_eq_getElem hi, e]
    dsimp only
    rw [e']
    dsimp only
    rw [List.getElem?_map, List.getElem?_eq_getElem (show j < vs.length by omega)]
    dsimp only [Option.map]
    have := h2 _ (List.getElem_mem (show j < vs.length by omega))
    omega
theorem vec_of {w : Nat} {B : Nat} {vs : List Int} (hl : vs.length = w) (hb : ∀ v ∈ vs, -(B : Int) ≤ v ∧ v ≤ B) : ∃ f : Nat → Int, vs = rI w f ∧ ∀ j, j < w → (f j).natAbs ≤ B := by
  refine ⟨fun j => vs.getD j 0, rI_ext hl fun i hi => ?_, fun j hj => ?_⟩
  · rw [List.getD_eq_getElem?_getD, List.getElem?_eq_getElem (by omega)]; rfl
  · dsimp only
    rw [List.getD_eq_getElem?_getD, List.getElem?_eq_getElem (by omega)]
    have := hb _ (List.getElem_mem (show j < vs.length by omega))
    simp only [Option.getD_some]
    omega
theorem pick3n {r : Int} (h0 : 0 ≤ r) (h1 : r < 3) : ∃ lg : Nat, lg ≤ 1000 ∧ atI [D.int 2, .int 9, .int 1000] r = some (.int (lg : Nat)) := by
  have : r = 0 ∨ r = 1 ∨ r = 2 := by omega
  rcases this with rfl | rfl | rfl
  · exact ⟨2, by decide, by simp [atI, ixN]⟩
  · exact ⟨9, by decide, by simp [atI, ixN]⟩
  · exact ⟨1000, by decide, by simp [atI, ixN]⟩
theorem goal_rows (mr mc : Nat) (hmr : mr ≤ 40) (hmc : 1 ≤ mc ∧ mc ≤ 16) (n : Nat) (hn : n ≤ 300000) (l : List D) (rest : Store) (hp : PoolOk n l) :
    ∃ (l' : List D) (R m : Nat) (a : Nat → Nat → Int) (gl : Nat → Int), R ≤ mr ∧ m + 1 ≤ mc ∧ (∀ i j, i < R → j ≤ m → (a i j).natAbs ≤ 2000) ∧ (∀ j, j ≤ m → (gl j).natAbs ≤ 1000) ∧ PoolOk (n + 1000) l' ∧
      m__law_goal_rows [.ptr 0, .d (.int (mr : Nat)), .d (.int (mc : Nat))] (l :: rest) = some (.ok (.fresh [.lst (rowsD false R (m + 1) a), .lst (rD (m + 1) gl)]), l' :: rest) := by
  obtain ⟨r3, l1, a0, a1, p1, c1⟩ := take_ok n (by omega) 3 l rest (by decide) (by decide) hp
  obtain ⟨lg, hlg, e3⟩ := pick3n a0 a1
  obtain ⟨w0, l2, b0, b1, p2, c2⟩ := take_ok (n + 1) (by omega) mc l1 rest (by omega) (log_le (by omega) (by omega)) p1
  obtain ⟨m, rfl⟩ := Int.eq_ofNat_of_zero_le b0
  let w := m + 1
  let k := rest.length + 1
  obtain ⟨cn, l3, d0, d1, p3, c3⟩ := take_ok (n + 1 + 1) (by omega) ((mr : Int) + 1) l2 (rest ++ [[]]) (by omega) (log_le (by omega) (by omega)) p2
  obtain ⟨R, rfl⟩ := Int.eq_ofNat_of_zero_le d0
  have hR : R ≤ mr := by omega
  have hm : m + 1 ≤ mc := by omega
  have hmul : (w + 1) * (rangeD 0 R).length ≤ 17 * 40 := by rw [rangeD_length]; exact Nat.mul_le_mul (by omega) (by omega)
  obtain ⟨l4, rows, x6, x7, x8, p4, h4, g4, c4⟩ := g_loop mr mc lg w hlg (by omega) (rangeD 0 R) rest (rangeD 0 R) (n + 1 + 1 + 1) l3 [] none none none (by omega) (by rw [rangeD_length]; simp only [List.length_nil]; omega) p3 (fun i d hd => by simp at hd)
  rw [rangeD_length, List.length_nil, Nat.zero_add] at h4
  obtain ⟨l5, vs, p5, h5, b5, c5⟩ := v_ints _ (by omega) w (by omega) lg (by omega) l4 (rest ++ [rows]) p4
  obtain ⟨gl, rfl, hg⟩ := vec_of h5 b5
  obtain ⟨a, ea, ha⟩ := rowsG_of (B := 2000) (rows := rows) (w := w) (fun d hd => by
    obtain ⟨i, hi⟩ := List.getElem?_of_mem hd
    exact (g4 i d hi).up (by unfold bnd2; split <;> decide))
  rw [h4] at ea ha
  refine ⟨l5, R, m, a, gl, hR, hm, fun i j hi hj => ha i j hi (by omega), fun j hj => by have := hg j (by omega); omega, p5.mono (by omega), ?_⟩
  let S5 : Store := l5 :: rest ++ [rows]
  let S6 : Store := S5 ++ [[.own k, .lst (rD w gl)]]
  have body : y__law_goal_rows [some (.ptr 0), some (.d (.int (mr : Nat))), some (.d (.int (mc : Nat))), none, none, none, none, none, none, none, none] (l :: rest) = some (.rt (.ptr (k + 1)), S6) := by
    unfold y__law_goal_rows
    refine (st_SeqN (env' := [some (.ptr 0), some (.d (.int (mr : Nat))), some (.d (.int (mc : Nat))), some (.d (.int (lg : Nat))), none, none, none, none, none, none, none]) (S' := l1 :: rest) (st_Set (a_op (S1 := l :: rest) (x := .d (.lst [.int 2, .int 9, .int 1000])) rfl (a_call (a_cons (a_var rfl) (a_cons (a_c _) a_nil)) (call_at rfl c1)) (at_ret (oIdx_l e3) _)))).trans ?_
    refine (st_SeqN (env' := [some (.ptr 0), some (.d (.int (mr : Nat))), some (.d (.int (mc : Nat))), some (.d (.int (lg : Nat))), some (.d (.int (w : Nat))), none, none, none, none, none, none]) (S' := l2 :: rest) (st_Set (a_op (a_c _) (a_call (a_cons (a_var rfl) (a_cons (a_var rfl) a_nil)) (call_at rfl c2)) (by
      rw [oAdd_i, show (1 : Int) + (m : Nat) = ((w : Nat) : Int) by show (1 : Int) + (m : Nat) = ((m + 1 : Nat) : Int); omega]
      rfl)))).trans ?_
    refine (st_SeqN (env' := Eg mr mc lg w k none none none) (S' := l2 :: rest ++ [[]]) (st_Set (show (eArg mkOwn aNil) _ (l2 :: rest) = some (.ok (.ptr k), l2 :: rest ++ [[]]) from rfl))).trans ?_
    refine (st_SeqN (env' := Eg mr mc lg w k x6 x7 x8) (S' := l4 :: rest ++ [rows]) ?_).trans ?_
    · refine (st_For (ds := rangeD 0 R) (kk := none) (S' := l3 :: rest ++ [[]]) ?_).trans c4
      exact a_arg (a_cons (a_call (S1 := l2 :: (rest ++ [[]])) (a_cons (a_var rfl) (a_cons (a_op (a_var rfl) (a_c _) (by rw [oAdd_i]; rfl)) a_nil)) (call_at rfl c3)) a_nil) (at_ret (walk_n R (by omega)) _)
    · refine st_Ret (a_arg (a_cons (a_var (x := .ptr k) rfl) (a_cons (a_call (S1 := l4 :: (rest ++ [rows])) (a_cons (a_var rfl) (a_cons (a_var rfl) (a_cons (a_var rfl) a_nil))) (call_atF rfl c5)) a_nil)) ?_)
      show some (DL.R.ok (SV.ptr (l5 :: (rest ++ [rows])).length), _) = _
      simp [S6, S5, k]
  have hk : S6[k]? = some rows := by simp [S6, S5, k]
  have fr : frzL (l :: rest : Store).length S6 [.own k, .lst (rD w gl)] = some [.lst rows, .lst (rD w gl)] := by
    simp only [frzL, frzD]
    rw [if_neg (by show ¬ k < rest.length + 1; omega), hk]
    dsimp only
    rw [if_pos g4.cl]
  have cal : Cal (l :: rest) S6 := by
    show Cal (l :: rest) ((l5 :: rest ++ [rows]) ++ _)
    rw [List.append_assoc]
    exact pool_cal p5
  have := fn_retZ (np := 3) (n := 11) (body := y__law_goal_rows) (as := [.ptr 0, .d (.int (mr : Nat)), .d (.int (mc : Nat))]) (S := l :: rest) (k := k + 1) (x := [.own k, .lst (rD w gl)]) (S1 := S6) rfl body (by show rest.length + 1 ≤ _; omega) (by simp [S6, S5, k]) fr cal
  rw [show S6.take (l :: rest).length = l5 :: rest by simp [S6, S5], ea] at this
  exact this
end Lw
namespace Lw
open PySem L2 DL
theorem sum_range (n : Nat) (f : Nat → Int) : (rI n f).sum = BL.sumN n f := by
  induction n with
  | zero => rfl
  | succ n ih => rw [rI_snoc, List.sum_append, ih]; simp [BL.sumN]
section
variable {R n : Nat} {a : Nat → Nat → Int} {f : Nat → Int}
/-- the sums of an index -/
def sumsI (R : Nat) (a : Nat → Nat → Int) (f : Nat → Int) (j : Nat) : Int := BL.sumN R fun i => f i * a i j
theorem v_sums (hR : R ≤ 900) (hn : n ≤ 950) (ha : ∀ i j, i < R → j < n → Sm 4000 (a i j)) (hf : ∀ i, i < R → Sm 4000 (f i)) (S : Store) :
    m_sums [.d (.lst (rowsD false R n a)), .d (.lst (rD R f)), .d (.int (n : Nat))] S = some (.ok (.fresh (rD n (sumsI R a f))), S) := by
  let E : DL.Env := [some (.d (.lst (rowsD false R n a))), some (.d (.lst (rD R f))), some (.d (.int (n : Nat))), none, none, none]
  have inn : ∀ j, j < n → ∀ x3, (eArg bSum (aCons (eLc [4, 5] (.many [4, 5]) (eArg walkZ (aCons (eVar 0) (aCons (eVar 1) aNil))) tYesD (eOp oMul (eVar 5) (eOp oIdx (eVar 4) (eVar 3)))) aNil)) [some (.d (.lst (rowsD false R n a))), some (.d (.lst (rD R f))), x3, some (.d (.int (j : Nat))), none, none] = ret (.d (.int (sumsI R a f j))) := fun j hj x3 => by
    have w : (eArg walkZ (aCons (eVar 0) (aCons (eVar 1) aNil))) [some (.d (.lst (rowsD false R n a))), some (.d (.lst (rD R f))), x3, some (.d (.int (j : Nat))), none, none] = ret ((List.range R).map (fun i : Nat => D.tup [.lst (rD n (a i)), .int (f i)]), none) := by
      refine ev_ArgR (as := [.d (.lst (rowsD false R n a)), .d (.lst (rD R f))]) rfl ?_
      unfold walkZ
      dsimp only [seqD]
      rw [if_pos rfl, rD_eq]
      unfold rowsD
      rw [pairD_same]
      rfl
    have lc := lcA_all (ws := [4, 5]) (t := .many [4, 5]) (fe := eOp oMul (eVar 5) (eOp oIdx (eVar 4) (eVar 3))) (fun i : Nat => D.tup [.lst (rD n (a i)), .int (f i)]) (fun i => .int (f i * a i j)) w (fun i hi => ⟨[some (.d (.lst (rowsD false R n a))), some (.d (.lst (rD R f))), x3, some (.d (.int (j : Nat))), some (.d (.lst (rD n (a i)))), some (.d (.int (f i)))], rfl, by
      have hi := List.mem_range.mp hi
      rw [ev_Op, ev_Var (sv := .d (.int (f i))) rfl, bnd_ret', ev_Op, ev_Var (sv := .d (.lst (rD n (a i)))) rfl, bnd_ret', ev_Var (sv := .d (.int (j : Nat))) rfl, bnd_ret', oIdx_l (rD_at hj), bnd_ret', oMul_i (by have h1 := (hf i hi).log (by decide); have h2 := (ha i j hi hj).log (by decide); omega)]⟩) (by rw [List.length_range]; omega)
    rw [ev_Arg, ev_Cons, lc, bnd_ret', ev_Nil, bnd_ret', bnd_ret', ← rD_eq]
    rw [bSum_map, sum_range]
    rfl
  have lc : (eLcOwn [3] (.one 3) (eArg walkR1 (aCons (eVar 2) aNil)) tYesD (eArg bSum (aCons (eLc [4, 5] (.many [4, 5]) (eArg walkZ (aCons (eVar 0) (aCons (eVar 1) aNil))) tYesD (eOp oMul (eVar 5) (eOp oIdx (eVar 4) (eVar 3)))) aNil))) E S = some (.ok (.ptr S.length), S ++ [rD n (sumsI R a f)]) := by
    rw [lcA_allO (ds := List.range n) (fun i : Nat => D.int (i : Nat)) (fun j => .int (sumsI R a f j)) (by
      rw [← range_map]
      exact ev_ArgR (as := [.d (.int (n : Nat))]) rfl (walk_n n (by omega))) (fun j hj => ⟨_, rfl, inn j (List.mem_range.mp hj) _⟩) (by rw [List.length_range]; omega), rD_eq]
  exact fn_F rfl (st_Ret lc)
theorem c_sums (hR : R ≤ 900) (hn : n ≤ 950) (ha : ∀ i j, i < R → j < n → Sm 4000 (a i j)) (hf : ∀ i, i < R → Sm 4000 (f i)) : callM asPure m_sums [.d (.lst (rowsD false R n a)), .d (.lst (rD R f)), .d (.int (n : Nat))] = ret (.d (.lst (rD n (sumsI R a f)))) := call_fr rfl (v_sums hR hn ha hf)
end
end Lw
namespace Lw
open PySem L2 DL
def Sq (S : Store) (x : SV) (l : List D) : Prop := x = .d (.lst l) ∨ x = .d (.tup l) ∨ ∃ k, x = .ptr k ∧ S[k]? = some l ∧ clsd l = true
section
variable {S : Store} {x : SV} {l : List D}
theorem Sq.seq (h : Sq S x l) : seqOf S x = some l := by
  rcases h with rfl | rfl | ⟨k, rfl, q, hc⟩
  · rfl
  · rfl
  · exact cellC_of q hc
theorem Sq.len (h : Sq S x l) : bLen [x] S = some (.ok (.d (.int l.length)), S) := by
  have e := h.seq
  rcases h with rfl | rfl | ⟨k, rfl, q, hc⟩
  · rfl
  · rfl
  · show (match seqOf S (.ptr k) with
      | some l => some (R.ok (SV.d (.int l.length)), S)
      | none => none) = _
    rw [e]
theorem Sq.no (h : Sq S x l) (r : List SV) : noExc (x :: r) = noExc r := by
  rcases h with rfl | rfl | ⟨k, rfl, q⟩ <;> rfl
theorem Sq.own (h : Sq S x l) : bListOwn [x] S = some (.ok (.ptr S.length), S ++ [l]) := by
  show (match seqOf S x with
    | some l => some (R.ok (SV.ptr S.length), S ++ [l])
    | none => none) = _
  rw [h.seq]
theorem Sq.tup (h : Sq S x l) : bTuple [x] S = some (.ok (.d (.tup l)), S) := by
  have e := h.seq
  rcases h with rfl | rfl | ⟨k, rfl, q⟩
  · rfl
  · rfl
  · show (match seqOf S (.ptr k) with
      | some l => some (R.ok (SV.d (.tup l)), S)
      | none => none) = _
    rw [e]
end
def wOk (n : Int) (l : List D) : Bool := (decide ((l.length : Int) = n) && l.all whole) && ((l.map intOf).all (fun i => decide (0 ≤ i)) && (l.map intOf).any (fun i => decide (0 < i)))
theorem Wts.ok {ms ws : List Int} (h : Wts ms ws) : wOk (prodI 1 ms) (ws.map D.int) = true := by
  unfold wOk
  rw [whole_ints, map_intOf, decide_eq_true (by rw [List.length_map]; exact h.n), List.all_eq_true.mpr fun x hx => decide_eq_true (h.nn x hx), List.any_eq_true.mpr (by obtain ⟨n, hn, q⟩ := pos_mem h.pos; exact ⟨n, hn, decide_eq_true q⟩)]
  rfl
end Lw
namespace Lw
open PySem L2 DL
abbrev fnL (l : List Int) : Nat → Int := fun i => l.getD i 0
theorem vec_eq (l : List Int) : l = rI l.length (fnL l) := rI_ext rfl fun i hi => by
  show _ = some (l.getD i 0)
  rw [List.getD_eq_getElem?_getD, List.getElem?_eq_getElem hi]; rfl
theorem fnL_mem {l : List Int} {i : Nat} (h : i < l.length) : fnL l i ∈ l := by
  show l.getD i 0 ∈ l
  rw [List.getD_eq_getElem?_getD, List.getElem?_eq_getElem h]
  exact List.getElem_mem _
theorem len_sqB (b : Bool) (l : List D) : bLen [.d (sq b l)] = ret (.d (.int (l.length : Nat))) := by cases b <;> rfl
theorem zip_sq (b b' : Bool) (l m : List D) : walkZ [.d (sq b l), .d (sq b' m)] = ret (pairD l m, none) := by cases b <;> cases b' <;> rfl
theorem sq_no (b : Bool) (l : List D) (r : List SV) : noExc (.d (sq b l) :: r) = noExc r := by cases b <;> rfl
theorem v_rowI (b : Bool) (l : List Int) (k : Nat) (hl : l.length ≤ 1000) : callM asPure m_is_row [.d (sq b (l.map D.int)), .d (.int (k : Nat))] = ret (.d (.bl (decide (l.length = k)))) := by
  have := v_rowQ b l.length k (fnL l) hl
  unfold rD at this
  rw [← vec_eq] at this
  exact this
theorem v_amB (b : Bool) (rows : List D) (am : List Int) (hl : am.length ≤ 1000) : m_is_amounts [.d (sq b rows), .d (sq b (am.map D.int))] = ret (.d (.bl (decide (am.length = rows.length) && am.all fun x => decide (0 ≤ x)))) := by
  refine fn_R rfl ?_
  let E : DL.Env := [some (.d (sq b rows)), some (.d (sq b (am.map D.int))), none]
  show (eAnd (eCall asPure m_is_row [] (aCons (eVar 1) (aCons (eArg bLen (aCons (eVar 0) aNil)) aNil))) (eArg bAll (aCons (eLc [2] (.one 2) (iOf (eVar 1)) tYesD (eOp oGe (eVar 2) (eC (.int 0)))) aNil))) E = _
  have c1 : (eCall asPure m_is_row [] (aCons (eVar 1) (aCons (eArg bLen (aCons (eVar 0) aNil)) aNil))) E = ret (.d (.bl (decide (am.length = rows.length)))) := by
    refine ev_CallR (as := [.d (sq b (am.map D.int)), .d (.int (rows.length : Nat))]) ?_ (v_rowI b am rows.length hl)
    rw [ev_Cons, ev_Var (sv := .d (sq b (am.map D.int))) rfl, bnd_ret', ev_Cons, ev_ArgR (as := [.d (sq b rows)]) rfl (len_sqB b rows), bnd_ret']
    rfl
  have lc : (eLc [2] (.one 2) (iOf (eVar 1)) tYesD (eOp oGe (eVar 2) (eC (.int 0)))) E = ret (.d (.lst (am.map fun x => .bl (decide (0 ≤ x))))) :=
    lcA_all (ds := am) D.int (fun x => .bl (decide (0 ≤ x))) (it_sq rfl) (fun d _ => ⟨_, rfl, rfl⟩) (by omega)
  have al : (eArg bAll (aCons (eLc [2] (.one 2) (iOf (eVar 1)) tYesD (eOp oGe (eVar 2) (eC (.int 0)))) aNil)) E = ret (.d (.bl (am.all fun x => decide (0 ≤ x)))) := by
    rw [ev_Arg, ev_Cons, lc, bnd_ret', ev_Nil, bnd_ret', bnd_ret']
    exact bAll_map (fun x : Int => decide (0 ≤ x)) am
  rw [ev_And, c1, bnd_ret', asB_b, bnd_ret', al]
  by_cases h : am.length = rows.length
  · rw [decide_eq_true h, if_pos rfl]; rfl
  · rw [decide_eq_false h]; rfl
theorem mul_sm {x y : Int} (h1 : Sm 4000 x) (h2 : Sm 4000 y) : oMul (.d (.int x)) (.d (.int y)) = ret (.d (.int (x * y))) := oMul_i (by have := h1.log (by decide); have := h2.log (by decide); omega)
def dotN (n : Nat) (f g : Nat → Int) : Int := BL.sumN n fun i => f i * g i
section
variable {b : Bool} {R n : Nat} {a : Nat → Nat → Int} {f g gl : Nat → Int}
theorem v_sumsB (b : Bool) (hR : R ≤ 900) (hn : n ≤ 950) (ha : ∀ i j, i < R → j < n → Sm 4000 (a i j)) (hf : ∀ i, i < R → Sm 4000 (f i)) :
    callM asPure m_sums [.d (sq b (rowsD b R n a)), .d (sq b (rD R f)), .d (.int (n : Nat))] = ret (.d (.lst (rD n (sumsI R a f)))) := by
  refine call_fr (by rw [sq_no, sq_no]; rfl) fun S => ?_
  let E : DL.Env := [some (.d (sq b (rowsD b R n a))), some (.d (sq b (rD R f))), some (.d (.int (n : Nat))), none, none, none]
  have inn : ∀ j, j < n → ∀ x3, (eArg bSum (aCons (eLc [4, 5] (.many [4, 5]) (eArg walkZ (aCons (eVar 0) (aCons (eVar 1) aNil))) tYesD (eOp oMul (eVar 5) (eOp oIdx (eVar 4) (eVar 3)))) aNil)) [some (.d (sq b (rowsD b R n a))), some (.d (sq b (rD R f))), x3, some (.d (.int (j : Nat))), none, none] = ret (.d (.int (sumsI R a f j))) := fun j hj x3 => by
    have w : (eArg walkZ (aCons (eVar 0) (aCons (eVar 1) aNil))) [some (.d (sq b (rowsD b R n a))), some (.d (sq b (rD R f))), x3, some (.d (.int (j : Nat))), none, none] = ret ((List.range R).map (fun i : Nat => D.tup [sq b (rD n (a i)), .int (f i)]), none) := by
      refine ev_ArgR (as := [.d (sq b (rowsD b R n a)), .d (sq b (rD R f))]) rfl ?_
      rw [zip_sq, rD_eq]
      unfold rowsD
      rw [pairD_same]
    have lc := lcA_all (ws := [4, 5]) (t := .many [4, 5]) (fe := eOp oMul (eVar 5) (eOp oIdx (eVar 4) (eVar 3))) (fun i : Nat => D.tup [sq b (rD n (a i)), .int (f i)]) (fun i => .int (f i * a i j)) w (fun i hi => ⟨[some (.d (sq b (rowsD b R n a))), some (.d (sq b (rD R f))), x3, some (.d (.int (j : Nat))), some (.d (sq b (rD n (a i)))), some (.d (.int (f i)))], rfl, by
      have hi := List.mem_range.mp hi
      rw [ev_Op, ev_Var (sv := .d (.int (f i))) rfl, bnd_ret', ev_Op, ev_Var (sv := .d (sq b (rD n (a i)))) rfl, bnd_ret', ev_Var (sv := .d (.int (j : Nat))) rfl, bnd_ret', sq_at (rD_at hj), bnd_ret', mul_sm (hf i hi) (ha i j hi hj)]⟩) (by rw [List.length_range]; omega)
    rw [ev_Arg, ev_Cons, lc, bnd_ret', ev_Nil, bnd_ret', bnd_ret', ← rD_eq]
    rw [bSum_map, sum_range]
    rfl
  have lc : (eLcOwn [3] (.one 3) (eArg walkR1 (aCons (eVar 2) aNil)) tYesD (eArg bSum (aCons (eLc [4, 5] (.many [4, 5]) (eArg walkZ (aCons (eVar 0) (aCons (eVar 1) aNil))) tYesD (eOp oMul (eVar 5) (eOp oIdx (eVar 4) (eVar 3)))) aNil))) E S = some (.ok (.ptr S.length), S ++ [rD n (sumsI R a f)]) := by
    rw [lcA_allO (ds := List.range n) (fun i : Nat => D.int (i : Nat)) (fun j => .int (sumsI R a f j)) (by
      rw [← range_map]
      exact ev_ArgR (as := [.d (.int (n : Nat))]) rfl (walk_n n (by omega))) (fun j hj => ⟨_, rfl, inn j (List.mem_range.mp hj) _⟩) (by rw [List.length_range]; omega), rD_eq]
  exact fn_F rfl (st_Ret lc)
def noneI (R n : Nat) (a : Nat → Nat → Int) (am : List Int) : Bool := (decide (am.length = R) && am.all fun x => decide (0 ≤ x)) && (List.range n).all fun j => decide (sumsI R a (fnL am) j < 0)
theorem rows_len (b : Bool) (R n : Nat) (a : Nat → Nat → Int) : (rowsD b R n a).length = R := by unfold rowsD; rw [List.length_map, List.length_range]
theorem v_showsB (b : Bool) (hR : R ≤ 900) (hn : n ≤ 950) (ha : ∀ i j, i < R → j < n → Sm 4000 (a i j)) (gl : Nat → Int) (am : List Int) (hl : am.length ≤ 1000) (hs : ∀ x ∈ am, Sm 4000 x) :
    m_shows_none [.d (sq b (rowsD b R n a)), .d (sq b (rD n gl)), .d (sq b (am.map D.int))] = ret (.d (.bl (noneI R n a am))) := by
  refine fn_R rfl ?_
  let E : DL.Env := [some (.d (sq b (rowsD b R n a))), some (.d (sq b (rD n gl))), some (.d (sq b (am.map D.int))), none]
  show (eAnd (eCall asPure m_is_amounts [] (aCons (eVar 0) (aCons (eVar 2) aNil))) (eArg bAll (aCons (eLc [3] (.one 3) (iOf (eCall asPure m_sums [] (aCons (eVar 0) (aCons (eVar 2) (aCons (eArg bLen (aCons (eVar 1) aNil)) aNil))))) tYesD (eOp oLt (eVar 3) (eC (.int 0)))) aNil))) E = _
  have c1 : (eCall asPure m_is_amounts [] (aCons (eVar 0) (aCons (eVar 2) aNil))) E = ret (.d (.bl (decide (am.length = R) && am.all fun x => decide (0 ≤ x)))) := by
    refine ev_CallR (as := [.d (sq b (rowsD b R n a)), .d (sq b (am.map D.int))]) rfl (call_pure (by rw [sq_no, sq_no]; rfl) ?_)
    rw [v_amB b _ am hl, rows_len]
  rw [ev_And, c1, bnd_ret', asB_b, bnd_ret']
  unfold noneI
  cases e : (decide (am.length = R) && am.all fun x => decide (0 ≤ x)) with
  | false => rfl
  | true =>
    rw [if_pos rfl]
    rw [Bool.and_eq_true, decide_eq_true_iff] at e
    have cs : (eCall asPure m_sums [] (aCons (eVar 0) (aCons (eVar 2) (aCons (eArg bLen (aCons (eVar 1) aNil)) aNil)))) E = ret (.d (.lst (rD n (sumsI R a (fnL am))))) := by
      refine ev_CallR (as := [.d (sq b (rowsD b R n a)), .d (sq b (am.map D.int)), .d (.int (n : Nat))]) ?_ ?_
      · rw [ev_Cons, ev_Var (sv := .d (sq b (rowsD b R n a))) rfl, bnd_ret', ev_Cons, ev_Var (sv := .d (sq b (am.map D.int))) rfl, bnd_ret', ev_Cons, ev_ArgR (as := [.d (sq b (rD n gl))]) rfl (lenG_of b n gl), bnd_ret']
        rfl
      · have := v_sumsB b (f := fnL am) hR hn ha (fun i hi => hs _ (fnL_mem (by omega)))
        have ea : rD R (fnL am) = am.map D.int := by unfold rD; rw [← e.1, ← vec_eq]
        rw [ea] at this
        exact this
    have lc : (eLc [3] (.one 3) (iOf (eCall asPure m_sums [] (aCons (eVar 0) (aCons (eVar 2) (aCons (eArg bLen (aCons (eVar 1) aNil)) aNil))))) tYesD (eOp oLt (eVar 3) (eC (.int 0)))) E = ret (.d (.lst ((List.range n).map fun j => .bl (decide (sumsI R a (fnL am) j < 0))))) :=
      lcA_all (ds := List.range n) (fun j => .int (sumsI R a (fnL am) j)) (fun j => .bl (decide (sumsI R a (fnL am) j < 0))) (by rw [ev_iOf, cs, bnd_ret', ← rD_eq]; rfl) (fun d _ => ⟨_, rfl, rfl⟩) (by rw [List.length_range]; omega)
    rw [ev_Arg, ev_Cons, lc, bnd_ret', ev_Nil, bnd_ret', bnd_ret', bAll_map (fun j : Nat => decide (sumsI R a (fnL am) j < 0)) (List.range n)]
    rfl
end
end Lw
namespace Lw
open PySem L2 DL
theorem sum_sm {p n : Nat} {f : Nat → Int} (hn : n ≤ 950) (h : ∀ i, i < n → Sm p (f i)) : Sm (p + 10) (BL.sumN n f) := by
  have h1 := BL.sumN_le (n := n) (B := 2 ^ p - 1) (f := f) (fun i hi => by have := h i hi; unfold Sm at this; omega)
  unfold Sm
  have h2 : n * (2 ^ p - 1) ≤ 950 * (2 ^ p - 1) := Nat.mul_le_mul_right _ hn
  have h3 : 2 ^ (p + 10) = 1024 * 2 ^ p := by rw [Nat.pow_add]; omega
  have h4 : 0 < 2 ^ p := Nat.two_pow_pos p
  omega
theorem dotN_sm {p q n : Nat} {f g : Nat → Int} (hn : n ≤ 950) (h : ∀ i, i < n → Sm p (f i)) (h' : ∀ i, i < n → Sm q (g i)) : Sm (p + q + 10) (dotN n f g) := sum_sm hn fun i hi => (h i hi).mul (h' i hi)
theorem sumL_sm {p : Nat} {l : List Int} (hl : l.length ≤ 950) (h : ∀ x ∈ l, Sm p x) : Sm (p + 10) l.sum := by
  have := sum_sm (f := fnL l) hl (fun i hi => h _ (fnL_mem hi))
  rw [← sum_range, ← vec_eq] at this
  exact this
section
variable {R n : Nat} {a : Nat → Nat → Int} {gl : Nat → Int} {mix am : List Int} {t u sz : Int}
structure Num (R n : Nat) (a : Nat → Nat → Int) (gl : Nat → Int) : Prop where
  hR : R ≤ 900
  hn : n ≤ 950
  h1 : 1 ≤ n
  ha : ∀ i j, i < R → j < n → Sm 1000 (a i j)
  hg : ∀ j, j < n → Sm 1000 (gl j)
def bestA (b : Bool) (mix : List Int) (t u sz : Int) (am : List Int) : D := .tup [.str "best", sq b (mix.map D.int), .tup [.int t, .int u], .int sz, sq b (am.map D.int)]
def noneA (b : Bool) (am : List Int) : D := .tup [.str "none", sq b (am.map D.int)]
theorem str_eq {s : Str} (h : PyData.strOk s = true) (S : Store) : oEq (.d (.str s)) (.d (.str s)) S = some (.ok (.d (.bl true)), S) := at_ret (eq_same (n := 0) (Cmp.str h) (by decide)) S
theorem v_ansN (b : Bool) (N : Num R (n + 1) a gl) (hm : n ≤ 900) (hl : am.length ≤ 900) (hs : ∀ x ∈ am, Sm 1000 x) (S : Store) :
    m_is_answer [.d (sq b (rowsD b R (n + 1) a)), .d (sq b (rD (n + 1) gl)), .d (noneA b am)] S = some (.ok (.d (.bl (noneI R (n + 1) a am))), S) := by
  let E : DL.Env := [some (.d (sq b (rowsD b R (n + 1) a))), some (.d (sq b (rD (n + 1) gl))), some (.d (noneA b am)), none, none, none, none, none]
  refine fn_retE rfl (S1 := S) ?_ rfl
  show y_is_answer E S = _
  unfold y_is_answer
  refine (st_SeqN (env' := E) (S' := S) (st_Drop (a_call (a_cons (a_var rfl) (a_cons (a_var rfl) a_nil)) (at_ret (call_pure (by rw [sq_no, sq_no]; rfl) (check_ok N.hR hm)) S)))).trans ?_
  have t1 : (eTst (eOp oEq (eArg bLen (aCons (eVar 2) aNil)) (eC (.int 2)))) E S = some (.ok true, S) := rfl
  have t2 : (eTst (eOp oEq (eOp oIdx (eVar 2) (eC (.int 0))) (eC (.str "none")))) E S = some (.ok true, S) := a_tst (a_op (a_op (a_var rfl) (a_c _) (at_ret (oIdx_t (at_0 rfl)) S)) (a_c _) (str_eq (by decide +kernel) S))
  refine st_SeqR ((st_IfT (a_andT t1 t2)).trans ?_)
  exact st_Ret (a_call (a_cons (a_var rfl) (a_cons (a_var rfl) (a_cons (a_op (a_var rfl) (a_c _) (at_ret (oIdx_t (at_1 rfl)) S)) a_nil))) (call_at' (.inr rfl) (by rw [sq_no, sq_no, sq_no]; rfl) (at_ret (v_showsB b N.hR N.hn (fun i j hi hj => (N.ha i j hi hj).mono (by decide)) gl am (by omega) (fun x hx => (hs x hx).mono (by decide))) S)))
end
end Lw
namespace Lw
open PySem L2 DL
section
variable {R n : Nat} {a : Nat → Nat → Int} {gl f g : Nat → Int} {mix am : List Int} {t u sz : Int}
theorem ixD {n i : Nat} {f : Nat → Int} (h : i < n) : oIdx (.d (.lst (rD n f))) (.d (.int (i : Nat))) = ret (.d (.int (f i))) := oIdx_l (rD_at h)
theorem ixR {R n i : Nat} {a : Nat → Nat → Int} (h : i < R) : oIdx (.d (.lst (rowsD false R n a))) (.d (.int (i : Nat))) = ret (.d (.lst (rD n (a i)))) := oIdx_l (atI_nat (by unfold rowsD; rw [List.getElem?_map, List.getElem?_range h]; rfl))
theorem v_lweighed (hn : n ≤ 950) (hf : ∀ i, i < n → Sm 4000 (f i)) (hg : ∀ i, i < n → Sm 4000 (g i)) : m__law_weighed [.d (.lst (rD n f)), .d (.lst (rD n g))] = ret (.d (.int (dotN n f g))) := by
  refine fn_R rfl ?_
  let E : DL.Env := [some (.d (.lst (rD n f))), some (.d (.lst (rD n g))), none]
  show (eArg bSum (aCons (eLc [2] (.one 2) (eArg walkR1 (aCons (eArg bLen (aCons (eVar 0) aNil)) aNil)) tYesD (eOp oMul (eOp oIdx (eVar 0) (eVar 2)) (eOp oIdx (eVar 1) (eVar 2)))) aNil)) E = _
  have hw : (eArg walkR1 (aCons (eArg bLen (aCons (eVar 0) aNil)) aNil)) E = ret ((List.range n).map (fun i : Nat => D.int (i : Nat)), none) := by
    refine ev_ArgR (as := [.d (.int (n : Nat))]) ?_ (by rw [walk_n n (by omega), range_map])
    rw [ev_Cons, ev_ArgR (as := [.d (.lst (rD n f))]) rfl (bLen_l _), bnd_ret', rD_len]
    rfl
  have lc := lcA_all (ws := [2]) (t := .one 2) (fe := eOp oMul (eOp oIdx (eVar 0) (eVar 2)) (eOp oIdx (eVar 1) (eVar 2))) (fun i : Nat => D.int (i : Nat)) (fun i => .int (f i * g i)) hw (fun i hi => ⟨[some (.d (.lst (rD n f))), some (.d (.lst (rD n g))), some (.d (.int (i : Nat)))], rfl, by
    have hi := List.mem_range.mp hi
    rw [ev_Op, ev_Op, ev_Var (sv := .d (.lst (rD n f))) rfl, bnd_ret', ev_Var (sv := .d (.int (i : Nat))) rfl, bnd_ret', ixD hi, bnd_ret', ev_Op, ev_Var (sv := .d (.lst (rD n g))) rfl, bnd_ret', ev_Var (sv := .d (.int (i : Nat))) rfl, bnd_ret', ixD hi, bnd_ret', mul_sm (hf i hi) (hg i hi)]⟩) (by rw [List.length_range]; omega)
  rw [ev_Arg, ev_Cons, lc, bnd_ret', ev_Nil, bnd_ret', bnd_ret', ← rD_eq, bSum_map, sum_range]
  rfl
noncomputable abbrev lsF : SM := (sSet 3 (eLc [4] (.one 4) (eArg walkR1 (aCons (eVar 2) aNil)) tYesD (eOp oAdd (eOp oIdx (eVar 3) (eVar 4)) (eOp oMul (eOp oIdx (eVar 1) (eVar 5)) (eOp oIdx (eOp oIdx (eVar 0) (eVar 5)) (eVar 4))))))
abbrev EnvS (R n : Nat) (a : Nat → Nat → Int) (f : Nat → Int) (k : Nat) (x5 : Option SV) : DL.Env := [some (.d (.lst (rowsD false R n a))), some (.d (.lst (rD R f))), some (.d (.int (n : Nat))), some (.d (.lst (rD n fun j => BL.sumN k fun i => f i * a i j))), none, x5]
theorem walk_rg (n : Nat) (hn : n ≤ 1000) (env : DL.Env) (i : Nat) (h : env[i]? = some (some (.d (.int (n : Nat))))) : (eArg walkR1 (aCons (eVar i) aNil)) env = ret ((List.range n).map (fun i : Nat => D.int (i : Nat)), none) :=
  ev_ArgR (as := [.d (.int (n : Nat))]) (by rw [ev_Cons, ev_Var h, bnd_ret']; rfl) (by rw [walk_n n hn, range_map])
theorem ls_loop (hn : n ≤ 950) (ha : ∀ i j, i < R → j < n → Sm 4000 (a i j)) (hf : ∀ i, i < R → Sm 4000 (f i)) (all : List D) (S : Store) : ∀ (m k : Nat) (x5 : Option SV), k + m ≤ R → ∃ y5, forL (.one 5) none all lsF ((List.range' k m).map fun i : Nat => D.int (i : Nat)) (EnvS R n a f k x5) S = some (.nx (EnvS R n a f (k + m) y5), S)
  | 0, k, x5, _ => ⟨x5, for_nil⟩
  | m + 1, k, x5, h => by
    obtain ⟨y5, ih⟩ := ls_loop hn ha hf all S m (k + 1) (some (.d (.int (k : Nat)))) (by omega)
    refine ⟨y5, ?_⟩
    rw [List.range'_succ, List.map_cons]
    have hk : k < R := by omega
    have lc : (eLc [4] (.one 4) (eArg walkR1 (aCons (eVar 2) aNil)) tYesD (eOp oAdd (eOp oIdx (eVar 3) (eVar 4)) (eOp oMul (eOp oIdx (eVar 1) (eVar 5)) (eOp oIdx (eOp oIdx (eVar 0) (eVar 5)) (eVar 4))))) (EnvS R n a f k (some (.d (.int (k : Nat))))) = ret (.d (.lst (rD n fun j => BL.sumN (k + 1) fun i => f i * a i j))) := by
      rw [lcA_all (fun j : Nat => D.int (j : Nat)) (fun j => .int ((BL.sumN k fun i => f i * a i j) + f k * a k j)) (walk_rg n (by omega) (EnvS R n a f k (some (.d (.int (k : Nat))))) 2 rfl) (fun j hj => ⟨(EnvS R n a f k (some (.d (.int (k : Nat))))).set 4 (some (.d (.int (j : Nat)))), rfl, by
        have hj := List.mem_range.mp hj
        rw [ev_Op, ev_Op, ev_Var (sv := .d (.lst (rD n fun j => BL.sumN k fun i => f i * a i j))) rfl, bnd_ret', ev_Var (sv := .d (.int (j : Nat))) rfl, bnd_ret', ixD hj, bnd_ret', ev_Op, ev_Op, ev_Var (sv := .d (.lst (rD R f))) rfl, bnd_ret', ev_Var (sv := .d (.int (k : Nat))) rfl, bnd_ret', ixD hk, bnd_ret', ev_Op, ev_Op, ev_Var (sv := .d (.lst (rowsD false R n a))) rfl, bnd_ret', ev_Var (sv := .d (.int (k : Nat))) rfl, bnd_ret', ixR hk, bnd_ret', ev_Var (sv := .d (.int (j : Nat))) rfl, bnd_ret', ixD hj, bnd_ret', mul_sm (hf k hk) (ha k j hk hj), bnd_ret']
        rfl⟩) (by rw [List.length_range]; omega), rD_eq]
      rfl
    rw [show k + (m + 1) = k + 1 + m by omega]
    exact (for_nx (kk := none) (all := all) (env1 := EnvS R n a f k (some (.d (.int (k : Nat))))) (env2 := EnvS R n a f (k + 1) (some (.d (.int (k : Nat))))) (S2 := S) rfl (st_Set (at_ret lc S)) (show keepOk none all S from trivial)).trans ih
theorem v_lsums (hR : R ≤ 900) (hn : n ≤ 950) (ha : ∀ i j, i < R → j < n → Sm 4000 (a i j)) (hf : ∀ i, i < R → Sm 4000 (f i)) : m__law_sums [.d (.lst (rowsD false R n a)), .d (.lst (rD R f)), .d (.int (n : Nat))] = ret (.d (.lst (rD n (sumsI R a f)))) := by
  refine fn_B rfl fun S => ?_
  let E : DL.Env := [some (.d (.lst (rowsD false R n a))), some (.d (.lst (rD R f))), some (.d (.int (n : Nat))), none, none, none]
  show y__law_sums E S = _
  unfold y__law_sums
  have l0 : (eLc [4] (.one 4) (eArg walkR1 (aCons (eVar 2) aNil)) tYesD (eC (.int 0))) E = ret (.d (.lst (rD n fun j => BL.sumN 0 fun i => f i * a i j))) := by
    rw [lcA_all (fun j : Nat => D.int (j : Nat)) (fun j => .int 0) (walk_rg n (by omega) E 2 rfl) (fun j hj => ⟨_, rfl, rfl⟩) (by rw [List.length_range]; omega), rD_eq]
    rfl
  refine (st_SeqN (env' := EnvS R n a f 0 none) (S' := S) (st_Set (at_ret l0 S))).trans ?_
  obtain ⟨y5, lp⟩ := ls_loop (R := R) (n := n) (a := a) (f := f) hn ha hf ((List.range R).map fun i : Nat => D.int (i : Nat)) S R 0 none (by omega)
  have hw : (eArg walkR1 (aCons (eArg bLen (aCons (eVar 0) aNil)) aNil)) (EnvS R n a f 0 none) S = some (.ok ((List.range R).map (fun i : Nat => D.int (i : Nat)), none), S) := at_ret (ev_ArgR (as := [.d (.int (R : Nat))]) (by
    rw [ev_Cons, ev_ArgR (as := [.d (.lst (rowsD false R n a))]) rfl (bLen_l _), bnd_ret', rows_len]
    rfl) (by rw [walk_n R (by omega), range_map])) S
  refine (st_SeqN (env' := EnvS R n a f R y5) (S' := S) ((st_For hw).trans ?_)).trans (st_Ret (a_var rfl))
  rw [← List.range_eq_range', Nat.zero_add] at lp
  exact lp
theorem v_lright (rows : List D) (am : List Int) (hl : am.length ≤ 1000) : m__law_amounts_right [.d (.lst rows), .d (.lst (am.map D.int))] = ret (.d (.bl (decide (am.length = rows.length) && am.all fun x => decide (0 ≤ x)))) := by
  refine fn_R rfl ?_
  let E : DL.Env := [some (.d (.lst rows)), some (.d (.lst (am.map D.int))), none]
  show (eAnd (eOp oEq (eArg bLen (aCons (eVar 1) aNil)) (eArg bLen (aCons (eVar 0) aNil))) (eArg bAll (aCons (eLc [2] (.one 2) (iOf (eVar 1)) tYesD (eOp oGe (eVar 2) (eC (.int 0)))) aNil))) E = _
  have c1 : (eOp oEq (eArg bLen (aCons (eVar 1) aNil)) (eArg bLen (aCons (eVar 0) aNil))) E = ret (.d (.bl (decide (am.length = rows.length)))) := by
    rw [ev_Op, ev_ArgR (as := [.d (.lst (am.map D.int))]) rfl (bLen_l _), bnd_ret', ev_ArgR (as := [.d (.lst rows)]) rfl (bLen_l _), bnd_ret', oEq_i, List.length_map]
    rw [show decide (((am.length : Nat) : Int) = ((rows.length : Nat) : Int)) = decide (am.length = rows.length) from decide_eq_decide.mpr (by omega)]
  have lc : (eLc [2] (.one 2) (iOf (eVar 1)) tYesD (eOp oGe (eVar 2) (eC (.int 0)))) E = ret (.d (.lst (am.map fun x => .bl (decide (0 ≤ x))))) :=
    lcA_all (ds := am) D.int (fun x => .bl (decide (0 ≤ x))) rfl (fun d _ => ⟨_, rfl, rfl⟩) (by omega)
  have al : (eArg bAll (aCons (eLc [2] (.one 2) (iOf (eVar 1)) tYesD (eOp oGe (eVar 2) (eC (.int 0)))) aNil)) E = ret (.d (.bl (am.all fun x => decide (0 ≤ x)))) := by
    rw [ev_Arg, ev_Cons, lc, bnd_ret', ev_Nil, bnd_ret', bnd_ret']
    exact bAll_map (fun x : Int => decide (0 ≤ x)) am
  rw [ev_And, c1, bnd_ret', asB_b, bnd_ret', al]
  by_cases h : am.length = rows.length
  · rw [decide_eq_true h, if_pos rfl]; rfl
  · rw [decide_eq_false h]; rfl
theorem max_all {n : Nat} (h1 : 1 ≤ n) (f : Nat → Int) : decide (maxL (rI n f) < 0) = (List.range n).all fun j => decide (f j < 0) := by
  obtain ⟨m1, m2⟩ := maxL_mem (rI_ne (f := f) h1)
  rw [Bool.eq_iff_iff]
  simp only [decide_eq_true_iff, List.all_eq_true, List.mem_range]
  constructor
  · intro h j hj
    have := m2 (f j) (rI_mem.mpr ⟨j, hj, rfl⟩)
    omega
  · intro h
    obtain ⟨j, hj, e⟩ := rI_mem.mp m1
    rw [← e]; exact h j hj
theorem v_lnone (N : Num R n a gl) (hl : am.length ≤ 900) (hs : ∀ x ∈ am, Sm 1000 x) : m__law_none_right [.d (.lst (rowsD false R n a)), .d (.lst (am.map D.int)), .d (.int (n : Nat))] = ret (.d (.bl (noneI R n a am))) := by
  refine fn_R rfl ?_
  let E : DL.Env := [some (.d (.lst (rowsD false R n a))), some (.d (.lst (am.map D.int))), some (.d (.int (n : Nat)))]
  show (eAnd (eCall asPure m__law_amounts_right [] (aCons (eVar 0) (aCons (eVar 1) aNil))) (eOp oLt (eArg bMaxL (aCons (eCall asPure m__law_sums [] (aCons (eVar 0) (aCons (eVar 1) (aCons (eVar 2) aNil)))) aNil)) (eC (.int 0)))) E = _
  rw [ev_And, ev_CallR (as := [.d (.lst (rowsD false R n a)), .d (.lst (am.map D.int))]) (x := .d (.bl (decide (am.length = R) && am.all fun x => decide (0 ≤ x)))) rfl (call_pure rfl (by rw [v_lright _ am (by omega), rows_len])), bnd_ret', asB_b, bnd_ret']
  unfold noneI
  cases e : (decide (am.length = R) && am.all fun x => decide (0 ≤ x)) with
  | false => rfl
  | true =>
    rw [Bool.and_eq_true, decide_eq_true_iff] at e
    have ea : rD R (fnL am) = am.map D.int := by unfold rD; rw [← e.1, ← vec_eq]
    have cs := v_lsums (f := fnL am) N.hR N.hn (fun i j hi hj => (N.ha i j hi hj).mono (by decide)) (fun i hi => (hs _ (fnL_mem (by omega))).mono (by decide))
    rw [ea] at cs
    rw [if_pos rfl, ev_Op, ev_ArgR (as := [.d (.lst (rD n (sumsI R a (fnL am))))]) (x := .d (.int (maxL (rI n (sumsI R a (fnL am)))))) (by
      rw [ev_Cons, ev_CallR (as := [.d (.lst (rowsD false R n a)), .d (.lst (am.map D.int)), .d (.int (n : Nat))]) rfl (call_pure rfl cs), bnd_ret']
      rfl) (bMax_of (rI_ne N.h1)), bnd_ret', ev_C, bnd_ret', oLt_i, max_all N.h1]
    rfl
theorem v_lmean (N : Num R n a gl) (h0 : mix.length = n) (hp : 0 < mix.sum) (hs : ∀ x ∈ mix, Sm 1000 x) : m__law_mean [.d (.lst (rD n gl)), .d (.lst (mix.map D.int))] = ret (.d (ratD (dotN n gl (fnL mix)) mix.sum)) := by
  refine fn_R rfl ?_
  have hn := N.hn
  let E : DL.Env := [some (.d (.lst (rD n gl))), some (.d (.lst (mix.map D.int)))]
  show (eCall asOwn m__law_ratio [] (aCons (eCall asPure m__law_weighed [] (aCons (eVar 0) (aCons (eVar 1) aNil))) (aCons (eArg bSum (aCons (eVar 1) aNil)) aNil))) E = _
  have em : mix.map D.int = rD n (fnL mix) := by unfold rD; rw [← h0, ← vec_eq]
  have hm : ∀ j, j < n → Sm 1000 (fnL mix j) := fun j hj => hs _ (fnL_mem (by omega))
  have w := v_lweighed (f := gl) (g := fnL mix) hn (fun j hj => (N.hg j hj).mono (by decide)) (fun j hj => (hm j hj).mono (by decide))
  rw [← em] at w
  have s1 : Sm 4000 (dotN n gl (fnL mix)) := (dotN_sm hn N.hg hm).mono (by decide)
  have s2 : Sm 4000 mix.sum := (sumL_sm (by omega) hs).mono (by decide)
  refine ev_CallR (as := [.d (.int (dotN n gl (fnL mix))), .d (.int mix.sum)]) ?_ ?_
  · rw [ev_Cons, ev_CallR (as := [.d (.lst (rD n gl)), .d (.lst (mix.map D.int))]) rfl (call_pure rfl w), bnd_ret', ev_Cons, ev_ArgR (as := [.d (.lst (mix.map D.int))]) rfl (bSum_map mix), bnd_ret']
    rfl
  · funext S
    exact call_at' (.inr rfl) rfl (at_ret (v_lratio (by omega) s1 s2) S)
end
end Lw
namespace Lw
open DL
theorem sumN_neg {n : Nat} {f : Nat → Int} (h : ∀ i, i < n → f i ≤ 0) (h1 : ∃ i, i < n ∧ f i < 0) : BL.sumN n f < 0 := by
  induction n with
  | zero => obtain ⟨i, hi, _⟩ := h1; omega
  | succ n ih =>
    obtain ⟨i, hi, hn⟩ := h1
    have h0 : BL.sumN n f ≤ 0 := by
      have := BL.sumN_nonneg (n := n) (f := fun i => -1 * f i) fun i hi => by have := h i (by omega); omega
      rw [BL.sumN_mul] at this
      omega
    show BL.sumN n f + f n < 0
    by_cases e : i = n
    · subst e; omega
    · have := ih (fun i hi => h i (by omega)) ⟨i, by omega, hn⟩
      have := h n (by omega)
      omega
theorem sumN_pos0 {n : Nat} {f : Nat → Int} (h : ∀ i, i < n → 0 ≤ f i) (hs : 0 < BL.sumN n f) : ∃ i, i < n ∧ 0 < f i := by
  apply Classical.byContradiction
  intro hno
  have : BL.sumN n f = 0 := BL.sumN_zero fun i hi => Int.le_antisymm (Int.not_lt.mp fun z => hno ⟨i, hi, z⟩) (h i hi)
  omega
theorem sumN_sub (n : Nat) (f g : Nat → Int) : BL.sumN n (fun i => f i - g i) = BL.sumN n f - BL.sumN n g := by
  have := BL.sumN_lin n 1 (-1) f g
  rw [BL.sumN_congr (g := fun i => f i - g i) fun i _ => by omega] at this
  omega
theorem sumN_add (n : Nat) (f g : Nat → Int) : BL.sumN n (fun i => f i + g i) = BL.sumN n f + BL.sumN n g := by
  have := BL.sumN_lin n 1 1 f g
  rw [BL.sumN_congr (g := fun i => f i + g i) fun i _ => by omega] at this
  omega
end Lw
namespace Lw
open PySem L2 DL
theorem pos_of_mul {g x : Int} (hg : 0 < g) (h : 0 ≤ g * x) : 0 ≤ x := Int.not_lt.mp fun z => by
  have := Int.mul_lt_mul_of_pos_left z hg
  omega
theorem fdivQ_le (x : Int) (g : Nat) (hg : 1 ≤ g) : (x.fdiv (g : Int)).natAbs ≤ x.natAbs := by
  rw [Int.fdiv_eq_ediv_of_nonneg _ (Int.natCast_nonneg g)]
  have hg' : (1 : Int) ≤ (g : Int) := by omega
  have e := Int.emod_add_mul_ediv x (g : Int)
  have h1 := Int.emod_nonneg x (show (g : Int) ≠ 0 by omega)
  have h2 := Int.emod_lt_of_pos x (show (0 : Int) < (g : Int) by omega)
  generalize x / (g : Int) = q at *
  generalize x % (g : Int) = r at *
  by_cases hq : 0 ≤ q
  · have : q ≤ (g : Int) * q := by have := Int.mul_le_mul_of_nonneg_right hg' hq; omega
    omega
  · have : (g : Int) * (q + 1) ≤ q + 1 := by have := Int.mul_le_mul_of_nonneg_right hg' (show 0 ≤ -(q + 1) by omega); have e3 := Int.mul_neg (g : Int) (q + 1); omega
    rw [Int.mul_add, Int.mul_one] at this
    omega
theorem lowQ_sm {p : Nat} {ns : List Int} (h : ∀ x ∈ ns, Sm p x) : ∀ x ∈ lowI ns, Sm p x := fun x hx => by
  unfold lowI at hx
  split at hx
  · exact h x hx
  · rename_i g0
    obtain ⟨y, hy, rfl⟩ := List.mem_map.mp hx
    exact (h y hy).le (fdivQ_le y _ (Nat.pos_of_ne_zero g0))
theorem rq_at (a : Int) {S : Int} (hS : 0 < S) : ∃ t d g : Int, ratL a S = [t, d] ∧ t * g = a ∧ d * g = S ∧ 0 < d ∧ 0 < g := by
  obtain ⟨t, d, g, e1, e2, e3, e4, e5⟩ := rat_spec (a := a) (b := S) (by omega)
  refine ⟨t, d, g, e1, e2, e3, e4, ?_⟩
  rw [e5]
  unfold sg
  rw [if_neg (by omega)]
  exact gI_pos (by omega)
theorem rq_cross {a b a' b' : Int} (hb : 0 < b) (hb' : 0 < b') (h : a * b' = a' * b) : ratL a b = ratL a' b' := by
  obtain ⟨n, rfl⟩ := Int.eq_ofNat_of_zero_le (show 0 ≤ b by omega)
  obtain ⟨m, rfl⟩ := Int.eq_ofNat_of_zero_le (show 0 ≤ b' by omega)
  rw [← ratL_scale (g := m) (by omega) (a := a) hb, ← ratL_scale (g := n) (by omega) (a := a') hb', Int.mul_comm (m : Int) a, h, Int.mul_comm a' (n : Int), Int.mul_comm (m : Int) (n : Int)]
end Lw
set_option hygiene false in
local macro_rules | `(tactic| exists $[$hs:term],*) => `(tactic| ((try dsimp only [List.set]); repeat' ((with_reducible apply DL.q_go); first
  | (first $[| with_reducible exact $hs]*) | ((with_reducible apply DL.q_ret); first $[| with_reducible exact $hs]*)
  | with_reducible exact DL.q_nil | with_reducible exact DL.q_c | with_reducible apply DL.q_cons
  | ((with_reducible apply DL.q_var); exact rfl)
  | with_reducible apply DL.q_op | with_reducible apply DL.q_un | with_reducible apply DL.q_arg | with_reducible apply DL.q_call | with_reducible apply DL.q_callD
  | with_reducible apply DL.q_tst | with_reducible apply DL.q_tru | with_reducible apply DL.q_truA | with_reducible apply DL.q_not | with_reducible apply DL.q_enot | with_reducible exact DL.q_yes
  | with_reducible apply DL.q_and | with_reducible apply DL.q_or | with_reducible apply DL.q_eand | with_reducible apply DL.q_eor | with_reducible apply DL.q_eif
  | with_reducible apply DL.q_ch | with_reducible apply DL.q_chK | with_reducible apply DL.q_sl | with_reducible exact DL.q_pN | with_reducible apply DL.q_pS | with_reducible exact DL.q_slL | with_reducible exact DL.q_slT
  | with_reducible apply DL.q_meth | ((with_reducible apply DL.q_nofld); exact rfl)
  | with_reducible apply DL.q_mkLst | with_reducible apply DL.q_mkTup | with_reducible apply DL.q_mkOwn | ((with_reducible apply DL.q_ble); exact rfl)
  | with_reducible exact DL.q_dn | with_reducible apply DL.q_dc | with_reducible exact DL.q_fn | with_reducible apply DL.q_fc | with_reducible apply DL.q_fp
  | with_reducible apply DL.q_Seq | with_reducible apply DL.q_thN | with_reducible exact DL.q_thR | with_reducible exact DL.q_thB | with_reducible exact DL.q_thC | with_reducible exact DL.q_thE
  | with_reducible apply DL.q_AppL | with_reducible apply DL.q_SetI | with_reducible apply DL.q_SetAll | with_reducible apply DL.q_Mut | with_reducible apply DL.q_ClearX | with_reducible exact DL.q_Nop | with_reducible exact DL.q_Brk | with_reducible exact DL.q_Cnt | with_reducible exact DL.q_RetN
  | with_reducible apply DL.q_Set | ((with_reducible apply DL.q_setN); (try dsimp only [List.set]); (try exact rfl)) | with_reducible exact DL.q_setE
  | with_reducible apply DL.q_Drop | with_reducible exact DL.q_drN | with_reducible exact DL.q_drE | with_reducible apply DL.q_Ret | with_reducible exact DL.q_rtN | with_reducible exact DL.q_rtE
  | with_reducible apply DL.q_If | with_reducible apply DL.q_For | with_reducible exact DL.q_R0 | with_reducible apply DL.q_R1
  | with_reducible apply DL.q_Try | with_reducible exact DL.q_tyN | with_reducible exact DL.q_tyR | with_reducible apply DL.q_tyE
  | ((with_reducible apply DL.q_hdY); exact rfl; exact rfl; dsimp only [DL.setX, List.set]) | ((with_reducible apply DL.q_hdN); exact rfl; exact rfl)
  | with_reducible apply DL.q_LendQ | with_reducible apply DL.q_Lend | ((with_reducible apply DL.q_flat); exact rfl)
  | with_reducible apply DL.q_ex | ((with_reducible apply DL.q_ekR); exact rfl) | ((with_reducible apply DL.q_ekN); dsimp only [DL.unX, List.set]; (try exact rfl); exact rfl) | ((with_reducible apply DL.q_xf); exact rfl; exact rfl)
  | with_reducible apply DL.q_iOf | with_reducible exact DL.q_wkL | with_reducible exact DL.q_wkT | with_reducible exact DL.q_wkS
  | ((with_reducible apply DL.q_fin); exact rfl) | with_reducible apply DL.q_pkT | with_reducible apply DL.q_pkNF | with_reducible apply DL.q_pkNT | with_reducible apply DL.q_pkF | with_reducible exact DL.q_nt | with_reducible exact DL.q_nf
  | ((with_reducible apply DL.q_leaf); first $[| (erw [$hs:term]; first | done | exact rfl)]*)
  | ((with_reducible apply DL.q_gC); first | ((with_reducible refine DL.q_cP ?_ rfl); first $[| with_reducible exact $hs]*) | ((with_reducible refine DL.q_cA ?_ rfl); first $[| with_reducible exact $hs]*) | ((with_reducible refine DL.q_cF ?_ rfl ?_); (first $[| with_reducible exact $hs]*); exact rfl) | ((with_reducible refine DL.q_cFO ?_ rfl); first $[| with_reducible exact $hs]*) | ((with_reducible refine DL.q_cE ?_ rfl); first $[| with_reducible exact $hs]*))
  | ((with_reducible apply DL.q_gP); first | ((with_reducible apply DL.q_pickT); first $[| with_reducible exact $hs]*) | ((with_reducible apply DL.q_pickF); first $[| with_reducible exact $hs]*) | ((with_reducible apply DL.q_pickNT); first $[| with_reducible exact $hs]*) | ((with_reducible apply DL.q_pickNF); first $[| with_reducible exact $hs]*) | apply DL.q_pickT (by decide) | apply DL.q_pickF (by decide))
  | with_reducible exact DL.q_ret (DL.oEq_i _ _) | with_reducible exact DL.q_ret (DL.oNe_i _ _) | with_reducible exact DL.q_ret (DL.oAdd_i _ _) | with_reducible exact DL.q_ret (DL.oSub_i _ _)
  | with_reducible exact DL.q_ret (DL.oLt_i _ _) | with_reducible exact DL.q_ret (DL.oLe_i _ _) | with_reducible exact DL.q_ret (DL.oGt_i _ _) | with_reducible exact DL.q_ret (DL.oGe_i _ _) | with_reducible exact DL.q_ret (DL.oNeg_i _)
  | with_reducible exact DL.q_ret (DL.bInt_i _) | with_reducible exact DL.q_ret (DL.bInt_b _) | with_reducible exact DL.q_ret (DL.bAbs_i _)
  | with_reducible exact DL.q_lenM | with_reducible exact DL.q_lenMT | with_reducible exact DL.q_ret (DL.bLen_l _) | with_reducible exact DL.q_ret (DL.bLen_t _)
  | with_reducible exact DL.q_ret (DL.bList_l _) | with_reducible exact DL.q_ret (DL.bList_t _) | with_reducible exact DL.q_ret (DL.bTuple_t _) | with_reducible exact DL.q_ret (DL.bTuple_l _)
  | with_reducible exact DL.bListOwn_l _ | with_reducible exact DL.bListOwn_t _
  | with_reducible exact DL.q_nn | with_reducible exact DL.q_nr
  | with_reducible apply DL.q_pkAnd | with_reducible apply DL.q_pkOr | with_reducible apply DL.q_pkAndB | with_reducible apply DL.q_pkOrB
  )))
namespace Lw
open PySem L2 DL
structure Alw (R n : Nat) (a : Nat → Nat → Int) (w : Nat → Int) : Prop where
  n0 : ∀ j, j < n → 0 ≤ w j
  p : 0 < BL.sumN n w
  r : ∀ i, i < R → 0 ≤ dotN n (a i) w
structure TopN (R n : Nat) (a : Nat → Nat → Int) (gl : Nat → Int) (v u : Int) : Prop where
  up : 0 < u
  att : ∃ w, Alw R n a w ∧ dotN n gl w * u = v * BL.sumN n w
  top : ∀ w, Alw R n a w → dotN n gl w * u ≤ v * BL.sumN n w
theorem le_can {x y s : Int} (hs : 0 < s) (h : x * s ≤ y * s) : x ≤ y := Int.not_lt.mp fun z => by
  have := Int.mul_lt_mul_of_pos_right z hs
  omega
section
variable {R n m : Nat} {a : Nat → Nat → Int} {gl : Nat → Int} {v u v' u' : Int}
theorem TopN.le (x : TopN R n a gl v u) (b : TopN R n a gl v' u') : v * u' ≤ v' * u := by
  obtain ⟨w, hw, e⟩ := x.att
  have h := b.top w hw
  refine le_can hw.p ?_
  have h1 := Int.mul_le_mul_of_nonneg_right h (Int.le_of_lt x.up)
  have e1 : v * u' * BL.sumN n w = dotN n gl w * u' * u := by
    have : v * u' * BL.sumN n w = v * BL.sumN n w * u' := by simp only [Int.mul_assoc, Int.mul_comm, Int.mul_left_comm]
    rw [this, ← e]
    simp only [Int.mul_assoc, Int.mul_comm, Int.mul_left_comm]
  rw [e1, show v' * u * BL.sumN n w = v' * BL.sumN n w * u by simp only [Int.mul_assoc, Int.mul_comm, Int.mul_left_comm]]
  exact h1
theorem TopN.rat (x : TopN R n a gl v u) (b : TopN R n a gl v' u') : ratD v u = ratD v' u' := by
  unfold ratD
  rw [rq_cross x.up b.up (Int.le_antisymm (x.le b) (b.le x))]
theorem TopN.low {t d g : Int} (x : TopN R n a gl v u) (hg : 0 < g) (h1 : t * g = v) (h2 : d * g = u) (hd : 0 < d) : TopN R n a gl t d := by
  refine ⟨hd, ?_, fun w hw => ?_⟩
  · obtain ⟨w, hw, e⟩ := x.att
    refine ⟨w, hw, ?_⟩
    rw [← h1, ← h2] at e
    have e2 : dotN n gl w * d * g = t * BL.sumN n w * g := by
      rw [Int.mul_assoc, e]
      simp only [Int.mul_assoc, Int.mul_comm, Int.mul_left_comm]
    exact Int.le_antisymm (le_can hg (Int.le_of_eq e2)) (le_can hg (Int.le_of_eq e2.symm))
  · have h := x.top w hw
    rw [← h1, ← h2] at h
    refine le_can hg ?_
    rw [Int.mul_assoc, show t * BL.sumN n w * g = t * g * BL.sumN n w by simp only [Int.mul_assoc, Int.mul_comm, Int.mul_left_comm]]
    exact h
theorem TopN.step {gl' : Nat → Int} {st : Int} (x : TopN R n a gl v u) (h : ∀ w, dotN n gl' w = dotN n gl w + st * BL.sumN n w) : TopN R n a gl' (v + st * u) u := by
  refine ⟨x.up, ?_, fun w hw => ?_⟩
  · obtain ⟨w, hw, e⟩ := x.att
    refine ⟨w, hw, ?_⟩
    rw [h, Int.add_mul, e, Int.add_mul, show st * BL.sumN n w * u = st * u * BL.sumN n w by simp only [Int.mul_assoc, Int.mul_comm, Int.mul_left_comm]]
  · have q := x.top w hw
    rw [h, Int.add_mul, Int.add_mul, show st * BL.sumN n w * u = st * u * BL.sumN n w by simp only [Int.mul_assoc, Int.mul_comm, Int.mul_left_comm]]
    omega
theorem TopN.const {st : Int} (hA : ∃ w, Alw R n a w) (h : ∀ j, j < n → gl j = st) : TopN R n a gl st 1 := by
  have e : ∀ w, dotN n gl w = st * BL.sumN n w := fun w => by
    unfold dotN
    rw [← BL.sumN_mul]
    exact BL.sumN_congr fun j hj => by rw [h j hj]
  obtain ⟨w, hw⟩ := hA
  exact ⟨by decide, ⟨w, hw, by rw [e, Int.mul_one]⟩, fun w _ => by rw [e, Int.mul_one]; exact Int.le_refl _⟩
/-- no mix is allowed where amounts show it -/
theorem none_no {am : List Int} (h : noneI R n a am = true) {w : Nat → Int} (hw : Alw R n a w) : False := by
  unfold noneI at h
  simp only [Bool.and_eq_true, decide_eq_true_eq, List.all_eq_true, List.mem_range] at h
  obtain ⟨⟨h1, h2⟩, h3⟩ := h
  have am0 : ∀ i, i < R → 0 ≤ fnL am i := fun i hi => h2 _ (fnL_mem (by omega))
  have e : (BL.sumN R fun i => fnL am i * dotN n (a i) w) = BL.sumN n fun j => w j * sumsI R a (fnL am) j := by
    unfold dotN sumsI
    rw [BL.sumN_congr (g := fun i => BL.sumN n fun j => fnL am i * (a i j * w j)) fun i _ => (BL.sumN_mul n (fnL am i) _).symm, BL.sumN_comm]
    refine BL.sumN_congr fun j _ => ?_
    rw [← BL.sumN_mul]
    exact BL.sumN_congr fun i _ => by simp only [Int.mul_assoc, Int.mul_comm, Int.mul_left_comm]
  have p1 : 0 ≤ BL.sumN R fun i => fnL am i * dotN n (a i) w := BL.sumN_nonneg fun i hi => Int.mul_nonneg (am0 i hi) (hw.r i hi)
  obtain ⟨k, hk, kp⟩ := sumN_pos0 hw.n0 hw.p
  have p2 : (BL.sumN n fun j => w j * sumsI R a (fnL am) j) < 0 := sumN_neg (fun j hj => Int.mul_nonpos_of_nonneg_of_nonpos (hw.n0 j hj) (Int.le_of_lt (h3 j hj))) ⟨k, hk, Int.mul_neg_of_pos_of_neg kp (h3 k hk)⟩
  omega
theorem sz300 {R : Nat} (h : R ≤ 6) : BL.dB (2 * 60000 + 1) (R + 2) < 2 ^ 300 := by
  have : R = 0 ∨ R = 1 ∨ R = 2 ∨ R = 3 ∨ R = 4 ∨ R = 5 ∨ R = 6 := by omega
  rcases this with rfl | rfl | rfl | rfl | rfl | rfl | rfl <;> decide +kernel
theorem low_none {ns : List Int} (h : noneI R n a ns = true) : noneI R n a (lowI ns) = true := by
  by_cases g0 : gFold 0 ns = 0
  · unfold lowI; rw [if_pos g0]; exact h
  have gp : (0 : Int) < (gFold 0 ns : Nat) := by have := Nat.pos_of_ne_zero g0; omega
  have e := lowI_spec g0
  generalize hL : lowI ns = L at e
  generalize (gFold 0 ns : Nat) = g at e gp g0
  unfold noneI at h ⊢
  simp only [Bool.and_eq_true, decide_eq_true_eq, List.all_eq_true, List.mem_range] at h ⊢
  obtain ⟨⟨h1, h2⟩, h3⟩ := h
  have lL : L.length = R := by rw [← h1, e, List.length_map]
  have sc : ∀ i, i < R → fnL ns i = (g : Int) * fnL L i := fun i hi => by
    unfold fnL
    rw [e, List.getD_eq_getElem?_getD, List.getElem?_map, List.getElem?_eq_getElem (by omega), List.getD_eq_getElem?_getD, List.getElem?_eq_getElem (by omega)]
    rfl
  refine ⟨⟨lL, fun x hx => ?_⟩, fun j hj => ?_⟩
  · have := h2 ((g : Int) * x) (by rw [e]; exact List.mem_map_of_mem hx)
    exact pos_of_mul gp this
  · have q := h3 j hj
    have e2 : sumsI R a (fnL ns) j = (g : Int) * sumsI R a (fnL L) j := by
      unfold sumsI
      rw [← BL.sumN_mul]
      exact BL.sumN_congr fun i hi => by rw [sc i hi, Int.mul_assoc]
    rw [e2] at q
    exact Int.not_le.mp fun z => by
      have := Int.mul_nonneg (Int.le_of_lt gp) z
      omega
theorem g_full (d : Dat R m 60000 a gl) (hR : R ≤ 6) (hm : m ≤ 6) : ∃ res, m_greatest [.d (.lst (rowsD false R (m + 1) a)), .d (.lst (rD (m + 1) gl))] = ret (.d res) ∧
    ((∃ am : List Int, res = noneA false am ∧ am.length = R ∧ (∀ x ∈ am, Sm 300 x) ∧ noneI R (m + 1) a am = true) ∨
      ∃ (mix : List Int) (t u sz : Int) (am : List Int), res = bestA false mix t u sz am ∧ TopN R (m + 1) a gl t u ∧ ratD t u = .tup [.int t, .int u] ∧ Sm 300 t ∧ Sm 300 u) := by
  obtain ⟨top, res, ht, hmax, gd, run⟩ := greatest_at (b := false) d (top_at (by omega))
  refine ⟨res, run, ?_⟩
  have sz := sz300 hR
  have le : ∀ {t : BL.Ts}, BL.Gd R m (BL.phi R top a gl) t → ∀ k x, (∀ r, r < R + 2 → (x r).natAbs ≤ 2 * 60000 + 1) → Sm 300 (t.s.lam R k x) := fun g k x hx => Nat.lt_of_le_of_lt (g.le (k := k) (x := x) (by omega) (d.phi ht) hx) sz
  rcases gd with ⟨t, c, g, hc, hneg, hno, rfl⟩ | ⟨t, g, hpos, rfl⟩
  · have ry := fun j (hj : j ≤ m) => g.rays hc hneg hno hj
    refine .inl ⟨lowI (rayN R (BL.phi R top a gl) t c), rfl, ?_, lowQ_sm fun x hx => ?_, low_none ?_⟩
    · rw [low_len]; unfold rayN; rw [rI_len]
    · obtain ⟨i, hi, rfl⟩ := rI_mem.mp hx
      exact le g c _ (d.phi ht i (by omega))
    · unfold noneI
      simp only [Bool.and_eq_true, decide_eq_true_eq, List.all_eq_true, List.mem_range]
      refine ⟨⟨by unfold rayN; rw [rI_len], fun x hx => ?_⟩, fun j hj => ?_⟩
      · obtain ⟨i, hi, rfl⟩ := rI_mem.mp hx
        exact (ry 0 (Nat.zero_le _)).1 i (by omega)
      · have q := (ry j (by omega)).2
        have e : sumsI R a (fnL (rayN R (BL.phi R top a gl) t c)) j = BL.sumN R fun i => a i j * t.s.lam R c (BL.phi R top a gl i) := by
          unfold sumsI
          refine BL.sumN_congr fun i hi => ?_
          have : fnL (rayN R (BL.phi R top a gl) t c) i = t.s.lam R c (BL.phi R top a gl i) := by
            unfold fnL rayN
            rw [List.getD_eq_getElem?_getD, rI_get hi]; rfl
          rw [this, Int.mul_comm]
        rw [e]; exact q
  · have su : Sm 300 t.s.u := Nat.lt_of_le_of_lt (g.ule (by omega) (d.phi ht)) sz
    have up : 0 < t.s.u := g.inv.cr.pos
    obtain ⟨x1, x2, x3⟩ := g.mix
    have cf0 : ∀ x, 0 ≤ BL.coef R (BL.phiv R top a gl) t.s x := fun x => BL.sumN_nonneg fun k hk => by
      split
      · exact hpos k (by omega)
      · exact Int.le_refl _
    have T : TopN R (m + 1) a gl (t.s.lam R (R + 1) (BL.phiv R top a gl)) t.s.u := by
      refine ⟨up, ⟨fun j => BL.coef R (BL.phiv R top a gl) t.s (R + j), ⟨fun j _ => cf0 _, by rw [x1]; exact up, fun i hi => ?_⟩, ?_⟩, fun w hw => ?_⟩
      · have := x2 i hi
        have e : dotN (m + 1) (a i) (fun j => BL.coef R (BL.phiv R top a gl) t.s (R + j)) = BL.coef R (BL.phiv R top a gl) t.s i := by
          rw [← this]
          exact BL.sumN_congr fun j _ => Int.mul_comm _ _
        rw [e]; exact cf0 i
      · have e : dotN (m + 1) gl (fun j => BL.coef R (BL.phiv R top a gl) t.s (R + j)) = t.s.lam R (R + 1) (BL.phiv R top a gl) := by
          rw [← x3]
          exact BL.sumN_congr fun j _ => Int.mul_comm _ _
        rw [e, x1]
      · have L0 : ∀ i, i < R → 0 ≤ t.s.lam R (R + 1) (BL.phi R top a gl i) := fun i hi => g.inv.feas i (by omega)
        have e : BL.sumN (m + 1) (fun j => w j * (gl j * t.s.u + BL.sumN R fun i => a i j * t.s.lam R (R + 1) (BL.phi R top a gl i))) = dotN (m + 1) gl w * t.s.u + BL.sumN R fun i => t.s.lam R (R + 1) (BL.phi R top a gl i) * dotN (m + 1) (a i) w := by
          have e1 : (BL.sumN R fun i => t.s.lam R (R + 1) (BL.phi R top a gl i) * dotN (m + 1) (a i) w) = BL.sumN (m + 1) fun j => w j * BL.sumN R fun i => a i j * t.s.lam R (R + 1) (BL.phi R top a gl i) := by
            unfold dotN
            rw [BL.sumN_congr (g := fun i => BL.sumN (m + 1) fun j => t.s.lam R (R + 1) (BL.phi R top a gl i) * (a i j * w j)) fun i _ => (BL.sumN_mul (m + 1) _ _).symm, BL.sumN_comm]
            refine BL.sumN_congr fun j _ => ?_
            rw [← BL.sumN_mul]
            exact BL.sumN_congr fun i _ => by simp only [Int.mul_assoc, Int.mul_comm, Int.mul_left_comm]
          have e2 : dotN (m + 1) gl w * t.s.u = BL.sumN (m + 1) fun j => w j * (gl j * t.s.u) := by
            unfold dotN
            rw [Int.mul_comm, ← BL.sumN_mul]
            exact BL.sumN_congr fun j _ => by simp only [Int.mul_assoc, Int.mul_comm, Int.mul_left_comm]
          rw [e1, e2, ← sumN_add]
          exact BL.sumN_congr fun j _ => Int.mul_add _ _ _
        have p1 : 0 ≤ BL.sumN R fun i => t.s.lam R (R + 1) (BL.phi R top a gl i) * dotN (m + 1) (a i) w := BL.sumN_nonneg fun i hi => Int.mul_nonneg (L0 i hi) (hw.r i hi)
        have p2 : 0 ≤ BL.sumN (m + 1) fun j => w j * (t.s.lam R (R + 1) (BL.phiv R top a gl) - (gl j * t.s.u + BL.sumN R fun i => a i j * t.s.lam R (R + 1) (BL.phi R top a gl i))) := BL.sumN_nonneg fun j hj => Int.mul_nonneg (hw.n0 j hj) (by have := g.duals (j := j) (by omega); omega)
        have e3 : (BL.sumN (m + 1) fun j => w j * (t.s.lam R (R + 1) (BL.phiv R top a gl) - (gl j * t.s.u + BL.sumN R fun i => a i j * t.s.lam R (R + 1) (BL.phi R top a gl i)))) = t.s.lam R (R + 1) (BL.phiv R top a gl) * BL.sumN (m + 1) w - BL.sumN (m + 1) fun j => w j * (gl j * t.s.u + BL.sumN R fun i => a i j * t.s.lam R (R + 1) (BL.phi R top a gl i)) := by
          rw [← BL.sumN_mul, ← sumN_sub]
          exact BL.sumN_congr fun j _ => by rw [Int.mul_sub, Int.mul_comm (w j)]
        omega
    obtain ⟨p, q, gg, er, h1, h2, h3, _⟩ := rat_spec (a := t.s.lam R (R + 1) (BL.phiv R top a gl)) (b := t.s.u) (by omega)
    obtain ⟨sp, sq', qp⟩ := rat_sm (show t.s.u ≠ 0 by omega) (le g (R + 1) _ (d.phiv ht)) su er
    have gp : 0 < gg := Int.not_le.mp fun z => by
      have := Int.mul_nonpos_of_nonneg_of_nonpos (Int.le_of_lt qp) z
      omega
    have T' := T.low gp h1 h2 qp
    refine .inr ⟨lowI (mixN R m (BL.phiv R top a gl) t), p, q, (lowI (t.s.u :: dualN R (BL.phi R top a gl) t)).headD 0, (lowI (t.s.u :: dualN R (BL.phi R top a gl) t)).tail, ?_, T', ?_, sp, sq'⟩
    · unfold bestD bestA ratD
      rw [er]
      rfl
    · rw [← T.rat T']
      unfold ratD
      rw [er]; rfl
end
end Lw
namespace Lw
open PySem L2 DL
theorem pool_calC {n m : Nat} {l : List D} (h : PoolOk n l) : CalC m l := by
  obtain ⟨a, c, ns, e, q1, q2, q3⟩ := h
  subst e
  exact ⟨fun j hj => by simp at hj, fun c fs l e => by cases e⟩
theorem pool_mono {n m : Nat} {l : List D} (h : PoolOk n l) (hm : n ≤ m) : PoolOk m l := by
  obtain ⟨a, c, ns, e, q1, q2, q3⟩ := h
  exact ⟨a, c, ns, e, q1, by omega, q3⟩
theorem sum_nn : ∀ (l : List Int), (∀ x ∈ l, 0 ≤ x) → 0 ≤ l.sum
  | [], _ => Int.le_refl 0
  | x :: l, h => by
    have h1 := h x List.mem_cons_self
    have h2 := sum_nn l fun y hy => h y (List.mem_cons_of_mem _ hy)
    rw [List.sum_cons]; omega
theorem v_lw {k : Nat} (hk : 1 ≤ k ∧ k ≤ 16) {most : Int} (hmo : 1 ≤ most ∧ most ≤ 1000) (n : Nat) (hn : n ≤ 800000) (l : List D) (hp : PoolOk n l) :
    ∃ (l' : List D) (ws : List Int), PoolOk (n + k + 1) l' ∧ ws.length = k ∧ (∀ x ∈ ws, 0 ≤ x ∧ x ≤ most) ∧ 0 < ws.sum ∧ callM asPure m__law_weights [.ptr 0, .d (.int (k : Nat)), .d (.int most)] [l] = some (.ok (.d (.lst (ws.map D.int))), [l']) := by
  obtain ⟨l1, vs, p1, hl, hv, e1⟩ := comp_loopP (fun v => 0 ≤ v ∧ v ≤ most) (eCall asPure m__law_take [] (aCons (eVar 0) (aCons (eOp oAdd (eVar 2) (eC (.int 1))) aNil))) (.one 4) (rangeD 0 k) [some (.ptr 0), some (.d (.int (k : Nat))), some (.d (.int most)), none, none] (fun d => ⟨_, rfl⟩) (fun d env1 n l rest h hn hp => by
    cases h
    obtain ⟨r, l', r0, r1, p1, e1⟩ := take_ok n (by omega) (most + 1) l rest (by omega) (Nat.lt_of_lt_of_le (log2_lt (k := 64) (by
      have : (2 : Nat) ^ 64 = 18446744073709551616 := by decide
      omega) (by decide)) (by decide)) hp
    have ct := call_at (m := m__law_take) rfl e1
    refine ⟨r, l', p1, ⟨r0, by omega⟩, ?_⟩
    exists ct) [] (rangeD 0 k) n l [] (by rw [rangeD_length]; omega) (by rw [rangeD_length]; simp only [List.length_nil]; omega) hp
  rw [rangeD_length] at hl p1
  have c1 : (eLcOwn [4] (.one 4) (eArg walkR1 (aCons (eVar 1) aNil)) tYesD (eCall asPure m__law_take [] (aCons (eVar 0) (aCons (eOp oAdd (eVar 2) (eC (.int 1))) aNil)))) [some (.ptr 0), some (.d (.int (k : Nat))), some (.d (.int most)), none, none] [l] = some (.ok (.ptr 1), [l1, vs.map D.int]) := by
    unfold eLcOwn
    rw [bnd_at (show (eArg walkR1 (aCons (eVar 1) aNil)) [some (.ptr 0), some (.d (.int (k : Nat))), some (.d (.int most)), none, none] [l] = some (.ok (rangeD 0 k, none), [l]) from at_ret (ev_ArgR (as := [.d (.int k)]) rfl (walk_n k (by omega))) _)]
    dsimp only
    rw [show wipeE [some (.ptr 0), some (.d (.int (k : Nat))), some (.d (.int most)), none, none] [4] = [some (.ptr 0), some (.d (.int (k : Nat))), some (.d (.int most)), none, none] from rfl, show ([l] : Store).length = ([] : Store).length + 1 from rfl, show ([l] : Store) ++ [[]] = l :: ([] : Store) ++ [[]] from rfl, e1]
    simp [clsd_ints]
    exact pool_cal p1
  have nn : ∀ w ∈ vs, 0 ≤ w := fun w hw => (hv w hw).1
  have bs : ∀ vs : List Int, bSum [.ptr 1] [l1, vs.map D.int] = some (.ok (.d (.int vs.sum)), [l1, vs.map D.int]) := fun vs => sum_ptr (S := [l1, vs.map D.int]) (k := 1) (xs := vs) rfl
  have bs1 := bs vs
  have fin : ∀ (l' : List D) (n' : Nat) (ws : List Int), PoolOk n' l' → y__law_weights [some (.ptr 0), some (.d (.int (k : Nat))), some (.d (.int most)), none, none] [l] = some (.rt (.ptr 1), [l', ws.map D.int]) → callM asPure m__law_weights [.ptr 0, .d (.int (k : Nat)), .d (.int most)] [l] = some (.ok (.d (.lst (ws.map D.int))), [l']) := fun l' n' ws p h => by
    refine call_atF rfl ?_ (clsd_ints ws)
    exact fn_rtZ (np := 3) (n := 5) (body := y__law_weights) (as := [.ptr 0, .d (.int (k : Nat)), .d (.int most)]) (S := [l]) (x := ws.map D.int) (y := ws.map D.int) rfl h (Nat.le_refl 1) rfl (frzL_of (clsd_ints ws)) (fun k ds hk hd => by
      have hk : k = 0 := by simp at hk; omega
      subst hk
      cases hd
      exact .inr (pool_calC p))
  cases h0 : decide (vs.sum = 0) with
  | true =>
    obtain ⟨r, l2, r0, r1, p2, e2⟩ := take_ok (n + k) (by omega) k l1 [vs.map D.int] (by omega) (nat_log (by omega)) p1
    obtain ⟨j, rfl⟩ := Int.eq_ofNat_of_zero_le r0
    have hj : j < vs.length := by omega
    have mem : ∀ w ∈ vs.set j 1, 0 ≤ w ∧ w ≤ most := fun w hw => by
      rcases List.mem_or_eq_of_mem_set hw with q | q
      · exact hv w q
      · rw [q]; omega
    refine ⟨l2, vs.set j 1, p2, by rw [List.length_set]; omega, mem, sum_pos_of (fun w hw => (mem w hw).1) ⟨1, List.mem_set hj 1, by decide⟩, fin l2 _ _ p2 ?_⟩
    have ct2 : callM asPure m__law_take [.ptr 0, .d (.int (k : Nat))] [l1, vs.map D.int] = some (.ok (.d (.int (j : Nat))), [l2, vs.map D.int]) := call_at (m := m__law_take) rfl e2
    have si : sSetI (eVar 3) (eCall asPure m__law_take [] (aCons (eVar 0) (aCons (eVar 1) aNil))) (eC (.int 1)) [some (.ptr 0), some (.d (.int (k : Nat))), some (.d (.int most)), some (.ptr 1), none] [l1, vs.map D.int] = some (.nx [some (.ptr 0), some (.d (.int (k : Nat))), some (.d (.int most)), some (.ptr 1), none], [l2, (vs.set j 1).map D.int]) :=
      q_SetI (x := .int 1) (k := 1) (n := (j : Int)) (l := vs.map D.int) (j := j) (S1 := [l1, vs.map D.int]) (S2 := [l1, vs.map D.int]) (S3 := [l2, vs.map D.int]) rfl rfl (by exists ct2) rfl (by rw [List.length_map]; exact ixN_nat hj) (by
        rw [← List.map_set]; rfl)
    unfold y__law_weights
    exists c1, bs1, h0, si
  | false =>
    refine ⟨l1, vs, pool_mono p1 (by omega), hl, hv, ?_, fin l1 _ _ p1 ?_⟩
    · have : ¬ vs.sum = 0 := of_decide_eq_false h0
      have q : 0 ≤ vs.sum := sum_nn vs nn
      omega
    · unfold y__law_weights
      exists c1, bs1, h0
def lackI (x : Int) : Int := if 0 - x > 0 then 0 - x else 0
def madeA (n : Nat) (a : Nat → Nat → Int) (f : Nat → Int) (i j : Nat) : Int := if j < n then a i j else lackI (dotN n (a i) f)
theorem rD_congr {n : Nat} {f g : Nat → Int} (h : ∀ i, i < n → f i = g i) : rD n f = rD n g := by
  unfold rD; rw [rI_ext (l := rI n f) (rI_len n f) fun i hi => by rw [rI_get hi, h i hi]]
theorem made_row (n : Nat) (a : Nat → Nat → Int) (f : Nat → Int) (i : Nat) : rD n (a i) ++ [.int (lackI (dotN n (a i) f))] = rD (n + 1) (madeA n a f i) := by
  rw [rD_snoc]
  have e1 : madeA n a f i n = lackI (dotN n (a i) f) := by unfold madeA; rw [if_neg (Nat.lt_irrefl _)]
  rw [e1, rD_congr (g := madeA n a f i) fun j hj => by unfold madeA; rw [if_pos hj]]
section
variable {R n : Nat} {a : Nat → Nat → Int} {f : Nat → Int}
theorem made_loop (hn : n ≤ 20) (ha : ∀ i j, i < R → j < n → Sm 4000 (a i j)) (hf : ∀ i, i < n → Sm 4000 (f i)) (all : List D) (e0 e2 e3 e4 e9 e10 e11 e12 e13 e14 e15 e16 e17 e18 e19 e20 e21 e22 e23 : Option SV) (l : List D) :
    ∀ (L : List Nat) (acc : List D) (e7 e8 : Option SV), (∀ i ∈ L, i < R) → acc.length + L.length ≤ 1000 → ∃ x7 x8,
      forL (.one 7) none all b1_law (L.map fun i => D.lst (rD n (a i))) [e0, some (.ptr 0), e2, e3, e4, some (.d (.lst (rD n f))), some (.ptr 1), e7, e8, e9, e10, e11, e12, e13, e14, e15, e16, e17, e18, e19, e20, e21, e22, e23] [l, acc] = some (.nx [e0, some (.ptr 0), e2, e3, e4, some (.d (.lst (rD n f))), some (.ptr 1), x7, x8, e9, e10, e11, e12, e13, e14, e15, e16, e17, e18, e19, e20, e21, e22, e23], [l, acc ++ L.map fun i => D.lst (rD (n + 1) (madeA n a f i))])
  | [], acc, e7, e8, _, _ => ⟨e7, e8, by rw [List.map_nil, List.map_nil, List.append_nil]; rfl⟩
  | i :: L, acc, e7, e8, h, hl => by
    simp only [List.length_cons] at hl
    have hi := h i List.mem_cons_self
    obtain ⟨x7, x8, ih⟩ := made_loop hn ha hf all e0 e2 e3 e4 e9 e10 e11 e12 e13 e14 e15 e16 e17 e18 e19 e20 e21 e22 e23 l L (acc ++ [.lst (rD (n + 1) (madeA n a f i))]) (some (.d (.lst (rD n (a i))))) (some (.d (.int (lackI (dotN n (a i) f))))) (fun j hj => h j (List.mem_cons_of_mem _ hj)) (by simp; omega)
    refine ⟨x7, x8, ?_⟩
    have cw : callM asPure m__law_weighed [.d (.lst (rD n (a i))), .d (.lst (rD n f))] = ret (.d (.int (dotN n (a i) f))) := call_pure rfl (v_lweighed (by omega) (fun j hj => ha i j hi hj) hf)
    have bm : bMax [.d (.int 0), .d (.int (0 - dotN n (a i) f))] = ret (.d (.int (lackI (dotN n (a i) f)))) := bMax_i _ _
    have ad : oAdd (.d (.lst (rD n (a i)))) (.d (.lst [.int (lackI (dotN n (a i) f))])) = ret (.d (.lst (rD (n + 1) (madeA n a f i)))) := by rw [← made_row]; exact oAdd_l (by rw [rD_len]; simp; omega)
    have ap : sApp (eVar 6) (eOp oAdd (eVar 7) (eArg mkLst (aCons (eVar 8) aNil))) [e0, some (.ptr 0), e2, e3, e4, some (.d (.lst (rD n f))), some (.ptr 1), some (.d (.lst (rD n (a i)))), some (.d (.int (lackI (dotN n (a i) f)))), e9, e10, e11, e12, e13, e14, e15, e16, e17, e18, e19, e20, e21, e22, e23] [l, acc] = some (.nx [e0, some (.ptr 0), e2, e3, e4, some (.d (.lst (rD n f))), some (.ptr 1), some (.d (.lst (rD n (a i)))), some (.d (.int (lackI (dotN n (a i) f)))), e9, e10, e11, e12, e13, e14, e15, e16, e17, e18, e19, e20, e21, e22, e23], [l, acc ++ [.lst (rD (n + 1) (madeA n a f i))]]) :=
      q_App (k := 1) (l := acc) (S1 := [l, acc]) (S2 := [l, acc]) rfl (by exists ad) rfl (by omega) rfl
    have st : b1_law [e0, some (.ptr 0), e2, e3, e4, some (.d (.lst (rD n f))), some (.ptr 1), some (.d (.lst (rD n (a i)))), e8, e9, e10, e11, e12, e13, e14, e15, e16, e17, e18, e19, e20, e21, e22, e23] [l, acc] = some (.nx [e0, some (.ptr 0), e2, e3, e4, some (.d (.lst (rD n f))), some (.ptr 1), some (.d (.lst (rD n (a i)))), some (.d (.int (lackI (dotN n (a i) f)))), e9, e10, e11, e12, e13, e14, e15, e16, e17, e18, e19, e20, e21, e22, e23], [l, acc ++ [.lst (rD (n + 1) (madeA n a f i))]]) := by
      exists cw, bm, ap
    rw [List.map_cons, List.map_cons, for_nx (kk := none) rfl st trivial, ih, List.append_assoc]
    rfl
end
end Lw
namespace Lw
open PySem L2 DL
def owns (n : Nat) : List D := (List.range n).map fun i => D.own (i + 2)
theorem owns_succ (n : Nat) : owns (n + 1) = owns n ++ [.own (n + 2)] := by unfold owns; rw [List.range_succ, List.map_append]; rfl
theorem owns_eq (n : Nat) : owns n = ((List.range n).map (· + 2)).map D.own := by unfold owns; rw [List.map_map]; rfl
theorem frz_own {n : Nat} (S : Store) : ∀ (js : List Nat) (rs : List (List D)), js.length = rs.length → (∀ p ∈ js.zip rs, n ≤ p.1 ∧ S[p.1]? = some p.2 ∧ clsd p.2 = true) → frzL n S (js.map D.own) = some (rs.map D.lst)
  | [], [], _, _ => rfl
  | [], _ :: _, h, _ => by simp at h
  | _ :: _, [], h, _ => by simp at h
  | j :: js, r :: rs, h, hp => by
    have ih := frz_own S js rs (by simpa using h) fun p hq => hp p (by simp [hq])
    obtain ⟨c, a, b⟩ := hp (j, r) (by simp)
    have a' : S[j]? = some r := a
    have b' : clsd r = true := b
    have c' : ¬ j < n := Nat.not_lt.mpr c
    have : frzD n S (.own j) = some (.lst r) := by simp [frzD, a', b', c']
    show (match frzD n S (.own j), frzL n S (js.map D.own) with | some x, some xs => some (x :: xs) | _, _ => none) = _
    rw [ih, this]; rfl
theorem zip_at {Q : List (List D)} {a b : List D} {p : Nat × List D} (hp : p ∈ ((List.range Q.length).map (· + 2)).zip Q) : 2 ≤ p.1 ∧ (a :: b :: Q)[p.1]? = some p.2 := by
  obtain ⟨i, hi, e⟩ := List.mem_iff_getElem.mp hp
  rw [← e]
  simp only [List.length_zip, List.length_map, List.length_range] at hi
  rw [List.getElem_zip]
  simp
theorem frz_Q {n : Nat} (hn : n ≤ 2) (a b : List D) {Q : List (List D)} (h : ∀ r ∈ Q, clsd r = true) : frzL n (a :: b :: Q) (owns Q.length) = some (Q.map D.lst) := by
  rw [owns_eq]
  exact frz_own _ _ Q (by simp) fun p hp => ⟨by have := (zip_at (a := a) (b := b) hp).1; omega, (zip_at hp).2, h p.2 (List.of_mem_zip hp).2⟩
theorem lcX_step {t : Tg} {all : List D} {fe : DL.Env → M SV} {k j : Nat} {env env1 : DL.Env} {d : D} {ds : List D} {S S2 : Store} {acc : List D} (h1 : setT t d env = some env1) (h2 : fe env1 S = some (.ok (.ptr j), S2)) (h3 : S2[k]? = some acc) (h4 : acc.length < 16777216) :
    lcL t none all tYesD fe k env (d :: ds) S = lcL t none all tYesD fe k env ds (S2.set k (acc ++ [.own j])) := by
  conv => lhs; unfold lcL
  rw [h1]; dsimp only [tYesD, DL.ret]; rw [h2]; dsimp only
  unfold lcNext
  rw [h3]; dsimp only; rw [if_pos (show acc.length < lim from h4)]; dsimp only
  rw [if_pos (show keepOk none all _ from trivial)]
/-- the copies of rows, each one's own -/
theorem copy_loop (all : List D) (E : DL.Env) (hE : 7 < E.length) (l : List D) : ∀ (rs Q : List (List D)), Q.length + rs.length ≤ 1000 →
    lcL (.one 7) none all tYesD (eArg bListOwn (aCons (eVar 7) aNil)) 1 E (rs.map D.lst) (l :: owns Q.length :: Q) = some (l :: owns (Q ++ rs).length :: (Q ++ rs))
  | [], Q, _ => by rw [List.append_nil]; rfl
  | r :: rs, Q, h => by
    simp only [List.length_cons] at h
    have g : (E.set 7 (some (.d (.lst r))))[7]? = some (some (.d (.lst r))) := List.getElem?_set_self hE
    have fe : (eArg bListOwn (aCons (eVar 7) aNil)) (E.set 7 (some (.d (.lst r)))) (l :: owns Q.length :: Q) = some (.ok (.ptr (Q.length + 2)), l :: owns Q.length :: (Q ++ [r])) := by
      refine q_arg (q_cons (q_var g) q_nil) ?_
      have := bListOwn_l (S := l :: owns Q.length :: Q) r
      exact this
    rw [List.map_cons, lcX_step (env1 := E.set 7 (some (.d (.lst r)))) (k := 1) (acc := owns Q.length) rfl fe rfl (by unfold owns; simp; omega)]
    have e : (l :: owns Q.length :: (Q ++ [r])).set 1 (owns Q.length ++ [.own (Q.length + 2)]) = l :: owns (Q ++ [r]).length :: (Q ++ [r]) := by
      rw [List.length_append, List.length_singleton, owns_succ]; rfl
    have ih : ∀ E', 7 < E'.length → lcL (.one 7) none all tYesD (eArg bListOwn (aCons (eVar 7) aNil)) 1 E' (rs.map D.lst) (l :: owns (Q ++ [r]).length :: (Q ++ [r])) = some (l :: owns ((Q ++ [r]) ++ rs).length :: ((Q ++ [r]) ++ rs)) := fun E' h' => copy_loop all E' h' l rs (Q ++ [r]) (by simp; omega)
    rw [e, ih E hE, List.append_assoc]
    rfl
theorem v_copy {E : DL.Env} (hE : 7 < E.length) {rs : List (List D)} (h2 : E[2]? = some (some (.d (.lst (rs.map D.lst))))) (hl : rs.length ≤ 1000) (l : List D) : c0_law E [l] = some (.ok (.ptr 1), l :: owns rs.length :: rs) := by
  have e := copy_loop (rs.map D.lst) (wipeE E [7]) (by show 7 < (E.set 7 none).length; rw [List.length_set]; exact hE) l rs [] (by simpa using hl)
  unfold c0_law eLcX
  rw [bnd_at (show iOf (eVar 2) E [l] = some (.ok (rs.map D.lst, none), [l]) from q_iOf (q_var h2) q_wkL)]
  dsimp only
  have e' : lcL (.one 7) none (rs.map D.lst) tYesD (eArg bListOwn (aCons (eVar 7) aNil)) 1 (wipeE E [7]) (rs.map D.lst) ([l] ++ [[]]) = some (l :: owns rs.length :: rs) := e
  rw [show ([l] : Store).length = 1 from rfl, e']
def overI (x : Int) : Int := if x + 1 > 0 then x + 1 else 0
def bentA (a : Nat → Nat → Int) (p : Nat) (s : Nat → Int) (c i j : Nat) : Int := if i = p ∧ j < c then a i j - overI (s j) else a i j
def rowsQ (R n : Nat) (a : Nat → Nat → Int) : List (List D) := (List.range R).map fun i => rD n (a i)
theorem rowsQ_lst (R n : Nat) (a : Nat → Nat → Int) : (rowsQ R n a).map D.lst = rowsD false R n a := by unfold rowsQ rowsD; rw [List.map_map]; rfl
theorem rowsQ_len (R n : Nat) (a : Nat → Nat → Int) : (rowsQ R n a).length = R := by unfold rowsQ; simp
theorem rowsQ_at {R n i : Nat} {a : Nat → Nat → Int} (h : i < R) : (rowsQ R n a)[i]? = some (rD n (a i)) := by unfold rowsQ; rw [List.getElem?_map, List.getElem?_range h]; rfl
theorem bent_0 (R n : Nat) (a : Nat → Nat → Int) (p : Nat) (s : Nat → Int) : rowsQ R n (bentA a p s 0) = rowsQ R n a := by
  unfold rowsQ
  refine List.map_congr_left fun i _ => rD_congr fun j _ => ?_
  unfold bentA
  rw [if_neg (by omega)]
theorem bent_set {R n p c : Nat} {a : Nat → Nat → Int} {s : Nat → Int} (hp : p < R) (hc : c < n) : (rowsQ R n (bentA a p s c)).set p ((rD n (bentA a p s c p)).set c (.int (a p c - overI (s c)))) = rowsQ R n (bentA a p s (c + 1)) := by
  refine List.ext_getElem? fun i => ?_
  by_cases hi : i < R
  rotate_left
  · rw [List.getElem?_eq_none (by rw [List.length_set, rowsQ_len]; omega), List.getElem?_eq_none (by rw [rowsQ_len]; omega)]
  rw [rowsQ_at hi]
  by_cases e : i = p
  · subst e
    rw [List.getElem?_set_self (by rw [rowsQ_len]; exact hp)]
    congr 1
    refine List.ext_getElem? fun j => ?_
    by_cases hj : j < n
    rotate_left
    · rw [List.getElem?_eq_none (by rw [List.length_set, rD_len]; omega), List.getElem?_eq_none (by rw [rD_len]; omega)]
    rw [rD_get hj]
    by_cases e2 : j = c
    · subst e2
      rw [List.getElem?_set_self (by rw [rD_len]; exact hj)]
      unfold bentA
      rw [if_pos ⟨rfl, by omega⟩]
    · rw [List.getElem?_set_ne (fun q => e2 q.symm), rD_get hj]
      unfold bentA
      by_cases e3 : j < c
      · rw [if_pos ⟨rfl, e3⟩, if_pos ⟨rfl, by omega⟩]
      · rw [if_neg (by omega), if_neg (by omega)]
  · rw [List.getElem?_set_ne (fun q => e q.symm), rowsQ_at hi]
    congr 1
    refine rD_congr fun j _ => ?_
    unfold bentA
    rw [if_neg (fun q => e q.1), if_neg (fun q => e q.1)]
section
variable {R n p : Nat} {a : Nat → Nat → Int} {s : Nat → Int}
theorem bar_loop (hp : p < R) (hn : n ≤ 900) (all : List D) (e0 e1 e2 e3 e4 e5 e6 e7 e8 e9 e10 e11 e12 e13 e14 e15 e16 e19 e23 : Option SV) (l : List D) : ∀ (m c : Nat) (e21 e22 : Option SV), c + m = n → ∃ x21 x22,
    forL (.one 21) none all b0_law ((List.range' c m).map fun i => .int ((0 : Int) + (i : Nat))) [e0, e1, e2, e3, e4, e5, e6, e7, e8, e9, e10, e11, e12, e13, e14, e15, e16, some (.d (.lst (rD n s))), some (.d (.int (p : Nat))), e19, some (.ptr 1), e21, e22, e23] (l :: owns R :: rowsQ R n (bentA a p s c)) =
      some (.nx [e0, e1, e2, e3, e4, e5, e6, e7, e8, e9, e10, e11, e12, e13, e14, e15, e16, some (.d (.lst (rD n s))), some (.d (.int (p : Nat))), e19, some (.ptr 1), x21, x22, e23], l :: owns R :: rowsQ R n (bentA a p s n))
  | 0, c, e21, e22, h => ⟨e21, e22, by rw [show c = n by omega]; rfl⟩
  | m + 1, c, e21, e22, h => by
    have hc : c < n := by omega
    obtain ⟨x21, x22, ih⟩ := bar_loop hp hn all e0 e1 e2 e3 e4 e5 e6 e7 e8 e9 e10 e11 e12 e13 e14 e15 e16 e19 e23 l m (c + 1) (some (.d (.int ((c : Nat) : Int)))) (some (.d (.int (overI (s c))))) (by omega)
    refine ⟨x21, x22, ?_⟩
    have i1 : oIdx (.d (.lst (rD n s))) (.d (.int (c : Nat))) = ret (.d (.int (s c))) := ixD hc
    have bm : bMax [.d (.int 0), .d (.int (s c + 1))] = ret (.d (.int (overI (s c)))) := bMax_i _ _
    have hX : oIdxX (.ptr 1) (.d (.int (p : Nat))) (l :: owns R :: rowsQ R n (bentA a p s c)) = some (.ok (.ptr (p + 2)), l :: owns R :: rowsQ R n (bentA a p s c)) := by
      have at' : atI (owns R) (p : Nat) = some (.own (p + 2)) := atI_nat (by unfold owns; rw [List.getElem?_map, List.getElem?_range hp]; rfl)
      unfold oIdxX
      dsimp only
      rw [show (l :: owns R :: rowsQ R n (bentA a p s c))[1]? = some (owns R) from rfl]
      dsimp only
      rw [at']
    have rowp : (l :: owns R :: rowsQ R n (bentA a p s c))[p + 2]? = some (rD n (bentA a p s c p)) := rowsQ_at hp
    have vp : bentA a p s c p c = a p c := by unfold bentA; rw [if_neg (by omega)]
    have i2 : oIdx (.ptr (p + 2)) (.d (.int (c : Nat))) (l :: owns R :: rowsQ R n (bentA a p s c)) = some (.ok (.d (.int (a p c))), l :: owns R :: rowsQ R n (bentA a p s c)) := by
      have := oIdx_p (S := l :: owns R :: rowsQ R n (bentA a p s c)) (k := p + 2) (i := ((c : Nat) : Int)) rowp (d := .int (bentA a p s c p c)) (rD_at hc)
      rw [vp] at this; exact this
    let env1 : DL.Env := [e0, e1, e2, e3, e4, e5, e6, e7, e8, e9, e10, e11, e12, e13, e14, e15, e16, some (.d (.lst (rD n s))), some (.d (.int (p : Nat))), e19, some (.ptr 1), some (.d (.int (c : Nat))), some (.d (.int (overI (s c)))), e23]
    have si : sSetI (eOp oIdxX (eVar 20) (eVar 18)) (eVar 21) (eOp oSub (eOp oIdx (eOp oIdxX (eVar 20) (eVar 18)) (eVar 21)) (eVar 22)) [e0, e1, e2, e3, e4, e5, e6, e7, e8, e9, e10, e11, e12, e13, e14, e15, e16, some (.d (.lst (rD n s))), some (.d (.int (p : Nat))), e19, some (.ptr 1), some (.d (.int (c : Nat))), some (.d (.int (overI (s c)))), e23] (l :: owns R :: rowsQ R n (bentA a p s c)) = some (.nx [e0, e1, e2, e3, e4, e5, e6, e7, e8, e9, e10, e11, e12, e13, e14, e15, e16, some (.d (.lst (rD n s))), some (.d (.int (p : Nat))), e19, some (.ptr 1), some (.d (.int (c : Nat))), some (.d (.int (overI (s c)))), e23], l :: owns R :: rowsQ R n (bentA a p s (c + 1))) :=
      q_SetI (x := .int (a p c - overI (s c))) (k := p + 2) (n := ((c : Nat) : Int)) (l := rD n (bentA a p s c p)) (j := c) (S1 := l :: owns R :: rowsQ R n (bentA a p s c)) (S2 := l :: owns R :: rowsQ R n (bentA a p s c)) (S3 := l :: owns R :: rowsQ R n (bentA a p s c)) (by exists hX, i2) (by exists hX) rfl rowp (by rw [rD_len]; exact ixN_nat hc) (by
        rw [← bent_set hp hc]; rfl)
    have st : b0_law [e0, e1, e2, e3, e4, e5, e6, e7, e8, e9, e10, e11, e12, e13, e14, e15, e16, some (.d (.lst (rD n s))), some (.d (.int (p : Nat))), e19, some (.ptr 1), some (.d (.int (c : Nat))), e22, e23] (l :: owns R :: rowsQ R n (bentA a p s c)) = some (.nx [e0, e1, e2, e3, e4, e5, e6, e7, e8, e9, e10, e11, e12, e13, e14, e15, e16, some (.d (.lst (rD n s))), some (.d (.int (p : Nat))), e19, some (.ptr 1), some (.d (.int (c : Nat))), some (.d (.int (overI (s c)))), e23], l :: owns R :: rowsQ R n (bentA a p s (c + 1))) := by
      exists i1, bm, si
    rw [List.range'_succ, List.map_cons, for_nx (kk := none) (env1 := [e0, e1, e2, e3, e4, e5, e6, e7, e8, e9, e10, e11, e12, e13, e14, e15, e16, some (.d (.lst (rD n s))), some (.d (.int (p : Nat))), e19, some (.ptr 1), some (.d (.int (c : Nat))), e22, e23]) (by rw [Int.zero_add]; rfl) st trivial, ih]
end
theorem v_lis (v : Bool) : callM asOwn m__law_is [.d (.bl v), .d (.bl v)] = ret (.d (.bl true)) := by
  refine call_pureO rfl (fn_R rfl ?_)
  have c1 : bIsi [.d (.bl v), .d (.ty "bool")] = ret (.d (.bl true)) := by simp [bIsi, tyN]
  have e1 : oEq (.d (.bl v)) (.d (.bl v)) = ret (.d (.bl true)) := eq_same (Cmp.bl v) (by decide)
  refine q_fun fun S => ?_
  exists c1, e1
theorem v_less {a b c d : Int} (h1 : Sm 4000 a) (h2 : Sm 4000 b) (h3 : Sm 4000 c) (h4 : Sm 4000 d) : callM asPure m__law_less [.d (.tup [.int a, .int b]), .d (.tup [.int c, .int d])] = ret (.d (.bl (decide (a * d < c * b)))) := by
  refine call_pure rfl (fn_R rfl (q_fun fun S => ?_))
  have i0 : oIdx (.d (.tup [.int a, .int b])) (.d (.int 0)) = ret (.d (.int a)) := rfl
  have i1 : oIdx (.d (.tup [.int a, .int b])) (.d (.int 1)) = ret (.d (.int b)) := rfl
  have j0 : oIdx (.d (.tup [.int c, .int d])) (.d (.int 0)) = ret (.d (.int c)) := rfl
  have j1 : oIdx (.d (.tup [.int c, .int d])) (.d (.int 1)) = ret (.d (.int d)) := rfl
  have m1 := mul_sm h1 h4
  have m2 := mul_sm h3 h2
  exists i0, i1, j0, j1, m1, m2
/-- the first place with an amount -/
theorem v_firstP {R : Nat} {f : Nat → Int} {e0 e1 e2 e3 e4 e5 e6 e7 e8 e9 e10 e11 e12 e13 e14 e15 e17 e18 e19 e20 e21 e22 e23 : Option SV} (hl : R ≤ 100) (hn : ∀ i, i < R → 0 ≤ f i) (hs : 0 < BL.sumN R f) : ∃ p, p < R ∧ 0 < f p ∧ ∃ L : List D,
    c1_law [e0, e1, e2, e3, e4, e5, e6, e7, e8, e9, e10, e11, e12, e13, e14, e15, some (.d (.lst (rD R f))), e17, e18, e19, e20, e21, e22, e23] = ret (.d (.lst L)) ∧ oIdx (.d (.lst L)) (.d (.int 0)) = ret (.d (.int (p : Nat))) := by
  have wn := walk_n R (by omega)
  rw [range_map] at wn
  have bl : bLen [.d (.lst (rD R f))] = ret (.d (.int (R : Nat))) := by rw [bLen_l, rD_len]
  have lc := lcA_ret (env := [e0, e1, e2, e3, e4, e5, e6, e7, e8, e9, e10, e11, e12, e13, e14, e15, some (SV.d (.lst (rD R f))), e17, e18, e19, e20, e21, e22, e23]) (ws := [19]) (t := .one 19) (f := eArg walkR1 (aCons (eArg bLen (aCons (eVar 16) aNil)) aNil)) (cond := eTst (eOp oGt (eOp oIdx (eVar 16) (eVar 19)) (eC (.int 0)))) (fe := eVar 19)
    (ds := List.range R) (fun i => D.int ((i : Nat) : Int)) (fun i => decide (f i > 0)) (fun i => D.int ((i : Nat) : Int)) (q_fun fun S => by exists bl, wn) (fun i hi => ⟨[e0, e1, e2, e3, e4, e5, e6, e7, e8, e9, e10, e11, e12, e13, e14, e15, some (.d (.lst (rD R f))), e17, e18, some (.d (.int ((i : Nat) : Int))), e20, e21, e22, e23], rfl, (q_fun fun S => by
      have ix : oIdx (.d (.lst (rD R f))) (.d (.int (i : Nat))) = ret (.d (.int (f i))) := ixD (List.mem_range.mp hi)
      exists ix), fun _ => rfl⟩) (by rw [List.length_range]; omega)
  obtain ⟨k, hk, kp⟩ := sumN_pos0 hn hs
  have hm : k ∈ (List.range R).filter fun i => decide (f i > 0) := List.mem_filter.mpr ⟨List.mem_range.mpr hk, decide_eq_true kp⟩
  cases hL : (List.range R).filter fun i => decide (f i > 0) with
  | nil => rw [hL] at hm; cases hm
  | cons p L =>
    have hp : p ∈ (List.range R).filter fun i => decide (f i > 0) := by rw [hL]; exact List.mem_cons_self
    obtain ⟨h1, h2⟩ := List.mem_filter.mp hp
    rw [hL] at lc
    exact ⟨p, List.mem_range.mp h1, of_decide_eq_true h2, _, lc, oIdx_l (atI_nat (i := 0) rfl)⟩
end Lw
namespace Lw
open PySem L2 DL
theorem sm52 {x : Int} {k : Nat} (h : x.natAbs ≤ 60000) (hk : 16 ≤ k) : Sm k x := Sm.mono (j := 16) (Nat.lt_of_le_of_lt h (by decide)) hk
section
variable {R n m : Nat} {a : Nat → Nat → Int} {f s gl : Nat → Int}
theorem dot_le {f g : Nat → Int} {A B : Nat} (hf : ∀ j, j < n → (f j).natAbs ≤ A) (hg : ∀ j, j < n → (g j).natAbs ≤ B) : (dotN n f g).natAbs ≤ n * (A * B) := BL.sumN_le fun i hi => by
  rw [Int.natAbs_mul]; exact Nat.mul_le_mul (hf i hi) (hg i hi)
theorem made_bd (hn : n ≤ 6) (ha : ∀ i j, i < R → j < n → (a i j).natAbs ≤ 2000) (hf : ∀ j, j < n → (f j).natAbs ≤ 5) : ∀ i j, i < R → j ≤ n → (madeA n a f i j).natAbs ≤ 60000 := fun i j hi hj => by
  unfold madeA
  split
  · rename_i h
    have := ha i j hi h; omega
  · have h := dot_le (n := n) (fun j hj => ha i j hi hj) hf
    have : n * (2000 * 5) ≤ 6 * (2000 * 5) := Nat.mul_le_mul_right _ hn
    unfold lackI
    split <;> omega
def lastA (n : Nat) (f : Nat → Int) (x : Int) (j : Nat) : Int := if j < n then f j else x
theorem last_row (n : Nat) (f : Nat → Int) (x : Int) : rD n f ++ [.int x] = rD (n + 1) (lastA n f x) := by
  rw [rD_snoc]
  have e1 : lastA n f x n = x := by unfold lastA; rw [if_neg (Nat.lt_irrefl _)]
  rw [e1, rD_congr (g := lastA n f x) fun j hj => by unfold lastA; rw [if_pos hj]]
theorem made_alw (hf : ∀ j, j < n → 0 ≤ f j) : Alw R (n + 1) (madeA n a f) (lastA n f 1) := by
  have l0 : ∀ j, j < n → lastA n f 1 j = f j := fun j hj => by unfold lastA; rw [if_pos hj]
  have l1 : lastA n f 1 n = 1 := by unfold lastA; rw [if_neg (Nat.lt_irrefl _)]
  refine ⟨fun j hj => ?_, ?_, fun i hi => ?_⟩
  · unfold lastA
    split
    · rename_i h; exact hf j h
    · decide
  · show 0 < BL.sumN n (lastA n f 1) + lastA n f 1 n
    have : 0 ≤ BL.sumN n (lastA n f 1) := BL.sumN_nonneg fun j hj => by rw [l0 j hj]; exact hf j hj
    rw [l1]; omega
  · show 0 ≤ BL.sumN n (fun j => madeA n a f i j * lastA n f 1 j) + madeA n a f i n * lastA n f 1 n
    have e1 : (BL.sumN n fun j => madeA n a f i j * lastA n f 1 j) = dotN n (a i) f := BL.sumN_congr fun j hj => by
      rw [l0 j hj]; unfold madeA; rw [if_pos hj]
    have e2 : madeA n a f i n = lackI (dotN n (a i) f) := by unfold madeA; rw [if_neg (Nat.lt_irrefl _)]
    rw [e1, e2, l1]
    unfold lackI
    split <;> omega
theorem bent_bd (hR : R ≤ 6) (ha : ∀ i j, i < R → j < n → (a i j).natAbs ≤ 2000) (hf : ∀ i, i < R → (f i).natAbs ≤ 4) (p : Nat) : ∀ i j, i < R → j < n → (bentA a p (sumsI R a f) n i j).natAbs ≤ 60000 := fun i j hi hj => by
  unfold bentA
  have h1 := ha i j hi hj
  split
  · have h : (sumsI R a f j).natAbs ≤ R * (4 * 2000) := BL.sumN_le fun i hi => by
      rw [Int.natAbs_mul]; exact Nat.mul_le_mul (hf i hi) (ha i j hi hj)
    have : R * (4 * 2000) ≤ 6 * (4 * 2000) := Nat.mul_le_mul_right _ hR
    unfold overI
    split <;> omega
  · omega
theorem sum_one {n p : Nat} (hp : p < n) (f g : Nat → Int) (d : Int) (h : ∀ i, i < n → g i = if i = p then f i - d else f i) : BL.sumN n g = BL.sumN n f - d := by
  have e : BL.sumN n (fun i => f i - g i) = f p - g p := BL.sumN_one (f := fun i => f i - g i) hp fun i hi hne => by
    show f i - g i = 0
    rw [h i hi, if_neg hne, Int.sub_self]
  rw [sumN_sub, h p hp, if_pos rfl] at e
  omega
theorem bent_none {am : List Int} (hl : am.length = R) (h0 : ∀ x ∈ am, 0 ≤ x) {p : Nat} (hp : p < R) (hpp : 0 < fnL am p) : noneI R n (bentA a p (sumsI R a (fnL am)) n) am = true := by
  unfold noneI
  simp only [Bool.and_eq_true, decide_eq_true_eq, List.all_eq_true, List.mem_range]
  refine ⟨⟨hl, h0⟩, fun j hj => ?_⟩
  have e : sumsI R (bentA a p (sumsI R a (fnL am)) n) (fnL am) j = sumsI R a (fnL am) j - fnL am p * overI (sumsI R a (fnL am) j) := by
    refine sum_one hp _ _ _ fun i hi => ?_
    unfold bentA
    by_cases e : i = p
    · subst e
      rw [if_pos ⟨rfl, hj⟩, if_pos rfl, Int.mul_sub]
    · rw [if_neg (fun q => e q.1), if_neg e]
  rw [e]
  have h1 : overI (sumsI R a (fnL am) j) ≤ fnL am p * overI (sumsI R a (fnL am) j) := by
    have : 0 ≤ overI (sumsI R a (fnL am) j) := by unfold overI; split <;> omega
    have := Int.mul_le_mul_of_nonneg_right (show (1 : Int) ≤ fnL am p by omega) this
    omega
  have h2 : sumsI R a (fnL am) j - overI (sumsI R a (fnL am) j) < 0 := by unfold overI; split <;> omega
  omega
theorem rat_one (x : Int) : ratD x 1 = .tup [.int x, .int 1] := by
  obtain ⟨t, d, g, e, h1, h2, h3, _⟩ := rat_spec (a := x) (b := 1) (by decide)
  have gd : g ∣ 1 := ⟨d, by rw [Int.mul_comm]; exact h2.symm⟩
  have g1 : g = 1 := by
    have : 0 < g := Int.not_le.mp fun z => by
      have := Int.mul_nonpos_of_nonneg_of_nonpos (Int.le_of_lt h3) z
      omega
    exact Int.le_antisymm (Int.le_of_dvd (by decide) gd) this
  rw [g1, Int.mul_one] at h1 h2
  unfold ratD
  rw [e, h1, h2]; rfl
theorem tup_inj {x y z w : Int} (h : D.tup [.int x, .int y] = .tup [.int z, .int w]) : x = z ∧ y = w := by
  injection h with h
  injection h with h1 h2
  injection h2 with h2 _
  injection h1 with h1
  injection h2 with h2
  exact ⟨h1, h2⟩
/-- the greatest of all, where there are no rows -/
theorem top_max (hn : 0 < n) : TopN 0 n a gl (maxL (rI n gl)) 1 := by
  obtain ⟨h1, h2⟩ := maxL_mem (rI_ne (f := gl) hn)
  obtain ⟨k, hk, e⟩ := rI_mem.mp h1
  have le : ∀ j, j < n → gl j ≤ maxL (rI n gl) := fun j hj => h2 _ (rI_mem.mpr ⟨j, hj, rfl⟩)
  refine ⟨by decide, ⟨fun j => if j = k then 1 else 0, ⟨fun j _ => by split <;> decide, ?_, fun i hi => absurd hi (Nat.not_lt_zero _)⟩, ?_⟩, fun w hw => ?_⟩
  · rw [BL.sumN_one (f := fun j => if j = k then 1 else 0) hk fun i _ hne => if_neg hne, if_pos rfl]; decide
  · have e1 : dotN n gl (fun j => if j = k then 1 else 0) = gl k := by
      unfold dotN
      rw [BL.sumN_one (f := fun i => gl i * if i = k then 1 else 0) hk fun i _ hne => by rw [if_neg hne, Int.mul_zero], if_pos rfl, Int.mul_one]
    rw [BL.sumN_one (f := fun j => if j = k then (1 : Int) else 0) hk fun i _ hne => if_neg hne, if_pos rfl, e1, e]
  · rw [Int.mul_one, ← BL.sumN_mul]
    have p : 0 ≤ BL.sumN n fun j => w j * (maxL (rI n gl) - gl j) := BL.sumN_nonneg fun j hj => Int.mul_nonneg (hw.n0 j hj) (by have := le j hj; omega)
    have e1 : (BL.sumN n fun j => w j * (maxL (rI n gl) - gl j)) = (BL.sumN n fun j => maxL (rI n gl) * w j) - dotN n gl w := by
      unfold dotN
      rw [← sumN_sub]
      exact BL.sumN_congr fun j _ => by rw [Int.mul_sub, Int.mul_comm (w j), Int.mul_comm (w j)]
    omega
/-- the program's answer, where a mix is allowed -/
theorem g_best (d : Dat R m 60000 a gl) (hR : R ≤ 6) (hm : m ≤ 6) {w : Nat → Int} (hw : Alw R (m + 1) a w) : ∃ (mix : List Int) (t u sz : Int) (am : List Int), callM asPure m_greatest [.d (.lst (rowsD false R (m + 1) a)), .d (.lst (rD (m + 1) gl))] = ret (.d (.tup [.str "best", .lst (mix.map D.int), .tup [.int t, .int u], .int sz, .lst (am.map D.int)])) ∧
    TopN R (m + 1) a gl t u ∧ ratD t u = .tup [.int t, .int u] ∧ Sm 300 t ∧ Sm 300 u := by
  obtain ⟨res, run, h⟩ := g_full d hR hm
  rcases h with ⟨am, rfl, _, _, h⟩ | ⟨mix, t, u, sz, am, rfl, h⟩
  · exact (none_no h hw).elim
  · exact ⟨mix, t, u, sz, am, call_pure rfl run, h⟩
theorem g_none (d : Dat R m 60000 a gl) (hR : R ≤ 6) (hm : m ≤ 6) {am : List Int} (hn : noneI R (m + 1) a am = true) : ∃ am' : List Int, callM asPure m_greatest [.d (.lst (rowsD false R (m + 1) a)), .d (.lst (rD (m + 1) gl))] = ret (.d (.tup [.str "none", .lst (am'.map D.int)])) ∧ am'.length = R ∧ (∀ x ∈ am', Sm 300 x) ∧ noneI R (m + 1) a am' = true := by
  obtain ⟨res, run, h⟩ := g_full d hR hm
  rcases h with ⟨am', rfl, h⟩ | ⟨mix, t, u, sz, am', rfl, T, _⟩
  · exact ⟨am', call_pure rfl run, h⟩
  · obtain ⟨w, hw, _⟩ := T.att
    exact (none_no hn hw).elim
/-- no more than the greatest mean -/
theorem TopN.noless {v u t d g : Int} (T : TopN R n a gl v u) {w : Nat → Int} (hw : Alw R n a w) (h1 : t * g = dotN n gl w) (h2 : d * g = BL.sumN n w) (hg : 0 < g) : ¬ v * d < t * u := fun q => by
  have h := T.top w hw
  rw [← h1, ← h2] at h
  have h3 : t * u * g ≤ v * d * g := by
    rw [show t * u * g = t * g * u by simp only [Int.mul_assoc, Int.mul_comm, Int.mul_left_comm], Int.mul_assoc v]
    exact h
  have := le_can hg h3
  omega
end
end Lw
namespace Lw
open PySem L2 DL
theorem rD_of {l : List Int} {n : Nat} (h : l.length = n) : l.map D.int = rD n (fnL l) := by subst h; exact congrArg (List.map D.int) (vec_eq l)
theorem fnL_rI {n : Nat} {g : Nat → Int} {j : Nat} (h : j < n) : fnL (rI n g) j = g j := by unfold fnL; rw [List.getD_eq_getElem?_getD, rI_get h]; rfl
theorem sum_of {l : List Int} {n : Nat} (h : l.length = n) : l.sum = BL.sumN n (fnL l) := by
  subst h
  conv => lhs; rw [vec_eq l]
  exact sum_range _ _
theorem eq_nil {L : List D} (hc : ∀ d ∈ L, Cmp 1 d) : oEq (.d (.lst L)) (.d (.lst [])) = ret (.d (.bl L.isEmpty)) := by
  rw [oEq_d (Cmp.ok (n := 2) (m := 2) (Cmp.lst hc) (Cmp.lst fun d hd => by cases hd) (by decide) (by decide))]
  cases L <;> rfl
theorem cmp_rowD {R n : Nat} {a : Nat → Nat → Int} : ∀ d ∈ rowsD false R n a, Cmp 1 d := fun d hd => by
  obtain ⟨i, _, rfl⟩ := List.mem_map.mp hd
  exact Cmp.lst fun d hd => by obtain ⟨x, _, rfl⟩ := List.mem_map.mp hd; exact Cmp.int x
theorem cmp_t2 (t u : Int) : Cmp 1 (.tup [.int t, .int u]) := Cmp.tup fun d hd => by
  have : d = .int t ∨ d = .int u := by simpa using hd
  rcases this with rfl | rfl <;> exact Cmp.int _
theorem st_best : PyData.strOk "best" = true := by decide +kernel
theorem st_none : PyData.strOk "none" = true := by decide +kernel
theorem step_dot {n : Nat} (g : Nat → Int) (st : Int) (w : Nat → Int) : dotN n (fun j => g j + st) w = dotN n g w + st * BL.sumN n w := by
  unfold dotN
  rw [← BL.sumN_mul, ← sumN_add]
  exact BL.sumN_congr fun j _ => Int.add_mul _ _ _
theorem main : ∀ ns : List Int, ns.length ≤ 63 → m_law [.d (.scr (ns.map D.int))] [] = some (.ok (.d (.bl true)), []) := by
  intro ns hns
  let X0 : SV := .d (.scr (ns.map D.int))
  let L0 : List D := [.int 0, .int 0, .lst (ns.map D.int)]
  have hp0 : PoolOk 0 L0 := ⟨0, 0, ns, rfl, by decide, by decide, hns⟩
  obtain ⟨l1, R, m, a, gl, hR, hm, ha, hg, p1, c1⟩ := goal_rows 6 6 (by decide) (by decide) 0 (by decide) L0 [] hp0
  obtain ⟨l2, ws, p2, wl, wb, wp, cw⟩ := v_lw (k := m + 1) (by omega) (most := 5) (by decide) 1000 (by decide) l1 p1
  obtain ⟨f, hf⟩ : ∃ f, f = fnL ws := ⟨_, rfl⟩
  rw [rD_of wl, ← hf] at cw
  have f0 : ∀ j, j < m + 1 → 0 ≤ f j ∧ f j ≤ 5 := fun j hj => by rw [hf]; exact wb _ (fnL_mem (by omega))
  have ha' : ∀ i j, i < R → j < m + 1 → (a i j).natAbs ≤ 2000 := fun i j hi hj => ha i j hi (by omega)
  obtain ⟨x7, x8, lp⟩ := made_loop (R := R) (n := m + 1) (a := a) (f := f) (by omega) (fun i j hi hj => sm52 (by have := ha' i j hi hj; omega) (by decide)) (fun j hj => sm52 (by have := f0 j hj; omega) (by decide)) (rowsD false R (m + 1) a)
    (some X0) (some (.d (.lst (rowsD false R (m + 1) a)))) (some (.d (.lst (rD (m + 1) gl)))) (some (.d (.int ((m + 1 : Nat) : Int)))) none none none none none none none none none none none none none none none l2 (List.range R) [] none none (fun i hi => List.mem_range.mp hi) (by simp; omega)
  obtain ⟨r3, l3, q0, q1, p3, c3⟩ := take_ok (1000 + (m + 1) + 1) (by omega) 19 l2 [rowsD false R (m + 1 + 1) (madeA (m + 1) a f)] (by decide) (by decide) p2
  obtain ⟨A1, hA1⟩ : ∃ A, A = madeA (m + 1) a f := ⟨_, rfl⟩
  obtain ⟨w, hw⟩ : ∃ w, w = lastA (m + 1) f 1 := ⟨_, rfl⟩
  obtain ⟨g1, hg1⟩ : ∃ g, g = lastA (m + 1) gl (r3 - 9) := ⟨_, rfl⟩
  have lp' : forL (.one 7) none (rowsD false R (m + 1) a) b1_law (rowsD false R (m + 1) a) [some X0, some (.ptr 0), some (.d (.lst (rowsD false R (m + 1) a))), some (.d (.lst (rD (m + 1) gl))), some (.d (.int ((m + 1 : Nat) : Int))), some (.d (.lst (rD (m + 1) f))), some (.ptr 1), none, none, none, none, none, none, none, none, none, none, none, none, none, none, none, none, none] [l2, []] = some (.nx [some X0, some (.ptr 0), some (.d (.lst (rowsD false R (m + 1) a))), some (.d (.lst (rD (m + 1) gl))), some (.d (.int ((m + 1 : Nat) : Int))), some (.d (.lst (rD (m + 1) f))), some (.ptr 1), x7, x8, none, none, none, none, none, none, none, none, none, none, none, none, none, none, none], [l2, rowsD false R (m + 1 + 1) A1]) := by rw [hA1]; exact lp
  rw [← hA1] at c3
  have alw : Alw R (m + 1 + 1) A1 w := by rw [hA1, hw]; exact made_alw fun j hj => (f0 j hj).1
  have bA : ∀ i j, i < R → j ≤ m + 1 → (A1 i j).natAbs ≤ 60000 := by rw [hA1]; exact made_bd (by omega) ha' fun j hj => by have := f0 j hj; omega
  have bg1 : ∀ j, (j < m + 1 → (gl j).natAbs ≤ 1000) → (g1 j).natAbs ≤ 1000 := fun j hj => by
    rw [hg1]; unfold lastA
    split
    · rename_i h; exact hj h
    · omega
  have bg : ∀ j, j ≤ m + 1 → (g1 j).natAbs ≤ 1000 := fun j hj => bg1 j fun h => hg j (by omega)
  have sz : BL.dB (2 * 60000 + 1) (R + 2) < 2 ^ 4000 := Nat.lt_trans (sz300 hR) (Nat.pow_lt_pow_right (by decide) (by decide))
  have dat : ∀ g : Nat → Int, (∀ j, j ≤ m + 1 → (g j).natAbs ≤ 60000) → Dat R (m + 1) 60000 A1 g := fun g h => ⟨by omega, by omega, bA, h, sz⟩
  obtain ⟨mx, t, u, zz, am1, gr1, T1, rt1, s1, s2⟩ := g_best (dat g1 fun j hj => by have := bg j hj; omega) hR (by omega) alw
  obtain ⟨r4, l4, q2, q3, p4, c4⟩ := take_ok (1000 + (m + 1) + 1 + 1) (by omega) 2001 l3 [] (by decide) (by decide) p3
  obtain ⟨st, hst⟩ : ∃ s, s = r4 - 1000 := ⟨_, rfl⟩
  obtain ⟨mx2, t2, u2, zz2, am2, gr2, T2, rt2, _, _⟩ := g_best (dat (fun j => g1 j + st) fun j hj => by show (g1 j + st).natAbs ≤ 60000; have := bg j hj; omega) hR (by omega) alw
  obtain ⟨mx3, t3, u3, zz3, am3, gr3, T3, rt3, _, _⟩ := g_best (dat (fun _ => st) fun j hj => by show (st).natAbs ≤ 60000; omega) hR (by omega) alw
  have e3 : t3 = st ∧ u3 = 1 := tup_inj (by rw [← rt3, T3.rat (TopN.const ⟨w, alw⟩ fun _ _ => rfl), rat_one])
  obtain ⟨rfl, rfl⟩ := e3
  have e2 : ratD (t + t3 * u) u = .tup [.int t2, .int u2] := by rw [← rt2]; exact (T1.step fun w => step_dot g1 t3 w).rat T2
  -- draws
  have pool : ∀ S : Store, m__law_pool [X0] S = some (.ok (.fresh L0), S) := fun S => by
    refine fn_F (x := L0) rfl ?_
    show y__law_pool [some X0] S = _
    unfold y__law_pool
    have bs := bList_s (ns.map D.int)
    exists bs
  have po : callM asOwn m__law_pool [X0] [] = some (.ok (.ptr 0), [L0]) := call_atO rfl (pool [])
  have cg : callM asPure m__law_goal_rows [.ptr 0, .d (.int 6), .d (.int 6)] [L0] = some (.ok (.d (.lst [.lst (rowsD false R (m + 1) a), .lst (rD (m + 1) gl)])), [l1]) := call_atF rfl c1 rfl
  have un : sUnpA [2, 3] (eCall asPure m__law_goal_rows [] (aCons (eVar 1) (aCons (eC (.int 6)) (aCons (eC (.int 6)) aNil)))) [some X0, some (.ptr 0), none, none, none, none, none, none, none, none, none, none, none, none, none, none, none, none, none, none, none, none, none, none] [L0] = some (.nx [some X0, some (.ptr 0), some (.d (.lst (rowsD false R (m + 1) a))), some (.d (.lst (rD (m + 1) gl))), none, none, none, none, none, none, none, none, none, none, none, none, none, none, none, none, none, none, none, none], [l1]) :=
    q_UnpL (ds := [.lst (rowsD false R (m + 1) a), .lst (rD (m + 1) gl)]) (by exists cg) rfl
  have bl : bLen [.d (.lst (rD (m + 1) gl))] = ret (.d (.int ((m + 1 : Nat) : Int))) := by rw [bLen_l, rD_len]
  have mo : mkOwn [] [l2] = some (.ok (.ptr 1), [l2, []]) := rfl
  have ct3 : callM asPure m__law_take [.ptr 0, .d (.int 19)] [l2, rowsD false R (m + 1 + 1) A1] = some (.ok (.d (.int r3)), [l3, rowsD false R (m + 1 + 1) A1]) := call_at rfl c3
  have ad1 : oAdd (.d (.lst (rD (m + 1) gl))) (.d (.lst [.int (r3 - 9)])) = ret (.d (.lst (rD (m + 1 + 1) g1))) := by rw [hg1, ← last_row]; exact oAdd_l (by rw [rD_len]; simp; omega)
  have ad2 : oAdd (.d (.lst (rD (m + 1) f))) (.d (.lst [.int 1])) = ret (.d (.lst (rD (m + 1 + 1) w))) := by rw [hw, ← last_row]; exact oAdd_l (by rw [rD_len]; simp; omega)
  -- the lists lent
  have cl1 : clsd (rowsD false R (m + 1 + 1) A1) = true := clsd_map (fun _ => rfl) _
  have hq : 1 ≤ ([l3, rowsD false R (m + 1 + 1) A1] : Store).length := by simp
  have hpl : (([l3, rowsD false R (m + 1 + 1) A1] : Store).take 1).all plainL = true := by
    obtain ⟨x, cu, ns', el, _⟩ := p3
    subst el; rfl
  have h0 : ([l3, rowsD false R (m + 1 + 1) A1] : Store).take 1 = [l3] := rfl
  have k0 : lendQ 1 [l3, rowsD false R (m + 1 + 1) A1] (.ptr 0) = some (.ptr 0) := rfl
  have k1 : lendQ 1 [l3, rowsD false R (m + 1 + 1) A1] (.ptr 1) = some (.d (.lst (rowsD false R (m + 1 + 1) A1))) := by
    show (match frzL 1 [l3, rowsD false R (m + 1 + 1) A1] (rowsD false R (m + 1 + 1) A1) with | some l' => if clsd l' = true then some (SV.d (.lst l')) else none | none => none) = _
    rw [frzL_of cl1]; dsimp only; rw [if_pos cl1]
  obtain ⟨y7, hy7⟩ : ∃ y, y = x7.bind (lendQ 1 [l3, rowsD false R (m + 1 + 1) A1]) := ⟨_, rfl⟩
  obtain ⟨y8, hy8⟩ : ∃ y, y = x8.bind (lendQ 1 [l3, rowsD false R (m + 1 + 1) A1]) := ⟨_, rfl⟩
  have le : lendEnvQ 1 [l3, rowsD false R (m + 1 + 1) A1] [some X0, some (.ptr 0), some (.d (.lst (rowsD false R (m + 1) a))), some (.d (.lst (rD (m + 1) gl))), some (.d (.int ((m + 1 : Nat) : Int))), some (.d (.lst (rD (m + 1) f))), some (.ptr 1), x7, x8, some (.d (.lst (rD (m + 1 + 1) g1))), some (.d (.lst (rD (m + 1 + 1) w))), none, none, none, none, none, none, none, none, none, none, none, none, none] =
      [some X0, some (.ptr 0), some (.d (.lst (rowsD false R (m + 1) a))), some (.d (.lst (rD (m + 1) gl))), some (.d (.int ((m + 1 : Nat) : Int))), some (.d (.lst (rD (m + 1) f))), some (.d (.lst (rowsD false R (m + 1 + 1) A1))), y7, y8, some (.d (.lst (rD (m + 1 + 1) g1))), some (.d (.lst (rD (m + 1 + 1) w))), none, none, none, none, none, none, none, none, none, none, none, none, none] := by
    unfold lendEnvQ
    simp only [List.map_cons, List.map_nil, Option.bind_some, Option.bind_none, k0, k1, ← hy7, ← hy8]
    rfl
  -- the mean of the drawn mix
  have N1 : Num R (m + 1 + 1) A1 g1 := ⟨by omega, by omega, by omega, fun i j hi hj => sm52 (bA i j hi (by omega)) (by decide), fun j hj => sm52 (by have := bg j (by omega); omega) (by decide)⟩
  have wb1 : ∀ j, j < m + 1 + 1 → 0 ≤ w j ∧ w j ≤ 5 := fun j hj => by
    rw [hw]; unfold lastA
    split
    · rename_i h; exact f0 j h
    · decide
  have sw : (rI (m + 1 + 1) w).sum = BL.sumN (m + 1 + 1) w := sum_range _ _
  have mn := v_lmean N1 (mix := rI (m + 1 + 1) w) (rI_len _ _) (by rw [sw]; exact alw.p) (fun x hx => by
    obtain ⟨j, hj, rfl⟩ := rI_mem.mp hx
    exact sm52 (by have := wb1 j hj; omega) (by decide))
  rw [sw, show dotN (m + 1 + 1) g1 (fnL (rI (m + 1 + 1) w)) = dotN (m + 1 + 1) g1 w from BL.sumN_congr fun j hj => by rw [fnL_rI hj]] at mn
  obtain ⟨p, q, gg, er, z1, z2, z3, z4⟩ := rq_at (dotN (m + 1 + 1) g1 w) alw.p
  have mn' : callM asPure m__law_mean [.d (.lst (rD (m + 1 + 1) g1)), .d (.lst (rD (m + 1 + 1) w))] = ret (.d (.tup [.int p, .int q])) := by
    refine call_pure rfl (mn.trans ?_)
    unfold ratD; rw [er]; rfl
  have sdot : Sm 4000 (dotN (m + 1 + 1) g1 w) := (dotN_sm (p := 16) (q := 16) (by omega) (fun j hj => sm52 (by have := bg j (by omega); omega) (by decide)) (fun j hj => sm52 (by have := wb1 j hj; omega) (by decide))).mono (by decide)
  have ssum : Sm 4000 (BL.sumN (m + 1 + 1) w) := (sum_sm (p := 16) (by omega) fun j hj => sm52 (by have := wb1 j hj; omega) (by decide)).mono (by decide)
  obtain ⟨sp, sq', _⟩ := rat_sm (show BL.sumN (m + 1 + 1) w ≠ 0 by have := alw.p; omega) sdot ssum er
  have ls : callM asPure m__law_less [.d (.tup [.int t, .int u]), .d (.tup [.int p, .int q])] = ret (.d (.bl false)) := by
    rw [v_less (s1.mono (by decide)) (s2.mono (by decide)) sp sq', decide_eq_false (T1.noless alw z1 z2 z4)]
  have ix0 : oIdx (.d (.tup [.str "best", .lst (mx.map D.int), .tup [.int t, .int u], .int zz, .lst (am1.map D.int)])) (.d (.int 0)) = ret (.d (.str "best")) := rfl
  have ix2 : ∀ (mx : List Int) (t u zz : Int) (am1 : List Int), oIdx (.d (.tup [.str "best", .lst (mx.map D.int), .tup [.int t, .int u], .int zz, .lst (am1.map D.int)])) (.d (.int 2)) = ret (.d (.tup [.int t, .int u])) := fun _ _ _ _ _ => rfl
  have ix21 := ix2 mx t u zz am1
  have ix22 := ix2 mx2 t2 u2 zz2 am2
  have ix23 := ix2 mx3 t3 1 zz3 am3
  have neB := ne_same (Cmp.str st_best) (by decide)
  have ct4 : callM asPure m__law_take [.ptr 0, .d (.int 2001)] [l3] = some (.ok (.d (.int r4)), [l4]) := call_at rfl c4
  have os : oSub (.d (.int r4)) (.d (.int 1000)) = ret (.d (.int t3)) := by rw [hst]; exact oSub_i _ _
  have un2 : ∀ S : Store, sUnpA [13, 14] (eOp oIdx (eVar 11) (eC (.int 2))) [some X0, some (.ptr 0), some (.d (.lst (rowsD false R (m + 1) a))), some (.d (.lst (rD (m + 1) gl))), some (.d (.int ((m + 1 : Nat) : Int))), some (.d (.lst (rD (m + 1) f))), some (.d (.lst (rowsD false R (m + 1 + 1) A1))), y7, y8, some (.d (.lst (rD (m + 1 + 1) g1))), some (.d (.lst (rD (m + 1 + 1) w))), some (.d (.tup [.str "best", .lst (mx.map D.int), .tup [.int t, .int u], .int zz, .lst (am1.map D.int)])), some (.d (.int t3)), none, none, none, none, none, none, none, none, none, none, none] S =
      some (.nx [some X0, some (.ptr 0), some (.d (.lst (rowsD false R (m + 1) a))), some (.d (.lst (rD (m + 1) gl))), some (.d (.int ((m + 1 : Nat) : Int))), some (.d (.lst (rD (m + 1) f))), some (.d (.lst (rowsD false R (m + 1 + 1) A1))), y7, y8, some (.d (.lst (rD (m + 1 + 1) g1))), some (.d (.lst (rD (m + 1 + 1) w))), some (.d (.tup [.str "best", .lst (mx.map D.int), .tup [.int t, .int u], .int zz, .lst (am1.map D.int)])), some (.d (.int t3)), some (.d (.int t)), some (.d (.int u)), none, none, none, none, none, none, none, none, none], S) := fun S =>
    q_UnpT (ds := [.int t, .int u]) (by exists ix21) rfl
  have un2' := un2 [l4]
  have k3 : ∀ e0 e1 e2 e3 e4 e5 e6 e7 e8 e10 e11 e13 e14 e15 e16 e17 e18 e19 e20 e21 e22 e23, c3_law [e0, e1, e2, e3, e4, e5, e6, e7, e8, some (.d (.lst (rD (m + 1 + 1) g1))), e10, e11, some (.d (.int t3)), e13, e14, e15, e16, e17, e18, e19, e20, e21, e22, e23] = ret (.d (.lst (rD (m + 1 + 1) fun j => g1 j + t3))) := fun e0 e1 e2 e3 e4 e5 e6 e7 e8 e10 e11 e13 e14 e15 e16 e17 e18 e19 e20 e21 e22 e23 => by
    have e : (rI (m + 1 + 1) g1).map (fun x => D.int (x + t3)) = rD (m + 1 + 1) fun j => g1 j + t3 := by unfold rD rI; rw [List.map_map, List.map_map]; rfl
    rw [← e]
    exact lcA_all (ds := rI (m + 1 + 1) g1) D.int (fun x => .int (x + t3)) rfl (fun x _ => ⟨_, rfl, q_fun fun S => by exists trivial⟩) (by rw [rI_len]; omega)
  have k2 : ∀ e0 e1 e2 e3 e4 e5 e6 e7 e8 e10 e11 e13 e14 e15 e16 e17 e18 e19 e20 e21 e22 e23, c2_law [e0, e1, e2, e3, e4, e5, e6, e7, e8, some (.d (.lst (rD (m + 1 + 1) g1))), e10, e11, some (.d (.int t3)), e13, e14, e15, e16, e17, e18, e19, e20, e21, e22, e23] = ret (.d (.lst (rD (m + 1 + 1) fun _ => t3))) := fun e0 e1 e2 e3 e4 e5 e6 e7 e8 e10 e11 e13 e14 e15 e16 e17 e18 e19 e20 e21 e22 e23 => by
    have e : (rI (m + 1 + 1) g1).map (fun x => D.int t3) = rD (m + 1 + 1) fun _ => t3 := by unfold rD rI; rw [List.map_map, List.map_map]; rfl
    rw [← e]
    exact lcA_all (ds := rI (m + 1 + 1) g1) D.int (fun _ => .int t3) rfl (fun x _ => ⟨_, rfl, q_fun fun S => by exists trivial⟩) (by rw [rI_len]; omega)
  have k3' := k3 (some X0) (some (.ptr 0)) (some (.d (.lst (rowsD false R (m + 1) a)))) (some (.d (.lst (rD (m + 1) gl)))) (some (.d (.int ((m + 1 : Nat) : Int)))) (some (.d (.lst (rD (m + 1) f)))) (some (.d (.lst (rowsD false R (m + 1 + 1) A1)))) y7 y8 (some (.d (.lst (rD (m + 1 + 1) w)))) (some (.d (.tup [.str "best", .lst (mx.map D.int), .tup [.int t, .int u], .int zz, .lst (am1.map D.int)]))) (some (.d (.int t))) (some (.d (.int u))) none none none none none none none none none
  have k2' := k2 (some X0) (some (.ptr 0)) (some (.d (.lst (rowsD false R (m + 1) a)))) (some (.d (.lst (rD (m + 1) gl)))) (some (.d (.int ((m + 1 : Nat) : Int)))) (some (.d (.lst (rD (m + 1) f)))) (some (.d (.lst (rowsD false R (m + 1 + 1) A1)))) y7 y8 (some (.d (.lst (rD (m + 1 + 1) w)))) (some (.d (.tup [.str "best", .lst (mx.map D.int), .tup [.int t, .int u], .int zz, .lst (am1.map D.int)]))) (some (.d (.int t))) (some (.d (.int u))) none none none none none none none none none
  have st3 : t3.natAbs ≤ 1000 := by omega
  have om := mul_sm (x := t3) (y := u) (sm52 (by omega) (by decide)) (s2.mono (by decide))
  have up := T1.up
  have stu : Sm 4000 (t + t3 * u) := by
    have h1 : Sm 316 (t3 * u) := (sm52 (k := 16) (by omega) (by decide)).mul s2
    have h2 : t.natAbs < 2 ^ 316 := s1.mono (by decide)
    have h1' : (t3 * u).natAbs < 2 ^ 316 := h1
    show (t + t3 * u).natAbs < 2 ^ 4000
    have h3 : (t + t3 * u).natAbs < 2 ^ 317 := by
      have e : (2 : Nat) ^ 317 = 2 ^ 316 + 2 ^ 316 := by decide +kernel
      omega
    exact Nat.lt_trans h3 (Nat.pow_lt_pow_right (by decide) (by decide))
  have lr : callM asPure m__law_ratio [.d (.int (t + t3 * u)), .d (.int u)] = ret (.d (.tup [.int t2, .int u2])) := by rw [← e2]; exact call_pure rfl (v_lratio (by omega) stu (s2.mono (by decide)))
  have ne2 := ne_same (cmp_t2 t2 u2) (by decide)
  have ne3 := ne_same (cmp_t2 t3 1) (by decide)
  have me := eq_nil (L := rowsD false R (m + 1 + 1) A1) cmp_rowD
  by_cases hR0 : R = 0
  · have me' : oEq (.d (.lst (rowsD false R (m + 1 + 1) A1))) (.d (.lst [])) = ret (.d (.bl true)) := by rw [me]; subst hR0; rfl
    have tu : t = maxL (rI (m + 1 + 1) g1) ∧ u = 1 := by
      have T1' := T1
      rw [hR0] at T1'
      exact tup_inj (by rw [← rt1, T1'.rat (top_max (by omega)), rat_one])
    have bm : bMaxL [.d (.lst (rD (m + 1 + 1) g1))] = ret (.d (.int t)) := by rw [tu.1]; exact bMaxL_map (rI_ne (by omega))
    have ee : oEq (.d (.tup [.int t, .int u])) (.d (.tup [.int t, .int 1])) = ret (.d (.bl true)) := by rw [tu.2]; exact eq_same (cmp_t2 t 1) (by decide)
    apply fn_TT (T := _) rfl (Nat.zero_le 1)
    · show y_law [some X0, none, none, none, none, none, none, none, none, none, none, none, none, none, none, none, none, none, none, none, none, none, none, none] [] = _
      unfold y_law
      exists po, un, bl, cw, mo, lp', ct3, ad1, ad2, hpl, le, h0, gr1, ix0, neB, ix21, mn', ls, ct4, os, un2', k3', gr2, ix22, om, lr, ne2, k2', gr3, ix23, ne3, me', bm, ee
      exact hq
    · rfl
  have hR1 : 1 ≤ R := by omega
  have me' : oEq (.d (.lst (rowsD false R (m + 1 + 1) A1))) (.d (.lst [])) = ret (.d (.bl false)) := by
    rw [me]
    obtain ⟨R', rfl⟩ : ∃ k, R = k + 1 := ⟨R - 1, by omega⟩
    have : (rowsD false (R' + 1) (m + 1 + 1) A1).isEmpty = false := by
      cases h : rowsD false (R' + 1) (m + 1 + 1) A1 with
      | nil => have := congrArg List.length h; rw [rows_len] at this; simp at this
      | cons x xs => rfl
    rw [this]
  obtain ⟨l5, vs, p5, vl, vb, vp, cv⟩ := v_lw (k := R) (by omega) (most := 4) (by decide) (1000 + (m + 1) + 1 + 1 + 1) (by omega) l4 p4
  obtain ⟨b, hb⟩ : ∃ b, b = fnL vs := ⟨_, rfl⟩
  have evs : vs.map D.int = rD R b := by rw [hb]; exact rD_of vl
  have b0 : ∀ i, i < R → 0 ≤ b i ∧ b i ≤ 4 := fun i hi => by rw [hb]; exact vb _ (fnL_mem (by omega))
  rw [evs] at cv
  have blr : bLen [.d (.lst (rowsD false R (m + 1) a))] = ret (.d (.int (R : Nat))) := by rw [bLen_l, rows_len]
  have lsm : callM asPure m__law_sums [.d (.lst (rowsD false R (m + 1) a)), .d (.lst (rD R b)), .d (.int ((m + 1 : Nat) : Int))] = ret (.d (.lst (rD (m + 1) (sumsI R a b)))) :=
    call_pure rfl (v_lsums (by omega) (by omega) (fun i j hi hj => sm52 (by have := ha' i j hi hj; omega) (by decide)) (fun i hi => sm52 (by have := b0 i hi; omega) (by decide)))
  obtain ⟨x11, hx11⟩ : ∃ x : D, x = .tup [.str "best", .lst (mx.map D.int), .tup [.int t, .int u], .int zz, .lst (am1.map D.int)] := ⟨_, rfl⟩
  rw [← hx11] at gr1 ix0 ix21 k3' k2'
  have un2q := un2'
  rw [← hx11] at un2q
  obtain ⟨pp, hpp, hbp, LL, kf, ixf⟩ := v_firstP (R := R) (f := b) (e0 := some X0) (e1 := some (.ptr 0)) (e2 := some (.d (.lst (rowsD false R (m + 1) a)))) (e3 := some (.d (.lst (rD (m + 1) gl)))) (e4 := some (.d (.int ((m + 1 : Nat) : Int)))) (e5 := some (.d (.lst (rD (m + 1) f)))) (e6 := some (.d (.lst (rowsD false R (m + 1 + 1) A1)))) (e7 := y7) (e8 := y8) (e9 := some (.d (.lst (rD (m + 1 + 1) g1)))) (e10 := some (.d (.lst (rD (m + 1 + 1) w)))) (e11 := some (.d x11)) (e12 := some (.d (.int t3))) (e13 := some (.d (.int t))) (e14 := some (.d (.int u))) (e15 := none) (e17 := some (.d (.lst (rD (m + 1) (sumsI R a b))))) (e18 := none) (e19 := none) (e20 := none) (e21 := none) (e22 := none) (e23 := none) (by omega) (fun i hi => (b0 i hi).1) (by rw [hb, ← sum_of vl]; exact vp)
  have cpy := v_copy (E := [some X0, some (.ptr 0), some (.d (.lst (rowsD false R (m + 1) a))), some (.d (.lst (rD (m + 1) gl))), some (.d (.int ((m + 1 : Nat) : Int))), some (.d (.lst (rD (m + 1) f))), some (.d (.lst (rowsD false R (m + 1 + 1) A1))), y7, y8, some (.d (.lst (rD (m + 1 + 1) g1))), some (.d (.lst (rD (m + 1 + 1) w))), some (.d x11), some (.d (.int t3)), some (.d (.int t)), some (.d (.int u)), none, some (.d (.lst (rD R b))), some (.d (.lst (rD (m + 1) (sumsI R a b)))), some (.d (.int (pp : Nat))), none, none, none, none, none]) (rs := rowsQ R (m + 1) a) (by simp) (by rw [rowsQ_lst]; rfl) (by rw [rowsQ_len]; omega) l5
  rw [rowsQ_len] at cpy
  have wn := walk_n (m + 1) (by omega)
  rw [rangeD_0] at wn
  obtain ⟨x21, x22, bar⟩ := bar_loop (R := R) (n := m + 1) (p := pp) (a := a) (s := sumsI R a b) hpp (by omega) ((List.range' 0 (m + 1)).map fun i => .int ((0 : Int) + (i : Nat))) (some X0) (some (.ptr 0)) (some (.d (.lst (rowsD false R (m + 1) a)))) (some (.d (.lst (rD (m + 1) gl)))) (some (.d (.int ((m + 1 : Nat) : Int)))) (some (.d (.lst (rD (m + 1) f)))) (some (.d (.lst (rowsD false R (m + 1 + 1) A1)))) y7 y8 (some (.d (.lst (rD (m + 1 + 1) g1)))) (some (.d (.lst (rD (m + 1 + 1) w)))) (some (.d x11)) (some (.d (.int t3))) (some (.d (.int t))) (some (.d (.int u))) none (some (.d (.lst (rD R b)))) none none l5 (m + 1) 0 none none (by omega)
  rw [bent_0] at bar
  obtain ⟨B, hB⟩ : ∃ B, B = bentA a pp (sumsI R a b) (m + 1) := ⟨_, rfl⟩
  rw [← hB] at bar
  -- the second lending
  have f0' : lendSV (l5 :: owns R :: rowsQ R (m + 1) B) (.ptr 0) = some (.d (.lst l5)) := by
    obtain ⟨x, cu, ns', el, _⟩ := p5
    subst el; rfl
  have f1' : lendSV (l5 :: owns R :: rowsQ R (m + 1) B) (.ptr 1) = some (.d (.lst (rowsD false R (m + 1) B))) := by
    show (frzL 0 (l5 :: owns R :: rowsQ R (m + 1) B) (owns R)).map _ = _
    have := frz_Q (n := 0) (by decide) l5 (owns R) (Q := rowsQ R (m + 1) B) (fun r hr => by obtain ⟨i, _, rfl⟩ := List.mem_map.mp hr; exact clsd_ints _)
    rw [rowsQ_len, rowsQ_lst] at this
    rw [this]; rfl
  obtain ⟨z7, hz7⟩ : ∃ y, y = y7.bind (lendSV (l5 :: owns R :: rowsQ R (m + 1) B)) := ⟨_, rfl⟩
  obtain ⟨z8, hz8⟩ : ∃ y, y = y8.bind (lendSV (l5 :: owns R :: rowsQ R (m + 1) B)) := ⟨_, rfl⟩
  obtain ⟨z21, hz21⟩ : ∃ y, y = x21.bind (lendSV (l5 :: owns R :: rowsQ R (m + 1) B)) := ⟨_, rfl⟩
  obtain ⟨z22, hz22⟩ : ∃ y, y = x22.bind (lendSV (l5 :: owns R :: rowsQ R (m + 1) B)) := ⟨_, rfl⟩
  have le2 : lendEnv (l5 :: owns R :: rowsQ R (m + 1) B) [some X0, some (.ptr 0), some (.d (.lst (rowsD false R (m + 1) a))), some (.d (.lst (rD (m + 1) gl))), some (.d (.int ((m + 1 : Nat) : Int))), some (.d (.lst (rD (m + 1) f))), some (.d (.lst (rowsD false R (m + 1 + 1) A1))), y7, y8, some (.d (.lst (rD (m + 1 + 1) g1))), some (.d (.lst (rD (m + 1 + 1) w))), some (.d x11), some (.d (.int t3)), some (.d (.int t)), some (.d (.int u)), none, some (.d (.lst (rD R b))), some (.d (.lst (rD (m + 1) (sumsI R a b)))), some (.d (.int (pp : Nat))), none, some (.ptr 1), x21, x22, none] =
      [some X0, some (.d (.lst l5)), some (.d (.lst (rowsD false R (m + 1) a))), some (.d (.lst (rD (m + 1) gl))), some (.d (.int ((m + 1 : Nat) : Int))), some (.d (.lst (rD (m + 1) f))), some (.d (.lst (rowsD false R (m + 1 + 1) A1))), z7, z8, some (.d (.lst (rD (m + 1 + 1) g1))), some (.d (.lst (rD (m + 1 + 1) w))), some (.d x11), some (.d (.int t3)), some (.d (.int t)), some (.d (.int u)), none, some (.d (.lst (rD R b))), some (.d (.lst (rD (m + 1) (sumsI R a b)))), some (.d (.int (pp : Nat))), none, some (.d (.lst (rowsD false R (m + 1) B))), z21, z22, none] := by
    unfold lendEnv
    simp only [List.map_cons, List.map_nil, Option.bind_some, Option.bind_none, f0', f1', ← hz7, ← hz8, ← hz21, ← hz22]
    rfl
  -- the impossible rows
  have bB : ∀ i j, i < R → j < m + 1 → (B i j).natAbs ≤ 60000 := by rw [hB]; exact bent_bd hR ha' (fun i hi => by have := b0 i hi; omega) pp
  have datB : Dat R m 60000 B gl := ⟨by omega, by omega, fun i j hi hj => bB i j hi (by omega), fun j hj => by have := hg j hj; omega, sz⟩
  have noB : noneI R (m + 1) B vs = true := by rw [hB, hb]; exact bent_none vl (fun x hx => (vb x hx).1) hpp (by rw [← hb]; exact hbp)
  obtain ⟨am4, gr4, al4, as4, no4⟩ := g_none datB hR (by omega) noB
  have NB : Num R (m + 1) B gl := ⟨by omega, by omega, by omega, fun i j hi hj => sm52 (bB i j hi hj) (by decide), fun j hj => sm52 (by have := hg j (by omega); omega) (by decide)⟩
  have ln4 : callM asPure m__law_none_right [.d (.lst (rowsD false R (m + 1) B)), .d (.lst (am4.map D.int)), .d (.int ((m + 1 : Nat) : Int))] = ret (.d (.bl true)) := by rw [← no4]; exact call_pure rfl (v_lnone NB (by omega) fun x hx => (as4 x hx).mono (by decide))
  have lnv : callM asPure m__law_none_right [.d (.lst (rowsD false R (m + 1) B)), .d (.lst (rD R b)), .d (.int ((m + 1 : Nat) : Int))] = ret (.d (.bl true)) := by rw [← noB, ← evs]; exact call_pure rfl (v_lnone NB (by omega) fun x hx => sm52 (by have := vb x hx; omega) (by decide))
  have ian : callM asPure m_is_answer [.d (.lst (rowsD false R (m + 1) B)), .d (.lst (rD (m + 1) gl)), .d (.tup [.str "none", .lst (rD R b)])] = ret (.d (.bl true)) := by
    rw [← noB, ← evs]
    exact call_pure rfl (funext fun S => v_ansN false NB (by omega) (by omega) (fun x hx => sm52 (by have := vb x hx; omega) (by decide)) S)
  have i40 : oIdx (.d (.tup [.str "none", .lst (am4.map D.int)])) (.d (.int 0)) = ret (.d (.str "none")) := rfl
  have i41 : oIdx (.d (.tup [.str "none", .lst (am4.map D.int)])) (.d (.int 1)) = ret (.d (.lst (am4.map D.int))) := rfl
  have neN := ne_same (Cmp.str st_none) (by decide)
  have lis := v_lis true
  apply fn_TT (T := _) rfl (Nat.zero_le 1)
  · show y_law [some X0, none, none, none, none, none, none, none, none, none, none, none, none, none, none, none, none, none, none, none, none, none, none, none] [] = _
    unfold y_law
    exists po, un, bl, cw, mo, lp', ct3, ad1, ad2, hpl, le, h0, gr1, ix0, neB, ix21, mn', ls, ct4, os, un2q, k3', gr2, ix22, om, lr, ne2, k2', gr3, ix23, ne3, me', blr, cv, lsm, kf, ixf, cpy, wn, bar, le2, gr4, i40, i41, neN, ln4, lnv, ian, lis
    exact hq
  · rfl
end Lw
namespace Lw
open PySem L2 DL
structure Txt (K : PySem.W.Frag) (mg : Str → Option Value) : Prop where
  fld : FldT K mg okF
  b_tuple : mg "tuple" = none
  b_list : mg "list" = none
  b_isinstance : mg "isinstance" = none
  b_len : mg "len" = none
  b_int : mg "int" = none
  b_bool : mg "bool" = none
  b_all : mg "all" = none
  b_max : mg "max" = none
  b_range : mg "range" = none
  b_zip : mg "zip" = none
  b_min : mg "min" = none
  b_enumerate : mg "enumerate" = none
  b_gcd : mg "gcd" = some (.builtin "math.gcd")
  b_dict : mg "dict" = none
  b_sum : mg "sum" = none
  b_any : mg "any" = none
  b_abs : mg "abs" = none
section
variable {P : Program} {w : World} {K : PySem.W.Frag} {mg : Str → Option Value} {base : Heap}
theorem sc_is_whole : FnScope N_is_whole P_is_whole (defScope s_is_whole) := ⟨rfl, rfl, rfl, by decide +kernel, rfl, by decide +kernel, by decide +kernel⟩
theorem sc_is_positive : FnScope N_is_positive P_is_positive (defScope s_is_positive) := ⟨rfl, rfl, rfl, by decide +kernel, rfl, by decide +kernel, by decide +kernel⟩
theorem sc_is_list : FnScope N_is_list P_is_list (defScope s_is_list) := ⟨rfl, rfl, rfl, by decide +kernel, rfl, by decide +kernel, by decide +kernel⟩
theorem sc_is_row : FnScope N_is_row P_is_row (defScope s_is_row) := ⟨rfl, rfl, rfl, by decide +kernel, rfl, by decide +kernel, by decide +kernel⟩
theorem sc_is_weights : FnScope N_is_weights P_is_weights (defScope s_is_weights) := ⟨rfl, rfl, rfl, by decide +kernel, rfl, by decide +kernel, by decide +kernel⟩
theorem sc_ratio : FnScope N_ratio P_ratio (defScope s_ratio) := ⟨rfl, rfl, rfl, by decide +kernel, rfl, by decide +kernel, by decide +kernel⟩
theorem sc_lowest : FnScope N_lowest P_lowest (defScope s_lowest) := ⟨rfl, rfl, rfl, by decide +kernel, rfl, by decide +kernel, by decide +kernel⟩
theorem sc_first_line : FnScope N_first_line P_first_line (defScope s_first_line) := ⟨rfl, rfl, rfl, by decide +kernel, rfl, by decide +kernel, by decide +kernel⟩
theorem sc_replaced : FnScope N_replaced P_replaced (defScope s_replaced) := ⟨rfl, rfl, rfl, by decide +kernel, rfl, by decide +kernel, by decide +kernel⟩
theorem sc_greatest : FnScope N_greatest P_greatest (defScope s_greatest) := ⟨rfl, rfl, rfl, by decide +kernel, rfl, by decide +kernel, by decide +kernel⟩
theorem sc_best_answer : FnScope N_best_answer P_best_answer (defScope s_best_answer) := ⟨rfl, rfl, rfl, by decide +kernel, rfl, by decide +kernel, by decide +kernel⟩
theorem sc_endless_amounts : FnScope N_endless_amounts P_endless_amounts (defScope s_endless_amounts) := ⟨rfl, rfl, rfl, by decide +kernel, rfl, by decide +kernel, by decide +kernel⟩
theorem sc_numbers_of : FnScope N_numbers_of P_numbers_of (defScope s_numbers_of) := ⟨rfl, rfl, rfl, by decide +kernel, rfl, by decide +kernel, by decide +kernel⟩
theorem sc_check_program : FnScope N_check_program P_check_program (defScope s_check_program) := ⟨rfl, rfl, rfl, by decide +kernel, rfl, by decide +kernel, by decide +kernel⟩
theorem sc_is_answer : FnScope N_is_answer P_is_answer (defScope s_is_answer) := ⟨rfl, rfl, rfl, by decide +kernel, rfl, by decide +kernel, by decide +kernel⟩
theorem sc_shows_none : FnScope N_shows_none P_shows_none (defScope s_shows_none) := ⟨rfl, rfl, rfl, by decide +kernel, rfl, by decide +kernel, by decide +kernel⟩
theorem sc_is_attained : FnScope N_is_attained P_is_attained (defScope s_is_attained) := ⟨rfl, rfl, rfl, by decide +kernel, rfl, by decide +kernel, by decide +kernel⟩
theorem sc_is_bound : FnScope N_is_bound P_is_bound (defScope s_is_bound) := ⟨rfl, rfl, rfl, by decide +kernel, rfl, by decide +kernel, by decide +kernel⟩
theorem sc_is_amounts : FnScope N_is_amounts P_is_amounts (defScope s_is_amounts) := ⟨rfl, rfl, rfl, by decide +kernel, rfl, by decide +kernel, by decide +kernel⟩
theorem sc_sums : FnScope N_sums P_sums (defScope s_sums) := ⟨rfl, rfl, rfl, by decide +kernel, rfl, by decide +kernel, by decide +kernel⟩
theorem sc_weighted : FnScope N_weighted P_weighted (defScope s_weighted) := ⟨rfl, rfl, rfl, by decide +kernel, rfl, by decide +kernel, by decide +kernel⟩
theorem sc__law_pool : FnScope N__law_pool P__law_pool (defScope s__law_pool) := ⟨rfl, rfl, rfl, by decide +kernel, rfl, by decide +kernel, by decide +kernel⟩
theorem sc__law_take : FnScope N__law_take P__law_take (defScope s__law_take) := ⟨rfl, rfl, rfl, by decide +kernel, rfl, by decide +kernel, by decide +kernel⟩
theorem sc__law_is : FnScope N__law_is P__law_is (defScope s__law_is) := ⟨rfl, rfl, rfl, by decide +kernel, rfl, by decide +kernel, by decide +kernel⟩
theorem sc__law_divisor : FnScope N__law_divisor P__law_divisor (defScope s__law_divisor) := ⟨rfl, rfl, rfl, by decide +kernel, rfl, by decide +kernel, by decide +kernel⟩
theorem sc__law_ratio : FnScope N__law_ratio P__law_ratio (defScope s__law_ratio) := ⟨rfl, rfl, rfl, by decide +kernel, rfl, by decide +kernel, by decide +kernel⟩
theorem sc__law_less : FnScope N__law_less P__law_less (defScope s__law_less) := ⟨rfl, rfl, rfl, by decide +kernel, rfl, by decide +kernel, by decide +kernel⟩
theorem sc__law_weighed : FnScope N__law_weighed P__law_weighed (defScope s__law_weighed) := ⟨rfl, rfl, rfl, by decide +kernel, rfl, by decide +kernel, by decide +kernel⟩
theorem sc__law_integers : FnScope N__law_integers P__law_integers (defScope s__law_integers) := ⟨rfl, rfl, rfl, by decide +kernel, rfl, by decide +kernel, by decide +kernel⟩
theorem sc__law_weights : FnScope N__law_weights P__law_weights (defScope s__law_weights) := ⟨rfl, rfl, rfl, by decide +kernel, rfl, by decide +kernel, by decide +kernel⟩
theorem sc__law_goal_rows : FnScope N__law_goal_rows P__law_goal_rows (defScope s__law_goal_rows) := ⟨rfl, rfl, rfl, by decide +kernel, rfl, by decide +kernel, by decide +kernel⟩
theorem sc__law_sums : FnScope N__law_sums P__law_sums (defScope s__law_sums) := ⟨rfl, rfl, rfl, by decide +kernel, rfl, by decide +kernel, by decide +kernel⟩
theorem sc__law_amounts_right : FnScope N__law_amounts_right P__law_amounts_right (defScope s__law_amounts_right) := ⟨rfl, rfl, rfl, by decide +kernel, rfl, by decide +kernel, by decide +kernel⟩
theorem sc__law_none_right : FnScope N__law_none_right P__law_none_right (defScope s__law_none_right) := ⟨rfl, rfl, rfl, by decide +kernel, rfl, by decide +kernel, by decide +kernel⟩
theorem sc__law_mean : FnScope N__law_mean P__law_mean (defScope s__law_mean) := ⟨rfl, rfl, rfl, by decide +kernel, rfl, by decide +kernel, by decide +kernel⟩
theorem sc_law : FnScope N_law P_law (defScope s_law) := ⟨rfl, rfl, rfl, by decide +kernel, rfl, by decide +kernel, by decide +kernel⟩
theorem sc_Table___init__ : FnScope N_Table___init__ P_Table___init__ (defScope s_Table___init__) := ⟨rfl, rfl, rfl, by decide +kernel, rfl, by decide +kernel, by decide +kernel⟩
theorem sc_Table_entering : FnScope N_Table_entering P_Table_entering (defScope s_Table_entering) := ⟨rfl, rfl, rfl, by decide +kernel, rfl, by decide +kernel, by decide +kernel⟩
theorem sc_Table_leaving : FnScope N_Table_leaving P_Table_leaving (defScope s_Table_leaving) := ⟨rfl, rfl, rfl, by decide +kernel, rfl, by decide +kernel, by decide +kernel⟩
theorem sc_Table_is_sooner : FnScope N_Table_is_sooner P_Table_is_sooner (defScope s_Table_is_sooner) := ⟨rfl, rfl, rfl, by decide +kernel, rfl, by decide +kernel, by decide +kernel⟩
theorem sc_Table_exchange : FnScope N_Table_exchange P_Table_exchange (defScope s_Table_exchange) := ⟨rfl, rfl, rfl, by decide +kernel, rfl, by decide +kernel, by decide +kernel⟩
theorem ok_is_whole (T : Txt K mg)  {f : Addr} {fd : FuncData} (F : Fun K "is_whole" "is_whole" s_is_whole f fd) :
    FnOk P w K mg base (L2N.CX P w) 1 f fd P_is_whole (spD K mg m_is_whole) :=
  fnD F sc_is_whole fun cdv A outer s H E hr =>
    (ds_one (ds_ret (de_and (de_callB call_isi cok_isi rfl T.b_isinstance (by decide +kernel) (da_cons (de_var 0) (da_cons (de_ty rfl T.b_int (by decide +kernel)) da_nil))) (de_one (de_not (de_callB call_isi cok_isi rfl T.b_isinstance (by decide +kernel) (da_cons (de_var 0) (da_cons (de_ty rfl T.b_bool (by decide +kernel)) da_nil))))))))
theorem ok_is_positive (T : Txt K mg) {f_is_whole : Addr} {d_is_whole : FuncData} (c_is_whole : Callee P w K mg base 1 "is_whole" P_is_whole m_is_whole f_is_whole d_is_whole) (b_is_whole : Binds K d_is_whole P_is_whole []) {f : Addr} {fd : FuncData} (F : Fun K "is_positive" "is_positive" s_is_positive f fd) :
    FnOk P w K mg base (L2N.CX P w) 2 f fd P_is_positive (spD K mg m_is_positive) :=
  fnD F sc_is_positive fun cdv A outer s H E hr =>
    (ds_one (ds_ret (de_and (c_is_whole.call (.inl rfl) hr (by decide) (L2N.takes_of rfl rfl rfl rfl) rfl b_is_whole .nil (fun _ _ => rfl) (da_cons (de_var 0) da_nil)) (de_one (de_cmp op_ge rok_ge (de_var 0) de_int (nomark _))))))
theorem ok_is_list (T : Txt K mg)  {f : Addr} {fd : FuncData} (F : Fun K "is_list" "is_list" s_is_list f fd) :
    FnOk P w K mg base (L2N.CX P w) 1 f fd P_is_list (spD K mg m_is_list) :=
  fnD F sc_is_list fun cdv A outer s H E hr =>
    (ds_one (ds_ret (de_callB call_isiT cok_isiT rfl T.b_isinstance (by decide +kernel) (da_cons (de_var 0) (da_cons (de_tup (da_cons (de_ty rfl T.b_list (by decide +kernel)) (da_cons (de_ty rfl T.b_tuple (by decide +kernel)) da_nil))) da_nil)))))
theorem ok_is_row (T : Txt K mg) {f_is_list : Addr} {d_is_list : FuncData} (c_is_list : Callee P w K mg base 1 "is_list" P_is_list m_is_list f_is_list d_is_list) (b_is_list : Binds K d_is_list P_is_list []) {f_is_whole : Addr} {d_is_whole : FuncData} (c_is_whole : Callee P w K mg base 1 "is_whole" P_is_whole m_is_whole f_is_whole d_is_whole) (b_is_whole : Binds K d_is_whole P_is_whole []) {f : Addr} {fd : FuncData} (F : Fun K "is_row" "is_row" s_is_row f fd) :
    FnOk P w K mg base (L2N.CX P w) 2 f fd P_is_row (spD K mg m_is_row) :=
  fnD F sc_is_row fun cdv A outer s H E hr =>
    (ds_one (ds_ret (de_and (c_is_list.call (.inl rfl) hr (by decide) (L2N.takes_of rfl rfl rfl rfl) rfl b_is_list .nil (fun _ _ => rfl) (da_cons (de_var 0) da_nil)) (de_and (de_cmp (op_eqD (Room.units hr)) rok_eq (de_callB call_lenAll cok_len rfl T.b_len (by decide +kernel) (da_cons (de_var 0) da_nil)) (de_var 1) (nomark _)) (de_one (de_callB (cr_all rfl) cok_all rfl T.b_all (by decide +kernel) (da_cons (de_lc (.one 2) [("each", 2)] rfl sc_is_row.nd (di_lt (de_var 0)) (blkOk_by (N := N_is_row) (sc := defScope s_is_row) (by decide +kernel)) (fun _ _ _ _ _ => dg_name 2 sc_is_row.nd) (fun _ _ _ _ _ => dts_nil) (fun _ _ _ _ _ => (c_is_whole.call (.inl rfl) hr (by decide) takesN rfl b_is_whole .nil (fun _ _ => rfl) (da_cons (de_var 2) da_nil))) (fun _ h => h)) da_nil)))))))
theorem ok_is_weights (T : Txt K mg) {f_is_row : Addr} {d_is_row : FuncData} (c_is_row : Callee P w K mg base 2 "is_row" P_is_row m_is_row f_is_row d_is_row) (b_is_row : Binds K d_is_row P_is_row []) {f : Addr} {fd : FuncData} (F : Fun K "is_weights" "is_weights" s_is_weights f fd) :
    FnOk P w K mg base (L2N.CX P w) 3 f fd P_is_weights (spD K mg m_is_weights) :=
  fnD F sc_is_weights fun cdv A outer s H E hr =>
    (ds_cons (ds_if (dt_not (dt_val (c_is_row.call (.inl rfl) hr (by decide) (L2N.takes_of rfl rfl rfl rfl) rfl b_is_row .nil (fun _ _ => rfl) (da_cons (de_var 0) (da_cons (de_var 1) da_nil))))) (ds_one (ds_ret de_bl)) ds_nil)
      (ds_one (ds_ret (de_and (de_callB (cr_all rfl) cok_all rfl T.b_all (by decide +kernel) (da_cons (de_lc (.one 2) [("each", 2)] rfl sc_is_weights.nd (di_lt (de_var 0)) (blkOk_by (N := N_is_weights) (sc := defScope s_is_weights) (by decide +kernel)) (fun _ _ _ _ _ => dg_name 2 sc_is_weights.nd) (fun _ _ _ _ _ => dts_nil) (fun _ _ _ _ _ => (de_cmp op_ge rok_ge (de_var 2) de_int (nomark _))) (fun _ h => h)) da_nil)) (de_one (de_callB (cr_any rfl) cok_any rfl T.b_any (by decide +kernel) (da_cons (de_lc (.one 2) [("each", 2)] rfl sc_is_weights.nd (di_lt (de_var 0)) (blkOk_by (N := N_is_weights) (sc := defScope s_is_weights) (by decide +kernel)) (fun _ _ _ _ _ => dg_name 2 sc_is_weights.nd) (fun _ _ _ _ _ => dts_nil) (fun _ _ _ _ _ => (de_cmp op_gt rok_gt (de_var 2) de_int (nomark _))) (fun _ h => h)) da_nil)))))))
theorem ok_ratio (T : Txt K mg) {C_BadRatio fI_BadRatio : Addr} {dI_BadRatio : FuncData} (E_BadRatio : ErrC K mg "BadRatio" "bottom" "bottom" C_BadRatio fI_BadRatio dI_BadRatio) {f : Addr} {fd : FuncData} (F : FunD K "ratio" "ratio" (defArgs s_ratio) (defBody s_ratio) (defScope s_ratio) [.int 1] [] f fd) :
    FnOk P w K mg base (L2N.CX P w) 3 f fd P_ratio (spD K mg m_ratio) :=
  fnDD F sc_ratio fun cdv A outer s H E hr =>
    (ds_cons (ds_if (dt_cmp (op_eqD (Room.units hr)) rok_eq (de_var 1) de_int (nomark _)) (ds_one (ds_raise1 rfl (L2N.takes_of rfl rfl rfl rfl) E_BadRatio.T E_BadRatio.iC E_BadRatio.tI E_BadRatio.hno (E_BadRatio.F _ _ _) (hr.mono (by decide)) E_BadRatio.b rfl E_BadRatio.gC (de_var 1))) ds_nil)
      (ds_cons (ds_set 2 sc_ratio.nd (de_callG cr_gcd cok_gcd rfl T.b_gcd (da_cons (de_var 0) (da_cons (de_var 1) da_nil))))
      (ds_cons (ds_if (dt_cmp op_lt rok_lt (de_var 1) de_int (nomark _)) (ds_one (ds_set 2 sc_ratio.nd (de_un un_neg uok_neg (de_var 2)))) ds_nil)
      (ds_one (ds_ret (de_tup (da_cons (de_op op_fdivZ rok_fdiv (de_var 0) (de_var 2)) (da_cons (de_op op_fdivZ rok_fdiv (de_var 1) (de_var 2)) da_nil))))))))
theorem ok_lowest (T : Txt K mg)  {f : Addr} {fd : FuncData} (F : Fun K "lowest" "lowest" s_lowest f fd) :
    FnOk P w K mg base (L2N.CX P w) 1 f fd P_lowest (spD K mg m_lowest) :=
  fnD F sc_lowest fun cdv A outer s H E hr =>
    (ds_cons (ds_set 1 sc_lowest.nd de_int)
      (ds_cons (ds_for (passes_of rfl) rfl (di_lt (de_var 0)) (dg_name 2 sc_lowest.nd) (ds_one (ds_set 1 sc_lowest.nd (de_callG cr_gcd cok_gcd rfl T.b_gcd (da_cons (de_var 1) (da_cons (de_var 2) da_nil))))))
      (ds_cons (ds_if (dt_cmp (op_eqD (Room.units hr)) rok_eq (de_var 1) de_int (nomark _)) (ds_one (ds_ret (de_callTy call_list_of cok_listOwn rfl T.b_list (by decide +kernel) (da_cons (de_var 0) da_nil)))) ds_nil)
      (ds_one (ds_ret (de_lcOwn (.one 2) [("number", 2)] rfl sc_lowest.nd (di_lt (de_var 0)) (blkOk_by (N := N_lowest) (sc := defScope s_lowest) (by decide +kernel)) (fun _ _ _ _ _ => dg_name 2 sc_lowest.nd) (fun _ _ _ _ _ => dts_nil) (fun _ _ _ _ _ => (de_op op_fdivZ rok_fdiv (de_var 2) (de_var 1))) (fun _ h => h)))))))
theorem ok_first_line (T : Txt K mg)  {f : Addr} {fd : FuncData} (F : Fun K "first_line" "first_line" s_first_line f fd) :
    FnOk P w K mg base (L2N.CX P w) 1 f fd P_first_line (spD K mg m_first_line) :=
  fnD F sc_first_line fun cdv A outer s H E hr =>
    (ds_one (ds_ret (de_op op_addAll rok_add (de_lc (.one 4) [("row", 4)] rfl sc_first_line.nd (di_lt (de_var 0)) (blkOk_by (N := N_first_line) (sc := defScope s_first_line) (by decide +kernel)) (fun _ _ _ _ _ => dg_name 4 sc_first_line.nd) (fun _ _ _ _ _ => dts_nil) (fun _ _ _ _ _ => (de_op op_sub rok_sub (de_idx (de_var 4) (de_var 2)) (de_idx (de_var 4) (de_var 3)))) (fun _ h => h)) (de_lst (da_cons de_int (da_cons (de_op op_sub rok_sub (de_idx (de_var 1) (de_var 2)) (de_idx (de_var 1) (de_var 3))) da_nil))))))
theorem ok_replaced (T : Txt K mg)  {f : Addr} {fd : FuncData} (F : Fun K "replaced" "replaced" s_replaced f fd) :
    FnOk P w K mg base (L2N.CX P w) 1 f fd P_replaced (spD K mg m_replaced) :=
  fnD F sc_replaced fun cdv A outer s H E hr =>
    (ds_cons (ds_set 4 sc_replaced.nd (de_idx (de_var 0) (de_var 2)))
      (ds_cons (ds_set 5 sc_replaced.nd (de_un un_neg uok_neg (de_idx (de_var 1) (de_var 2))))
      (ds_cons (ds_setLcOwn (.many [7, 8]) [("mine", 7), ("theirs", 8)] 6 rfl sc_replaced.nd rfl (di_zip (da_cons (de_var 0) (da_cons (de_var 1) da_nil)) rfl T.b_zip) (blkOk_by (N := N_replaced) (sc := defScope s_replaced) (by decide +kernel)) (fun _ _ _ _ _ => dg_tup rfl (dgs_cons 7 sc_replaced.nd (dgs_cons 8 sc_replaced.nd dgs_nil))) (fun _ _ _ _ _ => dts_nil) (fun _ _ _ _ _ => (de_op op_fdivZ rok_fdiv (de_op op_addAll rok_add (de_op op_mulW rok_mul (de_var 7) (de_var 5)) (de_op op_mulW rok_mul (de_var 8) (de_var 4))) (de_var 3))) (fun _ h => h) (sw_true rfl rfl rfl (by decide +kernel)))
      (ds_cons (ds_seti (fun p q => pg_sub p q set_list) (de_un un_neg uok_neg (de_var 4)) (de_var 6) (de_var 2))
      (ds_one (ds_ret (de_var 6)))))))
theorem ok_check_program (T : Txt K mg) {f_is_list : Addr} {d_is_list : FuncData} (c_is_list : Callee P w K mg base 1 "is_list" P_is_list m_is_list f_is_list d_is_list) (b_is_list : Binds K d_is_list P_is_list []) {f_is_row : Addr} {d_is_row : FuncData} (c_is_row : Callee P w K mg base 2 "is_row" P_is_row m_is_row f_is_row d_is_row) (b_is_row : Binds K d_is_row P_is_row []) {C_BadRows : Addr} (Z_BadRows : Err0 K mg "BadRows" C_BadRows) {f : Addr} {fd : FuncData} (F : Fun K "check_program" "check_program" s_check_program f fd) :
    FnOk P w K mg base (L2N.CX P w) 3 f fd P_check_program (spD K mg m_check_program) :=
  fnD F sc_check_program fun cdv A outer s H E hr =>
    (ds_cons (ds_if (dt_bool (dw_or (dt_not (dt_val (c_is_list.call (.inl rfl) hr (by decide) (L2N.takes_of rfl rfl rfl rfl) rfl b_is_list .nil (fun _ _ => rfl) (da_cons (de_var 1) da_nil)))) (dw_or (dt_cmp (op_eqD (Room.units hr)) rok_eq (de_callB call_lenAll cok_len rfl T.b_len (by decide +kernel) (da_cons (de_var 1) da_nil)) de_int (nomark _)) (dw_or1 (dt_not (dt_val (c_is_row.call (.inl rfl) hr (by decide) (L2N.takes_of rfl rfl rfl rfl) rfl b_is_row .nil (fun _ _ => rfl) (da_cons (de_var 1) (da_cons (de_callB call_lenAll cok_len rfl T.b_len (by decide +kernel) (da_cons (de_var 1) da_nil)) da_nil))))))))) (ds_one (ds_raise0 rfl (L2N.takes_of rfl rfl rfl rfl) Z_BadRows rfl)) ds_nil)
      (ds_one (ds_if (dt_bool (dw_or (dt_not (dt_val (c_is_list.call (.inl rfl) hr (by decide) (L2N.takes_of rfl rfl rfl rfl) rfl b_is_list .nil (fun _ _ => rfl) (da_cons (de_var 0) da_nil)))) (dw_or1 (dt_not (dt_val (de_callB (cr_all rfl) cok_all rfl T.b_all (by decide +kernel) (da_cons (de_lc (.one 2) [("row", 2)] rfl sc_check_program.nd (di_lt (de_var 0)) (blkOk_by (N := N_check_program) (sc := defScope s_check_program) (by decide +kernel)) (fun _ _ _ _ _ => dg_name 2 sc_check_program.nd) (fun _ _ _ _ _ => dts_nil) (fun _ _ _ _ _ => (c_is_row.call (.inl rfl) hr (by decide) takesN rfl b_is_row .nil (fun _ _ => rfl) (da_cons (de_var 2) (da_cons (de_callB call_lenAll cok_len rfl T.b_len (by decide +kernel) (da_cons (de_var 1) da_nil)) da_nil)))) (fun _ h => h)) da_nil))))))) (ds_one (ds_raise0 rfl (L2N.takes_of rfl rfl rfl rfl) Z_BadRows rfl)) ds_nil)))
theorem ok_numbers_of (T : Txt K mg)  {f : Addr} {fd : FuncData} (F : Fun K "numbers_of" "numbers_of" s_numbers_of f fd) :
    FnOk P w K mg base (L2N.CX P w) 1 f fd P_numbers_of (spD K mg m_numbers_of) :=
  fnD F sc_numbers_of fun cdv A outer s H E hr =>
    (ds_cons (ds_set 4 sc_numbers_of.nd (de_dictZip rfl rfl T.b_dict rfl T.b_zip (da_cons (de_var 0) (da_cons (de_var 1) da_nil))))
      (ds_one (ds_ret (de_lcOwn (.one 5) [("index", 5)] rfl sc_numbers_of.nd (di_range1 (da_cons (de_var 3) da_nil) rfl T.b_range) (blkOk_by (N := N_numbers_of) (sc := defScope s_numbers_of) (by decide +kernel)) (fun _ _ _ _ _ => dg_name 5 sc_numbers_of.nd) (fun _ _ _ _ _ => dts_nil) (fun _ _ _ _ _ => (de_getK hr (de_var 4) (de_op op_addAll rok_add (de_var 2) (de_var 5)) de_int)) (fun _ h => h)))))
theorem ok_endless_amounts (T : Txt K mg) {f_lowest : Addr} {d_lowest : FuncData} (c_lowest : Callee P w K mg base 1 "lowest" P_lowest m_lowest f_lowest d_lowest) (b_lowest : Binds K d_lowest P_lowest []) {f_numbers_of : Addr} {d_numbers_of : FuncData} (c_numbers_of : Callee P w K mg base 1 "numbers_of" P_numbers_of m_numbers_of f_numbers_of d_numbers_of) (b_numbers_of : Binds K d_numbers_of P_numbers_of []) {f : Addr} {fd : FuncData} (F : Fun K "endless_amounts" "endless_amounts" s_endless_amounts f fd) :
    FnOk P w K mg base (L2N.CX P w) 2 f fd P_endless_amounts (spD K mg m_endless_amounts) :=
  fnD F sc_endless_amounts fun cdv A outer s H E hr =>
    (ds_cons (ds_set 3 sc_endless_amounts.nd (de_op op_addAll rok_add (de_fld T.fld (de_var 0)) (de_lst (da_cons (de_idx (de_fld T.fld (de_var 0)) (de_var 1)) da_nil))))
      (ds_cons (ds_set 4 sc_endless_amounts.nd (de_op op_addAll rok_add (de_lc (.one 5) [("line", 5)] rfl sc_endless_amounts.nd (di_lt (de_fld T.fld (de_var 0))) (blkOk_by (N := N_endless_amounts) (sc := defScope s_endless_amounts) (by decide +kernel)) (fun _ _ _ _ _ => dg_name 5 sc_endless_amounts.nd) (fun _ _ _ _ _ => dts_nil) (fun _ _ _ _ _ => (de_idx (de_var 5) (de_var 1))) (fun _ h => h)) (de_lst (da_cons (de_fld T.fld (de_var 0)) da_nil))))
      (ds_one (ds_ret (c_lowest.call (.inr rfl) hr (by decide) (L2N.takes_of rfl rfl rfl rfl) rfl b_lowest .nil (fun _ _ => rfl) (da_cons (c_numbers_of.call (.inl rfl) hr (by decide) (L2N.takes_of rfl rfl rfl rfl) rfl b_numbers_of .nil (fun _ _ => rfl) (da_cons (de_var 3) (da_cons (de_var 4) (da_cons de_int (da_cons (de_var 2) da_nil))))) da_nil))))))
theorem ok_best_answer (T : Txt K mg) {f_lowest : Addr} {d_lowest : FuncData} (c_lowest : Callee P w K mg base 1 "lowest" P_lowest m_lowest f_lowest d_lowest) (b_lowest : Binds K d_lowest P_lowest []) {f_numbers_of : Addr} {d_numbers_of : FuncData} (c_numbers_of : Callee P w K mg base 1 "numbers_of" P_numbers_of m_numbers_of f_numbers_of d_numbers_of) (b_numbers_of : Binds K d_numbers_of P_numbers_of []) {f_ratio : Addr} {d_ratio : FuncData} (c_ratio : Callee P w K mg base 3 "ratio" P_ratio m_ratio f_ratio d_ratio) (b2_ratio : ∃ ds, Vals [] ds ∧ Binds K d_ratio P_ratio ds) {f : Addr} {fd : FuncData} (F : Fun K "best_answer" "best_answer" s_best_answer f fd) :
    FnOk P w K mg base (L2N.CX P w) 4 f fd P_best_answer (spD K mg m_best_answer) :=
  fnD F sc_best_answer fun cdv A outer s H E hr =>
    (ds_cons (ds_set 3 sc_best_answer.nd (c_lowest.call (.inl rfl) hr (by decide) (L2N.takes_of rfl rfl rfl rfl) rfl b_lowest .nil (fun _ _ => rfl) (da_cons (c_numbers_of.call (.inl rfl) hr (by decide) (L2N.takes_of rfl rfl rfl rfl) rfl b_numbers_of .nil (fun _ _ => rfl) (da_cons (de_fld T.fld (de_var 0)) (da_cons (de_fld T.fld (de_var 0)) (da_cons (de_var 1) (da_cons (de_var 2) da_nil))))) da_nil)))
      (ds_cons (ds_setLc (.one 5) [("line", 5)] 4 rfl sc_best_answer.nd rfl (di_lt (de_fld T.fld (de_var 0))) (blkOk_by (N := N_best_answer) (sc := defScope s_best_answer) (by decide +kernel)) (fun _ _ _ _ _ => dg_name 5 sc_best_answer.nd) (fun _ _ _ _ _ => dts_nil) (fun _ _ _ _ _ => (de_idx (de_var 5) (de_un un_neg uok_neg de_int))) (fun _ h => h) (sw_true rfl rfl rfl (by decide +kernel)))
      (ds_cons (ds_star rfl (dg_name 6 sc_best_answer.nd) (dg_name 7 sc_best_answer.nd) (c_lowest.call (.inl rfl) hr (by decide) (L2N.takes_of rfl rfl rfl rfl) rfl b_lowest .nil (fun _ _ => rfl) (da_cons (de_op op_addAll rok_add (de_lst (da_cons (de_fld T.fld (de_var 0)) da_nil)) (c_numbers_of.call (.inl rfl) hr (by decide) (L2N.takes_of rfl rfl rfl rfl) rfl b_numbers_of .nil (fun _ _ => rfl) (da_cons (de_fld T.fld (de_var 0)) (da_cons (de_var 4) (da_cons de_int (da_cons (de_var 1) da_nil)))))) da_nil)) (fun p q => ps_asg p q))
      (ds_one (ds_ret (de_tup (da_cons de_str (da_cons (de_var 3) (da_cons (c_ratio.call (.inl rfl) hr (by decide) (L2N.takes_of rfl rfl rfl rfl) rfl b2_ratio.choose_spec.2 b2_ratio.choose_spec.1 (fun _ _ => rfl) (da_cons (de_idx (de_fld T.fld (de_var 0)) (de_un un_neg uok_neg de_int)) (da_cons (de_fld T.fld (de_var 0)) da_nil))) (da_cons (de_var 6) (da_cons (de_var 7) da_nil)))))))))))
theorem ok_Table___init__ (T : Txt K mg) {f_first_line : Addr} {d_first_line : FuncData} (c_first_line : Callee P w K mg base 1 "first_line" P_first_line m_first_line f_first_line d_first_line) (b_first_line : Binds K d_first_line P_first_line []) {f : Addr} {fd : FuncData} (F : Fun K "__init__" "Table.__init__" s_Table___init__ f fd) :
    FnOk P w K mg base (L2N.CX P w) 2 f fd P_Table___init__ (spD K mg m_Table___init__) :=
  fnDU F sc_Table___init__ fun cdv A outer s H E hr =>
    (ds_cons (ds_set 3 sc_Table___init__.nd (de_index hr (de_var 2) (de_callB (cr_max rfl) cok_maxL rfl T.b_max (by decide +kernel) (da_cons (de_var 2) da_nil))))
      (ds_cons (ds_setLc (.one 5) [("index", 5)] 4 rfl sc_Table___init__.nd rfl (di_range1 (da_cons (de_callB call_lenAll cok_len rfl T.b_len (by decide +kernel) (da_cons (de_var 2) da_nil)) da_nil) rfl T.b_range) (blkOk_by (N := N_Table___init__) (sc := defScope s_Table___init__) (by decide +kernel)) (fun _ _ _ _ _ => dg_name 5 sc_Table___init__.nd) (fun _ _ _ _ _ => (dts_one (dt_cmp (op_neD (Room.units hr)) rok_ne (de_var 5) (de_var 3) (nomark _)))) (fun _ _ _ _ _ => (de_var 5)) (fun _ h => h) (sw_true rfl rfl rfl (by decide +kernel)))
      (ds_cons (ds_setF T.fld de_int (de_var 0))
      (ds_cons (ds_setF T.fld (de_op op_addAll rok_addOwn (de_listRg rfl rfl T.b_list rfl T.b_range (de_callB call_lenAll cok_len rfl T.b_len (by decide +kernel) (da_cons (de_var 1) da_nil))) (de_lst (da_cons (de_op op_addAll rok_add (de_callB call_lenAll cok_len rfl T.b_len (by decide +kernel) (da_cons (de_var 1) da_nil)) (de_var 3)) da_nil))) (de_var 0))
      (ds_cons (ds_setF T.fld (de_lcOwn (.one 5) [("index", 5)] rfl sc_Table___init__.nd (di_lt (de_var 4)) (blkOk_by (N := N_Table___init__) (sc := defScope s_Table___init__) (by decide +kernel)) (fun _ _ _ _ _ => dg_name 5 sc_Table___init__.nd) (fun _ _ _ _ _ => dts_nil) (fun _ _ _ _ _ => (de_op op_addAll rok_add (de_callB call_lenAll cok_len rfl T.b_len (by decide +kernel) (da_cons (de_var 1) da_nil)) (de_var 5))) (fun _ h => h)) (de_var 0))
      (ds_cons (ds_setF T.fld (de_op op_addAll rok_add (de_lc (.one 6) [("row", 6)] rfl sc_Table___init__.nd (di_lt (de_var 1)) (blkOk_by (N := N_Table___init__) (sc := defScope s_Table___init__) (by decide +kernel)) (fun _ _ _ _ _ => dg_name 6 sc_Table___init__.nd) (fun _ _ _ _ _ => dts_nil) (fun _ _ _ _ _ => (de_idx (de_var 6) (de_var 3))) (fun _ h => h)) (de_lst (da_cons de_int (da_cons (de_idx (de_var 2) (de_var 3)) da_nil)))) (de_var 0))
      (ds_one (ds_setF T.fld (de_lc (.one 5) [("index", 5)] rfl sc_Table___init__.nd (di_lt (de_var 4)) (blkOk_by (N := N_Table___init__) (sc := defScope s_Table___init__) (by decide +kernel)) (fun _ _ _ _ _ => dg_name 5 sc_Table___init__.nd) (fun _ _ _ _ _ => dts_nil) (fun _ _ _ _ _ => (c_first_line.call (.inl rfl) hr (by decide) takesN rfl b_first_line .nil (fun _ _ => rfl) (da_cons (de_var 1) (da_cons (de_var 2) (da_cons (de_var 3) (da_cons (de_var 5) da_nil)))))) (fun _ h => h)) (de_var 0)))))))))
theorem ok_Table_entering (T : Txt K mg)  {f : Addr} {fd : FuncData} (F : Fun K "entering" "Table.entering" s_Table_entering f fd) :
    FnOk P w K mg base (L2N.CX P w) 1 f fd P_Table_entering (spD K mg m_Table_entering) :=
  fnD F sc_Table_entering fun cdv A outer s H E hr =>
    (ds_cons (ds_setLc (.many [2, 3]) [("unknown", 2), ("factor", 3)] 1 rfl sc_Table_entering.nd rfl (di_zipO (da_cons (de_fld T.fld (de_var 0)) (da_cons (de_fld T.fld (de_var 0)) da_nil)) rfl T.b_zip) (blkOk_by (N := N_Table_entering) (sc := defScope s_Table_entering) (by decide +kernel)) (fun _ _ _ _ _ => dg_tup rfl (dgs_cons 2 sc_Table_entering.nd (dgs_cons 3 sc_Table_entering.nd dgs_nil))) (fun _ _ _ _ _ => (dts_one (dt_cmp op_lt rok_lt (de_var 3) de_int (nomark _)))) (fun _ _ _ _ _ => (de_var 2)) (fun _ h => h) (sw_true rfl rfl rfl (by decide +kernel)))
      (ds_one (ds_ret (de_if (dt_tru (de_var 1)) (de_index hr (de_fld T.fld (de_var 0)) (de_callB (cr_min rfl) cok_minL rfl T.b_min (by decide +kernel) (da_cons (de_var 1) da_nil))) de_non))))
theorem ok_Table_is_sooner (T : Txt K mg)  {f : Addr} {fd : FuncData} (F : Fun K "is_sooner" "Table.is_sooner" s_Table_is_sooner f fd) :
    FnOk P w K mg base (L2N.CX P w) 1 f fd P_Table_is_sooner (spD K mg m_Table_is_sooner) :=
  fnD F sc_Table_is_sooner fun cdv A outer s H E hr =>
    (ds_cons (ds_set 4 sc_Table_is_sooner.nd (de_op op_mulW rok_mul (de_idx (de_idx (de_fld T.fld (de_var 0)) (de_var 1)) (de_un un_neg uok_neg de_int)) (de_idx (de_idx (de_fld T.fld (de_var 0)) (de_var 2)) (de_var 3))))
      (ds_cons (ds_set 5 sc_Table_is_sooner.nd (de_op op_mulW rok_mul (de_idx (de_idx (de_fld T.fld (de_var 0)) (de_var 2)) (de_un un_neg uok_neg de_int)) (de_idx (de_idx (de_fld T.fld (de_var 0)) (de_var 1)) (de_var 3))))
      (ds_one (ds_ret (de_or (de_cmp op_gt rok_gt (de_var 4) (de_var 5) (nomark _)) (de_one (de_and (de_cmp (op_eqD (Room.units hr)) rok_eq (de_var 4) (de_var 5) (nomark _)) (de_one (de_cmp op_lt rok_lt (de_idx (de_fld T.fld (de_var 0)) (de_var 1)) (de_idx (de_fld T.fld (de_var 0)) (de_var 2)) (nomark _))))))))))
theorem ok_Table_leaving (T : Txt K mg) {KC_Table : Addr} {f_Table_is_sooner : Addr} {d_Table_is_sooner : FuncData} (om_Table_is_sooner : OwnM P w K mg base 1 "Table" "is_sooner" P_Table_is_sooner m_Table_is_sooner KC_Table f_Table_is_sooner d_Table_is_sooner) {f : Addr} {fd : FuncData} (F : Fun K "leaving" "Table.leaving" s_Table_leaving f fd) :
    FnOk P w K mg base (L2N.CX P w) 2 f fd P_Table_leaving (spD K mg m_Table_leaving) :=
  fnD F sc_Table_leaving fun cdv A outer s H E hr =>
    (ds_cons (ds_set 2 sc_Table_leaving.nd de_non)
      (ds_cons (ds_for (passes_of rfl) rfl (di_enumO (da_cons (de_fld T.fld (de_var 0)) da_nil) rfl T.b_enumerate) (dg_tup rfl (dgs_cons 3 sc_Table_leaving.nd (dgs_cons 4 sc_Table_leaving.nd dgs_nil))) (ds_one (ds_if (dt_bool (dw_and (dt_cmp op_lt rok_lt (de_idx (de_var 4) (de_var 1)) de_int (nomark _)) (dw_and1 (dt_bool (dw_or (dt_cmp op_isN rok_isN (de_var 2) de_non (nomark _)) (dw_or1 (dt_val (de_methB (.inl rfl) om_Table_is_sooner (hr.mono (by decide)) (L2N.takes_of rfl rfl rfl rfl) (de_var 0) (da_cons (de_var 3) (da_cons (de_var 2) (da_cons (de_var 1) da_nil))))))))))) (ds_one (ds_set 2 sc_Table_leaving.nd (de_var 3))) ds_nil)))
      (ds_one (ds_ret (de_var 2)))))
theorem ok_Table_exchange (T : Txt K mg) {f_replaced : Addr} {d_replaced : FuncData} (c_replaced : Callee P w K mg base 1 "replaced" P_replaced m_replaced f_replaced d_replaced) (b_replaced : Binds K d_replaced P_replaced []) {f : Addr} {fd : FuncData} (F : Fun K "exchange" "Table.exchange" s_Table_exchange f fd) :
    FnOk P w K mg base (L2N.CX P w) 2 f fd P_Table_exchange (spD K mg m_Table_exchange) :=
  fnDU F sc_Table_exchange fun cdv A outer s H E hr =>
    (ds_cons (ds_set 3 sc_Table_exchange.nd (de_idx (de_fld T.fld (de_var 0)) (de_var 1)))
      (ds_cons (ds_setLcOwn (.one 5) [("line", 5)] 4 rfl sc_Table_exchange.nd rfl (di_lt (de_fld T.fld (de_var 0))) (blkOk_by (N := N_Table_exchange) (sc := defScope s_Table_exchange) (by decide +kernel)) (fun _ _ _ _ _ => dg_name 5 sc_Table_exchange.nd) (fun _ _ _ _ _ => dts_nil) (fun _ _ _ _ _ => (c_replaced.call (.inl rfl) hr (by decide) takesN rfl b_replaced .nil (fun _ _ => rfl) (da_cons (de_var 5) (da_cons (de_var 3) (da_cons (de_var 2) (da_cons (de_fld T.fld (de_var 0)) da_nil)))))) (fun _ h => h) (sw_true rfl rfl rfl (by decide +kernel)))
      (ds_cons (ds_setF T.fld (c_replaced.call (.inl rfl) hr (by decide) (L2N.takes_of rfl rfl rfl rfl) rfl b_replaced .nil (fun _ _ => rfl) (da_cons (de_fld T.fld (de_var 0)) (da_cons (de_var 3) (da_cons (de_var 2) (da_cons (de_fld T.fld (de_var 0)) da_nil))))) (de_var 0))
      (ds_cons (ds_seti (fun p q => pg_sub p q set_list) (de_op op_addAll rok_add (de_op op_addAll rok_add (de_slice (de_var 3) dp_none (dp_some (de_var 2))) (de_lst (da_cons (de_un un_neg uok_neg (de_fld T.fld (de_var 0))) da_nil))) (de_slice (de_var 3) (dp_some (de_op op_addAll rok_add (de_var 2) de_int)) dp_none)) (de_var 4) (de_var 1))
      (ds_cons (ds_setF T.fld (de_var 4) (de_var 0))
      (ds_cons (ds_setF T.fld (de_un un_neg uok_neg (de_idx (de_var 3) (de_var 2))) (de_var 0))
      (ds_one (ds_put2 rfl (de_tup (da_cons (de_idx (de_fld T.fld (de_var 0)) (de_var 1)) (da_cons (de_idx (de_fld T.fld (de_var 0)) (de_var 2)) da_nil))) (de_fld T.fld (de_var 0)) (de_var 2) (de_fld T.fld (de_var 0)) (de_var 1) (fun p q => pg_sub p q set_list) (fun p q => pg_sub p q set_list) (fun p q => ps_asg p q)))))))))
theorem ok_greatest (T : Txt K mg) {f_check_program : Addr} {d_check_program : FuncData} (c_check_program : Callee P w K mg base 3 "check_program" P_check_program m_check_program f_check_program d_check_program) (b_check_program : Binds K d_check_program P_check_program []) {f_endless_amounts : Addr} {d_endless_amounts : FuncData} (c_endless_amounts : Callee P w K mg base 2 "endless_amounts" P_endless_amounts m_endless_amounts f_endless_amounts d_endless_amounts) (b_endless_amounts : Binds K d_endless_amounts P_endless_amounts []) {f_best_answer : Addr} {d_best_answer : FuncData} (c_best_answer : Callee P w K mg base 4 "best_answer" P_best_answer m_best_answer f_best_answer d_best_answer) (b_best_answer : Binds K d_best_answer P_best_answer []) {CC_Table fI_Table : Addr} {dI_Table : FuncData} (mk_Table : Maker P w K mg base 2 "Table" P_Table___init__ m_Table___init__ CC_Table fI_Table dI_Table) {KC_Table : Addr} {f_Table_entering : Addr} {d_Table_entering : FuncData} (om_Table_entering : OwnM P w K mg base 1 "Table" "entering" P_Table_entering m_Table_entering KC_Table f_Table_entering d_Table_entering) {f_Table_leaving : Addr} {d_Table_leaving : FuncData} (om_Table_leaving : OwnM P w K mg base 2 "Table" "leaving" P_Table_leaving m_Table_leaving KC_Table f_Table_leaving d_Table_leaving) {f_Table_exchange : Addr} {d_Table_exchange : FuncData} (om_Table_exchange : OwnM P w K mg base 2 "Table" "exchange" P_Table_exchange m_Table_exchange KC_Table f_Table_exchange d_Table_exchange) {f : Addr} {fd : FuncData} (F : Fun K "greatest" "greatest" s_greatest f fd) :
    FnOk P w K mg base (L2N.CX P w) 5 f fd P_greatest (spD K mg m_greatest) :=
  fnD F sc_greatest fun cdv A outer s H E hr =>
    (ds_cons (ds_expr (c_check_program.call (.inl rfl) hr (by decide) (L2N.takes_of rfl rfl rfl rfl) rfl b_check_program .nil (fun _ _ => rfl) (da_cons (de_var 0) (da_cons (de_var 1) da_nil))))
      (ds_cons (ds_set 2 sc_greatest.nd (de_makeO mk_Table (hr.mono (by decide)) (L2N.takes_of rfl rfl rfl rfl) rfl (da_cons (de_var 0) (da_cons (de_var 1) da_nil))))
      (ds_cons (ds_set 3 sc_greatest.nd (de_methB0 (.inl rfl) om_Table_entering (hr.mono (by decide)) (L2N.takes_of rfl rfl rfl rfl) (de_var 2)))
      (ds_cons (ds_whileE (passes_of rfl) (dt_cmp op_notN rok_notN (de_var 3) de_non (nomark _)) (ds_cons (ds_set 4 sc_greatest.nd (de_methB (.inl rfl) om_Table_leaving (hr.mono (by decide)) (L2N.takes_of rfl rfl rfl rfl) (de_var 2) (da_cons (de_var 3) da_nil)))
      (ds_cons (ds_if (dt_cmp op_isN rok_isN (de_var 4) de_non (nomark _)) (ds_one (ds_ret (de_tup (da_cons de_str (da_cons (c_endless_amounts.call (.inl rfl) hr (by decide) (L2N.takes_of rfl rfl rfl rfl) rfl b_endless_amounts .nil (fun _ _ => rfl) (da_cons (de_var 2) (da_cons (de_var 3) (da_cons (de_callB call_lenAll cok_len rfl T.b_len (by decide +kernel) (da_cons (de_var 0) da_nil)) da_nil)))) da_nil))))) ds_nil)
      (ds_cons (ds_expr (de_methB (.inl rfl) om_Table_exchange (hr.mono (by decide)) (L2N.takes_of rfl rfl rfl rfl) (de_var 2) (da_cons (de_var 4) (da_cons (de_var 3) da_nil))))
      (ds_one (ds_set 3 sc_greatest.nd (de_methB0 (.inl rfl) om_Table_entering (hr.mono (by decide)) (L2N.takes_of rfl rfl rfl rfl) (de_var 2))))))))
      (ds_one (ds_ret (c_best_answer.call (.inr rfl) hr (by decide) (L2N.takes_of rfl rfl rfl rfl) rfl b_best_answer .nil (fun _ _ => rfl) (da_cons (de_var 2) (da_cons (de_callB call_lenAll cok_len rfl T.b_len (by decide +kernel) (da_cons (de_var 0) da_nil)) (da_cons (de_callB call_lenAll cok_len rfl T.b_len (by decide +kernel) (da_cons (de_var 1) da_nil)) da_nil))))))))))
theorem ok_is_amounts (T : Txt K mg) {f_is_row : Addr} {d_is_row : FuncData} (c_is_row : Callee P w K mg base 2 "is_row" P_is_row m_is_row f_is_row d_is_row) (b_is_row : Binds K d_is_row P_is_row []) {f : Addr} {fd : FuncData} (F : Fun K "is_amounts" "is_amounts" s_is_amounts f fd) :
    FnOk P w K mg base (L2N.CX P w) 3 f fd P_is_amounts (spD K mg m_is_amounts) :=
  fnD F sc_is_amounts fun cdv A outer s H E hr =>
    (ds_one (ds_ret (de_and (c_is_row.call (.inl rfl) hr (by decide) (L2N.takes_of rfl rfl rfl rfl) rfl b_is_row .nil (fun _ _ => rfl) (da_cons (de_var 1) (da_cons (de_callB call_lenAll cok_len rfl T.b_len (by decide +kernel) (da_cons (de_var 0) da_nil)) da_nil))) (de_one (de_callB (cr_all rfl) cok_all rfl T.b_all (by decide +kernel) (da_cons (de_lc (.one 2) [("each", 2)] rfl sc_is_amounts.nd (di_lt (de_var 1)) (blkOk_by (N := N_is_amounts) (sc := defScope s_is_amounts) (by decide +kernel)) (fun _ _ _ _ _ => dg_name 2 sc_is_amounts.nd) (fun _ _ _ _ _ => dts_nil) (fun _ _ _ _ _ => (de_cmp op_ge rok_ge (de_var 2) de_int (nomark _))) (fun _ h => h)) da_nil))))))
theorem ok_sums (T : Txt K mg)  {f : Addr} {fd : FuncData} (F : Fun K "sums" "sums" s_sums f fd) :
    FnOk P w K mg base (L2N.CX P w) 1 f fd P_sums (spD K mg m_sums) :=
  fnD F sc_sums fun cdv A outer s H E hr =>
    (ds_one (ds_ret (de_lcOwn (.one 3) [("index", 3)] rfl sc_sums.nd (di_range1 (da_cons (de_var 2) da_nil) rfl T.b_range) (blkOk_by (N := N_sums) (sc := defScope s_sums) (by decide +kernel)) (fun _ _ _ _ _ => dg_name 3 sc_sums.nd) (fun _ _ _ _ _ => dts_nil) (fun _ _ _ _ _ => (de_callB (cr_sumB rfl) cok_sum rfl T.b_sum (by decide +kernel) (da_cons (de_lc (.many [4, 5]) [("row", 4), ("amount", 5)] rfl sc_sums.nd (di_zip (da_cons (de_var 0) (da_cons (de_var 1) da_nil)) rfl T.b_zip) (blkOk_by (N := N_sums) (by kernel_rfl)) (fun _ _ _ _ _ => dg_tup rfl (dgs_cons 4 sc_sums.nd (dgs_cons 5 sc_sums.nd dgs_nil))) (fun _ _ _ _ _ => dts_nil) (fun _ _ _ _ _ => (de_op op_mulW rok_mul (de_var 5) (de_idx (de_var 4) (de_var 3)))) (fun _ h => h)) da_nil))) (fun _ h => h))))
theorem ok_shows_none (T : Txt K mg) {f_is_amounts : Addr} {d_is_amounts : FuncData} (c_is_amounts : Callee P w K mg base 3 "is_amounts" P_is_amounts m_is_amounts f_is_amounts d_is_amounts) (b_is_amounts : Binds K d_is_amounts P_is_amounts []) {f_sums : Addr} {d_sums : FuncData} (c_sums : Callee P w K mg base 1 "sums" P_sums m_sums f_sums d_sums) (b_sums : Binds K d_sums P_sums []) {f : Addr} {fd : FuncData} (F : Fun K "shows_none" "shows_none" s_shows_none f fd) :
    FnOk P w K mg base (L2N.CX P w) 4 f fd P_shows_none (spD K mg m_shows_none) :=
  fnD F sc_shows_none fun cdv A outer s H E hr =>
    (ds_one (ds_ret (de_and (c_is_amounts.call (.inl rfl) hr (by decide) (L2N.takes_of rfl rfl rfl rfl) rfl b_is_amounts .nil (fun _ _ => rfl) (da_cons (de_var 0) (da_cons (de_var 2) da_nil))) (de_one (de_callB (cr_all rfl) cok_all rfl T.b_all (by decide +kernel) (da_cons (de_lc (.one 3) [("each", 3)] rfl sc_shows_none.nd (di_lt (c_sums.call (.inl rfl) hr (by decide) (L2N.takes_of rfl rfl rfl rfl) rfl b_sums .nil (fun _ _ => rfl) (da_cons (de_var 0) (da_cons (de_var 2) (da_cons (de_callB call_lenAll cok_len rfl T.b_len (by decide +kernel) (da_cons (de_var 1) da_nil)) da_nil))))) (blkOk_by (N := N_shows_none) (sc := defScope s_shows_none) (by decide +kernel)) (fun _ _ _ _ _ => dg_name 3 sc_shows_none.nd) (fun _ _ _ _ _ => dts_nil) (fun _ _ _ _ _ => (de_cmp op_lt rok_lt (de_var 3) de_int (nomark _))) (fun _ h => h)) da_nil))))))
theorem ok_weighted (T : Txt K mg)  {f : Addr} {fd : FuncData} (F : Fun K "weighted" "weighted" s_weighted f fd) :
    FnOk P w K mg base (L2N.CX P w) 1 f fd P_weighted (spD K mg m_weighted) :=
  fnD F sc_weighted fun cdv A outer s H E hr =>
    (ds_one (ds_ret (de_callB (cr_sumB rfl) cok_sum rfl T.b_sum (by decide +kernel) (da_cons (de_lc (.many [2, 3]) [("number", 2), ("weight", 3)] rfl sc_weighted.nd (di_zip (da_cons (de_var 0) (da_cons (de_var 1) da_nil)) rfl T.b_zip) (blkOk_by (N := N_weighted) (sc := defScope s_weighted) (by decide +kernel)) (fun _ _ _ _ _ => dg_tup rfl (dgs_cons 2 sc_weighted.nd (dgs_cons 3 sc_weighted.nd dgs_nil))) (fun _ _ _ _ _ => dts_nil) (fun _ _ _ _ _ => (de_op op_mulW rok_mul (de_var 2) (de_var 3))) (fun _ h => h)) da_nil))))
theorem ok_is_attained (T : Txt K mg) {f_is_weights : Addr} {d_is_weights : FuncData} (c_is_weights : Callee P w K mg base 3 "is_weights" P_is_weights m_is_weights f_is_weights d_is_weights) (b_is_weights : Binds K d_is_weights P_is_weights []) {f_weighted : Addr} {d_weighted : FuncData} (c_weighted : Callee P w K mg base 1 "weighted" P_weighted m_weighted f_weighted d_weighted) (b_weighted : Binds K d_weighted P_weighted []) {f_ratio : Addr} {d_ratio : FuncData} (c_ratio : Callee P w K mg base 3 "ratio" P_ratio m_ratio f_ratio d_ratio) (b2_ratio : ∃ ds, Vals [] ds ∧ Binds K d_ratio P_ratio ds) {f : Addr} {fd : FuncData} (F : Fun K "is_attained" "is_attained" s_is_attained f fd) :
    FnOk P w K mg base (L2N.CX P w) 4 f fd P_is_attained (spD K mg m_is_attained) :=
  fnD F sc_is_attained fun cdv A outer s H E hr =>
    (ds_cons (ds_if (dt_bool (dw_or (dt_not (dt_val (c_is_weights.call (.inl rfl) hr (by decide) (L2N.takes_of rfl rfl rfl rfl) rfl b_is_weights .nil (fun _ _ => rfl) (da_cons (de_var 2) (da_cons (de_callB call_lenAll cok_len rfl T.b_len (by decide +kernel) (da_cons (de_var 1) da_nil)) da_nil))))) (dw_or1 (dt_val (de_callB (cr_any rfl) cok_any rfl T.b_any (by decide +kernel) (da_cons (de_lc (.one 4) [("row", 4)] rfl sc_is_attained.nd (di_lt (de_var 0)) (blkOk_by (N := N_is_attained) (sc := defScope s_is_attained) (by decide +kernel)) (fun _ _ _ _ _ => dg_name 4 sc_is_attained.nd) (fun _ _ _ _ _ => dts_nil) (fun _ _ _ _ _ => (de_cmp op_lt rok_lt (c_weighted.call (.inl rfl) hr (by decide) takesN rfl b_weighted .nil (fun _ _ => rfl) (da_cons (de_var 4) (da_cons (de_var 2) da_nil))) de_int (nomark _))) (fun _ h => h)) da_nil)))))) (ds_one (ds_ret de_bl)) ds_nil)
      (ds_one (ds_ret (de_cmp (op_eqD (Room.units hr)) rok_eq (c_ratio.call (.inl rfl) hr (by decide) (L2N.takes_of rfl rfl rfl rfl) rfl b2_ratio.choose_spec.2 b2_ratio.choose_spec.1 (fun _ _ => rfl) (da_cons (c_weighted.call (.inl rfl) hr (by decide) (L2N.takes_of rfl rfl rfl rfl) rfl b_weighted .nil (fun _ _ => rfl) (da_cons (de_var 1) (da_cons (de_var 2) da_nil))) (da_cons (de_callB (cr_sumB rfl) cok_sum rfl T.b_sum (by decide +kernel) (da_cons (de_var 2) da_nil)) da_nil))) (de_var 3) (nomark _)))))
theorem ok_is_bound (T : Txt K mg) {f_is_positive : Addr} {d_is_positive : FuncData} (c_is_positive : Callee P w K mg base 2 "is_positive" P_is_positive m_is_positive f_is_positive d_is_positive) (b_is_positive : Binds K d_is_positive P_is_positive []) {f_is_amounts : Addr} {d_is_amounts : FuncData} (c_is_amounts : Callee P w K mg base 3 "is_amounts" P_is_amounts m_is_amounts f_is_amounts d_is_amounts) (b_is_amounts : Binds K d_is_amounts P_is_amounts []) {f_sums : Addr} {d_sums : FuncData} (c_sums : Callee P w K mg base 1 "sums" P_sums m_sums f_sums d_sums) (b_sums : Binds K d_sums P_sums []) {f : Addr} {fd : FuncData} (F : Fun K "is_bound" "is_bound" s_is_bound f fd) :
    FnOk P w K mg base (L2N.CX P w) 4 f fd P_is_bound (spD K mg m_is_bound) :=
  fnD F sc_is_bound fun cdv A outer s H E hr =>
    (ds_cons (ds_if (dt_bool (dw_or (dt_not (dt_val (c_is_positive.call (.inl rfl) hr (by decide) (L2N.takes_of rfl rfl rfl rfl) rfl b_is_positive .nil (fun _ _ => rfl) (da_cons (de_var 3) da_nil)))) (dw_or1 (dt_not (dt_val (c_is_amounts.call (.inl rfl) hr (by decide) (L2N.takes_of rfl rfl rfl rfl) rfl b_is_amounts .nil (fun _ _ => rfl) (da_cons (de_var 0) (da_cons (de_var 4) da_nil)))))))) (ds_one (ds_ret de_bl)) ds_nil)
      (ds_cons (ds_unpA rfl (dgs_cons 5 sc_is_bound.nd (dgs_cons 6 sc_is_bound.nd dgs_nil)) (de_var 2) (fun p q => ps_asg p q))
      (ds_cons (ds_setLc (.many [8, 9]) [("number", 8), ("each", 9)] 7 rfl sc_is_bound.nd rfl (di_zip (da_cons (de_var 1) (da_cons (c_sums.call (.inl rfl) hr (by decide) (L2N.takes_of rfl rfl rfl rfl) rfl b_sums .nil (fun _ _ => rfl) (da_cons (de_var 0) (da_cons (de_var 4) (da_cons (de_callB call_lenAll cok_len rfl T.b_len (by decide +kernel) (da_cons (de_var 1) da_nil)) da_nil)))) da_nil)) rfl T.b_zip) (blkOk_by (N := N_is_bound) (sc := defScope s_is_bound) (by decide +kernel)) (fun _ _ _ _ _ => dg_tup rfl (dgs_cons 8 sc_is_bound.nd (dgs_cons 9 sc_is_bound.nd dgs_nil))) (fun _ _ _ _ _ => dts_nil) (fun _ _ _ _ _ => (de_op op_addAll rok_add (de_op op_mulW rok_mul (de_var 8) (de_var 3)) (de_var 9))) (fun _ h => h) (sw_true rfl rfl rfl (by decide +kernel)))
      (ds_one (ds_ret (de_callB (cr_all rfl) cok_all rfl T.b_all (by decide +kernel) (da_cons (de_lc (.one 9) [("each", 9)] rfl sc_is_bound.nd (di_lt (de_var 7)) (blkOk_by (N := N_is_bound) (sc := defScope s_is_bound) (by decide +kernel)) (fun _ _ _ _ _ => dg_name 9 sc_is_bound.nd) (fun _ _ _ _ _ => dts_nil) (fun _ _ _ _ _ => (de_cmp op_le rok_le (de_op op_mulW rok_mul (de_var 9) (de_var 6)) (de_op op_mulW rok_mul (de_var 3) (de_var 5)) (nomark _))) (fun _ h => h)) da_nil)))))))
theorem ok_is_answer (T : Txt K mg) {f_check_program : Addr} {d_check_program : FuncData} (c_check_program : Callee P w K mg base 3 "check_program" P_check_program m_check_program f_check_program d_check_program) (b_check_program : Binds K d_check_program P_check_program []) {f_shows_none : Addr} {d_shows_none : FuncData} (c_shows_none : Callee P w K mg base 4 "shows_none" P_shows_none m_shows_none f_shows_none d_shows_none) (b_shows_none : Binds K d_shows_none P_shows_none []) {f_is_attained : Addr} {d_is_attained : FuncData} (c_is_attained : Callee P w K mg base 4 "is_attained" P_is_attained m_is_attained f_is_attained d_is_attained) (b_is_attained : Binds K d_is_attained P_is_attained []) {f_is_bound : Addr} {d_is_bound : FuncData} (c_is_bound : Callee P w K mg base 4 "is_bound" P_is_bound m_is_bound f_is_bound d_is_bound) (b_is_bound : Binds K d_is_bound P_is_bound []) {f : Addr} {fd : FuncData} (F : Fun K "is_answer" "is_answer" s_is_answer f fd) :
    FnOk P w K mg base (L2N.CX P w) 5 f fd P_is_answer (spD K mg m_is_answer) :=
  fnD F sc_is_answer fun cdv A outer s H E hr =>
    (ds_cons (ds_expr (c_check_program.call (.inl rfl) hr (by decide) (L2N.takes_of rfl rfl rfl rfl) rfl b_check_program .nil (fun _ _ => rfl) (da_cons (de_var 0) (da_cons (de_var 1) da_nil))))
      (ds_cons (ds_if (dt_bool (dw_and (dt_cmp (op_eqD (Room.units hr)) rok_eq (de_callB call_lenAll cok_len rfl T.b_len (by decide +kernel) (da_cons (de_var 2) da_nil)) de_int (nomark _)) (dw_and1 (dt_cmp (op_eqD (Room.units hr)) rok_eq (de_idx (de_var 2) de_int) de_str (nomark _))))) (ds_one (ds_ret (c_shows_none.call (.inr rfl) hr (by decide) (L2N.takes_of rfl rfl rfl rfl) rfl b_shows_none .nil (fun _ _ => rfl) (da_cons (de_var 0) (da_cons (de_var 1) (da_cons (de_idx (de_var 2) de_int) da_nil)))))) ds_nil)
      (ds_cons (ds_if (dt_bool (dw_and (dt_cmp (op_eqD (Room.units hr)) rok_eq (de_callB call_lenAll cok_len rfl T.b_len (by decide +kernel) (da_cons (de_var 2) da_nil)) de_int (nomark _)) (dw_and1 (dt_cmp (op_eqD (Room.units hr)) rok_eq (de_idx (de_var 2) de_int) de_str (nomark _))))) (ds_cons (ds_unpA rfl (dgs_cons 3 sc_is_answer.nd (dgs_cons 4 sc_is_answer.nd (dgs_cons 5 sc_is_answer.nd (dgs_cons 6 sc_is_answer.nd (dgs_cons 7 sc_is_answer.nd dgs_nil))))) (de_var 2) (fun p q => ps_asg p q))
      (ds_one (ds_ret (de_and (c_is_attained.call (.inl rfl) hr (by decide) (L2N.takes_of rfl rfl rfl rfl) rfl b_is_attained .nil (fun _ _ => rfl) (da_cons (de_var 0) (da_cons (de_var 1) (da_cons (de_var 4) (da_cons (de_var 5) da_nil))))) (de_one (c_is_bound.call (.inl rfl) hr (by decide) (L2N.takes_of rfl rfl rfl rfl) rfl b_is_bound .nil (fun _ _ => rfl) (da_cons (de_var 0) (da_cons (de_var 1) (da_cons (de_var 5) (da_cons (de_var 6) (da_cons (de_var 7) da_nil))))))))))) ds_nil)
      (ds_one (ds_ret de_bl)))))
theorem ok__law_pool (T : Txt K mg)  {f : Addr} {fd : FuncData} (F : Fun K "_law_pool" "_law_pool" s__law_pool f fd) :
    FnOk P w K mg base (L2N.CX P w) 1 f fd P__law_pool (spD K mg m__law_pool) :=
  fnD F sc__law_pool fun cdv A outer s H E hr =>
    (ds_one (ds_ret (de_own (da_cons de_int (da_cons de_int (da_cons (de_callTy call_list_of cok_list rfl T.b_list (by decide +kernel) (da_cons (de_var 0) da_nil)) da_nil))))))
theorem ok__law_take (T : Txt K mg)  {f : Addr} {fd : FuncData} (F : Fun K "_law_take" "_law_take" s__law_take f fd) :
    FnOk P w K mg base (L2N.CX P w) 1 f fd P__law_take (spD K mg m__law_take) :=
  fnD F sc__law_take fun cdv A outer s H E hr =>
    (ds_cons (ds_if (dt_cmp (op_eqD (Room.units hr)) rok_eq (de_idx (de_var 0) de_int) de_int (nomark _)) (ds_cons (ds_set 2 sc__law_take.nd (de_idx (de_var 0) de_int))
      (ds_cons (ds_seti (fun p q => pg_sub p q set_list) (de_op op_addAll rok_add (de_var 2) de_int) (de_var 0) de_int)
      (ds_cons (ds_set 3 sc__law_take.nd (de_idx (de_op op_addAll rok_add (de_idx (de_var 0) de_int) (de_lst (da_cons de_int da_nil))) (de_op op_modN rok_mod (de_callTy call_int1 cok_int rfl T.b_int (by decide +kernel) (da_cons (de_var 2) da_nil)) (de_callB (call_max2 rfl) cok_max rfl T.b_max (by decide +kernel) (da_cons de_int (da_cons (de_callB call_lenAll cok_len rfl T.b_len (by decide +kernel) (da_cons (de_idx (de_var 0) de_int) da_nil)) da_nil))))))
      (ds_cons (ds_set 4 sc__law_take.nd (de_op op_modN rok_mod (de_op op_pow rok_pow (de_op op_addAll rok_add (de_op op_addAll rok_add (de_op op_modN rok_mod (de_callTy call_int1 cok_int rfl T.b_int (by decide +kernel) (da_cons (de_var 3) da_nil)) de_int) (de_op op_mulW rok_mul de_int (de_var 2))) de_int) de_int) de_int))
      (ds_cons (ds_set 4 sc__law_take.nd (de_op op_modN rok_mod (de_op op_pow rok_pow (de_op op_addAll rok_add (de_op op_addAll rok_add (de_var 4) (de_op op_mulW rok_mul de_int (de_var 2))) de_int) de_int) de_int))
      (ds_cons (ds_if (dt_cmp op_lt rok_lt (de_var 3) (de_op op_pow rok_pow de_int de_int) (nomark _)) (ds_one (ds_ret (de_op op_modN rok_mod (de_op op_fdivZ rok_fdiv (de_var 4) de_int) (de_var 1)))) ds_nil)
      (ds_one (ds_seti (fun p q => pg_sub p q set_list) (de_var 3) (de_var 0) de_int)))))))) ds_nil)
      (ds_cons (ds_set 5 sc__law_take.nd (de_op op_modN rok_mod (de_callTy call_int1 cok_int rfl T.b_int (by decide +kernel) (da_cons (de_idx (de_var 0) de_int) da_nil)) (de_var 1)))
      (ds_cons (ds_seti (fun p q => pg_sub p q set_list) (de_op op_fdivZ rok_fdiv (de_idx (de_var 0) de_int) (de_var 1)) (de_var 0) de_int)
      (ds_one (ds_ret (de_var 5))))))
theorem ok__law_is (T : Txt K mg)  {f : Addr} {fd : FuncData} (F : Fun K "_law_is" "_law_is" s__law_is f fd) :
    FnOk P w K mg base (L2N.CX P w) 1 f fd P__law_is (spD K mg m__law_is) :=
  fnD F sc__law_is fun cdv A outer s H E hr =>
    (ds_one (ds_ret (de_and (de_callB call_isi cok_isi rfl T.b_isinstance (by decide +kernel) (da_cons (de_var 0) (da_cons (de_ty rfl T.b_bool (by decide +kernel)) da_nil))) (de_one (de_cmp (op_eqD (Room.units hr)) rok_eq (de_var 0) (de_var 1) (nomark _))))))
theorem ok__law_divisor (T : Txt K mg)  {f : Addr} {fd : FuncData} (F : Fun K "_law_divisor" "_law_divisor" s__law_divisor f fd) :
    FnOk P w K mg base (L2N.CX P w) 1 f fd P__law_divisor (spD K mg m__law_divisor) :=
  fnD F sc__law_divisor fun cdv A outer s H E hr =>
    (ds_cons (ds_set 1 sc__law_divisor.nd de_int)
      (ds_cons (ds_for (passes_of rfl) rfl (di_lt (de_var 0)) (dg_name 2 sc__law_divisor.nd) (ds_cons (ds_set 3 sc__law_divisor.nd (de_callB call_abs cok_abs rfl T.b_abs (by decide +kernel) (da_cons (de_var 2) da_nil)))
      (ds_cons (ds_set 4 sc__law_divisor.nd (de_var 1))
      (ds_cons (ds_while 100000 (passes_of rfl) (dt_cmp (op_neD (Room.units hr)) rok_ne (de_var 4) de_int (nomark _)) (ds_one (ds_par 3 4 (fun p => ps_par rfl sc__law_divisor.nd rfl rfl (by decide) rfl rfl p (by rfl)) (da_cons (de_var 4) (da_cons (de_op op_modN rok_mod (de_callTy call_int1 cok_int rfl T.b_int (by decide +kernel) (da_cons (de_var 3) da_nil)) (de_var 4)) da_nil)))))
      (ds_one (ds_set 1 sc__law_divisor.nd (de_var 3)))))))
      (ds_one (ds_ret (de_var 1)))))
theorem ok__law_ratio (T : Txt K mg) {f__law_divisor : Addr} {d__law_divisor : FuncData} (c__law_divisor : Callee P w K mg base 1 "_law_divisor" P__law_divisor m__law_divisor f__law_divisor d__law_divisor) (b__law_divisor : Binds K d__law_divisor P__law_divisor []) {f : Addr} {fd : FuncData} (F : Fun K "_law_ratio" "_law_ratio" s__law_ratio f fd) :
    FnOk P w K mg base (L2N.CX P w) 2 f fd P__law_ratio (spD K mg m__law_ratio) :=
  fnD F sc__law_ratio fun cdv A outer s H E hr =>
    (ds_cons (ds_set 2 sc__law_ratio.nd (c__law_divisor.call (.inl rfl) hr (by decide) (L2N.takes_of rfl rfl rfl rfl) rfl b__law_divisor .nil (fun _ _ => rfl) (da_cons (de_lst (da_cons (de_var 0) (da_cons (de_var 1) da_nil))) da_nil)))
      (ds_cons (ds_if (dt_cmp op_lt rok_lt (de_var 1) de_int (nomark _)) (ds_one (ds_set 2 sc__law_ratio.nd (de_un un_neg uok_neg (de_var 2)))) ds_nil)
      (ds_one (ds_ret (de_tup (da_cons (de_op op_fdivZ rok_fdiv (de_var 0) (de_var 2)) (da_cons (de_op op_fdivZ rok_fdiv (de_var 1) (de_var 2)) da_nil)))))))
theorem ok__law_less (T : Txt K mg)  {f : Addr} {fd : FuncData} (F : Fun K "_law_less" "_law_less" s__law_less f fd) :
    FnOk P w K mg base (L2N.CX P w) 1 f fd P__law_less (spD K mg m__law_less) :=
  fnD F sc__law_less fun cdv A outer s H E hr =>
    (ds_one (ds_ret (de_cmp op_lt rok_lt (de_op op_mulW rok_mul (de_idx (de_var 0) de_int) (de_idx (de_var 1) de_int)) (de_op op_mulW rok_mul (de_idx (de_var 1) de_int) (de_idx (de_var 0) de_int)) (nomark _))))
theorem ok__law_weighed (T : Txt K mg)  {f : Addr} {fd : FuncData} (F : Fun K "_law_weighed" "_law_weighed" s__law_weighed f fd) :
    FnOk P w K mg base (L2N.CX P w) 1 f fd P__law_weighed (spD K mg m__law_weighed) :=
  fnD F sc__law_weighed fun cdv A outer s H E hr =>
    (ds_one (ds_ret (de_callB (cr_sumB rfl) cok_sum rfl T.b_sum (by decide +kernel) (da_cons (de_lc (.one 2) [("_law_k", 2)] rfl sc__law_weighed.nd (di_range1 (da_cons (de_callB call_lenAll cok_len rfl T.b_len (by decide +kernel) (da_cons (de_var 0) da_nil)) da_nil) rfl T.b_range) (blkOk_by (N := N__law_weighed) (sc := defScope s__law_weighed) (by decide +kernel)) (fun _ _ _ _ _ => dg_name 2 sc__law_weighed.nd) (fun _ _ _ _ _ => dts_nil) (fun _ _ _ _ _ => (de_op op_mulW rok_mul (de_idx (de_var 0) (de_var 2)) (de_idx (de_var 1) (de_var 2)))) (fun _ h => h)) da_nil))))
theorem ok__law_integers (T : Txt K mg) {f__law_take : Addr} {d__law_take : FuncData} (c__law_take : Callee P w K mg base 1 "_law_take" P__law_take m__law_take f__law_take d__law_take) (b__law_take : Binds K d__law_take P__law_take []) {f : Addr} {fd : FuncData} (F : Fun K "_law_integers" "_law_integers" s__law_integers f fd) :
    FnOk P w K mg base (L2N.CX P w) 2 f fd P__law_integers (spD K mg m__law_integers) :=
  fnD F sc__law_integers fun cdv A outer s H E hr =>
    (ds_one (ds_ret (de_lcOwn (.one 3) [("_law_k", 3)] rfl sc__law_integers.nd (di_range1 (da_cons (de_var 1) da_nil) rfl T.b_range) (blkOk_by (N := N__law_integers) (sc := defScope s__law_integers) (by decide +kernel)) (fun _ _ _ _ _ => dg_name 3 sc__law_integers.nd) (fun _ _ _ _ _ => dts_nil) (fun _ _ _ _ _ => (de_op op_sub rok_sub (c__law_take.call (.inl rfl) hr (by decide) takesN rfl b__law_take .nil (fun _ _ => rfl) (da_cons (de_var 0) (da_cons (de_op op_addAll rok_add (de_op op_mulW rok_mul de_int (de_var 2)) de_int) da_nil))) (de_var 2))) (fun _ h => h))))
theorem ok__law_weights (T : Txt K mg) {f__law_take : Addr} {d__law_take : FuncData} (c__law_take : Callee P w K mg base 1 "_law_take" P__law_take m__law_take f__law_take d__law_take) (b__law_take : Binds K d__law_take P__law_take []) {f : Addr} {fd : FuncData} (F : Fun K "_law_weights" "_law_weights" s__law_weights f fd) :
    FnOk P w K mg base (L2N.CX P w) 2 f fd P__law_weights (spD K mg m__law_weights) :=
  fnD F sc__law_weights fun cdv A outer s H E hr =>
    (ds_cons (ds_setLcOwn (.one 4) [("_law_k", 4)] 3 rfl sc__law_weights.nd rfl (di_range1 (da_cons (de_var 1) da_nil) rfl T.b_range) (blkOk_by (N := N__law_weights) (sc := defScope s__law_weights) (by decide +kernel)) (fun _ _ _ _ _ => dg_name 4 sc__law_weights.nd) (fun _ _ _ _ _ => dts_nil) (fun _ _ _ _ _ => (c__law_take.call (.inl rfl) hr (by decide) takesN rfl b__law_take .nil (fun _ _ => rfl) (da_cons (de_var 0) (da_cons (de_op op_addAll rok_add (de_var 2) de_int) da_nil)))) (fun _ h => h) (sw_true rfl rfl rfl (by decide +kernel)))
      (ds_cons (ds_if (dt_cmp (op_eqD (Room.units hr)) rok_eq (de_callB (cr_sumB rfl) cok_sum rfl T.b_sum (by decide +kernel) (da_cons (de_var 3) da_nil)) de_int (nomark _)) (ds_one (ds_seti (fun p q => pg_sub p q set_list) de_int (de_var 3) (c__law_take.call (.inl rfl) hr (by decide) (L2N.takes_of rfl rfl rfl rfl) rfl b__law_take .nil (fun _ _ => rfl) (da_cons (de_var 0) (da_cons (de_var 1) da_nil))))) ds_nil)
      (ds_one (ds_ret (de_var 3)))))
theorem ok__law_goal_rows (T : Txt K mg) {f__law_take : Addr} {d__law_take : FuncData} (c__law_take : Callee P w K mg base 1 "_law_take" P__law_take m__law_take f__law_take d__law_take) (b__law_take : Binds K d__law_take P__law_take []) {f__law_integers : Addr} {d__law_integers : FuncData} (c__law_integers : Callee P w K mg base 2 "_law_integers" P__law_integers m__law_integers f__law_integers d__law_integers) (b__law_integers : Binds K d__law_integers P__law_integers []) {f : Addr} {fd : FuncData} (F : Fun K "_law_goal_rows" "_law_goal_rows" s__law_goal_rows f fd) :
    FnOk P w K mg base (L2N.CX P w) 3 f fd P__law_goal_rows (spD K mg m__law_goal_rows) :=
  fnD F sc__law_goal_rows fun cdv A outer s H E hr =>
    (ds_cons (ds_set 3 sc__law_goal_rows.nd (de_idx (de_lst (da_cons de_int (da_cons de_int (da_cons de_int da_nil)))) (c__law_take.call (.inl rfl) hr (by decide) (L2N.takes_of rfl rfl rfl rfl) rfl b__law_take .nil (fun _ _ => rfl) (da_cons (de_var 0) (da_cons de_int da_nil)))))
      (ds_cons (ds_set 4 sc__law_goal_rows.nd (de_op op_addAll rok_add de_int (c__law_take.call (.inl rfl) hr (by decide) (L2N.takes_of rfl rfl rfl rfl) rfl b__law_take .nil (fun _ _ => rfl) (da_cons (de_var 0) (da_cons (de_var 2) da_nil)))))
      (ds_cons (ds_set 5 sc__law_goal_rows.nd (de_own da_nil))
      (ds_cons (ds_for (passes_of rfl) rfl (di_range1 (da_cons (c__law_take.call (.inl rfl) hr (by decide) (L2N.takes_of rfl rfl rfl rfl) rfl b__law_take .nil (fun _ _ => rfl) (da_cons (de_var 0) (da_cons (de_op op_addAll rok_add (de_var 1) de_int) da_nil))) da_nil) rfl T.b_range) (dg_name 6 sc__law_goal_rows.nd) (ds_cons (ds_set 7 sc__law_goal_rows.nd (c__law_integers.call (.inl rfl) hr (by decide) (L2N.takes_of rfl rfl rfl rfl) rfl b__law_integers .nil (fun _ _ => rfl) (da_cons (de_var 0) (da_cons (de_var 4) (da_cons (de_var 3) da_nil)))))
      (ds_cons (ds_set 8 sc__law_goal_rows.nd (c__law_take.call (.inl rfl) hr (by decide) (L2N.takes_of rfl rfl rfl rfl) rfl b__law_take .nil (fun _ _ => rfl) (da_cons (de_var 0) (da_cons de_int da_nil))))
      (ds_cons (ds_if (dt_bool (dw_and (dt_cmp (op_eqD (Room.units hr)) rok_eq (de_var 8) de_int (nomark _)) (dw_and1 (dt_cmp (op_neD (Room.units hr)) rok_ne (de_var 5) (de_lst da_nil) (nomark _))))) (ds_one (ds_setLc (.one 9) [("_law_item", 9)] 7 rfl sc__law_goal_rows.nd rfl (di_lt (de_idx (de_var 5) de_int)) (blkOk_by (N := N__law_goal_rows) (sc := defScope s__law_goal_rows) (by decide +kernel)) (fun _ _ _ _ _ => dg_name 9 sc__law_goal_rows.nd) (fun _ _ _ _ _ => dts_nil) (fun _ _ _ _ _ => (de_op op_sub rok_sub de_int (de_var 9))) (fun _ h => h) (sw_true rfl rfl rfl (by decide +kernel)))) ds_nil)
      (ds_cons (ds_if (dt_bool (dw_and (dt_cmp (op_eqD (Room.units hr)) rok_eq (de_var 8) de_int (nomark _)) (dw_and1 (dt_cmp op_gt rok_gt (de_callB call_lenAll cok_len rfl T.b_len (by decide +kernel) (da_cons (de_var 5) da_nil)) de_int (nomark _))))) (ds_one (ds_setLc (.one 10) [("_law_at", 10)] 7 rfl sc__law_goal_rows.nd rfl (di_range1 (da_cons (de_var 4) da_nil) rfl T.b_range) (blkOk_by (N := N__law_goal_rows) (sc := defScope s__law_goal_rows) (by decide +kernel)) (fun _ _ _ _ _ => dg_name 10 sc__law_goal_rows.nd) (fun _ _ _ _ _ => dts_nil) (fun _ _ _ _ _ => (de_op op_sub rok_sub (de_idx (de_idx (de_var 5) de_int) (de_var 10)) (de_idx (de_idx (de_var 5) de_int) (de_var 10)))) (fun _ h => h) (sw_true rfl rfl rfl (by decide +kernel)))) ds_nil)
      (ds_cons (ds_if (dt_cmp (op_eqD (Room.units hr)) rok_eq (de_var 8) de_int (nomark _)) (ds_one (ds_setLc (.one 9) [("_law_item", 9)] 7 rfl sc__law_goal_rows.nd rfl (di_lt (de_var 7)) (blkOk_by (N := N__law_goal_rows) (sc := defScope s__law_goal_rows) (by decide +kernel)) (fun _ _ _ _ _ => dg_name 9 sc__law_goal_rows.nd) (fun _ _ _ _ _ => dts_nil) (fun _ _ _ _ _ => (de_op op_sub rok_sub de_int (de_callB call_abs cok_abs rfl T.b_abs (by decide +kernel) (da_cons (de_var 9) da_nil)))) (fun _ h => h) (sw_true rfl rfl rfl (by decide +kernel)))) ds_nil)
      (ds_one (ds_app (fun po pa => ps_expr (pe_bm PySem.F.plainAttrs_list PySem.F.slot_list_append PySem.F.type_list_append mt_append po pa)) (de_var 5) (de_var 7)))))))))
      (ds_one (ds_ret (de_own (da_cons (de_var 5) (da_cons (c__law_integers.call (.inl rfl) hr (by decide) (L2N.takes_of rfl rfl rfl rfl) rfl b__law_integers .nil (fun _ _ => rfl) (da_cons (de_var 0) (da_cons (de_var 4) (da_cons (de_var 3) da_nil)))) da_nil)))))))))
theorem ok__law_sums (T : Txt K mg)  {f : Addr} {fd : FuncData} (F : Fun K "_law_sums" "_law_sums" s__law_sums f fd) :
    FnOk P w K mg base (L2N.CX P w) 1 f fd P__law_sums (spD K mg m__law_sums) :=
  fnD F sc__law_sums fun cdv A outer s H E hr =>
    (ds_cons (ds_set 3 sc__law_sums.nd (de_lc (.one 4) [("_law_at", 4)] rfl sc__law_sums.nd (di_range1 (da_cons (de_var 2) da_nil) rfl T.b_range) (blkOk_by (N := N__law_sums) (sc := defScope s__law_sums) (by decide +kernel)) (fun _ _ _ _ _ => dg_name 4 sc__law_sums.nd) (fun _ _ _ _ _ => dts_nil) (fun _ _ _ _ _ => de_int) (fun _ h => h)))
      (ds_cons (ds_for (passes_of rfl) rfl (di_range1 (da_cons (de_callB call_lenAll cok_len rfl T.b_len (by decide +kernel) (da_cons (de_var 0) da_nil)) da_nil) rfl T.b_range) (dg_name 5 sc__law_sums.nd) (ds_one (ds_set 3 sc__law_sums.nd (de_lc (.one 4) [("_law_at", 4)] rfl sc__law_sums.nd (di_range1 (da_cons (de_var 2) da_nil) rfl T.b_range) (blkOk_by (N := N__law_sums) (sc := defScope s__law_sums) (by decide +kernel)) (fun _ _ _ _ _ => dg_name 4 sc__law_sums.nd) (fun _ _ _ _ _ => dts_nil) (fun _ _ _ _ _ => (de_op op_addAll rok_add (de_idx (de_var 3) (de_var 4)) (de_op op_mulW rok_mul (de_idx (de_var 1) (de_var 5)) (de_idx (de_idx (de_var 0) (de_var 5)) (de_var 4))))) (fun _ h => h)))))
      (ds_one (ds_ret (de_var 3)))))
theorem ok__law_amounts_right (T : Txt K mg)  {f : Addr} {fd : FuncData} (F : Fun K "_law_amounts_right" "_law_amounts_right" s__law_amounts_right f fd) :
    FnOk P w K mg base (L2N.CX P w) 1 f fd P__law_amounts_right (spD K mg m__law_amounts_right) :=
  fnD F sc__law_amounts_right fun cdv A outer s H E hr =>
    (ds_one (ds_ret (de_and (de_cmp (op_eqD (Room.units hr)) rok_eq (de_callB call_lenAll cok_len rfl T.b_len (by decide +kernel) (da_cons (de_var 1) da_nil)) (de_callB call_lenAll cok_len rfl T.b_len (by decide +kernel) (da_cons (de_var 0) da_nil)) (nomark _)) (de_one (de_callB (cr_all rfl) cok_all rfl T.b_all (by decide +kernel) (da_cons (de_lc (.one 2) [("_law_amount", 2)] rfl sc__law_amounts_right.nd (di_lt (de_var 1)) (blkOk_by (N := N__law_amounts_right) (sc := defScope s__law_amounts_right) (by decide +kernel)) (fun _ _ _ _ _ => dg_name 2 sc__law_amounts_right.nd) (fun _ _ _ _ _ => dts_nil) (fun _ _ _ _ _ => (de_cmp op_ge rok_ge (de_var 2) de_int (nomark _))) (fun _ h => h)) da_nil))))))
theorem ok__law_none_right (T : Txt K mg) {f__law_amounts_right : Addr} {d__law_amounts_right : FuncData} (c__law_amounts_right : Callee P w K mg base 1 "_law_amounts_right" P__law_amounts_right m__law_amounts_right f__law_amounts_right d__law_amounts_right) (b__law_amounts_right : Binds K d__law_amounts_right P__law_amounts_right []) {f__law_sums : Addr} {d__law_sums : FuncData} (c__law_sums : Callee P w K mg base 1 "_law_sums" P__law_sums m__law_sums f__law_sums d__law_sums) (b__law_sums : Binds K d__law_sums P__law_sums []) {f : Addr} {fd : FuncData} (F : Fun K "_law_none_right" "_law_none_right" s__law_none_right f fd) :
    FnOk P w K mg base (L2N.CX P w) 2 f fd P__law_none_right (spD K mg m__law_none_right) :=
  fnD F sc__law_none_right fun cdv A outer s H E hr =>
    (ds_one (ds_ret (de_and (c__law_amounts_right.call (.inl rfl) hr (by decide) (L2N.takes_of rfl rfl rfl rfl) rfl b__law_amounts_right .nil (fun _ _ => rfl) (da_cons (de_var 0) (da_cons (de_var 1) da_nil))) (de_one (de_cmp op_lt rok_lt (de_callB (cr_max rfl) cok_maxL rfl T.b_max (by decide +kernel) (da_cons (c__law_sums.call (.inl rfl) hr (by decide) (L2N.takes_of rfl rfl rfl rfl) rfl b__law_sums .nil (fun _ _ => rfl) (da_cons (de_var 0) (da_cons (de_var 1) (da_cons (de_var 2) da_nil)))) da_nil)) de_int (nomark _))))))
theorem ok__law_mean (T : Txt K mg) {f__law_ratio : Addr} {d__law_ratio : FuncData} (c__law_ratio : Callee P w K mg base 2 "_law_ratio" P__law_ratio m__law_ratio f__law_ratio d__law_ratio) (b__law_ratio : Binds K d__law_ratio P__law_ratio []) {f__law_weighed : Addr} {d__law_weighed : FuncData} (c__law_weighed : Callee P w K mg base 1 "_law_weighed" P__law_weighed m__law_weighed f__law_weighed d__law_weighed) (b__law_weighed : Binds K d__law_weighed P__law_weighed []) {f : Addr} {fd : FuncData} (F : Fun K "_law_mean" "_law_mean" s__law_mean f fd) :
    FnOk P w K mg base (L2N.CX P w) 3 f fd P__law_mean (spD K mg m__law_mean) :=
  fnD F sc__law_mean fun cdv A outer s H E hr =>
    (ds_one (ds_ret (c__law_ratio.call (.inr rfl) hr (by decide) (L2N.takes_of rfl rfl rfl rfl) rfl b__law_ratio .nil (fun _ _ => rfl) (da_cons (c__law_weighed.call (.inl rfl) hr (by decide) (L2N.takes_of rfl rfl rfl rfl) rfl b__law_weighed .nil (fun _ _ => rfl) (da_cons (de_var 0) (da_cons (de_var 1) da_nil))) (da_cons (de_callB (cr_sumB rfl) cok_sum rfl T.b_sum (by decide +kernel) (da_cons (de_var 1) da_nil)) da_nil)))))
theorem ok_law (T : Txt K mg) {f_greatest : Addr} {d_greatest : FuncData} (c_greatest : Callee P w K mg base 5 "greatest" P_greatest m_greatest f_greatest d_greatest) (b_greatest : Binds K d_greatest P_greatest []) {f__law_none_right : Addr} {d__law_none_right : FuncData} (c__law_none_right : Callee P w K mg base 2 "_law_none_right" P__law_none_right m__law_none_right f__law_none_right d__law_none_right) (b__law_none_right : Binds K d__law_none_right P__law_none_right []) {f__law_is : Addr} {d__law_is : FuncData} (c__law_is : Callee P w K mg base 1 "_law_is" P__law_is m__law_is f__law_is d__law_is) (b__law_is : Binds K d__law_is P__law_is []) {f_is_answer : Addr} {d_is_answer : FuncData} (c_is_answer : Callee P w K mg base 5 "is_answer" P_is_answer m_is_answer f_is_answer d_is_answer) (b_is_answer : Binds K d_is_answer P_is_answer []) {f__law_sums : Addr} {d__law_sums : FuncData} (c__law_sums : Callee P w K mg base 1 "_law_sums" P__law_sums m__law_sums f__law_sums d__law_sums) (b__law_sums : Binds K d__law_sums P__law_sums []) {f__law_weights : Addr} {d__law_weights : FuncData} (c__law_weights : Callee P w K mg base 2 "_law_weights" P__law_weights m__law_weights f__law_weights d__law_weights) (b__law_weights : Binds K d__law_weights P__law_weights []) {f__law_ratio : Addr} {d__law_ratio : FuncData} (c__law_ratio : Callee P w K mg base 2 "_law_ratio" P__law_ratio m__law_ratio f__law_ratio d__law_ratio) (b__law_ratio : Binds K d__law_ratio P__law_ratio []) {f__law_take : Addr} {d__law_take : FuncData} (c__law_take : Callee P w K mg base 1 "_law_take" P__law_take m__law_take f__law_take d__law_take) (b__law_take : Binds K d__law_take P__law_take []) {f__law_less : Addr} {d__law_less : FuncData} (c__law_less : Callee P w K mg base 1 "_law_less" P__law_less m__law_less f__law_less d__law_less) (b__law_less : Binds K d__law_less P__law_less []) {f__law_mean : Addr} {d__law_mean : FuncData} (c__law_mean : Callee P w K mg base 3 "_law_mean" P__law_mean m__law_mean f__law_mean d__law_mean) (b__law_mean : Binds K d__law_mean P__law_mean []) {f__law_weighed : Addr} {d__law_weighed : FuncData} (c__law_weighed : Callee P w K mg base 1 "_law_weighed" P__law_weighed m__law_weighed f__law_weighed d__law_weighed) (b__law_weighed : Binds K d__law_weighed P__law_weighed []) {f__law_goal_rows : Addr} {d__law_goal_rows : FuncData} (c__law_goal_rows : Callee P w K mg base 3 "_law_goal_rows" P__law_goal_rows m__law_goal_rows f__law_goal_rows d__law_goal_rows) (b__law_goal_rows : Binds K d__law_goal_rows P__law_goal_rows []) {f__law_pool : Addr} {d__law_pool : FuncData} (c__law_pool : Callee P w K mg base 1 "_law_pool" P__law_pool m__law_pool f__law_pool d__law_pool) (b__law_pool : Binds K d__law_pool P__law_pool []) {f : Addr} {fd : FuncData} (F : Fun K "law" "law" s_law f fd) :
    FnOk P w K mg base (L2N.CX P w) 6 f fd P_law (spD K mg m_law) :=
  fnDT F sc_law fun cdv A outer s H E hr =>
    (dts_cons (ds_set 1 sc_law.nd (c__law_pool.call (.inr rfl) hr (by decide) (L2N.takes_of rfl rfl rfl rfl) rfl b__law_pool .nil (fun _ _ => rfl) (da_cons (de_var 0) da_nil)))
      (dts_cons (ds_unpA rfl (dgs_cons 2 sc_law.nd (dgs_cons 3 sc_law.nd dgs_nil)) (c__law_goal_rows.call (.inl rfl) hr (by decide) (L2N.takes_of rfl rfl rfl rfl) rfl b__law_goal_rows .nil (fun _ _ => rfl) (da_cons (de_var 1) (da_cons de_int (da_cons de_int da_nil)))) (fun p q => ps_asg p q))
      (dts_cons (ds_set 4 sc_law.nd (de_callB call_lenAll cok_len rfl T.b_len (by decide +kernel) (da_cons (de_var 3) da_nil)))
      (dts_cons (ds_set 5 sc_law.nd (c__law_weights.call (.inl rfl) hr (by decide) (L2N.takes_of rfl rfl rfl rfl) rfl b__law_weights .nil (fun _ _ => rfl) (da_cons (de_var 1) (da_cons (de_var 4) (da_cons de_int da_nil)))))
      (dts_cons (ds_set 6 sc_law.nd (de_own da_nil))
      (dts_cons (ds_for (passes_of rfl) rfl (di_lt (de_var 2)) (dg_name 7 sc_law.nd) (ds_cons (ds_set 8 sc_law.nd (de_callB (call_max2 rfl) cok_max rfl T.b_max (by decide +kernel) (da_cons de_int (da_cons (de_op op_sub rok_sub de_int (c__law_weighed.call (.inl rfl) hr (by decide) (L2N.takes_of rfl rfl rfl rfl) rfl b__law_weighed .nil (fun _ _ => rfl) (da_cons (de_var 7) (da_cons (de_var 5) da_nil)))) da_nil))))
      (ds_one (ds_app (fun po pa => ps_expr (pe_bm PySem.F.plainAttrs_list PySem.F.slot_list_append PySem.F.type_list_append mt_append po pa)) (de_var 6) (de_op op_addAll rok_add (de_var 7) (de_lst (da_cons (de_var 8) da_nil)))))))
      (dts_cons (ds_set 9 sc_law.nd (de_op op_addAll rok_add (de_var 3) (de_lst (da_cons (de_op op_sub rok_sub (c__law_take.call (.inl rfl) hr (by decide) (L2N.takes_of rfl rfl rfl rfl) rfl b__law_take .nil (fun _ _ => rfl) (da_cons (de_var 1) (da_cons de_int da_nil))) de_int) da_nil))))
      (dts_cons (ds_set 10 sc_law.nd (de_op op_addAll rok_add (de_var 5) (de_lst (da_cons de_int da_nil))))
      (dts_lend 1 (ds_cons (ds_set 11 sc_law.nd (c_greatest.call (.inl rfl) hr (by decide) (L2N.takes_of rfl rfl rfl rfl) rfl b_greatest .nil (fun _ _ => rfl) (da_cons (de_var 6) (da_cons (de_var 9) da_nil))))
      (ds_cons (ds_if (dt_bool (dw_or (dt_cmp (op_neD (Room.units hr)) rok_ne (de_idx (de_var 11) de_int) de_str (nomark _)) (dw_or1 (dt_val (c__law_less.call (.inl rfl) hr (by decide) (L2N.takes_of rfl rfl rfl rfl) rfl b__law_less .nil (fun _ _ => rfl) (da_cons (de_idx (de_var 11) de_int) (da_cons (c__law_mean.call (.inl rfl) hr (by decide) (L2N.takes_of rfl rfl rfl rfl) rfl b__law_mean .nil (fun _ _ => rfl) (da_cons (de_var 9) (da_cons (de_var 10) da_nil))) da_nil))))))) (ds_one (ds_ret de_bl)) ds_nil)
      (ds_cons (ds_set 12 sc_law.nd (de_op op_sub rok_sub (c__law_take.call (.inl rfl) hr (by decide) (L2N.takes_of rfl rfl rfl rfl) rfl b__law_take .nil (fun _ _ => rfl) (da_cons (de_var 1) (da_cons de_int da_nil))) de_int))
      (ds_cons (ds_unpA rfl (dgs_cons 13 sc_law.nd (dgs_cons 14 sc_law.nd dgs_nil)) (de_idx (de_var 11) de_int) (fun p q => ps_asg p q))
      (ds_cons (ds_if (dt_cmp (op_neD (Room.units hr)) rok_ne (de_idx (c_greatest.call (.inl rfl) hr (by decide) (L2N.takes_of rfl rfl rfl rfl) rfl b_greatest .nil (fun _ _ => rfl) (da_cons (de_var 6) (da_cons (de_lc (.one 15) [("_law_item", 15)] rfl sc_law.nd (di_lt (de_var 9)) (blkOk_by (N := N_law) (sc := defScope s_law) (by decide +kernel)) (fun _ _ _ _ _ => dg_name 15 sc_law.nd) (fun _ _ _ _ _ => dts_nil) (fun _ _ _ _ _ => (de_op op_addAll rok_add (de_var 15) (de_var 12))) (fun _ h => h)) da_nil))) de_int) (c__law_ratio.call (.inl rfl) hr (by decide) (L2N.takes_of rfl rfl rfl rfl) rfl b__law_ratio .nil (fun _ _ => rfl) (da_cons (de_op op_addAll rok_add (de_var 13) (de_op op_mulW rok_mul (de_var 12) (de_var 14))) (da_cons (de_var 14) da_nil))) (nomark _)) (ds_one (ds_ret de_bl)) ds_nil)
      (ds_cons (ds_if (dt_cmp (op_neD (Room.units hr)) rok_ne (de_idx (c_greatest.call (.inl rfl) hr (by decide) (L2N.takes_of rfl rfl rfl rfl) rfl b_greatest .nil (fun _ _ => rfl) (da_cons (de_var 6) (da_cons (de_lc (.one 15) [("_law_item", 15)] rfl sc_law.nd (di_lt (de_var 9)) (blkOk_by (N := N_law) (sc := defScope s_law) (by decide +kernel)) (fun _ _ _ _ _ => dg_name 15 sc_law.nd) (fun _ _ _ _ _ => dts_nil) (fun _ _ _ _ _ => (de_var 12)) (fun _ h => h)) da_nil))) de_int) (de_tup (da_cons (de_var 12) (da_cons de_int da_nil))) (nomark _)) (ds_one (ds_ret de_bl)) ds_nil)
      (ds_cons (ds_if (dt_cmp (op_eqD (Room.units hr)) rok_eq (de_var 6) (de_lst da_nil) (nomark _)) (ds_one (ds_ret (de_cmp (op_eqD (Room.units hr)) rok_eq (de_idx (de_var 11) de_int) (de_tup (da_cons (de_callB (cr_max rfl) cok_maxL rfl T.b_max (by decide +kernel) (da_cons (de_var 9) da_nil)) (da_cons de_int da_nil))) (nomark _)))) ds_nil)
      (ds_cons (ds_set 16 sc_law.nd (c__law_weights.call (.inl rfl) hr (by decide) (L2N.takes_of rfl rfl rfl rfl) rfl b__law_weights .nil (fun _ _ => rfl) (da_cons (de_var 1) (da_cons (de_callB call_lenAll cok_len rfl T.b_len (by decide +kernel) (da_cons (de_var 2) da_nil)) (da_cons de_int da_nil)))))
      (ds_cons (ds_set 17 sc_law.nd (c__law_sums.call (.inl rfl) hr (by decide) (L2N.takes_of rfl rfl rfl rfl) rfl b__law_sums .nil (fun _ _ => rfl) (da_cons (de_var 2) (da_cons (de_var 16) (da_cons (de_var 4) da_nil)))))
      (ds_cons (ds_set 18 sc_law.nd (de_idx (de_lc (.one 19) [("_law_k", 19)] rfl sc_law.nd (di_range1 (da_cons (de_callB call_lenAll cok_len rfl T.b_len (by decide +kernel) (da_cons (de_var 16) da_nil)) da_nil) rfl T.b_range) (blkOk_by (N := N_law) (sc := defScope s_law) (by decide +kernel)) (fun _ _ _ _ _ => dg_name 19 sc_law.nd) (fun _ _ _ _ _ => (dts_one (dt_cmp op_gt rok_gt (de_idx (de_var 16) (de_var 19)) de_int (nomark _)))) (fun _ _ _ _ _ => (de_var 19)) (fun _ h => h)) de_int))
      (ds_cons (ds_setLcX (.one 7) [("_law_row", 7)] 20 rfl sc_law.nd rfl (di_lt (de_var 2)) (blkOk_by (N := N_law) (sc := defScope s_law) (by decide +kernel)) (fun _ _ _ _ _ => dg_name 7 sc_law.nd) (fun _ _ _ _ _ => dts_nil) (fun _ _ _ _ _ => (de_callTy call_list_of cok_listOwn rfl T.b_list (by decide +kernel) (da_cons (de_var 7) da_nil))) (fun _ h => h) (sw_true rfl rfl rfl (by decide +kernel)))
      (ds_cons (ds_for (passes_of rfl) rfl (di_range1 (da_cons (de_var 4) da_nil) rfl T.b_range) (dg_name 21 sc_law.nd) (ds_cons (ds_set 22 sc_law.nd (de_callB (call_max2 rfl) cok_max rfl T.b_max (by decide +kernel) (da_cons de_int (da_cons (de_op op_addAll rok_add (de_idx (de_var 17) (de_var 21)) de_int) da_nil))))
      (ds_one (ds_seti (fun p q => pg_sub p q set_list) (de_op op_sub rok_sub (de_idx (de_idxX (de_var 20) (de_var 18)) (de_var 21)) (de_var 22)) (de_idxX (de_var 20) (de_var 18)) (de_var 21)))))
      (dss_lend (ds_cons (ds_set 23 sc_law.nd (c_greatest.call (.inl rfl) hr (by decide) (L2N.takes_of rfl rfl rfl rfl) rfl b_greatest .nil (fun _ _ => rfl) (da_cons (de_var 20) (da_cons (de_var 3) da_nil))))
      (ds_cons (ds_if (dt_bool (dw_or (dt_cmp (op_neD (Room.units hr)) rok_ne (de_idx (de_var 23) de_int) de_str (nomark _)) (dw_or1 (dt_not (dt_val (c__law_none_right.call (.inl rfl) hr (by decide) (L2N.takes_of rfl rfl rfl rfl) rfl b__law_none_right .nil (fun _ _ => rfl) (da_cons (de_var 20) (da_cons (de_idx (de_var 23) de_int) (da_cons (de_var 4) da_nil))))))))) (ds_one (ds_ret de_bl)) ds_nil)
      (ds_one (ds_ret (c__law_is.call (.inr rfl) hr (by decide) (L2N.takes_of rfl rfl rfl rfl) rfl b__law_is .nil (fun _ _ => rfl) (da_cons (c_is_answer.call (.inl rfl) hr (by decide) (L2N.takes_of rfl rfl rfl rfl) rfl b_is_answer .nil (fun _ _ => rfl) (da_cons (de_var 20) (da_cons (de_var 3) (da_cons (de_tup (da_cons de_str (da_cons (de_var 16) da_nil))) da_nil)))) (da_cons (c__law_none_right.call (.inl rfl) hr (by decide) (L2N.takes_of rfl rfl rfl rfl) rfl b__law_none_right .nil (fun _ _ => rfl) (da_cons (de_var 20) (da_cons (de_var 16) (da_cons (de_var 4) da_nil)))) da_nil)))))))))))))))))))))))))))))
end
end Lw
namespace Lw
open PySem L2 DL
theorem init_BadRatio (Y : Cx) (hN : Y.N = (["self", "bottom"] : List Str)) (hS : Y.env.scope = defScope (inClass (top 3) 0)) : PSs Y (defBody (inClass (top 3) 0)) (tOst Y.K "bottom" (tVar 0) (tVar 1)) :=
  pss_one (ps_ost (pe_var (by rw [hN]; rfl) (by rw [hS]; exact .inl rfl)) (pe_var (by rw [hN]; rfl) (by rw [hS]; exact .inl rfl)))
theorem all_mk {l : PySem.W.OpenLaw} {w : World} {K : PySem.W.Frag} {h : Heap} {mg : Str → Option Value} {fa : Addr} (X : K.In h) (G : h.Ns mainGlobals mg) (hfa : mg "law" = some (.ref fa))
    {C_Table : Addr}
    {f_Table___init__ : Addr}
    {C_BadRows : Addr}
    {C_BadRatio fI_BadRatio CB_BadRatio : Addr} {nm_BadRatio q_BadRatio : Str} {N_BadRatio : Addr} {bs_BadRatio : List Value} {sn_BadRatio : List Str} {sub_BadRatio : List Value} {ab_BadRatio : Bool} {col_BadRatio : Option Bool} {dd_BadRatio : Option Addr} {m0_BadRatio m1_BadRatio m2_BadRatio m3_BadRatio m5_BadRatio : Option Value}
    {od_BadRatio an_BadRatio : Option Addr} {sl_BadRatio : Array (Option Value)} {oc_BadRatio kV_BadRatio dc_BadRatio pm_BadRatio cd_BadRatio ct_BadRatio : Value}
    {f_is_whole : Addr} {od_is_whole an_is_whole : Option Addr} {sl_is_whole : Array (Option Value)} {oc_is_whole kV_is_whole dc_is_whole pm_is_whole cd_is_whole ct_is_whole : Value}
    {f_is_positive : Addr} {od_is_positive an_is_positive : Option Addr} {sl_is_positive : Array (Option Value)} {oc_is_positive kV_is_positive dc_is_positive pm_is_positive cd_is_positive ct_is_positive : Value}
    {f_is_list : Addr} {od_is_list an_is_list : Option Addr} {sl_is_list : Array (Option Value)} {oc_is_list kV_is_list dc_is_list pm_is_list cd_is_list ct_is_list : Value}
    {f_is_row : Addr} {od_is_row an_is_row : Option Addr} {sl_is_row : Array (Option Value)} {oc_is_row kV_is_row dc_is_row pm_is_row cd_is_row ct_is_row : Value}
    {f_is_weights : Addr} {od_is_weights an_is_weights : Option Addr} {sl_is_weights : Array (Option Value)} {oc_is_weights kV_is_weights dc_is_weights pm_is_weights cd_is_weights ct_is_weights : Value}
    {f_ratio : Addr} {od_ratio an_ratio : Option Addr} {sl_ratio : Array (Option Value)} {oc_ratio kV_ratio dc_ratio pm_ratio cd_ratio ct_ratio : Value}
    {TT_ratio : Addr} {cT_ratio : Value} {dT_ratio : Option Addr} {tT_ratio : Tok} {nT_ratio : Nat} {sT_ratio : Array (Option Value)}
    {f_lowest : Addr} {od_lowest an_lowest : Option Addr} {sl_lowest : Array (Option Value)} {oc_lowest kV_lowest dc_lowest pm_lowest cd_lowest ct_lowest : Value}
    {f_first_line : Addr} {od_first_line an_first_line : Option Addr} {sl_first_line : Array (Option Value)} {oc_first_line kV_first_line dc_first_line pm_first_line cd_first_line ct_first_line : Value}
    {f_replaced : Addr} {od_replaced an_replaced : Option Addr} {sl_replaced : Array (Option Value)} {oc_replaced kV_replaced dc_replaced pm_replaced cd_replaced ct_replaced : Value}
    {f_check_program : Addr} {od_check_program an_check_program : Option Addr} {sl_check_program : Array (Option Value)} {oc_check_program kV_check_program dc_check_program pm_check_program cd_check_program ct_check_program : Value}
    {f_numbers_of : Addr} {od_numbers_of an_numbers_of : Option Addr} {sl_numbers_of : Array (Option Value)} {oc_numbers_of kV_numbers_of dc_numbers_of pm_numbers_of cd_numbers_of ct_numbers_of : Value}
    {f_endless_amounts : Addr} {od_endless_amounts an_endless_amounts : Option Addr} {sl_endless_amounts : Array (Option Value)} {oc_endless_amounts kV_endless_amounts dc_endless_amounts pm_endless_amounts cd_endless_amounts ct_endless_amounts : Value}
    {f_best_answer : Addr} {od_best_answer an_best_answer : Option Addr} {sl_best_answer : Array (Option Value)} {oc_best_answer kV_best_answer dc_best_answer pm_best_answer cd_best_answer ct_best_answer : Value}
    {od_Table___init__ an_Table___init__ : Option Addr} {sl_Table___init__ : Array (Option Value)} {oc_Table___init__ kV_Table___init__ dc_Table___init__ pm_Table___init__ cd_Table___init__ ct_Table___init__ : Value}
    {f_Table_entering : Addr} {od_Table_entering an_Table_entering : Option Addr} {sl_Table_entering : Array (Option Value)} {oc_Table_entering kV_Table_entering dc_Table_entering pm_Table_entering cd_Table_entering ct_Table_entering : Value}
    {f_Table_is_sooner : Addr} {od_Table_is_sooner an_Table_is_sooner : Option Addr} {sl_Table_is_sooner : Array (Option Value)} {oc_Table_is_sooner kV_Table_is_sooner dc_Table_is_sooner pm_Table_is_sooner cd_Table_is_sooner ct_Table_is_sooner : Value}
    {f_Table_leaving : Addr} {od_Table_leaving an_Table_leaving : Option Addr} {sl_Table_leaving : Array (Option Value)} {oc_Table_leaving kV_Table_leaving dc_Table_leaving pm_Table_leaving cd_Table_leaving ct_Table_leaving : Value}
    {f_Table_exchange : Addr} {od_Table_exchange an_Table_exchange : Option Addr} {sl_Table_exchange : Array (Option Value)} {oc_Table_exchange kV_Table_exchange dc_Table_exchange pm_Table_exchange cd_Table_exchange ct_Table_exchange : Value}
    {f_greatest : Addr} {od_greatest an_greatest : Option Addr} {sl_greatest : Array (Option Value)} {oc_greatest kV_greatest dc_greatest pm_greatest cd_greatest ct_greatest : Value}
    {f_is_amounts : Addr} {od_is_amounts an_is_amounts : Option Addr} {sl_is_amounts : Array (Option Value)} {oc_is_amounts kV_is_amounts dc_is_amounts pm_is_amounts cd_is_amounts ct_is_amounts : Value}
    {f_sums : Addr} {od_sums an_sums : Option Addr} {sl_sums : Array (Option Value)} {oc_sums kV_sums dc_sums pm_sums cd_sums ct_sums : Value}
    {f_shows_none : Addr} {od_shows_none an_shows_none : Option Addr} {sl_shows_none : Array (Option Value)} {oc_shows_none kV_shows_none dc_shows_none pm_shows_none cd_shows_none ct_shows_none : Value}
    {f_weighted : Addr} {od_weighted an_weighted : Option Addr} {sl_weighted : Array (Option Value)} {oc_weighted kV_weighted dc_weighted pm_weighted cd_weighted ct_weighted : Value}
    {f_is_attained : Addr} {od_is_attained an_is_attained : Option Addr} {sl_is_attained : Array (Option Value)} {oc_is_attained kV_is_attained dc_is_attained pm_is_attained cd_is_attained ct_is_attained : Value}
    {f_is_bound : Addr} {od_is_bound an_is_bound : Option Addr} {sl_is_bound : Array (Option Value)} {oc_is_bound kV_is_bound dc_is_bound pm_is_bound cd_is_bound ct_is_bound : Value}
    {f_is_answer : Addr} {od_is_answer an_is_answer : Option Addr} {sl_is_answer : Array (Option Value)} {oc_is_answer kV_is_answer dc_is_answer pm_is_answer cd_is_answer ct_is_answer : Value}
    {f__law_pool : Addr} {od__law_pool an__law_pool : Option Addr} {sl__law_pool : Array (Option Value)} {oc__law_pool kV__law_pool dc__law_pool pm__law_pool cd__law_pool ct__law_pool : Value}
    {f__law_take : Addr} {od__law_take an__law_take : Option Addr} {sl__law_take : Array (Option Value)} {oc__law_take kV__law_take dc__law_take pm__law_take cd__law_take ct__law_take : Value}
    {f__law_is : Addr} {od__law_is an__law_is : Option Addr} {sl__law_is : Array (Option Value)} {oc__law_is kV__law_is dc__law_is pm__law_is cd__law_is ct__law_is : Value}
    {f__law_divisor : Addr} {od__law_divisor an__law_divisor : Option Addr} {sl__law_divisor : Array (Option Value)} {oc__law_divisor kV__law_divisor dc__law_divisor pm__law_divisor cd__law_divisor ct__law_divisor : Value}
    {f__law_ratio : Addr} {od__law_ratio an__law_ratio : Option Addr} {sl__law_ratio : Array (Option Value)} {oc__law_ratio kV__law_ratio dc__law_ratio pm__law_ratio cd__law_ratio ct__law_ratio : Value}
    {f__law_less : Addr} {od__law_less an__law_less : Option Addr} {sl__law_less : Array (Option Value)} {oc__law_less kV__law_less dc__law_less pm__law_less cd__law_less ct__law_less : Value}
    {f__law_weighed : Addr} {od__law_weighed an__law_weighed : Option Addr} {sl__law_weighed : Array (Option Value)} {oc__law_weighed kV__law_weighed dc__law_weighed pm__law_weighed cd__law_weighed ct__law_weighed : Value}
    {f__law_integers : Addr} {od__law_integers an__law_integers : Option Addr} {sl__law_integers : Array (Option Value)} {oc__law_integers kV__law_integers dc__law_integers pm__law_integers cd__law_integers ct__law_integers : Value}
    {f__law_weights : Addr} {od__law_weights an__law_weights : Option Addr} {sl__law_weights : Array (Option Value)} {oc__law_weights kV__law_weights dc__law_weights pm__law_weights cd__law_weights ct__law_weights : Value}
    {f__law_goal_rows : Addr} {od__law_goal_rows an__law_goal_rows : Option Addr} {sl__law_goal_rows : Array (Option Value)} {oc__law_goal_rows kV__law_goal_rows dc__law_goal_rows pm__law_goal_rows cd__law_goal_rows ct__law_goal_rows : Value}
    {f__law_sums : Addr} {od__law_sums an__law_sums : Option Addr} {sl__law_sums : Array (Option Value)} {oc__law_sums kV__law_sums dc__law_sums pm__law_sums cd__law_sums ct__law_sums : Value}
    {f__law_amounts_right : Addr} {od__law_amounts_right an__law_amounts_right : Option Addr} {sl__law_amounts_right : Array (Option Value)} {oc__law_amounts_right kV__law_amounts_right dc__law_amounts_right pm__law_amounts_right cd__law_amounts_right ct__law_amounts_right : Value}
    {f__law_none_right : Addr} {od__law_none_right an__law_none_right : Option Addr} {sl__law_none_right : Array (Option Value)} {oc__law_none_right kV__law_none_right dc__law_none_right pm__law_none_right cd__law_none_right ct__law_none_right : Value}
    {f__law_mean : Addr} {od__law_mean an__law_mean : Option Addr} {sl__law_mean : Array (Option Value)} {oc__law_mean kV__law_mean dc__law_mean pm__law_mean cd__law_mean ct__law_mean : Value}
    {f_law : Addr} {od_law an_law : Option Addr} {sl_law : Array (Option Value)} {oc_law kV_law dc_law pm_law cd_law ct_law : Value}
    (z_tuple : PySem.W.nsIn K mainGlobals "tuple" = some none)
    (z_list : PySem.W.nsIn K mainGlobals "list" = some none)
    (z_isinstance : PySem.W.nsIn K mainGlobals "isinstance" = some none)
    (z_len : PySem.W.nsIn K mainGlobals "len" = some none)
    (z_int : PySem.W.nsIn K mainGlobals "int" = some none)
    (z_bool : PySem.W.nsIn K mainGlobals "bool" = some none)
    (z_all : PySem.W.nsIn K mainGlobals "all" = some none)
    (z_max : PySem.W.nsIn K mainGlobals "max" = some none)
    (z_range : PySem.W.nsIn K mainGlobals "range" = some none)
    (z_zip : PySem.W.nsIn K mainGlobals "zip" = some none)
    (z_min : PySem.W.nsIn K mainGlobals "min" = some none)
    (z_enumerate : PySem.W.nsIn K mainGlobals "enumerate" = some none)
    (z_gcd : PySem.W.nsIn K mainGlobals "gcd" = some (some (.builtin "math.gcd")))
    (z_dict : PySem.W.nsIn K mainGlobals "dict" = some none)
    (z_sum : PySem.W.nsIn K mainGlobals "sum" = some none)
    (z_any : PySem.W.nsIn K mainGlobals "any" = some none)
    (z_abs : PySem.W.nsIn K mainGlobals "abs" = some none)
    (aC_Table : PySem.W.nsIn K mainGlobals "Table" = some (some (.ref C_Table)))
    (pg_Table : PySem.W.plainGet K C_Table Str.empty = true)
    (hd_Table : PySem.W.hasDictIn K C_Table = true)
    (po_Table : PySem.W.plainOver K C_Table = true)
    (sa_Table : PySem.W.findIn K (.ref C_Table) "__setattr__" = some (some (.builtin "object.__setattr__")))
    (nf_lines_Table : PySem.W.findIn K (.ref C_Table) "lines" = some none)
    (nf_bound_Table : PySem.W.findIn K (.ref C_Table) "bound" = some none)
    (nf_tied_Table : PySem.W.findIn K (.ref C_Table) "tied" = some none)
    (nf_free_Table : PySem.W.findIn K (.ref C_Table) "free" = some none)
    (nf_unit_Table : PySem.W.findIn K (.ref C_Table) "unit" = some none)
    (mk_Table : PySem.W.makesIn K C_Table = true)
    (ini_Table : PySem.W.findIn K (.ref C_Table) "__init__" = some (some (.ref f_Table___init__)))
    (kC_Table : PySem.W.keepIn K (.ref C_Table) = true)
    (fn_Table : PySem.W.isFn K (.ref f_Table___init__) = true)
    (mt_Table_is_sooner : PySem.W.findIn K (.ref C_Table) "is_sooner" = some (some (.ref f_Table_is_sooner)))
    (isf_Table_is_sooner : PySem.W.isFn K (.ref f_Table_is_sooner) = true)
    (mt_Table_entering : PySem.W.findIn K (.ref C_Table) "entering" = some (some (.ref f_Table_entering)))
    (isf_Table_entering : PySem.W.isFn K (.ref f_Table_entering) = true)
    (mt_Table_leaving : PySem.W.findIn K (.ref C_Table) "leaving" = some (some (.ref f_Table_leaving)))
    (isf_Table_leaving : PySem.W.isFn K (.ref f_Table_leaving) = true)
    (mt_Table_exchange : PySem.W.findIn K (.ref C_Table) "exchange" = some (some (.ref f_Table_exchange)))
    (isf_Table_exchange : PySem.W.isFn K (.ref f_Table_exchange) = true)
    (aC_BadRows : PySem.W.nsIn K mainGlobals "BadRows" = some (some (.ref C_BadRows)))
    (ex_BadRows : PySem.W.excIn K C_BadRows [.type "ValueError", .type "Exception", .type "BaseException", .type "object"] "ValueError.__new__" = true)
    (kC_BadRows : PySem.W.keepIn K (.ref C_BadRows) = true)
    (eC_BadRows : PySem.W.subIn K (.ref C_BadRows) (.type "BaseException") = some true)
    (tC_BadRows : PySem.W.typeIn K (.ref C_BadRows) = some (.type "type"))
    (aC_BadRatio : PySem.W.nsIn K mainGlobals "BadRatio" = some (some (.ref C_BadRatio)))
    (xL_BadRatio : K.lookup C_BadRatio = some (excClassObj nm_BadRatio q_BadRatio C_BadRatio N_BadRatio bs_BadRatio [.ref CB_BadRatio, .type "ValueError", .type "Exception", .type "BaseException", .type "object"] true sn_BadRatio sub_BadRatio ab_BadRatio col_BadRatio dd_BadRatio m0_BadRatio m1_BadRatio m2_BadRatio m3_BadRatio m5_BadRatio "ValueError.__new__"))
    (sa_BadRatio : PySem.W.findIn K (.ref C_BadRatio) "__setattr__" = some (some (.builtin "object.__setattr__")))
    (ga_BadRatio : PySem.W.findIn K (.ref C_BadRatio) "__getattribute__" = some (some (.builtin "BaseException.__getattribute__")))
    (gg_BadRatio : PySem.W.findIn K (.ref C_BadRatio) "__getattr__" = some none)
    (nb_BadRatio : PySem.W.findIn K (.ref C_BadRatio) "bottom" = some none)
    (iC_BadRatio : PySem.W.findIn K (.ref C_BadRatio) "__init__" = some (some (.ref fI_BadRatio)))
    (tI_BadRatio : PySem.W.typeIn K (.ref fI_BadRatio) = some (.type "function"))
    (lI_BadRatio : K.lookup fI_BadRatio = some ⟨oc_BadRatio, od_BadRatio, .func (PySem.W.fnOf "__init__" "BadRatio.__init__" (defArgs (inClass (top 3) 0)) (defBody (inClass (top 3) 0)) (defScope (inClass (top 3) 0)) .none kV_BadRatio dc_BadRatio pm_BadRatio an_BadRatio cd_BadRatio ct_BadRatio), sl_BadRatio⟩)
    (cI_BadRatio : PySem.W.codeIn K cd_BadRatio "BadRatio.__init__" = true)
    (kI_BadRatio : PySem.W.keepIn K (.ref fI_BadRatio) = true)
    (kC_BadRatio : PySem.W.keepIn K (.ref C_BadRatio) = true)
    (eC_BadRatio : PySem.W.subIn K (.ref C_BadRatio) (.type "BaseException") = some true)
    (tC_BadRatio : PySem.W.typeIn K (.ref C_BadRatio) = some (.type "type"))
    (hC_BadRatio : PySem.W.hasDictIn K C_BadRatio = true)
    (jC_BadRatio : PySem.W.isClsIn K C_BadRatio = true)
    (sC_BadRatio : PySem.W.subIn K (.ref C_BadRatio) (.ref C_BadRatio) = some true)
    (a_is_whole : PySem.W.nsIn K mainGlobals "is_whole" = some (some (.ref f_is_whole)))
    (l_is_whole : K.lookup f_is_whole = some ⟨oc_is_whole, od_is_whole, .func (PySem.W.fnOf "is_whole" "is_whole" (defArgs s_is_whole) (defBody s_is_whole) (defScope s_is_whole) .none kV_is_whole dc_is_whole pm_is_whole an_is_whole cd_is_whole ct_is_whole), sl_is_whole⟩)
    (c_is_whole : PySem.W.codeIn K cd_is_whole "is_whole" = true)
    (k_is_whole : PySem.W.keepIn K (.ref f_is_whole) = true)
    (a_is_positive : PySem.W.nsIn K mainGlobals "is_positive" = some (some (.ref f_is_positive)))
    (l_is_positive : K.lookup f_is_positive = some ⟨oc_is_positive, od_is_positive, .func (PySem.W.fnOf "is_positive" "is_positive" (defArgs s_is_positive) (defBody s_is_positive) (defScope s_is_positive) .none kV_is_positive dc_is_positive pm_is_positive an_is_positive cd_is_positive ct_is_positive), sl_is_positive⟩)
    (c_is_positive : PySem.W.codeIn K cd_is_positive "is_positive" = true)
    (k_is_positive : PySem.W.keepIn K (.ref f_is_positive) = true)
    (a_is_list : PySem.W.nsIn K mainGlobals "is_list" = some (some (.ref f_is_list)))
    (l_is_list : K.lookup f_is_list = some ⟨oc_is_list, od_is_list, .func (PySem.W.fnOf "is_list" "is_list" (defArgs s_is_list) (defBody s_is_list) (defScope s_is_list) .none kV_is_list dc_is_list pm_is_list an_is_list cd_is_list ct_is_list), sl_is_list⟩)
    (c_is_list : PySem.W.codeIn K cd_is_list "is_list" = true)
    (k_is_list : PySem.W.keepIn K (.ref f_is_list) = true)
    (a_is_row : PySem.W.nsIn K mainGlobals "is_row" = some (some (.ref f_is_row)))
    (l_is_row : K.lookup f_is_row = some ⟨oc_is_row, od_is_row, .func (PySem.W.fnOf "is_row" "is_row" (defArgs s_is_row) (defBody s_is_row) (defScope s_is_row) .none kV_is_row dc_is_row pm_is_row an_is_row cd_is_row ct_is_row), sl_is_row⟩)
    (c_is_row : PySem.W.codeIn K cd_is_row "is_row" = true)
    (k_is_row : PySem.W.keepIn K (.ref f_is_row) = true)
    (a_is_weights : PySem.W.nsIn K mainGlobals "is_weights" = some (some (.ref f_is_weights)))
    (l_is_weights : K.lookup f_is_weights = some ⟨oc_is_weights, od_is_weights, .func (PySem.W.fnOf "is_weights" "is_weights" (defArgs s_is_weights) (defBody s_is_weights) (defScope s_is_weights) .none kV_is_weights dc_is_weights pm_is_weights an_is_weights cd_is_weights ct_is_weights), sl_is_weights⟩)
    (c_is_weights : PySem.W.codeIn K cd_is_weights "is_weights" = true)
    (k_is_weights : PySem.W.keepIn K (.ref f_is_weights) = true)
    (a_ratio : PySem.W.nsIn K mainGlobals "ratio" = some (some (.ref f_ratio)))
    (l_ratio : K.lookup f_ratio = some ⟨oc_ratio, od_ratio, .func (PySem.W.fnOf "ratio" "ratio" (defArgs s_ratio) (defBody s_ratio) (defScope s_ratio) (.ref TT_ratio) kV_ratio dc_ratio pm_ratio an_ratio cd_ratio ct_ratio), sl_ratio⟩)
    (c_ratio : PySem.W.codeIn K cd_ratio "ratio" = true)
    (k_ratio : PySem.W.keepIn K (.ref f_ratio) = true)
    (d_ratio : K.lookup TT_ratio = some ⟨cT_ratio, dT_ratio, .seq #[.int 1 tT_ratio] nT_ratio, sT_ratio⟩)
    (a_lowest : PySem.W.nsIn K mainGlobals "lowest" = some (some (.ref f_lowest)))
    (l_lowest : K.lookup f_lowest = some ⟨oc_lowest, od_lowest, .func (PySem.W.fnOf "lowest" "lowest" (defArgs s_lowest) (defBody s_lowest) (defScope s_lowest) .none kV_lowest dc_lowest pm_lowest an_lowest cd_lowest ct_lowest), sl_lowest⟩)
    (c_lowest : PySem.W.codeIn K cd_lowest "lowest" = true)
    (k_lowest : PySem.W.keepIn K (.ref f_lowest) = true)
    (a_first_line : PySem.W.nsIn K mainGlobals "first_line" = some (some (.ref f_first_line)))
    (l_first_line : K.lookup f_first_line = some ⟨oc_first_line, od_first_line, .func (PySem.W.fnOf "first_line" "first_line" (defArgs s_first_line) (defBody s_first_line) (defScope s_first_line) .none kV_first_line dc_first_line pm_first_line an_first_line cd_first_line ct_first_line), sl_first_line⟩)
    (c_first_line : PySem.W.codeIn K cd_first_line "first_line" = true)
    (k_first_line : PySem.W.keepIn K (.ref f_first_line) = true)
    (a_replaced : PySem.W.nsIn K mainGlobals "replaced" = some (some (.ref f_replaced)))
    (l_replaced : K.lookup f_replaced = some ⟨oc_replaced, od_replaced, .func (PySem.W.fnOf "replaced" "replaced" (defArgs s_replaced) (defBody s_replaced) (defScope s_replaced) .none kV_replaced dc_replaced pm_replaced an_replaced cd_replaced ct_replaced), sl_replaced⟩)
    (c_replaced : PySem.W.codeIn K cd_replaced "replaced" = true)
    (k_replaced : PySem.W.keepIn K (.ref f_replaced) = true)
    (a_check_program : PySem.W.nsIn K mainGlobals "check_program" = some (some (.ref f_check_program)))
    (l_check_program : K.lookup f_check_program = some ⟨oc_check_program, od_check_program, .func (PySem.W.fnOf "check_program" "check_program" (defArgs s_check_program) (defBody s_check_program) (defScope s_check_program) .none kV_check_program dc_check_program pm_check_program an_check_program cd_check_program ct_check_program), sl_check_program⟩)
    (c_check_program : PySem.W.codeIn K cd_check_program "check_program" = true)
    (k_check_program : PySem.W.keepIn K (.ref f_check_program) = true)
    (a_numbers_of : PySem.W.nsIn K mainGlobals "numbers_of" = some (some (.ref f_numbers_of)))
    (l_numbers_of : K.lookup f_numbers_of = some ⟨oc_numbers_of, od_numbers_of, .func (PySem.W.fnOf "numbers_of" "numbers_of" (defArgs s_numbers_of) (defBody s_numbers_of) (defScope s_numbers_of) .none kV_numbers_of dc_numbers_of pm_numbers_of an_numbers_of cd_numbers_of ct_numbers_of), sl_numbers_of⟩)
    (c_numbers_of : PySem.W.codeIn K cd_numbers_of "numbers_of" = true)
    (k_numbers_of : PySem.W.keepIn K (.ref f_numbers_of) = true)
    (a_endless_amounts : PySem.W.nsIn K mainGlobals "endless_amounts" = some (some (.ref f_endless_amounts)))
    (l_endless_amounts : K.lookup f_endless_amounts = some ⟨oc_endless_amounts, od_endless_amounts, .func (PySem.W.fnOf "endless_amounts" "endless_amounts" (defArgs s_endless_amounts) (defBody s_endless_amounts) (defScope s_endless_amounts) .none kV_endless_amounts dc_endless_amounts pm_endless_amounts an_endless_amounts cd_endless_amounts ct_endless_amounts), sl_endless_amounts⟩)
    (c_endless_amounts : PySem.W.codeIn K cd_endless_amounts "endless_amounts" = true)
    (k_endless_amounts : PySem.W.keepIn K (.ref f_endless_amounts) = true)
    (a_best_answer : PySem.W.nsIn K mainGlobals "best_answer" = some (some (.ref f_best_answer)))
    (l_best_answer : K.lookup f_best_answer = some ⟨oc_best_answer, od_best_answer, .func (PySem.W.fnOf "best_answer" "best_answer" (defArgs s_best_answer) (defBody s_best_answer) (defScope s_best_answer) .none kV_best_answer dc_best_answer pm_best_answer an_best_answer cd_best_answer ct_best_answer), sl_best_answer⟩)
    (c_best_answer : PySem.W.codeIn K cd_best_answer "best_answer" = true)
    (k_best_answer : PySem.W.keepIn K (.ref f_best_answer) = true)
    (l_Table___init__ : K.lookup f_Table___init__ = some ⟨oc_Table___init__, od_Table___init__, .func (PySem.W.fnOf "__init__" "Table.__init__" (defArgs s_Table___init__) (defBody s_Table___init__) (defScope s_Table___init__) .none kV_Table___init__ dc_Table___init__ pm_Table___init__ an_Table___init__ cd_Table___init__ ct_Table___init__), sl_Table___init__⟩)
    (c_Table___init__ : PySem.W.codeIn K cd_Table___init__ "Table.__init__" = true)
    (k_Table___init__ : PySem.W.keepIn K (.ref f_Table___init__) = true)
    (l_Table_entering : K.lookup f_Table_entering = some ⟨oc_Table_entering, od_Table_entering, .func (PySem.W.fnOf "entering" "Table.entering" (defArgs s_Table_entering) (defBody s_Table_entering) (defScope s_Table_entering) .none kV_Table_entering dc_Table_entering pm_Table_entering an_Table_entering cd_Table_entering ct_Table_entering), sl_Table_entering⟩)
    (c_Table_entering : PySem.W.codeIn K cd_Table_entering "Table.entering" = true)
    (k_Table_entering : PySem.W.keepIn K (.ref f_Table_entering) = true)
    (l_Table_is_sooner : K.lookup f_Table_is_sooner = some ⟨oc_Table_is_sooner, od_Table_is_sooner, .func (PySem.W.fnOf "is_sooner" "Table.is_sooner" (defArgs s_Table_is_sooner) (defBody s_Table_is_sooner) (defScope s_Table_is_sooner) .none kV_Table_is_sooner dc_Table_is_sooner pm_Table_is_sooner an_Table_is_sooner cd_Table_is_sooner ct_Table_is_sooner), sl_Table_is_sooner⟩)
    (c_Table_is_sooner : PySem.W.codeIn K cd_Table_is_sooner "Table.is_sooner" = true)
    (k_Table_is_sooner : PySem.W.keepIn K (.ref f_Table_is_sooner) = true)
    (l_Table_leaving : K.lookup f_Table_leaving = some ⟨oc_Table_leaving, od_Table_leaving, .func (PySem.W.fnOf "leaving" "Table.leaving" (defArgs s_Table_leaving) (defBody s_Table_leaving) (defScope s_Table_leaving) .none kV_Table_leaving dc_Table_leaving pm_Table_leaving an_Table_leaving cd_Table_leaving ct_Table_leaving), sl_Table_leaving⟩)
    (c_Table_leaving : PySem.W.codeIn K cd_Table_leaving "Table.leaving" = true)
    (k_Table_leaving : PySem.W.keepIn K (.ref f_Table_leaving) = true)
    (l_Table_exchange : K.lookup f_Table_exchange = some ⟨oc_Table_exchange, od_Table_exchange, .func (PySem.W.fnOf "exchange" "Table.exchange" (defArgs s_Table_exchange) (defBody s_Table_exchange) (defScope s_Table_exchange) .none kV_Table_exchange dc_Table_exchange pm_Table_exchange an_Table_exchange cd_Table_exchange ct_Table_exchange), sl_Table_exchange⟩)
    (c_Table_exchange : PySem.W.codeIn K cd_Table_exchange "Table.exchange" = true)
    (k_Table_exchange : PySem.W.keepIn K (.ref f_Table_exchange) = true)
    (a_greatest : PySem.W.nsIn K mainGlobals "greatest" = some (some (.ref f_greatest)))
    (l_greatest : K.lookup f_greatest = some ⟨oc_greatest, od_greatest, .func (PySem.W.fnOf "greatest" "greatest" (defArgs s_greatest) (defBody s_greatest) (defScope s_greatest) .none kV_greatest dc_greatest pm_greatest an_greatest cd_greatest ct_greatest), sl_greatest⟩)
    (c_greatest : PySem.W.codeIn K cd_greatest "greatest" = true)
    (k_greatest : PySem.W.keepIn K (.ref f_greatest) = true)
    (a_is_amounts : PySem.W.nsIn K mainGlobals "is_amounts" = some (some (.ref f_is_amounts)))
    (l_is_amounts : K.lookup f_is_amounts = some ⟨oc_is_amounts, od_is_amounts, .func (PySem.W.fnOf "is_amounts" "is_amounts" (defArgs s_is_amounts) (defBody s_is_amounts) (defScope s_is_amounts) .none kV_is_amounts dc_is_amounts pm_is_amounts an_is_amounts cd_is_amounts ct_is_amounts), sl_is_amounts⟩)
    (c_is_amounts : PySem.W.codeIn K cd_is_amounts "is_amounts" = true)
    (k_is_amounts : PySem.W.keepIn K (.ref f_is_amounts) = true)
    (a_sums : PySem.W.nsIn K mainGlobals "sums" = some (some (.ref f_sums)))
    (l_sums : K.lookup f_sums = some ⟨oc_sums, od_sums, .func (PySem.W.fnOf "sums" "sums" (defArgs s_sums) (defBody s_sums) (defScope s_sums) .none kV_sums dc_sums pm_sums an_sums cd_sums ct_sums), sl_sums⟩)
    (c_sums : PySem.W.codeIn K cd_sums "sums" = true)
    (k_sums : PySem.W.keepIn K (.ref f_sums) = true)
    (a_shows_none : PySem.W.nsIn K mainGlobals "shows_none" = some (some (.ref f_shows_none)))
    (l_shows_none : K.lookup f_shows_none = some ⟨oc_shows_none, od_shows_none, .func (PySem.W.fnOf "shows_none" "shows_none" (defArgs s_shows_none) (defBody s_shows_none) (defScope s_shows_none) .none kV_shows_none dc_shows_none pm_shows_none an_shows_none cd_shows_none ct_shows_none), sl_shows_none⟩)
    (c_shows_none : PySem.W.codeIn K cd_shows_none "shows_none" = true)
    (k_shows_none : PySem.W.keepIn K (.ref f_shows_none) = true)
    (a_weighted : PySem.W.nsIn K mainGlobals "weighted" = some (some (.ref f_weighted)))
    (l_weighted : K.lookup f_weighted = some ⟨oc_weighted, od_weighted, .func (PySem.W.fnOf "weighted" "weighted" (defArgs s_weighted) (defBody s_weighted) (defScope s_weighted) .none kV_weighted dc_weighted pm_weighted an_weighted cd_weighted ct_weighted), sl_weighted⟩)
    (c_weighted : PySem.W.codeIn K cd_weighted "weighted" = true)
    (k_weighted : PySem.W.keepIn K (.ref f_weighted) = true)
    (a_is_attained : PySem.W.nsIn K mainGlobals "is_attained" = some (some (.ref f_is_attained)))
    (l_is_attained : K.lookup f_is_attained = some ⟨oc_is_attained, od_is_attained, .func (PySem.W.fnOf "is_attained" "is_attained" (defArgs s_is_attained) (defBody s_is_attained) (defScope s_is_attained) .none kV_is_attained dc_is_attained pm_is_attained an_is_attained cd_is_attained ct_is_attained), sl_is_attained⟩)
    (c_is_attained : PySem.W.codeIn K cd_is_attained "is_attained" = true)
    (k_is_attained : PySem.W.keepIn K (.ref f_is_attained) = true)
    (a_is_bound : PySem.W.nsIn K mainGlobals "is_bound" = some (some (.ref f_is_bound)))
    (l_is_bound : K.lookup f_is_bound = some ⟨oc_is_bound, od_is_bound, .func (PySem.W.fnOf "is_bound" "is_bound" (defArgs s_is_bound) (defBody s_is_bound) (defScope s_is_bound) .none kV_is_bound dc_is_bound pm_is_bound an_is_bound cd_is_bound ct_is_bound), sl_is_bound⟩)
    (c_is_bound : PySem.W.codeIn K cd_is_bound "is_bound" = true)
    (k_is_bound : PySem.W.keepIn K (.ref f_is_bound) = true)
    (a_is_answer : PySem.W.nsIn K mainGlobals "is_answer" = some (some (.ref f_is_answer)))
    (l_is_answer : K.lookup f_is_answer = some ⟨oc_is_answer, od_is_answer, .func (PySem.W.fnOf "is_answer" "is_answer" (defArgs s_is_answer) (defBody s_is_answer) (defScope s_is_answer) .none kV_is_answer dc_is_answer pm_is_answer an_is_answer cd_is_answer ct_is_answer), sl_is_answer⟩)
    (c_is_answer : PySem.W.codeIn K cd_is_answer "is_answer" = true)
    (k_is_answer : PySem.W.keepIn K (.ref f_is_answer) = true)
    (a__law_pool : PySem.W.nsIn K mainGlobals "_law_pool" = some (some (.ref f__law_pool)))
    (l__law_pool : K.lookup f__law_pool = some ⟨oc__law_pool, od__law_pool, .func (PySem.W.fnOf "_law_pool" "_law_pool" (defArgs s__law_pool) (defBody s__law_pool) (defScope s__law_pool) .none kV__law_pool dc__law_pool pm__law_pool an__law_pool cd__law_pool ct__law_pool), sl__law_pool⟩)
    (c__law_pool : PySem.W.codeIn K cd__law_pool "_law_pool" = true)
    (k__law_pool : PySem.W.keepIn K (.ref f__law_pool) = true)
    (a__law_take : PySem.W.nsIn K mainGlobals "_law_take" = some (some (.ref f__law_take)))
    (l__law_take : K.lookup f__law_take = some ⟨oc__law_take, od__law_take, .func (PySem.W.fnOf "_law_take" "_law_take" (defArgs s__law_take) (defBody s__law_take) (defScope s__law_take) .none kV__law_take dc__law_take pm__law_take an__law_take cd__law_take ct__law_take), sl__law_take⟩)
    (c__law_take : PySem.W.codeIn K cd__law_take "_law_take" = true)
    (k__law_take : PySem.W.keepIn K (.ref f__law_take) = true)
    (a__law_is : PySem.W.nsIn K mainGlobals "_law_is" = some (some (.ref f__law_is)))
    (l__law_is : K.lookup f__law_is = some ⟨oc__law_is, od__law_is, .func (PySem.W.fnOf "_law_is" "_law_is" (defArgs s__law_is) (defBody s__law_is) (defScope s__law_is) .none kV__law_is dc__law_is pm__law_is an__law_is cd__law_is ct__law_is), sl__law_is⟩)
    (c__law_is : PySem.W.codeIn K cd__law_is "_law_is" = true)
    (k__law_is : PySem.W.keepIn K (.ref f__law_is) = true)
    (a__law_divisor : PySem.W.nsIn K mainGlobals "_law_divisor" = some (some (.ref f__law_divisor)))
    (l__law_divisor : K.lookup f__law_divisor = some ⟨oc__law_divisor, od__law_divisor, .func (PySem.W.fnOf "_law_divisor" "_law_divisor" (defArgs s__law_divisor) (defBody s__law_divisor) (defScope s__law_divisor) .none kV__law_divisor dc__law_divisor pm__law_divisor an__law_divisor cd__law_divisor ct__law_divisor), sl__law_divisor⟩)
    (c__law_divisor : PySem.W.codeIn K cd__law_divisor "_law_divisor" = true)
    (k__law_divisor : PySem.W.keepIn K (.ref f__law_divisor) = true)
    (a__law_ratio : PySem.W.nsIn K mainGlobals "_law_ratio" = some (some (.ref f__law_ratio)))
    (l__law_ratio : K.lookup f__law_ratio = some ⟨oc__law_ratio, od__law_ratio, .func (PySem.W.fnOf "_law_ratio" "_law_ratio" (defArgs s__law_ratio) (defBody s__law_ratio) (defScope s__law_ratio) .none kV__law_ratio dc__law_ratio pm__law_ratio an__law_ratio cd__law_ratio ct__law_ratio), sl__law_ratio⟩)
    (c__law_ratio : PySem.W.codeIn K cd__law_ratio "_law_ratio" = true)
    (k__law_ratio : PySem.W.keepIn K (.ref f__law_ratio) = true)
    (a__law_less : PySem.W.nsIn K mainGlobals "_law_less" = some (some (.ref f__law_less)))
    (l__law_less : K.lookup f__law_less = some ⟨oc__law_less, od__law_less, .func (PySem.W.fnOf "_law_less" "_law_less" (defArgs s__law_less) (defBody s__law_less) (defScope s__law_less) .none kV__law_less dc__law_less pm__law_less an__law_less cd__law_less ct__law_less), sl__law_less⟩)
    (c__law_less : PySem.W.codeIn K cd__law_less "_law_less" = true)
    (k__law_less : PySem.W.keepIn K (.ref f__law_less) = true)
    (a__law_weighed : PySem.W.nsIn K mainGlobals "_law_weighed" = some (some (.ref f__law_weighed)))
    (l__law_weighed : K.lookup f__law_weighed = some ⟨oc__law_weighed, od__law_weighed, .func (PySem.W.fnOf "_law_weighed" "_law_weighed" (defArgs s__law_weighed) (defBody s__law_weighed) (defScope s__law_weighed) .none kV__law_weighed dc__law_weighed pm__law_weighed an__law_weighed cd__law_weighed ct__law_weighed), sl__law_weighed⟩)
    (c__law_weighed : PySem.W.codeIn K cd__law_weighed "_law_weighed" = true)
    (k__law_weighed : PySem.W.keepIn K (.ref f__law_weighed) = true)
    (a__law_integers : PySem.W.nsIn K mainGlobals "_law_integers" = some (some (.ref f__law_integers)))
    (l__law_integers : K.lookup f__law_integers = some ⟨oc__law_integers, od__law_integers, .func (PySem.W.fnOf "_law_integers" "_law_integers" (defArgs s__law_integers) (defBody s__law_integers) (defScope s__law_integers) .none kV__law_integers dc__law_integers pm__law_integers an__law_integers cd__law_integers ct__law_integers), sl__law_integers⟩)
    (c__law_integers : PySem.W.codeIn K cd__law_integers "_law_integers" = true)
    (k__law_integers : PySem.W.keepIn K (.ref f__law_integers) = true)
    (a__law_weights : PySem.W.nsIn K mainGlobals "_law_weights" = some (some (.ref f__law_weights)))
    (l__law_weights : K.lookup f__law_weights = some ⟨oc__law_weights, od__law_weights, .func (PySem.W.fnOf "_law_weights" "_law_weights" (defArgs s__law_weights) (defBody s__law_weights) (defScope s__law_weights) .none kV__law_weights dc__law_weights pm__law_weights an__law_weights cd__law_weights ct__law_weights), sl__law_weights⟩)
    (c__law_weights : PySem.W.codeIn K cd__law_weights "_law_weights" = true)
    (k__law_weights : PySem.W.keepIn K (.ref f__law_weights) = true)
    (a__law_goal_rows : PySem.W.nsIn K mainGlobals "_law_goal_rows" = some (some (.ref f__law_goal_rows)))
    (l__law_goal_rows : K.lookup f__law_goal_rows = some ⟨oc__law_goal_rows, od__law_goal_rows, .func (PySem.W.fnOf "_law_goal_rows" "_law_goal_rows" (defArgs s__law_goal_rows) (defBody s__law_goal_rows) (defScope s__law_goal_rows) .none kV__law_goal_rows dc__law_goal_rows pm__law_goal_rows an__law_goal_rows cd__law_goal_rows ct__law_goal_rows), sl__law_goal_rows⟩)
    (c__law_goal_rows : PySem.W.codeIn K cd__law_goal_rows "_law_goal_rows" = true)
    (k__law_goal_rows : PySem.W.keepIn K (.ref f__law_goal_rows) = true)
    (a__law_sums : PySem.W.nsIn K mainGlobals "_law_sums" = some (some (.ref f__law_sums)))
    (l__law_sums : K.lookup f__law_sums = some ⟨oc__law_sums, od__law_sums, .func (PySem.W.fnOf "_law_sums" "_law_sums" (defArgs s__law_sums) (defBody s__law_sums) (defScope s__law_sums) .none kV__law_sums dc__law_sums pm__law_sums an__law_sums cd__law_sums ct__law_sums), sl__law_sums⟩)
    (c__law_sums : PySem.W.codeIn K cd__law_sums "_law_sums" = true)
    (k__law_sums : PySem.W.keepIn K (.ref f__law_sums) = true)
    (a__law_amounts_right : PySem.W.nsIn K mainGlobals "_law_amounts_right" = some (some (.ref f__law_amounts_right)))
    (l__law_amounts_right : K.lookup f__law_amounts_right = some ⟨oc__law_amounts_right, od__law_amounts_right, .func (PySem.W.fnOf "_law_amounts_right" "_law_amounts_right" (defArgs s__law_amounts_right) (defBody s__law_amounts_right) (defScope s__law_amounts_right) .none kV__law_amounts_right dc__law_amounts_right pm__law_amounts_right an__law_amounts_right cd__law_amounts_right ct__law_amounts_right), sl__law_amounts_right⟩)
    (c__law_amounts_right : PySem.W.codeIn K cd__law_amounts_right "_law_amounts_right" = true)
    (k__law_amounts_right : PySem.W.keepIn K (.ref f__law_amounts_right) = true)
    (a__law_none_right : PySem.W.nsIn K mainGlobals "_law_none_right" = some (some (.ref f__law_none_right)))
    (l__law_none_right : K.lookup f__law_none_right = some ⟨oc__law_none_right, od__law_none_right, .func (PySem.W.fnOf "_law_none_right" "_law_none_right" (defArgs s__law_none_right) (defBody s__law_none_right) (defScope s__law_none_right) .none kV__law_none_right dc__law_none_right pm__law_none_right an__law_none_right cd__law_none_right ct__law_none_right), sl__law_none_right⟩)
    (c__law_none_right : PySem.W.codeIn K cd__law_none_right "_law_none_right" = true)
    (k__law_none_right : PySem.W.keepIn K (.ref f__law_none_right) = true)
    (a__law_mean : PySem.W.nsIn K mainGlobals "_law_mean" = some (some (.ref f__law_mean)))
    (l__law_mean : K.lookup f__law_mean = some ⟨oc__law_mean, od__law_mean, .func (PySem.W.fnOf "_law_mean" "_law_mean" (defArgs s__law_mean) (defBody s__law_mean) (defScope s__law_mean) .none kV__law_mean dc__law_mean pm__law_mean an__law_mean cd__law_mean ct__law_mean), sl__law_mean⟩)
    (c__law_mean : PySem.W.codeIn K cd__law_mean "_law_mean" = true)
    (k__law_mean : PySem.W.keepIn K (.ref f__law_mean) = true)
    (a_law : PySem.W.nsIn K mainGlobals "law" = some (some (.ref f_law)))
    (l_law : K.lookup f_law = some ⟨oc_law, od_law, .func (PySem.W.fnOf "law" "law" (defArgs s_law) (defBody s_law) (defScope s_law) .none kV_law dc_law pm_law an_law cd_law ct_law), sl_law⟩)
    (c_law : PySem.W.codeIn K cd_law "law" = true)
    (k_law : PySem.W.keepIn K (.ref f_law) = true)
    : ∃ fd : FuncData, (∀ (s : Shared) (v : Value), BindsTo s fd ⟨[v], []⟩ [("_law_script", v)]) ∧ ∀ base : Heap, K.In base → base.Ns mainGlobals mg → FnOk l.prog w K mg base (L2N.CX l.prog w) 6 fa fd ["_law_script"] (spLaw K 63) := by
  have e := hfa.symm.trans (PySem.W.mg_of X G a_law)
  cases e
  have T : Txt K mg := ⟨(fldT_cons (PySem.W.mg_of X G aC_Table) ⟨pg_Table, hd_Table, po_Table, sa_Table⟩ (nfl_cons nf_unit_Table (nfl_cons nf_free_Table (nfl_cons nf_tied_Table (nfl_cons nf_bound_Table (nfl_cons nf_lines_Table nfl_nil))))) fldT_nil), PySem.W.mg_none_of X G z_tuple, PySem.W.mg_none_of X G z_list, PySem.W.mg_none_of X G z_isinstance, PySem.W.mg_none_of X G z_len, PySem.W.mg_none_of X G z_int, PySem.W.mg_none_of X G z_bool, PySem.W.mg_none_of X G z_all, PySem.W.mg_none_of X G z_max, PySem.W.mg_none_of X G z_range, PySem.W.mg_none_of X G z_zip, PySem.W.mg_none_of X G z_min, PySem.W.mg_none_of X G z_enumerate, PySem.W.mg_of X G z_gcd, PySem.W.mg_none_of X G z_dict, PySem.W.mg_none_of X G z_sum, PySem.W.mg_none_of X G z_any, PySem.W.mg_none_of X G z_abs⟩
  have Z_BadRows : Err0 K mg "BadRows" C_BadRows := ⟨PySem.W.mg_of X G aC_BadRows, ex_BadRows, kC_BadRows, eC_BadRows, tC_BadRows⟩
  have FI_BadRatio := fun_mk (st := inClass (top 3) 0) lI_BadRatio cI_BadRatio kI_BadRatio
  have E_BadRatio : ErrC K mg "BadRatio" "bottom" "bottom" C_BadRatio fI_BadRatio _ := ⟨PySem.W.mg_of X G aC_BadRatio, ⟨⟨_, _, _, _, _, _, _, _, _, _, _, _, _, _, _, xL_BadRatio, by rfl⟩, sa_BadRatio, eC_BadRatio, tC_BadRatio, kC_BadRatio⟩, iC_BadRatio, tI_BadRatio, nb_BadRatio, fun P w base => ok_init1 FI_BadRatio (⟨rfl, rfl, rfl, by decide +kernel, rfl, by decide +kernel, by decide +kernel⟩ : FnScope ["self", "bottom"] ["self", "bottom"] (defScope (inClass (top 3) 0))) (fun Y hN hS => init_BadRatio Y hN hS), FI_BadRatio.binds (ps := ["self", "bottom"]) (fun _ _ _ _ _ _ us hl => ofN2 us hl fun _ _ => rfl), ⟨ga_BadRatio, gg_BadRatio, eC_BadRatio, hC_BadRatio⟩, exm_own eC_BadRatio jC_BadRatio tC_BadRatio sC_BadRatio⟩
  have F_is_whole := fun_mk (st := s_is_whole) l_is_whole c_is_whole k_is_whole
  have b_is_whole := F_is_whole.binds (ps := P_is_whole) fun _ _ _ _ _ _ us hl => ofN1 us hl fun _ => rfl
  have F_is_positive := fun_mk (st := s_is_positive) l_is_positive c_is_positive k_is_positive
  have b_is_positive := F_is_positive.binds (ps := P_is_positive) fun _ _ _ _ _ _ us hl => ofN1 us hl fun _ => rfl
  have F_is_list := fun_mk (st := s_is_list) l_is_list c_is_list k_is_list
  have b_is_list := F_is_list.binds (ps := P_is_list) fun _ _ _ _ _ _ us hl => ofN1 us hl fun _ => rfl
  have F_is_row := fun_mk (st := s_is_row) l_is_row c_is_row k_is_row
  have b_is_row := F_is_row.binds (ps := P_is_row) fun _ _ _ _ _ _ us hl => ofN2 us hl fun _ _ => rfl
  have F_is_weights := fun_mk (st := s_is_weights) l_is_weights c_is_weights k_is_weights
  have b_is_weights := F_is_weights.binds (ps := P_is_weights) fun _ _ _ _ _ _ us hl => ofN2 us hl fun _ _ => rfl
  have F_ratio : FunD K "ratio" "ratio" (defArgs s_ratio) (defBody s_ratio) (defScope s_ratio) [.int 1] [] f_ratio _ := ⟨⟨_, _, _, _, _, _, _, _, _, _, rfl, l_ratio, c_ratio, .inr ⟨by simp, _, _, [.int 1 tT_ratio], _, rfl, d_ratio, rfl, .cons ⟨_, rfl⟩ .nil⟩, .inl rfl⟩, k_ratio⟩
  have b2_ratio := F_ratio.binds1 (ps := P_ratio) 2 1 (by simp) rfl fun T kV doc pm an cdv ct us its h1 h2 => match us, its, h1, h2 with | [_, _], [_], _, _ => ⟨_, rfl, by first | rfl | with_unfolding_all rfl | kernel_rfl⟩
  have F_lowest := fun_mk (st := s_lowest) l_lowest c_lowest k_lowest
  have b_lowest := F_lowest.binds (ps := P_lowest) fun _ _ _ _ _ _ us hl => ofN1 us hl fun _ => rfl
  have F_first_line := fun_mk (st := s_first_line) l_first_line c_first_line k_first_line
  have b_first_line := F_first_line.binds (ps := P_first_line) fun _ _ _ _ _ _ us hl => ofN4 us hl fun _ _ _ _ => rfl
  have F_replaced := fun_mk (st := s_replaced) l_replaced c_replaced k_replaced
  have b_replaced := F_replaced.binds (ps := P_replaced) fun _ _ _ _ _ _ us hl => ofN4 us hl fun _ _ _ _ => rfl
  have F_check_program := fun_mk (st := s_check_program) l_check_program c_check_program k_check_program
  have b_check_program := F_check_program.binds (ps := P_check_program) fun _ _ _ _ _ _ us hl => ofN2 us hl fun _ _ => rfl
  have F_numbers_of := fun_mk (st := s_numbers_of) l_numbers_of c_numbers_of k_numbers_of
  have b_numbers_of := F_numbers_of.binds (ps := P_numbers_of) fun _ _ _ _ _ _ us hl => ofN4 us hl fun _ _ _ _ => rfl
  have F_endless_amounts := fun_mk (st := s_endless_amounts) l_endless_amounts c_endless_amounts k_endless_amounts
  have b_endless_amounts := F_endless_amounts.binds (ps := P_endless_amounts) fun _ _ _ _ _ _ us hl => ofN3 us hl fun _ _ _ => rfl
  have F_best_answer := fun_mk (st := s_best_answer) l_best_answer c_best_answer k_best_answer
  have b_best_answer := F_best_answer.binds (ps := P_best_answer) fun _ _ _ _ _ _ us hl => ofN3 us hl fun _ _ _ => rfl
  have F_Table___init__ := fun_mk (st := s_Table___init__) l_Table___init__ c_Table___init__ k_Table___init__
  have b_Table___init__ := F_Table___init__.binds (ps := P_Table___init__) fun _ _ _ _ _ _ us hl => ofN3 us hl fun _ _ _ => rfl
  have F_Table_entering := fun_mk (st := s_Table_entering) l_Table_entering c_Table_entering k_Table_entering
  have b_Table_entering := F_Table_entering.binds (ps := P_Table_entering) fun _ _ _ _ _ _ us hl => ofN1 us hl fun _ => rfl
  have F_Table_is_sooner := fun_mk (st := s_Table_is_sooner) l_Table_is_sooner c_Table_is_sooner k_Table_is_sooner
  have b_Table_is_sooner := F_Table_is_sooner.binds (ps := P_Table_is_sooner) fun _ _ _ _ _ _ us hl => ofN4 us hl fun _ _ _ _ => rfl
  have F_Table_leaving := fun_mk (st := s_Table_leaving) l_Table_leaving c_Table_leaving k_Table_leaving
  have b_Table_leaving := F_Table_leaving.binds (ps := P_Table_leaving) fun _ _ _ _ _ _ us hl => ofN2 us hl fun _ _ => rfl
  have F_Table_exchange := fun_mk (st := s_Table_exchange) l_Table_exchange c_Table_exchange k_Table_exchange
  have b_Table_exchange := F_Table_exchange.binds (ps := P_Table_exchange) fun _ _ _ _ _ _ us hl => ofN3 us hl fun _ _ _ => rfl
  have F_greatest := fun_mk (st := s_greatest) l_greatest c_greatest k_greatest
  have b_greatest := F_greatest.binds (ps := P_greatest) fun _ _ _ _ _ _ us hl => ofN2 us hl fun _ _ => rfl
  have F_is_amounts := fun_mk (st := s_is_amounts) l_is_amounts c_is_amounts k_is_amounts
  have b_is_amounts := F_is_amounts.binds (ps := P_is_amounts) fun _ _ _ _ _ _ us hl => ofN2 us hl fun _ _ => rfl
  have F_sums := fun_mk (st := s_sums) l_sums c_sums k_sums
  have b_sums := F_sums.binds (ps := P_sums) fun _ _ _ _ _ _ us hl => ofN3 us hl fun _ _ _ => rfl
  have F_shows_none := fun_mk (st := s_shows_none) l_shows_none c_shows_none k_shows_none
  have b_shows_none := F_shows_none.binds (ps := P_shows_none) fun _ _ _ _ _ _ us hl => ofN3 us hl fun _ _ _ => rfl
  have F_weighted := fun_mk (st := s_weighted) l_weighted c_weighted k_weighted
  have b_weighted := F_weighted.binds (ps := P_weighted) fun _ _ _ _ _ _ us hl => ofN2 us hl fun _ _ => rfl
  have F_is_attained := fun_mk (st := s_is_attained) l_is_attained c_is_attained k_is_attained
  have b_is_attained := F_is_attained.binds (ps := P_is_attained) fun _ _ _ _ _ _ us hl => ofN4 us hl fun _ _ _ _ => rfl
  have F_is_bound := fun_mk (st := s_is_bound) l_is_bound c_is_bound k_is_bound
  have b_is_bound := F_is_bound.binds (ps := P_is_bound) fun _ _ _ _ _ _ us hl => ofN5 us hl fun _ _ _ _ _ => rfl
  have F_is_answer := fun_mk (st := s_is_answer) l_is_answer c_is_answer k_is_answer
  have b_is_answer := F_is_answer.binds (ps := P_is_answer) fun _ _ _ _ _ _ us hl => ofN3 us hl fun _ _ _ => rfl
  have F__law_pool := fun_mk (st := s__law_pool) l__law_pool c__law_pool k__law_pool
  have b__law_pool := F__law_pool.binds (ps := P__law_pool) fun _ _ _ _ _ _ us hl => ofN1 us hl fun _ => rfl
  have F__law_take := fun_mk (st := s__law_take) l__law_take c__law_take k__law_take
  have b__law_take := F__law_take.binds (ps := P__law_take) fun _ _ _ _ _ _ us hl => ofN2 us hl fun _ _ => rfl
  have F__law_is := fun_mk (st := s__law_is) l__law_is c__law_is k__law_is
  have b__law_is := F__law_is.binds (ps := P__law_is) fun _ _ _ _ _ _ us hl => ofN2 us hl fun _ _ => rfl
  have F__law_divisor := fun_mk (st := s__law_divisor) l__law_divisor c__law_divisor k__law_divisor
  have b__law_divisor := F__law_divisor.binds (ps := P__law_divisor) fun _ _ _ _ _ _ us hl => ofN1 us hl fun _ => rfl
  have F__law_ratio := fun_mk (st := s__law_ratio) l__law_ratio c__law_ratio k__law_ratio
  have b__law_ratio := F__law_ratio.binds (ps := P__law_ratio) fun _ _ _ _ _ _ us hl => ofN2 us hl fun _ _ => rfl
  have F__law_less := fun_mk (st := s__law_less) l__law_less c__law_less k__law_less
  have b__law_less := F__law_less.binds (ps := P__law_less) fun _ _ _ _ _ _ us hl => ofN2 us hl fun _ _ => rfl
  have F__law_weighed := fun_mk (st := s__law_weighed) l__law_weighed c__law_weighed k__law_weighed
  have b__law_weighed := F__law_weighed.binds (ps := P__law_weighed) fun _ _ _ _ _ _ us hl => ofN2 us hl fun _ _ => rfl
  have F__law_integers := fun_mk (st := s__law_integers) l__law_integers c__law_integers k__law_integers
  have b__law_integers := F__law_integers.binds (ps := P__law_integers) fun _ _ _ _ _ _ us hl => ofN3 us hl fun _ _ _ => rfl
  have F__law_weights := fun_mk (st := s__law_weights) l__law_weights c__law_weights k__law_weights
  have b__law_weights := F__law_weights.binds (ps := P__law_weights) fun _ _ _ _ _ _ us hl => ofN3 us hl fun _ _ _ => rfl
  have F__law_goal_rows := fun_mk (st := s__law_goal_rows) l__law_goal_rows c__law_goal_rows k__law_goal_rows
  have b__law_goal_rows := F__law_goal_rows.binds (ps := P__law_goal_rows) fun _ _ _ _ _ _ us hl => ofN3 us hl fun _ _ _ => rfl
  have F__law_sums := fun_mk (st := s__law_sums) l__law_sums c__law_sums k__law_sums
  have b__law_sums := F__law_sums.binds (ps := P__law_sums) fun _ _ _ _ _ _ us hl => ofN3 us hl fun _ _ _ => rfl
  have F__law_amounts_right := fun_mk (st := s__law_amounts_right) l__law_amounts_right c__law_amounts_right k__law_amounts_right
  have b__law_amounts_right := F__law_amounts_right.binds (ps := P__law_amounts_right) fun _ _ _ _ _ _ us hl => ofN2 us hl fun _ _ => rfl
  have F__law_none_right := fun_mk (st := s__law_none_right) l__law_none_right c__law_none_right k__law_none_right
  have b__law_none_right := F__law_none_right.binds (ps := P__law_none_right) fun _ _ _ _ _ _ us hl => ofN3 us hl fun _ _ _ => rfl
  have F__law_mean := fun_mk (st := s__law_mean) l__law_mean c__law_mean k__law_mean
  have b__law_mean := F__law_mean.binds (ps := P__law_mean) fun _ _ _ _ _ _ us hl => ofN2 us hl fun _ _ => rfl
  have F_law := fun_mk (st := s_law) l_law c_law k_law
  refine ⟨PySem.W.fnOf "law" "law" (defArgs s_law) (defBody s_law) (defScope s_law) .none kV_law dc_law pm_law an_law cd_law ct_law, fun s v => .of_eq rfl, fun base _ _ => ?_⟩
  have c_is_whole : Callee l.prog w K mg base 1 "is_whole" P_is_whole m_is_whole f_is_whole _ := ⟨ok_is_whole T F_is_whole, PySem.W.mg_of X G a_is_whole, k_is_whole⟩
  have c_is_positive : Callee l.prog w K mg base 2 "is_positive" P_is_positive m_is_positive f_is_positive _ := ⟨ok_is_positive T c_is_whole b_is_whole F_is_positive, PySem.W.mg_of X G a_is_positive, k_is_positive⟩
  have c_is_list : Callee l.prog w K mg base 1 "is_list" P_is_list m_is_list f_is_list _ := ⟨ok_is_list T F_is_list, PySem.W.mg_of X G a_is_list, k_is_list⟩
  have c_is_row : Callee l.prog w K mg base 2 "is_row" P_is_row m_is_row f_is_row _ := ⟨ok_is_row T c_is_list b_is_list c_is_whole b_is_whole F_is_row, PySem.W.mg_of X G a_is_row, k_is_row⟩
  have c_is_weights : Callee l.prog w K mg base 3 "is_weights" P_is_weights m_is_weights f_is_weights _ := ⟨ok_is_weights T c_is_row b_is_row F_is_weights, PySem.W.mg_of X G a_is_weights, k_is_weights⟩
  have c_ratio : Callee l.prog w K mg base 3 "ratio" P_ratio m_ratio f_ratio _ := ⟨ok_ratio T E_BadRatio F_ratio, PySem.W.mg_of X G a_ratio, k_ratio⟩
  have c_lowest : Callee l.prog w K mg base 1 "lowest" P_lowest m_lowest f_lowest _ := ⟨ok_lowest T F_lowest, PySem.W.mg_of X G a_lowest, k_lowest⟩
  have c_first_line : Callee l.prog w K mg base 1 "first_line" P_first_line m_first_line f_first_line _ := ⟨ok_first_line T F_first_line, PySem.W.mg_of X G a_first_line, k_first_line⟩
  have c_replaced : Callee l.prog w K mg base 1 "replaced" P_replaced m_replaced f_replaced _ := ⟨ok_replaced T F_replaced, PySem.W.mg_of X G a_replaced, k_replaced⟩
  have c_check_program : Callee l.prog w K mg base 3 "check_program" P_check_program m_check_program f_check_program _ := ⟨ok_check_program T c_is_list b_is_list c_is_row b_is_row Z_BadRows F_check_program, PySem.W.mg_of X G a_check_program, k_check_program⟩
  have c_numbers_of : Callee l.prog w K mg base 1 "numbers_of" P_numbers_of m_numbers_of f_numbers_of _ := ⟨ok_numbers_of T F_numbers_of, PySem.W.mg_of X G a_numbers_of, k_numbers_of⟩
  have c_endless_amounts : Callee l.prog w K mg base 2 "endless_amounts" P_endless_amounts m_endless_amounts f_endless_amounts _ := ⟨ok_endless_amounts T c_lowest b_lowest c_numbers_of b_numbers_of F_endless_amounts, PySem.W.mg_of X G a_endless_amounts, k_endless_amounts⟩
  have c_best_answer : Callee l.prog w K mg base 4 "best_answer" P_best_answer m_best_answer f_best_answer _ := ⟨ok_best_answer T c_lowest b_lowest c_numbers_of b_numbers_of c_ratio b2_ratio F_best_answer, PySem.W.mg_of X G a_best_answer, k_best_answer⟩
  have mk_Table : Maker l.prog w K mg base 2 "Table" P_Table___init__ m_Table___init__ C_Table f_Table___init__ _ := ⟨ok_Table___init__ T c_first_line b_first_line F_Table___init__, ⟨mk_Table, ini_Table, fn_Table, kC_Table⟩, PySem.W.mg_of X G aC_Table, b_Table___init__⟩
  have om_Table_entering : OwnM l.prog w K mg base 1 "Table" "entering" P_Table_entering m_Table_entering C_Table f_Table_entering _ := ⟨ok_Table_entering T F_Table_entering, PySem.W.mg_of X G aC_Table, ⟨pg_Table, hd_Table, po_Table, sa_Table⟩, ⟨mt_Table_entering, isf_Table_entering, k_Table_entering⟩, b_Table_entering⟩
  have om_Table_is_sooner : OwnM l.prog w K mg base 1 "Table" "is_sooner" P_Table_is_sooner m_Table_is_sooner C_Table f_Table_is_sooner _ := ⟨ok_Table_is_sooner T F_Table_is_sooner, PySem.W.mg_of X G aC_Table, ⟨pg_Table, hd_Table, po_Table, sa_Table⟩, ⟨mt_Table_is_sooner, isf_Table_is_sooner, k_Table_is_sooner⟩, b_Table_is_sooner⟩
  have om_Table_leaving : OwnM l.prog w K mg base 2 "Table" "leaving" P_Table_leaving m_Table_leaving C_Table f_Table_leaving _ := ⟨ok_Table_leaving T om_Table_is_sooner F_Table_leaving, PySem.W.mg_of X G aC_Table, ⟨pg_Table, hd_Table, po_Table, sa_Table⟩, ⟨mt_Table_leaving, isf_Table_leaving, k_Table_leaving⟩, b_Table_leaving⟩
  have om_Table_exchange : OwnM l.prog w K mg base 2 "Table" "exchange" P_Table_exchange m_Table_exchange C_Table f_Table_exchange _ := ⟨ok_Table_exchange T c_replaced b_replaced F_Table_exchange, PySem.W.mg_of X G aC_Table, ⟨pg_Table, hd_Table, po_Table, sa_Table⟩, ⟨mt_Table_exchange, isf_Table_exchange, k_Table_exchange⟩, b_Table_exchange⟩
  have c_greatest : Callee l.prog w K mg base 5 "greatest" P_greatest m_greatest f_greatest _ := ⟨ok_greatest T c_check_program b_check_program c_endless_amounts b_endless_amounts c_best_answer b_best_answer mk_Table om_Table_entering om_Table_leaving om_Table_exchange F_greatest, PySem.W.mg_of X G a_greatest, k_greatest⟩
  have c_is_amounts : Callee l.prog w K mg base 3 "is_amounts" P_is_amounts m_is_amounts f_is_amounts _ := ⟨ok_is_amounts T c_is_row b_is_row F_is_amounts, PySem.W.mg_of X G a_is_amounts, k_is_amounts⟩
  have c_sums : Callee l.prog w K mg base 1 "sums" P_sums m_sums f_sums _ := ⟨ok_sums T F_sums, PySem.W.mg_of X G a_sums, k_sums⟩
  have c_shows_none : Callee l.prog w K mg base 4 "shows_none" P_shows_none m_shows_none f_shows_none _ := ⟨ok_shows_none T c_is_amounts b_is_amounts c_sums b_sums F_shows_none, PySem.W.mg_of X G a_shows_none, k_shows_none⟩
  have c_weighted : Callee l.prog w K mg base 1 "weighted" P_weighted m_weighted f_weighted _ := ⟨ok_weighted T F_weighted, PySem.W.mg_of X G a_weighted, k_weighted⟩
  have c_is_attained : Callee l.prog w K mg base 4 "is_attained" P_is_attained m_is_attained f_is_attained _ := ⟨ok_is_attained T c_is_weights b_is_weights c_weighted b_weighted c_ratio b2_ratio F_is_attained, PySem.W.mg_of X G a_is_attained, k_is_attained⟩
  have c_is_bound : Callee l.prog w K mg base 4 "is_bound" P_is_bound m_is_bound f_is_bound _ := ⟨ok_is_bound T c_is_positive b_is_positive c_is_amounts b_is_amounts c_sums b_sums F_is_bound, PySem.W.mg_of X G a_is_bound, k_is_bound⟩
  have c_is_answer : Callee l.prog w K mg base 5 "is_answer" P_is_answer m_is_answer f_is_answer _ := ⟨ok_is_answer T c_check_program b_check_program c_shows_none b_shows_none c_is_attained b_is_attained c_is_bound b_is_bound F_is_answer, PySem.W.mg_of X G a_is_answer, k_is_answer⟩
  have c__law_pool : Callee l.prog w K mg base 1 "_law_pool" P__law_pool m__law_pool f__law_pool _ := ⟨ok__law_pool T F__law_pool, PySem.W.mg_of X G a__law_pool, k__law_pool⟩
  have c__law_take : Callee l.prog w K mg base 1 "_law_take" P__law_take m__law_take f__law_take _ := ⟨ok__law_take T F__law_take, PySem.W.mg_of X G a__law_take, k__law_take⟩
  have c__law_is : Callee l.prog w K mg base 1 "_law_is" P__law_is m__law_is f__law_is _ := ⟨ok__law_is T F__law_is, PySem.W.mg_of X G a__law_is, k__law_is⟩
  have c__law_divisor : Callee l.prog w K mg base 1 "_law_divisor" P__law_divisor m__law_divisor f__law_divisor _ := ⟨ok__law_divisor T F__law_divisor, PySem.W.mg_of X G a__law_divisor, k__law_divisor⟩
  have c__law_ratio : Callee l.prog w K mg base 2 "_law_ratio" P__law_ratio m__law_ratio f__law_ratio _ := ⟨ok__law_ratio T c__law_divisor b__law_divisor F__law_ratio, PySem.W.mg_of X G a__law_ratio, k__law_ratio⟩
  have c__law_less : Callee l.prog w K mg base 1 "_law_less" P__law_less m__law_less f__law_less _ := ⟨ok__law_less T F__law_less, PySem.W.mg_of X G a__law_less, k__law_less⟩
  have c__law_weighed : Callee l.prog w K mg base 1 "_law_weighed" P__law_weighed m__law_weighed f__law_weighed _ := ⟨ok__law_weighed T F__law_weighed, PySem.W.mg_of X G a__law_weighed, k__law_weighed⟩
  have c__law_integers : Callee l.prog w K mg base 2 "_law_integers" P__law_integers m__law_integers f__law_integers _ := ⟨ok__law_integers T c__law_take b__law_take F__law_integers, PySem.W.mg_of X G a__law_integers, k__law_integers⟩
  have c__law_weights : Callee l.prog w K mg base 2 "_law_weights" P__law_weights m__law_weights f__law_weights _ := ⟨ok__law_weights T c__law_take b__law_take F__law_weights, PySem.W.mg_of X G a__law_weights, k__law_weights⟩
  have c__law_goal_rows : Callee l.prog w K mg base 3 "_law_goal_rows" P__law_goal_rows m__law_goal_rows f__law_goal_rows _ := ⟨ok__law_goal_rows T c__law_take b__law_take c__law_integers b__law_integers F__law_goal_rows, PySem.W.mg_of X G a__law_goal_rows, k__law_goal_rows⟩
  have c__law_sums : Callee l.prog w K mg base 1 "_law_sums" P__law_sums m__law_sums f__law_sums _ := ⟨ok__law_sums T F__law_sums, PySem.W.mg_of X G a__law_sums, k__law_sums⟩
  have c__law_amounts_right : Callee l.prog w K mg base 1 "_law_amounts_right" P__law_amounts_right m__law_amounts_right f__law_amounts_right _ := ⟨ok__law_amounts_right T F__law_amounts_right, PySem.W.mg_of X G a__law_amounts_right, k__law_amounts_right⟩
  have c__law_none_right : Callee l.prog w K mg base 2 "_law_none_right" P__law_none_right m__law_none_right f__law_none_right _ := ⟨ok__law_none_right T c__law_amounts_right b__law_amounts_right c__law_sums b__law_sums F__law_none_right, PySem.W.mg_of X G a__law_none_right, k__law_none_right⟩
  have c__law_mean : Callee l.prog w K mg base 3 "_law_mean" P__law_mean m__law_mean f__law_mean _ := ⟨ok__law_mean T c__law_ratio b__law_ratio c__law_weighed b__law_weighed F__law_mean, PySem.W.mg_of X G a__law_mean, k__law_mean⟩
  exact law_imp (ok_law T c_greatest b_greatest c__law_none_right b__law_none_right c__law_is b__law_is c_is_answer b_is_answer c__law_sums b__law_sums c__law_weights b__law_weights c__law_ratio b__law_ratio c__law_take b__law_take c__law_less b__law_less c__law_mean b__law_mean c__law_weighed b__law_weighed c__law_goal_rows b__law_goal_rows c__law_pool b__law_pool F_law) main
theorem walk {l : PySem.W.OpenLaw} {q : Program} {loose : List Str} {XP : (Str → Option Value) → Heap → Prop} {YP : World → Heap → Prop} {d : DefRec} {K : Params → PySem.W.Frag} (hn : l.most = some 63) (hdf : d.params.defaults = [])
    (hY : ∀ (w : World) (h : Heap), YP w h → (K w.params).In h)
    (F : ∀ (w : World) (mg : Str → Option Value) (fa : Addr) (h : Heap), (K w.params).In h → h.Ns mainGlobals mg → mg d.name = some (.ref fa) →
      ∃ fd : FuncData, (∀ (s : Shared) (u : Value), BindsTo s fd ⟨[u], []⟩ [("_law_script", u)]) ∧ ∀ base : Heap, (K w.params).In base → base.Ns mainGlobals mg → FnOk l.prog w (K w.params) mg base (L2N.CX l.prog w) 6 fa fd ["_law_script"] (spLaw (K w.params) 63)) :
    PySem.W.WalkO q loose XP YP l.row.toRowW d [] (fun f vs => PySem.call f vs) :=
  L2.walk_of (n := 63) (k := 6) (x := "_law_script") (CX := fun w => L2N.CX l.prog w) (sp := fun w => spLaw (K w.params) 63) hn (by decide) hdf ⟨rfl, by decide, by decide⟩ hY F
    (fun _ _ a ns hl _ hS => ⟨a, ns, rfl, hS, hl, fun _ => rfl⟩) fun _ _ _ _ _ h => by
      obtain ⟨_, _, _, _, _, _, _, _, _, _, _, _, z⟩ := h
      exact z.elim
end Lw
open PySem PySem.W PyProof.Rows
set_option maxRecDepth 100000 in
set_option maxHeartbeats 0 in
theorem PySem.Challenge.cw_everyhint_k52_allowed_mixes_bound_holds : PySem.Challenge.rw_everyhint_k52_allowed_mixes_bound.Holds := by
   w_on; o_law; k_head; (case hw => w_witness2)
   k_fill
   refine Lw.walk (l := PySem.Challenge.rw_everyhint_k52_allowed_mixes_bound) rfl rfl (fun w h Y => PySem.W.kIn_of Y) ?F
   case F =>
    intro w mg fa h KX G hmg
    refine' Lw.all_mk KX G hmg ?z_tuple ?z_list ?z_isinstance ?z_len ?z_int ?z_bool ?z_all ?z_max ?z_range ?z_zip ?z_min ?z_enumerate ?z_gcd ?z_dict ?z_sum ?z_any ?z_abs ?aC_Table ?pg_Table ?hd_Table ?po_Table ?sa_Table ?nf_lines_Table ?nf_bound_Table ?nf_tied_Table ?nf_free_Table ?nf_unit_Table ?mk_Table ?ini_Table ?kC_Table ?fn_Table ?mt_Table_is_sooner ?isf_Table_is_sooner ?mt_Table_entering ?isf_Table_entering ?mt_Table_leaving ?isf_Table_leaving ?mt_Table_exchange ?isf_Table_exchange ?aC_BadRows ?ex_BadRows ?kC_BadRows ?eC_BadRows ?tC_BadRows ?aC_BadRatio ?xL_BadRatio ?sa_BadRatio ?ga_BadRatio ?gg_BadRatio ?nb_BadRatio ?iC_BadRatio ?tI_BadRatio ?lI_BadRatio ?cI_BadRatio ?kI_BadRatio ?kC_BadRatio ?eC_BadRatio ?tC_BadRatio ?hC_BadRatio ?jC_BadRatio ?sC_BadRatio ?a_is_whole ?l_is_whole ?c_is_whole ?k_is_whole ?a_is_positive ?l_is_positive ?c_is_positive ?k_is_positive ?a_is_list ?l_is_list ?c_is_list ?k_is_list ?a_is_row ?l_is_row ?c_is_row ?k_is_row ?a_is_weights ?l_is_weights ?c_is_weights ?k_is_weights ?a_ratio ?l_ratio ?c_ratio ?k_ratio ?d_ratio ?a_lowest ?l_lowest ?c_lowest ?k_lowest ?a_first_line ?l_first_line ?c_first_line ?k_first_line ?a_replaced ?l_replaced ?c_replaced ?k_replaced ?a_check_program ?l_check_program ?c_check_program ?k_check_program ?a_numbers_of ?l_numbers_of ?c_numbers_of ?k_numbers_of ?a_endless_amounts ?l_endless_amounts ?c_endless_amounts ?k_endless_amounts ?a_best_answer ?l_best_answer ?c_best_answer ?k_best_answer ?l_Table___init__ ?c_Table___init__ ?k_Table___init__ ?l_Table_entering ?c_Table_entering ?k_Table_entering ?l_Table_is_sooner ?c_Table_is_sooner ?k_Table_is_sooner ?l_Table_leaving ?c_Table_leaving ?k_Table_leaving ?l_Table_exchange ?c_Table_exchange ?k_Table_exchange ?a_greatest ?l_greatest ?c_greatest ?k_greatest ?a_is_amounts ?l_is_amounts ?c_is_amounts ?k_is_amounts ?a_sums ?l_sums ?c_sums ?k_sums ?a_shows_none ?l_shows_none ?c_shows_none ?k_shows_none ?a_weighted ?l_weighted ?c_weighted ?k_weighted ?a_is_attained ?l_is_attained ?c_is_attained ?k_is_attained ?a_is_bound ?l_is_bound ?c_is_bound ?k_is_bound ?a_is_answer ?l_is_answer ?c_is_answer ?k_is_answer ?a__law_pool ?l__law_pool ?c__law_pool ?k__law_pool ?a__law_take ?l__law_take ?c__law_take ?k__law_take ?a__law_is ?l__law_is ?c__law_is ?k__law_is ?a__law_divisor ?l__law_divisor ?c__law_divisor ?k__law_divisor ?a__law_ratio ?l__law_ratio ?c__law_ratio ?k__law_ratio ?a__law_less ?l__law_less ?c__law_less ?k__law_less ?a__law_weighed ?l__law_weighed ?c__law_weighed ?k__law_weighed ?a__law_integers ?l__law_integers ?c__law_integers ?k__law_integers ?a__law_weights ?l__law_weights ?c__law_weights ?k__law_weights ?a__law_goal_rows ?l__law_goal_rows ?c__law_goal_rows ?k__law_goal_rows ?a__law_sums ?l__law_sums ?c__law_sums ?k__law_sums ?a__law_amounts_right ?l__law_amounts_right ?c__law_amounts_right ?k__law_amounts_right ?a__law_none_right ?l__law_none_right ?c__law_none_right ?k__law_none_right ?a__law_mean ?l__law_mean ?c__law_mean ?k__law_mean ?a_law ?l_law ?c_law ?k_law
    (case z_tuple => k_is)
    (case z_list => k_is)
    (case z_isinstance => k_is)
    (case z_len => k_is)
    (case z_int => k_is)
    (case z_bool => k_is)
    (case z_all => k_is)
    (case z_max => k_is)
    (case z_range => k_is)
    (case z_zip => k_is)
    (case z_min => k_is)
    (case z_enumerate => k_is)
    (case z_gcd => k_is)
    (case z_dict => k_is)
    (case z_sum => k_is)
    (case z_any => k_is)
    (case z_abs => k_is)
    (case aC_Table => k_is)
    (case pg_Table => k_is)
    (case hd_Table => k_is)
    (case po_Table => k_is)
    (case sa_Table => k_is)
    (case nf_lines_Table => k_is)
    (case nf_bound_Table => k_is)
    (case nf_tied_Table => k_is)
    (case nf_free_Table => k_is)
    (case nf_unit_Table => k_is)
    (case mk_Table => k_is)
    (case ini_Table => k_is)
    (case kC_Table => k_is)
    (case fn_Table => k_is)
    (case mt_Table_is_sooner => k_is)
    (case isf_Table_is_sooner => k_is)
    (case mt_Table_entering => k_is)
    (case isf_Table_entering => k_is)
    (case mt_Table_leaving => k_is)
    (case isf_Table_leaving => k_is)
    (case mt_Table_exchange => k_is)
    (case isf_Table_exchange => k_is)
    (case aC_BadRows => k_is)
    (case ex_BadRows => k_exc)
    (case kC_BadRows => k_is)
    (case eC_BadRows => k_is)
    (case tC_BadRows => k_is)
    (case aC_BadRatio => k_is)
    (case xL_BadRatio => k_is)
    (case sa_BadRatio => k_is)
    (case ga_BadRatio => k_is)
    (case gg_BadRatio => k_is)
    (case nb_BadRatio => k_is)
    (case iC_BadRatio => k_is)
    (case tI_BadRatio => k_is)
    (case lI_BadRatio => k_is)
    (case cI_BadRatio => k_is)
    (case kI_BadRatio => k_is)
    (case kC_BadRatio => k_is)
    (case eC_BadRatio => k_is)
    (case tC_BadRatio => k_is)
    (case hC_BadRatio => k_is)
    (case jC_BadRatio => k_is)
    (case sC_BadRatio => first | rfl | k_is)
    (case a_is_whole => k_is)
    (case l_is_whole => k_is)
    (case c_is_whole => k_is)
    (case k_is_whole => k_is)
    (case a_is_positive => k_is)
    (case l_is_positive => k_is)
    (case c_is_positive => k_is)
    (case k_is_positive => k_is)
    (case a_is_list => k_is)
    (case l_is_list => k_is)
    (case c_is_list => k_is)
    (case k_is_list => k_is)
    (case a_is_row => k_is)
    (case l_is_row => k_is)
    (case c_is_row => k_is)
    (case k_is_row => k_is)
    (case a_is_weights => k_is)
    (case l_is_weights => k_is)
    (case c_is_weights => k_is)
    (case k_is_weights => k_is)
    (case a_ratio => k_is)
    (case l_ratio => k_is)
    (case c_ratio => k_is)
    (case k_ratio => k_is)
    (case d_ratio => k_is)
    (case a_lowest => k_is)
    (case l_lowest => k_is)
    (case c_lowest => k_is)
    (case k_lowest => k_is)
    (case a_first_line => k_is)
    (case l_first_line => k_is)
    (case c_first_line => k_is)
    (case k_first_line => k_is)
    (case a_replaced => k_is)
    (case l_replaced => k_is)
    (case c_replaced => k_is)
    (case k_replaced => k_is)
    (case a_check_program => k_is)
    (case l_check_program => k_is)
    (case c_check_program => k_is)
    (case k_check_program => k_is)
    (case a_numbers_of => k_is)
    (case l_numbers_of => k_is)
    (case c_numbers_of => k_is)
    (case k_numbers_of => k_is)
    (case a_endless_amounts => k_is)
    (case l_endless_amounts => k_is)
    (case c_endless_amounts => k_is)
    (case k_endless_amounts => k_is)
    (case a_best_answer => k_is)
    (case l_best_answer => k_is)
    (case c_best_answer => k_is)
    (case k_best_answer => k_is)
    (case l_Table___init__ => k_is)
    (case c_Table___init__ => k_is)
    (case k_Table___init__ => k_is)
    (case l_Table_entering => k_is)
    (case c_Table_entering => k_is)
    (case k_Table_entering => k_is)
    (case l_Table_is_sooner => k_is)
    (case c_Table_is_sooner => k_is)
    (case k_Table_is_sooner => k_is)
    (case l_Table_leaving => k_is)
    (case c_Table_leaving => k_is)
    (case k_Table_leaving => k_is)
    (case l_Table_exchange => k_is)
    (case c_Table_exchange => k_is)
    (case k_Table_exchange => k_is)
    (case a_greatest => k_is)
    (case l_greatest => k_is)
    (case c_greatest => k_is)
    (case k_greatest => k_is)
    (case a_is_amounts => k_is)
    (case l_is_amounts => k_is)
    (case c_is_amounts => k_is)
    (case k_is_amounts => k_is)
    (case a_sums => k_is)
    (case l_sums => k_is)
    (case c_sums => k_is)
    (case k_sums => k_is)
    (case a_shows_none => k_is)
    (case l_shows_none => k_is)
    (case c_shows_none => k_is)
    (case k_shows_none => k_is)
    (case a_weighted => k_is)
    (case l_weighted => k_is)
    (case c_weighted => k_is)
    (case k_weighted => k_is)
    (case a_is_attained => k_is)
    (case l_is_attained => k_is)
    (case c_is_attained => k_is)
    (case k_is_attained => k_is)
    (case a_is_bound => k_is)
    (case l_is_bound => k_is)
    (case c_is_bound => k_is)
    (case k_is_bound => k_is)
    (case a_is_answer => k_is)
    (case l_is_answer => k_is)
    (case c_is_answer => k_is)
    (case k_is_answer => k_is)
    (case a__law_pool => k_is)
    (case l__law_pool => k_is)
    (case c__law_pool => k_is)
    (case k__law_pool => k_is)
    (case a__law_take => k_is)
    (case l__law_take => k_is)
    (case c__law_take => k_is)
    (case k__law_take => k_is)
    (case a__law_is => k_is)
    (case l__law_is => k_is)
    (case c__law_is => k_is)
    (case k__law_is => k_is)
    (case a__law_divisor => k_is)
    (case l__law_divisor => k_is)
    (case c__law_divisor => k_is)
    (case k__law_divisor => k_is)
    (case a__law_ratio => k_is)
    (case l__law_ratio => k_is)
    (case c__law_ratio => k_is)
    (case k__law_ratio => k_is)
    (case a__law_less => k_is)
    (case l__law_less => k_is)
    (case c__law_less => k_is)
    (case k__law_less => k_is)
    (case a__law_weighed => k_is)
    (case l__law_weighed => k_is)
    (case c__law_weighed => k_is)
    (case k__law_weighed => k_is)
    (case a__law_integers => k_is)
    (case l__law_integers => k_is)
    (case c__law_integers => k_is)
    (case k__law_integers => k_is)
    (case a__law_weights => k_is)
    (case l__law_weights => k_is)
    (case c__law_weights => k_is)
    (case k__law_weights => k_is)
    (case a__law_goal_rows => k_is)
    (case l__law_goal_rows => k_is)
    (case c__law_goal_rows => k_is)
    (case k__law_goal_rows => k_is)
    (case a__law_sums => k_is)
    (case l__law_sums => k_is)
    (case c__law_sums => k_is)
    (case k__law_sums => k_is)
    (case a__law_amounts_right => k_is)
    (case l__law_amounts_right => k_is)
    (case c__law_amounts_right => k_is)
    (case k__law_amounts_right => k_is)
    (case a__law_none_right => k_is)
    (case l__law_none_right => k_is)
    (case c__law_none_right => k_is)
    (case k__law_none_right => k_is)
    (case a__law_mean => k_is)
    (case l__law_mean => k_is)
    (case c__law_mean => k_is)
    (case k__law_mean => k_is)
    (case a_law => k_is)
    (case l_law => k_is)
    (case c_law => k_is)
    (case k_law => k_is)
