import PyProof.Rows.All
import Wide.All
import OpenK.AllK
import Wide.FinOn
import HandS.ForMost
import HandS.ForExc
import HandS.Gcd
import HandS.Wide
import HandS.IsInst
import HandS.ExcInit
import HandS.ExcField
import HandS.CallSlots
import HandS.Defaults
import HandS.ExcCtx
import HandS.HotCalls
import HandS.ExcInitHot
import HandS.Dict
import HandS.MakeKw
import HandS.TupAny
import HandS.ExcOwn
import PyProof.SumWalkG
import PyProof.WalksMore
import HandS.SlotsOwn
import HandS.Zip
import HandS.OwnEq
import KE.GoesZip
import KE.GoesMore
import KE.KDictZip
import HandS.OwnIter
import HandS.GenList
import KE.GoesEnum
import HandS.Deep
import HandS.Conv
import HandS.Style
import HandS.TupMul
import KE.KDictPairs
import HandS.IterNext
import HandS.IterVal
import KE.KOwnIter
import HandS.Flow
import KE.KUnpackStar
import HandS.TupLen
import HandS.DictComp
import HandS.Iter
import KE.KDictCopyH
import HandS.DictEq
import KE.KDictWalk
import KE.OsRunLaw
import HandS.SetFor
import KE.KMathGC
import PySem.Challenge.RW_everyhint_k67_logs_of_plays
set_option Elab.async false
set_option linter.all false
set_option maxRecDepth 100000
set_option maxHeartbeats 4000000
namespace DL
open PySem L2
/-- plain data -/
inductive D where
  | non
  | bl (b : Bool)
  | int (i : Int)
  | str (x : Str)
  | tup (l : List D)
  | lst (l : List D)
  | scr (l : List D)
  | ins (c : Str) (fs : List Str) (l : List D)
  | ty (n : String)
  | cls (c : Str)
  /-- a dict whose keys are tuples of ints and texts -/
  | dct (ks : List (List L2.Key)) (l : List D)
  /-- a tuple of the text's top -/
  | kt (l : List D)
  /-- a dict whose keys are ints or texts -/
  | dkk (ks : List L2.Key) (l : List D)
  /-- only as a field of an object of one's own: the k-th list of one's own -/
  | own (k : Nat)
/-- an item of a list or a tuple that holds things of one's own -/
inductive IV where
  | d (x : D)
  | ptr (k : Nat)
  | obj (k : Nat)
  | dic (k : Nat)
/-- what a slot holds: data, or the k-th list of one's own -/
inductive SV where
  | d (x : D)
  | ptr (k : Nat)
  | exc
  | obj (k : Nat)
  /-- a dict of one's own -/
  | dic (k : Nat)
  /-- a list (true) or a tuple that is not changed, of things that may be one's own -/
  | sq (b : Bool) (l : List IV)
section
variable (K : PySem.W.Frag) (mg : Str → Option Value) (A : List Addr) (H : Hp)
/-- a list that is to be read: it stands in H beside A, or in the written part -/
def SqX (a : Addr) (xs : List V) : Prop :=
  (Rd H a (.lst xs) ∧ a ∉ A) ∨ ((∀ H' : Hp, SqL K H' a xs))
mutual
def Rep : D → V → Prop
  | .non, v => v = .non
  | .bl b, v => v = .bl b
  | .int i, v => v = .int i
  | .str x, v => v = .str x
  | .tup l, v => ∃ a vs, v = .ref a ∧ a ∉ A ∧ H a = some (.tup vs) ∧ Reps l vs
  | .lst l, v => ∃ a vs, v = .ref a ∧ a ∉ A ∧ H a = some (.lst vs) ∧ Reps l vs
  | .scr l, v => ∃ a vs, v = .ref a ∧ SqX K A H a vs ∧ Reps l vs
  | .ins c fs l, v => ∃ a C dx vs, v = .ref a ∧ a ∉ A ∧ mg c = some (.ref C) ∧ H a = some (.ins C dx (fs.zip vs)) ∧ fs.length = vs.length ∧ Reps l vs
  | .ty n, v => v = .ty n
  | .cls c, v => ∃ C, mg c = some (.ref C) ∧ v = .ref C
  | .dct ks l, v => ∃ a od vs, v = .ref a ∧ a ∉ A ∧ H a = some (.frz od (.dT (ks.zip vs))) ∧ ks.length = vs.length ∧ Reps l vs
  | .kt l, v => ∃ a vs, v = .ref a ∧ (∀ H' : Hp, SqT K H' a vs) ∧ Reps l vs
  | .dkk ks l, v => ∃ a vs, v = .ref a ∧ a ∉ A ∧ H a = some (.dK (ks.zip vs)) ∧ ks.length = vs.length ∧ Reps l vs
  | .own _, _ => False
def Reps : List D → List V → Prop
  | [], vs => vs = []
  | d :: ds, vs => ∃ v r, vs = v :: r ∧ Rep d v ∧ Reps ds r
end
abbrev Store := List (List D)
abbrev Env := List (Option SV)
end
/-- the heap has grown; only what stands in A may have changed; A has grown by new addresses -/
structure Ext (A : List Addr) (H : Hp) (A' : List Addr) (H' : Hp) : Prop where
  app : ∃ l, A' = A ++ l ∧ ∀ p ∈ l, H p = none
  keep : ∀ a o, H a = some o → a ∉ A → H' a = some o
  dom : ∀ a, H' a = none → H a = none
  kl : ∀ a vs, H a = some (.lst vs) → ∃ vs', H' a = some (.lst vs')
  ki : ∀ a C dx fs, H a = some (.ins C dx fs) → ∃ fs', H' a = some (.ins C dx fs')
  kt : ∀ a kvs, H a = some (.dT kvs) → ∃ kvs', H' a = some (.dT kvs')
  kk : ∀ a kvs, H a = some (.dK kvs) → ∃ kvs', H' a = some (.dK kvs')
theorem Ext.refl (A : List Addr) (H : Hp) : Ext A H A H := ⟨⟨[], by simp, by simp⟩, fun _ _ h _ => h, fun _ h => h, fun _ _ h => ⟨_, h⟩, fun _ _ _ _ h => ⟨_, h⟩, fun _ _ h => ⟨_, h⟩, fun _ _ h => ⟨_, h⟩⟩
theorem Ext.notin {A A' : List Addr} {H H' : Hp} (e : Ext A H A' H') {a : Addr} {o : HO} (h : H a = some o) (n : a ∉ A) : a ∉ A' := by
  obtain ⟨l, rfl, hl⟩ := e.app
  intro hm
  rcases List.mem_append.mp hm with z | z
  · exact n z
  · rw [hl a z] at h; cases h
theorem Ext.trans {A A' A'' : List Addr} {H H' H'' : Hp} (e : Ext A H A' H') (f : Ext A' H' A'' H'') : Ext A H A'' H'' := by
  refine ⟨?_, fun a o h n => f.keep a o (e.keep a o h n) (e.notin h n), fun a h => e.dom a (f.dom a h), fun a vs h => let ⟨_, h1⟩ := e.kl a vs h; f.kl a _ h1, fun a C dx fs h => let ⟨_, h1⟩ := e.ki a C dx fs h; f.ki a _ _ _ h1, fun a kv h => let ⟨_, h1⟩ := e.kt a kv h; f.kt a _ h1, fun a kv h => let ⟨_, h1⟩ := e.kk a kv h; f.kk a _ h1⟩
  obtain ⟨l, rfl, hl⟩ := e.app
  obtain ⟨m, rfl, hm⟩ := f.app
  refine ⟨l ++ m, by simp, fun p hp => ?_⟩
  rcases List.mem_append.mp hp with z | z
  · exact hl p z
  · exact e.dom p (hm p z)
theorem Ext.new {A : List Addr} {H : Hp} {p : Addr} {o : HO} (hp : H p = none) : Ext A H A (upd H p o) := by
  refine ⟨⟨[], by simp, by simp⟩, fun a u h _ => ?_, fun a h => ?_, fun a vs h => ⟨vs, by rw [upd_ne (ne_of_none h hp)]; exact h⟩, fun a C dx fs h => ⟨fs, by rw [upd_ne (ne_of_none h hp)]; exact h⟩, fun a kv h => ⟨kv, by rw [upd_ne (ne_of_none h hp)]; exact h⟩, fun a kv h => ⟨kv, by rw [upd_ne (ne_of_none h hp)]; exact h⟩⟩
  · rw [upd_ne (ne_of_none h hp)]; exact h
  · by_cases e : a = p
    · rw [e]; exact hp
    · rw [upd_ne e] at h; exact h
theorem Ext.own {A : List Addr} {H : Hp} {p : Addr} {o : HO} (hp : H p = none) : Ext A H (A ++ [p]) (upd H p o) := by
  refine ⟨⟨[p], rfl, by simpa using hp⟩, fun a u h _ => ?_, fun a h => ?_, fun a vs h => ⟨vs, by rw [upd_ne (ne_of_none h hp)]; exact h⟩, fun a C dx fs h => ⟨fs, by rw [upd_ne (ne_of_none h hp)]; exact h⟩, fun a kv h => ⟨kv, by rw [upd_ne (ne_of_none h hp)]; exact h⟩, fun a kv h => ⟨kv, by rw [upd_ne (ne_of_none h hp)]; exact h⟩⟩
  · rw [upd_ne (ne_of_none h hp)]; exact h
  · by_cases e : a = p
    · rw [e]; exact hp
    · rw [upd_ne e] at h; exact h
theorem Ext.set' {A : List Addr} {H : Hp} {p : Addr} {o u : HO} (hp : p ∈ A) (h0 : H p = some u) (k1 : ∀ vs, u = .lst vs → ∃ vs', o = .lst vs') (k2 : ∀ C dx fs, u = .ins C dx fs → ∃ fs', o = .ins C dx fs') (k3 : ∀ kv, u = .dT kv → ∃ kv', o = .dT kv' := by intro _ h; cases h) (k4 : ∀ kv, u = .dK kv → ∃ kv', o = .dK kv' := by intro _ h; cases h) : Ext A H A (upd H p o) := by
  refine ⟨⟨[], by simp, by simp⟩, fun a v h n => ?_, fun a h => ?_, fun a vs h => ?_, fun a C dx fs h => ?_, fun a kv h => ?_, fun a kv h => ?_⟩
  rotate_left 4
  · by_cases e : a = p
    · subst e
      rw [h0] at h
      obtain ⟨vs', rfl⟩ := k3 kv (by injection h)
      exact ⟨vs', upd_same⟩
    · exact ⟨kv, by rw [upd_ne e]; exact h⟩
  · by_cases e : a = p
    · subst e
      rw [h0] at h
      obtain ⟨vs', rfl⟩ := k4 kv (by injection h)
      exact ⟨vs', upd_same⟩
    · exact ⟨kv, by rw [upd_ne e]; exact h⟩
  rotate_left 2
  · by_cases e : a = p
    · subst e
      rw [h0] at h
      obtain ⟨vs', rfl⟩ := k1 vs (by injection h)
      exact ⟨vs', upd_same⟩
    · exact ⟨vs, by rw [upd_ne e]; exact h⟩
  · by_cases e : a = p
    · subst e
      rw [h0] at h
      obtain ⟨fs', rfl⟩ := k2 C dx fs (by injection h)
      exact ⟨fs', upd_same⟩
    · exact ⟨fs, by rw [upd_ne e]; exact h⟩
  · rw [upd_ne (fun e => n (by rw [e]; exact hp))]; exact h
  · by_cases e : a = p
    · rw [e, upd_same] at h; cases h
    · rw [upd_ne e] at h; exact h
theorem Ext.set {A : List Addr} {H : Hp} {p : Addr} {vs us : List V} (hp : p ∈ A) (h0 : H p = some (.lst us)) : Ext A H A (upd H p (.lst vs)) := Ext.set' hp h0 (fun _ _ => ⟨_, rfl⟩) (fun _ _ _ h => by cases h)
theorem Ext.setI {A : List Addr} {H : Hp} {p C dx : Addr} {fs gs : List (Str × V)} (hp : p ∈ A) (h0 : H p = some (.ins C dx fs)) : Ext A H A (upd H p (.ins C dx gs)) := Ext.set' hp h0 (fun _ h => by cases h) (fun _ _ _ h => by cases h; exact ⟨_, rfl⟩)
theorem Ext.drop {A A' : List Addr} {H H' : Hp} (e : Ext A H A' H') : Ext A H A H' := ⟨⟨[], by simp, by simp⟩, e.keep, e.dom, e.kl, e.ki, e.kt, e.kk⟩
/-- the names' values, and what is known besides for good -/
structure Gm where
  m : Str → Option Value
  G : List Addr → Hp → Prop
  mono : ∀ {A : List Addr} {H : Hp} {A' : List Addr} {H' : Hp}, Ext A H A' H' → G A H → G A' H'
  sub : ∀ {A B : List Addr} {H : Hp}, (∀ a, a ∈ B → a ∈ A) → G A H → G B H
  xa : Option Addr
section
variable (K : PySem.W.Frag) (mg : Str → Option Value) (A : List Addr) (H : Hp)
def RepI : IV → V → Prop
  | .d x, v => Rep K mg A H x v
  | .ptr k, v => ∃ a, A[k]? = some a ∧ v = .ref a ∧ ∃ vs, H a = some (.lst vs)
  | .obj k, v => ∃ a, A[k]? = some a ∧ v = .ref a ∧ ∃ C dx fs, H a = some (.ins C dx fs)
  | .dic k, v => ∃ a, A[k]? = some a ∧ v = .ref a ∧ ((∃ kvs, H a = some (.dT kvs)) ∨ ∃ kvs, H a = some (.dK kvs))
def RepIs : List IV → List V → Prop
  | [], vs => vs = []
  | d :: ds, vs => ∃ v r, vs = v :: r ∧ RepI K mg A H d v ∧ RepIs ds r
end
def sqO : Bool → List V → HO
  | true, vs => .lst vs
  | false, vs => .tup vs
section
variable (K : PySem.W.Frag) (mg : Gm) (A : List Addr) (H : Hp)
def RepS : SV → V → Prop
  | .d x, v => Rep K mg.m A H x v
  | .ptr k, v => ∃ a, A[k]? = some a ∧ v = .ref a ∧ ∃ vs, H a = some (.lst vs)
  | .exc, v => ∃ a, mg.xa = some a ∧ v = .ref a
  | .obj k, v => ∃ a, A[k]? = some a ∧ v = .ref a ∧ ∃ C dx fs, H a = some (.ins C dx fs)
  | .dic k, v => ∃ a, A[k]? = some a ∧ v = .ref a ∧ ((∃ kvs, H a = some (.dT kvs)) ∨ ∃ kvs, H a = some (.dK kvs))
  | .sq b l, v => ∃ a vs, v = .ref a ∧ a ∉ A ∧ H a = some (sqO b vs) ∧ RepIs K mg.m A H l vs
def RepSs : List SV → List V → Prop
  | [], vs => vs = []
  | d :: ds, vs => ∃ v r, vs = v :: r ∧ RepS K mg A H d v ∧ RepSs ds r
structure EnvR (σ : St) (env : Env) : Prop where
  len : σ.length = env.length
  at' : ∀ (i : Nat) (sv : SV), env[i]? = some (some sv) → ∃ v, σ[i]? = some (some v) ∧ RepS K mg A H sv v
end
/-- a field of an object of one's own: data, or a list of one's own -/
def RepF (K : PySem.W.Frag) (mg : Str → Option Value) (A : List Addr) (H : Hp) (d : D) (v : V) : Prop := match d with
  | .own k => ∃ a, A[k]? = some a ∧ v = .ref a ∧ ∃ vs, H a = some (.lst vs)
  | d => Rep K mg A H d v
def RepFs (K : PySem.W.Frag) (mg : Str → Option Value) (A : List Addr) (H : Hp) : List D → List V → Prop
  | [], vs => vs = []
  | d :: ds, vs => ∃ v r, vs = v :: r ∧ RepF K mg A H d v ∧ RepFs K mg A H ds r
/-- what is one's own: a list, an object, or a dict -/
def OwnR (K : PySem.W.Frag) (mg : Str → Option Value) (A : List Addr) (H : Hp) (a : Addr) (ds : List D) : Prop :=
  (∃ vs, H a = some (.lst vs) ∧ RepFs K mg A H ds vs) ∨ (∃ c fs l C dx vs, ds = [.ins c fs l] ∧ mg c = some (.ref C) ∧ H a = some (.ins C dx (fs.zip vs)) ∧ fs.length = vs.length ∧ RepFs K mg A H l vs) ∨
  (∃ ks l vs, ds = [.dct ks l] ∧ H a = some (.dT (ks.zip vs)) ∧ ks.length = vs.length ∧ Reps K mg A H l vs) ∨ ∃ ks l vs, ds = [.dkk ks l] ∧ H a = some (.dK (ks.zip vs)) ∧ ks.length = vs.length ∧ Reps K mg A H l vs
structure Sta (K : PySem.W.Frag) (g : Gm) (A : List Addr) (H : Hp) (S : Store) : Prop where
  nd : A.Nodup
  len : S.length = A.length
  at' : ∀ (k : Nat) (a : Addr) (ds : List D), A[k]? = some a → S[k]? = some ds → OwnR K g.m A H a ds
  gh : g.G A H
section
variable {K : PySem.W.Frag} {mg : Str → Option Value} {A A' : List Addr} {H H' : Hp}
theorem SqX.sql {a : Addr} {xs : List V} (h : SqX K A H a xs) : SqL K H a xs := by
  rcases h with ⟨h, _⟩ | h
  · exact .inl h
  · exact h H
theorem SqX.mono {a : Addr} {xs : List V} (e : Ext A H A' H') (h : SqX K A H a xs) : SqX K A' H' a xs := by
  rcases h with ⟨h, n⟩ | h
  · refine .inl ?_
    rcases h with h | ⟨o, h⟩
    · exact ⟨.inl (e.keep _ _ h n), e.notin h n⟩
    · exact ⟨.inr ⟨o, e.keep _ _ h n⟩, e.notin h n⟩
  · exact .inr h
theorem SqX.sub {B : List Addr} (hs : ∀ a, a ∈ B → a ∈ A) {a : Addr} {xs : List V} (h : SqX K A H a xs) : SqX K B H a xs := by
  rcases h with ⟨h, n⟩ | h
  · exact .inl ⟨h, fun m => n (hs _ m)⟩
  · exact .inr h
mutual
theorem Rep.mono (e : Ext A H A' H') : ∀ (d : D) (v : V), Rep K mg A H d v → Rep K mg A' H' d v
  | .non, v, h => by simpa only [Rep] using h
  | .bl b, v, h => by simpa only [Rep] using h
  | .int i, v, h => by simpa only [Rep] using h
  | .str x, v, h => by simpa only [Rep] using h
  | .tup l, v, h => by
    simp only [Rep] at h ⊢
    obtain ⟨a, vs, e1, n, h1, r⟩ := h
    exact ⟨a, vs, e1, e.notin h1 n, e.keep _ _ h1 n, Reps.mono e l vs r⟩
  | .lst l, v, h => by
    simp only [Rep] at h ⊢
    obtain ⟨a, vs, e1, n, h1, r⟩ := h
    exact ⟨a, vs, e1, e.notin h1 n, e.keep _ _ h1 n, Reps.mono e l vs r⟩
  | .scr l, v, h => by
    simp only [Rep] at h ⊢
    obtain ⟨a, vs, e1, h1, r⟩ := h
    exact ⟨a, vs, e1, h1.mono e, Reps.mono e l vs r⟩
  | .ins c fs l, v, h => by
    simp only [Rep] at h ⊢
    obtain ⟨a, C, dx, vs, e1, n, hc, h1, hl, r⟩ := h
    exact ⟨a, C, dx, vs, e1, e.notin h1 n, hc, e.keep _ _ h1 n, hl, Reps.mono e l vs r⟩
  | .ty n, v, h => by simpa only [Rep] using h
  | .cls c, v, h => by simpa only [Rep] using h
  | .dct ks l, v, h => by
    simp only [Rep] at h ⊢
    obtain ⟨a, od, vs, e1, n, h1, hl, r⟩ := h
    exact ⟨a, od, vs, e1, e.notin h1 n, e.keep _ _ h1 n, hl, Reps.mono e l vs r⟩
  | .kt l, v, h => by
    simp only [Rep] at h ⊢
    obtain ⟨a, vs, e1, h1, r⟩ := h
    exact ⟨a, vs, e1, h1, Reps.mono e l vs r⟩
  | .own _, v, h => by simp only [Rep] at h
  | .dkk ks l, v, h => by
    simp only [Rep] at h ⊢
    obtain ⟨a, vs, e1, n, h1, hl, r⟩ := h
    exact ⟨a, vs, e1, e.notin h1 n, e.keep _ _ h1 n, hl, Reps.mono e l vs r⟩
theorem Reps.mono (e : Ext A H A' H') : ∀ (ds : List D) (vs : List V), Reps K mg A H ds vs → Reps K mg A' H' ds vs
  | [], vs, h => by simpa only [Reps] using h
  | d :: ds, vs, h => by
    simp only [Reps] at h ⊢
    obtain ⟨v, r, e1, h1, h2⟩ := h
    exact ⟨v, r, e1, Rep.mono e d v h1, Reps.mono e ds r h2⟩
end
mutual
theorem Rep.sub {B : List Addr} (hs : ∀ a, a ∈ B → a ∈ A) : ∀ (d : D) (v : V), Rep K mg A H d v → Rep K mg B H d v
  | .non, v, h => by simpa only [Rep] using h
  | .bl b, v, h => by simpa only [Rep] using h
  | .int i, v, h => by simpa only [Rep] using h
  | .str x, v, h => by simpa only [Rep] using h
  | .tup l, v, h => by
    simp only [Rep] at h ⊢
    obtain ⟨a, vs, e1, n, h1, r⟩ := h
    exact ⟨a, vs, e1, fun m => n (hs _ m), h1, Reps.sub hs l vs r⟩
  | .lst l, v, h => by
    simp only [Rep] at h ⊢
    obtain ⟨a, vs, e1, n, h1, r⟩ := h
    exact ⟨a, vs, e1, fun m => n (hs _ m), h1, Reps.sub hs l vs r⟩
  | .scr l, v, h => by
    simp only [Rep] at h ⊢
    obtain ⟨a, vs, e1, h1, r⟩ := h
    exact ⟨a, vs, e1, h1.sub hs, Reps.sub hs l vs r⟩
  | .ins c fs l, v, h => by
    simp only [Rep] at h ⊢
    obtain ⟨a, C, dx, vs, e1, n, hc, h1, hl, r⟩ := h
    exact ⟨a, C, dx, vs, e1, fun m => n (hs _ m), hc, h1, hl, Reps.sub hs l vs r⟩
  | .ty n, v, h => by simpa only [Rep] using h
  | .cls c, v, h => by simpa only [Rep] using h
  | .dct ks l, v, h => by
    simp only [Rep] at h ⊢
    obtain ⟨a, od, vs, e1, n, h1, hl, r⟩ := h
    exact ⟨a, od, vs, e1, fun m => n (hs _ m), h1, hl, Reps.sub hs l vs r⟩
  | .kt l, v, h => by
    simp only [Rep] at h ⊢
    obtain ⟨a, vs, e1, h1, r⟩ := h
    exact ⟨a, vs, e1, h1, Reps.sub hs l vs r⟩
  | .own _, v, h => by simp only [Rep] at h
  | .dkk ks l, v, h => by
    simp only [Rep] at h ⊢
    obtain ⟨a, vs, e1, n, h1, hl, r⟩ := h
    exact ⟨a, vs, e1, fun m => n (hs _ m), h1, hl, Reps.sub hs l vs r⟩
theorem Reps.sub {B : List Addr} (hs : ∀ a, a ∈ B → a ∈ A) : ∀ (ds : List D) (vs : List V), Reps K mg A H ds vs → Reps K mg B H ds vs
  | [], vs, h => by simpa only [Reps] using h
  | d :: ds, vs, h => by
    simp only [Reps] at h ⊢
    obtain ⟨v, r, e1, h1, h2⟩ := h
    exact ⟨v, r, e1, Rep.sub hs d v h1, Reps.sub hs ds r h2⟩
end
theorem Rep.anti {l0 : List Addr} (d : D) (v : V) (h : Rep K mg (A ++ l0) H d v) : Rep K mg A H d v := Rep.sub (fun _ m => List.mem_append_left _ m) d v h
theorem Reps.anti {l0 : List Addr} (d : List D) (v : List V) (h : Reps K mg (A ++ l0) H d v) : Reps K mg A H d v := Reps.sub (fun _ m => List.mem_append_left _ m) d v h
theorem RepI.mono (e : Ext A H A' H') {x : IV} {v : V} (h : RepI K mg A H x v) : RepI K mg A' H' x v := by
  cases x with
  | d x => exact Rep.mono e x v h
  | ptr k =>
    obtain ⟨a, h1, h2, vs, h3⟩ := h
    obtain ⟨l, rfl, _⟩ := e.app
    exact ⟨a, by rw [List.getElem?_append_left (List.getElem?_eq_some_iff.mp h1).1]; exact h1, h2, e.kl a vs h3⟩
  | obj k =>
    obtain ⟨a, h1, h2, C, dx, fs, h3⟩ := h
    obtain ⟨l, rfl, _⟩ := e.app
    obtain ⟨fs', h4⟩ := e.ki a C dx fs h3
    exact ⟨a, by rw [List.getElem?_append_left (List.getElem?_eq_some_iff.mp h1).1]; exact h1, h2, C, dx, fs', h4⟩
  | dic k =>
    obtain ⟨a, h1, h2, h3⟩ := h
    obtain ⟨l, rfl, _⟩ := e.app
    refine ⟨a, by rw [List.getElem?_append_left (List.getElem?_eq_some_iff.mp h1).1]; exact h1, h2, ?_⟩
    rcases h3 with ⟨kv, h3⟩ | ⟨kv, h3⟩
    · exact .inl (e.kt a kv h3)
    · exact .inr (e.kk a kv h3)
theorem RepIs.mono (e : Ext A H A' H') : ∀ {xs : List IV} {vs : List V}, RepIs K mg A H xs vs → RepIs K mg A' H' xs vs
  | [], vs, h => h
  | x :: xs, vs, ⟨v, r, e1, h1, h2⟩ => ⟨v, r, e1, h1.mono e, RepIs.mono e h2⟩
theorem RepS.mono {mg : Gm} (e : Ext A H A' H') {x : SV} {v : V} (h : RepS K mg A H x v) : RepS K mg A' H' x v := by
  cases x with
  | d x => exact Rep.mono e x v h
  | ptr k =>
    obtain ⟨a, h1, h2, vs, h3⟩ := h
    obtain ⟨l, rfl, _⟩ := e.app
    exact ⟨a, by rw [List.getElem?_append_left (List.getElem?_eq_some_iff.mp h1).1]; exact h1, h2, e.kl a vs h3⟩
  | exc => exact h
  | obj k =>
    obtain ⟨a, h1, h2, C, dx, fs, h3⟩ := h
    obtain ⟨l, rfl, _⟩ := e.app
    obtain ⟨fs', h4⟩ := e.ki a C dx fs h3
    exact ⟨a, by rw [List.getElem?_append_left (List.getElem?_eq_some_iff.mp h1).1]; exact h1, h2, C, dx, fs', h4⟩
  | dic k =>
    obtain ⟨a, h1, h2, h3⟩ := h
    obtain ⟨l, rfl, _⟩ := e.app
    refine ⟨a, by rw [List.getElem?_append_left (List.getElem?_eq_some_iff.mp h1).1]; exact h1, h2, ?_⟩
    rcases h3 with ⟨kv, h3⟩ | ⟨kv, h3⟩
    · exact .inl (e.kt a kv h3)
    · exact .inr (e.kk a kv h3)
  | sq b l =>
    obtain ⟨a, vs, h1, h2, h3, h4⟩ := h
    exact ⟨a, vs, h1, e.notin h3 h2, e.keep _ _ h3 h2, h4.mono e⟩
theorem RepSs.mono {mg : Gm} (e : Ext A H A' H') : ∀ {xs : List SV} {vs : List V}, RepSs K mg A H xs vs → RepSs K mg A' H' xs vs
  | [], vs, h => h
  | x :: xs, vs, ⟨v, r, e1, h1, h2⟩ => ⟨v, r, e1, h1.mono e, RepSs.mono e h2⟩
theorem EnvR.mono {mg : Gm} (e : Ext A H A' H') {σ : St} {env : Env} (h : EnvR K mg A H σ env) : EnvR K mg A' H' σ env :=
  ⟨h.len, fun i sv q => let ⟨v, h1, h2⟩ := h.at' i sv q; ⟨v, h1, h2.mono e⟩⟩
theorem RepF.of {d : D} {v : V} (h : Rep K mg A H d v) : RepF K mg A H d v := by
  cases d <;> first | exact h | (simp only [Rep] at h)
theorem RepFs.of : ∀ {ds : List D} {vs : List V}, Reps K mg A H ds vs → RepFs K mg A H ds vs
  | [], vs, h => by simp only [Reps] at h; exact h
  | d :: ds, vs, h => by
    simp only [Reps] at h
    obtain ⟨v, r, e, h1, h2⟩ := h
    exact ⟨v, r, e, .of h1, .of h2⟩
def isOwn : D → Bool
  | .own _ => true
  | _ => false
/-- data all through -/
def clsd (ds : List D) : Bool := !ds.any isOwn
theorem RepF.to {d : D} {v : V} (h : RepF K mg A H d v) (n : isOwn d = false) : Rep K mg A H d v := by
  cases d <;> first | exact h | cases n
theorem RepFs.to : ∀ {ds : List D} {vs : List V}, RepFs K mg A H ds vs → ds.any isOwn = false → Reps K mg A H ds vs
  | [], vs, h, _ => by simp only [Reps]; exact h
  | d :: ds, vs, ⟨v, r, e, h1, h2⟩, n => by
    rw [List.any_cons, Bool.or_eq_false_iff] at n
    simp only [Reps]
    exact ⟨v, r, e, h1.to n.1, h2.to n.2⟩
theorem RepF.mono {d : D} {v : V} (e : Ext A H A' H') (h : RepF K mg A H d v) : RepF K mg A' H' d v := by
  cases d <;> first | exact Rep.mono e _ v h | skip
  obtain ⟨a, h1, h2, vs, h3⟩ := h
  obtain ⟨l, rfl, _⟩ := e.app
  exact ⟨a, by rw [List.getElem?_append_left (List.getElem?_eq_some_iff.mp h1).1]; exact h1, h2, e.kl a vs h3⟩
theorem RepFs.mono (e : Ext A H A' H') : ∀ {ds : List D} {vs : List V}, RepFs K mg A H ds vs → RepFs K mg A' H' ds vs
  | [], vs, h => h
  | d :: ds, vs, ⟨v, r, e1, h1, h2⟩ => ⟨v, r, e1, h1.mono e, RepFs.mono e h2⟩
theorem RepFs.length : ∀ {ds : List D} {vs : List V}, RepFs K mg A H ds vs → ds.length = vs.length
  | [], vs, h => by rw [show vs = [] from h]; rfl
  | d :: ds, vs, ⟨v, r, e1, h1, h2⟩ => by rw [e1, List.length_cons, List.length_cons, RepFs.length h2]
theorem RepFs.append : ∀ {ds es : List D} {vs ws : List V}, RepFs K mg A H ds vs → RepFs K mg A H es ws → RepFs K mg A H (ds ++ es) (vs ++ ws)
  | [], es, vs, ws, h, k => by rw [show vs = [] from h]; exact k
  | d :: ds, es, vs, ws, ⟨v, r, e, h1, h2⟩, k => ⟨v, r ++ ws, by rw [e]; rfl, h1, RepFs.append h2 k⟩
theorem RepFs.get : ∀ {ds : List D} {vs : List V} {i : Nat} {d : D}, RepFs K mg A H ds vs → ds[i]? = some d → ∃ v, vs[i]? = some v ∧ RepF K mg A H d v
  | [], vs, i, d, h, e => by simp at e
  | x :: ds, vs, 0, d, ⟨v, r, e1, h1, h2⟩, e => by
    simp at e
    subst e e1
    exact ⟨v, rfl, h1⟩
  | x :: ds, vs, i + 1, d, ⟨v, r, e1, h1, h2⟩, e => by
    subst e1
    obtain ⟨u, h3, h4⟩ := RepFs.get (i := i) h2 (by simpa using e)
    exact ⟨u, by simpa using h3, h4⟩
theorem RepFs.set : ∀ {ds : List D} {vs : List V} (i : Nat) {d : D} {v : V}, RepFs K mg A H ds vs → RepF K mg A H d v → RepFs K mg A H (ds.set i d) (vs.set i v)
  | [], vs, i, d, v, h, k => by rw [show vs = [] from h]; exact rfl
  | x :: ds, vs, 0, d, v, ⟨u, r, e1, h1, h2⟩, k => by
    subst e1
    exact ⟨v, r, rfl, k, h2⟩
  | x :: ds, vs, i + 1, d, v, ⟨u, r, e1, h1, h2⟩, k => by
    subst e1
    exact ⟨u, r.set i v, rfl, h1, RepFs.set i h2 k⟩
theorem OwnR.none {a : Addr} {ds : List D} (h : OwnR K mg A H a ds) : ∃ o, H a = some o := by
  rcases h with ⟨vs, h, _⟩ | ⟨_, _, _, _, _, _, _, _, h, _⟩ | ⟨_, _, _, _, h, _⟩ | ⟨_, _, _, _, h, _⟩
  · exact ⟨_, h⟩
  · exact ⟨_, h⟩
  · exact ⟨_, h⟩
  · exact ⟨_, h⟩
/-- the same thing later -/
theorem OwnR.to {A' : List Addr} {H' : Hp} {a : Addr} {ds : List D} (h : OwnR K mg A H a ds) (e : H' a = H a) (r : ∀ ds vs, Reps K mg A H ds vs → Reps K mg A' H' ds vs) (rl : ∀ vs, RepFs K mg A H ds vs → RepFs K mg A' H' ds vs) (rf : ∀ c fs l vs, ds = [.ins c fs l] → RepFs K mg A H l vs → RepFs K mg A' H' l vs) : OwnR K mg A' H' a ds := by
  rcases h with ⟨vs, h, q⟩ | ⟨c, fs, l, C, dx, vs, h1, h2, h3, h4, q⟩ | ⟨ks, l, vs, h1, h3, h4, q⟩ | ⟨ks, l, vs, h1, h3, h4, q⟩
  · exact .inl ⟨vs, by rw [e]; exact h, rl _ q⟩
  · exact .inr (.inl ⟨c, fs, l, C, dx, vs, h1, h2, by rw [e]; exact h3, h4, rf _ _ _ _ h1 q⟩)
  · exact .inr (.inr (.inl ⟨ks, l, vs, h1, by rw [e]; exact h3, h4, r _ _ q⟩))
  · exact .inr (.inr (.inr ⟨ks, l, vs, h1, by rw [e]; exact h3, h4, r _ _ q⟩))
theorem OwnR.mono {a : Addr} {ds : List D} (h : OwnR K mg A H a ds) (x : Ext A H A' H') (e : H' a = H a) : OwnR K mg A' H' a ds := h.to e (fun _ _ => Reps.mono x _ _) (fun _ => RepFs.mono x) fun _ _ _ _ _ => RepFs.mono x
theorem OwnR.lst {a : Addr} {ds : List D} (h : OwnR K mg A H a ds) (h0 : ∃ vs, H a = some (.lst vs)) : ∃ vs, H a = some (.lst vs) ∧ RepFs K mg A H ds vs := by
  obtain ⟨ws, h0⟩ := h0
  rcases h with h | ⟨c, fs, l, C, dx, vs, h1, h2, h3, h4, q⟩ | ⟨ks, l, vs, h1, h3, h4, q⟩ | ⟨ks, l, vs, h1, h3, h4, q⟩
  · exact h
  · rw [h3] at h0; cases h0
  · rw [h3] at h0; cases h0
  · rw [h3] at h0; cases h0
theorem Sta.new {g : Gm} {S : Store} {p : Addr} {o : HO} (s : Sta K g A H S) (hp : H p = none) : Sta K g A (upd H p o) S := by
  refine ⟨s.nd, s.len, fun k a ds h1 h2 => ?_, g.mono (Ext.new hp) s.gh⟩
  have q := s.at' k a ds h1 h2
  obtain ⟨o, h3⟩ := q.none
  exact q.mono (Ext.new hp) (by rw [upd_ne (ne_of_none h3 hp)])
theorem Sta.lst {g : Gm} {S : Store} (s : Sta K g A H S) {k : Nat} {a : Addr} {ds : List D} (h1 : A[k]? = some a) (h0 : ∃ vs, H a = some (.lst vs)) (h2 : S[k]? = some ds) : ∃ vs, H a = some (.lst vs) ∧ RepFs K g.m A H ds vs := (s.at' k a ds h1 h2).lst h0
theorem Sta.lstC {g : Gm} {S : Store} (s : Sta K g A H S) {k : Nat} {a : Addr} {ds : List D} (h1 : A[k]? = some a) (h0 : ∃ vs, H a = some (.lst vs)) (h2 : S[k]? = some ds) (hc : clsd ds = true) : ∃ vs, H a = some (.lst vs) ∧ Reps K g.m A H ds vs := by
  obtain ⟨vs, h3, h4⟩ := s.lst h1 h0 h2
  exact ⟨vs, h3, h4.to (by simpa [clsd] using hc)⟩
theorem Sta.dom {g : Gm} {S : Store} (s : Sta K g A H S) {a : Addr} (h : a ∈ A) : ∃ o, H a = some o := by
  obtain ⟨k, hk, e⟩ := List.mem_iff_getElem.mp h
  have hk2 : k < S.length := by rw [s.len]; exact hk
  exact (s.at' k a S[k] (by rw [List.getElem?_eq_getElem hk, e]) (List.getElem?_eq_getElem hk2)).none
theorem Sta.free {g : Gm} {S : Store} (s : Sta K g A H S) {p : Addr} (hp : H p = none) : p ∉ A := fun hm => by
  obtain ⟨vs, h⟩ := s.dom hm
  rw [h] at hp; cases hp
theorem Sta.own' {g : Gm} {S : Store} {p : Addr} {o : HO} {ds : List D} (s : Sta K g A H S) (hp : H p = none) (r : OwnR K g.m (A ++ [p]) (upd H p o) p ds) : Sta K g (A ++ [p]) (upd H p o) (S ++ [ds]) := by
  have hn := s.free hp
  refine ⟨?_, by simp [s.len], fun k a es h1 h2 => ?_, g.mono (Ext.own hp) s.gh⟩
  · rw [List.nodup_append]
    refine ⟨s.nd, by simp, fun a ha b hb e => ?_⟩
    rw [List.mem_singleton.mp hb] at e
    exact hn (e ▸ ha)
  · by_cases hk : k < A.length
    · rw [List.getElem?_append_left hk] at h1
      rw [List.getElem?_append_left (by rw [s.len]; exact hk)] at h2
      have q := s.at' k a es h1 h2
      obtain ⟨o, h3⟩ := q.none
      exact q.mono (Ext.own hp) (by rw [upd_ne (ne_of_none h3 hp)])
    · have hk' : A.length ≤ k := Nat.le_of_not_lt hk
      rw [List.getElem?_append_right hk'] at h1
      rw [List.getElem?_append_right (by rw [s.len]; exact hk'), s.len] at h2
      have e0 : k - A.length = 0 := by
        have := (List.getElem?_eq_some_iff.mp h1).1
        simpa using this
      rw [e0] at h1 h2
      have ea : p = a := by simpa using h1
      have es' : ds = es := by simpa using h2
      subst ea es'
      exact r
theorem Sta.own {g : Gm} {S : Store} {p : Addr} {vs : List V} {ds : List D} (s : Sta K g A H S) (hp : H p = none) (r : Reps K g.m A H ds vs) : Sta K g (A ++ [p]) (upd H p (.lst vs)) (S ++ [ds]) :=
  s.own' hp (.inl ⟨vs, upd_same, .of (Reps.mono (Ext.own hp) ds vs r)⟩)
theorem Sta.ownF {g : Gm} {S : Store} {p : Addr} {vs : List V} {ds : List D} (s : Sta K g A H S) (hp : H p = none) (r : RepFs K g.m A H ds vs) : Sta K g (A ++ [p]) (upd H p (.lst vs)) (S ++ [ds]) :=
  s.own' hp (.inl ⟨vs, upd_same, r.mono (Ext.own hp)⟩)
theorem Sta.set' {g : Gm} {S : Store} {k : Nat} {a : Addr} {o : HO} {ds : List D} (s : Sta K g A H S) (ha : A[k]? = some a) (ee : Ext A H A (upd H a o)) (r : OwnR K g.m A (upd H a o) a ds) : Sta K g A (upd H a o) (S.set k ds) ∧ Ext A H A (upd H a o) := by
  have hm : a ∈ A := List.mem_of_getElem? ha
  refine ⟨⟨s.nd, by simp [s.len], fun j b es h1 h2 => ?_, g.mono ee s.gh⟩, ee⟩
  by_cases hj : j = k
  · subst hj
    rw [ha] at h1
    cases h1
    have : j < S.length := by rw [s.len]; exact (List.getElem?_eq_some_iff.mp ha).1
    rw [List.getElem?_set_self this] at h2
    cases h2
    exact r
  · rw [List.getElem?_set_ne (fun e => hj e.symm)] at h2
    have qq := s.at' j b es h1 h2
    have hb : b ≠ a := by
      intro e
      subst e
      have q1 := List.getElem?_eq_some_iff.mp h1
      have q2 := List.getElem?_eq_some_iff.mp ha
      obtain ⟨l1, e1⟩ := q1
      obtain ⟨l2, e2⟩ := q2
      exact hj ((List.getElem_inj s.nd).mp (e1.trans e2.symm))
    exact qq.mono ee (by rw [upd_ne hb])
theorem Sta.setF {g : Gm} {S : Store} {k : Nat} {a : Addr} {vs : List V} {ds : List D} (s : Sta K g A H S) (ha : A[k]? = some a) (h0 : ∃ us, H a = some (.lst us)) (r : RepFs K g.m A H ds vs) : Sta K g A (upd H a (.lst vs)) (S.set k ds) ∧ Ext A H A (upd H a (.lst vs)) := by
  obtain ⟨us, h0⟩ := h0
  have ee : Ext A H A (upd H a (.lst vs)) := Ext.set (List.mem_of_getElem? ha) h0
  exact s.set' ha ee (.inl ⟨vs, upd_same, r.mono ee⟩)
theorem Sta.set {g : Gm} {S : Store} {k : Nat} {a : Addr} {vs : List V} {ds : List D} (s : Sta K g A H S) (ha : A[k]? = some a) (h0 : ∃ us, H a = some (.lst us)) (r : Reps K g.m A H ds vs) : Sta K g A (upd H a (.lst vs)) (S.set k ds) ∧ Ext A H A (upd H a (.lst vs)) := s.setF ha h0 (.of r)
/-- a cell that has no list behind the n-th -/
def CalC (n : Nat) (ds : List D) : Prop := (∀ j, D.own j ∈ ds → j < n) ∧ ∀ c fs l, ds = [.ins c fs l] → ∀ j, D.own j ∈ l → j < n
/-- what is left when the lists behind S fall away stands by itself -/
def Cal (S S' : Store) : Prop := ∀ (k : Nat) (ds : List D), k < S.length → S'[k]? = some ds → S[k]? = some ds ∨ CalC S.length ds
theorem cal_app (S T : Store) : Cal S (S ++ T) := fun k ds h e => .inl (by rw [List.getElem?_append_left h] at e; exact e)
theorem cal_refl (S : Store) : Cal S S := fun k ds h e => .inl e
theorem cal_set {S : Store} {k : Nat} {ds : List D} (h : CalC S.length ds) : Cal S (S.set k ds) := fun j es hj e => by
  by_cases hk : k = j
  · subst hk
    rw [List.getElem?_set_self hj] at e
    cases e
    exact .inr h
  · rw [List.getElem?_set_ne hk] at e
    exact .inl e
theorem RepFs.own_lt : ∀ {ds : List D} {vs : List V} {j : Nat}, RepFs K mg A H ds vs → D.own j ∈ ds → j < A.length
  | d :: ds, vs, j, ⟨v, r, e, h1, h2⟩, m => by
    rcases List.mem_cons.mp m with m | m
    · subst m
      obtain ⟨a, h3, _⟩ := h1
      exact (List.getElem?_eq_some_iff.mp h3).1
    · exact RepFs.own_lt h2 m
theorem RepFs.sub {B : List Addr} (hs : ∀ a, a ∈ B → a ∈ A) : ∀ {ds : List D} {vs : List V}, RepFs K mg A H ds vs → (∀ j, D.own j ∈ ds → B[j]? = A[j]?) → RepFs K mg B H ds vs
  | [], vs, h, _ => h
  | d :: ds, vs, ⟨v, r, e, h1, h2⟩, m => by
    refine ⟨v, r, e, ?_, RepFs.sub hs h2 fun j hj => m j (List.mem_cons_of_mem _ hj)⟩
    cases d <;> first | exact Rep.sub hs _ _ h1 | skip
    obtain ⟨a, h3, h4⟩ := h1
    exact ⟨a, by rw [m _ List.mem_cons_self]; exact h3, h4⟩
theorem Reps.no_own : ∀ {ds : List D} {vs : List V} {j : Nat}, Reps K mg A H ds vs → D.own j ∈ ds → False
  | d :: ds, vs, j, h, m => by
    simp only [Reps] at h
    obtain ⟨v, r, e, h1, h2⟩ := h
    rcases List.mem_cons.mp m with m | m
    · subst m
      simp only [Rep] at h1
    · exact Reps.no_own h2 m
theorem Sta.calm {g : Gm} {S : Store} (s : Sta K g A H S) {k : Nat} {ds : List D} (h : S[k]? = some ds) : CalC A.length ds := by
  have hk : k < A.length := by rw [← s.len]; exact (List.getElem?_eq_some_iff.mp h).1
  rcases s.at' k A[k] ds (List.getElem?_eq_getElem hk) h with ⟨vs, h1, q⟩ | ⟨c', fs', l', C, dx, vs, h1, h2, h3, h4, q⟩ | ⟨ks, l', vs, h1, h3, h4, q⟩ | ⟨ks, l', vs, h1, h3, h4, q⟩
  · refine ⟨fun j hj => q.own_lt hj, fun c fs l e j hj => ?_⟩
    subst e
    obtain ⟨v, r, e, q, _⟩ := q
    have q : Rep K g.m A H (.ins c fs l) v := q
    simp only [Rep] at q
    obtain ⟨a, C, dx, vs', e1, n, hc, h1, hl, r⟩ := q
    exact (r.no_own hj).elim
  · subst h1
    refine ⟨fun j hj => (by simp at hj), fun c fs l e j hj => ?_⟩
    cases e
    exact q.own_lt hj
  · subst h1
    exact ⟨fun j hj => (by simp at hj), fun c fs l e j hj => by cases e⟩
  · subst h1
    exact ⟨fun j hj => (by simp at hj), fun c fs l e j hj => by cases e⟩
theorem Sta.cal {g : Gm} {S S' : Store} (s : Sta K g A H S) (h : Cal S S') {k : Nat} {ds : List D} (hk : k < A.length) (e : S'[k]? = some ds) : CalC A.length ds := by
  rcases h k ds (by rw [s.len]; exact hk) e with h | h
  · exact s.calm h
  · rw [← s.len]; exact h
theorem Sta.drop {g : Gm} {S0 S : Store} {H0 : Hp} {l : List Addr} (s0 : Sta K g A H0 S0) (s : Sta K g (A ++ l) H S) (c : Cal S0 S) : Sta K g A H (S.take A.length) := by
  refine ⟨(List.nodup_append.mp s.nd).1, ?_, fun k a ds h1 h2 => ?_, g.sub (fun _ m => List.mem_append_left _ m) s.gh⟩
  · rw [List.length_take, s.len, List.length_append]; omega
  · have hk := (List.getElem?_eq_some_iff.mp h1).1
    rw [List.getElem?_take_of_lt hk] at h2
    exact (s.at' k a ds (by rw [List.getElem?_append_left hk]; exact h1) h2).to rfl (fun ds vs => Reps.anti ds vs) (fun vs q => q.sub (fun _ m => List.mem_append_left _ m) fun j hj => (List.getElem?_append_left ((s0.cal c hk h2).1 j hj)).symm) fun c' fs l' vs e q => q.sub (fun _ m => List.mem_append_left _ m) fun j hj => (List.getElem?_append_left ((s0.cal c hk h2).2 c' fs l' e j hj)).symm
/-- a list of one's own behind the n-th becomes data -/
def frzD (n : Nat) (S : Store) : D → Option D
  | .own j => if j < n then some (.own j) else match S[j]? with
    | some l => if clsd l = true then some (.lst l) else none
    | none => none
  | d => some d
def frzL (n : Nat) (S : Store) : List D → Option (List D)
  | [] => some []
  | d :: ds => match frzD n S d, frzL n S ds with
    | some x, some xs => some (x :: xs)
    | _, _ => none
theorem frzD_of {n : Nat} {S : Store} {d : D} (h : isOwn d = false) : frzD n S d = some d := by cases d <;> first | rfl | cases h
theorem frzL_of {n : Nat} {S : Store} : ∀ {ds : List D}, clsd ds = true → frzL n S ds = some ds
  | [], _ => rfl
  | d :: ds, h => by
    simp only [clsd, List.any_cons, Bool.not_or, Bool.and_eq_true, Bool.not_eq_true'] at h
    unfold frzL
    rw [frzD_of h.1, frzL_of (by simpa [clsd] using h.2)]
theorem frz_rep {g : Gm} {S : Store} {A B : List Addr} {n : Nat} {ds0 : List D} (s : Sta K g A H S) (hs : ∀ a, a ∈ B → a ∈ A) (hB : ∀ j, j < n → B[j]? = A[j]?) (hno : ∀ j q, n ≤ j → A[j]? = some q → ¬ S[j]? = some ds0 → q ∉ B) :
    ∀ {ds ds' : List D} {vs : List V}, (∀ j, D.own j ∈ ds → D.own j ∈ ds0) → RepFs K g.m A H ds vs → frzL n S ds = some ds' → RepFs K g.m B H ds' vs
  | [], ds', vs, _, h, e => by cases e; exact h
  | d :: ds, ds', vs, hm, ⟨v, r, e1, h1, h2⟩, e => by
    unfold frzL at e
    rcases e3 : frzD n S d with _ | x
    · rw [e3] at e; cases e
    · rcases e4 : frzL n S ds with _ | xs
      · rw [e3, e4] at e; cases e
      · rw [e3, e4] at e
        cases e
        refine ⟨v, r, e1, ?_, frz_rep s hs hB hno (fun j hj => hm j (List.mem_cons_of_mem _ hj)) h2 e4⟩
        cases d <;> first | (cases e3; exact Rep.sub hs _ _ h1) | skip
        rename_i j
        obtain ⟨a, g1, g2, g3⟩ := h1
        unfold frzD at e3
        dsimp only at e3
        by_cases hj : j < n
        · rw [if_pos hj] at e3
          cases e3
          exact ⟨a, by rw [hB j hj]; exact g1, g2, g3⟩
        · rw [if_neg hj] at e3
          rcases e5 : S[j]? with _ | l
          · rw [e5] at e3; cases e3
          · rw [e5] at e3
            dsimp only at e3
            by_cases hc : clsd l = true
            · rw [if_pos hc] at e3
              cases e3
              obtain ⟨ws, g4, g5⟩ := s.lstC g1 g3 e5 hc
              show Rep K g.m B H (.lst l) v
              simp only [Rep]
              refine ⟨a, ws, g2, hno j a (Nat.le_of_not_lt hj) g1 ?_, g4, Reps.sub hs _ _ g5⟩
              intro z
              rw [e5] at z
              cases z
              have := hm j List.mem_cons_self
              have h3 : ds0.any isOwn = true := List.any_eq_true.mpr ⟨_, this, rfl⟩
              simp [clsd, h3] at hc
            · rw [if_neg hc] at e3; cases e3
/-- a def's own lists fall away but one -/
theorem Sta.pick {g : Gm} {S0 S : Store} {H0 : Hp} {l : List Addr} {k : Nat} {p : Addr} {ds : List D} (s0 : Sta K g A H0 S0) (s : Sta K g (A ++ l) H S) (c : Cal S0 S) (hk : A.length ≤ k) (hp : (A ++ l)[k]? = some p) (hd : S[k]? = some ds) (hkd : ∃ vs, H p = some (.lst vs)) {ds' : List D} (hf : frzL A.length S ds = some ds') : Sta K g (A ++ [p]) H (S.take A.length ++ [ds']) ∧ p ∈ l := by
  have hpl : p ∈ l := by
    rw [List.getElem?_append_right hk] at hp
    exact List.mem_of_getElem? hp
  have nd := List.nodup_append.mp s.nd
  have hsub : ∀ a, a ∈ A ++ [p] → a ∈ A ++ l := fun a h => by
    rcases List.mem_append.mp h with h | h
    · exact List.mem_append_left _ h
    · rw [List.mem_singleton.mp h]; exact List.mem_append_right _ hpl
  have hlen : (S.take A.length).length = A.length := by rw [List.length_take, s.len, List.length_append]; omega
  refine ⟨⟨?_, by simp [hlen, s.len], fun j a es h1 h2 => ?_, g.sub hsub s.gh⟩, hpl⟩
  · rw [List.nodup_append]
    refine ⟨nd.1, by simp, fun a ha b hb e => ?_⟩
    rw [List.mem_singleton.mp hb] at e
    exact nd.2.2 a ha p hpl e
  · by_cases hj : j < A.length
    · rw [List.getElem?_append_left hj] at h1
      rw [List.getElem?_append_left (by rw [hlen]; exact hj), List.getElem?_take_of_lt hj] at h2
      refine (s.at' j a es (by rw [List.getElem?_append_left hj]; exact h1) h2).to rfl (fun _ _ => Reps.sub hsub _ _) (fun vs q => q.sub hsub fun i hi => ?_) fun c' fs l' vs e q => q.sub hsub fun i hi => ?_
      · have hl := (s0.cal c hj h2).1 i hi
        rw [List.getElem?_append_left hl, List.getElem?_append_left hl]
      · have hl := (s0.cal c hj h2).2 c' fs l' e i hi
        rw [List.getElem?_append_left hl, List.getElem?_append_left hl]
    · have hj' : A.length ≤ j := Nat.le_of_not_lt hj
      rw [List.getElem?_append_right hj'] at h1
      rw [List.getElem?_append_right (by rw [hlen]; exact hj'), hlen] at h2
      have e0 : j - A.length = 0 := by
        have := (List.getElem?_eq_some_iff.mp h1).1
        simpa using this
      rw [e0] at h1 h2
      have ea : p = a := by simpa using h1
      have es' : ds' = es := by simpa using h2
      subst ea es'
      obtain ⟨ws, h3, q⟩ := (s.at' k p ds hp hd).lst hkd
      refine .inl ⟨ws, h3, frz_rep (ds0 := ds) s hsub (fun j hj => ?_) (fun j q hj hq hn => ?_) (fun j hj => hj) q hf⟩
      · rw [List.getElem?_append_left hj, List.getElem?_append_left hj]
      · intro hm
        have hjl : A.length ≤ j := hj
        rcases List.mem_append.mp hm with hm | hm
        · rw [List.getElem?_append_right hjl] at hq
          exact nd.2.2 q hm q (List.mem_of_getElem? hq) rfl
        · rw [List.mem_singleton.mp hm] at hq
          obtain ⟨g1, g2⟩ := List.getElem?_eq_some_iff.mp hq
          obtain ⟨g3, g4⟩ := List.getElem?_eq_some_iff.mp hp
          have : j = k := (List.getElem_inj s.nd).mp (g2.trans g4.symm)
          exact hn (by rw [this]; exact hd)
theorem Reps.length : ∀ {ds : List D} {vs : List V}, Reps K mg A H ds vs → ds.length = vs.length
  | [], vs, h => by simp only [Reps] at h; rw [h]; rfl
  | d :: ds, vs, h => by
    simp only [Reps] at h
    obtain ⟨v, r, e, _, h2⟩ := h
    rw [e, List.length_cons, List.length_cons, Reps.length h2]
theorem RepSs.length {mg : Gm} : ∀ {ds : List SV} {vs : List V}, RepSs K mg A H ds vs → ds.length = vs.length
  | [], vs, h => by rw [show vs = [] from h]; rfl
  | d :: ds, vs, ⟨v, r, e, _, h2⟩ => by
    rw [e, List.length_cons, List.length_cons, RepSs.length h2]
theorem Reps.append : ∀ {ds es : List D} {vs ws : List V}, Reps K mg A H ds vs → Reps K mg A H es ws → Reps K mg A H (ds ++ es) (vs ++ ws)
  | [], es, vs, ws, h, k => by simp only [Reps] at h; rw [h]; exact k
  | d :: ds, es, vs, ws, h, k => by
    simp only [Reps] at h
    obtain ⟨v, r, e, h1, h2⟩ := h
    rw [e]
    show Reps K mg A H (d :: (ds ++ es)) (v :: (r ++ ws))
    simp only [Reps]
    exact ⟨v, r ++ ws, rfl, h1, Reps.append h2 k⟩
theorem Reps.get : ∀ {ds : List D} {vs : List V} {i : Nat} {d : D}, Reps K mg A H ds vs → ds[i]? = some d → ∃ v, vs[i]? = some v ∧ Rep K mg A H d v
  | [], vs, i, d, h, e => by simp at e
  | x :: ds, vs, 0, d, h, e => by
    simp only [Reps] at h
    obtain ⟨v, r, e1, h1, h2⟩ := h
    simp at e
    subst e e1
    exact ⟨v, rfl, h1⟩
  | x :: ds, vs, i + 1, d, h, e => by
    simp only [Reps] at h
    obtain ⟨v, r, e1, h1, h2⟩ := h
    subst e1
    obtain ⟨u, h3, h4⟩ := Reps.get (i := i) h2 (by simpa using e)
    exact ⟨u, by simpa using h3, h4⟩
theorem Reps.set : ∀ {ds : List D} {vs : List V} (i : Nat) {d : D} {v : V}, Reps K mg A H ds vs → Rep K mg A H d v → Reps K mg A H (ds.set i d) (vs.set i v)
  | [], vs, i, d, v, h, k => by simp only [Reps] at h; rw [h]; simpa using (by simp only [Reps] : Reps K mg A H [] [])
  | x :: ds, vs, 0, d, v, h, k => by
    simp only [Reps] at h
    obtain ⟨u, r, e1, h1, h2⟩ := h
    subst e1
    simp only [List.set_cons_zero, Reps]
    exact ⟨v, r, rfl, k, h2⟩
  | x :: ds, vs, i + 1, d, v, h, k => by
    simp only [Reps] at h
    obtain ⟨u, r, e1, h1, h2⟩ := h
    subst e1
    simp only [List.set_cons_succ, Reps]
    exact ⟨u, r.set i v, rfl, h1, Reps.set i h2 k⟩
theorem EnvR.set {mg : Gm} {σ : St} {env : Env} {i : Nat} {sv : SV} {v : V} (h : EnvR K mg A H σ env) (r : RepS K mg A H sv v) : EnvR K mg A H (σ.set i (some v)) (env.set i (some sv)) := by
  refine ⟨by simp [h.len], fun j w q => ?_⟩
  by_cases hj : j = i
  · subst hj
    by_cases hl : j < env.length
    · rw [List.getElem?_set_self hl] at q
      cases q
      exact ⟨v, by rw [List.getElem?_set_self (by rw [h.len]; exact hl)], r⟩
    · rw [List.getElem?_eq_none_iff.mpr (by simpa using hl)] at q
      cases q
  · rw [List.getElem?_set_ne (fun e => hj e.symm)] at q
    obtain ⟨u, h1, h2⟩ := h.at' j w q
    exact ⟨u, by rw [List.getElem?_set_ne (fun e => hj e.symm)]; exact h1, h2⟩
theorem EnvR.unset {mg : Gm} {σ : St} {env : Env} {i : Nat} (h : EnvR K mg A H σ env) (o : Option V) : EnvR K mg A H (σ.set i o) (env.set i none) := by
  refine ⟨by simp [h.len], fun j w q => ?_⟩
  by_cases hj : j = i
  · subst hj
    by_cases hl : j < env.length
    · rw [List.getElem?_set_self hl] at q
      cases q
    · rw [List.getElem?_eq_none_iff.mpr (by simpa using hl)] at q
      cases q
  · rw [List.getElem?_set_ne (fun e => hj e.symm)] at q
    obtain ⟨u, h1, h2⟩ := h.at' j w q
    exact ⟨u, by rw [List.getElem?_set_ne (fun e => hj e.symm)]; exact h1, h2⟩
end
end DL
namespace DL
open PySem L2
inductive R (α : Type) where
  | ok (a : α)
  | err (c : Str) (fs : List Str) (l : List D)
abbrev M (α : Type) := Store → Option (R α × Store)
def ret {α : Type} (a : α) : M α := fun S => some (.ok a, S)
def stuck {α : Type} : M α := fun _ => none
def raise {α : Type} (c : Str) (fs : List Str) (l : List D) : M α := fun S => some (.err c fs l, S)
def bnd {α β : Type} (m : M α) (k : α → M β) : M β := fun S => match m S with
  | some (.ok a, S') => k a S'
  | some (.err c fs l, S') => some (.err c fs l, S')
  | none => none
theorem bnd_assoc {α β γ : Type} (m : M α) (k : α → M β) (j : β → M γ) : bnd (bnd m k) j = bnd m fun a => bnd (k a) j := by
  funext S
  unfold bnd
  rcases m S with _ | ⟨_ | _, S'⟩ <;> rfl
theorem bnd_some {α β : Type} {m : M α} {k : α → M β} {S S' : Store} {r : R β} (he : bnd m k S = some (r, S')) :
    (∃ a S1, m S = some (.ok a, S1) ∧ k a S1 = some (r, S')) ∨ (∃ c fs l, m S = some (.err c fs l, S') ∧ r = .err c fs l) := by
  unfold bnd at he
  rcases q : m S with _ | ⟨a | ⟨c, fs, l⟩, S1⟩
  · rw [q] at he; cases he
  · rw [q] at he; exact .inl ⟨a, S1, rfl, he⟩
  · rw [q] at he; cases he; exact .inr ⟨c, fs, l, rfl, rfl⟩
/-- what an exception bears -/
def ErrR (K : PySem.W.Frag) (mg : Str → Option Value) (A : List Addr) (H : Hp) (dd : Option Addr) (fs : List Str) (l : List D) : Prop :=
  (l = [] ∧ fs = []) ∨ ∃ d vs, dd = some d ∧ d ∉ A ∧ H d = some (.xd (fs.zip vs)) ∧ fs.length = vs.length ∧ Reps K mg A H l vs
/-- what is wished of an exception, and what is known for good -/
structure WG where
  w : WX
  G : List Addr → Hp → Prop
  mono : ∀ {A : List Addr} {H : Hp} {A' : List Addr} {H' : Hp}, Ext A H A' H' → G A H → G A' H'
  sub : ∀ {A B : List Addr} {H : Hp}, (∀ a, a ∈ B → a ∈ A) → G A H → G B H
  xa : Option Addr
def wg0 (W : WX) : WG := ⟨W, fun _ _ => True, fun _ _ => trivial, fun _ _ => trivial, none⟩
abbrev gm (X : Cx) (W : WG) : Gm := ⟨X.mg, W.G, W.mono, W.sub, W.xa⟩
section
variable (K : PySem.W.Frag) (mg : Gm)
abbrev RelT (α β : Type) := List Addr → Hp → α → β → Prop
/-- what is to hold behind -/
def Po {α β : Type} (rel : RelT α β) (W : WG) (Q : β → Hp → Prop) (σ : St) (A : List Addr) (H : Hp) : R α → Store → Prop
  | .ok a, S' => ∀ b A' H', Ext A H A' H' → Sta K mg A' H' S' → rel A' H' a b → Q b H'
  | .err c fs l, S' => ∀ C dd A' H', mg.m c = some (.ref C) → Ext A H A' H' → Sta K mg A' H' S' → ErrR K mg.m A' H' dd fs l → W.w (.ref C) dd σ H'
def TOk {α β : Type} (rel : RelT α β) (W : WG) (t : St → Hp → (β → Hp → Prop) → Prop) (f : Env → M α) : Prop :=
  ∀ (σ : St) (H : Hp) (A : List Addr) (S : Store) (env : Env) (r : R α) (S' : Store), Sta K mg A H S → EnvR K mg A H σ env → f env S = some (r, S') → ∀ Q, Po K mg rel W Q σ A H r S' → t σ H Q
def relS : RelT SV V := fun A H a v => RepS K mg A H a v
def relB : RelT Bool Bool := fun _ _ a b => a = b
def relA : RelT (List SV) (List V) := fun A H a v => RepSs K mg A H a v
end
section
variable {K : PySem.W.Frag} {mg : Gm} {α β γ δ ε ζ : Type} {W : WG}
theorem Po.mono {rel : RelT α β} {Q : β → Hp → Prop} {σ : St} {A A' : List Addr} {H H' : Hp} {r : R α} {S' : Store} (p : Po K mg rel W Q σ A H r S') (e : Ext A H A' H') : Po K mg rel W Q σ A' H' r S' := by
  cases r with
  | ok a => exact fun b A2 H2 e2 s q => p b A2 H2 (e.trans e2) s q
  | err c fs l => exact fun C dd A2 H2 hc e2 s q => p C dd A2 H2 hc (e.trans e2) s q
theorem tbind {rel : RelT α β} {rel2 : RelT γ δ} {ta : St → Hp → (β → Hp → Prop) → Prop} {tk : β → St → Hp → (δ → Hp → Prop) → Prop} {f : Env → M α} {g : Env → α → M γ} (ha : TOk K mg rel W ta f)
    (hk : ∀ (a : α) (b : β) (σ : St) (H : Hp) (A : List Addr) (S : Store) (env : Env) (r : R γ) (S' : Store), Sta K mg A H S → EnvR K mg A H σ env → rel A H a b → g env a S = some (r, S') → ∀ Q, Po K mg rel2 W Q σ A H r S' → tk b σ H Q) :
    TOk K mg rel2 W (fun σ H Q => ta σ H fun x H1 => tk x σ H1 Q) (fun env => bnd (f env) (g env)) := by
  intro σ H A S env r S' hS hE he Q hp
  rcases bnd_some (m := f env) (k := g env) he with ⟨a, S1, ef, q⟩ | ⟨c, fs, l, ef, rfl⟩
  · exact ha σ H A S env _ S1 hS hE ef _ fun b A' H' e s z => hk a b σ H' A' S1 env r S' s (hE.mono e) z q Q (hp.mono e)
  · exact ha σ H A S env _ _ hS hE ef _ hp
theorem tbind2 {rel2 : RelT γ δ} {rel3 : RelT ε ζ} {ta : TE} {tb : St → Hp → (δ → Hp → Prop) → Prop} {tk : V → δ → St → Hp → (ζ → Hp → Prop) → Prop} {f : Env → M SV} {g : Env → M γ} {o : SV → γ → M ε} (ha : TOk K mg (relS K mg) W ta f) (hb : TOk K mg rel2 W tb g)
    (hk : ∀ (a : SV) (b : γ) (x : V) (y : δ) (σ : St) (H : Hp) (A : List Addr) (S : Store) (r : R ε) (S' : Store), Sta K mg A H S → RepS K mg A H a x → rel2 A H b y → o a b S = some (r, S') → ∀ Q, Po K mg rel3 W Q σ A H r S' → tk x y σ H Q) :
    TOk K mg rel3 W (fun σ H Q => ta σ H fun x H1 => tb σ H1 fun y H2 => tk x y σ H2 Q) (fun env => bnd (f env) fun a => bnd (g env) fun b => o a b) := by
  refine tbind (rel := relS K mg) (tk := fun x σ H Q => tb σ H fun y H2 => tk x y σ H2 Q) (g := fun env a => bnd (g env) fun b => o a b) ha ?_
  intro a x σ H A S env r S' hS hE hx he Q hp
  rcases bnd_some (m := g env) (k := fun b => o a b) he with ⟨b, S1, ef, q⟩ | ⟨c, fs, l, ef, rfl⟩
  · exact hb σ H A S env _ S1 hS hE ef _ fun y A' H' e s z => hk a b x y σ H' A' S1 r S' s (RepS.mono e hx) z q Q (hp.mono e)
  · exact hb σ H A S env _ _ hS hE ef _ hp
/-- a value that is there -/
theorem Po.val {rel : RelT α β} {Q : β → Hp → Prop} {σ : St} {A : List Addr} {H : Hp} {a : α} {S : Store} {v : β} (p : Po K mg rel W Q σ A H (.ok a) S) (s : Sta K mg A H S) (r : rel A H a v) : Q v H := p v A H (Ext.refl A H) s r
/-- a new thing, of data alone -/
theorem Po.new {Q : VK} {σ : St} {A : List Addr} {H : Hp} {d : D} {S : Store} {p : Addr} {o : HO} (q : Po K mg (relS K mg) W Q σ A H (.ok (.d d)) S) (s : Sta K mg A H S) (hp : H p = none) (r : Rep K mg.m A (upd H p o) d (.ref p)) : Q (.ref p) (upd H p o) :=
  q _ A _ (Ext.new hp) (s.new hp) r
end
section
variable (X : Cx) (W : WG)
def DE (e : Expr) (f : Env → M SV) : Prop := ∃ t : TE, PE X e t ∧ TOk X.K (gm X W) (relS X.K (gm X W)) W t f
def DT (e : Expr) (f : Env → M Bool) : Prop := ∃ t : TT, PT X e t ∧ TOk X.K (gm X W) relB W t f
def DW (e : Expr) (f : Env → M Bool) : Prop := ∃ t : TT, PW X e t ∧ TOk X.K (gm X W) relB W t f
def DA (es : List Expr) (f : Env → M (List SV)) : Prop := ∃ t : TA, PA X es t ∧ TOk X.K (gm X W) (relA X.K (gm X W)) W t f
def ROk (r : R2) (o : SV → SV → M SV) : Prop := ∀ (a b : SV) (x y : V) (σ : St) (H : Hp) (A : List Addr) (S : Store) (rr : R SV) (S' : Store), Sta X.K (gm X W) A H S → RepS X.K (gm X W) A H a x → RepS X.K (gm X W) A H b y → o a b S = some (rr, S') → ∀ Q, Po X.K (gm X W) (relS X.K (gm X W)) W Q σ A H rr S' → r x y H Q
def UOk (r : V → Hp → VK → Prop) (o : SV → M SV) : Prop := ∀ (a : SV) (x : V) (σ : St) (H : Hp) (A : List Addr) (S : Store) (rr : R SV) (S' : Store), Sta X.K (gm X W) A H S → RepS X.K (gm X W) A H a x → o a S = some (rr, S') → ∀ Q, Po X.K (gm X W) (relS X.K (gm X W)) W Q σ A H rr S' → r x H Q
def COk (r : List V → Hp → VK → Prop) (o : List SV → M SV) : Prop := ∀ (a : List SV) (x : List V) (σ : St) (H : Hp) (A : List Addr) (S : Store) (rr : R SV) (S' : Store), Sta X.K (gm X W) A H S → RepSs X.K (gm X W) A H a x → o a S = some (rr, S') → ∀ Q, Po X.K (gm X W) (relS X.K (gm X W)) W Q σ A H rr S' → r x H Q
end
def eOp (o : SV → SV → M SV) (f g : Env → M SV) : Env → M SV := fun env => bnd (f env) fun x => bnd (g env) fun y => o x y
def eUn (o : SV → M SV) (f : Env → M SV) : Env → M SV := fun env => bnd (f env) o
def eArg {α : Type} (o : List SV → M α) (fa : Env → M (List SV)) : Env → M α := fun env => bnd (fa env) o
/-- a value that is a bool -/
def asB : SV → M Bool
  | .d (.bl b) => ret b
  | _ => stuck
def eTst (f : Env → M SV) : Env → M Bool := fun env => bnd (f env) asB
section
variable {X : Cx} {W : WG} {e a b c : Expr} {f g h : Env → M SV} {pos : Pos}
def eVar (i : Nat) : Env → M SV := fun env => match env[i]? with
  | some (some sv) => ret sv
  | _ => stuck
def eC (d : D) : Env → M SV := fun _ => ret (.d d)
theorem de_var (i : Nat) {x : Str} (hN : X.N[i]? = some x := by rfl) (hv : Vis X.env.scope x := by first | exact Or.inl rfl | exact Or.inr (Or.inl rfl) | exact Or.inr (Or.inr rfl)) (hd : (x == ("__debug__" : Str)) = false := by decide)
    (hcd : (x == ("__classdict__" : Str)) = false := by decide) : DE X W (.Name x pos) (eVar i) := by
  refine ⟨_, pe_var hN hv hd hcd, fun σ H A S env r S' hS hE he Q hp => ?_⟩
  unfold eVar at he
  rcases q : env[i]? with _ | _ | sv
  · rw [q] at he; cases he
  · rw [q] at he; cases he
  · rw [q] at he
    cases he
    obtain ⟨v, h1, h2⟩ := hE.at' i sv q
    exact ⟨v, h1, hp.val hS h2⟩
theorem tok_c {d : D} {v : V} (hr : ∀ A H, Rep X.K X.mg A H d v) : TOk X.K (gm X W) (relS X.K (gm X W)) W (tC v) (eC d) := fun σ H A S env r S' hS hE he Q hp => by
  cases he
  exact hp.val hS (hr A H)
theorem de_int {i j pos} : DE X W (.Constant (.int i) j pos) (eC (.int i)) := ⟨_, pe_int, tok_c fun _ _ => by simp only [Rep]⟩
theorem de_bl {i j pos} : DE X W (.Constant (.bool i) j pos) (eC (.bl i)) := ⟨_, pe_bl, tok_c fun _ _ => by simp only [Rep]⟩
theorem de_non {j pos} : DE X W (.Constant .none j pos) (eC .non) := ⟨_, pe_non, tok_c fun _ _ => by simp only [Rep]⟩
theorem de_str {x j pos} : DE X W (.Constant (.str x) j pos) (eC (.str x)) := ⟨_, pe_str, tok_c fun _ _ => by simp only [Rep]⟩
theorem de_op {op : Operator} {r : R2} {o : SV → SV → M SV} (ho : OpR X (binaryOp op) r) (hr : ROk X W r o) (ha : DE X W a f) (hb : DE X W b g) : DE X W (.BinOp a op b pos) (eOp o f g) := by
  obtain ⟨ta, pa, ka⟩ := ha
  obtain ⟨tb, pb, kb⟩ := hb
  exact ⟨_, pe_op ho pa pb, tbind2 ka kb fun x y u v σ H A S r S' hS hx hy he Q hp => hr x y u v σ H A S r S' hS hx hy he Q hp⟩
theorem de_cmp {op : CmpOp} {r : R2} {o : SV → SV → M SV} (ho : OpR X (compareOp op) r) (hr : ROk X W r o) (ha : DE X W a f) (hb : DE X W b g) (hm : behindInMarks op b = false) : DE X W (.Compare a [op] [b] pos) (eOp o f g) := by
  obtain ⟨ta, pa, ka⟩ := ha
  obtain ⟨tb, pb, kb⟩ := hb
  exact ⟨_, pe_cmpR ho pa pb hm, tbind2 ka kb fun x y u v σ H A S r S' hS hx hy he Q hp => hr x y u v σ H A S r S' hS hx hy he Q hp⟩
theorem de_un {op : UnaryOp} {r : V → Hp → VK → Prop} {o : SV → M SV} (ho : UnR X (unaryOp op) r) (hr : UOk X W r o) (ha : DE X W a f) : DE X W (.UnaryOp op a pos) (eUn o f) := by
  obtain ⟨ta, pa, ka⟩ := ha
  exact ⟨_, pe_un ho pa, tbind (rel := relS X.K (gm X W)) (rel2 := relS X.K (gm X W)) (g := fun _ x => o x) (tk := fun x _ H Q => r x H Q) ka fun x u σ H A S env rr S' hS hE hx he Q hp => hr x u σ H A S rr S' hS hx he Q hp⟩
theorem tok_B {t : TE} {f : Env → M SV} (h : TOk X.K (gm X W) (relS X.K (gm X W)) W t f) : TOk X.K (gm X W) relB W (fun σ H Q => t σ H fun x H' => ∃ k, x = .bl k ∧ Q k H') (fun env => bnd (f env) asB) :=
  tbind (g := fun _ x => asB x) (tk := fun x σ H Q => ∃ k, x = .bl k ∧ Q k H) h fun a x σ H A S env r S' hS hE hx he Q hp => by
    unfold asB at he
    split at he
    · rename_i b
      cases he
      have hx' : Rep X.K X.mg A H (.bl b) x := hx
      simp only [Rep] at hx'
      exact ⟨b, hx', hp.val hS rfl⟩
    · cases he
theorem dt_cmp {op : CmpOp} {r : R2} {o : SV → SV → M SV} (ho : OpR X (compareOp op) r) (hr : ROk X W r o) (ha : DE X W a f) (hb : DE X W b g) (hm : behindInMarks op b = false) : DT X W (.Compare a [op] [b] pos) (eTst (eOp o f g)) := by
  obtain ⟨ta, pa, ka⟩ := ha
  obtain ⟨tb, pb, kb⟩ := hb
  exact ⟨_, pt_cmpR ho pa pb hm, tok_B (tbind2 ka kb fun x y u v σ H A S r S' hS hx hy he Q hp => hr x y u v σ H A S r S' hS hx hy he Q hp)⟩
theorem dt_val (ha : DE X W e f) (he : ∀ whole, isTrue e X.env whole = (do let v ← whole; standAt e.pos; holding [v] (truthy v)) := by intro _; rfl) : DT X W e (eTst f) := by
  obtain ⟨ta, pa, ka⟩ := ha
  exact ⟨_, pt_val pa he, tok_B ka⟩
variable {t u : Env → M Bool} {rest : List Expr}
def tyAnd (t u : Env → M Bool) : Env → M Bool := fun env => bnd (t env) fun c => if c then u env else ret false
def tyOr (t u : Env → M Bool) : Env → M Bool := fun env => bnd (t env) fun c => if c then ret true else u env
def tyNot (t : Env → M Bool) : Env → M Bool := fun env => bnd (t env) fun c => ret (!c)
theorem dw_and1 (h : DT X W a t) : DW X W (.BoolOp .And [a] pos) t := let ⟨x, p, k⟩ := h; ⟨x, pw_and1 p, k⟩
theorem dw_or1 (h : DT X W a t) : DW X W (.BoolOp .Or [a] pos) t := let ⟨x, p, k⟩ := h; ⟨x, pw_or1 p, k⟩
theorem dw_and (h : DT X W a t) (h2 : DW X W (.BoolOp .And (b :: rest) pos) u) : DW X W (.BoolOp .And (a :: b :: rest) pos) (tyAnd t u) := by
  obtain ⟨x, p, k⟩ := h
  obtain ⟨y, p2, k2⟩ := h2
  refine ⟨_, pw_and p p2, tbind (rel := relB) (g := fun env c => if c then u env else ret false) (tk := fun c σ H Q => if c = true then y σ H Q else Q false H) k fun c c' σ H A S env r S' hS hE hx he Q hp => ?_⟩
  cases (show c = c' from hx)
  cases c with
  | true => exact k2 σ H A S env r S' hS hE he Q hp
  | false =>
    cases he
    exact hp.val hS rfl
theorem dw_or (h : DT X W a t) (h2 : DW X W (.BoolOp .Or (b :: rest) pos) u) : DW X W (.BoolOp .Or (a :: b :: rest) pos) (tyOr t u) := by
  obtain ⟨x, p, k⟩ := h
  obtain ⟨y, p2, k2⟩ := h2
  refine ⟨_, pw_or p p2, tbind (rel := relB) (g := fun env c => if c then ret true else u env) (tk := fun c σ H Q => if c = true then Q true H else y σ H Q) k fun c c' σ H A S env r S' hS hE hx he Q hp => ?_⟩
  cases (show c = c' from hx)
  cases c with
  | false => exact k2 σ H A S env r S' hS hE he Q hp
  | true =>
    cases he
    exact hp.val hS rfl
theorem dt_bool (h : DW X W e t) : DT X W e t := let ⟨x, p, k⟩ := h; ⟨x, p.pt, k⟩
theorem dt_not (h : DT X W a t) : DT X W (.UnaryOp .Not a pos) (tyNot t) := by
  obtain ⟨x, p, k⟩ := h
  refine ⟨_, pt_not p, tbind (rel := relB) (g := fun env c => ret (!c)) (tk := fun c σ H Q => Q (!c) H) k fun c c' σ H A S env r S' hS hE hx he Q hp => ?_⟩
  cases (show c = c' from hx)
  cases he
  exact hp.val hS rfl
/-- as values: bools -/
def eB (t : Env → M Bool) : Env → M SV := fun env => bnd (t env) fun b => ret (.d (.bl b))
def eAnd (f g : Env → M SV) : Env → M SV := fun env => bnd (bnd (f env) asB) fun c => if c then g env else ret (.d (.bl false))
def eOr (f g : Env → M SV) : Env → M SV := fun env => bnd (bnd (f env) asB) fun c => if c then ret (.d (.bl true)) else g env
def eNot (f : Env → M SV) : Env → M SV := fun env => bnd (bnd (f env) asB) fun c => ret (.d (.bl (!c)))
theorem de_one {op} (h : DE X W a f) : DE X W (.BoolOp op [a] pos) f := let ⟨x, p, k⟩ := h; ⟨x, pe_one p, k⟩
theorem de_and (h : DE X W a f) (h2 : DE X W (.BoolOp .And (b :: rest) pos) g) : DE X W (.BoolOp .And (a :: b :: rest) pos) (eAnd f g) := by
  obtain ⟨x, p, k⟩ := h
  obtain ⟨y, p2, k2⟩ := h2
  refine ⟨_, pe_and p p2, ?_⟩
  have z := tbind (rel := relB) (rel2 := relS X.K (gm X W)) (g := fun env c => if c then g env else ret (.d (.bl false))) (tk := fun c σ H Q => if c = true then y σ H Q else Q (.bl false) H) (tok_B k) fun c c' σ H A S env r S' hS hE hx he Q hp => by
    cases (show c = c' from hx)
    cases c with
    | true => exact k2 σ H A S env r S' hS hE he Q hp
    | false =>
      cases he
      exact hp.val hS (show Rep X.K X.mg A H (.bl false) (.bl false) by simp only [Rep])
  exact z
theorem de_not (h : DE X W a f) : DE X W (.UnaryOp .Not a pos) (eNot f) := by
  obtain ⟨x, p, k⟩ := h
  refine ⟨_, pe_not p, ?_⟩
  have z := tbind (rel := relB) (rel2 := relS X.K (gm X W)) (g := fun env c => ret (.d (.bl (!c)))) (tk := fun c σ H Q => Q (.bl (!c)) H) (tok_B k) fun c c' σ H A S env r S' hS hE hx he Q hp => by
    cases (show c = c' from hx)
    cases he
    exact hp.val hS (show Rep X.K X.mg A H (.bl (!c)) (.bl (!c)) by simp only [Rep])
  exact z
def eIf (t : Env → M Bool) (f g : Env → M SV) : Env → M SV := fun env => bnd (t env) fun c => if c then f env else g env
theorem de_if (h : DT X W c t) (ha : DE X W a f) (hb : DE X W b g) : DE X W (.IfExp c a b pos) (eIf t f g) := by
  obtain ⟨x, p, k⟩ := h
  obtain ⟨y, p2, k2⟩ := ha
  obtain ⟨z, p3, k3⟩ := hb
  refine ⟨_, pe_ifExp p p2 p3, tbind (rel := relB) (g := fun env c => if c then f env else g env) (tk := fun c σ H Q => if c = true then y σ H Q else z σ H Q) k fun c c' σ H A S env r S' hS hE hx he Q hp => ?_⟩
  cases (show c = c' from hx)
  cases c with
  | true => exact k2 σ H A S env r S' hS hE he Q hp
  | false => exact k3 σ H A S env r S' hS hE he Q hp
variable {es : List Expr} {fa : Env → M (List SV)}
def aNil : Env → M (List SV) := fun _ => ret []
def aCons (f : Env → M SV) (fa : Env → M (List SV)) : Env → M (List SV) := fun env => bnd (f env) fun x => bnd (fa env) fun xs => ret (x :: xs)
theorem da_nil : DA X W [] aNil := ⟨_, pa_nil, fun σ H A S env r S' hS hE he Q hp => by
  cases he
  exact hp.val hS rfl⟩
theorem da_cons (h : DE X W e f) (h2 : DA X W es fa) (hs : starEach (e :: es) X.env = (false, eval e X.env) :: starEach es X.env := by rfl) : DA X W (e :: es) (aCons f fa) := by
  obtain ⟨x, p, k⟩ := h
  obtain ⟨y, p2, k2⟩ := h2
  refine ⟨_, pa_cons p p2 hs, tbind2 (o := fun x xs => ret (x :: xs)) (tk := fun x xs σ H Q => Q (x :: xs) H) k k2 fun a as v vs σ H A S r S' hS hx hy he Q hp => ?_⟩
  cases he
  exact hp.val hS ⟨v, vs, rfl, hx, hy⟩
/-- all of them data -/
def datas : List SV → Option (List D)
  | [] => some []
  | .d x :: xs => (datas xs).map (x :: ·)
  | .ptr _ :: _ => none
  | .exc :: _ => none
  | .obj _ :: _ => none
  | .dic _ :: _ => none
  | .sq _ _ :: _ => none
theorem datas_rep {K : PySem.W.Frag} {mg : Gm} {A : List Addr} {H : Hp} : ∀ {xs : List SV} {vs : List V} {ds : List D}, RepSs K mg A H xs vs → datas xs = some ds → Reps K mg.m A H ds vs
  | [], vs, ds, h, e => by
    cases e
    simp only [Reps]
    exact h
  | .d x :: xs, vs, ds, ⟨v, r, e1, h1, h2⟩, e => by
    simp only [datas, Option.map_eq_some_iff] at e
    obtain ⟨ds', e2, e3⟩ := e
    subst e3
    simp only [Reps]
    exact ⟨v, r, e1, h1, datas_rep h2 e2⟩
  | .ptr _ :: _, _, _, _, e => by cases e
  | .exc :: _, _, _, _, e => by cases e
  | .obj _ :: _, _, _, _, e => by cases e
  | .dic _ :: _, _, _, _, e => by cases e
  | .sq _ _ :: _, _, _, _, e => by cases e
def lim : Nat := 16777216
theorem lim_ok {n : Nat} (h : n ≤ lim) : n ≤ sizeLine := by rw [sizeLine_eq]; exact h
def mkTup : List SV → M SV := fun xs => match datas xs with
  | some ds => if ds.length ≤ lim then ret (.d (.tup ds)) else stuck
  | none => stuck
def mkLst : List SV → M SV := fun xs => match datas xs with
  | some ds => if ds.length ≤ lim then ret (.d (.lst ds)) else stuck
  | none => stuck
/-- what is put into a field -/
def fldD : SV → Option D
  | .d x => some x
  | .ptr j => some (.own j)
  | _ => none
theorem fldD_rep {K : PySem.W.Frag} {g : Gm} {A : List Addr} {H : Hp} {sv : SV} {x : D} {v : V} (h : RepS K g A H sv v) (e : fldD sv = some x) : RepF K g.m A H x v := by
  cases sv <;> cases e
  · exact .of h
  · exact h
def fldDs : List SV → Option (List D)
  | [] => some []
  | x :: xs => match fldD x, fldDs xs with
    | some d, some ds => some (d :: ds)
    | _, _ => none
theorem fldDs_rep {K : PySem.W.Frag} {mg : Gm} {A : List Addr} {H : Hp} : ∀ {xs : List SV} {vs : List V} {ds : List D}, RepSs K mg A H xs vs → fldDs xs = some ds → RepFs K mg.m A H ds vs
  | [], vs, ds, h, e => by cases e; exact h
  | x :: xs, vs, ds, ⟨v, r, e1, h1, h2⟩, e => by
    unfold fldDs at e
    rcases e3 : fldD x with _ | d
    · rw [e3] at e; cases e
    · rcases e4 : fldDs xs with _ | ds'
      · rw [e3, e4] at e; cases e
      · rw [e3, e4] at e
        cases e
        exact ⟨v, r, e1, fldD_rep h1 e3, fldDs_rep h2 e4⟩
/-- a list of one's own -/
def mkOwn : List SV → M SV := fun xs => match fldDs xs with
  | some ds => if ds.length ≤ lim then (fun S => some (.ok (.ptr S.length), S ++ [ds])) else stuck
  | none => stuck
theorem tup_step {σ : St} {H : Hp} {A : List Addr} {S S' : Store} {as : List SV} {vs : List V} {r : R SV} {Q : VK} (hS : Sta X.K (gm X W) A H S) (hx : RepSs X.K (gm X W) A H as vs) (he : mkTup as S = some (r, S')) (hp : Po X.K (gm X W) (relS X.K (gm X W)) W Q σ A H r S') :
    vs.length ≤ sizeLine ∧ ∀ p, H p = none → Q (.ref p) (upd H p (.tup vs)) := by
  unfold mkTup at he
  rcases q : datas as with _ | ds
  · rw [q] at he; cases he
  · rw [q] at he
    have rd := datas_rep hx q
    by_cases hl : ds.length ≤ lim
    · replace he := (congrFun (if_pos hl) S).symm.trans he
      cases he
      refine ⟨by rw [← rd.length]; exact lim_ok hl, fun p hpn => hp.new hS hpn ?_⟩
      simp only [Rep]
      exact ⟨p, vs, rfl, hS.free hpn, upd_same, Reps.mono (Ext.new hpn) _ _ rd⟩
    · replace he := (congrFun (if_neg hl) S).symm.trans he
      cases he
theorem lst_step {σ : St} {H : Hp} {A : List Addr} {S S' : Store} {as : List SV} {vs : List V} {r : R SV} {Q : VK} (hS : Sta X.K (gm X W) A H S) (hx : RepSs X.K (gm X W) A H as vs) (he : mkLst as S = some (r, S')) (hp : Po X.K (gm X W) (relS X.K (gm X W)) W Q σ A H r S') :
    vs.length ≤ sizeLine ∧ ∀ p, H p = none → Q (.ref p) (upd H p (.lst vs)) := by
  unfold mkLst at he
  rcases q : datas as with _ | ds
  · rw [q] at he; cases he
  · rw [q] at he
    have rd := datas_rep hx q
    by_cases hl : ds.length ≤ lim
    · replace he := (congrFun (if_pos hl) S).symm.trans he
      cases he
      refine ⟨by rw [← rd.length]; exact lim_ok hl, fun p hpn => hp.new hS hpn ?_⟩
      simp only [Rep]
      exact ⟨p, vs, rfl, hS.free hpn, upd_same, Reps.mono (Ext.new hpn) _ _ rd⟩
    · replace he := (congrFun (if_neg hl) S).symm.trans he
      cases he
theorem own_at {A : List Addr} {p : Addr} {n : Nat} (h : n = A.length) : (A ++ [p])[n]? = some p := by
  subst h
  simp
theorem own_step {σ : St} {H : Hp} {A : List Addr} {S S' : Store} {as : List SV} {vs : List V} {r : R SV} {Q : VK} (hS : Sta X.K (gm X W) A H S) (hx : RepSs X.K (gm X W) A H as vs) (he : mkOwn as S = some (r, S')) (hp : Po X.K (gm X W) (relS X.K (gm X W)) W Q σ A H r S') :
    vs.length ≤ sizeLine ∧ ∀ p, H p = none → Q (.ref p) (upd H p (.lst vs)) := by
  unfold mkOwn at he
  rcases q : fldDs as with _ | ds
  · rw [q] at he; cases he
  · rw [q] at he
    have rd := fldDs_rep hx q
    by_cases hl : ds.length ≤ lim
    · replace he := (congrFun (if_pos hl) S).symm.trans he
      cases he
      exact ⟨by rw [← rd.length]; exact lim_ok hl, fun p hpn => hp _ _ _ (Ext.own hpn) (hS.ownF hpn rd) ⟨p, own_at hS.len, rfl, vs, upd_same⟩⟩
    · replace he := (congrFun (if_neg hl) S).symm.trans he
      cases he
theorem de_tup {x1} (h : DA X W es fa) : DE X W (.Tuple es x1 pos) (eArg mkTup fa) := by
  obtain ⟨x, p, k⟩ := h
  exact ⟨_, pe_tup p, tbind (rel := relA X.K (gm X W)) (rel2 := relS X.K (gm X W)) (g := fun _ x => mkTup x) (tk := fun (vs : List V) _ H (Q : VK) => vs.length ≤ sizeLine ∧ ∀ p, H p = none → Q (.ref p) (upd H p (.tup vs))) k fun a vs σ H A S env r S' hS hE hx he Q hp => tup_step hS hx he hp⟩
theorem de_lst (h : DA X W es fa) : DE X W (.List es pos) (eArg mkLst fa) := by
  obtain ⟨x, p, k⟩ := h
  exact ⟨_, pe_lst p, tbind (rel := relA X.K (gm X W)) (rel2 := relS X.K (gm X W)) (g := fun _ x => mkLst x) (tk := fun (vs : List V) _ H (Q : VK) => vs.length ≤ sizeLine ∧ ∀ p, H p = none → Q (.ref p) (upd H p (.lst vs))) k fun a vs σ H A S env r S' hS hE hx he Q hp => lst_step hS hx he hp⟩
theorem de_own (h : DA X W es fa) : DE X W (.List es pos) (eArg mkOwn fa) := by
  obtain ⟨x, p, k⟩ := h
  exact ⟨_, pe_lst p, tbind (rel := relA X.K (gm X W)) (rel2 := relS X.K (gm X W)) (g := fun _ x => mkOwn x) (tk := fun (vs : List V) _ H (Q : VK) => vs.length ≤ sizeLine ∧ ∀ p, H p = none → Q (.ref p) (upd H p (.lst vs))) k fun a vs σ H A S env r S' hS hE hx he Q hp => own_step hS hx he hp⟩
end
end DL
namespace DL
open PySem L2
mutual
def toPy : D → PyData
  | .non => .none
  | .bl b => .bool b
  | .int i => .int i
  | .str x => .str x
  | .tup l => .tuple (toPys l)
  | .lst l => .list (toPys l)
  | .scr l => .list (toPys l)
  | .ins _ _ _ => .none
  | .ty _ => .none
  | .cls _ => .none
  | .dct _ _ => .none
  | .kt l => .tuple (toPys l)
  | .dkk _ _ => .none
  | .own _ => .none
def toPys : List D → List PyData
  | [] => []
  | x :: xs => toPy x :: toPys xs
end
mutual
def plain : D → Bool
  | .non => true
  | .bl _ => true
  | .int _ => true
  | .str _ => true
  | .tup l => plains l
  | .lst l => plains l
  | .scr l => plains l
  | .ins _ _ _ => false
  | .ty _ => false
  | .cls _ => false
  | .dct _ _ => false
  | .kt l => plains l
  | .dkk _ _ => false
  | .own _ => false
def plains : List D → Bool
  | [] => true
  | x :: xs => plain x && plains xs
end
section
variable {K : PySem.W.Frag} {mg : Str → Option Value} {A : List Addr} {H : Hp}
mutual
theorem rep_dp : ∀ (d : D) (v : V), plain d = true → Rep K mg A H d v → Dp K H v (toPy d)
  | .non, v, _, h => by simp only [Rep] at h; subst h; exact .non
  | .bl b, v, _, h => by simp only [Rep] at h; subst h; exact .bl b
  | .int i, v, _, h => by simp only [Rep] at h; subst h; exact .int i
  | .str x, v, _, h => by simp only [Rep] at h; subst h; exact .str x
  | .tup l, v, p, h => by
    simp only [Rep] at h
    obtain ⟨a, vs, e, _, h1, r⟩ := h
    subst e
    exact .tup (SqT.of h1) (reps_dp l vs p r)
  | .lst l, v, p, h => by
    simp only [Rep] at h
    obtain ⟨a, vs, e, _, h1, r⟩ := h
    subst e
    exact .lst (SqL.of h1) (reps_dp l vs p r)
  | .scr l, v, p, h => by
    simp only [Rep] at h
    obtain ⟨a, vs, e, h1, r⟩ := h
    subst e
    exact .lst h1.sql (reps_dp l vs p r)
  | .ins _ _ _, v, p, h => by cases p
  | .ty _, v, p, h => by cases p
  | .cls _, v, p, h => by cases p
  | .dct _ _, v, p, h => by cases p
  | .dkk _ _, v, p, h => by cases p
  | .own _, v, p, h => by cases p
  | .kt l, v, p, h => by
    simp only [Rep] at h
    obtain ⟨a, vs, e, h1, r⟩ := h
    subst e
    exact .tup (h1 H) (reps_dp l vs p r)
theorem reps_dp : ∀ (ds : List D) (vs : List V), plains ds = true → Reps K mg A H ds vs → DpAll K H vs (toPys ds)
  | [], vs, _, h => by simp only [Reps] at h; subst h; exact .nil
  | d :: ds, vs, p, h => by
    simp only [Reps] at h
    obtain ⟨v, r, e, h1, h2⟩ := h
    subst e
    simp only [plains, Bool.and_eq_true] at p
    exact .cons (rep_dp d v p.1 h1) (reps_dp ds r p.2 h2)
end
end
/-- the data behind -/
def deref (S : Store) : SV → Option D
  | .d x => some x
  | .ptr k => (S[k]?).bind fun l => if clsd l = true then some (.lst l) else none
  | .exc => none
  | .obj _ => none
  | .dic _ => none
  | .sq _ _ => none
theorem deref_rep {K : PySem.W.Frag} {mg : Gm} {A : List Addr} {H : Hp} {S : Store} (hS : Sta K mg A H S) {sv : SV} {d : D} {v : V} (h : RepS K mg A H sv v) (e : deref S sv = some d) (p : plain d = true) : Dp K H v (toPy d) := by
  cases sv with
  | d x =>
    cases e
    exact rep_dp _ v p h
  | ptr k =>
    obtain ⟨a, h1, rfl, h0⟩ := h
    simp only [deref, Option.bind_eq_some_iff] at e
    obtain ⟨ds, e1, e2⟩ := e
    by_cases hc : clsd ds = true
    rotate_left
    · rw [if_neg hc] at e2; cases e2
    rw [if_pos hc] at e2
    cases e2
    obtain ⟨vs, h2, h3⟩ := hS.lstC h1 h0 e1 hc
    exact .lst (SqL.of h2) (reps_dp ds vs p h3)
  | exc => cases e
  | obj _ => cases e
  | dic _ => cases e
  | sq _ _ => cases e
def eqOk (x y : D) : Bool := plain x && (plain y && (SeqAt.shaped (toPy x) && SeqAt.shaped (toPy y)))
def eqD (x y : D) : Bool := PyData.eqv (toPy x) (toPy y)
def oEq (x y : SV) : M SV := fun S => match deref S x, deref S y with
  | some d, some e => if eqOk d e = true then some (.ok (.d (.bl (eqD d e))), S) else none
  | _, _ => none
def oNe (x y : SV) : M SV := fun S => match deref S x, deref S y with
  | some d, some e => if eqOk d e = true then some (.ok (.d (.bl (!eqD d e))), S) else none
  | _, _ => none
section
variable {X : Cx} {W : WG}
theorem rok_eq : ROk X W (rEqD X.K) oEq := by
  intro a b x y σ H A S rr S' hS hx hy he Q hp
  unfold oEq at he
  rcases ea : deref S a with _ | d
  · (try dsimp only at he); rw [ea] at he; cases he
  · rcases eb : deref S b with _ | e
    · (try dsimp only at he); rw [ea, eb] at he; cases he
    · (try dsimp only at he); rw [ea, eb] at he
      dsimp only at he
      by_cases c : eqOk d e = true
      · rw [if_pos c] at he
        cases he
        simp only [eqOk, Bool.and_eq_true] at c
        exact ⟨_, _, deref_rep hS hx ea c.1, deref_rep hS hy eb c.2.1, c.2.2.1, c.2.2.2, hp.val hS (show Rep X.K X.mg A H _ _ by simp only [Rep]; rfl)⟩
      · rw [if_neg c] at he; cases he
theorem rok_ne : ROk X W (rNeD X.K) oNe := by
  intro a b x y σ H A S rr S' hS hx hy he Q hp
  unfold oNe at he
  rcases ea : deref S a with _ | d
  · (try dsimp only at he); rw [ea] at he; cases he
  · rcases eb : deref S b with _ | e
    · (try dsimp only at he); rw [ea, eb] at he; cases he
    · (try dsimp only at he); rw [ea, eb] at he
      dsimp only at he
      by_cases c : eqOk d e = true
      · rw [if_pos c] at he
        cases he
        simp only [eqOk, Bool.and_eq_true] at c
        exact ⟨_, _, deref_rep hS hx ea c.1, deref_rep hS hy eb c.2.1, c.2.2.1, c.2.2.2, hp.val hS (show Rep X.K X.mg A H _ _ by simp only [Rep]; rfl)⟩
      · rw [if_neg c] at he; cases he
/-- two ints, under a test, to a value -/
def iOp (C : Int → Int → Bool) (g : Int → Int → D) (x y : SV) : M SV := match x, y with
  | .d (.int i), .d (.int j) => if C i j = true then ret (.d (g i j)) else stuck
  | _, _ => stuck
theorem rok_iOp {C : Int → Int → Bool} {g : Int → Int → D} {C' : Int → Int → Prop} {g' : Int → Int → V} (hC : ∀ i j, C i j = true → C' i j) (hg : ∀ i j A H, Rep X.K X.mg A H (g i j) (g' i j)) : ROk X W (rI C' g') (iOp C g) := by
  intro a b x y σ H A S rr S' hS hx hy he Q hp
  unfold iOp at he
  split at he
  · rename_i i j
    have h1 : Rep X.K X.mg A H (.int i) x := hx
    have h2 : Rep X.K X.mg A H (.int j) y := hy
    simp only [Rep] at h1 h2
    by_cases c : C i j = true
    · rw [if_pos c] at he
      cases he
      exact ⟨i, j, h1, h2, hC i j c, hp.val hS (hg i j A H)⟩
    · rw [if_neg c] at he; cases he
  · cases he
def iOp0 (g : Int → Int → D) (x y : SV) : M SV := match x, y with
  | .d (.int i), .d (.int j) => ret (.d (g i j))
  | _, _ => stuck
theorem rok_iOp0 {g : Int → Int → D} {g' : Int → Int → V} (hg : ∀ i j A H, Rep X.K X.mg A H (g i j) (g' i j)) : ROk X W (rI0 g') (iOp0 g) := by
  intro a b x y σ H A S rr S' hS hx hy he Q hp
  unfold iOp0 at he
  split at he
  · rename_i i j
    have h1 : Rep X.K X.mg A H (.int i) x := hx
    have h2 : Rep X.K X.mg A H (.int j) y := hy
    simp only [Rep] at h1 h2
    cases he
    exact ⟨i, j, h1, h2, hp.val hS (hg i j A H)⟩
  · cases he
def mulOk (i j : Int) : Bool := decide (i.natAbs.log2 + j.natAbs.log2 < 1000000)
def divOk (_ j : Int) : Bool := decide (j ≠ 0) && decide (j.natAbs.log2 < 9000)
def modOk (_ j : Int) : Bool := decide (j ≠ 0)
def powOk (i j : Int) : Bool := decide (0 ≤ j) && (decide (j ≤ 1000000) && decide (i.natAbs < 2 ^ 64))
def oSub := iOp0 fun i j => .int (i - j)
def oMul := iOp mulOk fun i j => .int (i * j)
def oFdiv := iOp divOk fun i j => .int (i.fdiv j)
def oMod := iOp modOk fun i j => .int (i.fmod j)
def oPow := iOp powOk fun i j => .int (i ^ j.toNat)
def oLt := iOp0 fun i j => .bl (decide (i < j))
def oLe := iOp0 fun i j => .bl (decide (i ≤ j))
def oGt := iOp0 fun i j => .bl (decide (j < i))
def oGe := iOp0 fun i j => .bl (decide (j ≤ i))
def CDivZ (_ j : Int) : Prop := j ≠ 0 ∧ j.natAbs.log2 < 9000
theorem op_fdivZ : OpR X (binaryOp .FloorDiv) (rI CDivZ fun i j => .int (i.fdiv j)) := opI fun i j _ _ _ _ _ hc q =>
  PyProof.Rows.floordiv_int hc.1 q (.inl (PyProof.noPylong_of_log2 hc.2))
theorem rok_mul : ROk X W (rI CMulW fun i j => .int (i * j)) oMul := rok_iOp (fun _ _ h => by simp only [mulOk, decide_eq_true_eq] at h; exact h) fun _ _ _ _ => by simp only [Rep]
theorem rok_fdiv : ROk X W (rI CDivZ fun i j => .int (i.fdiv j)) oFdiv := rok_iOp (fun _ _ h => by simp only [divOk, Bool.and_eq_true, decide_eq_true_eq] at h; exact h) fun _ _ _ _ => by simp only [Rep]
theorem rok_mod : ROk X W (rI (fun _ j => j ≠ 0) fun i j => .int (i.fmod j)) oMod := rok_iOp (fun _ _ h => of_decide_eq_true h) fun _ _ _ _ => by simp only [Rep]
theorem rok_pow : ROk X W (rI CPow fun i j => .int (i ^ j.toNat)) oPow := rok_iOp (fun _ _ h => by simp only [powOk, Bool.and_eq_true, decide_eq_true_eq] at h; exact h) fun _ _ _ _ => by simp only [Rep]
theorem rok_lt : ROk X W (rI0 fun i j => .bl (decide (i < j))) oLt := rok_iOp0 fun _ _ _ _ => by simp only [Rep]
theorem rok_le : ROk X W (rI0 fun i j => .bl (decide (i ≤ j))) oLe := rok_iOp0 fun _ _ _ _ => by simp only [Rep]
theorem rok_gt : ROk X W (rI0 fun i j => .bl (decide (j < i))) oGt := rok_iOp0 fun _ _ _ _ => by simp only [Rep]
theorem rok_ge : ROk X W (rI0 fun i j => .bl (decide (j ≤ i))) oGe := rok_iOp0 fun _ _ _ _ => by simp only [Rep]
def oNeg (x : SV) : M SV := match x with
  | .d (.int i) => ret (.d (.int (-i)))
  | _ => stuck
theorem uok_neg : UOk X W (rU fun i => .int (-i)) oNeg := by
  intro a x σ H A S rr S' hS hx he Q hp
  unfold oNeg at he
  split at he
  · rename_i i
    have h1 : Rep X.K X.mg A H (.int i) x := hx
    simp only [Rep] at h1
    cases he
    exact ⟨i, h1, hp.val hS (show Rep X.K X.mg A H (.int (-i)) _ by simp only [Rep])⟩
  · cases he
theorem OpR.or {f : Value → Value → Sem Value} {r r' : R2} (h : OpR X f r) (h' : OpR X f r') : OpR X f (fun x y H Q => r x y H Q ∨ r' x y H Q) := by
  intro pins s σ H x y v u Q I rx ry q
  rcases q with q | q
  · exact h pins s σ H x y v u Q I rx ry q
  · exact h' pins s σ H x y v u Q I rx ry q
/-- a cell that is data all through -/
def cellC (S : Store) (k : Nat) : Option (List D) := (S[k]?).bind fun l => if clsd l = true then some l else none
theorem cellC_some {S : Store} {k : Nat} {l : List D} (h : cellC S k = some l) : S[k]? = some l ∧ clsd l = true := by
  simp only [cellC, Option.bind_eq_some_iff] at h
  obtain ⟨m, h1, h2⟩ := h
  by_cases hc : clsd m = true
  · rw [if_pos hc] at h2; cases h2; exact ⟨h1, hc⟩
  · rw [if_neg hc] at h2; cases h2
theorem cellC_of {S : Store} {k : Nat} {l : List D} (h : S[k]? = some l) (hc : clsd l = true) : cellC S k = some l := by
  simp only [cellC, h, Option.bind_some, if_pos hc]
/-- a list's data, of one's own too -/
def items (S : Store) : SV → Option (List D)
  | .d (.lst l) => some l
  | .ptr k => cellC S k
  | _ => none
theorem items_rep {K : PySem.W.Frag} {mg : Gm} {A : List Addr} {H : Hp} {S : Store} (hS : Sta K mg A H S) {sv : SV} {l : List D} {v : V} (h : RepS K mg A H sv v) (e : items S sv = some l) : ∃ a vs, v = .ref a ∧ H a = some (.lst vs) ∧ Reps K mg.m A H l vs := by
  unfold items at e
  split at e
  · cases e
    have h1 : Rep K mg.m A H (.lst l) v := h
    simp only [Rep] at h1
    obtain ⟨a, vs, e1, _, h2, h3⟩ := h1
    exact ⟨a, vs, e1, h2, h3⟩
  · obtain ⟨a, h1, h2, h0⟩ := h
    obtain ⟨vs, h3, h4⟩ := hS.lstC h1 h0 (cellC_some e).1 (cellC_some e).2
    exact ⟨a, vs, h2, h3, h4⟩
  · cases e
def oAdd (x y : SV) : M SV := match x, y with
  | .d (.int i), .d (.int j) => ret (.d (.int (i + j)))
  | .d (.str i), .d (.str j) => if i.length + j.length ≤ lim then ret (.d (.str (i ++ j))) else stuck
  | x, y => fun S => match items S x, items S y with
    | some l, some m => if l.length + m.length ≤ lim then some (.ok (.d (.lst (l ++ m))), S) else none
    | _, _ => none
def rAddAll : R2 := fun x y H Q => (rI0 (fun i j => .int (i + j)) x y H Q ∨ (∃ i j, x = .str i ∧ y = .str j ∧ i.length + j.length ≤ sizeLine ∧ Q (.str (i ++ j)) H)) ∨ rCat x y H Q
theorem op_addAll : OpR X (binaryOp .Add) rAddAll := (op_add.or op_add_str).or op_cat
theorem rok_add : ROk X W rAddAll oAdd := by
  intro a b x y σ H A S rr S' hS hx hy he Q hp
  unfold oAdd at he
  split at he
  · rename_i i j
    have h1 : Rep X.K X.mg A H (.int i) x := hx
    have h2 : Rep X.K X.mg A H (.int j) y := hy
    simp only [Rep] at h1 h2
    cases he
    exact .inl (.inl ⟨i, j, h1, h2, hp.val hS (show Rep X.K X.mg A H (.int (i + j)) _ by simp only [Rep])⟩)
  · rename_i i j
    have h1 : Rep X.K X.mg A H (.str i) x := hx
    have h2 : Rep X.K X.mg A H (.str j) y := hy
    simp only [Rep] at h1 h2
    by_cases c : i.length + j.length ≤ lim
    · rw [if_pos c] at he
      cases he
      exact .inl (.inr ⟨i, j, h1, h2, lim_ok c, hp.val hS (show Rep X.K X.mg A H (.str (i ++ j)) _ by simp only [Rep])⟩)
    · rw [if_neg c] at he; cases he
  · rcases ea : items S a with _ | l
    · (try dsimp only at he); rw [ea] at he; cases he
    · rcases eb : items S b with _ | m
      · (try dsimp only at he); rw [ea, eb] at he; cases he
      · (try dsimp only at he); rw [ea, eb] at he
        dsimp only at he
        by_cases c : l.length + m.length ≤ lim
        · rw [if_pos c] at he
          cases he
          obtain ⟨p, vs, e1, h1, r1⟩ := items_rep hS hx ea
          obtain ⟨q, ws, e2, h2, r2⟩ := items_rep hS hy eb
          refine .inr ⟨p, q, vs, ws, e1, e2, h1, h2, by rw [← r1.length, ← r2.length]; exact lim_ok c, fun z hz => hp.new hS hz ?_⟩
          simp only [Rep]
          exact ⟨z, _, rfl, hS.free hz, upd_same, Reps.mono (Ext.new hz) _ _ (r1.append r2)⟩
        · rw [if_neg c] at he; cases he
def seqOf (S : Store) : SV → Option (List D)
  | .d (.lst l) => some l
  | .d (.scr l) => some l
  | .d (.tup l) => some l
  | .ptr k => cellC S k
  | _ => none
/-- what items are taken of: a tuple of the text's top too -/
def seqIx (S : Store) : SV → Option (List D)
  | .d (.kt l) => some l
  | x => seqOf S x
def oIdx (x y : SV) : M SV := match y with
  | .d (.int i) => fun S => match seqIx S x with
    | some l => match atI l i with
      | some d => some (.ok (.d d), S)
      | none => none
    | none => none
  | _ => stuck
theorem seq_rep {K : PySem.W.Frag} {mg : Gm} {A : List Addr} {H : Hp} {S : Store} (hS : Sta K mg A H S) {sv : SV} {l : List D} {v : V} (h : RepS K mg A H sv v) (e : seqOf S sv = some l) : ∃ a vs, v = .ref a ∧ (SqL K H a vs ∨ SqT K H a vs) ∧ Reps K mg.m A H l vs := by
  unfold seqOf at e
  split at e
  · cases e
    have h1 : Rep K mg.m A H (.lst l) v := h
    simp only [Rep] at h1
    obtain ⟨a, vs, e1, _, h2, h3⟩ := h1
    exact ⟨a, vs, e1, .inl (SqL.of h2), h3⟩
  · cases e
    have h1 : Rep K mg.m A H (.scr l) v := h
    simp only [Rep] at h1
    obtain ⟨a, vs, e1, h2, h3⟩ := h1
    exact ⟨a, vs, e1, .inl h2.sql, h3⟩
  · cases e
    have h1 : Rep K mg.m A H (.tup l) v := h
    simp only [Rep] at h1
    obtain ⟨a, vs, e1, _, h2, h3⟩ := h1
    exact ⟨a, vs, e1, .inr (SqT.of h2), h3⟩
  · obtain ⟨a, h1, h2, h0⟩ := h
    obtain ⟨vs, h3, h4⟩ := hS.lstC h1 h0 (cellC_some e).1 (cellC_some e).2
    exact ⟨a, vs, h2, .inl (SqL.of h3), h4⟩
  · cases e
theorem seqIx_rep {K : PySem.W.Frag} {mg : Gm} {A : List Addr} {H : Hp} {S : Store} (hS : Sta K mg A H S) {sv : SV} {l : List D} {v : V} (h : RepS K mg A H sv v) (e : seqIx S sv = some l) : ∃ a vs, v = .ref a ∧ (SqL K H a vs ∨ SqT K H a vs) ∧ Reps K mg.m A H l vs := by
  unfold seqIx at e
  split at e
  · cases e
    have h1 : Rep K mg.m A H (.kt l) v := h
    simp only [Rep] at h1
    obtain ⟨a, vs, e1, h2, h3⟩ := h1
    exact ⟨a, vs, e1, .inr (h2 H), h3⟩
  · exact seq_rep hS h e
theorem atI_rep {K : PySem.W.Frag} {mg : Str → Option Value} {A : List Addr} {H : Hp} {l : List D} {vs : List V} {i : Int} {d : D} (r : Reps K mg A H l vs) (e : atI l i = some d) : ∃ v, atI vs i = some v ∧ Rep K mg A H d v := by
  unfold atI at e ⊢
  rw [← r.length]
  rcases ej : ixN l.length i with _ | j
  · rw [ej] at e; cases e
  · rw [ej] at e
    exact r.get e
theorem rok_idx : ROk X W (rIx X.K) oIdx := by
  intro a b x y σ H A S rr S' hS hx hy he Q hp
  unfold oIdx at he
  split at he
  · rename_i i
    have h2 : Rep X.K X.mg A H (.int i) y := hy
    simp only [Rep] at h2
    rcases ea : seqIx S a with _ | l
    · (try dsimp only at he); rw [ea] at he; cases he
    · (try dsimp only at he); rw [ea] at he
      dsimp only at he
      rcases ed : atI l i with _ | d
      · (try dsimp only at he); rw [ed] at he; cases he
      · (try dsimp only at he); rw [ed] at he
        cases he
        obtain ⟨p, vs, e1, h1, r1⟩ := seqIx_rep hS hx ea
        obtain ⟨v, h3, h4⟩ := atI_rep r1 ed
        rcases h1 with h1 | h1
        · exact .inl ⟨p, vs, i, v, e1, h2, h1, h3, hp.val hS h4⟩
        · exact .inr (.inl ⟨p, vs, i, v, e1, h2, h1, h3, hp.val hS h4⟩)
  · cases he
variable {e a b c : Expr} {es : List Expr} {f g h : Env → M SV} {fa : Env → M (List SV)} {pos p : Pos} {x : Str}
theorem de_idx (ha : DE X W a f) (hb : DE X W b g) (hs : PlainIx b := by exact fun _ _ => rfl) : DE X W (.Subscript a b pos) (eOp oIdx f g) := by
  obtain ⟨ta, pa, ka⟩ := ha
  obtain ⟨tb, pb, kb⟩ := hb
  exact ⟨_, pe_ix ix_seq pa pb hs, tbind2 ka kb fun x y u v σ H A S r S' hS hx hy he Q hp => rok_idx x y u v σ H A S r S' hS hx hy he Q hp⟩
theorem CallR.or {f : Value} {r r' : List V → Hp → VK → Prop} (h : CallR X f r) (h' : CallR X f r') : CallR X f (fun xs H Q => r xs H Q ∨ r' xs H Q) := by
  intro pins s σ H xs us Q I rx q
  rcases q with q | q
  · exact h pins s σ H xs us Q I rx q
  · exact h' pins s σ H xs us Q I rx q
theorem tok_cb {r : List V → Hp → VK → Prop} {o : List SV → M SV} {t : TA} (hr : COk X W r o) (k : TOk X.K (gm X W) (relA X.K (gm X W)) W t fa) : TOk X.K (gm X W) (relS X.K (gm X W)) W (tCB r t) (fun env => bnd (fa env) o) :=
  tbind (rel := relA X.K (gm X W)) (rel2 := relS X.K (gm X W)) (g := fun _ x => o x) (tk := fun vs _ H Q => r vs H Q) k fun as vs σ H A S env rr S' hS hE hx he Q hp => hr as vs σ H A S rr S' hS hx he Q hp
theorem de_callB {id : String} {r : List V → Hp → VK → Prop} {o : List SV → M SV} (hc : CallR X (.builtin id) r) (hr : COk X W r o) (hg : Gl X x) (hm : X.mg x = none) (hv : bootBuiltins x = some (.builtin id)) (ha : DA X W (e :: es) fa) (hn : x ≠ "__name__" := by decide) (hdb : (x == ("__debug__" : Str)) = false := by decide)
    (he : starEach (e :: es) X.env = (false, eval e X.env) :: starEach es X.env := by rfl) (hpl : (backTo pos (starEach es X.env)).any (·.1) = false := by rfl) : DE X W (.Call (.Name x p) (e :: es) [] pos) (eArg o fa) := by
  obtain ⟨t, pa, k⟩ := ha
  exact ⟨_, pe_callB hc hg hm hv pa hn hdb he hpl, tok_cb hr k⟩
theorem de_callTy {T : String} {r : List V → Hp → VK → Prop} {o : List SV → M SV} (hc : CallR X (.type T) r) (hr : COk X W r o) (hg : Gl X x) (hm : X.mg x = none) (hv : bootBuiltins x = some (.type T)) (ha : DA X W (e :: es) fa) (hn : x ≠ "__name__" := by decide) (hdb : (x == ("__debug__" : Str)) = false := by decide)
    (he : starEach (e :: es) X.env = (false, eval e X.env) :: starEach es X.env := by rfl) (hpl : (backTo pos (starEach es X.env)).any (·.1) = false := by rfl) : DE X W (.Call (.Name x p) (e :: es) [] pos) (eArg o fa) := by
  obtain ⟨t, pa, k⟩ := ha
  exact ⟨_, pe_callTy hc hg hm hv pa hn hdb he hpl, tok_cb hr k⟩
theorem de_callG {id : String} {r : List V → Hp → VK → Prop} {o : List SV → M SV} (hc : CallR X (.builtin id) r) (hr : COk X W r o) (hg : Gl X x) (hm : X.mg x = some (.builtin id)) (ha : DA X W (e :: es) fa) (hdb : (x == ("__debug__" : Str)) = false := by decide)
    (he : starEach (e :: es) X.env = (false, eval e X.env) :: starEach es X.env := by rfl) (hpl : (backTo pos (starEach es X.env)).any (·.1) = false := by rfl) : DE X W (.Call (.Name x p) (e :: es) [] pos) (eArg o fa) := by
  obtain ⟨t, pa, k⟩ := ha
  exact ⟨_, pe_callBfun hc hg hm pa hdb he hpl, tok_cb hr k⟩
theorem reps1 {A : List Addr} {H : Hp} {a : SV} {vs : List V} (h : RepSs X.K (gm X W) A H [a] vs) : ∃ v, vs = [v] ∧ RepS X.K (gm X W) A H a v := by
  obtain ⟨v, r, e, h1, h2⟩ := h
  cases (show r = [] from h2)
  exact ⟨v, e, h1⟩
theorem reps2 {A : List Addr} {H : Hp} {a b : SV} {vs : List V} (h : RepSs X.K (gm X W) A H [a, b] vs) : ∃ v u, vs = [v, u] ∧ RepS X.K (gm X W) A H a v ∧ RepS X.K (gm X W) A H b u := by
  obtain ⟨v, r, e, h1, h2⟩ := h
  obtain ⟨u, e2, h3⟩ := reps1 h2
  exact ⟨v, u, by rw [e, e2], h1, h3⟩
def bLen : List SV → M SV
  | [.d (.str x)] => if x.length ≤ lim then ret (.d (.int x.length)) else stuck
  | [x] => fun S => match seqOf S x with
    | some l => some (.ok (.d (.int l.length)), S)
    | none => none
  | _ => stuck
def rLenAll (K : PySem.W.Frag) : List V → Hp → VK → Prop := fun xs H Q => (∃ p ys, xs = [.ref p] ∧ (SqL K H p ys ∨ SqT K H p ys) ∧ Q (.int ys.length) H) ∨ (∃ z, xs = [.str z] ∧ z.length ≤ sizeLine ∧ Q (.int z.length) H)
theorem call_lenAll : CallR X (.builtin "len") (rLenAll X.K) := CallR.or call_len_seq call_len_str
theorem cok_len : COk X W (rLenAll X.K) bLen := by
  intro as vs σ H A S rr S' hS hx he Q hp
  unfold bLen at he
  split at he
  · rename_i z
    obtain ⟨v, rfl, h1⟩ := reps1 hx
    have h1 : Rep X.K X.mg A H (.str z) v := h1
    simp only [Rep] at h1
    subst h1
    by_cases c : z.length ≤ lim
    · rw [if_pos c] at he
      cases he
      exact .inr ⟨z, rfl, lim_ok c, hp.val hS (show Rep X.K X.mg A H (.int _) _ by simp only [Rep])⟩
    · rw [if_neg c] at he; cases he
  · rename_i a _
    obtain ⟨v, rfl, h1⟩ := reps1 hx
    rcases ea : seqOf S a with _ | l
    · (try dsimp only at he); rw [ea] at he; cases he
    · (try dsimp only at he); rw [ea] at he
      cases he
      obtain ⟨p, ws, e1, h2, r1⟩ := seq_rep hS h1 ea
      subst e1
      exact .inl ⟨p, ws, rfl, h2, hp.val hS (show Rep X.K X.mg A H (.int _) _ by simp only [Rep]; rw [r1.length])⟩
  · cases he
def bInt : List SV → M SV
  | [.d (.int i)] => ret (.d (.int i))
  | [.d (.bl b)] => ret (.d (.int (if b then 1 else 0)))
  | _ => stuck
theorem cok_int : COk X W (fun xs H Q => (∃ i, xs = [.int i] ∧ Q (.int i) H) ∨ ∃ k, xs = [.bl k] ∧ Q (.int (if k then 1 else 0)) H) bInt := by
  intro as vs σ H A S rr S' hS hx he Q hp
  unfold bInt at he
  split at he
  · rename_i i
    obtain ⟨v, rfl, h1⟩ := reps1 hx
    have h1 : Rep X.K X.mg A H (.int i) v := h1
    simp only [Rep] at h1
    subst h1
    cases he
    exact .inl ⟨i, rfl, hp.val hS (show Rep X.K X.mg A H (.int _) _ by simp only [Rep])⟩
  · rename_i i
    obtain ⟨v, rfl, h1⟩ := reps1 hx
    have h1 : Rep X.K X.mg A H (.bl i) v := h1
    simp only [Rep] at h1
    subst h1
    cases he
    exact .inr ⟨i, rfl, hp.val hS (show Rep X.K X.mg A H (.int _) _ by simp only [Rep])⟩
  · cases he
def bAbs : List SV → M SV
  | [.d (.int i)] => ret (.d (.int (if i < 0 then -i else i)))
  | _ => stuck
theorem cok_abs : COk X W (fun xs H Q => ∃ i, xs = [.int i] ∧ Q (.int (if i < 0 then -i else i)) H) bAbs := by
  intro as vs σ H A S rr S' hS hx he Q hp
  unfold bAbs at he
  split at he
  · rename_i i
    obtain ⟨v, rfl, h1⟩ := reps1 hx
    have h1 : Rep X.K X.mg A H (.int i) v := h1
    simp only [Rep] at h1
    subst h1
    cases he
    exact ⟨i, rfl, hp.val hS (show Rep X.K X.mg A H (.int _) _ by simp only [Rep])⟩
  · cases he
def bTwo (g : Int → Int → Int) : List SV → M SV
  | [.d (.int i), .d (.int j)] => ret (.d (.int (g i j)))
  | _ => stuck
theorem cok_two {g : Int → Int → Int} : COk X W (fun xs H Q => ∃ i j, xs = [.int i, .int j] ∧ Q (.int (g i j)) H) (bTwo g) := by
  intro as vs σ H A S rr S' hS hx he Q hp
  unfold bTwo at he
  split at he
  · rename_i i j
    obtain ⟨v, u, rfl, h1, h2⟩ := reps2 hx
    have h1 : Rep X.K X.mg A H (.int i) v := h1
    have h2 : Rep X.K X.mg A H (.int j) u := h2
    simp only [Rep] at h1 h2
    subst h1 h2
    cases he
    exact ⟨i, j, rfl, hp.val hS (show Rep X.K X.mg A H (.int _) _ by simp only [Rep])⟩
  · cases he
def bMax := bTwo fun i j => if j > i then j else i
def bMin := bTwo fun i j => if j < i then j else i
def bGcd := bTwo fun i j => ((Nat.gcd i.natAbs j.natAbs : Nat) : Int)
/-- list(x): new data -/
def bList : List SV → M SV
  | [x] => fun S => match seqOf S x with
    | some l => some (.ok (.d (.lst l)), S)
    | none => none
  | _ => stuck
def bListOwn : List SV → M SV
  | [x] => fun S => match seqOf S x with
    | some l => some (.ok (.ptr S.length), S ++ [l])
    | none => none
  | _ => stuck
theorem cok_list : COk X W (fun xs H Q => ∃ p ys, xs = [.ref p] ∧ (SqL X.K H p ys ∨ SqT X.K H p ys) ∧ ∀ l, H l = none → Q (.ref l) (upd H l (.lst ys))) bList := by
  intro as vs σ H A S rr S' hS hx he Q hp
  unfold bList at he
  split at he
  · rename_i a
    obtain ⟨v, rfl, h1⟩ := reps1 hx
    rcases ea : seqOf S a with _ | l
    · (try dsimp only at he); rw [ea] at he; cases he
    · (try dsimp only at he); rw [ea] at he
      cases he
      obtain ⟨p, ws, e1, h2, r1⟩ := seq_rep hS h1 ea
      subst e1
      refine ⟨p, ws, rfl, h2, fun z hz => hp.new hS hz ?_⟩
      simp only [Rep]
      exact ⟨z, _, rfl, hS.free hz, upd_same, Reps.mono (Ext.new hz) _ _ r1⟩
  · cases he
theorem cok_listOwn : COk X W (fun xs H Q => ∃ p ys, xs = [.ref p] ∧ (SqL X.K H p ys ∨ SqT X.K H p ys) ∧ ∀ l, H l = none → Q (.ref l) (upd H l (.lst ys))) bListOwn := by
  intro as vs σ H A S rr S' hS hx he Q hp
  unfold bListOwn at he
  split at he
  · rename_i a
    obtain ⟨v, rfl, h1⟩ := reps1 hx
    rcases ea : seqOf S a with _ | l
    · (try dsimp only at he); rw [ea] at he; cases he
    · (try dsimp only at he); rw [ea] at he
      cases he
      obtain ⟨p, ws, e1, h2, r1⟩ := seq_rep hS h1 ea
      subst e1
      exact ⟨p, ws, rfl, h2, fun z hz => hp _ _ _ (Ext.own hz) (hS.own hz r1) ⟨z, own_at hS.len, rfl, ws, upd_same⟩⟩
  · cases he
/-- tuple(x) -/
def bTuple : List SV → M SV
  | [.d (.tup l)] => ret (.d (.tup l))
  | [x] => fun S => match seqOf S x with
    | some l => some (.ok (.d (.tup l)), S)
    | none => none
  | _ => stuck
theorem cok_tuple : COk X W (fun xs H Q => ∃ p ys, xs = [.ref p] ∧ ((SqL X.K H p ys ∧ ∀ l, H l = none → Q (.ref l) (upd H l (.tup ys))) ∨ (SqT X.K H p ys ∧ Q (.ref p) H))) bTuple := by
  intro as vs σ H A S rr S' hS hx he Q hp
  unfold bTuple at he
  split at he
  · rename_i l
    obtain ⟨v, rfl, h1⟩ := reps1 hx
    have h0 : Rep X.K X.mg A H (.tup l) v := h1
    simp only [Rep] at h0
    obtain ⟨p, ws, e1, hn, h2, r1⟩ := h0
    subst e1
    cases he
    exact ⟨p, ws, rfl, .inr ⟨SqT.of h2, hp.val hS h1⟩⟩
  · rename_i a hno
    obtain ⟨v, rfl, h1⟩ := reps1 hx
    rcases ea : seqOf S a with _ | l
    · (try dsimp only at he); rw [ea] at he; cases he
    · (try dsimp only at he); rw [ea] at he
      cases he
      have key : ∃ p ws, v = .ref p ∧ SqL X.K H p ws ∧ Reps X.K X.mg A H l ws := by
        unfold seqOf at ea
        split at ea
        · cases ea
          have h1 : Rep X.K X.mg A H (.lst l) v := h1
          simp only [Rep] at h1
          obtain ⟨a, vs, e1, _, h2, h3⟩ := h1
          exact ⟨a, vs, e1, SqL.of h2, h3⟩
        · cases ea
          have h1 : Rep X.K X.mg A H (.scr l) v := h1
          simp only [Rep] at h1
          obtain ⟨a, vs, e1, h2, h3⟩ := h1
          exact ⟨a, vs, e1, h2.sql, h3⟩
        · exact absurd rfl (hno _)
        · obtain ⟨a, h1, h2, h0⟩ := h1
          obtain ⟨vs, h3, h4⟩ := hS.lstC h1 h0 (cellC_some ea).1 (cellC_some ea).2
          exact ⟨a, vs, h2, SqL.of h3, h4⟩
        · cases ea
      obtain ⟨p, ws, e1, h2, r1⟩ := key
      subst e1
      refine ⟨p, ws, rfl, .inl ⟨h2, fun z hz => hp.new hS hz ?_⟩⟩
      simp only [Rep]
      exact ⟨z, _, rfl, hS.free hz, upd_same, Reps.mono (Ext.new hz) _ _ r1⟩
  · cases he
def tyN : SV → Option String
  | .d .non => some "NoneType"
  | .d (.bl _) => some "bool"
  | .d (.int _) => some "int"
  | .d (.str _) => some "str"
  | .d (.tup _) => some "tuple"
  | .d (.lst _) => some "list"
  | .ptr _ => some "list"
  | _ => none
def bIsi : List SV → M SV
  | [x, .d (.ty n)] => match tyN x with
    | some t => match kitB t n with
      | some b => ret (.d (.bl b))
      | none => stuck
    | none => stuck
  | _ => stuck
theorem tyN_rep {A : List Addr} {H : Hp} {S : Store} (hS : Sta X.K (gm X W) A H S) {sv : SV} {v : V} {t : String} (h : RepS X.K (gm X W) A H sv v) (e : tyN sv = some t) : TyX X.K H v (.type t) := by
  unfold tyN at e
  split at e
  · cases e; have h : Rep X.K X.mg A H .non v := h; simp only [Rep] at h; subst h; exact .base .non
  · rename_i b; cases e; have h : Rep X.K X.mg A H (.bl b) v := h; simp only [Rep] at h; subst h; exact .base (.bl _)
  · rename_i b; cases e; have h : Rep X.K X.mg A H (.int b) v := h; simp only [Rep] at h; subst h; exact .base (.int _)
  · rename_i b; cases e; have h : Rep X.K X.mg A H (.str b) v := h; simp only [Rep] at h; subst h; exact .base (.str _)
  · rename_i b; cases e; have h : Rep X.K X.mg A H (.tup b) v := h; simp only [Rep] at h; obtain ⟨a, vs, e1, _, h2, _⟩ := h; subst e1; exact .base (.tup h2)
  · rename_i b; cases e; have h : Rep X.K X.mg A H (.lst b) v := h; simp only [Rep] at h; obtain ⟨a, vs, e1, _, h2, _⟩ := h; subst e1; exact .base (.lst h2)
  · rename_i k
    cases e
    obtain ⟨a, h1, h2, vs, h3⟩ := h
    subst h2
    exact .base (.lst h3)
  · cases e
theorem cok_isi : COk X W (rIsi X.K) bIsi := by
  intro as vs σ H A S rr S' hS hx he Q hp
  unfold bIsi at he
  split at he
  · rename_i a n
    obtain ⟨v, u, rfl, h1, h2⟩ := reps2 hx
    have h2 : Rep X.K X.mg A H (.ty n) u := h2
    simp only [Rep] at h2
    subst h2
    rcases ea : tyN a with _ | t
    · (try dsimp only at he); rw [ea] at he; cases he
    · (try dsimp only at he); rw [ea] at he
      dsimp only at he
      rcases eb : kitB t n with _ | b
      · (try dsimp only at he); rw [eb] at he; cases he
      · (try dsimp only at he); rw [eb] at he
        cases he
        exact ⟨v, _, .type t, .type n, b, rfl, .ty n, tyN_rep hS h1 ea, kit_ty eb, hp.val hS (show Rep X.K X.mg A H (.bl _) _ by simp only [Rep])⟩
  · cases he
/-- a built-in type as a value -/
theorem de_ty {T : String} (hg : Gl X x) (hm : X.mg x = none) (hv : bootBuiltins x = some (.type T)) (hn : x ≠ "__name__" := by decide) (hd : (x == ("__debug__" : Str)) = false := by decide) : DE X W (.Name x pos) (eC (.ty T)) :=
  ⟨_, pe_bltn hg hm hv (v := .ty T) rfl hn hd, tok_c fun _ _ => by simp only [Rep]⟩
/-- a module's int -/
theorem de_gint {i : Int} {t : Tok} (hg : Gl X x) (hm : X.mg x = some (.int i t)) (hd : (x == ("__debug__" : Str)) = false := by decide) : DE X W (.Name x pos) (eC (.int i)) :=
  ⟨_, pe_glob hg hm (v := .int i) ⟨_, rfl⟩ hd, tok_c fun _ _ => by simp only [Rep]⟩
end
end DL
namespace DL
open PySem L2
inductive O where
  | nx (env : Env)
  | rt (sv : SV)
  | bk (env : Env)
  | ct (env : Env)
  | er (c : Str) (fs : List Str) (l : List D) (env : Env)
abbrev SM := Env → Store → Option (O × Store)
section
variable (K : PySem.W.Frag) (mg : Gm)
def PoS (Dn : Ends) (W : WG) (A : List Addr) (H : Hp) : O → Store → Prop
  | .nx env', S' => ∀ σ' A' H', Ext A H A' H' → Sta K mg A' H' S' → EnvR K mg A' H' σ' env' → Dn.nx σ' H'
  | .rt sv, S' => ∀ v A' H', Ext A H A' H' → Sta K mg A' H' S' → RepS K mg A' H' sv v → Dn.rt v H'
  | .bk env', S' => ∀ σ' A' H', Ext A H A' H' → Sta K mg A' H' S' → EnvR K mg A' H' σ' env' → Dn.bk σ' H'
  | .ct env', S' => ∀ σ' A' H', Ext A H A' H' → Sta K mg A' H' S' → EnvR K mg A' H' σ' env' → Dn.ct σ' H'
  | .er c fs l env', S' => ∀ C dd σ' A' H', mg.m c = some (.ref C) → Ext A H A' H' → Sta K mg A' H' S' → EnvR K mg A' H' σ' env' → ErrR K mg.m A' H' dd fs l → W.w (.ref C) dd σ' H'
def SOk (W : WG) (t : TS) (F : SM) : Prop :=
  ∀ (σ : St) (H : Hp) (A : List Addr) (S : Store) (env : Env) (o : O) (S' : Store), Sta K mg A H S → EnvR K mg A H σ env → F env S = some (o, S') → ∀ Dn, PoS K mg Dn W A H o S' → t Dn σ H
end
def lift {α : Type} (env : Env) (m : M α) (k : α → Store → Option (O × Store)) : Store → Option (O × Store) := fun S => match m S with
  | some (.ok a, S') => k a S'
  | some (.err c fs l, S') => some (.er c fs l env, S')
  | none => none
theorem lift_some {α : Type} {env : Env} {m : M α} {k : α → Store → Option (O × Store)} {S S' : Store} {o : O} (he : lift env m k S = some (o, S')) :
    (∃ a S1, m S = some (.ok a, S1) ∧ k a S1 = some (o, S')) ∨ (∃ c fs l, m S = some (.err c fs l, S') ∧ o = .er c fs l env) := by
  unfold lift at he
  rcases q : m S with _ | ⟨a | ⟨c, fs, l⟩, S1⟩
  · rw [q] at he; cases he
  · rw [q] at he; exact .inl ⟨a, S1, rfl, he⟩
  · rw [q] at he; cases he; exact .inr ⟨c, fs, l, rfl, rfl⟩
section
variable {K : PySem.W.Frag} {mg : Gm} {α β : Type} {W : WG}
theorem PoS.mono {Dn : Ends} {A A' : List Addr} {H H' : Hp} {o : O} {S' : Store} (p : PoS K mg Dn W A H o S') (e : Ext A H A' H') : PoS K mg Dn W A' H' o S' := by
  cases o with
  | nx env => exact fun σ A2 H2 e2 s q => p σ A2 H2 (e.trans e2) s q
  | rt sv => exact fun σ A2 H2 e2 s q => p σ A2 H2 (e.trans e2) s q
  | bk env => exact fun σ A2 H2 e2 s q => p σ A2 H2 (e.trans e2) s q
  | ct env => exact fun σ A2 H2 e2 s q => p σ A2 H2 (e.trans e2) s q
  | er c fs l env => exact fun C dd σ A2 H2 hc e2 s q r => p C dd σ A2 H2 hc (e.trans e2) s q r
theorem slift {rel : RelT α β} {t : St → Hp → (β → Hp → Prop) → Prop} {tk : β → Ends → St → Hp → Prop} {f : Env → M α} {k : Env → α → Store → Option (O × Store)} (ha : TOk K mg rel W t f)
    (hk : ∀ (a : α) (b : β) (σ : St) (H : Hp) (A : List Addr) (S : Store) (env : Env) (o : O) (S' : Store), Sta K mg A H S → EnvR K mg A H σ env → rel A H a b → k env a S = some (o, S') → ∀ Dn, PoS K mg Dn W A H o S' → tk b Dn σ H) :
    SOk K mg W (fun Dn σ H => t σ H fun x H1 => tk x Dn σ H1) (fun env => lift env (f env) (k env)) := by
  intro σ H A S env o S' hS hE he Dn hp
  rcases lift_some he with ⟨a, S1, ef, q⟩ | ⟨c, fs, l, ef, rfl⟩
  · exact ha σ H A S env _ S1 hS hE ef _ fun b A' H' e s z => hk a b σ H' A' S1 env o S' s (hE.mono e) z q Dn (hp.mono e)
  · exact ha σ H A S env _ _ hS hE ef _ fun C dd A' H' hc e s r => hp C dd σ A' H' hc e s (hE.mono e) r
end
section
variable (X : Cx) (W : WG)
def DS (st : Stmt) (F : SM) : Prop := ∃ t : TS, PS X st t ∧ SOk X.K (gm X W) W t F
def DSs (st : List Stmt) (F : SM) : Prop := ∃ t : TS, PSs X st t ∧ SOk X.K (gm X W) W t F
end
section
variable {X : Cx} {W : WG} {e a b : Expr} {f g : Env → M SV} {t : Env → M Bool} {F G : SM} {st : Stmt} {rest : List Stmt} {pos : Pos}
def sNop : SM := fun env S => some (.nx env, S)
def sSeq (F G : SM) : SM := fun env S => match F env S with
  | some (.nx env', S') => G env' S'
  | x => x
def sDrop (f : Env → M SV) : SM := fun env => lift env (f env) fun _ S => some (.nx env, S)
def sSet (i : Nat) (f : Env → M SV) : SM := fun env => lift env (f env) fun a S => some (.nx (env.set i (some a)), S)
def sRet (f : Env → M SV) : SM := fun env => lift env (f env) fun a S => some (.rt a, S)
def sRetN : SM := fun env S => some (.rt (.d .non), S)
def sIf (t : Env → M Bool) (F G : SM) : SM := fun env => lift env (t env) fun c => if c then F env else G env
theorem ds_nil : DSs X W [] sNop := ⟨_, pss_nil, fun σ H A S env o S' hS hE he Dn hp => by
  cases he
  exact hp σ A H (Ext.refl A H) hS hE⟩
theorem sok_seq {t u : TS} (k1 : SOk X.K (gm X W) W t F) (k2 : SOk X.K (gm X W) W u G) : SOk X.K (gm X W) W (tSeq t u) (sSeq F G) := by
  intro σ H A S env o S' hS hE he Dn hp
  unfold sSeq at he
  rcases q : F env S with _ | ⟨o1, S1⟩
  · rw [q] at he; cases he
  · rw [q] at he
    cases o1 with
    | nx env1 => exact k1 σ H A S env _ S1 hS hE q _ fun σ' A' H' e s r => k2 σ' H' A' S1 env1 o S' s r he Dn (hp.mono e)
    | rt sv => cases he; exact k1 σ H A S env _ _ hS hE q _ hp
    | bk sv => cases he; exact k1 σ H A S env _ _ hS hE q _ hp
    | ct sv => cases he; exact k1 σ H A S env _ _ hS hE q _ hp
    | er c fs l sv => cases he; exact k1 σ H A S env _ _ hS hE q _ hp
theorem ds_cons (h : DS X W st F) (h2 : DSs X W rest G) : DSs X W (st :: rest) (sSeq F G) := by
  obtain ⟨x, p, k⟩ := h
  obtain ⟨y, p2, k2⟩ := h2
  exact ⟨_, pss_cons p p2, sok_seq k k2⟩
theorem ds_one (h : DS X W st F) : DSs X W [st] F := let ⟨x, p, k⟩ := h; ⟨_, pss_one p, k⟩
def sBrk : SM := fun env S => some (.bk env, S)
def sCnt : SM := fun env S => some (.ct env, S)
theorem ds_expr (h : DE X W e f) (hs : swapsWith e none pos.line X.env = pure false := by rfl) : DS X W (.Expr e pos) (sDrop f) := by
  obtain ⟨x, p, k⟩ := h
  exact ⟨_, ps_expr p hs, slift (rel := relS X.K (gm X W)) (tk := fun _ Dn σ H => Dn.nx σ H) (k := fun env _ S => some (.nx env, S)) k fun a v σ H A S env o S' hS hE hx he Dn hp => by
    cases he
    exact hp σ A H (Ext.refl A H) hS hE⟩
theorem sok_set {i : Nat} {te : TE} (k : TOk X.K (gm X W) (relS X.K (gm X W)) W te f) : SOk X.K (gm X W) W (tAsg te (gName i)) (sSet i f) :=
  slift (rel := relS X.K (gm X W)) (tk := fun v Dn σ H => Dn.nx (σ.set i (some v)) H) (k := fun env a S => some (.nx (env.set i (some a)), S)) k fun a v σ H A S env o S' hS hE hx he Dn hp => by
    cases he
    exact hp _ A H (Ext.refl A H) hS (hE.set hx)
theorem ds_set (i : Nat) {x : Str} {pos' : Pos} (hN : X.N.Nodup) (h : DE X W e f) (hi : X.N[i]? = some x := by rfl) (hx : Loc X.env.scope x := by first | exact Or.inl rfl | exact Or.inr rfl)
    (hs : swapsWith e (some (.Name x pos')) pos.line X.env = pure false := by rfl) (hf : X.fn x = true ∨ X.env.scope.names.lookup x = some .local := by first | exact .inl rfl | exact .inr rfl) :
    DS X W (.Assign [.Name x pos'] e pos) (sSet i f) := by
  obtain ⟨t, p, k⟩ := h
  exact ⟨_, ps_set hN hi hx p hs hf, sok_set k⟩
theorem ds_ret (h : DE X W e f) : DS X W (.Return (some e) pos) (sRet f) := by
  obtain ⟨x, p, k⟩ := h
  exact ⟨_, ps_ret p, slift (rel := relS X.K (gm X W)) (tk := fun v Dn σ H => Dn.rt v H) (k := fun env a S => some (.rt a, S)) k fun a v σ H A S env o S' hS hE hx he Dn hp => by
    cases he
    exact hp v A H (Ext.refl A H) hS hx⟩
theorem ds_if {as bs : List Stmt} (h : DT X W e t) (h1 : DSs X W as F) (h2 : DSs X W bs G) : DS X W (.If e as bs pos) (sIf t F G) := by
  obtain ⟨x, p, k⟩ := h
  obtain ⟨y, p1, k1⟩ := h1
  obtain ⟨z, p2, k2⟩ := h2
  refine ⟨_, ps_if p p1 p2, slift (rel := relB) (tk := fun c Dn σ H => if c = true then y Dn σ H else z Dn σ H) (k := fun env c => if c then F env else G env) k fun a v σ H A S env o S' hS hE hx he Dn hp => ?_⟩
  cases (show a = v from hx)
  cases a with
  | true => exact k1 σ H A S env o S' hS hE he Dn hp
  | false => exact k2 σ H A S env o S' hS hE he Dn hp
/-- xs[i] = e -/
def sSetI (fo fi fe : Env → M SV) : SM := fun env => lift env (bnd (fe env) fun v => bnd (fo env) fun o => bnd (fi env) fun i => ret (v, o, i)) fun q S => match q with
  | (.d x, .ptr k, .d (.int n)) => match S[k]? with
    | some l => match ixN l.length n with
      | some j => some (.nx env, S.set k (l.set j x))
      | none => none
    | none => none
  | _ => none
theorem ds_seti {o i : Expr} {fo fi : Env → M SV} {pos' : Pos} (pg : ∀ {to ti : TE}, PE X o to → PE X i ti → PG X (.Subscript o i pos') (gSub to ti rSetL)) (he : DE X W e f) (ho : DE X W o fo) (hi : DE X W i fi) (hs : swapsWithSole [.Subscript o i pos'] e pos.line X.env = pure false := by rfl) (hw : swappedStores [.Subscript o i pos'] e X.env = pure none := by rfl) :
    DS X W (.Assign [.Subscript o i pos'] e pos) (sSetI fo fi f) := by
  obtain ⟨te, pe, ke⟩ := he
  obtain ⟨to, po, ko⟩ := ho
  obtain ⟨ti, pi, ki⟩ := hi
  refine ⟨_, ps_asg pe (pg po pi) hs hw, ?_⟩
  intro σ H A S env o S' hS hE he Dn hp
  rcases lift_some he with ⟨⟨v, ov, iv⟩, S1, ef, q⟩ | ⟨c, fs, l, ef, rfl⟩
  · rcases bnd_some ef with ⟨v1, S2, ef1, ef2⟩ | ⟨_, _, _, _, z⟩
    · refine ke σ H A S env _ S2 hS hE ef1 _ fun vv A' H' e1 s1 r1 => ?_
      rcases bnd_some ef2 with ⟨o1, S3, ef3, ef4⟩ | ⟨_, _, _, _, z⟩
      · refine ko σ H' A' S2 env _ S3 s1 (hE.mono e1) ef3 _ fun oo A2 H2 e2 s2 r2 => ?_
        rcases bnd_some ef4 with ⟨i1, S4, ef5, ef6⟩ | ⟨_, _, _, _, z⟩
        · refine ki σ H2 A2 S3 env _ S4 s2 ((hE.mono e1).mono e2) ef5 _ fun ii A3 H3 e3 s3 r3 => ?_
          cases ef6
          split at q
          · rename_i x k n q0
            cases q0
            rcases eS : S1[k]? with _ | l
            · rw [eS] at q; cases q
            · rw [eS] at q
              dsimp only at q
              rcases ej : ixN l.length n with _ | j
              · rw [ej] at q; cases q
              · rw [ej] at q
                cases q
                obtain ⟨aa, h1, h2, h0⟩ := RepS.mono (x := .ptr k) e3 r2
                have h3 : Rep X.K X.mg A3 H3 (.int n) ii := r3
                simp only [Rep] at h3
                obtain ⟨ws, h4, h5⟩ := s3.lst h1 h0 eS
                have rx : Rep X.K X.mg A3 H3 x vv := RepS.mono (x := .d x) (e2.trans e3) r1
                obtain ⟨s4, e4⟩ := s3.setF h1 h0 (h5.set j (.of rx))
                exact ⟨aa, ws, n, j, h2, h3, h4, by rw [← h5.length]; exact ej, hp σ A3 _ (((e1.trans e2).trans e3).trans e4) s4 ((((hE.mono e1).mono e2).mono e3).mono e4)⟩
          · cases q
        · cases z
      · cases z
    · cases z
  · rcases bnd_some ef with ⟨v1, S2, ef1, ef2⟩ | ⟨c', fs', l', ef1, z⟩
    · refine ke σ H A S env _ S2 hS hE ef1 _ fun vv A' H' e1 s1 r1 => ?_
      rcases bnd_some ef2 with ⟨o1, S3, ef3, ef4⟩ | ⟨c', fs', l', ef3, z⟩
      · refine ko σ H' A' S2 env _ S3 s1 (hE.mono e1) ef3 _ fun oo A2 H2 e2 s2 r2 => ?_
        rcases bnd_some ef4 with ⟨i1, S4, ef5, ef6⟩ | ⟨c', fs', l', ef5, z⟩
        · cases ef6
        · cases z
          exact ki σ H2 A2 S3 env _ _ s2 ((hE.mono e1).mono e2) ef5 _ fun C dd A3 H3 hc e s r => hp C dd σ A3 H3 hc ((e1.trans e2).trans e) s (((hE.mono e1).mono e2).mono e) r
      · cases z
        exact ko σ H' A' S2 env _ _ s1 (hE.mono e1) ef3 _ fun C dd A3 H3 hc e s r => hp C dd σ A3 H3 hc (e1.trans e) s ((hE.mono e1).mono e) r
    · cases z
      exact ke σ H A S env _ _ hS hE ef1 _ fun C dd A' H' hc e s r => hp C dd σ A' H' hc e s (hE.mono e) r
/-- xs.append(e) -/
def asPtr : SV → M Nat
  | .ptr k => ret k
  | _ => stuck
def sApp (fo fe : Env → M SV) : SM := fun env => lift env (bnd (bnd (fo env) asPtr) fun k => bnd (fe env) fun v => ret (k, v)) fun q S => match q with
  | (k, .d x) => match S[k]? with
    | some l => if l.length < lim then some (.nx env, S.set k (l ++ [x])) else none
    | none => none
  | _ => none
theorem ds_app {o : Expr} {fo : Env → M SV} (pe : ∀ {to : TE} {ta : TA}, PE X o to → PA X [e] ta → PS X st (tDrop (tBM X.K "list" rAppend to ta))) (ho : DE X W o fo) (he : DE X W e f) (hs : starEach [e] X.env = (false, eval e X.env) :: starEach [] X.env := by rfl) :
    DS X W st (sApp fo f) := by
  obtain ⟨to, po, ko⟩ := ho
  obtain ⟨te, pe', ke⟩ := he
  refine ⟨_, pe po (pa_cons pe' pa_nil hs), ?_⟩
  intro σ H A S env o S' hS hE he Dn hp
  have key : ∀ {m : M (Nat × SV)} , True := fun {m} => trivial
  rcases lift_some he with ⟨⟨k, v⟩, S1, ef, q⟩ | ⟨c, fs, l, ef, rfl⟩
  · rcases bnd_some ef with ⟨k1, S2, ef1, ef2⟩ | ⟨_, _, _, _, z⟩
    · rcases bnd_some ef1 with ⟨o1, S2', ef1', ef1b⟩ | ⟨_, _, _, _, z⟩
      · unfold asPtr at ef1b
        split at ef1b
        · rename_i k0
          cases ef1b
          refine ko σ H A S env _ S2 hS hE ef1' _ fun oo A1 H1 e1 s1 r1 => ?_
          rcases bnd_some ef2 with ⟨v1, S3, ef3, ef4⟩ | ⟨_, _, _, _, z⟩
          · cases ef4
            obtain ⟨aa, h1, h2, ws0, hw0⟩ := (show RepS X.K (gm X W) A1 H1 (.ptr k) oo from r1)
            subst h2
            refine ⟨.inl ⟨rfl, ws0, SqL.of hw0⟩, ?_⟩
            refine ke σ H1 A1 S2 env _ _ s1 (hE.mono e1) ef3 _ fun vv A2 H2 e2 s2 r2 => ?_
            obtain ⟨aa', h1', h2', h0'⟩ := RepS.mono (x := .ptr k) e2 r1
            cases h2'
            split at q
            · rename_i x q0
              cases q0
              rcases eS : S1[k]? with _ | l
              · rw [eS] at q; cases q
              · rw [eS] at q
                dsimp only at q
                by_cases c : l.length < lim
                · rw [if_pos c] at q
                  cases q
                  obtain ⟨ws, h4, h5⟩ := s2.lst h1' h0' eS
                  have rx : Rep X.K X.mg A2 H2 x vv := r2
                  have rr : RepFs X.K X.mg A2 H2 (l ++ [x]) (ws ++ [vv]) := h5.append ⟨vv, [], rfl, .of rx, rfl⟩
                  obtain ⟨s4, e4⟩ := s2.setF h1' h0' rr
                  refine ⟨aa, ws, vv, rfl, rfl, h4, ?_, hp σ A2 _ ((e1.trans e2).trans e4) s4 (((hE.mono e1).mono e2).mono e4)⟩
                  rw [← h5.length, sizeLine_eq]
                  exact c
                · rw [if_neg c] at q; cases q
            · cases q
          · cases z
        · cases ef1b
      · cases z
    · cases z
  · rcases bnd_some ef with ⟨o1, S2, ef1, ef2⟩ | ⟨c', fs', l', ef1, z⟩
    · rcases bnd_some ef1 with ⟨o2, S2', ef1', ef1b⟩ | ⟨_, _, _, _, z⟩
      · unfold asPtr at ef1b
        split at ef1b
        · rename_i k0
          cases ef1b
          refine ko σ H A S env _ S2 hS hE ef1' _ fun oo A1 H1 e1 s1 r1 => ?_
          obtain ⟨aa, h1, h2, ws0, hw0⟩ := (show RepS X.K (gm X W) A1 H1 (.ptr _) oo from r1)
          subst h2
          refine ⟨.inl ⟨rfl, ws0, SqL.of hw0⟩, ?_⟩
          rcases bnd_some ef2 with ⟨v1, S3, ef3, ef4⟩ | ⟨c', fs', l', ef3, z⟩
          · cases ef4
          · cases z
            exact ke σ H1 A1 S2 env _ _ s1 (hE.mono e1) ef3 _ fun C dd A3 H3 hc e s r => hp C dd σ A3 H3 hc (e1.trans e) s ((hE.mono e1).mono e) r
        · cases ef1b
      · cases z
    · rcases bnd_some ef1 with ⟨o2, S2', ef1', ef1b⟩ | ⟨c2, fs2, l2, ef0, z2⟩
      · unfold asPtr at ef1b
        split at ef1b
        · cases ef1b
        · cases ef1b
      · cases z
        cases z2
        exact ko σ H A S env _ _ hS hE ef0 _ fun C dd A3 H3 hc e s r => hp C dd σ A3 H3 hc e s (hE.mono e) r
end
end DL
namespace DL
open PySem L2
/-- lists of one's own that must not change meanwhile -/
abbrev KK := Option (List (Nat × List D))
def keepOk (kk : KK) (ds : List D) (S : Store) : Prop := match kk with
  | none => True
  | some l => ∀ p ∈ l, S[p.1]? = some p.2
theorem keepOk_app {kk : KK} {ds : List D} {S T : Store} (h : keepOk kk ds S) : keepOk kk ds (S ++ T) := by
  cases kk with
  | none => trivial
  | some l => exact fun p hp => by rw [List.getElem?_append_left (List.getElem?_eq_some_iff.mp (h p hp)).1]; exact h p hp
structure JOk (K : PySem.W.Frag) (mg : Gm) (J : It) (ds : List D) (kk : KK) (inv : List Addr → Hp → Store → Prop) : Prop where
  go : ∀ i A H S, inv A H S → i < ds.length → J.go i H
  stop : ∀ A H S, inv A H S → J.stop ds.length H
  yld : ∀ i A H S x H' d, Sta K mg A H S → inv A H S → ds[i]? = some d → J.yld i H x H' → Ext A H A H' ∧ Sta K mg A H' S ∧ inv A H' S ∧ Rep K mg.m A H' d x
  keep : ∀ A H S A' H' S', Sta K mg A H S → inv A H S → Ext A H A' H' → Sta K mg A' H' S' → keepOk kk ds S' → inv A' H' S'
section
variable (X : Cx) (W : WG)
def PoI (Rr : It → Hp → Prop) (σ : St) (A : List Addr) (H : Hp) : R (List D × KK) → Store → Prop
  | .ok (ds, kk), S' => ∀ J inv A' H', Ext A H A' H' → Sta X.K (gm X W) A' H' S' → JOk X.K (gm X W) J ds kk inv → inv A' H' S' → keepOk kk ds S' → Rr J H'
  | .err c fs l, S' => ∀ C dd A' H', X.mg c = some (.ref C) → Ext A H A' H' → Sta X.K (gm X W) A' H' S' → ErrR X.K X.mg A' H' dd fs l → W.w (.ref C) dd σ H'
def IOk (wi : TI) (f : Env → M (List D × KK)) : Prop :=
  ∀ (σ : St) (H : Hp) (A : List Addr) (S : Store) (env : Env) (r : R (List D × KK)) (S' : Store), Sta X.K (gm X W) A H S → EnvR X.K (gm X W) A H σ env → f env S = some (r, S') → ∀ Rr, PoI X W Rr σ A H r S' → wi σ H Rr
def DI (tg iter : Expr) (f : Env → M (List D × KK)) : Prop := ∃ wi, PI X tg iter wi ∧ IOk X W wi f
end
section
variable {K : PySem.W.Frag} {mg : Gm}
theorem jok_list {a : Addr} {ds : List D} : JOk K mg (Itl K a) ds none (fun A H S => ∃ vs, SqX K A H a vs ∧ Reps K mg.m A H ds vs) where
  go := fun i A H S ⟨vs, h, r⟩ hi => by
    have hi' : i < vs.length := by rw [← r.length]; exact hi
    exact ⟨vs, vs[i], h.sql, List.getElem?_eq_getElem hi'⟩
  stop := fun A H S ⟨vs, h, r⟩ => ⟨vs, h.sql, by rw [← r.length]; exact Nat.le_refl _⟩
  yld := fun i A H S x H' d hS hI hd hy => by
    obtain ⟨rfl, hy⟩ := hy
    obtain ⟨vs, h, r⟩ := hI
    obtain ⟨v, h1, h2⟩ := r.get hd
    have e := hy vs h.sql
    rw [h1] at e
    cases e
    exact ⟨Ext.refl A _, hS, ⟨vs, h, r⟩, h2⟩
  keep := fun A H S A' H' S' hS ⟨vs, h, r⟩ e _ _ => ⟨vs, h.mono e, Reps.mono e _ _ r⟩
theorem jok_ptr {a : Addr} {k : Nat} {ds : List D} (hc : clsd ds = true) : JOk K mg (Itl K a) ds (some [(k, ds)]) (fun A H S => A[k]? = some a ∧ ∃ vs, H a = some (.lst vs) ∧ Reps K mg.m A H ds vs) where
  go := fun i A H S ⟨_, vs, h, r⟩ hi => by
    have hi' : i < vs.length := by rw [← r.length]; exact hi
    exact ⟨vs, vs[i], SqL.of h, List.getElem?_eq_getElem hi'⟩
  stop := fun A H S ⟨_, vs, h, r⟩ => ⟨vs, SqL.of h, by rw [← r.length]; exact Nat.le_refl _⟩
  yld := fun i A H S x H' d hS hI hd hy => by
    obtain ⟨rfl, hy⟩ := hy
    obtain ⟨ha, vs, h, r⟩ := hI
    obtain ⟨v, h1, h2⟩ := r.get hd
    have e := hy vs (SqL.of h)
    rw [h1] at e
    cases e
    exact ⟨Ext.refl A _, hS, ⟨ha, vs, h, r⟩, h2⟩
  keep := fun A H S A' H' S' hS ⟨ha, vs, h, r⟩ e hS' hk => by
    have ha' : A'[k]? = some a := by
      obtain ⟨l, rfl, _⟩ := e.app
      rw [List.getElem?_append_left (List.getElem?_eq_some_iff.mp ha).1]; exact ha
    obtain ⟨ws, h1, h2⟩ := hS'.lstC ha' (e.kl a vs h) (hk _ (List.mem_singleton.mpr rfl)) hc
    exact ⟨ha', ws, h1, h2⟩
theorem jok_tup {a : Addr} {ds : List D} : JOk K mg (Itt K a) ds none (fun A H S => ∃ vs, a ∉ A ∧ H a = some (.tup vs) ∧ Reps K mg.m A H ds vs) where
  go := fun i A H S ⟨vs, _, h, r⟩ hi => by
    have hi' : i < vs.length := by rw [← r.length]; exact hi
    exact ⟨vs, vs[i], SqT.of h, List.getElem?_eq_getElem hi'⟩
  stop := fun A H S ⟨vs, _, h, r⟩ => ⟨vs, SqT.of h, by rw [← r.length]; exact Nat.le_refl _⟩
  yld := fun i A H S x H' d hS hI hd hy => by
    obtain ⟨rfl, hy⟩ := hy
    obtain ⟨vs, n, h, r⟩ := hI
    obtain ⟨v, h1, h2⟩ := r.get hd
    have e := hy vs (SqT.of h)
    rw [h1] at e
    cases e
    exact ⟨Ext.refl A _, hS, ⟨vs, n, h, r⟩, h2⟩
  keep := fun A H S A' H' S' hS ⟨vs, n, h, r⟩ e _ _ => ⟨vs, e.notin h n, e.keep _ _ h n, Reps.mono e _ _ r⟩
/-- lo, lo + 1, .. -/
def rangeD (lo : Int) (n : Nat) : List D := (List.range n).map fun i => .int (lo + (i : Nat))
theorem rangeD_length (lo : Int) (n : Nat) : (rangeD lo n).length = n := by simp [rangeD]
theorem rangeD_get {lo : Int} {n i : Nat} (h : i < n) : (rangeD lo n)[i]? = some (.int (lo + (i : Nat))) := by simp [rangeD, h]
theorem jok_range {lo : Int} {n : Nat} : JOk K mg (Itr lo n) (rangeD lo n) none (fun _ _ _ => True) where
  go := fun i A H S _ hi => by rw [rangeD_length] at hi; exact hi
  stop := fun A H S _ => by rw [rangeD_length]; exact Nat.le_refl n
  yld := fun i A H S x H' d hS _ hd hy => by
    obtain ⟨rfl, rfl⟩ := hy
    have hi : i < n := by
      have := (List.getElem?_eq_some_iff.mp hd).1
      rwa [rangeD_length] at this
    rw [rangeD_get hi] at hd
    cases hd
    exact ⟨Ext.refl A _, hS, trivial, by simp only [Rep]⟩
  keep := fun _ _ _ _ _ _ _ _ _ _ _ => trivial
end
section
variable {X : Cx} {W : WG} {e a b tg iter : Expr} {es : List Expr} {f g : Env → M SV} {fa : Env → M (List SV)} {t : Env → M Bool} {F G : SM} {st : Stmt} {rest : List Stmt} {pos p : Pos}
/-- the things of a list or a tuple, in their order -/
def walkD (x : SV) : M (List D × KK) := match x with
  | .d (.lst l) => ret (l, none)
  | .d (.scr l) => ret (l, none)
  | .d (.tup l) => ret (l, none)
  | .ptr k => fun S => match S[k]? with
    | some l => if clsd l = true then some (.ok (l, some [(k, l)]), S) else none
    | none => none
  | _ => stuck
def iOf (f : Env → M SV) : Env → M (List D × KK) := fun env => bnd (f env) walkD
theorem iok_bind {te : TE} {wk : V → Hp → (It → Hp → Prop) → Prop} {o : SV → M (List D × KK)} (k : TOk X.K (gm X W) (relS X.K (gm X W)) W te f)
    (hk : ∀ (a : SV) (v : V) (σ : St) (H : Hp) (A : List Addr) (S : Store) (r : R (List D × KK)) (S' : Store), Sta X.K (gm X W) A H S → RepS X.K (gm X W) A H a v → o a S = some (r, S') → ∀ Rr, PoI X W Rr σ A H r S' → wk v H Rr) :
    IOk X W (fun σ H R => te σ H fun x H1 => wk x H1 R) (fun env => bnd (f env) o) := by
  intro σ H A S env r S' hS hE he Rr hp
  rcases bnd_some he with ⟨a, S1, ef, q⟩ | ⟨c, fs, l, ef, rfl⟩
  · refine k σ H A S env _ S1 hS hE ef _ fun v A' H' e s z => hk a v σ H' A' S1 r S' s z q Rr ?_
    cases r with
    | ok q => exact fun J inv A2 H2 e2 s2 j i kp => hp J inv A2 H2 (e.trans e2) s2 j i kp
    | err c fs l => exact fun C dd A2 H2 hc e2 s2 z => hp C dd A2 H2 hc (e.trans e2) s2 z
  · exact k σ H A S env _ _ hS hE ef _ hp
def wkLT (K : PySem.W.Frag) (x : V) (H1 : Hp) (R : It → Hp → Prop) : Prop := (∃ a, x = .ref a ∧ (∃ xs, SqL K H1 a xs) ∧ R (Itl K a) H1) ∨ (∃ a, x = .ref a ∧ (∃ xs, SqT K H1 a xs) ∧ R (Itt K a) H1)
theorem iter_new {pins : List (Addr × Obj)} {σ : St} {H1 : Hp} {s1 : Shared} {R : It → Hp → Prop} {J : It} {o : Obj} {tn : Nat → Heap → Prop} (I1 : Inv X pins σ H1 s1)
    (tu : Turn X.prog X.w X.K tg J [s1.heap.objs.size] s1.heap.objs.size tn) (t0 : tn 0 (s1.heap.push o)) (q : R J H1) :
    PIE X pins σ tg R (.ref s1.heap.objs.size) { s1 with heap := s1.heap.push o } := by
  have keepH : ∀ b u, s1.heap.get? b = some u → (s1.heap.push o).get? b = some u := fun _ _ => Heap.get?_push_of_some _
  refine ⟨_, [s1.heap.objs.size], tn, J, H1, rfl, I1.kept (t' := s1.toks) keepH, tu, t0, ?_, q⟩
  rintro b hb
  cases List.mem_singleton.mp hb
  exact I1.fpOk (Nat.le_refl _) (I1.hok.fresh (Nat.le_refl _))
/-- over a list or a tuple -/
theorem pi_lt {te : TE} (he : PE X iter te) : PI X tg iter (fun σ H R => te σ H fun x H1 => wkLT X.K x H1 R) where
  run := fun ps0 s0 σ0 H0 R I h => thn (he.run ps0 s0 σ0 H0 _ I h) fun v s1 hv => by
    obtain ⟨x, H1, I1, r1, ⟨a, rfl, ⟨xs, hq⟩, q⟩ | ⟨a, rfl, ⟨xs, hq⟩, q⟩⟩ := hv
    · cases r1
      obtain ⟨its, rv, p, _⟩ := I1.list hq
      exact wpAny_pyIter_list p.isList (iter_new I1 (turn_list a _) ⟨_, Heap.get?_push_size _ rfl, rfl, rfl⟩ q)
    · cases r1
      obtain ⟨its, rv, p, _⟩ := I1.tuple hq
      exact wpAny_pyIter_tuple (show s1.heap.IsTuple a its.toArray from p) (iter_new I1 (turn_tuple a _) ⟨_, Heap.get?_push_size _ rfl, rfl, rfl⟩ q)
theorem di_lt (h : DE X W iter f) : DI X W tg iter (iOf f) := by
  obtain ⟨te, p, k⟩ := h
  refine ⟨_, pi_lt p, iok_bind (wk := fun x H1 R => wkLT X.K x H1 R) k fun a v σ H A S r S' hS hx he Rr hp => ?_⟩
  unfold walkD at he
  split at he
  · rename_i l
    cases he
    have h1 : Rep X.K X.mg A H (.lst l) v := hx
    simp only [Rep] at h1
    obtain ⟨q, vs, e1, n, h2, h3⟩ := h1
    exact .inl ⟨q, e1, ⟨vs, SqL.of h2⟩, hp _ _ A H (Ext.refl A H) hS jok_list ⟨vs, .inl ⟨.inl h2, n⟩, h3⟩ trivial⟩
  · rename_i l
    cases he
    have h1 : Rep X.K X.mg A H (.scr l) v := hx
    simp only [Rep] at h1
    obtain ⟨q, vs, e1, h2, h3⟩ := h1
    exact .inl ⟨q, e1, ⟨vs, h2.sql⟩, hp _ _ A H (Ext.refl A H) hS jok_list ⟨vs, h2, h3⟩ trivial⟩
  · rename_i l
    cases he
    have h1 : Rep X.K X.mg A H (.tup l) v := hx
    simp only [Rep] at h1
    obtain ⟨q, vs, e1, n, h2, h3⟩ := h1
    exact .inr ⟨q, e1, ⟨vs, SqT.of h2⟩, hp _ _ A H (Ext.refl A H) hS jok_tup ⟨vs, n, h2, h3⟩ trivial⟩
  · rename_i k
    rcases eS : S[k]? with _ | l
    · rw [eS] at he; cases he
    · rw [eS] at he
      dsimp only at he
      by_cases hc : clsd l = true
      rotate_left
      · rw [if_neg hc] at he; cases he
      rw [if_pos hc] at he
      cases he
      obtain ⟨q, h1, e1, h0⟩ := (show RepS X.K (gm X W) A H (.ptr k) v from hx)
      obtain ⟨vs, h2, h3⟩ := hS.lstC h1 h0 eS hc
      exact .inl ⟨q, e1, ⟨vs, SqL.of h2⟩, hp _ _ A H (Ext.refl A H) hS (jok_ptr hc) ⟨h1, vs, h2, h3⟩ (fun p hp => by rw [List.mem_singleton.mp hp]; exact eS)⟩
  · cases he
def rngOk (j : Int) : Bool := decide (-(2 ^ 62) ≤ j) && decide (j < 2 ^ 62)
def walkR1 (xs : List SV) : M (List D × KK) := match xs with
  | [.d (.int j)] => if rngOk j = true then ret (rangeD 0 j.toNat, none) else stuck
  | _ => stuck
def walkR2 (xs : List SV) : M (List D × KK) := match xs with
  | [.d (.int i), .d (.int j)] => if rngOk i = true ∧ rngOk j = true then ret (rangeD i (j - i).toNat, none) else stuck
  | _ => stuck
theorem iok_args {ta : TA} {wk : List V → Hp → (It → Hp → Prop) → Prop} {o : List SV → M (List D × KK)} (k : TOk X.K (gm X W) (relA X.K (gm X W)) W ta fa)
    (hk : ∀ (a : List SV) (v : List V) (σ : St) (H : Hp) (A : List Addr) (S : Store) (r : R (List D × KK)) (S' : Store), Sta X.K (gm X W) A H S → RepSs X.K (gm X W) A H a v → o a S = some (r, S') → ∀ Rr, PoI X W Rr σ A H r S' → wk v H Rr) :
    IOk X W (fun σ H R => ta σ H fun x H1 => wk x H1 R) (fun env => bnd (fa env) o) := by
  intro σ H A S env r S' hS hE he Rr hp
  rcases bnd_some he with ⟨a, S1, ef, q⟩ | ⟨c, fs, l, ef, rfl⟩
  · refine k σ H A S env _ S1 hS hE ef _ fun v A' H' e s z => hk a v σ H' A' S1 r S' s z q Rr ?_
    cases r with
    | ok q => exact fun J inv A2 H2 e2 s2 j i kp => hp J inv A2 H2 (e.trans e2) s2 j i kp
    | err c fs l => exact fun C dd A2 H2 hc e2 s2 z => hp C dd A2 H2 hc (e.trans e2) s2 z
  · exact k σ H A S env _ _ hS hE ef _ hp
theorem di_range1 {a : Expr} (h : DA X W [a] fa) (hg : Gl X "range") (hm : X.mg "range" = none) (hs : starEach [a] X.env = [(false, eval a X.env)] := by rfl) : DI X W tg (.Call (.Name "range" p) [a] [] pos) (eArg walkR1 fa) := by
  obtain ⟨ta, pa, k⟩ := h
  refine ⟨_, pi_range1 hg hm pa hs, iok_args (wk := fun vs H1 R => ∃ j : Int, vs = [.int j] ∧ -(2 ^ 62) ≤ j ∧ j < 2 ^ 62 ∧ R (Itr 0 j.toNat) H1) k fun a v σ H A S r S' hS hx he Rr hp => ?_⟩
  unfold walkR1 at he
  split at he
  · rename_i j
    by_cases c : rngOk j = true
    · rw [if_pos c] at he
      cases he
      obtain ⟨w, rfl, h1⟩ := reps1 hx
      have h1 : Rep X.K X.mg A H (.int j) w := h1
      simp only [Rep] at h1
      subst h1
      simp only [rngOk, Bool.and_eq_true, decide_eq_true_eq] at c
      exact ⟨j, rfl, c.1, c.2, hp _ _ A H (Ext.refl A H) hS jok_range trivial trivial⟩
    · rw [if_neg c] at he; cases he
  · cases he
theorem di_range2 {a b : Expr} (h : DA X W [a, b] fa) (hg : Gl X "range") (hm : X.mg "range" = none) (hs : starEach [a, b] X.env = [(false, eval a X.env), (false, eval b X.env)] := by rfl) (hs2 : starEach [b] X.env = [(false, eval b X.env)] := by rfl) : DI X W tg (.Call (.Name "range" p) [a, b] [] pos) (eArg walkR2 fa) := by
  obtain ⟨ta, pa, k⟩ := h
  refine ⟨_, pi_range2 hg hm pa hs hs2, iok_args (wk := fun vs H1 R => ∃ i j : Int, vs = [.int i, .int j] ∧ (-(2 ^ 62) ≤ i ∧ i < 2 ^ 62 ∧ -(2 ^ 62) ≤ j ∧ j < 2 ^ 62) ∧ R (Itr i (j - i).toNat) H1) k fun a v σ H A S r S' hS hx he Rr hp => ?_⟩
  unfold walkR2 at he
  split at he
  · rename_i i j
    by_cases c : rngOk i = true ∧ rngOk j = true
    · rw [if_pos c] at he
      cases he
      obtain ⟨w, u, rfl, h1, h2⟩ := reps2 hx
      have h1 : Rep X.K X.mg A H (.int i) w := h1
      have h2 : Rep X.K X.mg A H (.int j) u := h2
      simp only [Rep] at h1 h2
      subst h1 h2
      simp only [rngOk, Bool.and_eq_true, decide_eq_true_eq] at c
      exact ⟨i, j, rfl, ⟨c.1.1, c.1.2, c.2.1, c.2.2⟩, hp _ _ A H (Ext.refl A H) hS jok_range trivial trivial⟩
    · rw [if_neg c] at he; cases he
  · cases he
inductive Tg where
  | one (i : Nat)
  | many (is : List Nat)
def Tg.slots : Tg → List Nat
  | .one i => [i]
  | .many is => is
def setMany : Env → List Nat → List D → Option Env
  | env, [], [] => some env
  | env, i :: is, d :: ds => setMany (env.set i (some (.d d))) is ds
  | _, _, _ => none
def setManyV : St → List Nat → List V → St
  | σ, i :: is, v :: vs => setManyV (σ.set i (some v)) is vs
  | σ, _, _ => σ
def setT (t : Tg) (d : D) (env : Env) : Option Env := match t, d with
  | .one i, d => some (env.set i (some (.d d)))
  | .many is, .tup ds => setMany env is ds
  | _, _ => none
/-- the target's rule: it stores at its slots -/
def GOk (X : Cx) (W : WG) (t : Tg) (g : TG) : Prop := ∀ (A : List Addr) (H : Hp) (σ : St) (env env' : Env) (d : D) (v : V), Rep X.K X.mg A H d v → EnvR X.K (gm X W) A H σ env → setT t d env = some env' →
  ∃ vs, ∀ Q : St → Hp → Prop, (EnvR X.K (gm X W) A H (setManyV σ t.slots vs) env' → Q (setManyV σ t.slots vs) H) → g v σ H Q
theorem gok_one (i : Nat) : GOk X W (.one i) (gName i) := fun A H σ env env' d v hr hE he => ⟨[v], fun Q q => by
  cases he
  exact q (hE.set (sv := .d d) hr)⟩
theorem setMany_rep {A : List Addr} {H : Hp} : ∀ {is : List Nat} {ds : List D} {vs : List V} {σ : St} {env env' : Env}, Reps X.K X.mg A H ds vs → EnvR X.K (gm X W) A H σ env → setMany env is ds = some env' → EnvR X.K (gm X W) A H (setManyV σ is vs) env' ∧ is.length = ds.length
  | [], [], vs, σ, env, env', r, hE, he => by
    cases he
    exact ⟨hE, rfl⟩
  | [], _ :: _, vs, σ, env, env', r, hE, he => by cases he
  | _ :: _, [], vs, σ, env, env', r, hE, he => by cases he
  | i :: is, d :: ds, vs, σ, env, env', r, hE, he => by
    simp only [Reps] at r
    obtain ⟨v, r', e, h1, h2⟩ := r
    subst e
    obtain ⟨h3, h4⟩ := setMany_rep (is := is) (σ := σ.set i (some v)) h2 (hE.set (sv := .d d) h1) he
    exact ⟨h3, by rw [List.length_cons, List.length_cons, h4]⟩
/-- several names: what stores them one by one -/
def NOk (is : List Nat) (t : TGs) : Prop := ∀ (σ : St) (H : Hp) (vs : List V) (Q : St → Hp → Prop), vs.length = is.length → Q (setManyV σ is vs) H → t vs σ H Q
theorem nok_nil : NOk [] gNil := fun σ H vs Q hl q => by
  cases vs with
  | nil => exact ⟨rfl, q⟩
  | cons _ _ => cases hl
theorem nok_cons {i : Nat} {is : List Nat} {t : TGs} (h : NOk is t) : NOk (i :: is) (gCons (gName i) t) := fun σ H vs Q hl q => by
  cases vs with
  | nil => cases hl
  | cons v vs => exact ⟨v, vs, rfl, h _ H vs Q (by simpa using hl) q⟩
theorem gok_many {is : List Nat} {t : TGs} {n : Nat} (h : NOk is t) (hn : n = is.length) : GOk X W (.many is) (gTup X.K n t) := fun A H σ env env' d v hr hE he => by
  unfold setT at he
  split at he
  · rename_i i' hd; cases hd
  · rename_i is' ds hd
    cases hd
    simp only [Rep] at hr
    obtain ⟨a, vs, e, _, h1, r⟩ := hr
    obtain ⟨h2, h3⟩ := setMany_rep r hE he
    exact ⟨vs, fun Q q => ⟨a, vs, e, SqT.of h1, by rw [hn, h3, ← r.length], h σ H vs Q (by rw [h3, ← r.length]) (q h2)⟩⟩
  · cases he
def gsOf : List Nat → TGs
  | [] => gNil
  | i :: is => gCons (gName i) (gsOf is)
theorem nok_gs : ∀ is : List Nat, NOk is (gsOf is)
  | [] => nok_nil
  | _ :: is => nok_cons (nok_gs is)
def gT (K : PySem.W.Frag) : Tg → TG
  | .one i => gName i
  | .many is => gTup K is.length (gsOf is)
theorem gok_all : ∀ t : Tg, GOk X W t (gT X.K t)
  | .one i => gok_one i
  | .many is => gok_many (nok_gs is) rfl
def DG (X : Cx) (tg : Expr) (t : Tg) : Prop := PG X tg (gT X.K t)
def DGs (X : Cx) (tg : List Expr) (is : List Nat) : Prop := PGs X tg (gsOf is)
theorem dg_name (i : Nat) {x : Str} (hN : X.N.Nodup) (hi : X.N[i]? = some x := by rfl) (hx : Loc X.env.scope x := by first | exact Or.inl rfl | exact Or.inr rfl) (hf : X.fn x = true ∨ X.env.scope.names.lookup x = some .local := by first | exact .inl rfl | exact .inr rfl) :
    DG X (.Name x pos) (.one i) := pg_name hN hi hx hf
theorem dgs_nil : DGs X [] [] := pgs_nil
open Classical in
noncomputable def forL (t : Tg) (kk : KK) (all : List D) (F : SM) : List D → SM
  | [], env, S => some (.nx env, S)
  | d :: ds, env, S => match setT t d env with
    | none => none
    | some env1 => match F env1 S with
      | some (.nx env2, S2) => if keepOk kk all S2 then forL t kk all F ds env2 S2 else none
      | some (.ct env2, S2) => if keepOk kk all S2 then forL t kk all F ds env2 S2 else none
      | some (.bk env2, S2) => some (.nx env2, S2)
      | some (.rt sv, S2) => some (.rt sv, S2)
      | some (.er c fs l env2, S2) => some (.er c fs l env2, S2)
      | none => none
noncomputable def sFor (t : Tg) (f : Env → M (List D × KK)) (F : SM) : SM := fun env => lift env (f env) fun q S => forL t q.2 q.1 F q.1 env S
theorem sok_for {tb : TS} {wi : TI} {g : TG} {tt : Tg} {fi : Env → M (List D × KK)} (ki : IOk X W wi fi) (kg : GOk X W tt g) (kb : SOk X.K (gm X W) W tb F) : SOk X.K (gm X W) W (tFor wi g tb) (sFor tt fi F) := by
  intro σ H A S env o S' hS hE he Dn hp
  rcases lift_some he with ⟨⟨ds, kk⟩, S1, ef, q⟩ | ⟨c, fs, l, ef, rfl⟩
  · refine ki σ H A S env _ S1 hS hE ef _ ?_
    intro J inv A1 H1 e1 s1 jok hinv hkp
    dsimp only at q hkp
    refine ⟨fun i m σ2 H2 => m = ds.length - i ∧ i ≤ ds.length ∧ ∃ A2 S2 env2, Ext A H A2 H2 ∧ Sta X.K (gm X W) A2 H2 S2 ∧ EnvR X.K (gm X W) A2 H2 σ2 env2 ∧ inv A2 H2 S2 ∧ forL tt kk ds F (ds.drop i) env2 S2 = some (o, S'), ⟨ds.length, by simp, Nat.zero_le _, A1, S1, env, e1, s1, hE.mono e1, hinv, by simpa using q⟩, ?_⟩
    rintro i m σ2 H2 ⟨rfl, hi, A2, S2, env2, e2, s2, E2, i2, q2⟩
    by_cases hlt : i < ds.length
    · refine .inr ⟨jok.go i A2 H2 S2 i2 hlt, ?_⟩
      have hd : ds[i]? = some ds[i] := List.getElem?_eq_getElem hlt
      have hdrop : ds.drop i = ds[i] :: ds.drop (i + 1) := List.drop_eq_getElem_cons hlt
      rw [hdrop] at q2
      unfold forL at q2
      rcases eT : setT tt ds[i] env2 with _ | env3
      · rw [eT] at q2; cases q2
      · rw [eT] at q2
        dsimp only at q2
        rcases eF : F env3 S2 with _ | ⟨o3, S3⟩
        · rw [eF] at q2; cases q2
        · rw [eF] at q2
          refine ⟨fun σ4 H4 => ∃ A4 S4 env4, Ext A H A4 H4 ∧ Sta X.K (gm X W) A4 H4 S4 ∧ EnvR X.K (gm X W) A4 H4 σ4 env4 ∧ inv A4 H4 S4 ∧ forL tt kk ds F (ds.drop (i + 1)) env4 S4 = some (o, S'), fun σ4 H4 h4 => ⟨ds.length - (i + 1), by omega, rfl, hlt, h4⟩, ?_⟩
          intro x H3 hy
          obtain ⟨e3, s3, i3, r3⟩ := jok.yld i A2 H2 S2 x H3 ds[i] s2 i2 hd hy
          obtain ⟨vs, kg'⟩ := kg A2 H3 σ2 env2 env3 _ x r3 (E2.mono e3) eT
          refine kg' _ fun E3 => ?_
          refine kb _ H3 A2 S2 env3 o3 S3 s3 E3 eF _ ?_
          have e23 := e2.trans e3
          cases o3 with
          | nx env4 =>
            dsimp only at q2
            by_cases hk : keepOk kk ds S3
            · rw [if_pos hk] at q2
              exact fun σ4 A4 H4 e4 s4 E4 => ⟨A4, S3, env4, e23.trans e4, s4, E4, jok.keep A2 H3 S2 A4 H4 S3 s3 i3 e4 s4 hk, q2⟩
            · rw [if_neg hk] at q2; cases q2
          | ct env4 =>
            dsimp only at q2
            by_cases hk : keepOk kk ds S3
            · rw [if_pos hk] at q2
              exact fun σ4 A4 H4 e4 s4 E4 => ⟨A4, S3, env4, e23.trans e4, s4, E4, jok.keep A2 H3 S2 A4 H4 S3 s3 i3 e4 s4 hk, q2⟩
            · rw [if_neg hk] at q2; cases q2
          | bk env4 =>
            cases q2
            exact fun σ4 A4 H4 e4 s4 E4 => hp σ4 A4 H4 (e23.trans e4) s4 E4
          | rt sv =>
            cases q2
            exact fun v A4 H4 e4 s4 r4 => hp v A4 H4 (e23.trans e4) s4 r4
          | er c fs l env4 =>
            cases q2
            exact fun C dd σ4 A4 H4 hc e4 s4 E4 r4 => hp C dd σ4 A4 H4 hc (e23.trans e4) s4 E4 r4
    · have hi' : i = ds.length := by omega
      subst hi'
      refine .inl ⟨jok.stop A2 H2 S2 i2, ?_⟩
      rw [List.drop_length] at q2
      unfold forL at q2
      cases q2
      exact hp σ2 A2 H2 e2 s2 E2
  · exact ki σ H A S env _ _ hS hE ef _ fun C dd A' H' hc e s r => hp C dd σ A' H' hc e s (hE.mono e) r
theorem ds_for {tt : Tg} {fi : Env → M (List D × KK)} {body : List Stmt} (hp : PassesOwn (model X.prog X.w) X.A X.env X.xe) (hc : X.calm = true) (hi : DI X W tg iter fi) (hg : DG X tg tt) (hb : DSs X W body F) (hs : ∀ x, foldedSetIterable iter X.env x = pure x := by intro _; rfl) : DS X W (.For tg iter body [] pos) (sFor tt fi F) := by
  obtain ⟨wi, pi, ki⟩ := hi
  obtain ⟨tb, pb, kb⟩ := hb
  exact ⟨_, ps_for hp hc pi hg pb hs, sok_for ki (gok_all tt) kb⟩
def whL (t : Env → M Bool) (F : SM) : Nat → SM
  | 0, _, _ => none
  | n + 1, env, S => lift env (t env) (fun c S1 => if c then match F env S1 with
      | some (.nx env2, S2) => whL t F n env2 S2
      | some (.ct env2, S2) => whL t F n env2 S2
      | some (.bk env2, S2) => some (.nx env2, S2)
      | some (.rt sv, S2) => some (.rt sv, S2)
      | some (.er c fs l env2, S2) => some (.er c fs l env2, S2)
      | none => none else some (.nx env, S1)) S
theorem ds_while {body : List Stmt} (n : Nat) (hp : PassesOwn (model X.prog X.w) X.A X.env X.xe) (hc : DT X W e t) (hb : DSs X W body F) : DS X W (.While e body [] pos) (whL t F n) := by
  obtain ⟨tc, pc, kc⟩ := hc
  obtain ⟨tb, pb, kb⟩ := hb
  refine ⟨_, ps_while hp pc pb, ?_⟩
  intro σ H A S env o S' hS hE he Dn hp
  refine ⟨fun m σ2 H2 => ∃ A2 S2 env2, Ext A H A2 H2 ∧ Sta X.K (gm X W) A2 H2 S2 ∧ EnvR X.K (gm X W) A2 H2 σ2 env2 ∧ whL t F m env2 S2 = some (o, S'), ⟨n, A, S, env, Ext.refl A H, hS, hE, he⟩, ?_⟩
  rintro m σ2 H2 ⟨A2, S2, env2, e2, s2, E2, q2⟩
  cases m with
  | zero => cases q2
  | succ m =>
    unfold whL at q2
    rcases lift_some q2 with ⟨c, S3, ef, q⟩ | ⟨c, fs, l, ef, rfl⟩
    · refine kc σ2 H2 A2 S2 env2 _ S3 s2 E2 ef _ fun b A3 H3 e3 s3 hb => ?_
      cases (show c = b from hb)
      have e23 := e2.trans e3
      cases c with
      | false =>
        cases q
        exact hp σ2 A3 H3 e23 s3 (E2.mono e3)
      | true =>
        rw [if_pos rfl] at q ⊢
        rcases eF : F env2 S3 with _ | ⟨o3, S4⟩
        · rw [eF] at q; cases q
        · rw [eF] at q
          refine ⟨fun σ4 H4 => ∃ A4 S4 env4, Ext A H A4 H4 ∧ Sta X.K (gm X W) A4 H4 S4 ∧ EnvR X.K (gm X W) A4 H4 σ4 env4 ∧ whL t F m env4 S4 = some (o, S'), fun σ4 H4 h4 => ⟨m, Nat.lt_succ_self m, h4⟩, ?_⟩
          refine kb σ2 H3 A3 S3 env2 o3 S4 s3 (E2.mono e3) eF _ ?_
          cases o3 with
          | nx env4 => exact fun σ4 A4 H4 e4 s4 E4 => ⟨A4, S4, env4, e23.trans e4, s4, E4, q⟩
          | ct env4 => exact fun σ4 A4 H4 e4 s4 E4 => ⟨A4, S4, env4, e23.trans e4, s4, E4, q⟩
          | bk env4 => cases q; exact fun σ4 A4 H4 e4 s4 E4 => hp σ4 A4 H4 (e23.trans e4) s4 E4
          | rt sv => cases q; exact fun v A4 H4 e4 s4 r4 => hp v A4 H4 (e23.trans e4) s4 r4
          | er c fs l env4 => cases q; exact fun C dd σ4 A4 H4 hc e4 s4 E4 r4 => hp C dd σ4 A4 H4 hc (e23.trans e4) s4 E4 r4
    · exact kc σ2 H2 A2 S2 env2 _ _ s2 E2 ef _ fun C dd A' H' hc e s r => hp C dd σ2 A' H' hc (e2.trans e) s (E2.mono e) r
/-- a, b = x, y -/
def sPar (i j : Nat) (fa : Env → M (List SV)) : SM := fun env => lift env (fa env) fun xs S => match xs with
  | [x, y] => some (.nx ((env.set i (some x)).set j (some y)), S)
  | _ => none
theorem ds_par (i j : Nat) {x y : Str} {px py pt : Pos} {kt k2 pt2} (ps : ∀ {tr : TA}, PA X [a, b] tr → PS X (.Assign [.Tuple [.Name x px, .Name y py] kt pt] (.Tuple [a, b] k2 pt2) pos) (tPar i j tr)) (h : DA X W [a, b] fa) :
    DS X W (.Assign [.Tuple [.Name x px, .Name y py] kt pt] (.Tuple [a, b] k2 pt2) pos) (sPar i j fa) := by
  obtain ⟨tr, p, k⟩ := h
  refine ⟨_, ps p, slift (rel := relA X.K (gm X W)) (tk := fun vs Dn σ H => ∃ v w, vs = [v, w] ∧ Dn.nx ((σ.set i (some v)).set j (some w)) H) (k := fun env xs S => match xs with
    | [x, y] => some (.nx ((env.set i (some x)).set j (some y)), S)
    | _ => none) k fun as vs σ H A S env o S' hS hE hx he Dn hp => ?_⟩
  split at he
  · rename_i x y
    cases he
    obtain ⟨v, w, rfl, h1, h2⟩ := reps2 hx
    exact ⟨v, w, rfl, hp _ A H (Ext.refl A H) hS ((hE.set h1).set h2)⟩
  · cases he
end
end DL
namespace DL
open PySem L2
def wipeE (env : Env) : List Nat → Env
  | [] => env
  | v :: vs => (wipeE env vs).set v none
theorem envr_wipe {K : PySem.W.Frag} {mg : Gm} {A : List Addr} {H : Hp} {σ : St} {env : Env} (h : EnvR K mg A H σ env) : ∀ vs : List Nat, EnvR K mg A H (wipe σ vs) (wipeE env vs)
  | [] => h
  | v :: vs => (envr_wipe h vs).unset none
theorem wipe_get (σ : St) : ∀ (vs : List Nat) (j : Nat), (wipe σ vs)[j]? = if j ∈ vs ∧ j < σ.length then some none else σ[j]?
  | [], j => by simp [wipe]
  | v :: vs, j => by
    unfold wipe
    by_cases hj : j = v
    · subst hj
      by_cases hl : j < σ.length
      · rw [List.getElem?_set_self (by rw [wipe_length]; exact hl), if_pos ⟨by simp, hl⟩]
      · rw [if_neg (fun z => hl z.2), List.getElem?_eq_none_iff.mpr (by rw [List.length_set, wipe_length]; omega), List.getElem?_eq_none_iff.mpr (by omega)]
    · rw [List.getElem?_set_ne (fun e => hj e.symm), wipe_get σ vs j]
      by_cases hm : j ∈ vs
      · by_cases hl : j < σ.length
        · rw [if_pos ⟨hm, hl⟩, if_pos ⟨List.mem_cons_of_mem _ hm, hl⟩]
        · rw [if_neg (fun z => hl z.2), if_neg (fun z => hl z.2)]
      · rw [if_neg (fun z => hm z.1), if_neg (fun z => by
          rcases List.mem_cons.mp z.1 with e | e
          · exact hj e
          · exact hm e)]
theorem setManyV_length : ∀ (is : List Nat) (vs : List V) (σ : St), (setManyV σ is vs).length = σ.length
  | [], vs, σ => by cases vs <;> rfl
  | _ :: _, [], σ => rfl
  | i :: is, v :: vs, σ => by
    show (setManyV (σ.set i (some v)) is vs).length = _
    rw [setManyV_length is vs, List.length_set]
theorem setManyV_get : ∀ (is : List Nat) (vs : List V) (σ : St) (j : Nat), j ∉ is → (setManyV σ is vs)[j]? = σ[j]?
  | [], vs, σ, j, _ => by cases vs <;> rfl
  | _ :: _, [], σ, j, _ => rfl
  | i :: is, v :: vs, σ, j, h => by
    show (setManyV (σ.set i (some v)) is vs)[j]? = _
    rw [setManyV_get is vs _ j (fun z => h (List.mem_cons_of_mem _ z)), List.getElem?_set_ne (fun e => h (by rw [e]; exact List.mem_cons_self))]
theorem wipe_setMany (σ : St) (ws is : List Nat) (vs : List V) (hs : ∀ i, i ∈ is → i ∈ ws) : wipe (setManyV (wipe σ ws) is vs) ws = wipe σ ws := by
  apply List.ext_getElem?
  intro j
  rw [wipe_get, wipe_get, setManyV_length, wipe_length]
  by_cases c : j ∈ ws ∧ j < σ.length
  · rw [if_pos c, if_pos c]
  · rw [if_neg c, if_neg c]
    by_cases hj : j ∈ is
    · have hl : ¬ j < σ.length := fun z => c ⟨hs j hj, z⟩
      rw [List.getElem?_eq_none_iff.mpr (by rw [setManyV_length, wipe_length]; omega), List.getElem?_eq_none_iff.mpr (by omega)]
    · rw [setManyV_get is vs _ j hj, wipe_get, if_neg c]
def lcNext (kk : KK) (all : List D) (k : Nat) (x : D) (S : Store) : Option Store := match S[k]? with
  | some acc => if acc.length < lim then some (S.set k (acc ++ [x])) else none
  | none => none
open Classical in
noncomputable def lcL (t : Tg) (kk : KK) (all : List D) (cond : Env → M Bool) (fe : Env → M SV) (k : Nat) (env : Env) : List D → Store → Option Store
  | [], S => some S
  | d :: ds, S => match setT t d env with
    | none => none
    | some env1 => match cond env1 S with
      | some (.ok true, S1) => match fe env1 S1 with
        | some (.ok (.d x), S2) => match lcNext kk all k x S2 with
          | some S3 => if keepOk kk all S3 then lcL t kk all cond fe k env ds S3 else none
          | none => none
        | some (.ok (.ptr j), S2) => match lcNext kk all k (.own j) S2 with
          | some S3 => if keepOk kk all S3 then lcL t kk all cond fe k env ds S3 else none
          | none => none
        | _ => none
      | some (.ok false, S1) => if keepOk kk all S1 then lcL t kk all cond fe k env ds S1 else none
      | _ => none
open Classical in
noncomputable def eLc (ws : List Nat) (t : Tg) (f : Env → M (List D × KK)) (cond : Env → M Bool) (fe : Env → M SV) : Env → M SV := fun env => bnd (f env) fun q S => match lcL t q.2 q.1 cond fe S.length (wipeE env ws) q.1 (S ++ [[]]) with
  | some S' => match S'[S.length]? with
    | some acc => if Cal S S' ∧ clsd acc = true then some (.ok (.d (.lst acc)), S'.take S.length) else none
    | none => none
  | none => none
open Classical in
noncomputable def eLcOwn (ws : List Nat) (t : Tg) (f : Env → M (List D × KK)) (cond : Env → M Bool) (fe : Env → M SV) : Env → M SV := fun env => bnd (f env) fun q S => match lcL t q.2 q.1 cond fe S.length (wipeE env ws) q.1 (S ++ [[]]) with
  | some S' => match S'[S.length]? with
    | some acc => if Cal S S' ∧ clsd acc = true then some (.ok (.ptr S.length), S'.take S.length ++ [acc]) else none
    | none => none
  | none => none
def tYesD : Env → M Bool := fun _ => ret true
def WF : WX := fun _ _ _ _ => False
section
variable {X : Cx} {W : WG}
/-- a wish within a block: nothing may be raised -/
def WG.blk (W : WG) : WG := ⟨WF, W.G, W.mono, W.sub, W.xa⟩
theorem tok_yes {K : PySem.W.Frag} {g : Gm} {W : WG} : TOk K g relB W tYes tYesD := fun σ H A S env r S' hS hE he Q hp => by
  cases he
  exact hp.val hS rfl
theorem lc_main {wi : TI} {g : TG} {tt : TT} {te : TE} {t : Tg} {f : Env → M (List D × KK)} {cond : Env → M Bool} {fe : Env → M SV} {ws : List Nat} (ki : IOk X W wi f) (kg : GOk X W t g) (kt : TOk X.K (gm X W) relB W.blk tt cond) (ke : TOk X.K (gm X W) (relS X.K (gm X W)) W.blk te fe) (hsub : ∀ i, i ∈ t.slots → i ∈ ws)
    {σ : St} {H : Hp} {A : List Addr} {S S1 : Store} {env : Env} {Q : VK} {ds : List D} {kk : KK} {S' : Store} (hS : Sta X.K (gm X W) A H S) (hE : EnvR X.K (gm X W) A H σ env) (ef : f env S = some (.ok (ds, kk), S1))
    (q : lcL t kk ds cond fe S1.length (wipeE env ws) ds (S1 ++ [[]]) = some S')
    (hq : ∀ p H' A1 H1 l, Sta X.K (gm X W) A1 H1 S1 → Ext A H A1 H1 → Ext A1 H1 (A1 ++ p :: l) H' → Sta X.K (gm X W) (A1 ++ p :: l) H' S' → A1.length = S1.length → (∃ vs, H' p = some (.lst vs)) → Q (.ref p) H') : tLc wi g tt te ws σ H Q := by
  refine ki σ H A S env _ S1 hS hE ef _ ?_
  intro J inv A1 H1 e1 s1 jok hinv hkp Dd hD
  have s2 : Sta X.K (gm X W) (A1 ++ [Dd]) (upd H1 Dd (.lst [])) (S1 ++ [[]]) := s1.own hD (by simp only [Reps])
  have e2 : Ext A1 H1 (A1 ++ [Dd]) (upd H1 Dd (.lst [])) := Ext.own hD
  have hk1 : keepOk kk ds (S1 ++ [[]]) := keepOk_app hkp
  have i2 := jok.keep A1 H1 S1 _ _ _ s1 hinv e2 s2 hk1
  have E1 := (hE.mono e1).mono e2
  refine ⟨fun i m H2 => m = ds.length - i ∧ i ≤ ds.length ∧ ∃ l S2, Ext A1 H1 (A1 ++ Dd :: l) H2 ∧ Ext (A1 ++ [Dd]) (upd H1 Dd (.lst [])) (A1 ++ Dd :: l) H2 ∧ Sta X.K (gm X W) (A1 ++ Dd :: l) H2 S2 ∧ inv (A1 ++ Dd :: l) H2 S2 ∧ lcL t kk ds cond fe S1.length (wipeE env ws) (ds.drop i) S2 = some S',
    ⟨ds.length, by simp, Nat.zero_le _, [], _, e2, Ext.refl _ _, s2, i2, by simpa using q⟩, ?_⟩
  rintro i m H2 ⟨rfl, hi, l, S2, x1, x2, y2, j2, q2⟩
  have hlen1 : S1.length = A1.length := s1.len
  by_cases hlt : i < ds.length
  · refine .inr ⟨jok.go i _ H2 S2 j2 hlt, ?_⟩
    have hd : ds[i]? = some ds[i] := List.getElem?_eq_getElem hlt
    have hdrop : ds.drop i = ds[i] :: ds.drop (i + 1) := List.drop_eq_getElem_cons hlt
    rw [hdrop] at q2
    unfold lcL at q2
    rcases eT : setT t ds[i] (wipeE env ws) with _ | env3
    · rw [eT] at q2; cases q2
    · rw [eT] at q2
      dsimp only at q2
      refine ⟨fun H4 => ∃ l S4, Ext A1 H1 (A1 ++ Dd :: l) H4 ∧ Ext (A1 ++ [Dd]) (upd H1 Dd (.lst [])) (A1 ++ Dd :: l) H4 ∧ Sta X.K (gm X W) (A1 ++ Dd :: l) H4 S4 ∧ inv (A1 ++ Dd :: l) H4 S4 ∧ lcL t kk ds cond fe S1.length (wipeE env ws) (ds.drop (i + 1)) S4 = some S', fun H4 h4 => ⟨ds.length - (i + 1), by omega, rfl, hlt, h4⟩, ?_⟩
      intro x H3 hy
      obtain ⟨e3, s3, i3, r3⟩ := jok.yld i _ H2 S2 x H3 ds[i] y2 j2 hd hy
      have E3 : EnvR X.K (gm X W) (A1 ++ Dd :: l) H3 (wipe σ ws) (wipeE env ws) := envr_wipe ((E1.mono x2).mono e3) ws
      obtain ⟨vs, kg'⟩ := kg _ H3 (wipe σ ws) (wipeE env ws) env3 _ x r3 E3 eT
      refine kg' _ fun E4 => ⟨wipe_setMany σ ws _ vs hsub, ?_⟩
      rcases eC : cond env3 S2 with _ | ⟨c3 | ⟨_, _, _⟩, S3⟩
      · rw [eC] at q2; cases q2
      · rw [eC] at q2
        refine kt _ H3 _ S2 env3 _ S3 s3 E4 eC _ fun b A5 H5 e5 s5 hb => ?_
        cases (show c3 = b from hb)
        cases c3 with
        | false =>
          dsimp only at q2
          rw [if_neg Bool.false_ne_true]
          by_cases hk : keepOk kk ds S3
          · rw [if_pos hk] at q2
            obtain ⟨l5, rfl, hl5⟩ := e5.app
            have a5 : A1 ++ Dd :: l ++ l5 = A1 ++ Dd :: (l ++ l5) := by simp
            rw [a5] at e5 s5
            refine ⟨l ++ l5, S3, (x1.trans e3).trans e5, (x2.trans e3).trans e5, s5, ?_, q2⟩
            exact jok.keep _ H3 S2 _ H5 S3 s3 i3 e5 s5 hk
          · rw [if_neg hk] at q2; cases q2
        | true =>
          dsimp only at q2
          rw [if_pos rfl]
          rcases eF : fe env3 S3 with _ | ⟨⟨xd | k0 | _ | _ | _ | _⟩ | ⟨_, _, _⟩, S6⟩
          · rw [eF] at q2; cases q2
          · rw [eF] at q2
            dsimp only at q2
            refine ke _ H5 _ S3 env3 _ S6 s5 (E4.mono e5) eF _ fun y A6 H6 e6 s6 r6 => ?_
            obtain ⟨l5, rfl, hl5⟩ := e5.app
            have a5 : A1 ++ Dd :: l ++ l5 = A1 ++ Dd :: (l ++ l5) := by simp
            rw [a5] at e5 s5 e6
            obtain ⟨l6, rfl, hl6⟩ := e6.app
            have a6 : A1 ++ Dd :: (l ++ l5) ++ l6 = A1 ++ Dd :: (l ++ l5 ++ l6) := by simp
            rw [a6] at e6 s6 r6
            have hat : (A1 ++ Dd :: (l ++ l5 ++ l6))[S1.length]? = some Dd := by
              rw [hlen1, List.getElem?_append_right (Nat.le_refl _)]
              simp
            unfold lcNext at q2
            rcases eA : S6[S1.length]? with _ | acc
            · rw [eA] at q2; cases q2
            · rw [eA] at q2
              dsimp only at q2
              by_cases hz : acc.length < lim
              · rw [if_pos hz] at q2
                dsimp only at q2
                have hkd := (x2.trans ((e3.trans e5).trans e6)).kl Dd [] upd_same
                obtain ⟨us, h7, h8⟩ := s6.lst hat hkd eA
                have rx : Rep X.K X.mg (A1 ++ Dd :: (l ++ l5 ++ l6)) H6 xd y := r6
                have rr : RepFs X.K X.mg (A1 ++ Dd :: (l ++ l5 ++ l6)) H6 (acc ++ [xd]) (us ++ [y]) := h8.append ⟨y, [], rfl, .of rx, rfl⟩
                obtain ⟨s7, e7⟩ := s6.setF hat hkd rr
                refine ⟨us, h7, by rw [← h8.length, sizeLine_eq]; exact hz, ?_⟩
                by_cases hk : keepOk kk ds (S6.set S1.length (acc ++ [xd]))
                · rw [if_pos hk] at q2
                  have e37 := ((e3.trans e5).trans e6).trans e7
                  refine ⟨l ++ l5 ++ l6, _, x1.trans e37, x2.trans e37, s7, ?_, q2⟩
                  exact jok.keep _ H3 S2 _ _ _ s3 i3 ((e5.trans e6).trans e7) s7 hk
                · rw [if_neg hk] at q2; cases q2
              · rw [if_neg hz] at q2; cases q2
          · rw [eF] at q2
            dsimp only at q2
            refine ke _ H5 _ S3 env3 _ S6 s5 (E4.mono e5) eF _ fun y A6 H6 e6 s6 r6 => ?_
            obtain ⟨l5, rfl, hl5⟩ := e5.app
            have a5 : A1 ++ Dd :: l ++ l5 = A1 ++ Dd :: (l ++ l5) := by simp
            rw [a5] at e5 s5 e6
            obtain ⟨l6, rfl, hl6⟩ := e6.app
            have a6 : A1 ++ Dd :: (l ++ l5) ++ l6 = A1 ++ Dd :: (l ++ l5 ++ l6) := by simp
            rw [a6] at e6 s6 r6
            have hat : (A1 ++ Dd :: (l ++ l5 ++ l6))[S1.length]? = some Dd := by
              rw [hlen1, List.getElem?_append_right (Nat.le_refl _)]
              simp
            unfold lcNext at q2
            rcases eA : S6[S1.length]? with _ | acc
            · rw [eA] at q2; cases q2
            · rw [eA] at q2
              dsimp only at q2
              by_cases hz : acc.length < lim
              · rw [if_pos hz] at q2
                dsimp only at q2
                have hkd := (x2.trans ((e3.trans e5).trans e6)).kl Dd [] upd_same
                obtain ⟨us, h7, h8⟩ := s6.lst hat hkd eA
                have rx : RepF X.K X.mg (A1 ++ Dd :: (l ++ l5 ++ l6)) H6 (.own k0) y := r6
                have rr : RepFs X.K X.mg (A1 ++ Dd :: (l ++ l5 ++ l6)) H6 (acc ++ [.own k0]) (us ++ [y]) := h8.append ⟨y, [], rfl, rx, rfl⟩
                obtain ⟨s7, e7⟩ := s6.setF hat hkd rr
                refine ⟨us, h7, by rw [← h8.length, sizeLine_eq]; exact hz, ?_⟩
                by_cases hk : keepOk kk ds (S6.set S1.length (acc ++ [.own k0]))
                · rw [if_pos hk] at q2
                  have e37 := ((e3.trans e5).trans e6).trans e7
                  refine ⟨l ++ l5 ++ l6, _, x1.trans e37, x2.trans e37, s7, ?_, q2⟩
                  exact jok.keep _ H3 S2 _ _ _ s3 i3 ((e5.trans e6).trans e7) s7 hk
                · rw [if_neg hk] at q2; cases q2
              · rw [if_neg hz] at q2; cases q2
          · rw [eF] at q2; cases q2
          · rw [eF] at q2; cases q2
          · rw [eF] at q2; cases q2
          · rw [eF] at q2; cases q2
          · rw [eF] at q2; cases q2
      · rw [eC] at q2; cases q2
  · have hi' : i = ds.length := by omega
    subst hi'
    refine .inl ⟨jok.stop _ H2 S2 j2, ?_⟩
    rw [List.drop_length] at q2
    unfold lcL at q2
    cases q2
    exact hq Dd H2 A1 H1 l s1 e1 x1 y2 hlen1.symm (x2.kl Dd [] upd_same)
theorem tok_lc {wi : TI} {g : TG} {tt : TT} {te : TE} {t : Tg} {f : Env → M (List D × KK)} {cond : Env → M Bool} {fe : Env → M SV} {ws : List Nat} (ki : IOk X W wi f) (kg : GOk X W t g) (kt : TOk X.K (gm X W) relB W.blk tt cond) (ke : TOk X.K (gm X W) (relS X.K (gm X W)) W.blk te fe) (hsub : ∀ i, i ∈ t.slots → i ∈ ws) :
    TOk X.K (gm X W) (relS X.K (gm X W)) W (tLc wi g tt te ws) (eLc ws t f cond fe) := by
  intro σ H A S env r S' hS hE he Q hp
  rcases bnd_some he with ⟨⟨ds, kk⟩, S1, ef, q⟩ | ⟨c, fs, l, ef, rfl⟩
  · dsimp only at q
    rcases eL : lcL t kk ds cond fe S1.length (wipeE env ws) ds (S1 ++ [[]]) with _ | S2
    · rw [eL] at q; cases q
    · rw [eL] at q
      dsimp only at q
      rcases eA : S2[S1.length]? with _ | acc
      · rw [eA] at q; cases q
      · rw [eA] at q
        dsimp only at q
        by_cases cc : Cal S1 S2 ∧ clsd acc = true
        rotate_left
        · rw [if_neg cc] at q; cases q
        rw [if_pos cc] at q
        cases q
        refine lc_main ki kg kt ke hsub hS hE ef eL fun p H' A1 H1 l s1 e x1 s hl hkd => ?_
        have hp' : (A1 ++ p :: l)[A1.length]? = some p := by rw [List.getElem?_append_right (Nat.le_refl _)]; simp
        rw [← hl] at eA
        obtain ⟨s3, hpl⟩ := s1.pick s cc.1 (Nat.le_refl _) hp' eA hkd (frzL_of cc.2)
        have nd := List.nodup_append.mp s.nd
        have hpn : p ∉ A1 := fun z => nd.2.2 p z p hpl rfl
        have s4 := s1.drop s cc.1
        rw [← hl] at hp
        obtain ⟨vs, h1, h2⟩ := s.lstC hp' hkd eA cc.2
        refine hp _ A1 H' (e.trans x1.drop) s4 ?_
        show Rep X.K X.mg A1 H' (.lst acc) (.ref p)
        simp only [Rep]
        exact ⟨p, vs, rfl, hpn, h1, Reps.anti _ _ h2⟩
  · exact ki σ H A S env _ _ hS hE ef _ hp
theorem tok_lcOwn {wi : TI} {g : TG} {tt : TT} {te : TE} {t : Tg} {f : Env → M (List D × KK)} {cond : Env → M Bool} {fe : Env → M SV} {ws : List Nat} (ki : IOk X W wi f) (kg : GOk X W t g) (kt : TOk X.K (gm X W) relB W.blk tt cond) (ke : TOk X.K (gm X W) (relS X.K (gm X W)) W.blk te fe) (hsub : ∀ i, i ∈ t.slots → i ∈ ws) :
    TOk X.K (gm X W) (relS X.K (gm X W)) W (tLc wi g tt te ws) (eLcOwn ws t f cond fe) := by
  intro σ H A S env r S' hS hE he Q hp
  rcases bnd_some he with ⟨⟨ds, kk⟩, S1, ef, q⟩ | ⟨c, fs, l, ef, rfl⟩
  · dsimp only at q
    rcases eL : lcL t kk ds cond fe S1.length (wipeE env ws) ds (S1 ++ [[]]) with _ | S2
    · rw [eL] at q; cases q
    · rw [eL] at q
      dsimp only at q
      rcases eA : S2[S1.length]? with _ | acc
      · rw [eA] at q; cases q
      · rw [eA] at q
        dsimp only at q
        by_cases cc : Cal S1 S2 ∧ clsd acc = true
        rotate_left
        · rw [if_neg cc] at q; cases q
        rw [if_pos cc] at q
        cases q
        refine lc_main ki kg kt ke hsub hS hE ef eL fun p H' A1 H1 l s1 e x1 s hl hkd => ?_
        have hp' : (A1 ++ p :: l)[A1.length]? = some p := by rw [List.getElem?_append_right (Nat.le_refl _)]; simp
        rw [← hl] at eA hp
        obtain ⟨s3, hpl⟩ := s1.pick s cc.1 (Nat.le_refl _) hp' eA hkd (frzL_of cc.2)
        have x2 : Ext A1 H1 (A1 ++ [p]) H' := ⟨⟨[p], rfl, fun a ha => by
          obtain ⟨m, e', hm⟩ := x1.app
          rw [List.mem_singleton.mp ha]
          have : m = p :: l := by
            have := List.append_cancel_left e'
            exact this.symm
          subst this
          exact hm p List.mem_cons_self⟩, x1.keep, x1.dom, x1.kl, x1.ki, x1.kt, x1.kk⟩
        exact hp _ _ H' (e.trans x2) s3 ⟨p, by simp, rfl, hkd⟩
  · exact ki σ H A S env _ _ hS hE ef _ hp
variable {e a b tg iter elt : Expr} {es ifs : List Expr} {f g : Env → M SV} {fa : Env → M (List SV)} {fi : Env → M (List D × KK)} {t : Tg} {cond : Env → M Bool} {st : Stmt} {pos p : Pos} {scope : Scope} {own : List (Str × Nat)}
def tOf {α β : Type} (K : PySem.W.Frag) (g : Gm) (rel : RelT α β) (W : WG) (f : Env → M α) : St → Hp → (β → Hp → Prop) → Prop := fun σ H Q =>
  ∃ A S env r S', Sta K g A H S ∧ EnvR K g A H σ env ∧ f env S = some (r, S') ∧ Po K g rel W Q σ A H r S'
theorem tok_of {α β : Type} {K : PySem.W.Frag} {g : Gm} {rel : RelT α β} {W : WG} {f : Env → M α} : TOk K g rel W (tOf K g rel W f) f := fun σ H A S env r S' hS hE he Q hp => ⟨A, S, env, r, S', hS, hE, he, hp⟩
theorem DE.one (h : DE X W e f) : PE X e (tOf X.K (gm X W) (relS X.K (gm X W)) W f) := by
  obtain ⟨t, p, k⟩ := h
  exact ⟨fun pins s σ H Q I ⟨A, S, env, r, S', hS, hE, he, hp⟩ => p.run pins s σ H Q I (k σ H A S env r S' hS hE he Q hp)⟩
def DTs (X : Cx) (W : WG) (ifs : List Expr) (c : Env → M Bool) : Prop := ∃ tt : TT, PTs X ifs tt ∧ TOk X.K (gm X W) relB W tt c
theorem dts_nil : DTs X W [] tYesD := ⟨_, pts_nil, tok_yes⟩
theorem dts_one {c : Expr} (h : DT X W c cond) : DTs X W [c] cond := let ⟨t, p, k⟩ := h; ⟨_, pts_one p, k⟩
theorem DTs.one (h : DTs X W ifs cond) : PTs X ifs (tOf X.K (gm X W) relB W cond) := by
  obtain ⟨t, p, k⟩ := h
  exact ⟨fun pins s σ H Q I ⟨A, S, env, r, S', hS, hE, he, hp⟩ => p.run pins s σ H Q I (k σ H A S env r S' hS hE he Q hp)⟩
def tsOf (K : PySem.W.Frag) (g : Gm) (W : WG) (F : SM) : TS := fun Dn σ H =>
  ∃ A S env o S', Sta K g A H S ∧ EnvR K g A H σ env ∧ F env S = some (o, S') ∧ PoS K g Dn W A H o S'
theorem DSs.one {F : SM} {sts : List Stmt} (h : DSs X W sts F) : PSs X sts (tsOf X.K (gm X W) W F) := by
  obtain ⟨t, p, k⟩ := h
  exact ⟨fun pins s σ H D I ⟨A, S, env, o, S', hS, hE, he, hp⟩ => p.run pins s σ H D I (k σ H A S env o S' hS hE he D hp)⟩
/-- [e for t in xs if c] -/
theorem de_lc (t : Tg) (own : List (Str × Nat)) (hc : X.calm = true) (hN : X.N.Nodup) (hi : DI X W tg iter fi) (ok : BlkOk X.N X.env.scope scope own)
    (hg : ∀ (s : Shared) (H : Hp) (C : Addr) (cl : List (Str × Addr)) (fp : List Addr), DG (X.blk s H scope (compEnvC scope cl C X.env) fp) tg t)
    (ht : ∀ (s : Shared) (H : Hp) (C : Addr) (cl : List (Str × Addr)) (fp : List Addr), DTs (X.blk s H scope (compEnvC scope cl C X.env) fp) W.blk ifs cond)
    (he : ∀ (s : Shared) (H : Hp) (C : Addr) (cl : List (Str × Addr)) (fp : List Addr), DE (X.blk s H scope (compEnvC scope cl C X.env) fp) W.blk elt f)
    (hsub : ∀ i, i ∈ t.slots → i ∈ own.map (·.2)) (hs : ∀ x, foldedSetIterable iter X.env x = pure x := by intro _; rfl) :
    DE X W (.ListComp elt [⟨tg, iter, ifs, 0⟩] scope pos) (eLc (own.map (·.2)) t fi cond f) := by
  obtain ⟨wi, pi, ki⟩ := hi
  exact ⟨_, pe_lc (g := gT X.K t) hc hN pi ok hg (fun s H C cl fp => (ht s H C cl fp).one) (fun s H C cl fp => (he s H C cl fp).one) hs, tok_lc ki (gok_all t) tok_of tok_of hsub⟩
theorem de_lcOwn (t : Tg) (own : List (Str × Nat)) (hc : X.calm = true) (hN : X.N.Nodup) (hi : DI X W tg iter fi) (ok : BlkOk X.N X.env.scope scope own)
    (hg : ∀ (s : Shared) (H : Hp) (C : Addr) (cl : List (Str × Addr)) (fp : List Addr), DG (X.blk s H scope (compEnvC scope cl C X.env) fp) tg t)
    (ht : ∀ (s : Shared) (H : Hp) (C : Addr) (cl : List (Str × Addr)) (fp : List Addr), DTs (X.blk s H scope (compEnvC scope cl C X.env) fp) W.blk ifs cond)
    (he : ∀ (s : Shared) (H : Hp) (C : Addr) (cl : List (Str × Addr)) (fp : List Addr), DE (X.blk s H scope (compEnvC scope cl C X.env) fp) W.blk elt f)
    (hsub : ∀ i, i ∈ t.slots → i ∈ own.map (·.2)) (hs : ∀ x, foldedSetIterable iter X.env x = pure x := by intro _; rfl) :
    DE X W (.ListComp elt [⟨tg, iter, ifs, 0⟩] scope pos) (eLcOwn (own.map (·.2)) t fi cond f) := by
  obtain ⟨wi, pi, ki⟩ := hi
  exact ⟨_, pe_lc (g := gT X.K t) hc hN pi ok hg (fun s H C cl fp => (ht s H C cl fp).one) (fun s H C cl fp => (he s H C cl fp).one) hs, tok_lcOwn ki (gok_all t) tok_of tok_of hsub⟩
/-- y = [e for t in xs if c] -/
theorem ds_setLc (t : Tg) (own : List (Str × Nat)) (i : Nat) {y : Str} {py spos : Pos} (hc : X.calm = true) (hN : X.N.Nodup) (hyl : X.env.scope.names.lookup y = some .local) (hi : DI X W tg iter fi) (ok : BlkOk X.N X.env.scope scope own)
    (hg : ∀ (s : Shared) (H : Hp) (C : Addr) (cl : List (Str × Addr)) (fp : List Addr), DG (X.blk s H scope (compEnvC scope cl C X.env) fp) tg t)
    (ht : ∀ (s : Shared) (H : Hp) (C : Addr) (cl : List (Str × Addr)) (fp : List Addr), DTs (X.blk s H scope (compEnvC scope cl C X.env) fp) W.blk ifs cond)
    (he : ∀ (s : Shared) (H : Hp) (C : Addr) (cl : List (Str × Addr)) (fp : List Addr), DE (X.blk s H scope (compEnvC scope cl C X.env) fp) W.blk elt f)
    (hsub : ∀ i, i ∈ t.slots → i ∈ own.map (·.2)) (hsw : swapsWith (.ListComp elt [⟨tg, iter, ifs, 0⟩] scope pos) (some (.Name y py)) spos.line X.env = pure true) (hy : X.N[i]? = some y := by rfl) (hs : ∀ x, foldedSetIterable iter X.env x = pure x := by intro _; rfl) :
    DS X W (.Assign [.Name y py] (.ListComp elt [⟨tg, iter, ifs, 0⟩] scope pos) spos) (sSet i (eLc (own.map (·.2)) t fi cond f)) := by
  obtain ⟨wi, pi, ki⟩ := hi
  exact ⟨_, ps_setLc (g := gT X.K t) hc hN hy hyl hsw pi ok hg (fun s H C cl fp => (ht s H C cl fp).one) (fun s H C cl fp => (he s H C cl fp).one) hs, sok_set (tok_lc ki (gok_all t) tok_of tok_of hsub)⟩
end
inductive RR where
  | d (x : D)
  | fresh (l : List D)
  | old (k : Nat)
  /-- what came to the store stays -/
  | grow (x : SV)
abbrev Fn := List SV → M RR
section
variable (K : PySem.W.Frag) (g : Gm)
def PoF (Q : VK) (E : XK) (A : List Addr) (H : Hp) : R RR → Store → Prop
  | .ok (.d x), S' => ∀ v H', Ext A H A H' → Sta K g A H' S' → Rep K g.m A H' x v → Q v H'
  | .ok (.fresh l), S' => ∀ p H', Ext A H (A ++ [p]) H' → Sta K g (A ++ [p]) H' (S' ++ [l]) → Sta K g A H' S' → (∃ vs, H' p = some (.lst vs)) → Q (.ref p) H'
  | .ok (.old k), S' => ∀ a H', A[k]? = some a → Ext A H A H' → Sta K g A H' S' → (∃ vs, H' a = some (.lst vs)) → Q (.ref a) H'
  | .ok (.grow x), S' => ∀ v A' H', Ext A H A' H' → Sta K g A' H' S' → RepS K g A' H' x v → Q v H'
  | .err c fs l, S' => ∀ C dd H', g.m c = some (.ref C) → Ext A H A H' → Sta K g A H' S' → ErrR K g.m A H' dd fs l → E (.ref C) dd H'
end
def gm0 (mg : Str → Option Value) : Gm := ⟨mg, fun _ _ => True, fun _ _ => trivial, fun _ _ => trivial, none⟩
def noExc : List SV → Bool
  | [] => true
  | .exc :: _ => false
  | _ :: r => noExc r
theorem repSs_0 {K : PySem.W.Frag} {g g' : Gm} {A : List Addr} {H : Hp} (hm : g.m = g'.m) : ∀ {xs : List SV} {vs : List V}, noExc xs = true → RepSs K g A H xs vs → RepSs K g' A H xs vs
  | [], vs, _, h => h
  | .d x :: xs, vs, hn, ⟨v, r, e, h1, h2⟩ => ⟨v, r, e, (show Rep K g'.m A H x v by rw [← hm]; exact h1), repSs_0 hm hn h2⟩
  | .ptr k :: xs, vs, hn, ⟨v, r, e, h1, h2⟩ => ⟨v, r, e, h1, repSs_0 hm hn h2⟩
  | .obj k :: xs, vs, hn, ⟨v, r, e, h1, h2⟩ => ⟨v, r, e, h1, repSs_0 hm hn h2⟩
  | .dic k :: xs, vs, hn, ⟨v, r, e, h1, h2⟩ => ⟨v, r, e, h1, repSs_0 hm hn h2⟩
  | .sq b l :: xs, vs, hn, ⟨v, r, e, ⟨a, ws, h3, h4, h5, h6⟩, h2⟩ => ⟨v, r, e, ⟨a, ws, h3, h4, h5, by rw [← hm]; exact h6⟩, repSs_0 hm hn h2⟩
theorem Sta.conv {K : PySem.W.Frag} {g g' : Gm} {A : List Addr} {H : Hp} {S : Store} (s : Sta K g A H S) (hm : g.m = g'.m) (h : g'.G A H) : Sta K g' A H S := ⟨s.nd, s.len, fun k a ds h1 h2 => by rw [← hm]; exact s.at' k a ds h1 h2, h⟩
def spD (K : PySem.W.Frag) (mg : Str → Option Value) (m : Fn) : Sp := fun vs H Q E => ∃ A S as r S', Sta K (gm0 mg) A H S ∧ RepSs K (gm0 mg) A H as vs ∧ m as S = some (r, S') ∧ PoF K (gm0 mg) Q E A H r S'
open Classical in
/-- a def from its body: np parameters, n slots -/
noncomputable def fnSem (np n : Nat) (body : SM) : Fn := fun as S => if as.length = np then match body (as.map some ++ List.replicate (n - as.length) none) S with
  | some (.nx _, S') => if Cal S S' then some (.ok (.d .non), S'.take S.length) else none
  | some (.rt (.d x), S') => if Cal S S' then some (.ok (.d x), S'.take S.length) else none
  | some (.rt (.ptr k), S') => if Cal S S' then if k < S.length then some (.ok (.old k), S'.take S.length) else match S'[k]? with
    | some l => match frzL S.length S' l with
      | some l' => some (.ok (.fresh l'), S'.take S.length)
      | none => none
    | none => none
    else none
  | some (.er c fs l _, S') => if Cal S S' then some (.err c fs l, S'.take S.length) else none
  | _ => none else none
open Classical in
/-- a def that leaves its lists behind -/
noncomputable def fnSemU (np n : Nat) (body : SM) : Fn := fun as S => if as.length = np then match body (as.map some ++ List.replicate (n - as.length) none) S with
  | some (.nx _, S') => some (.ok (.grow (.d .non)), S')
  | some (.rt .exc, S') => none
  | some (.rt x, S') => some (.ok (.grow x), S')
  | some (.er c fs l _, S') => if Cal S S' then some (.err c fs l, S'.take S.length) else none
  | _ => none else none
theorem start_env {K : PySem.W.Frag} {g : Gm} {A : List Addr} {H : Hp} (n : Nat) : ∀ {as : List SV} {vs : List V}, RepSs K g A H as vs → EnvR K g A H (vs.map some ++ List.replicate n none) (as.map some ++ List.replicate n none)
  | [], vs, h => by
    cases (show vs = [] from h)
    refine ⟨by simp, fun i sv q => ?_⟩
    simp only [List.map_nil, List.nil_append] at q
    rw [List.getElem?_replicate] at q
    split at q <;> cases q
  | a :: as, vs, ⟨v, r, e, h1, h2⟩ => by
    subst e
    have ih := start_env n h2
    refine ⟨by simpa using ih.len, fun i sv q => ?_⟩
    cases i with
    | zero =>
      simp at q
      subst q
      exact ⟨v, by simp, h1⟩
    | succ i =>
      obtain ⟨u, h3, h4⟩ := ih.at' i sv (by simpa using q)
      exact ⟨u, by simpa using h3, h4⟩
theorem errR_drop {K : PySem.W.Frag} {mg : Str → Option Value} {A l : List Addr} {H : Hp} {dd : Option Addr} {fs : List Str} {ds : List D} (h : ErrR K mg (A ++ l) H dd fs ds) : ErrR K mg A H dd fs ds := by
  rcases h with h | ⟨d, vs, e, n, h1, h2, h3⟩
  · exact .inl h
  · exact .inr ⟨d, vs, e, fun z => n (List.mem_append_left _ z), h1, h2, Reps.anti _ _ h3⟩
section
variable {P : Program} {w : World} {K : PySem.W.Frag} {mg : Str → Option Value} {base : Heap}
theorem RepSs.len' {g : Gm} {A : List Addr} {H : Hp} {as : List SV} {vs : List V} (h : RepSs K g A H as vs) : as.length = vs.length := RepSs.length h
theorem spD_len {np n : Nat} {body : SM} {vs : List V} {H : Hp} {Q : VK} {E : XK} (h : spD K mg (fnSem np n body) vs H Q E) : vs.length = np := by
  obtain ⟨A, S, as, r, S', hS, hx, he, _⟩ := h
  unfold fnSem at he
  by_cases c : as.length = np
  · rw [← hx.len', c]
  · rw [if_neg c] at he; cases he
theorem body_done {N : List Str} {body : SM} {vs : List V} {H : Hp} {Q : VK} {E : XK} {np : Nat} {t : TS} (hs : spD K mg (fnSem np N.length body) vs H Q E) (k : SOk K ⟨mg, fun _ _ => True, fun _ _ => trivial, fun _ _ => trivial, none⟩ (wg0 fun cls d _ H => E cls d H) t body) :
    t { nx := fun _ H' => Q .non H', rt := Q } (L2.start N vs) H := by
  obtain ⟨A, S, as, r, S', hS, hx, he, hp⟩ := hs
  unfold fnSem at he
  have hl := hx.len'
  by_cases c : as.length = np
  · rw [if_pos c] at he
    have hE : EnvR K (gm0 mg) A H (L2.start N vs) (as.map some ++ List.replicate (N.length - as.length) none) := by
      unfold L2.start
      rw [hl]
      exact start_env _ hx
    have hSl := hS.len
    rcases eb : body (as.map some ++ List.replicate (N.length - as.length) none) S with _ | ⟨o, S1⟩
    · rw [eb] at he; cases he
    · rw [eb] at he
      refine k (L2.start N vs) H A S _ o S1 hS hE eb _ ?_
      cases o with
      | nx env =>
        dsimp only at he
        by_cases cc : Cal S S1
        rotate_left
        · rw [if_neg cc] at he; cases he
        rw [if_pos cc] at he
        cases he
        intro σ' A' H' e s q
        obtain ⟨l, rfl, hll⟩ := e.app
        have s' := hS.drop s cc
        rw [← hSl] at s'
        exact hp .non H' e.drop s' (by simp only [Rep])
      | rt sv =>
        cases sv with
        | d x =>
          dsimp only at he
          by_cases cc : Cal S S1
          rotate_left
          · rw [if_neg cc] at he; cases he
          rw [if_pos cc] at he
          cases he
          intro v A' H' e s q
          obtain ⟨l, rfl, hll⟩ := e.app
          have s' := hS.drop s cc
          rw [← hSl] at s'
          exact hp v H' e.drop s' (Rep.anti _ _ q)
        | ptr j =>
          dsimp only at he
          by_cases cc : Cal S S1
          rotate_left
          · rw [if_neg cc] at he; cases he
          rw [if_pos cc] at he
          intro v A' H' e s q
          obtain ⟨l, rfl, hll⟩ := e.app
          obtain ⟨a, h1, h2, hkd⟩ := q
          subst h2
          have s' := hS.drop s cc
          by_cases cj : j < S.length
          · rw [if_pos cj] at he
            cases he
            rw [← hSl] at s'
            exact hp a H' (by rw [List.getElem?_append_left (by rw [← hSl]; exact cj)] at h1; exact h1) e.drop s' hkd
          · rw [if_neg cj] at he
            rcases el : S1[j]? with _ | ds
            · rw [el] at he; cases he
            · rw [el] at he
              dsimp only at he
              rcases ez : frzL S.length S1 ds with _ | ds'
              · rw [ez] at he; cases he
              rw [ez] at he
              cases he
              rw [hSl] at ez
              obtain ⟨s3, hpl⟩ := hS.pick s cc (by rw [← hSl]; exact Nat.le_of_not_lt cj) h1 el hkd ez
              rw [← hSl] at s3 s'
              exact hp a H' ⟨⟨[a], rfl, fun b hb => by rw [List.mem_singleton.mp hb]; exact hll a hpl⟩, e.keep, e.dom, e.kl, e.ki, e.kt, e.kk⟩ s3 s' hkd
        | exc => cases he
        | obj _ => cases he
        | dic _ => cases he
        | sq _ _ => cases he
      | bk env => cases he
      | ct env => cases he
      | er c' fs l' env =>
        dsimp only at he
        by_cases cc : Cal S S1
        rotate_left
        · rw [if_neg cc] at he; cases he
        rw [if_pos cc] at he
        cases he
        intro C dd σ' A' H' hc e s q er
        obtain ⟨l, rfl, hll⟩ := e.app
        have s' := hS.drop s cc
        rw [← hSl] at s'
        exact hp C dd H' hc e.drop s' (errR_drop er)
  · rw [if_neg c] at he; cases he
theorem spU_len {np n : Nat} {body : SM} {vs : List V} {H : Hp} {Q : VK} {E : XK} (h : spD K mg (fnSemU np n body) vs H Q E) : vs.length = np := by
  obtain ⟨A, S, as, r, S', hS, hx, he, _⟩ := h
  unfold fnSemU at he
  by_cases c : as.length = np
  · rw [← hx.len', c]
  · rw [if_neg c] at he; cases he
theorem body_doneU {N : List Str} {body : SM} {vs : List V} {H : Hp} {Q : VK} {E : XK} {np : Nat} {t : TS} (hs : spD K mg (fnSemU np N.length body) vs H Q E) (k : SOk K ⟨mg, fun _ _ => True, fun _ _ => trivial, fun _ _ => trivial, none⟩ (wg0 fun cls d _ H => E cls d H) t body) :
    t { nx := fun _ H' => Q .non H', rt := Q } (L2.start N vs) H := by
  obtain ⟨A, S, as, r, S', hS, hx, he, hp⟩ := hs
  unfold fnSemU at he
  have hl := hx.len'
  by_cases c : as.length = np
  · rw [if_pos c] at he
    have hE : EnvR K (gm0 mg) A H (L2.start N vs) (as.map some ++ List.replicate (N.length - as.length) none) := by
      unfold L2.start
      rw [hl]
      exact start_env _ hx
    have hSl := hS.len
    rcases eb : body (as.map some ++ List.replicate (N.length - as.length) none) S with _ | ⟨o, S1⟩
    · rw [eb] at he; cases he
    · rw [eb] at he
      refine k (L2.start N vs) H A S _ o S1 hS hE eb _ ?_
      cases o with
      | nx env =>
        cases he
        intro σ' A' H' e s q
        exact hp .non A' H' e s (show Rep K mg A' H' .non .non by simp only [Rep])
      | rt sv =>
        cases sv <;> cases he <;> (intro v A' H' e s q; exact hp v A' H' e s q)
      | bk env => cases he
      | ct env => cases he
      | er c' fs l' env =>
        dsimp only at he
        by_cases cc : Cal S S1
        rotate_left
        · rw [if_neg cc] at he; cases he
        rw [if_pos cc] at he
        cases he
        intro C dd σ' A' H' hc e s q er
        obtain ⟨l, rfl, hll⟩ := e.app
        have s' := hS.drop s cc
        rw [← hSl] at s'
        exact hp C dd H' hc e.drop s' (errR_drop er)
  · rw [if_neg c] at he; cases he
/-- THE RULE for a def that leaves its lists behind -/
theorem fnDU {x qual : Str} {st : Stmt} {f : Addr} {fd : FuncData} {N ps : List Str} {k : Nat} {body : SM} (F : Fun K x qual st f fd) (sc : FnScope N ps (defScope st))
    (hb : ∀ (cdv : Value) (A : Around) (outer : List PySem.Env) (s : Shared) (H : Hp) (E : XK), Room k (A.deeper (PyProof.Rows.envOfC qual (defScope st) s.heap.objs.size f cdv)) →
      DSs (cxOf (L2N.CX P w) P w K mg base N qual (defScope st) f cdv A outer s H E) (wg0 fun cls d _ H => E cls d H) (defBody st) body) : FnOk P w K mg base (L2N.CX P w) (k + 1) f fd ps (spD K mg (fnSemU ps.length N.length body)) :=
  by
    obtain ⟨oc, od, kV, doc, pm, an, cdv, ct, osl, rfl, lk, hcd⟩ := F.ex
    exact fn_of lk hcd sc (fun vs H Q E h => spU_len h) fun A outer s H vs Q E hr hs => by
      obtain ⟨t, p, k⟩ := hb cdv A outer s H E hr
      exact ⟨t, p, body_doneU hs k⟩
/-- THE RULE for a def -/
theorem fnD {x qual : Str} {st : Stmt} {f : Addr} {fd : FuncData} {N ps : List Str} {k : Nat} {body : SM} (F : Fun K x qual st f fd) (sc : FnScope N ps (defScope st))
    (hb : ∀ (cdv : Value) (A : Around) (outer : List PySem.Env) (s : Shared) (H : Hp) (E : XK), Room k (A.deeper (PyProof.Rows.envOfC qual (defScope st) s.heap.objs.size f cdv)) →
      DSs (cxOf (L2N.CX P w) P w K mg base N qual (defScope st) f cdv A outer s H E) (wg0 fun cls d _ H => E cls d H) (defBody st) body) : FnOk P w K mg base (L2N.CX P w) (k + 1) f fd ps (spD K mg (fnSem ps.length N.length body)) :=
  by
    obtain ⟨oc, od, kV, doc, pm, an, cdv, ct, osl, rfl, lk, hcd⟩ := F.ex
    exact fn_of lk hcd sc (fun vs H Q E h => spD_len h) fun A outer s H vs Q E hr hs => by
      obtain ⟨t, p, k⟩ := hb cdv A outer s H E hr
      exact ⟨t, p, body_done hs k⟩
end
def asPure : RR → M SV
  | .d x => ret (.d x)
  | .fresh l => if clsd l = true then ret (.d (.lst l)) else stuck
  | .old k => ret (.ptr k)
  | .grow x => ret x
def asOwn : RR → M SV
  | .d x => ret (.d x)
  | .fresh l => fun S => some (.ok (.ptr S.length), S ++ [l])
  | .old k => ret (.ptr k)
  | .grow x => ret x
def callM (cv : RR → M SV) (m : Fn) (as : List SV) : M SV := if noExc as = true then bnd (m as) cv else stuck
def eCall (cv : RR → M SV) (m : Fn) (dsv : List SV) (fa : Env → M (List SV)) : Env → M SV := fun env => bnd (fa env) fun as => callM cv m (as ++ dsv)
/-- a call by keywords, which must not raise -/
def callN (cv : RR → M SV) (m : Fn) (as : List SV) : M SV := fun S => match callM cv m as S with
  | some (.ok v, S') => some (.ok v, S')
  | _ => none
def eCallK (cv : RR → M SV) (m : Fn) (perm : List SV → List SV) (fa : Env → M (List SV)) : Env → M SV := fun env => bnd (fa env) fun as => callN cv m (perm as)
/-- a def that can be called -/
structure Callee (P : Program) (w : World) (K : PySem.W.Frag) (mg : Str → Option Value) (base : Heap) (k : Nat) (x : Str) (ps : List Str) (m : Fn) (f : Addr) (fd : FuncData) : Prop where
  F : FnOk P w K mg base (L2N.CX P w) k f fd ps (spD K mg m)
  mg : mg x = some (.ref f)
  kp : PySem.W.keepIn K (.ref f) = true
section
variable {X : Cx} {W : WG}
def CvOk (cv : RR → M SV) : Prop := cv = asPure ∨ cv = asOwn
theorem call_step {cv : RR → M SV} (hcv : CvOk cv) {m : Fn} {as : List SV} {vs : List V} {σ : St} {H : Hp} {A : List Addr} {S : Store} {r : R SV} {S' : Store} {Q : VK} (hS : Sta X.K (gm X W) A H S) (hx : RepSs X.K (gm X W) A H as vs)
    (he : callM cv m as S = some (r, S')) (hp : Po X.K (gm X W) (relS X.K (gm X W)) W Q σ A H r S') (E : XK) (hE : ∀ cls d H', W.w cls d σ H' → E cls d H') : spD X.K X.mg m vs H Q E := by
  unfold callM at he
  by_cases hn : noExc as = true
  · rw [if_pos hn] at he
    have hS0 : Sta X.K (gm0 X.mg) A H S := hS.conv rfl trivial
    have hx0 : RepSs X.K (gm0 X.mg) A H as vs := repSs_0 (g := gm X W) (g' := gm0 X.mg) rfl hn hx
    have back : ∀ {A' : List Addr} {H' : Hp} {S2 : Store}, Ext A H A' H' → Sta X.K (gm0 X.mg) A' H' S2 → Sta X.K (gm X W) A' H' S2 := fun e s => s.conv rfl (W.mono e hS.gh)
    rcases bnd_some he with ⟨rr, S1, em, q⟩ | ⟨c, fs, l, em, rfl⟩
    · refine ⟨A, S, as, _, S1, hS0, hx0, em, ?_⟩
      cases rr with
      | d x =>
        have q' : ret (.d x) S1 = some (r, S') := by rcases hcv with rfl | rfl <;> exact q
        cases q'
        exact fun v H' e s z => hp v A H' e (back e s) z
      | old k =>
        have q' : ret (.ptr k) S1 = some (r, S') := by rcases hcv with rfl | rfl <;> exact q
        cases q'
        exact fun a H' ha e s hkd => hp _ A H' e (back e s) ⟨a, ha, rfl, hkd⟩
      | grow x =>
        have q' : ret x S1 = some (r, S') := by rcases hcv with rfl | rfl <;> exact q
        cases q'
        exact fun v A' H' e s z => by
          refine hp v A' H' e (back e s) ?_
          cases x <;> first | exact z | (obtain ⟨a, h, _⟩ := z; cases h)
      | fresh l =>
        intro p H' e s sd hkd
        have sA := back e s
        have hl1 : S1.length = A.length := by
          have := s.len
          simpa using this
        rcases hcv with rfl | rfl
        · replace q : (if clsd l = true then ret (SV.d (.lst l)) else stuck) S1 = some (r, S') := q
          by_cases hcl : clsd l = true
          rotate_left
          · rw [if_neg hcl] at q; cases q
          rw [if_pos hcl] at q
          cases q
          have s2 := back e.drop sd
          obtain ⟨vs', h1, h2⟩ := sA.lstC (k := A.length) (a := p) (ds := l) (by simp) hkd (by rw [← hl1]; simp) hcl
          have nd := List.nodup_append.mp sA.nd
          refine hp _ A H' e.drop s2 ?_
          show Rep X.K X.mg A H' (.lst l) (.ref p)
          simp only [Rep]
          exact ⟨p, vs', rfl, fun z => nd.2.2 p z p (by simp) rfl, h1, Reps.anti _ _ h2⟩
        · cases q
          exact hp _ _ H' e sA ⟨p, by rw [hl1]; simp, rfl, hkd⟩
    · exact ⟨A, S, as, _, S', hS0, hx0, em, fun C dd H' hc e s er => hE _ _ _ (hp C dd A H' hc e (back e s) er)⟩
  · rw [if_neg hn] at he; cases he
variable {k : Nat} {f : Addr} {fd : FuncData} {ps : List Str} {m : Fn} {dvs : List V} {ds : List Value} {dsv : List SV} {x : Str} {p pos : Pos} {e : Expr} {es : List Expr} {fa : Env → M (List SV)}
theorem repSs_app {K : PySem.W.Frag} {g : Gm} {A : List Addr} {H : Hp} : ∀ {as bs : List SV} {vs ws : List V}, RepSs K g A H as vs → RepSs K g A H bs ws → RepSs K g A H (as ++ bs) (vs ++ ws)
  | [], bs, vs, ws, h, h' => by cases (show vs = [] from h); exact h'
  | a :: as, bs, vs, ws, ⟨v, r, e, h1, h2⟩, h' => ⟨v, r ++ ws, by rw [e]; rfl, h1, repSs_app h2 h'⟩
/-- f(e, ..), defaults dsv behind -/
theorem de_call {cv : RR → M SV} (hcv : CvOk cv) (F : FnOk X.prog X.w X.K X.mg X.base (L2N.CX X.prog X.w) k f fd ps (spD X.K X.mg m)) (hr : Room k X.A) (tk : L2N.Takes X W.w) (hg : Gl X x) (hm : X.mg x = some (.ref f)) (hk : PySem.W.keepIn X.K (.ref f) = true) (hb : Binds X.K fd ps ds) (hd : Vals dvs ds)
    (hdr : ∀ A H, RepSs X.K (gm X W) A H dsv dvs) (ha : DA X W (e :: es) fa) (hdb : (x == ("__debug__" : Str)) = false := by decide) (he : starEach (e :: es) X.env = (false, eval e X.env) :: starEach es X.env := by rfl) (hpl : (backTo pos (starEach es X.env)).any (·.1) = false := by rfl) :
    DE X W (.Call (.Name x p) (e :: es) [] pos) (eCall cv m dsv fa) := by
  obtain ⟨t, pa, ka⟩ := ha
  refine ⟨_, pe_callSD F hr hg hm hk hb hd (fun σ => L2N.passAt tk σ) pa hdb he hpl, ?_⟩
  exact tbind (rel := relA X.K (gm X W)) (rel2 := relS X.K (gm X W)) (g := fun _ as => callM cv m (as ++ dsv)) (tk := fun vs σ H Q => spD X.K X.mg m (vs ++ dvs) H Q (WE W.w σ)) ka fun as vs σ H A S env r S' hS hE hx he Q hp =>
    call_step hcv hS (repSs_app hx (hdr A H)) he hp _ fun _ _ _ h => h
theorem takesN {X : Cx} : L2N.Takes X WF := fun _ _ x => by
  obtain ⟨_, _, _, _, _, _, _, _, _, _, _, _, _, _, _, _, z⟩ := x
  exact z.elim
end
end DL
namespace DL
open PySem L2
def spInit1 (K : PySem.W.Frag) (C : Addr) (fld : Str) : Sp := fun vs H Q _ => ∃ a y, vs = [.ref a, y] ∧ H a = some (exo a C none) ∧ OexC K C ∧ PySem.W.findIn K (.ref C) fld = some none ∧
  ∀ dx, H dx = none → dx ≠ a → Q .non (upd (upd H dx (exd dx [(fld, y)])) a (exo a C (some dx)))
theorem ok_init1 {P : Program} {w : World} {K : PySem.W.Frag} {mg : Str → Option Value} {base : Heap} {f C : Addr} {fd : FuncData} {q fld y : Str} {st : Stmt} (F : Fun K "__init__" q st f fd) (sc : FnScope (["self", y] : List Str) (["self", y] : List Str) (defScope st))
    (hb : ∀ X : Cx, X.N = (["self", y] : List Str) → X.env.scope = defScope st → PSs X (defBody st) (tOst X.K fld (tVar 0) (tVar 1))) : FnOk P w K mg base CX0 1 f fd (["self", y] : List Str) (spInit1 K C fld) :=
  F.ok sc (fun vs H Q E h => by obtain ⟨a, v, rfl, _⟩ := h; rfl) fun cdv A outer s H vs Q E hr h => by
    obtain ⟨a, v, rfl, e, T, hno, k⟩ := h
    exact ⟨_, hb _ rfl rfl, v, rfl, .ref a, rfl, a, C, rfl, T, hno, .inl ⟨e, fun dx hn hne => k dx hn hne⟩⟩
theorem pmk_oexN {X : Cx} {e : Expr} {es : List Expr} {ta : TA} {p pos : Pos} {CX : CXT} {x : Str} {C fI : Addr} {k : Nat} {fd : FuncData} {ps : List Str} {sp : Sp} {ds : List Value} {dvs : List V} (T : OexC X.K C) (iC : PySem.W.findIn X.K (.ref C) "__init__" = some (some (.ref fI))) (tI : PySem.W.typeIn X.K (.ref fI) = some (.type "function"))
    (F1 : FnOk X.prog X.w X.K X.mg X.base CX k fI fd ps sp) (hr : Room (k + 1) X.A) (hb : Binds X.K fd ps ds) (hd : Vals dvs ds) (hx : Passes CX X (fun _ _ _ => False)) (hg : Gl X x) (hm : X.mg x = some (.ref C)) (ha : PA X (e :: es) ta)
    (hdb : (x == ("__debug__" : Str)) = false := by decide) (he : starEach (e :: es) X.env = (false, eval e X.env) :: starEach es X.env := by rfl) (hpl : (backTo pos (starEach es X.env)).any (·.1) = false := by rfl) :
    L2N.PMk X (.Call (.Name x p) (e :: es) [] pos) (tMkO C sp dvs ta) := by
  intro ps0 s0 σ0 H0 Q0 I0 h0
  obtain ⟨c1, c2, c3, c4, mm, c6, c7, c8, c9, c10, c11, c12, c13, c14, c15, kC, kM⟩ := T.cls
  refine wpAny_Call_Name_kw
    (L2.ld_glob I0 hg hm ?_ hdb)
  refine PySem.W.callWith_K (h₀ := X.base) I0.ok.mod.kin T.kC
    (thn (ha.run pos ps0 s0 σ0 H0 _ I0 h0) fun uu sA hA => ?_) he hpl
  obtain ⟨vv, HA, IA, rA, zA, qA⟩ := hA
  refine ⟨IA.kIn, ?_⟩
  show wpAny _ _ (call (.ref C) uu) _ _ _
  obtain ⟨hh, gg, dr, tt, oo⟩ := sA
  have fr : HA (hh.objs.size + 1) = none :=
    IA.hok.fresh (Nat.le_succ _)
  have go := qA _ fr
  have keepH : ∀ b o, hh.get? b = some o →
      ((hh.push (PySem.W.kdv_tup uu)).push (PySem.HandSPX.excO C hh.objs.size)).get? b = some o :=
    fun b o e => Heap.get?_push_of_some _ (Heap.get?_push_of_some _ e)
  have getH : ((hh.push (PySem.W.kdv_tup uu)).push (PySem.HandSPX.excO C hh.objs.size)).get? (hh.objs.size + 1)
      = some (PySem.HandSPX.excO C hh.objs.size) := by heap_get
  have IB : Inv X ps0 σ0 (upd HA (hh.objs.size + 1) (exo (hh.objs.size + 1) C none))
      ⟨(hh.push (PySem.W.kdv_tup uu)).push (PySem.HandSPX.excO C hh.objs.size), gg, dr, tt, oo⟩ :=
    IA.laid (t' := tt) (a := hh.objs.size + 1) (o := exo (hh.objs.size + 1) C none)
      (h' := (hh.push (PySem.W.kdv_tup uu)).push (PySem.HandSPX.excO C hh.objs.size)) keepH (Nat.le_succ _) (exo_ok getH)
  have rB : Vals (V.ref (hh.objs.size + 1) :: (vv ++ dvs)) (Value.ref (hh.objs.size + 1) :: (uu ++ ds)) :=
    .cons rfl (rA.append hd)
  have nB : (Value.ref (hh.objs.size + 1) :: uu ++ ds).length = ps.length :=
    rB.length.symm.trans (F1.len _ _ _ _ go)
  have nU : uu.length ≤ sizeLine := by
    have z := Paired.length rA
    have z2 : sizeLine = 16777216 := sizeLine_eq
    omega
  refine wpAny_call (PySem.HandSPX.call_own F.excBase_ValueError
    (fun _ => PySem.HandSPX.refsVE_contains _ mm kM) (IA.kIn _ _ kC)
    (PySem.W.looks_findIn IA.kIn iC) (fun self => PySem.W.bind_fn IA.kIn self tI) nU
    (codeAny_mono (F1.run _ X.stack _ _ ⟨Value.ref (hh.objs.size + 1) :: uu, []⟩ (Value.ref (hh.objs.size + 1) :: (uu ++ ds)) _ _
      (fun _ _ _ => False) (hr.make C uu []) (IB.env0.make C uu []) (hb _ (Value.ref (hh.objs.size + 1) :: uu) IB.kIn nB) rB go)
      fun rr sB hB => ?_))
  cases rr with
  | error er =>
    exact hx ps0 σ0 _ _ er sB IB hB
  | ok fl =>
    cases fl with
    | ret uv =>
      obtain ⟨v2, H2, os2, bare2, un2, hok2, rv, ev, d2, fs2, ea, ed, hd1, q2⟩ := hB
      subst ev
      obtain ⟨h2, g2, dd2, t2, os'⟩ := sB
      obtain ⟨tz, G2, J2, kG, ge, hoe, na⟩ :=
        mk_end0 (d2 := dd2) (t2 := t2) IA (Nat.le_succ _) keepH un2 hok2 os2 bare2 ea ed hd1
      refine ⟨rv, hh.objs.size + 1, _, _, ⟨G2, g2, dd2, t2, os'⟩, _, .ref C, some d2, rfl, J2, kG, ge, hoe, ?_, rfl, rfl, na, rfl, bare2,
        raises_own T.exC T.tyC, q2⟩
      exact ⟨rfl, rfl, fun _ hv => by cases hv; rfl⟩
    | next => exact hB.elim
    | brk => exact hB.elim
    | cont => exact hB.elim
section
variable {X : Cx} {W : WG} {x fld : Str} {p pos pos2 : Pos} {e : Expr} {f : Env → M SV} {C fI : Addr} {fd : FuncData} {y : Str}
def sRaise1 (c fld : Str) (f : Env → M SV) : SM := fun env => lift env (f env) fun a S => match a with
  | .d x => some (.er c [fld] [x] env, S)
  | _ => none
theorem ds_raise1 (hc : X.calm = true) (tk : L2N.Takes X W.w) (T : OexC X.K C) (iC : PySem.W.findIn X.K (.ref C) "__init__" = some (some (.ref fI))) (tI : PySem.W.typeIn X.K (.ref fI) = some (.type "function")) (hno : PySem.W.findIn X.K (.ref C) fld = some none)
    (F1 : FnOk X.prog X.w X.K X.mg X.base CX0 1 fI fd (["self", y] : List Str) (spInit1 X.K C fld)) (hr : Room 2 X.A) (hb : Binds X.K fd (["self", y] : List Str) []) (hg : Gl X x) (hm : X.mg x = some (.ref C)) (he : DE X W e f)
    (hdb : (x == ("__debug__" : Str)) = false := by decide) (hst : starEach [e] X.env = (false, eval e X.env) :: starEach [] X.env := by rfl) (hpl : (backTo pos (starEach [] X.env)).any (·.1) = false := by rfl) :
    DS X W (.Raise (some (.Call (.Name x p) [e] [] pos)) none pos2) (sRaise1 x fld f) := by
  obtain ⟨te, pe, ke⟩ := he
  have pa : PA X [e] (tCons te tNil) := pa_cons pe pa_nil hst
  refine ⟨_, L2N.ps_raise hc tk (pmk_oexN T iC tI F1 hr hb .nil pass0 hg hm pa hdb hst hpl), ?_⟩
  intro σ H A S env o S' hS hE h Dn hp
  rcases lift_some h with ⟨a, S1, ef, q⟩ | ⟨c, fs, l, ef, rfl⟩
  · refine ke σ H A S env _ S1 hS hE ef _ fun v A1 H1 e1 s1 r1 => ?_
    cases a with
    | d d =>
      cases q
      refine ⟨(by show 1 ≤ 1000; decide), fun a ha => ⟨a, v, rfl, upd_same, T, hno, fun dx hn hne => ⟨rfl, dx, _, upd_same, by rw [upd_ne hne, upd_same], ?_, ?_⟩⟩⟩
      · rw [upd_ne hne] at hn; exact hn
      · rw [upd_ne hne] at hn
        have eH : upd (del (upd (upd (upd H1 a (exo a C none)) dx (exd dx [(fld, v)])) a (exo a C (some dx))) a) dx (.xd [(fld, v)]) = upd H1 dx (.xd [(fld, v)]) := by
          funext b
          by_cases hb : b = dx
          · subst hb; rw [upd_same, upd_same]
          · rw [upd_ne hb, upd_ne hb]
            by_cases hba : b = a
            · subst hba; rw [del_same, ha]
            · rw [del_ne hba, upd_ne hba, upd_ne hb, upd_ne hba]
        rw [eH]
        have rx : Rep X.K X.mg A1 H1 d v := r1
        exact hp C (some dx) σ A1 _ hm (e1.trans (Ext.new hn)) (s1.new hn) ((hE.mono e1).mono (Ext.new hn)) (.inr ⟨dx, [v], rfl, s1.free hn, upd_same, rfl, by
          simp only [Reps]
          exact ⟨v, [], rfl, Rep.mono (Ext.new hn) _ _ rx, rfl⟩⟩)
    | ptr k => cases q
    | obj k => cases q
    | dic k => cases q
    | sq _ _ => cases q
    | exc => cases q
  · exact ke σ H A S env _ _ hS hE ef _ fun C dd A' H' hc e s r => hp C dd σ A' H' hc e s (hE.mono e) r
def envNE (env : Env) : Bool := env.all fun o => match o with
  | some .exc => false
  | _ => true
theorem envR_conv {K : PySem.W.Frag} {g g' : Gm} {A : List Addr} {H : Hp} {σ : St} {env : Env} (hm : g.m = g'.m) (hn : envNE env = true) (h : EnvR K g A H σ env) : EnvR K g' A H σ env := by
  refine ⟨h.len, fun i sv q => ?_⟩
  obtain ⟨v, h1, h2⟩ := h.at' i sv q
  refine ⟨v, h1, ?_⟩
  cases sv with
  | d x =>
    show Rep K g'.m A H x v
    rw [← hm]
    exact h2
  | ptr k => exact h2
  | obj k => exact h2
  | dic k => exact h2
  | sq b l =>
    obtain ⟨a, ws, h3, h4, h5, h6⟩ := h2
    exact ⟨a, ws, h3, h4, h5, by rw [← hm]; exact h6⟩
  | exc =>
    have hmem := List.mem_of_getElem? q
    have := List.all_eq_true.mp hn _ hmem
    cases this
def noX : SV → Bool
  | .exc => false
  | _ => true
theorem repS_conv {K : PySem.W.Frag} {g g' : Gm} {A : List Addr} {H : Hp} {sv : SV} {v : V} (hm : g.m = g'.m) (hn : noX sv = true) (h : RepS K g A H sv v) : RepS K g' A H sv v := by
  cases sv with
  | d x =>
    show Rep K g'.m A H x v
    rw [← hm]
    exact h
  | ptr k => exact h
  | obj k => exact h
  | dic k => exact h
  | sq b l =>
    obtain ⟨a, ws, h3, h4, h5, h6⟩ := h
    exact ⟨a, ws, h3, h4, h5, by rw [← hm]; exact h6⟩
  | exc => cases hn
theorem errR_mono {K : PySem.W.Frag} {mg : Str → Option Value} {A A' : List Addr} {H H' : Hp} {dd : Option Addr} {fs : List Str} {l : List D} (e : Ext A H A' H') (h : ErrR K mg A H dd fs l) : ErrR K mg A' H' dd fs l := by
  rcases h with h | ⟨d, vs, e1, n, h1, h2, h3⟩
  · exact .inl h
  · exact .inr ⟨d, vs, e1, e.notin h1 n, e.keep _ _ h1 n, h2, Reps.mono e _ _ h3⟩
theorem errR_sub {K : PySem.W.Frag} {mg : Str → Option Value} {A B : List Addr} {H : Hp} {dd : Option Addr} {fs : List Str} {l : List D} (hs : ∀ a, a ∈ B → a ∈ A) (h : ErrR K mg A H dd fs l) : ErrR K mg B H dd fs l := by
  rcases h with h | ⟨d, vs, e1, n, h1, h2, h3⟩
  · exact .inl h
  · exact .inr ⟨d, vs, e1, fun z => n (hs _ z), h1, h2, Reps.sub hs _ _ h3⟩
/-- what is known within the suite -/
def WG.suite (W : WG) (K : PySem.W.Frag) (mg : Str → Option Value) (a : Addr) (d : Option Addr) (fs : List Str) (l : List D) : WG :=
  ⟨WF, fun A H => W.G A H ∧ ErrR K mg A H d fs l, fun e h => ⟨W.mono e h.1, errR_mono e h.2⟩, fun hs h => ⟨W.sub hs h.1, errR_sub hs h.2⟩, some a⟩
def WG.body (W : WG) (w : WX) : WG := ⟨w, W.G, W.mono, W.sub, W.xa⟩
/-- e.f within the suite -/
def lookD (fld : Str) : List Str → List D → Option D
  | f :: fs, d :: ds => if fld = f then some d else lookD fld fs ds
  | _, _ => none
theorem lookD_rep {K : PySem.W.Frag} {mg : Str → Option Value} {A : List Addr} {H : Hp} {fld : Str} : ∀ {fs : List Str} {l : List D} {vs : List V} {d : D}, Reps K mg A H l vs → lookD fld fs l = some d → ∃ v, (fs.zip vs).lookup fld = some v ∧ Rep K mg A H d v
  | [], l, vs, d, _, e => by cases l <;> cases e
  | f :: fs, [], vs, d, _, e => by cases e
  | f :: fs, x :: l, vs, d, r, e => by
    simp only [Reps] at r
    obtain ⟨v, r', e1, h1, h2⟩ := r
    subst e1
    unfold lookD at e
    by_cases hf : fld = f
    · rw [if_pos hf] at e
      cases e
      subst hf
      exact ⟨v, by simp [List.lookup], h1⟩
    · rw [if_neg hf] at e
      obtain ⟨u, h3, h4⟩ := lookD_rep h2 e
      refine ⟨u, ?_, h4⟩
      have : (fld == f) = false := by simpa using hf
      simp only [List.zip_cons_cons, List.lookup, this]
      exact h3
def eXf (i : Nat) (fld : Str) (fs : List Str) (l : List D) : Env → M SV := fun env => match env[i]? with
  | some (some .exc) => match lookD fld fs l with
    | some d => ret (.d d)
    | none => stuck
  | _ => stuck
theorem de_xf (i : Nat) {n : Str} {a C0 : Addr} {oe : Obj} {d : Option Addr} {pn : List (Addr × Obj)} {fs : List Str} {l : List D} {np : Pos} (T : XfC X.K C0) (hno : PySem.W.findIn X.K (.ref C0) fld = some none) (hz : Zc (.ref C0) d oe) (hf : ∃ vs, oe.data = .fields vs)
    (hi : X.N[i]? = some n := by rfl) (hv : Vis X.env.scope n := by first | exact Or.inl rfl | exact Or.inr (Or.inl rfl) | exact Or.inr (Or.inr rfl)) (hd : (n == ("__debug__" : Str)) = false := by decide) (hcd : (n == ("__classdict__" : Str)) = false := by decide)
    (hb : attributeBase (.Name n np) fld (X.suite a ((a, oe) :: pn)).env (eval (.Name n np) (X.suite a ((a, oe) :: pn)).env) = eval (.Name n np) (X.suite a ((a, oe) :: pn)).env := by rfl) :
    DE (X.suite a ((a, oe) :: pn)) (W.suite X.K X.mg a d fs l) (.Attribute (.Name n np) fld pos) (eXf i fld fs l) := by
  have pv' : PE (X.suite a ((a, oe) :: pn)) (.Name n np) (tVar i) := pe_var (X := X.suite a ((a, oe) :: pn)) hi hv hd hcd
  refine ⟨_, pe_xf T hno hz hf pv' hb, fun σ H A S env r S' hS hE he Q hp => ?_⟩
  unfold eXf at he
  rcases q : env[i]? with _ | _ | sv
  · rw [q] at he; cases he
  · rw [q] at he; cases he
  · rw [q] at he
    cases sv with
    | d _ => cases he
    | ptr _ => cases he
    | obj _ => cases he
    | dic _ => cases he
    | sq _ _ => cases he
    | exc =>
      dsimp only at he
      rcases el : lookD fld fs l with _ | x
      · rw [el] at he; cases he
      · rw [el] at he
        cases he
        obtain ⟨v, h1, a', h2, h3⟩ := hE.at' i _ q
        cases h2
        subst h3
        refine ⟨_, h1, rfl, rfl, ?_⟩
        rcases hS.gh.2 with ⟨rfl, rfl⟩ | ⟨dd, vs, e1, n1, h4, h5, h6⟩
        · cases el
        · obtain ⟨u, h7, h8⟩ := lookD_rep h6 el
          exact ⟨dd, _, u, e1, h4, h7, hp.val hS h8⟩
/-- a module's def, called -/
theorem Callee.call {cv : RR → M SV} (hcv : CvOk cv) {m : Fn} {k j : Nat} {fA : Addr} {fd : FuncData} {ps : List Str} {es : List Expr} {fa : Env → M (List SV)} {dsv : List SV} {dvs : List V} {ds : List Value} (c : Callee X.prog X.w X.K X.mg X.base k x ps m fA fd) (hr : Room j X.A) (hj : k ≤ j) (tk : L2N.Takes X W.w) (hg : Gl X x) (hb : Binds X.K fd ps ds) (hd : Vals dvs ds)
    (hdr : ∀ A H, RepSs X.K (gm X W) A H dsv dvs) (ha : DA X W (e :: es) fa) (hdb : (x == ("__debug__" : Str)) = false := by decide) (he : starEach (e :: es) X.env = (false, eval e X.env) :: starEach es X.env := by rfl) (hpl : (backTo pos (starEach es X.env)).any (·.1) = false := by rfl) :
    DE X W (.Call (.Name x p) (e :: es) [] pos) (eCall cv m dsv fa) := de_call hcv c.F (hr.mono hj) tk hg c.mg c.kp hb hd hdr ha hdb he hpl
theorem Callee.of {P : Program} {w : World} {K : PySem.W.Frag} {mg : Str → Option Value} {base : Heap} {k : Nat} {x : Str} {ps : List Str} {m : Fn} {f : Addr} {fd : FuncData} (F : FnOk P w K mg base (L2N.CX P w) k f fd ps (spD K mg m)) (hm : mg x = some (.ref f)) (hk : PySem.W.keepIn K (.ref f) = true) : Callee P w K mg base k x ps m f fd := ⟨F, hm, hk⟩
/-- what the text says of an own error class with one field -/
structure ErrC (K : PySem.W.Frag) (mg : Str → Option Value) (x fld y : Str) (C fI : Addr) (fdI : FuncData) : Prop where
  gC : mg x = some (.ref C)
  T : OexC K C
  iC : PySem.W.findIn K (.ref C) "__init__" = some (some (.ref fI))
  tI : PySem.W.typeIn K (.ref fI) = some (.type "function")
  hno : PySem.W.findIn K (.ref C) fld = some none
  F : ∀ (P : Program) (w : World) (base : Heap), FnOk P w K mg base CX0 1 fI fdI (["self", y] : List Str) (spInit1 K C fld)
  b : Binds K fdI (["self", y] : List Str) []
  x : XfC K C
  te : PySem.W.exmOne K (.ref C) (.ref C) = some true
def spLaw (K : PySem.W.Frag) (n : Nat) : Sp := fun vs H Q E => ∃ (a : Addr) (ns : List Int), vs = [.ref a] ∧ SqL K H a (ns.map V.int) ∧ ns.length ≤ n ∧ ∀ H', Q (.bl true) H'
theorem reps_ints {K : PySem.W.Frag} {mg : Str → Option Value} {A : List Addr} {H : Hp} : ∀ ns : List Int, Reps K mg A H (ns.map D.int) (ns.map V.int)
  | [] => by simp only [List.map_nil, Reps]
  | n :: ns => by
    simp only [List.map_cons, Reps]
    exact ⟨.int n, _, rfl, by simp only [Rep], reps_ints ns⟩
theorem law_imp {P : Program} {w : World} {K : PySem.W.Frag} {mg : Str → Option Value} {base : Heap} {k n : Nat} {f : Addr} {fd : FuncData} {ps : List Str} {m : Fn} (F : FnOk P w K mg base (L2N.CX P w) k f fd ps (spD K mg m))
    (main : ∀ ns : List Int, ns.length ≤ n → m [.d (.scr (ns.map D.int))] [] = some (.ok (.d (.bl true)), [])) : FnOk P w K mg base (L2N.CX P w) k f fd ps (spLaw K n) :=
  F.imp fun vs H Q E h => by
    obtain ⟨a, ns, rfl, hs, hl, q⟩ := h
    refine ⟨[], [], [.d (.scr (ns.map D.int))], _, _, ⟨List.nodup_nil, rfl, fun k a ds e _ => by simp at e, trivial⟩, ⟨.ref a, [], rfl, ?_, rfl⟩, main ns hl, ?_⟩
    · show Rep K mg [] H (.scr (ns.map D.int)) (.ref a)
      simp only [Rep]
      refine ⟨a, _, rfl, ?_, reps_ints ns⟩
      rcases hs with hs | hs
      · exact .inl ⟨hs, by simp⟩
      · exact .inr fun H' => .inr hs
    · intro v H' e s r
      have r' : v = .bl true := by simpa only [Rep] using r
      rw [r']
      exact q H'
end
end DL
namespace DL
open PySem L2
section
variable {X : Cx} {W : WG} {x : Str} {p pos : Pos} {e tg : Expr} {es : List Expr}
theorem cok_gcd : COk X W rGcd bGcd := cok_two
theorem cok_max : COk X W (fun xs H Q => ∃ i j, xs = [.int i, .int j] ∧ Q (.int (if j > i then j else i)) H) bMax := cok_two (g := fun i j => if j > i then j else i)
theorem dgs_cons {ts : List Expr} {is : List Nat} (i : Nat) (hN : X.N.Nodup) (h : DGs X ts is) (hi : X.N[i]? = some x := by rfl) (hx : Loc X.env.scope x := by first | exact Or.inl rfl | exact Or.inr rfl) (hf : X.fn x = true ∨ X.env.scope.names.lookup x = some .local := by first | exact .inl rfl | exact .inr rfl)
    (pq : ∀ {g : TGs}, PG X (.Name x pos) (gName i) → PGs X ts g → PGs X (.Name x pos :: ts) (gCons (gName i) g) := by exact fun p q => pgs_cons p q) : DGs X (.Name x pos :: ts) (i :: is) := pq (pg_name hN hi hx hf) h
/-- does a raised class fall under the handler's class -/
theorem exm_own {K : PySem.W.Frag} {c : Value} {S : Addr} {b : Bool} (e1 : PySem.W.subIn K (.ref S) (.type "BaseException") = some true) (e2 : PySem.W.isClsIn K S = true)
    (e3 : PySem.W.typeIn K (.ref S) = some (.type "type")) (e4 : PySem.W.subIn K c (.ref S) = some b) : PySem.W.exmOne K c (.ref S) = some b := by
  have e5 : (PySem.W.clsIn K S).isSome = true := e2
  unfold PySem.W.exmOne PySem.W.kitCls
  simp [e1, e3, e4, e5]
end
end DL
namespace DL
open PySem L2
theorem clsd_cons {d : D} {l : List D} (h : isOwn d = false) (h' : clsd l = true) : clsd (d :: l) = true := by
  simp only [clsd, List.any_cons, h, Bool.false_or]; exact h'
theorem clsd_map {α : Type} {f : α → D} (h : ∀ a, isOwn (f a) = false) : ∀ l : List α, clsd (l.map f) = true
  | [] => rfl
  | a :: l => clsd_cons (h a) (clsd_map h l)
theorem clsd_ints (l : List Int) : clsd (l.map D.int) = true := clsd_map (fun _ => rfl) l
theorem clsd_append {l m : List D} (h : clsd l = true) (h' : clsd m = true) : clsd (l ++ m) = true := by
  simp only [clsd, List.any_append, Bool.not_or, Bool.and_eq_true] at h h' ⊢; exact ⟨h, h'⟩
theorem calC_of {n : Nat} {l : List D} (h : clsd l = true) (h2 : ∀ c fs m, l ≠ [.ins c fs m]) : CalC n l := ⟨fun j hj => by
  have h3 : l.any isOwn = true := List.any_eq_true.mpr ⟨_, hj, rfl⟩
  simp [clsd, h3] at h, fun c fs m e => (h2 c fs m e).elim⟩
theorem calC_2 {n : Nat} {a b : D} {l : List D} (h : clsd (a :: b :: l) = true) : CalC n (a :: b :: l) := calC_of h fun _ _ _ e => by cases e
theorem calC_ints {n : Nat} {l : List Int} : CalC n (l.map D.int) := calC_of (clsd_ints l) fun _ _ _ e => by
  cases l with
  | nil => cases e
  | cons a l => cases e
theorem cal_cons {l l' : List D} {rest junk : Store} (h : CalC (rest.length + 1) l') : Cal (l :: rest) (l' :: rest ++ junk) := fun k ds hk e => by
  cases k with
  | zero => cases e; exact .inr h
  | succ k => left; rw [List.cons_append, List.getElem?_cons_succ, List.getElem?_append_left (by simpa using hk)] at e; exact e
theorem cal_cons0 {l l' : List D} {rest : Store} (h : CalC (rest.length + 1) l') : Cal (l :: rest) (l' :: rest) := by
  have := cal_cons (l := l) (rest := rest) (junk := []) h
  rwa [List.append_nil] at this
section
variable {env : Env} {S : Store}
@[simp] theorem ev_C (d : D) : eC d env = ret (.d d) := rfl
theorem ev_Var {i : Nat} {sv : SV} (h : env[i]? = some (some sv)) : eVar i env = ret sv := by unfold eVar; rw [h]
@[simp] theorem ev_Op (o : SV → SV → M SV) (f g : Env → M SV) : eOp o f g env = bnd (f env) fun x => bnd (g env) fun y => o x y := rfl
@[simp] theorem ev_Un (o : SV → M SV) (f : Env → M SV) : eUn o f env = bnd (f env) o := rfl
@[simp] theorem ev_Arg {α : Type} (o : List SV → M α) (fa : Env → M (List SV)) : eArg o fa env = bnd (fa env) o := rfl
@[simp] theorem ev_Nil : aNil env = ret [] := rfl
@[simp] theorem ev_Cons (f : Env → M SV) (fa : Env → M (List SV)) : aCons f fa env = bnd (f env) fun x => bnd (fa env) fun xs => ret (x :: xs) := rfl
@[simp] theorem ev_Tst (f : Env → M SV) : eTst f env = bnd (f env) asB := rfl
@[simp] theorem ev_tyAnd (t u : Env → M Bool) : tyAnd t u env = bnd (t env) fun c => if c then u env else ret false := rfl
@[simp] theorem ev_tyOr (t u : Env → M Bool) : tyOr t u env = bnd (t env) fun c => if c then ret true else u env := rfl
@[simp] theorem ev_tyNot (t : Env → M Bool) : tyNot t env = bnd (t env) fun c => ret (!c) := rfl
@[simp] theorem ev_And (f g : Env → M SV) : eAnd f g env = bnd (bnd (f env) asB) fun c => if c then g env else ret (.d (.bl false)) := rfl
@[simp] theorem ev_Or (f g : Env → M SV) : eOr f g env = bnd (bnd (f env) asB) fun c => if c then ret (.d (.bl true)) else g env := rfl
@[simp] theorem ev_Not (f : Env → M SV) : eNot f env = bnd (bnd (f env) asB) fun c => ret (.d (.bl (!c))) := rfl
@[simp] theorem ev_If (t : Env → M Bool) (f g : Env → M SV) : eIf t f g env = bnd (t env) fun c => if c then f env else g env := rfl
@[simp] theorem ev_Call (cv : RR → M SV) (m : Fn) (dsv : List SV) (fa : Env → M (List SV)) : eCall cv m dsv fa env = bnd (fa env) fun as => callM cv m (as ++ dsv) := rfl
@[simp] theorem ev_CallK (cv : RR → M SV) (m : Fn) (p : List SV → List SV) (fa : Env → M (List SV)) : eCallK cv m p fa env = bnd (fa env) fun as => callN cv m (p as) := rfl
@[simp] theorem ev_iOf (f : Env → M SV) : iOf f env = bnd (f env) walkD := rfl
@[simp] theorem ev_Yes : tYesD env = ret true := rfl
@[simp] theorem bnd_ret' {α β : Type} (a : α) (k : α → M β) : bnd (ret a) k = k a := rfl
@[simp] theorem bnd_raise' {α β : Type} {c fs l} (k : α → M β) : bnd (raise c fs l : M α) k = raise c fs l := rfl
@[simp] theorem bnd_stuck' {α β : Type} (k : α → M β) : bnd (stuck : M α) k = stuck := rfl
@[simp] theorem bnd_if {α β : Type} (c : Prop) [Decidable c] (x y : M α) (k : α → M β) : bnd (if c then x else y) k = if c then bnd x k else bnd y k := by split <;> rfl
theorem bnd_at {α β : Type} {m : M α} {a : α} {S1 : Store} (h : m S = some (.ok a, S1)) (k : α → M β) : bnd m k S = k a S1 := by unfold bnd; rw [h]
@[simp] theorem ret_at {α : Type} (a : α) : ret a S = some (.ok a, S) := rfl
@[simp] theorem asB_b (b : Bool) : asB (.d (.bl b)) = ret b := rfl
@[simp] theorem oAdd_i (i j : Int) : oAdd (.d (.int i)) (.d (.int j)) = ret (.d (.int (i + j))) := rfl
@[simp] theorem oSub_i (i j : Int) : oSub (.d (.int i)) (.d (.int j)) = ret (.d (.int (i - j))) := rfl
theorem oMul_i {i j : Int} (h : i.natAbs.log2 + j.natAbs.log2 < 1000000) : oMul (.d (.int i)) (.d (.int j)) = ret (.d (.int (i * j))) := by
  unfold oMul iOp; simp only [mulOk, h, decide_true, if_true]
theorem oFdiv_i {i j : Int} (h0 : j ≠ 0) (h : j.natAbs.log2 < 9000) : oFdiv (.d (.int i)) (.d (.int j)) = ret (.d (.int (i.fdiv j))) := by
  unfold oFdiv iOp; simp only [divOk, h, h0, ne_eq, not_false_eq_true, decide_true, Bool.and_self, if_true]
theorem oMod_i {i j : Int} (h0 : j ≠ 0) : oMod (.d (.int i)) (.d (.int j)) = ret (.d (.int (i.fmod j))) := by
  unfold oMod iOp; simp only [modOk, h0, ne_eq, not_false_eq_true, decide_true, if_true]
theorem oPow_i {i j : Int} (h0 : 0 ≤ j) (h1 : j ≤ 1000000) (h : i.natAbs < 2 ^ 64) : oPow (.d (.int i)) (.d (.int j)) = ret (.d (.int (i ^ j.toNat))) := by
  unfold oPow iOp; simp only [powOk, h0, h1, h, decide_true, Bool.and_self, if_true]
@[simp] theorem oLt_i (i j : Int) : oLt (.d (.int i)) (.d (.int j)) = ret (.d (.bl (decide (i < j)))) := rfl
@[simp] theorem oLe_i (i j : Int) : oLe (.d (.int i)) (.d (.int j)) = ret (.d (.bl (decide (i ≤ j)))) := rfl
@[simp] theorem oGt_i (i j : Int) : oGt (.d (.int i)) (.d (.int j)) = ret (.d (.bl (decide (j < i)))) := rfl
@[simp] theorem oGe_i (i j : Int) : oGe (.d (.int i)) (.d (.int j)) = ret (.d (.bl (decide (j ≤ i)))) := rfl
@[simp] theorem oNeg_i (i : Int) : oNeg (.d (.int i)) = ret (.d (.int (-i))) := rfl
theorem shaped_int (i : Int) : SeqAt.shaped (.int i) = true := by
  unfold SeqAt.shaped; simp [PyData.canLay0, PyData.depth]
@[simp] theorem oEq_i (i j : Int) : oEq (.d (.int i)) (.d (.int j)) = ret (.d (.bl (decide (i = j)))) := by
  funext S
  unfold oEq
  simp [deref, eqOk, plain, toPy, shaped_int, eqD, PyData.eqv, Bool.beq_eq_decide_eq]
@[simp] theorem oNe_i (i j : Int) : oNe (.d (.int i)) (.d (.int j)) = ret (.d (.bl (!decide (i = j)))) := by
  funext S
  unfold oNe
  simp [deref, eqOk, plain, toPy, shaped_int, eqD, PyData.eqv, Bool.beq_eq_decide_eq]
/-- equality of two data, where it can be asked -/
theorem oEq_d {x y : D} (h : eqOk x y = true) : oEq (.d x) (.d y) = ret (.d (.bl (eqD x y))) := by
  funext S
  unfold oEq
  simp [deref, h]
theorem oNe_d {x y : D} (h : eqOk x y = true) : oNe (.d x) (.d y) = ret (.d (.bl (!eqD x y))) := by
  funext S
  unfold oNe
  simp [deref, h]
@[simp] theorem bGcd_i (i j : Int) : bGcd [.d (.int i), .d (.int j)] = ret (.d (.int ((Nat.gcd i.natAbs j.natAbs : Nat) : Int))) := rfl
@[simp] theorem bInt_i (i : Int) : bInt [.d (.int i)] = ret (.d (.int i)) := rfl
@[simp] theorem bInt_b (b : Bool) : bInt [.d (.bl b)] = ret (.d (.int (if b then 1 else 0))) := rfl
@[simp] theorem bAbs_i (i : Int) : bAbs [.d (.int i)] = ret (.d (.int (if i < 0 then -i else i))) := rfl
@[simp] theorem bMax_i (i j : Int) : bMax [.d (.int i), .d (.int j)] = ret (.d (.int (if j > i then j else i))) := rfl
@[simp] theorem bMin_i (i j : Int) : bMin [.d (.int i), .d (.int j)] = ret (.d (.int (if j < i then j else i))) := rfl
@[simp] theorem bLen_l (l : List D) : bLen [.d (.lst l)] = ret (.d (.int l.length)) := rfl
@[simp] theorem bLen_t (l : List D) : bLen [.d (.tup l)] = ret (.d (.int l.length)) := rfl
@[simp] theorem bLen_s (l : List D) : bLen [.d (.scr l)] = ret (.d (.int l.length)) := rfl
@[simp] theorem bList_l (l : List D) : bList [.d (.lst l)] = ret (.d (.lst l)) := rfl
@[simp] theorem bList_t (l : List D) : bList [.d (.tup l)] = ret (.d (.lst l)) := rfl
@[simp] theorem bList_s (l : List D) : bList [.d (.scr l)] = ret (.d (.lst l)) := rfl
@[simp] theorem bListOwn_l (l : List D) : bListOwn [.d (.lst l)] S = some (.ok (.ptr S.length), S ++ [l]) := rfl
@[simp] theorem bListOwn_t (l : List D) : bListOwn [.d (.tup l)] S = some (.ok (.ptr S.length), S ++ [l]) := rfl
@[simp] theorem bListOwn_s (l : List D) : bListOwn [.d (.scr l)] S = some (.ok (.ptr S.length), S ++ [l]) := rfl
@[simp] theorem bTuple_t (l : List D) : bTuple [.d (.tup l)] = ret (.d (.tup l)) := rfl
@[simp] theorem bTuple_l (l : List D) : bTuple [.d (.lst l)] = ret (.d (.tup l)) := rfl
@[simp] theorem kit_ii : kitB "int" "int" = some true := by decide +kernel
@[simp] theorem kit_ib : kitB "int" "bool" = some false := by decide +kernel
@[simp] theorem kit_bi : kitB "bool" "int" = some true := by decide +kernel
@[simp] theorem kit_bb : kitB "bool" "bool" = some true := by decide +kernel
@[simp] theorem kit_tt : kitB "tuple" "tuple" = some true := by decide +kernel
@[simp] theorem bIsi_ii (i : Int) : bIsi [.d (.int i), .d (.ty "int")] = ret (.d (.bl true)) := by simp [bIsi, tyN]
@[simp] theorem bIsi_ib (i : Int) : bIsi [.d (.int i), .d (.ty "bool")] = ret (.d (.bl false)) := by simp [bIsi, tyN]
@[simp] theorem bIsi_tt (l : List D) : bIsi [.d (.tup l), .d (.ty "tuple")] = ret (.d (.bl true)) := by simp [bIsi, tyN]
theorem oIdx_l {l : List D} {i : Int} {d : D} (h : atI l i = some d) : oIdx (.d (.lst l)) (.d (.int i)) = ret (.d d) := by
  funext S; simp [oIdx, seqIx, seqOf, h]
theorem oIdx_t {l : List D} {i : Int} {d : D} (h : atI l i = some d) : oIdx (.d (.tup l)) (.d (.int i)) = ret (.d d) := by
  funext S; simp [oIdx, seqIx, seqOf, h]
@[simp] theorem oIdx_t0 (a : D) (l : List D) : oIdx (.d (.tup (a :: l))) (.d (.int 0)) = ret (.d a) := oIdx_t (by simp [atI, ixN])
@[simp] theorem oIdx_t1 (a b : D) (l : List D) : oIdx (.d (.tup (a :: b :: l))) (.d (.int 1)) = ret (.d b) := oIdx_t (by
  have : (1 : Int) < (l.length : Int) + 1 + 1 := by omega
  simp [atI, ixN, this])
theorem oIdx_k {l : List D} {i : Int} {d : D} (h : atI l i = some d) : oIdx (.d (.kt l)) (.d (.int i)) = ret (.d d) := by
  funext S; simp [oIdx, seqIx, h]
@[simp] theorem oIdx_k0 (a : D) (l : List D) : oIdx (.d (.kt (a :: l))) (.d (.int 0)) = ret (.d a) := oIdx_k (by simp [atI, ixN])
@[simp] theorem oIdx_k1 (a b : D) (l : List D) : oIdx (.d (.kt (a :: b :: l))) (.d (.int 1)) = ret (.d b) := oIdx_k (by
  have : (1 : Int) < (l.length : Int) + 1 + 1 := by omega
  simp [atI, ixN, this])
theorem oIdx_p {k : Nat} {l : List D} {i : Int} {d : D} (h : S[k]? = some l) (h2 : atI l i = some d) (hc : clsd l = true := by (first | rfl | exact clsd_ints _ | exact clsd_map (fun _ => rfl) _ | assumption | (exact clsd_append (clsd_ints _) (by rfl)) | (exact clsd_append (clsd_map (fun _ => rfl) _) (by rfl)))) : oIdx (.ptr k) (.d (.int i)) S = some (.ok (.d d), S) := by
  simp [oIdx, seqIx, seqOf, cellC_of h hc, h2]
@[simp] theorem mkTup_2 (a b : D) : mkTup [.d a, .d b] = ret (.d (.tup [a, b])) := rfl
@[simp] theorem mkLst_0 : mkLst [] = ret (.d (.lst [])) := rfl
@[simp] theorem mkLst_1 (a : D) : mkLst [.d a] = ret (.d (.lst [a])) := rfl
@[simp] theorem mkLst_2 (a b : D) : mkLst [.d a, .d b] = ret (.d (.lst [a, b])) := rfl
@[simp] theorem mkLst_4 (a b c d : D) : mkLst [.d a, .d b, .d c, .d d] = ret (.d (.lst [a, b, c, d])) := rfl
@[simp] theorem mkOwn_0 : mkOwn [] S = some (.ok (.ptr S.length), S ++ [[]]) := rfl
@[simp] theorem mkOwn_2 (a b : D) : mkOwn [.d a, .d b] S = some (.ok (.ptr S.length), S ++ [[a, b]]) := rfl
@[simp] theorem mkOwn_3 (a b c : D) : mkOwn [.d a, .d b, .d c] S = some (.ok (.ptr S.length), S ++ [[a, b, c]]) := rfl
theorem st_SeqN {F G : SM} {env' : Env} {S' : Store} (h : F env S = some (.nx env', S')) : sSeq F G env S = G env' S' := by unfold sSeq; rw [h]
theorem st_SeqR {F G : SM} {sv : SV} {S' : Store} (h : F env S = some (.rt sv, S')) : sSeq F G env S = some (.rt sv, S') := by unfold sSeq; rw [h]
theorem st_Set {i : Nat} {f : Env → M SV} {a : SV} {S' : Store} (h : f env S = some (.ok a, S')) : sSet i f env S = some (.nx (env.set i (some a)), S') := by
  unfold sSet lift; rw [h]
theorem st_Ret {f : Env → M SV} {a : SV} {S' : Store} (h : f env S = some (.ok a, S')) : sRet f env S = some (.rt a, S') := by
  unfold sRet lift; rw [h]
theorem st_If {t : Env → M Bool} {F G : SM} {b : Bool} {S' : Store} (h : t env S = some (.ok b, S')) : sIf t F G env S = if b then F env S' else G env S' := by
  unfold sIf lift; rw [h]; cases b <;> rfl
theorem st_IfT {t : Env → M Bool} {F G : SM} {S' : Store} (h : t env S = some (.ok true, S')) : sIf t F G env S = F env S' := by rw [st_If h, if_pos rfl]
theorem st_IfF {t : Env → M Bool} {F G : SM} {S' : Store} (h : t env S = some (.ok false, S')) : sIf t F G env S = G env S' := by rw [st_If h]; rfl
theorem st_For {t : Tg} {f : Env → M (List D × KK)} {F : SM} {ds : List D} {kk : KK} {S' : Store} (h : f env S = some (.ok (ds, kk), S')) : sFor t f F env S = forL t kk ds F ds env S' := by
  unfold sFor lift; rw [h]
theorem st_SetI {fo fi fe : Env → M SV} {x : D} {k : Nat} {n : Int} {l : List D} {j : Nat} {S1 S2 S3 : Store} (h1 : fe env S = some (.ok (.d x), S1)) (h2 : fo env S1 = some (.ok (.ptr k), S2)) (h3 : fi env S2 = some (.ok (.d (.int n)), S3))
    (h4 : S3[k]? = some l) (h5 : ixN l.length n = some j) : sSetI fo fi fe env S = some (.nx env, S3.set k (l.set j x)) := by
  unfold sSetI lift bnd
  rw [h1]; dsimp only; rw [h2]; dsimp only; rw [h3]; dsimp only [ret]; rw [h4]; dsimp only; rw [h5]
theorem st_App {fo fe : Env → M SV} {x : D} {k : Nat} {l : List D} {S1 S2 : Store} (h1 : fo env S = some (.ok (.ptr k), S1)) (h2 : fe env S1 = some (.ok (.d x), S2)) (h4 : S2[k]? = some l) (h5 : l.length < 16777216) :
    sApp fo fe env S = some (.nx env, S2.set k (l ++ [x])) := by
  unfold sApp lift bnd
  rw [h1]; dsimp only [asPtr, ret]; rw [h2]; dsimp only; rw [h4]; dsimp only; rw [if_pos (show l.length < lim from h5)]
theorem call_pure {m : Fn} {as : List SV} {x : D} (hn : noExc as = true) (h : m as = ret (.d x)) : callM asPure m as = ret (.d x) := by
  unfold callM; rw [if_pos hn, h]; rfl
theorem call_at {m : Fn} {as : List SV} {x : D} {S1 : Store} (hn : noExc as = true) (h : m as S = some (.ok (.d x), S1)) : callM asPure m as S = some (.ok (.d x), S1) := by
  unfold callM; rw [if_pos hn]; unfold bnd; rw [h]; rfl
theorem call_atP {m : Fn} {as : List SV} {x : D} {S1 : Store} (hn : noExc as = true) (h : m as S = some (.ok (.d x), S1)) : callM asOwn m as S = some (.ok (.d x), S1) := by
  unfold callM; rw [if_pos hn]; unfold bnd; rw [h]; rfl
theorem call_atF {m : Fn} {as : List SV} {x : List D} {S1 : Store} (hn : noExc as = true) (h : m as S = some (.ok (.fresh x), S1)) (hc : clsd x = true := by (first | rfl | exact clsd_ints _ | exact clsd_map (fun _ => rfl) _ | assumption | (exact clsd_append (clsd_ints _) (by rfl)) | (exact clsd_append (clsd_map (fun _ => rfl) _) (by rfl)))) : callM asPure m as S = some (.ok (.d (.lst x)), S1) := by
  unfold callM; rw [if_pos hn]; unfold bnd; rw [h]; dsimp only [asPure]; rw [if_pos hc]; rfl
theorem call_atO {m : Fn} {as : List SV} {x : List D} {S1 : Store} (hn : noExc as = true) (h : m as S = some (.ok (.fresh x), S1)) : callM asOwn m as S = some (.ok (.ptr S1.length), S1 ++ [x]) := by
  unfold callM; rw [if_pos hn]; unfold bnd; rw [h]; rfl
theorem call_er {m : Fn} {as : List SV} {c fs l} {S1 : Store} {cv} (hn : noExc as = true) (h : m as S = some (.err c fs l, S1)) : callM cv m as S = some (.err c fs l, S1) := by
  unfold callM; rw [if_pos hn]; unfold bnd; rw [h]
theorem fn_ret {np n : Nat} {body : SM} {as : List SV} {x : D} {S1 : Store} (hl : as.length = np) (h : body (as.map some ++ List.replicate (n - as.length) none) S = some (.rt (.d x), S1)) (hc : Cal S S1 := by (first | exact cal_refl _ | exact cal_app _ _ | exact cal_cons (calC_2 rfl) | exact cal_cons0 (calC_2 rfl) | exact cal_cons calC_ints | exact cal_cons0 calC_ints | (exact cal_cons (by assumption)) | (exact cal_cons0 (by assumption)))) : fnSem np n body as S = some (.ok (.d x), S1.take S.length) := by
  unfold fnSem; rw [if_pos hl, h]; dsimp only; rw [if_pos hc]
theorem fn_retP {np n : Nat} {body : SM} {as : List SV} {k : Nat} {x : List D} {S1 : Store} (hl : as.length = np) (h : body (as.map some ++ List.replicate (n - as.length) none) S = some (.rt (.ptr k), S1)) (hk : S.length ≤ k) (hx : S1[k]? = some x) (hc : Cal S S1 := by (first | exact cal_refl _ | exact cal_app _ _ | exact cal_cons (calC_2 rfl) | exact cal_cons0 (calC_2 rfl) | exact cal_cons calC_ints | exact cal_cons0 calC_ints | (exact cal_cons (by assumption)) | (exact cal_cons0 (by assumption)))) (hcl : clsd x = true := by (first | rfl | exact clsd_ints _ | exact clsd_map (fun _ => rfl) _ | assumption | (exact clsd_append (clsd_ints _) (by rfl)) | (exact clsd_append (clsd_map (fun _ => rfl) _) (by rfl)))) :
    fnSem np n body as S = some (.ok (.fresh x), S1.take S.length) := by
  unfold fnSem; rw [if_pos hl, h]; dsimp only; rw [if_pos hc, if_neg (by omega), hx]; dsimp only; rw [frzL_of hcl]
theorem fn_er {np n : Nat} {body : SM} {as : List SV} {c fs l e} {S1 : Store} (hl : as.length = np) (h : body (as.map some ++ List.replicate (n - as.length) none) S = some (.er c fs l e, S1)) (hc : Cal S S1 := by (first | exact cal_refl _ | exact cal_app _ _ | exact cal_cons (calC_2 rfl) | exact cal_cons0 (calC_2 rfl) | exact cal_cons calC_ints | exact cal_cons0 calC_ints | (exact cal_cons (by assumption)) | (exact cal_cons0 (by assumption)))) : fnSem np n body as S = some (.err c fs l, S1.take S.length) := by
  unfold fnSem; rw [if_pos hl, h]; dsimp only; rw [if_pos hc]
theorem fn_retE {np n : Nat} {body : SM} {as : List SV} {x : D} {S1 : Store} (hl : as.length = np) (h : body (as.map some ++ List.replicate (n - as.length) none) S = some (.rt (.d x), S1)) (hS : S1.length = S.length) (hc : Cal S S1 := by (first | exact cal_refl _ | exact cal_app _ _ | exact cal_cons (calC_2 rfl) | exact cal_cons0 (calC_2 rfl) | exact cal_cons calC_ints | exact cal_cons0 calC_ints | (exact cal_cons (by assumption)) | (exact cal_cons0 (by assumption)))) : fnSem np n body as S = some (.ok (.d x), S1) := by
  rw [fn_ret hl h hc, ← hS, List.take_length]
theorem for_nil {t : Tg} {kk : KK} {all : List D} {F : SM} : forL t kk all F [] env S = some (.nx env, S) := by unfold forL; rfl
theorem for_nx {t : Tg} {kk : KK} {all : List D} {F : SM} {d : D} {ds : List D} {env1 env2 : Env} {S2 : Store} (h1 : setT t d env = some env1) (h2 : F env1 S = some (.nx env2, S2)) (h3 : keepOk kk all S2) :
    forL t kk all F (d :: ds) env S = forL t kk all F ds env2 S2 := by
  conv => lhs; unfold forL
  rw [h1]; dsimp only; rw [h2]; dsimp only; rw [if_pos h3]
theorem wh_f {t : Env → M Bool} {F : SM} {n : Nat} {S1 : Store} (h : t env S = some (.ok false, S1)) : whL t F (n + 1) env S = some (.nx env, S1) := by
  unfold whL lift; rw [h]; rfl
theorem wh_t {t : Env → M Bool} {F : SM} {n : Nat} {S1 S2 : Store} {env2 : Env} (h : t env S = some (.ok true, S1)) (h2 : F env S1 = some (.nx env2, S2)) : whL t F (n + 1) env S = whL t F n env2 S2 := by
  conv => lhs; unfold whL lift
  rw [h]; dsimp only; rw [if_pos rfl, h2]
theorem st_Par {i j : Nat} {fa : Env → M (List SV)} {x y : SV} {S1 : Store} (h : fa env S = some (.ok [x, y], S1)) : sPar i j fa env S = some (.nx ((env.set i (some x)).set j (some y)), S1) := by
  unfold sPar lift; rw [h]
theorem lc_loop {t : Tg} {cond : Env → M Bool} {fe : Env → M SV} {all : List D} {k : Nat} (h : D → D) {S0 : Store} (hk : k = S0.length) : ∀ (ds acc : List D),
    (∀ d ∈ ds, ∃ env1, setT t d env = some env1 ∧ cond env1 = ret true ∧ fe env1 = ret (.d (h d))) → acc.length + ds.length ≤ 16777216 → lcL t none all cond fe k env ds (S0 ++ [acc]) = some (S0 ++ [acc ++ ds.map h])
  | [], acc, _, _ => by unfold lcL; simp
  | d :: ds, acc, hd, hl => by
    obtain ⟨env1, h1, h2, h3⟩ := hd d List.mem_cons_self
    unfold lcL
    rw [h1]; dsimp only; rw [h2]; dsimp only [ret]; rw [h3]; dsimp only [ret]
    have hg : (S0 ++ [acc])[k]? = some acc := by rw [hk]; simp
    have hlt : acc.length < lim := by simp only [List.length_cons] at hl; simp only [lim]; omega
    unfold lcNext
    rw [hg]; dsimp only; rw [if_pos hlt]; dsimp only
    rw [if_pos (show keepOk none all _ from trivial)]
    have hs : (S0 ++ [acc]).set k (acc ++ [h d]) = S0 ++ [acc ++ [h d]] := by rw [hk]; simp
    rw [hs, lc_loop h hk ds (acc ++ [h d]) (fun x hx => hd x (List.mem_cons_of_mem _ hx)) (by simp only [List.length_append, List.length_cons, List.length_nil] at hl ⊢; omega)]
    simp
theorem lc_pureO {ws : List Nat} {t : Tg} {f : Env → M (List D × KK)} {cond : Env → M Bool} {fe : Env → M SV} {ds : List D} {S1 : Store} (h : D → D) (hf : f env S = some (.ok (ds, none), S1))
    (hd : ∀ d ∈ ds, ∃ env1, setT t d (wipeE env ws) = some env1 ∧ cond env1 = ret true ∧ fe env1 = ret (.d (h d))) (hl : ds.length ≤ 16777216) (hcl : ∀ d, isOwn (h d) = false := by intro _; rfl) : eLcOwn ws t f cond fe env S = some (.ok (.ptr S1.length), S1 ++ [ds.map h]) := by
  unfold eLcOwn
  rw [bnd_at hf]
  dsimp only
  rw [lc_loop h rfl ds [] hd (by simpa using hl)]
  simp [cal_app, clsd_map hcl]
theorem plains_ints : ∀ ns : List Int, plains (ns.map D.int) = true
  | [] => rfl
  | n :: ns => by simp only [List.map_cons, plains, plain, Bool.true_and]; exact plains_ints ns
theorem toPys_ints : ∀ ns : List Int, toPys (ns.map D.int) = ns.map PyData.int
  | [] => rfl
  | n :: ns => by simp only [List.map_cons, toPys, toPy]; rw [toPys_ints ns]
theorem canLay_ints : ∀ ns : List Int, PyData.canLayAll0 (ns.map PyData.int) = true
  | [] => by simp [PyData.canLayAll0]
  | n :: ns => by simp only [List.map_cons, PyData.canLayAll0, PyData.canLay0, Bool.true_and]; exact canLay_ints ns
theorem depth_ints : ∀ ns : List Int, PyData.depthAll (ns.map PyData.int) = 0
  | [] => by simp [PyData.depthAll]
  | n :: ns => by simp only [List.map_cons, PyData.depthAll, PyData.depth]; rw [depth_ints ns]; rfl
theorem eqv_ints : ∀ ns ms : List Int, PyData.eqvAll (ns.map PyData.int) (ms.map PyData.int) = decide (ns = ms)
  | [], [] => by simp [PyData.eqvAll]
  | [], _ :: _ => by simp [PyData.eqvAll]
  | _ :: _, [] => by simp [PyData.eqvAll]
  | n :: ns, m :: ms => by
    simp only [List.map_cons, PyData.eqvAll, PyData.eqv]
    rw [eqv_ints ns ms]
    by_cases h : n = m
    · subst h; simp
    · simp [h]
theorem eqOk_ints (ns ms : List Int) : eqOk (.lst (ns.map D.int)) (.lst (ms.map D.int)) = true := by
  simp [eqOk, plain, plains_ints, toPy, toPys_ints, SeqAt.shaped, PyData.canLay0, canLay_ints, PyData.depth, depth_ints]
theorem eqOk_intsT (ns ms : List Int) : eqOk (.tup (ns.map D.int)) (.tup (ms.map D.int)) = true := by
  simp [eqOk, plain, plains_ints, toPy, toPys_ints, SeqAt.shaped, PyData.canLay0, canLay_ints, PyData.depth, depth_ints]
theorem eqD_ints (ns ms : List Int) : eqD (.lst (ns.map D.int)) (.lst (ms.map D.int)) = decide (ns = ms) := by
  simp [eqD, toPy, toPys_ints, PyData.eqv, eqv_ints]
theorem eqD_intsT (ns ms : List Int) : eqD (.tup (ns.map D.int)) (.tup (ms.map D.int)) = decide (ns = ms) := by
  simp [eqD, toPy, toPys_ints, PyData.eqv, eqv_ints]
end
end DL
namespace DL
open PySem L2
section
variable {X : Cx} {W : WG} {e a b c : Expr} {es : List Expr} {f g h : Env → M SV} {fa : Env → M (List SV)} {t : Env → M Bool} {F G : SM} {st : Stmt} {pos p : Pos} {x : Str}
def eCh (o o' : SV → SV → M SV) (f g h : Env → M SV) : Env → M SV := fun env => bnd (f env) fun x => bnd (g env) fun y => bnd (bnd (o x y) asB) fun k => if k then bnd (h env) fun z => o' y z else ret (.d (.bl false))
theorem tok_ch {r r' : R2} {o o' : SV → SV → M SV} {ta tb tc : TE} (hr : ROk X W r o) (hr' : ROk X W r' o') (ka : TOk X.K (gm X W) (relS X.K (gm X W)) W ta f) (kb : TOk X.K (gm X W) (relS X.K (gm X W)) W tb g) (kc : TOk X.K (gm X W) (relS X.K (gm X W)) W tc h) :
    TOk X.K (gm X W) (relS X.K (gm X W)) W (tChain r r' ta tb tc) (eCh o o' f g h) := by
  intro σ H A S env rr S' hS hE he Q hp
  rcases bnd_some he with ⟨x, S1, ef, q⟩ | ⟨c1, fs, l, ef, rfl⟩
  · refine ka σ H A S env _ S1 hS hE ef _ fun vx A1 H1 e1 s1 r1 => ?_
    have E1 := hE.mono e1
    rcases bnd_some q with ⟨y, S2, eg, q2⟩ | ⟨c1, fs, l, eg, rfl⟩
    · refine kb σ H1 A1 S1 env _ S2 s1 E1 eg _ fun vy A2 H2 e2 s2 r2 => ?_
      have E2 := E1.mono e2
      have e12 := e1.trans e2
      rcases bnd_some q2 with ⟨k, S3, eo, q3⟩ | ⟨c1, fs, l, eo, rfl⟩
      · rcases bnd_some eo with ⟨z, S4, eo1, eo2⟩ | ⟨_, _, _, _, w⟩
        · refine hr x y vx vy σ H2 A2 S2 _ S4 s2 (RepS.mono e2 r1) r2 eo1 _ fun vz A3 H3 e3 s3 r3 => ?_
          unfold asB at eo2
          split at eo2
          · rename_i bb
            cases eo2
            have r3' : Rep X.K X.mg A3 H3 (.bl k) vz := r3
            simp only [Rep] at r3'
            refine ⟨k, r3', ?_⟩
            cases k with
            | true =>
              rw [if_pos rfl] at q3 ⊢
              rcases bnd_some q3 with ⟨w, S5, eh, q4⟩ | ⟨c1, fs, l, eh, rfl⟩
              · refine kc σ H3 A3 S3 env _ S5 s3 (E2.mono e3) eh _ fun vw A4 H4 e4 s4 r4 => ?_
                exact hr' y w vy vw σ H4 A4 S5 _ S' s4 (RepS.mono (e3.trans e4) r2) r4 q4 _ (hp.mono ((e12.trans e3).trans e4))
              · exact kc σ H3 A3 S3 env _ _ s3 (E2.mono e3) eh _ (hp.mono (e12.trans e3))
            | false =>
              rw [if_neg Bool.false_ne_true] at q3 ⊢
              cases q3
              exact (hp.mono (e12.trans e3)).val s3 (show Rep X.K X.mg A3 H3 (.bl false) (.bl false) by simp only [Rep])
          · cases eo2
        · cases w
      · rcases bnd_some eo with ⟨z, S4, eo1, eo2⟩ | ⟨c2, fs2, l2, eo1, w⟩
        · unfold asB at eo2
          split at eo2
          · cases eo2
          · cases eo2
        · cases w
          exact hr x y vx vy σ H2 A2 S2 _ S' s2 (RepS.mono e2 r1) r2 eo1 _ (hp.mono e12)
    · exact kb σ H1 A1 S1 env _ _ s1 E1 eg _ (hp.mono e1)
  · exact ka σ H A S env _ _ hS hE ef _ hp
theorem de_ch {op op' : CmpOp} {r r' : R2} {o o' : SV → SV → M SV} (ho : OpR X (compareOp op) r) (ho' : OpR X (compareOp op') r') (hr : ROk X W r o) (hr' : ROk X W r' o') (ha : DE X W a f) (hb : DE X W b g) (hc : DE X W c h)
    (hm : lastMarks [op, op'] [b, c] = false := by with_unfolding_all rfl) : DE X W (.Compare a [op, op'] [b, c] pos) (eCh o o' f g h) := by
  obtain ⟨ta, pa, ka⟩ := ha
  obtain ⟨tb, pb, kb⟩ := hb
  obtain ⟨tc, pc, kc⟩ := hc
  exact ⟨_, pe_chain ho ho' pa pb pc hm, tok_ch hr hr' ka kb kc⟩
theorem dt_ch {op op' : CmpOp} {r r' : R2} {o o' : SV → SV → M SV} (ho : OpR X (compareOp op) r) (ho' : OpR X (compareOp op') r') (hr : ROk X W r o) (hr' : ROk X W r' o') (ha : DE X W a f) (hb : DE X W b g) (hc : DE X W c h)
    (hm : lastMarks [op, op'] [b, c] = false := by with_unfolding_all rfl) : DT X W (.Compare a [op, op'] [b, c] pos) (eTst (eCh o o' f g h)) := by
  obtain ⟨ta, pa, ka⟩ := ha
  obtain ⟨tb, pb, kb⟩ := hb
  obtain ⟨tc, pc, kc⟩ := hc
  exact ⟨_, pt_chain ho ho' pa pb pc hm, tok_B (tok_ch hr hr' ka kb kc)⟩
def bools : List D → Option (List Bool)
  | [] => some []
  | .bl b :: r => (bools r).map (b :: ·)
  | _ => none
def intsD : List D → Option (List Int)
  | [] => some []
  | .int b :: r => (intsD r).map (b :: ·)
  | _ => none
theorem bools_rep {K : PySem.W.Frag} {mg : Str → Option Value} {A : List Addr} {H : Hp} : ∀ {l : List D} {vs : List V} {bs : List Bool}, Reps K mg A H l vs → bools l = some bs → vs = bs.map V.bl
  | [], vs, bs, r, e => by
    cases e
    simp only [Reps] at r
    rw [r]
    rfl
  | d :: l, vs, bs, r, e => by
    simp only [Reps] at r
    obtain ⟨v, r', e1, h1, h2⟩ := r
    cases d with
    | bl b =>
      simp only [bools, Option.map_eq_some_iff] at e
      obtain ⟨bs', e2, e3⟩ := e
      subst e3
      simp only [Rep] at h1
      rw [e1, h1, bools_rep h2 e2]
      rfl
    | _ => cases e
theorem ints_rep {K : PySem.W.Frag} {mg : Str → Option Value} {A : List Addr} {H : Hp} : ∀ {l : List D} {vs : List V} {bs : List Int}, Reps K mg A H l vs → intsD l = some bs → vs = bs.map V.int
  | [], vs, bs, r, e => by
    cases e
    simp only [Reps] at r
    rw [r]
    rfl
  | d :: l, vs, bs, r, e => by
    simp only [Reps] at r
    obtain ⟨v, r', e1, h1, h2⟩ := r
    cases d with
    | int b =>
      simp only [intsD, Option.map_eq_some_iff] at e
      obtain ⟨bs', e2, e3⟩ := e
      subst e3
      simp only [Rep] at h1
      rw [e1, h1, ints_rep h2 e2]
      rfl
    | _ => cases e
/-- a fold over a list's data -/
def bFold {α : Type} (rd : List D → Option (List α)) (g : List α → D) : List SV → M SV
  | [x] => fun S => match items S x with
    | some l => match rd l with
      | some bs => some (.ok (.d (g bs)), S)
      | none => none
    | none => none
  | _ => stuck
def bAll := bFold bools fun bs => .bl (bs.all id)
def bAny := bFold bools fun bs => .bl (bs.any id)
def bSum : List SV → M SV
  | [.d (.tup l)] => match intsD l with
    | some ns => ret (.d (.int ns.sum))
    | none => stuck
  | xs => bFold intsD (fun ns => .int ns.sum) xs
theorem fold_step {α : Type} {rd : List D → Option (List α)} {gg : List α → D} {as : List SV} {vs : List V} {σ : St} {H : Hp} {A : List Addr} {S S' : Store} {rr : R SV} {Q : VK} (hS : Sta X.K (gm X W) A H S) (hx : RepSs X.K (gm X W) A H as vs) (he : bFold rd gg as S = some (rr, S')) (hp : Po X.K (gm X W) (relS X.K (gm X W)) W Q σ A H rr S') :
    ∃ p l ws bs, vs = [.ref p] ∧ H p = some (.lst ws) ∧ Reps X.K X.mg A H l ws ∧ rd l = some bs ∧ ∀ v, Rep X.K X.mg A H (gg bs) v → Q v H := by
  unfold bFold at he
  split at he
  · rename_i a
    obtain ⟨v, rfl, h1⟩ := reps1 hx
    rcases ea : items S a with _ | l
    · (try dsimp only at he); rw [ea] at he; cases he
    · (try dsimp only at he); rw [ea] at he
      dsimp only at he
      rcases eb : rd l with _ | bs
      · rw [eb] at he; cases he
      · rw [eb] at he
        cases he
        obtain ⟨p, ws, e1, h2, r1⟩ := items_rep hS h1 ea
        subst e1
        exact ⟨p, l, ws, bs, rfl, h2, r1, eb, fun v hv => hp.val hS hv⟩
  · cases he
theorem cok_all : COk X W (rAll X.K) bAll := by
  intro as vs σ H A S rr S' hS hx he Q hp
  obtain ⟨p, l, ws, bs, e1, h1, r1, eb, q⟩ := fold_step hS hx he hp
  exact ⟨p, bs, e1, by rw [← bools_rep r1 eb]; exact SqL.of h1, q _ (by simp only [Rep])⟩
theorem cok_any : COk X W (rAny X.K) bAny := by
  intro as vs σ H A S rr S' hS hx he Q hp
  obtain ⟨p, l, ws, bs, e1, h1, r1, eb, q⟩ := fold_step hS hx he hp
  exact ⟨p, bs, e1, by rw [← bools_rep r1 eb]; exact SqL.of h1, q _ (by simp only [Rep])⟩
/-- sum of a list or a tuple of ints -/
def rSumB (K : PySem.W.Frag) : List V → Hp → VK → Prop := fun vs H Q => ∃ (p : Addr) (ns : List Int), vs = [V.ref p] ∧ (SqL K H p (ns.map V.int) ∨ SqT K H p (ns.map V.int)) ∧ Q (.int ns.sum) H
theorem sum_tup {prog : Program} {w : World} {A : Around} {E : Value → Shared → Prop} {s : Shared} {l : Addr} {its : List Value} {ns : List Int} {Q : Value → Shared → Prop} (hh : A.handled = none) (hl : s.heap.IsTuple l its.toArray) (hi : PyProof.Rows.IntsAre its ns)
    (k : ∀ g tk t, (∀ b o, s.heap.get? b = some o → g.get? b = some o) → Q (.int ns.sum t) { s with heap := g, toks := tk }) : wpAny (model prog w) A (call (.builtin "sum") [.ref l]) Q E s := by
  obtain ⟨zs, ez⟩ := hi.allInts.items
  have en : numsOf (intItems zs).toList = ns := by rw [← ez]; exact hi.numsOf
  rw [nums_intItems] at en
  rw [ez] at hl
  have lt : l < s.heap.objs.size := by obtain ⟨_, q, _⟩ := hl; exact Heap.lt_size q
  refine call_sum_walkG (wpAny_pyIter_tuple hl ⟨s.heap.objs.size, _, _, _, _, _, numAt zs, rfl, Walks.tuple (A := A.in1) hh _ l (Nat.ne_of_lt lt) (intItems zs), ⟨⟨_, Heap.get?_push_size _ rfl, rfl, rfl⟩, Heap.IsTuple.push hl _⟩, fun b hb => ?_, fun _ _ => intItems_at, fun g tk t hk => ?_⟩)
  · show b < (s.heap.push _).objs.size
    rw [Heap.size_push]
    simp only [List.mem_cons, List.not_mem_nil, or_false] at hb
    rcases hb with rfl | rfl
    · exact Nat.lt_succ_self _
    · exact Nat.lt_succ_of_lt lt
  · have := k g tk t (fun b o e => hk b o (fun hm => by
      have e1 : b = s.heap.objs.size := by simpa using hm
      exact absurd (e1 ▸ Heap.lt_size e) (Nat.lt_irrefl _)) (Heap.get?_push_of_some _ e))
    have sz : (intItems zs).size = zs.size := by simp [intItems]
    rw [sz, preSum_eq, List.take_of_length_le (by simp), en]
    exact this
theorem cr_sumB {X : Cx} (hc : X.calm = true) : CallR X (.builtin "sum") (rSumB X.K) := by
  intro pn s σ H vs us Q I r h
  obtain ⟨p, ns, rfl, hs, q⟩ := h
  rw [Vals.ref1 r]
  rcases hs with hs | hs
  · obtain ⟨its, rv, pl, _⟩ := I.list hs
    exact sum_raw (I.ok.hd hc) pl.isList rv.ints fun g tk t hk => ⟨.int _, H, I.kept hk, ⟨_, rfl⟩, q⟩
  · obtain ⟨its, rv, pl, _⟩ := I.tuple hs
    exact sum_tup (I.ok.hd hc) (show s.heap.IsTuple p its.toArray from pl) rv.ints fun g tk t hk => ⟨.int _, H, I.kept hk, ⟨_, rfl⟩, q⟩
theorem cok_sum : COk X W (rSumB X.K) bSum := by
  intro as vs σ H A S rr S' hS hx he Q hp
  unfold bSum at he
  split at he
  · rename_i l
    obtain ⟨v, rfl, h1⟩ := reps1 hx
    rcases eb : intsD l with _ | ns
    · rw [eb] at he; cases he
    · rw [eb] at he
      cases he
      have h1 : Rep X.K X.mg A H (.tup l) v := h1
      simp only [Rep] at h1
      obtain ⟨a, ws, e1, n, h2, h3⟩ := h1
      exact ⟨a, ns, by rw [e1], .inr (by rw [← ints_rep h3 eb]; exact SqT.of h2), hp.val hS rfl⟩
  · obtain ⟨p, l, ws, bs, e1, h1, r1, eb, q⟩ := fold_step hS hx he hp
    exact ⟨p, bs, e1, .inl (by rw [← ints_rep r1 eb]; exact SqL.of h1), q _ (by simp only [Rep])⟩
structure Err0 (K : PySem.W.Frag) (mg : Str → Option Value) (x : Str) (C : Addr) : Prop where
  gC : mg x = some (.ref C)
  ex : PySem.W.excIn K C [.type "ValueError", .type "Exception", .type "BaseException", .type "object"] "ValueError.__new__" = true
  kC : PySem.W.keepIn K (.ref C) = true
  eC : PySem.W.subIn K (.ref C) (.type "BaseException") = some true
  tC : PySem.W.typeIn K (.ref C) = some (.type "type")
theorem pmk_own0 {C : Addr} (T : Err0 X.K X.mg x C) (hg : Gl X x) (hdb : (x == ("__debug__" : Str)) = false := by decide) : L2N.PMk X (.Call (.Name x p) [] [] pos) (fun _ H Q => Q (.ref C) none H) := by
  rintro ps0 s0 σ0 H0 Q0 I0 h0
  refine wpAny_Call_Name_kw
    (L2.ld_glob I0 hg T.gC ?_ hdb)
  refine PySem.W.callWith_K0 I0.kIn T.kC ?_
  show wpAny _ _ (call (.ref C) []) _ _ _
  obtain ⟨bm, N, nm, qn, bs, hdct, sn, sub, ab, col, dd, k0, k1, k2, k3, k5, mN, hC, hN, hni, TT⟩ := exc_obj I0.kIn T.ex
  exact wpAny_call_exc_subT F.excBase_ValueError TT hC hN hni (fun h' e hm => L2N.mk_of I0 hm (raises_own T.eC T.tC) h0 (I0.hok.gone hm.new)) (Nat.zero_le _)
def sRaise0 (c : Str) : SM := fun env S => some (.er c [] [] env, S)
theorem ds_raise0 {C : Addr} {pos2 : Pos} (hc : X.calm = true) (tk : L2N.Takes X W.w) (T : Err0 X.K X.mg x C) (hg : Gl X x) (hdb : (x == ("__debug__" : Str)) = false := by decide) : DS X W (.Raise (some (.Call (.Name x p) [] [] pos)) none pos2) (sRaise0 x) :=
  ⟨_, L2N.ps_raise hc tk (pmk_own0 T hg hdb), fun σ H A S env o S' hS hE he Dn hp => by
    cases he
    exact hp C none σ A H T.gC (Ext.refl A H) hS hE (.inl ⟨rfl, rfl⟩)⟩
theorem dg_tup {ts : List Expr} {is : List Nat} {k : Nat} (hc : X.calm = true) (hgs : DGs X ts is) (hn : (assignEach ts X.env).length = is.length := by rfl) (hst : (assignEach ts X.env).findIdx? (·.1) = none := by rfl) : DG X (.Tuple ts k pos) (.many is) := pg_tup hc hgs hn hst
def rAddT (K : PySem.W.Frag) : R2 := fun x y H Q => rAddAll x y H Q ∨ rCatA K x y H Q
theorem op_addT : OpR X (binaryOp .Add) (rAddT X.K) := op_addAll.or op_catA
def oAddT (x y : SV) : M SV := match x, y with
  | .d (.tup l), .d (.tup m) => if l.length + m.length ≤ lim then ret (.d (.tup (l ++ m))) else stuck
  | x, y => oAdd x y
theorem rok_addT : ROk X W (rAddT X.K) oAddT := by
  intro a b x y σ H A S rr S' hS hx hy he Q hp
  unfold oAddT at he
  split at he
  · rename_i l m
    by_cases c : l.length + m.length ≤ lim
    · rw [if_pos c] at he
      cases he
      have h1 : Rep X.K X.mg A H (.tup l) x := hx
      have h2 : Rep X.K X.mg A H (.tup m) y := hy
      simp only [Rep] at h1 h2
      obtain ⟨p, vs, e1, n1, g1, r1⟩ := h1
      obtain ⟨q, ws, e2, n2, g2, r2⟩ := h2
      refine .inr ⟨p, q, vs, ws, e1, e2, SqT.of g1, SqT.of g2, by rw [← r1.length, ← r2.length]; exact lim_ok c, fun h => ?_, fun h h' => ?_, fun h h' z hz => ?_⟩
      · have : l = [] := by
          have := r1.length
          rw [h] at this
          exact List.length_eq_zero_iff.mp this
        subst this
        rw [← e2]
        exact hp.val hS hy
      · have : m = [] := by
          have := r2.length
          rw [h'] at this
          exact List.length_eq_zero_iff.mp this
        subst this
        rw [List.append_nil] at hp
        rw [← e1]
        exact hp.val hS hx
      · refine hp.new hS hz ?_
        simp only [Rep]
        exact ⟨z, _, rfl, hS.free hz, upd_same, Reps.mono (Ext.new hz) _ _ (r1.append r2)⟩
    · rw [if_neg c] at he; cases he
  · exact .inl (rok_add a b x y σ H A S rr S' hS hx hy he Q hp)
def tysOf : List D → Option (List String)
  | [] => some []
  | .ty n :: r => (tysOf r).map (n :: ·)
  | _ => none
def kitS (t : String) : List String → Option Bool
  | [] => some false
  | n :: r => match kitB t n with
    | some true => some true
    | some false => kitS t r
    | none => none
def bIsiT : List SV → M SV
  | [x, .d (.tup l)] => match tyN x, tysOf l with
    | some t, some ns => match kitS t ns with
      | some b => ret (.d (.bl b))
      | none => stuck
    | _, _ => stuck
  | _ => stuck
theorem tys_rep {K : PySem.W.Frag} {mg : Str → Option Value} {A : List Addr} {H : Hp} : ∀ {l : List D} {vs : List V} {ns : List String}, Reps K mg A H l vs → tysOf l = some ns → Paired ClsV vs (ns.map Value.type)
  | [], vs, ns, r, e => by
    cases e
    simp only [Reps] at r
    subst r
    exact .nil
  | d :: l, vs, ns, r, e => by
    simp only [Reps] at r
    obtain ⟨v, r', e1, h1, h2⟩ := r
    cases d with
    | ty n =>
      simp only [tysOf, Option.map_eq_some_iff] at e
      obtain ⟨ns', e2, e3⟩ := e
      subst e3
      simp only [Rep] at h1
      rw [e1, h1]
      exact .cons (.ty n) (tys_rep h2 e2)
    | _ => cases e
theorem kitS_any {K : PySem.W.Frag} {t : String} : ∀ {ns : List String} {b : Bool}, kitS t ns = some b → PySem.W.kitAny K (.type t) (ns.map Value.type) = some b
  | [], b, e => by cases e; rfl
  | n :: ns, b, e => by
    unfold kitS at e
    rcases ek : kitB t n with _ | _ | _
    · rw [ek] at e; cases e
    · rw [ek] at e
      exact kitAny_cons (kit_ty ek) (fun _ => kitS_any e) (fun h => Bool.noConfusion h)
    · rw [ek] at e
      cases e
      exact kitAny_cons (kit_ty ek) (fun h => Bool.noConfusion h) (fun _ => rfl)
theorem cok_isiT : COk X W (rIsiT X.K) bIsiT := by
  intro as vs σ H A S rr S' hS hx he Q hp
  unfold bIsiT at he
  split at he
  · rename_i a l
    obtain ⟨v, u, rfl, h1, h2⟩ := reps2 hx
    have h2 : Rep X.K X.mg A H (.tup l) u := h2
    simp only [Rep] at h2
    obtain ⟨p, ws, e1, _, g1, r1⟩ := h2
    subst e1
    rcases ea : tyN a with _ | t
    · rw [ea] at he; cases he
    · rcases eb : tysOf l with _ | ns
      · rw [ea, eb] at he; cases he
      · rw [ea, eb] at he
        dsimp only at he
        rcases ek : kitS t ns with _ | b
        · rw [ek] at he; cases he
        · rw [ek] at he
          cases he
          exact ⟨v, p, ws, .type t, _, b, rfl, g1, tys_rep r1 eb, tyN_rep hS h1 ea, kitS_any ek, hp.val hS (show Rep X.K X.mg A H (.bl _) _ by simp only [Rep])⟩
  · cases he
def DP (X : Cx) (W : WG) (e : Option Expr) (f : Env → M (Option Int)) : Prop := ∃ t : TO, PO X e t ∧ TOk X.K (gm X W) (fun _ _ a b => a = b) W t f
def pNone : Env → M (Option Int) := fun _ => ret none
def pSome (f : Env → M SV) : Env → M (Option Int) := fun env => bnd (f env) fun x => match x with
  | .d (.int i) => ret (some i)
  | _ => stuck
theorem dp_none : DP X W none pNone := ⟨_, po_none, fun σ H A S env r S' hS hE he Q hp => by
  cases he
  exact hp.val hS rfl⟩
theorem dp_some (h : DE X W e f) : DP X W (some e) (pSome f) := by
  obtain ⟨te, pe, ke⟩ := h
  refine ⟨_, po_some pe, tbind (rel := relS X.K (gm X W)) (rel2 := fun _ _ a b => a = b) (g := fun _ x => match x with
    | .d (.int i) => ret (some i)
    | _ => stuck) (tk := fun v σ H Q => ∃ i, v = .int i ∧ Q (some i) H) ke fun a v σ H A S env r S' hS hE hx he Q hp => ?_⟩
  split at he
  · rename_i i
    cases he
    have hx : Rep X.K X.mg A H (.int i) v := hx
    simp only [Rep] at hx
    exact ⟨i, hx, hp.val hS rfl⟩
  · cases he
def cutD (l : List D) (lo hi : Option Int) : List D := (l.drop (HT.sIx l.length 0 lo)).take (HT.sIx l.length l.length hi - HT.sIx l.length 0 lo)
theorem reps_take {K : PySem.W.Frag} {mg : Str → Option Value} {A : List Addr} {H : Hp} : ∀ (n : Nat) {l : List D} {vs : List V}, Reps K mg A H l vs → Reps K mg A H (l.take n) (vs.take n)
  | 0, l, vs, _ => by simp only [List.take_zero, Reps]
  | n + 1, [], vs, h => by
    simp only [Reps] at h
    subst h
    simp only [List.take_nil, Reps]
  | n + 1, d :: l, vs, h => by
    simp only [Reps] at h
    obtain ⟨v, r, e, h1, h2⟩ := h
    subst e
    simp only [List.take_succ_cons, Reps]
    exact ⟨v, _, rfl, h1, reps_take n h2⟩
theorem reps_drop {K : PySem.W.Frag} {mg : Str → Option Value} {A : List Addr} {H : Hp} : ∀ (n : Nat) {l : List D} {vs : List V}, Reps K mg A H l vs → Reps K mg A H (l.drop n) (vs.drop n)
  | 0, l, vs, h => h
  | n + 1, [], vs, h => by
    simp only [Reps] at h
    subst h
    simp only [List.drop_nil, Reps]
  | n + 1, d :: l, vs, h => by
    simp only [Reps] at h
    obtain ⟨v, r, e, h1, h2⟩ := h
    subst e
    exact reps_drop n h2
theorem cut_rep {K : PySem.W.Frag} {mg : Str → Option Value} {A : List Addr} {H : Hp} {l : List D} {vs : List V} {lo hi : Option Int} (h : Reps K mg A H l vs) : Reps K mg A H (cutD l lo hi) (cutV vs lo hi) := by
  have e := h.length
  have z : cutV vs lo hi = (vs.drop (HT.sIx vs.length 0 lo)).take (HT.sIx vs.length vs.length hi - HT.sIx vs.length 0 lo) := rfl
  rw [z, ← e]
  exact reps_take _ (reps_drop _ h)
theorem cut_whole {l : List D} {lo hi : Option Int} (h : HT.sIx l.length 0 lo = 0 ∧ HT.sIx l.length l.length hi = l.length) : cutD l lo hi = l := by
  unfold cutD
  rw [h.1, h.2]
  simp
def oSl (x : SV) (lo hi : Option Int) : M SV := match x with
  | .d (.tup l) => ret (.d (.tup (cutD l lo hi)))
  | x => fun S => match items S x with
    | some l => some (.ok (.d (.lst (cutD l lo hi))), S)
    | none => none
def eSl (f : Env → M SV) (lo hi : Env → M (Option Int)) : Env → M SV := fun env => bnd (f env) fun x => bnd (lo env) fun l => bnd (hi env) fun h => oSl x l h
theorem de_slice {lo hi : Option Expr} {fl fh : Env → M (Option Int)} {p2 : Pos} (ha : DE X W e f) (hl : DP X W lo fl) (hh : DP X W hi fh) : DE X W (.Subscript e (.Slice lo hi none p2) pos) (eSl f fl fh) := by
  obtain ⟨te, pe, ke⟩ := ha
  obtain ⟨tl, pl, kl⟩ := hl
  obtain ⟨th, ph, kh⟩ := hh
  refine ⟨_, pe_slice (sl_list.or sl_tupA) pe pl ph, ?_⟩
  intro σ H A S env rr S' hS hE he Q hp
  rcases bnd_some he with ⟨x, S1, ef, q⟩ | ⟨c1, fs, l, ef, rfl⟩
  · refine ke σ H A S env _ S1 hS hE ef _ fun vx A1 H1 e1 s1 r1 => ?_
    have E1 := hE.mono e1
    rcases bnd_some q with ⟨y, S2, eg, q2⟩ | ⟨c1, fs, l, eg, rfl⟩
    · refine kl σ H1 A1 S1 env _ S2 s1 E1 eg _ fun vy A2 H2 e2 s2 r2 => ?_
      cases (show y = vy from r2)
      have E2 := E1.mono e2
      rcases bnd_some q2 with ⟨z, S3, eh, q3⟩ | ⟨c1, fs, l, eh, rfl⟩
      · refine kh σ H2 A2 S2 env _ S3 s2 E2 eh _ fun vz A3 H3 e3 s3 r3 => ?_
        cases (show z = vz from r3)
        have p3 := hp.mono ((e1.trans e2).trans e3)
        have rx := RepS.mono (e2.trans e3) r1
        unfold oSl at q3
        split at q3
        · rename_i l
          cases q3
          have h1 : Rep X.K X.mg A3 H3 (.tup l) vx := rx
          simp only [Rep] at h1
          obtain ⟨p, ws, e4, n, g1, r4⟩ := h1
          refine .inr ⟨p, ws, e4, SqT.of g1, fun hw => ?_, fun hw zz hz => ?_⟩
          · rw [← e4]
            have : cutD l y z = l := cut_whole (by rw [r4.length]; exact hw)
            rw [this] at p3
            exact p3.val s3 rx
          · refine p3.new s3 hz ?_
            simp only [Rep]
            exact ⟨zz, _, rfl, s3.free hz, upd_same, Reps.mono (Ext.new hz) _ _ (cut_rep r4)⟩
        · rcases ei : items S3 x with _ | l
          · (try dsimp only at q3); rw [ei] at q3; cases q3
          · (try dsimp only at q3); rw [ei] at q3
            cases q3
            obtain ⟨p, ws, e4, g1, r4⟩ := items_rep s3 rx ei
            refine .inl ⟨p, ws, e4, SqL.of g1, fun zz hz => p3.new s3 hz ?_⟩
            simp only [Rep]
            exact ⟨zz, _, rfl, s3.free hz, upd_same, Reps.mono (Ext.new hz) _ _ (cut_rep r4)⟩
      · exact kh σ H2 A2 S2 env _ _ s2 E2 eh _ (hp.mono (e1.trans e2))
    · exact kl σ H1 A1 S1 env _ _ s1 E1 eg _ (hp.mono e1)
  · exact ke σ H A S env _ _ hS hE ef _ hp
end
end DL
namespace DL
open PySem L2
def insOf (S : Store) : SV → Option (Str × List Str × List D)
  | .d (.ins c fs l) => some (c, fs, l)
  | .obj k => match S[k]? with
    | some [.ins c fs l] => some (c, fs, l)
    | _ => none
  | _ => none
/-- which class has which field -/
structure FldT (K : PySem.W.Frag) (mg : Str → Option Value) (ok : Str → Str → Bool) : Prop where
  of : ∀ c f C, ok c f = true → mg c = some (.ref C) → Cls K C ∧ NoAttr K C f
theorem OwnR.ins {K : PySem.W.Frag} {mg : Str → Option Value} {A : List Addr} {H : Hp} {a : Addr} {ds : List D} (h : OwnR K mg A H a ds) (h0 : ∃ C dx fs, H a = some (.ins C dx fs)) :
    ∃ c fs l C dx vs, ds = [.ins c fs l] ∧ mg c = some (.ref C) ∧ H a = some (.ins C dx (fs.zip vs)) ∧ fs.length = vs.length ∧ RepFs K mg A H l vs := by
  obtain ⟨C, dx, fs, h0⟩ := h0
  rcases h with ⟨vs, h, _⟩ | h | ⟨ks, l, vs, h1, h, _⟩ | ⟨ks, l, vs, h1, h, _⟩
  · rw [h] at h0
    cases h0
  · exact h
  · rw [h] at h0
    cases h0
  · rw [h] at h0
    cases h0
section
variable {K : PySem.W.Frag} {mg : Gm} {A : List Addr} {H : Hp} {S : Store}
theorem ins_rep (hS : Sta K mg A H S) {sv : SV} {v : V} {c : Str} {fs : List Str} {l : List D} (h : RepS K mg A H sv v) (e : insOf S sv = some (c, fs, l)) :
    ∃ a C dx vs, v = .ref a ∧ mg.m c = some (.ref C) ∧ H a = some (.ins C dx (fs.zip vs)) ∧ fs.length = vs.length ∧ RepFs K mg.m A H l vs := by
  unfold insOf at e
  split at e
  · cases e
    have h1 : Rep K mg.m A H (.ins c fs l) v := h
    simp only [Rep] at h1
    obtain ⟨a, C, dx, vs, e1, _, h2, h3, h4, h5⟩ := h1
    exact ⟨a, C, dx, vs, e1, h2, h3, h4, .of h5⟩
  · rename_i k
    split at e
    · rename_i c' fs' l' q
      cases e
      obtain ⟨a, h1, h2, h0⟩ := h
      obtain ⟨c2, fs2, l2, C, dx, vs, h3, h4, h5, h6, h7⟩ := (hS.at' k a _ h1 q).ins h0
      cases h3
      exact ⟨a, C, dx, vs, h2, h4, h5, h6, h7⟩
    · cases e
  · cases e
end
theorem lookF_rep {K : PySem.W.Frag} {mg : Str → Option Value} {A : List Addr} {H : Hp} {fld : Str} : ∀ {fs : List Str} {l : List D} {vs : List V} {d : D}, RepFs K mg A H l vs → lookD fld fs l = some d → ∃ v, (fs.zip vs).lookup fld = some v ∧ RepF K mg A H d v
  | [], l, vs, d, h, e => by cases l <;> cases e
  | f :: fs, [], vs, d, h, e => by cases e
  | f :: fs, x :: l, vs, d, ⟨v, r, e1, h1, h2⟩, e => by
    subst e1
    unfold lookD at e
    by_cases hf : fld = f
    · rw [if_pos hf] at e
      cases e
      exact ⟨v, by simp [List.lookup, hf], h1⟩
    · rw [if_neg hf] at e
      obtain ⟨u, h3, h4⟩ := lookF_rep h2 e
      exact ⟨u, by simp only [List.zip_cons_cons, List.lookup]; rw [beq_eq_false_iff_ne.mpr hf]; exact h3, h4⟩
def oFld (ok : Str → Str → Bool) (f : Str) (x : SV) : M SV := fun S => match insOf S x with
  | some (c, fs, l) => if ok c f = true then match lookD f fs l with
      | some (.own j) => some (.ok (.ptr j), S)
      | some d => some (.ok (.d d), S)
      | none => none
    else none
  | none => none
section
variable {X : Cx} {W : WG} {e o value : Expr} {es : List Expr} {f fo fe : Env → M SV} {fa : Env → M (List SV)} {pos pos' p : Pos} {fld x : Str} {ok : Str → Str → Bool}
theorem de_fld (T : FldT X.K X.mg ok) (he : DE X W e f) (hb : attributeBase e fld X.env (eval e X.env) = eval e X.env := by rfl) : DE X W (.Attribute e fld pos) (eUn (oFld ok fld) f) := by
  obtain ⟨te, pe, ke⟩ := he
  refine ⟨_, pe_fld pe hb, tbind (rel := relS X.K (gm X W)) (rel2 := relS X.K (gm X W)) (g := fun _ a => oFld ok fld a) (tk := fun x _ H1 Q => ∃ a C dx fs v, x = .ref a ∧ H1 a = some (.ins C dx fs) ∧ Cls X.K C ∧ NoAttr X.K C fld ∧ fs.lookup fld = some v ∧ Q v H1) ke fun a v σ H A S env r S' hS hE hx he Q hp => ?_⟩
  unfold oFld at he
  rcases ei : insOf S a with _ | ⟨c, fs, l⟩
  · rw [ei] at he; cases he
  · rw [ei] at he
    dsimp only at he
    by_cases hc : ok c fld = true
    · rw [if_pos hc] at he
      rcases el : lookD fld fs l with _ | d
      · rw [el] at he; cases he
      · rw [el] at he
        obtain ⟨q, C, dx, vs, e1, h2, h3, h4, h5⟩ := ins_rep hS hx ei
        obtain ⟨u, h6, h7⟩ := lookF_rep h5 el
        obtain ⟨t1, t2⟩ := T.of c fld C hc h2
        cases d <;> cases he <;> exact ⟨q, C, dx, _, u, e1, h3, t1, t2, h6, hp.val hS h7⟩
    · rw [if_neg hc] at he; cases he
/-- o.f = e -/
def putD (f : Str) (x : D) : List Str → List D → List Str × List D
  | g :: fs, y :: l => if g = f then (g :: fs, x :: l) else (g :: (putD f x fs l).1, y :: (putD f x fs l).2)
  | fs, l => (fs ++ [f], l ++ [x])
theorem putD_rep {K : PySem.W.Frag} {mg : Str → Option Value} {A : List Addr} {H : Hp} {f : Str} {x : D} {v : V} (rx : RepF K mg A H x v) : ∀ {fs : List Str} {l : List D} {vs : List V}, fs.length = vs.length → RepFs K mg A H l vs →
    ∃ ws, putF f v (fs.zip vs) = (putD f x fs l).1.zip ws ∧ (putD f x fs l).1.length = ws.length ∧ RepFs K mg A H (putD f x fs l).2 ws
  | [], [], vs, h, r => by
    cases (show vs = [] from r)
    exact ⟨[v], rfl, rfl, ⟨v, [], rfl, rx, rfl⟩⟩
  | [], y :: l, vs, h, ⟨_, _, e, _⟩ => by
    subst e
    cases h
  | g :: fs, [], vs, h, r => by
    cases (show vs = [] from r)
    cases h
  | g :: fs, y :: l, vs, h, ⟨u, r', e, h1, h2⟩ => by
    subst e
    obtain ⟨ws, e1, e2, e3⟩ := putD_rep rx (fs := fs) (l := l) (by simpa using h) h2
    by_cases hg : g = f
    · refine ⟨v :: r', ?_, ?_, ?_⟩
      · show (if g = f then (g, v) :: fs.zip r' else (g, u) :: putF f v (fs.zip r')) = _
        rw [if_pos hg]
        simp only [putD, if_pos hg]
        rfl
      · simp only [putD, if_pos hg]
        simpa using h
      · simp only [putD, if_pos hg]
        exact ⟨v, r', rfl, rx, h2⟩
    · refine ⟨u :: ws, ?_, ?_, ?_⟩
      · show (if g = f then (g, v) :: fs.zip r' else (g, u) :: putF f v (fs.zip r')) = _
        rw [if_neg hg, e1]
        simp only [putD, if_neg hg]
        rfl
      · simp only [putD, if_neg hg, List.length_cons, e2]
      · simp only [putD, if_neg hg]
        exact ⟨u, ws, rfl, h1, e3⟩
def sSetF (ok : Str → Str → Bool) (fld : Str) (fo fe : Env → M SV) : SM := fun env => lift env (bnd (fe env) fun v => bnd (fo env) fun o => ret (v, o)) fun q S => match q with
  | (v, .obj k) => match fldD v with
    | some x => match S[k]? with
      | some [.ins c fs l] => if ok c fld = true ∧ fs.length < 1000 then some (.nx env, S.set k [.ins c (putD fld x fs l).1 (putD fld x fs l).2]) else none
      | _ => none
    | none => none
  | _ => none
theorem ds_setF (T : FldT X.K X.mg ok) (he : DE X W value fe) (ho : DE X W o fo) (hs : swapsWith value (some (.Attribute o fld pos')) pos.line X.env = pure false := by rfl) : DS X W (.Assign [.Attribute o fld pos'] value pos) (sSetF ok fld fo fe) := by
  obtain ⟨te, pe, ke⟩ := he
  obtain ⟨to, po, ko⟩ := ho
  refine ⟨_, ps_fld po pe hs, ?_⟩
  intro σ H A S env o S' hS hE he Dn hp
  rcases lift_some he with ⟨⟨v, ov⟩, S1, ef, q⟩ | ⟨c, fs, l, ef, rfl⟩
  · rcases bnd_some ef with ⟨v1, S2, ef1, ef2⟩ | ⟨_, _, _, _, z⟩
    · refine ke σ H A S env _ S2 hS hE ef1 _ fun vv A1 H1 e1 s1 r1 => ?_
      rcases bnd_some ef2 with ⟨o1, S3, ef3, ef4⟩ | ⟨_, _, _, _, z⟩
      · refine ko σ H1 A1 S2 env _ S3 s1 (hE.mono e1) ef3 _ fun oo A2 H2 e2 s2 r2 => ?_
        cases ef4
        split at q
        · rename_i v' k q0
          cases q0
          rcases ex : fldD v with _ | x
          · rw [ex] at q; cases q
          rw [ex] at q
          dsimp only at q
          split at q
          · rename_i c fs l eS
            by_cases hc : ok c fld = true ∧ fs.length < 1000
            · rw [if_pos hc] at q
              cases q
              obtain ⟨aa, h1, h2, h0⟩ := r2
              obtain ⟨c2, fs2, l2, C, dx, vs, h3, h4, h5, h6, h7⟩ := (s2.at' k aa _ h1 eS).ins h0
              cases h3
              have rx : RepF X.K X.mg A2 H2 x vv := fldD_rep (RepS.mono e2 r1) ex
              obtain ⟨t1, t2⟩ := T.of c fld C hc.1 h4
              obtain ⟨ws, w1, w2, w3⟩ := putD_rep (f := fld) rx h6 h7
              have ee : Ext A2 H2 A2 (upd H2 aa (.ins C dx (putF fld vv (fs.zip vs)))) := Ext.setI (List.mem_of_getElem? h1) h5
              obtain ⟨s4, e4⟩ := s2.set' (ds := [.ins c (putD fld x fs l).1 (putD fld x fs l).2]) h1 ee (.inr (.inl ⟨c, _, _, C, dx, ws, rfl, h4, by rw [upd_same, w1], w2, RepFs.mono ee w3⟩))
              refine ⟨aa, C, dx, _, h2, h5, t1, t2, ?_, hp σ A2 _ ((e1.trans e2).trans e4) s4 (((hE.mono e1).mono e2).mono e4)⟩
              rw [List.length_zip, ← h6, Nat.min_self]
              exact hc.2
            · rw [if_neg hc] at q; cases q
          · cases q
        · cases q
      · cases z
    · cases z
  · rcases bnd_some ef with ⟨v1, S2, ef1, ef2⟩ | ⟨c', fs', l', ef1, z⟩
    · refine ke σ H A S env _ S2 hS hE ef1 _ fun vv A1 H1 e1 s1 r1 => ?_
      rcases bnd_some ef2 with ⟨o1, S3, ef3, ef4⟩ | ⟨c', fs', l', ef3, z⟩
      · cases ef4
      · cases z
        exact ko σ H1 A1 S2 env _ _ s1 (hE.mono e1) ef3 _ fun C dd A3 H3 hc e s r => hp C dd σ A3 H3 hc (e1.trans e) s ((hE.mono e1).mono e) r
    · cases z
      exact ke σ H A S env _ _ hS hE ef1 _ fun C dd A' H' hc e s r => hp C dd σ A' H' hc e s (hE.mono e) r
open Classical in
noncomputable def mkM (c : Str) (m : Fn) (as : List SV) : M SV := fun S => if noExc as = true then match m (.obj S.length :: as) (S ++ [[.ins c [] []]]) with
  | some (.ok (.d .non), S') => match S'[S.length]? with
    | some [.ins c' fs l] => if l.any isOwn = false ∧ Cal S S' then some (.ok (.d (.ins c' fs l)), S'.take S.length) else none
    | _ => none
  | some (.err e fs l, S') => if Cal S S' then some (.err e fs l, S'.take S.length) else none
  | _ => none else none
theorem run_makeD {CX : CXT} {k : Nat} {f C : Addr} {fd : FuncData} {ps : List Str} {sp : Sp} {E : St → XK} {pins : List (Addr × Obj)} {σ : St} {H : Hp} {s : Shared} {Q : VK} {us : List Value} {vs : List V}
    (M : Mk X.K C f) (F : FnOk X.prog X.w X.K X.mg X.base CX k f fd ps sp) (hr : Room (k + 1) X.A)
    (hb : Binds X.K fd ps []) (hx : PassesAt CX X σ (E σ)) (I : Inv X pins σ H s) (r : Vals vs us)
    (h : ∀ x dx, H x = none → H dx = none → dx ≠ x → sp (.ref x :: vs) (upd (upd H dx (.own x)) x (.ins C dx [])) (fun v H2 => v = .non ∧ Q (.ref x) H2) (E σ)) :
    wpAny (model X.prog X.w) X.A (call (.ref C) us) (EP X pins σ Q) X.xe s := by
  have f1 : H (s.heap.objs.size + 1) = none := I.hok.fresh (Nat.le_succ _)
  have f2 : H s.heap.objs.size = none := I.hok.fresh (Nat.le_refl _)
  have go := h _ _ f1 f2 (Nat.ne_of_lt (Nat.lt_succ_self _))
  have J := Inv.made (C := C) I
  have rr : Vals (V.ref (s.heap.objs.size + 1) :: vs) (Value.ref (s.heap.objs.size + 1) :: us) := .cons rfl r
  have hl : (Value.ref (s.heap.objs.size + 1) :: us).length = ps.length := rr.length.symm.trans (F.len _ _ _ _ go)
  have bb := hb _ (Value.ref (s.heap.objs.size + 1) :: us) J.kIn (by rw [List.append_nil]; exact hl)
  rw [List.append_nil] at bb
  have run := F.run _ X.stack _ _ ⟨Value.ref (s.heap.objs.size + 1) :: us, []⟩ (Value.ref (s.heap.objs.size + 1) :: us) _ _ (E σ) (hr.make C us []) (J.env0.make C us []) bb rr go
  refine wpAny_call (make_map (f := f) I.kIn M.makes M.init (beq_iff_eq.mp M.fn) (codeAny_mono run fun r1 s1 hq1 => ?_))
  cases r1 with
  | error er => exact hx pins _ _ er s1 J hq1
  | ok fl =>
    cases fl with
    | ret u =>
      obtain ⟨v, H1, I1, r2, rfl, q2⟩ := J.after hq1
      exact ⟨r2, ⟨V.ref (s.heap.objs.size + 1), H1, I1, rfl, q2⟩⟩
    | next => cases hq1
    | brk => cases hq1
    | cont => cases hq1
def tMakeD (C : Addr) (sp : Sp) (E : St → XK) (t : TA) : TE := fun σ H Q => t σ H fun vs H1 => ∀ x dx, H1 x = none → H1 dx = none → dx ≠ x →
  sp (.ref x :: vs) (upd (upd H1 dx (.own x)) x (.ins C dx [])) (fun v H2 => v = .non ∧ Q (.ref x) H2) (E σ)
theorem pe_makeS {CX : CXT} {k : Nat} {f C : Addr} {fd : FuncData} {ps : List Str} {sp : Sp} {E : St → XK} {t : TA} (M : Mk X.K C f) (F : FnOk X.prog X.w X.K X.mg X.base CX k f fd ps sp) (hr : Room (k + 1) X.A) (hg : Gl X x)
    (hm : X.mg x = some (.ref C)) (hb : Binds X.K fd ps []) (hx : ∀ σ, PassesAt CX X σ (E σ)) (ha : PA X (e :: es) t) (hdb : (x == ("__debug__" : Str)) = false := by decide)
    (he : starEach (e :: es) X.env = (false, eval e X.env) :: starEach es X.env := by rfl) (hpl : (backTo pos (starEach es X.env)).any (·.1) = false := by rfl) : PE X (.Call (.Name x p) (e :: es) [] pos) (tMakeD C sp E t) := by
  refine ⟨fun ps0 s0 σ0 H0 Q0 I0 h0 => wpAny_Call_Name_kw (ld_glob I0 hg hm ?_ hdb)⟩
  exact PySem.W.callWith_K (h₀ := X.base) I0.ok.mod.kin M.kp (thn (ha.run pos ps0 s0 σ0 H0 _ I0 h0) fun u1 s1 ⟨v1, H1, I1, r1, q1⟩ => ⟨I1.kIn, run_makeD M F hr hb (hx σ0) I1 r1 q1⟩) he hpl
/-- a class that can be made -/
structure Maker (P : Program) (w : World) (K : PySem.W.Frag) (mg : Str → Option Value) (base : Heap) (k : Nat) (c : Str) (ps : List Str) (m : Fn) (C f : Addr) (fd : FuncData) : Prop where
  F : FnOk P w K mg base (L2N.CX P w) k f fd ps (spD K mg m)
  M : Mk K C f
  mg : mg c = some (.ref C)
  b : Binds K fd ps []
theorem de_make {k : Nat} {c : Str} {ps : List Str} {m : Fn} {C fI : Addr} {fd : FuncData}
    (c0 : Maker X.prog X.w X.K X.mg X.base k c ps m C fI fd) (hr : Room (k + 1) X.A) (tk : L2N.Takes X W.w) (hg : Gl X c) (ha : DA X W (e :: es) fa) (hdb : (c == ("__debug__" : Str)) = false := by decide)
    (hst : starEach (e :: es) X.env = (false, eval e X.env) :: starEach es X.env := by rfl) (hpl : (backTo pos (starEach es X.env)).any (·.1) = false := by rfl) : DE X W (.Call (.Name c p) (e :: es) [] pos) (eArg (mkM c m) fa) := by
  obtain ⟨t, pa, ka⟩ := ha
  refine ⟨_, pe_makeS c0.M c0.F hr hg c0.mg c0.b (fun σ => L2N.passAt tk σ) pa hdb hst hpl, ?_⟩
  refine tbind (rel := relA X.K (gm X W)) (rel2 := relS X.K (gm X W)) (g := fun _ as => mkM c m as) (tk := fun vs σ H1 Q => ∀ x dx, H1 x = none → H1 dx = none → dx ≠ x →
    spD X.K X.mg m (.ref x :: vs) (upd (upd H1 dx (.own x)) x (.ins C dx [])) (fun v H2 => v = .non ∧ Q (.ref x) H2) (WE W.w σ)) ka fun as vs σ H A S env r S' hS hE hx he Q hp => ?_
  intro x dx hxn hdn hne
  unfold mkM at he
  by_cases hn : noExc as = true
  · rw [if_pos hn] at he
    have e1 : Ext A H A (upd H dx (.own x)) := Ext.new hdn
    have s1 := hS.new (o := .own x) hdn
    have hx1 : upd H dx (.own x) x = none := by rw [upd_ne (fun z => hne z.symm)]; exact hxn
    have e2 : Ext A (upd H dx (.own x)) (A ++ [x]) (upd (upd H dx (.own x)) x (.ins C dx [])) := Ext.own hx1
    have s2 : Sta X.K (gm X W) (A ++ [x]) (upd (upd H dx (.own x)) x (.ins C dx [])) (S ++ [[.ins c [] []]]) := s1.own' hx1 (.inr (.inl ⟨c, [], [], C, dx, [], rfl, c0.mg, upd_same, rfl, rfl⟩))
    have hx0 : RepSs X.K (gm0 X.mg) (A ++ [x]) (upd (upd H dx (.own x)) x (.ins C dx [])) as vs := repSs_0 (g := gm X W) (g' := gm0 X.mg) rfl hn ((hx.mono e1).mono e2)
    have hat : ∀ {B : List Addr}, (A ++ [x])[S.length]? = some x := fun {_} => own_at hS.len
    have hlen : A.length = S.length := hS.len.symm
    rcases em : m (.obj S.length :: as) (S ++ [[.ins c [] []]]) with _ | ⟨r1, S1⟩
    · rw [em] at he; cases he
    · rw [em] at he
      refine ⟨A ++ [x], _, .obj S.length :: as, r1, S1, s2.conv rfl trivial, ⟨.ref x, vs, rfl, ⟨x, own_at hS.len, rfl, C, dx, [], upd_same⟩, hx0⟩, em, ?_⟩
      cases r1 with
      | ok rr =>
        cases rr with
        | d d1 =>
          cases d1 with
          | non =>
            intro v H2 e3 s3 hv
            simp only [Rep] at hv
            refine ⟨hv, ?_⟩
            have s4 : Sta X.K (gm X W) (A ++ [x]) H2 S1 := s3.conv rfl (W.mono e3 s2.gh)
            dsimp only at he
            split at he
            · rename_i c' fs l eS
              by_cases cc : l.any isOwn = false ∧ Cal S S1
              rotate_left
              · rw [if_neg cc] at he; cases he
              rw [if_pos cc] at he
              cases he
              obtain ⟨c2, fs2, l2, C2, dx2, ws, h3, h4, h5, h6, h7⟩ := (s4.at' S.length x _ (own_at hS.len) eS).ins (by
                obtain ⟨fs', h⟩ := e3.ki x C dx [] upd_same
                exact ⟨C, dx, fs', h⟩)
              cases h3
              have s5 := hS.drop s4 cc.2
              rw [hlen] at s5
              refine hp (.ref x) A H2 ((e1.trans e2).trans e3).drop s5 ?_
              show Rep X.K X.mg A H2 (.ins c' fs l) (.ref x)
              simp only [Rep]
              exact ⟨x, C2, dx2, ws, rfl, hS.free hxn, h4, h5, h6, Reps.anti _ _ (h7.to cc.1)⟩
            · cases he
          | _ => cases he
        | _ => cases he
      | err c1 fs l =>
        dsimp only at he
        by_cases cc : Cal S S1
        rotate_left
        · rw [if_neg cc] at he; cases he
        rw [if_pos cc] at he
        cases he
        intro C1 dd H2 hc e3 s3 er
        have s4 : Sta X.K (gm X W) (A ++ [x]) H2 S1 := s3.conv rfl (W.mono e3 s2.gh)
        have s5 := hS.drop s4 cc
        rw [hlen] at s5
        exact hp C1 dd A H2 hc ((e1.trans e2).trans e3).drop s5 (errR_drop er)
  · rw [if_neg hn] at he; cases he
open Classical in
/-- an object of one's own: C(e, ..) whose lists stay -/
noncomputable def mkO (c : Str) (m : Fn) (as : List SV) : M SV := fun S => if noExc as = true then match m (.obj S.length :: as) (S ++ [[.ins c [] []]]) with
  | some (.ok (.grow (.d .non)), S') => some (.ok (.obj S.length), S')
  | some (.err e fs l, S') => if Cal S S' then some (.err e fs l, S'.take S.length) else none
  | _ => none else none
theorem de_makeO {k : Nat} {c : Str} {ps : List Str} {m : Fn} {C fI : Addr} {fd : FuncData}
    (c0 : Maker X.prog X.w X.K X.mg X.base k c ps m C fI fd) (hr : Room (k + 1) X.A) (tk : L2N.Takes X W.w) (hg : Gl X c) (ha : DA X W (e :: es) fa) (hdb : (c == ("__debug__" : Str)) = false := by decide)
    (hst : starEach (e :: es) X.env = (false, eval e X.env) :: starEach es X.env := by rfl) (hpl : (backTo pos (starEach es X.env)).any (·.1) = false := by rfl) : DE X W (.Call (.Name c p) (e :: es) [] pos) (eArg (mkO c m) fa) := by
  obtain ⟨t, pa, ka⟩ := ha
  refine ⟨_, pe_makeS c0.M c0.F hr hg c0.mg c0.b (fun σ => L2N.passAt tk σ) pa hdb hst hpl, ?_⟩
  refine tbind (rel := relA X.K (gm X W)) (rel2 := relS X.K (gm X W)) (g := fun _ as => mkO c m as) (tk := fun vs σ H1 Q => ∀ x dx, H1 x = none → H1 dx = none → dx ≠ x →
    spD X.K X.mg m (.ref x :: vs) (upd (upd H1 dx (.own x)) x (.ins C dx [])) (fun v H2 => v = .non ∧ Q (.ref x) H2) (WE W.w σ)) ka fun as vs σ H A S env r S' hS hE hx he Q hp => ?_
  intro x dx hxn hdn hne
  unfold mkO at he
  by_cases hn : noExc as = true
  · rw [if_pos hn] at he
    have e1 : Ext A H A (upd H dx (.own x)) := Ext.new hdn
    have s1 := hS.new (o := .own x) hdn
    have hx1 : upd H dx (.own x) x = none := by rw [upd_ne (fun z => hne z.symm)]; exact hxn
    have e2 : Ext A (upd H dx (.own x)) (A ++ [x]) (upd (upd H dx (.own x)) x (.ins C dx [])) := Ext.own hx1
    have s2 : Sta X.K (gm X W) (A ++ [x]) (upd (upd H dx (.own x)) x (.ins C dx [])) (S ++ [[.ins c [] []]]) := s1.own' hx1 (.inr (.inl ⟨c, [], [], C, dx, [], rfl, c0.mg, upd_same, rfl, rfl⟩))
    have hx0 : RepSs X.K (gm0 X.mg) (A ++ [x]) (upd (upd H dx (.own x)) x (.ins C dx [])) as vs := repSs_0 (g := gm X W) (g' := gm0 X.mg) rfl hn ((hx.mono e1).mono e2)
    have hat : ∀ {B : List Addr}, (A ++ [x])[S.length]? = some x := fun {_} => own_at hS.len
    have hlen : A.length = S.length := hS.len.symm
    rcases em : m (.obj S.length :: as) (S ++ [[.ins c [] []]]) with _ | ⟨r1, S1⟩
    · rw [em] at he; cases he
    · rw [em] at he
      refine ⟨A ++ [x], _, .obj S.length :: as, r1, S1, s2.conv rfl trivial, ⟨.ref x, vs, rfl, ⟨x, own_at hS.len, rfl, C, dx, [], upd_same⟩, hx0⟩, em, ?_⟩
      cases r1 with
      | ok rr =>
        cases rr with
        | grow g1 =>
          rcases g1 with d1 | _ | _ | _ | _ | _
          · cases d1 with
            | non =>
              cases he
              intro v A2 H2 e3 s3 hv
              have hv2 : Rep X.K X.mg A2 H2 .non v := hv
              simp only [Rep] at hv2
              refine ⟨hv2, ?_⟩
              obtain ⟨fs', hfs⟩ := e3.ki x C dx [] upd_same
              obtain ⟨l3, hl3, _⟩ := e3.app
              exact hp (.ref x) A2 H2 ((e1.trans e2).trans e3) (s3.conv rfl (W.mono e3 s2.gh)) ⟨x, by rw [hl3, List.getElem?_append_left (by simp [hS.len])]; exact own_at hS.len, rfl, C, dx, fs', hfs⟩
            | _ => cases he
          · cases he
          · cases he
          · cases he
          · cases he
          · cases he
        | _ => cases he
      | err c1 fs l =>
        dsimp only at he
        by_cases cc : Cal S S1
        rotate_left
        · rw [if_neg cc] at he; cases he
        rw [if_pos cc] at he
        cases he
        intro C1 dd H2 hc e3 s3 er
        have s4 : Sta X.K (gm X W) (A ++ [x]) H2 S1 := s3.conv rfl (W.mono e3 s2.gh)
        have s5 := hS.drop s4 cc
        rw [hlen] at s5
        exact hp C1 dd A H2 hc ((e1.trans e2).trans e3).drop s5 (errR_drop er)
  · rw [if_neg hn] at he; cases he
end
end DL
namespace DL
open PySem L2
abbrev Cl := Value × Option (Nat × Str) × (Addr → Value → Option Addr → TS)
def clEnds (k : Option (Nat × Str)) (D : Ends) : Ends := match k with
  | none => D
  | some (i, _) => { nx := fun σ H => D.nx (σ.set i none) H, rt := D.rt, bk := fun σ H => D.bk (σ.set i none) H, ct := fun σ H => D.ct (σ.set i none) H }
def clSt (k : Option (Nat × Str)) (a : Addr) (σ : St) : St := match k with
  | none => σ
  | some (i, _) => σ.set i (some (.ref a))
def clUn (k : Option (Nat × Str)) (σ : St) : St := match k with
  | none => σ
  | some (i, _) => σ.set i none
def wCl (K : PySem.W.Frag) (Wout : WX) (D : Ends) : List Cl → WX
  | [] => Wout
  | q :: r => fun cls d σ H => ∃ b, PySem.W.exmOne K cls q.1 = some b ∧ (b = true → ∀ a, H a = none → q.2.2 a cls d (clEnds q.2.1 D) (clSt q.2.1 a σ) H) ∧ (b = false → wCl K Wout D r cls d σ H)
def clName (k : Option (Nat × Str)) : Option Str := k.map (·.2)
def clOk (X : Cx) (k : Option (Nat × Str)) : Prop := match k with
  | none => True
  | some (i, n) => X.N[i]? = some n ∧ X.env.kindOf n = some .local
inductive Cls' (X : Cx) : List ExceptHandler → List Cl → Prop
  | nil : Cls' X [] []
  | cons {x : Str} {q : Cl} {s0 : Stmt} {su : List Stmt} {p1 p2 : Pos} {hds : List ExceptHandler} {l : List Cl} (hc : L2.Names X x q.1) (hk : clOk X q.2.1)
      (go : ∀ (a : Addr) (oe : Obj) (cls : Value) (d : Option Addr) (pn : List (Addr × Obj)), L2N.Zn cls d oe → (∃ vs, oe.data = .fields vs) → PSs (X.suite a ((a, oe) :: pn)) (s0 :: su) (q.2.2 a cls d)) (r : Cls' X hds l) :
      Cls' X (.ExceptHandler (some (.Name x p1)) (clName q.2.1) (s0 :: su) p2 :: hds) (q :: l)
section
open PyProof.Rows
variable {X : Cx} {body : List Stmt} {h0 : ExceptHandler} {hds : List ExceptHandler} {l : List Cl} {pos : Pos} {tb : WX → TS} {Wo : WX}
theorem ps_try_cl (e1 : X.stack = X.env :: X.outer) (e2 : X.env.frame = some X.env.locals) (nd : X.N.Nodup) (tk : L2N.Takes X Wo)
    (pb : ∀ (w : WX) (pn : List (Addr × Obj)) (xe : Value → Shared → Prop), L2N.Takes (X.tr pn xe) w → PassesOwn (model X.prog X.w) X.A X.env xe → PSs (X.tr pn xe) body (tb w))
    (ph : Cls' X (h0 :: hds) l) : PS X (.Try body (h0 :: hds) [] [] pos) (fun D σ H => tb (wCl X.K Wo D l) D σ H) := by
  refine ⟨fun ps0 s σ H D I0 q0 => wpAny_Try_except ?_⟩
  have ok := I0.ok
  have fr : X.A.frames = some (X.env :: X.outer) := by rw [ok.frames, e1]
  have run := (pb (wCl X.K Wo D l) (X.pn ++ ps0) (fun e sa => wpAny (model X.prog X.w) X.A (noteFrame e X.env) (fun _ sb => wpAny (model X.prog X.w) X.A (setFlight e none) (fun _ sc =>
      wpAny (model X.prog X.w) X.A (handleBy e X.env (h0 :: hds)) (SP X ps0 D) X.xe sc) X.xe sb) X.xe sa) (fun u s' xx => ?_) PassesOwn.looking).run [] s σ H D (I0.toTry _) q0
  · refine wpAny_mono run (fun f s1 z => ?_) (fun _ _ z => z)
    cases f with
    | next => obtain ⟨_, _, J, q⟩ := z; exact wpAny_execs_nil ⟨_, _, J.ofTry ok, q⟩
    | brk => obtain ⟨_, _, J, q⟩ := z; exact ⟨_, _, J.ofTry ok, q⟩
    | cont => obtain ⟨_, _, J, q⟩ := z; exact ⟨_, _, J.ofTry ok, q⟩
    | ret u => obtain ⟨_, _, _, J, r, q⟩ := z; exact ⟨_, _, _, J.ofTry ok, r, q⟩
  · obtain ⟨a, B, sI, ps1, σ1, H1, cls, d, rfl, J1, nb, up, sky, na, os, ag, w⟩ := xx
    have J : Inv X ps0 σ1 H1 sI := J1.ofTry ok
    rw [show (X.tr (X.pn ++ ps0) _).stack = X.env :: X.outer from e1] at sky
    show wpAny (model X.prog X.w) X.A (noteFrame (.ref a) X.env) _ _ _
    refine L2N.Sky.land L2N.Zn.steady fr e2 sky fun h3 fl3 up3 => ?_
    have J3 : Inv X ps0 σ1 H1 { s' with heap := h3 } := J.landed nb fl3.1 (up.trans up3) os ag
    obtain ⟨o3, v3, g3, z3, d3⟩ := fl3.there
    have away : a ∉ frs (X.env :: X.outer) := fun hm => by
      obtain ⟨_, o', g', hnf⟩ := fl3.2.2.1.mem hm
      rw [g3] at g'; cases g'
      exact hnf _ d3
    have nL : a ≠ X.env.locals := fun z => away (List.mem_filterMap.mpr ⟨X.env, List.mem_cons_self, by rw [e2, z]⟩)
    have nF : a ∉ X.fs := fun hm => by
      obtain ⟨e, he, q⟩ := List.mem_filterMap.mp hm
      exact away (List.mem_filterMap.mpr ⟨e, List.mem_cons_of_mem _ he, q⟩)
    have S3 := J3.suite g3 d3 na nL nF
    have all : ∀ {hs' : List ExceptHandler} {l' : List Cl}, Cls' X hs' l' → wCl X.K Wo D l' cls d σ1 H1 → wpAny (model X.prog X.w) X.A (handleBy (.ref a) X.env hs') (SP X ps0 D) X.xe { s' with heap := h3 } := by
      intro hs' l' hk
      induction hk with
      | nil =>
        intro w1
        refine wpAny_handleBy_nil ?_
        obtain ⟨_, _, _, oe, vs, T, _, _, g, _, hd, h1, _⟩ := id fl3
        unfold PySem.passOn
        refine wpAny_bind (wpAny_field g hd h1 ?_)
        rw [if_neg (by simp : ¬ ((Value.ref T == Value.none) = true))]
        have fin : wpAny (model X.prog X.w) X.A (setFlight (.ref a) X.env.frame) (fun _ s4 => wpAny (model X.prog X.w) X.A (throw (.ref a) : Sem Flow) (SP X ps0 D) X.xe s4) X.xe { s' with heap := h3 } := by
          rw [e2]
          exact HandSPX.setFlight_upZ fl3 fun h4 hh4 up4 => wpAny_throw (tk _ _ ⟨a, B, sI, ps0, σ1, H1, cls, d, rfl, J, nb, (up.trans up3).trans up4, .inr (.inr (by rw [e1]; exact hh4)), na, os, ag, w1⟩)
        first
          | exact wpAny_bind fin
          | exact wpAny_bind (wpAny_pure (wpAny_bind fin))
      | @cons x q s0 su p1 p2 hds2 l2 hc hk go r ih =>
        intro w1
        obtain ⟨cV, kk, ts⟩ := q
        obtain ⟨b, hb1, yes, no⟩ := w1
        refine wpAny_handleBy_cons (codeAny_handlers_test ?_) (by intro q; cases q)
        have LT : PySem.W.Looks (model X.prog X.w) h3 (typeOf (.ref a)) cls := fun _ _ _ _ k q => wpAny_typeOf_ref (k _ _ g3) (by rw [z3.1]; exact q)
        have LM := PySem.W.exm_one (M := model X.prog X.w) J3.kIn LT hb1
        have test : ∀ {Q E : Value → Shared → Prop}, Q cV { s' with heap := h3 } → wpAny (model X.prog X.w) (X.A.mark (some (.ref a))) (eval (.Name x p1) X.env) Q E { s' with heap := h3 } := fun {Q E} q => by
          obtain ⟨hg, hdbg, hm | ⟨hm, hv, hnn⟩⟩ := hc
          · exact ld_glob (X := X.suite a ((a, o3) :: (X.pn ++ ps0))) S3 hg hm q hdbg
          · exact ld_blt (X := X.suite a ((a, o3) :: (X.pn ++ ps0))) S3 hg hm hv q hnn hdbg
        refine test (LM.here ?_)
        cases b with
        | false => exact ih (no rfl)
        | true =>
          cases kk with
          | none =>
            refine codeAny_handlers_suite (HandSPX.lands_againZ fl3 fun h4 fl4 up4 => ?_)
            have J4 : Inv X ps0 σ1 H1 { s' with heap := h4 } := J.landed nb fl4.1 ((up.trans up3).trans up4) os ag
            obtain ⟨o4, v4, g4, z4, d4⟩ := fl4.there
            have S4 := J4.suite g4 d4 na nL nF
            refine wpAny_mono ((go a o4 cls d (X.pn ++ ps0) z4 ⟨_, d4⟩).run [] _ _ H1 _ S4 (yes rfl a na)) (fun f s6 z => ?_) (fun _ _ z => False.elim z)
            cases f with
            | next => obtain ⟨_, _, S6, q6⟩ := z; exact ⟨_, _, S6.unsuite ok, q6⟩
            | brk => obtain ⟨_, _, S6, q6⟩ := z; exact ⟨_, _, S6.unsuite ok, q6⟩
            | cont => obtain ⟨_, _, S6, q6⟩ := z; exact ⟨_, _, S6.unsuite ok, q6⟩
            | ret u => obtain ⟨_, _, _, S6, r6, q6⟩ := z; exact ⟨_, _, _, S6.unsuite ok, r6, q6⟩
          | some kn =>
            obtain ⟨i, n⟩ := kn
            obtain ⟨hi, hln⟩ := hk
            have hloc : Loc X.env.scope n := .inl hln
            refine codeAny_handlers_suite_as (HandSPX.lands_againZ fl3 fun h4 fl4 up4 => ?_)
            have J4 : Inv X ps0 σ1 H1 { s' with heap := h4 } := J.landed nb fl4.1 ((up.trans up3).trans up4) os ag
            obtain ⟨o4, v4, g4, z4, d4⟩ := fl4.there
            have S4 := J4.suite g4 d4 na nL nF
            refine store_ok (X := X.suite a ((a, o4) :: (X.pn ++ ps0))) (v := .ref a) S4 nd hi hloc rfl (fun s5 S5 => ?_) (.inr hln)
            refine wpAny_mono ((go a o4 cls d (X.pn ++ ps0) z4 ⟨_, d4⟩).run [] s5 _ H1 _ S5 (yes rfl a na)) (fun f s6 z => ?_) (fun _ _ z => False.elim z)
            have last : ∀ {σ6 : L2.St} {H6 : Hp} {Q : Shared → Prop}, Inv (X.suite a ((a, o4) :: (X.pn ++ ps0))) [] σ6 H6 s6 → (∀ s7, Inv X ps0 (σ6.set i none) H6 s7 → Q s7) →
                wpAny (model X.prog X.w) X.A (do bindName X.env n .none; unbindBehindTheSuite X.env n p2) (fun _ s7 => Q s7) X.xe s6 := fun S6 hq => gone_ok (S6.unsuite ok) nd hi hln hq
            cases f with
            | next => obtain ⟨_, _, S6, q6⟩ := z; exact last S6 fun _ J7 => ⟨_, _, J7, q6⟩
            | brk => obtain ⟨_, _, S6, q6⟩ := z; exact last S6 fun _ J7 => ⟨_, _, J7, q6⟩
            | cont => obtain ⟨_, _, S6, q6⟩ := z; exact last S6 fun _ J7 => ⟨_, _, J7, q6⟩
            | ret u => obtain ⟨_, _, _, S6, r6, q6⟩ := z; exact last S6 fun _ J7 => ⟨_, _, _, J7, r6, q6⟩
    exact all ph w
end
structure HdM where
  slot : Option Nat
  yes : List Str
  no : List Str
  U : Str → List Str → List D → SM
def setX (k : Option Nat) (env : Env) : Env := match k with
  | none => env
  | some i => env.set i (some .exc)
def unX (k : Option Nat) (env : Env) : Env := match k with
  | none => env
  | some i => env.set i none
def endX (k : Option Nat) : Option (O × Store) → Option (O × Store)
  | some (.nx env, S) => if envNE (unX k env) = true then some (.nx (unX k env), S) else none
  | some (.bk env, S) => if envNE (unX k env) = true then some (.bk (unX k env), S) else none
  | some (.ct env, S) => if envNE (unX k env) = true then some (.ct (unX k env), S) else none
  | some (.rt sv, S) => if noX sv = true then some (.rt sv, S) else none
  | _ => none
def hdL : List HdM → Str → List Str → List D → SM
  | [], c, fs, l => fun env S => some (.er c fs l env, S)
  | h :: r, c, fs, l => fun env S => if h.yes.contains c = true then (if envNE env = true then endX h.slot (h.U c fs l (setX h.slot env) S) else none)
    else if h.no.contains c = true then hdL r c fs l env S else none
def sTryM (B : SM) (hs : List HdM) : SM := fun env S => match B env S with
  | some (.er c fs l env1, S1) => hdL hs c fs l env1 S1
  | x => x
/-- one clause -/
structure Hd1 (X : Cx) (W : WG) (e : ExceptHandler) (x : Str) (cV : Value) (kk : Option (Nat × Str)) (h : HdM) : Prop where
  hc : L2.Names X x cV
  hk : clOk X kk
  sl : h.slot = kk.map (·.1)
  yes : ∀ c C, X.mg c = some (.ref C) → h.yes.contains c = true → PySem.W.exmOne X.K (.ref C) cV = some true
  no : ∀ c C, X.mg c = some (.ref C) → h.no.contains c = true → PySem.W.exmOne X.K (.ref C) cV = some false
inductive HdsM (X : Cx) (W : WG) : List ExceptHandler → List HdM → Prop
  | nil : HdsM X W [] []
  | cons {x : Str} {cV : Value} {kk : Option (Nat × Str)} {h : HdM} {s0 : Stmt} {su : List Stmt} {p1 p2 : Pos} {hds : List ExceptHandler} {hs : List HdM} (o : Hd1 X W (.ExceptHandler (some (.Name x p1)) (clName kk) (s0 :: su) p2) x cV kk h)
      (go : ∀ (c : Str) (C a : Addr) (oe : Obj) (d : Option Addr) (pn : List (Addr × Obj)) (fs : List Str) (l : List D), X.mg c = some (.ref C) → h.yes.contains c = true → L2N.Zn (.ref C) d oe → (∃ vs, oe.data = .fields vs) →
        DSs (X.suite a ((a, oe) :: pn)) (W.suite X.K X.mg a d fs l) (s0 :: su) (h.U c fs l)) (r : HdsM X W hds hs) :
      HdsM X W (.ExceptHandler (some (.Name x p1)) (clName kk) (s0 :: su) p2 :: hds) (h :: hs)
section
variable {X : Cx} {W : WG}
/-- the readings of the clauses -/
def clTs (X : Cx) (W : WG) (h : HdM) : Addr → Value → Option Addr → TS := fun a cls d Dn σ H => ∃ c C fs l, cls = .ref C ∧ X.mg c = some (.ref C) ∧ h.yes.contains c = true ∧ tsOf X.K (gm X (W.suite X.K X.mg a d fs l)) (W.suite X.K X.mg a d fs l) (h.U c fs l) Dn σ H
theorem hds_cl {hds : List ExceptHandler} {hs : List HdM} (h : HdsM X W hds hs) : ∃ l, Cls' X hds l ∧
    ∀ {c : Str} {fs : List Str} {ls : List D} {env : Env} {S S' : Store} {o : O} {C : Addr} {dd : Option Addr} {σ : St} {A : List Addr} {H : Hp} {Dn : Ends} {w : WX},
      hdL hs c fs ls env S = some (o, S') → X.mg c = some (.ref C) → Sta X.K (gm X (W.body w)) A H S → EnvR X.K (gm X (W.body w)) A H σ env → ErrR X.K X.mg A H dd fs ls → PoS X.K (gm X W) Dn W A H o S' → wCl X.K W.w Dn l (.ref C) dd σ H := by
  induction h with
  | nil =>
    refine ⟨[], .nil, fun he hC s q er hp => ?_⟩
    cases he
    exact hp _ _ _ _ _ hC (Ext.refl _ _) (s.conv rfl s.gh) ⟨q.len, q.at'⟩ er
  | @cons x cV kk hh s0 su p1 p2 hds hs o1 go r ih =>
    obtain ⟨l, cl, k⟩ := ih
    refine ⟨(cV, kk, clTs X W hh) :: l, .cons (q := (cV, kk, clTs X W hh)) o1.hc o1.hk (fun a oe cls d pn hz hf => ⟨fun pins s σ H Dn I q => ?_⟩) cl, fun {c fs ls env S S' o C dd σ A H Dn w} he hC s q er hp => ?_⟩
    · obtain ⟨c, C, fs, l2, rfl, hC, hy, q⟩ := q
      exact (go c C a oe d pn fs l2 hC hy hz hf).one.run pins s σ H Dn I q
    · unfold hdL at he
      by_cases hy : hh.yes.contains c = true
      · rw [if_pos hy] at he
        refine ⟨true, o1.yes c C hC hy, fun _ a ha => ?_, fun z => absurd z (by decide)⟩
        by_cases hne : envNE env = true
        · rw [if_pos hne] at he
          have s' : Sta X.K (gm X (W.suite X.K X.mg a dd fs ls)) A H S := s.conv rfl ⟨s.gh, er⟩
          have cv : ∀ {A2 : List Addr} {H2 : Hp} {S3 : Store}, Sta X.K (gm X (W.suite X.K X.mg a dd fs ls)) A2 H2 S3 → Sta X.K (gm X W) A2 H2 S3 := fun z => z.conv rfl z.gh.1
          have q0 : EnvR X.K (gm X (W.suite X.K X.mg a dd fs ls)) A H σ env := envR_conv (g := gm X (W.body w)) (g' := gm X (W.suite X.K X.mg a dd fs ls)) rfl hne q
          have sl := o1.sl
          have q' : EnvR X.K (gm X (W.suite X.K X.mg a dd fs ls)) A H (clSt kk a σ) (setX hh.slot env) := by
            rw [sl]
            cases kk with
            | none => exact q0
            | some v => exact q0.set ⟨a, rfl, rfl⟩
          have back : ∀ {A2 : List Addr} {H2 : Hp} {σ2 : St} {env2 : Env}, envNE (unX hh.slot env2) = true → EnvR X.K (gm X (W.suite X.K X.mg a dd fs ls)) A2 H2 σ2 env2 →
              EnvR X.K (gm X W) A2 H2 (clUn kk σ2) (unX hh.slot env2) := by
            intro A2 H2 σ2 env2 hn2 q2
            rw [sl] at hn2 ⊢
            cases kk with
            | none => exact envR_conv (g := gm X (W.suite X.K X.mg a dd fs ls)) rfl hn2 q2
            | some v => exact envR_conv (g := gm X (W.suite X.K X.mg a dd fs ls)) rfl hn2 (q2.unset none)
          rcases eU : hh.U c fs ls (setX hh.slot env) S with _ | ⟨o2, S2⟩
          · rw [eU] at he; cases he
          · rw [eU] at he
            refine ⟨c, C, fs, ls, rfl, hC, hy, A, S, _, o2, S2, s', q', eU, ?_⟩
            cases o2 with
            | nx env2 =>
              dsimp only [endX] at he
              by_cases hn2 : envNE (unX hh.slot env2) = true
              · rw [if_pos hn2] at he
                cases he
                intro σ2 A2 H2 e2 s2 q2
                have z := hp _ A2 H2 e2 (cv s2) (back hn2 q2)
                cases kk with
                | none => exact z
                | some v => exact z
              · rw [if_neg hn2] at he; cases he
            | bk env2 =>
              dsimp only [endX] at he
              by_cases hn2 : envNE (unX hh.slot env2) = true
              · rw [if_pos hn2] at he
                cases he
                intro σ2 A2 H2 e2 s2 q2
                have z := hp _ A2 H2 e2 (cv s2) (back hn2 q2)
                cases kk with
                | none => exact z
                | some v => exact z
              · rw [if_neg hn2] at he; cases he
            | ct env2 =>
              dsimp only [endX] at he
              by_cases hn2 : envNE (unX hh.slot env2) = true
              · rw [if_pos hn2] at he
                cases he
                intro σ2 A2 H2 e2 s2 q2
                have z := hp _ A2 H2 e2 (cv s2) (back hn2 q2)
                cases kk with
                | none => exact z
                | some v => exact z
              · rw [if_neg hn2] at he; cases he
            | rt sv =>
              dsimp only [endX] at he
              by_cases hn2 : noX sv = true
              · rw [if_pos hn2] at he
                cases he
                intro v A2 H2 e2 s2 q2
                have z := hp v A2 H2 e2 (cv s2) (repS_conv (g := gm X (W.suite X.K X.mg a dd fs ls)) rfl hn2 q2)
                cases kk with
                | none => exact z
                | some v => exact z
              · rw [if_neg hn2] at he; cases he
            | er c2 fs2 l2 env2 => cases he
        · rw [if_neg hne] at he; cases he
      · rw [if_neg hy] at he
        by_cases hn : hh.no.contains c = true
        · rw [if_pos hn] at he
          exact ⟨false, o1.no c C hC hn, fun z => absurd z (by decide), fun _ => k he hC s q er hp⟩
        · rw [if_neg hn] at he; cases he
theorem ds_tryM {body : List Stmt} {h0 : ExceptHandler} {hds : List ExceptHandler} {hs : List HdM} {B : SM} {pos : Pos} (e1 : X.stack = X.env :: X.outer) (e2 : X.env.frame = some X.env.locals) (nd : X.N.Nodup) (tk : L2N.Takes X W.w)
    (hb : ∀ (w : WX) (pn : List (Addr × Obj)) (xe : Value → Shared → Prop), L2N.Takes (X.tr pn xe) w → PassesOwn (model X.prog X.w) X.A X.env xe → DSs (X.tr pn xe) (W.body w) body B)
    (hh : HdsM X W (h0 :: hds) hs) : DS X W (.Try body (h0 :: hds) [] [] pos) (sTryM B hs) := by
  obtain ⟨l, cl, k⟩ := hds_cl hh
  have hb' : ∀ (w : WX) (pn : List (Addr × Obj)) (xe : Value → Shared → Prop), L2N.Takes (X.tr pn xe) w → PassesOwn (model X.prog X.w) X.A X.env xe → PSs (X.tr pn xe) body (tsOf X.K (gm X (W.body w)) (W.body w) B) := fun w pn xe t po => (hb w pn xe t po).one
  refine ⟨_, ps_try_cl e1 e2 nd tk hb' cl, ?_⟩
  intro σ H A S env o S' hS hE he Dn hp
  unfold sTryM at he
  rcases eB : B env S with _ | ⟨o1, S1⟩
  · rw [eB] at he; cases he
  · rw [eB] at he
    refine ⟨A, S, env, o1, S1, hS, hE, eB, ?_⟩
    cases o1 with
    | nx env1 => cases he; exact fun σ' A' H' e s q => hp σ' A' H' e s q
    | rt sv => cases he; exact fun σ' A' H' e s q => hp σ' A' H' e s q
    | bk env1 => cases he; exact fun σ' A' H' e s q => hp σ' A' H' e s q
    | ct env1 => cases he; exact fun σ' A' H' e s q => hp σ' A' H' e s q
    | er c fs l env1 => exact fun C dd σ' A' H' hC e s q er => k he hC s q er (hp.mono e)
end
end DL
namespace DL
open PySem L2
def tiOf (X : Cx) (W : WG) (f : Env → M (List D × KK)) : TI := fun σ H Rr => ∃ A S env r S', Sta X.K (gm X W) A H S ∧ EnvR X.K (gm X W) A H σ env ∧ f env S = some (r, S') ∧ PoI X W Rr σ A H r S'
section
variable {X : Cx} {W : WG}
theorem DI.one {tg iter : Expr} {f : Env → M (List D × KK)} (h : DI X W tg iter f) : PI X tg iter (tiOf X W f) := by
  obtain ⟨wi, p, k⟩ := h
  exact ⟨fun pins s σ H R I ⟨A, S, env, r, S', hS, hE, he, hp⟩ => p.run pins s σ H R I (k σ H A S env r S' hS hE he R hp)⟩
variable {tg tg1 iter iter1 elt : Expr} {ifs ifs1 : List Expr} {f : Env → M SV} {fi fi1 : Env → M (List D × KK)} {cond cond1 : Env → M Bool} {pos : Pos} {scope : Scope} {own : List (Str × Nat)}
end
end DL
namespace DL
open PySem L2
section
variable {X : Cx} {W : WG}
def isNon : SV → Option Bool
  | .d .non => some true
  | .exc => none
  | _ => some false
theorem isNon_rep {K : PySem.W.Frag} {mg : Gm} {A : List Addr} {H : Hp} {sv : SV} {v : V} {b : Bool} (h : RepS K mg A H sv v) (e : isNon sv = some b) : decide (v = .non) = b := by
  cases sv with
  | d x =>
    have h1 : Rep K mg.m A H x v := h
    cases x <;> simp only [Rep] at h1 <;> cases e
    · subst h1; rfl
    · subst h1; rfl
    · subst h1; rfl
    · subst h1; rfl
    · obtain ⟨a, vs, e1, _⟩ := h1; subst e1; rfl
    · obtain ⟨a, vs, e1, _⟩ := h1; subst e1; rfl
    · obtain ⟨a, vs, e1, _⟩ := h1; subst e1; rfl
    · obtain ⟨a, C, dx, vs, e1, _⟩ := h1; subst e1; rfl
    · subst h1; rfl
    · obtain ⟨C, _, e1⟩ := h1; subst e1; rfl
    · obtain ⟨a, od, vs, e1, _⟩ := h1; subst e1; rfl
    · obtain ⟨a, vs, e1, _⟩ := h1; subst e1; rfl
    · obtain ⟨a, vs, e1, _⟩ := h1; subst e1; rfl
  | ptr k =>
    cases e
    obtain ⟨a, _, e1, _⟩ := h
    subst e1; rfl
  | obj k =>
    cases e
    obtain ⟨a, _, e1, _⟩ := h
    subst e1; rfl
  | dic k =>
    cases e
    obtain ⟨a, _, e1, _⟩ := h
    subst e1; rfl
  | sq b l =>
    cases e
    obtain ⟨a, _, e1, _⟩ := h
    subst e1; rfl
  | exc => cases e
def oIsN (x y : SV) : M SV := match y with
  | .d .non => match isNon x with
    | some b => ret (.d (.bl b))
    | none => stuck
  | _ => stuck
def oNotN (x y : SV) : M SV := match y with
  | .d .non => match isNon x with
    | some b => ret (.d (.bl (!b)))
    | none => stuck
  | _ => stuck
theorem rok_isN : ROk X W (fun x y H Q => y = .non ∧ Q (.bl (decide (x = .non))) H) oIsN := by
  intro a b x y σ H A S rr S' hS hx hy he Q hp
  unfold oIsN at he
  split at he
  · have h2 : Rep X.K X.mg A H .non y := hy
    simp only [Rep] at h2
    rcases ei : isNon a with _ | c
    · rw [ei] at he; cases he
    · rw [ei] at he
      cases he
      exact ⟨h2, by rw [isNon_rep hx ei]; exact hp.val hS (show Rep X.K X.mg A H (.bl c) _ by simp only [Rep])⟩
  · cases he
theorem rok_notN : ROk X W (fun x y H Q => y = .non ∧ Q (.bl (!decide (x = .non))) H) oNotN := by
  intro a b x y σ H A S rr S' hS hx hy he Q hp
  unfold oNotN at he
  split at he
  · have h2 : Rep X.K X.mg A H .non y := hy
    simp only [Rep] at h2
    rcases ei : isNon a with _ | c
    · rw [ei] at he; cases he
    · rw [ei] at he
      cases he
      exact ⟨h2, by rw [isNon_rep hx ei]; exact hp.val hS (show Rep X.K X.mg A H (.bl (!c)) _ by simp only [Rep])⟩
  · cases he
end
end DL
namespace DL
open PySem L2
def okL (t : List (Str × List Str)) (c f : Str) : Bool := t.any fun p => p.1 == c && p.2.contains f
section
variable {K : PySem.W.Frag} {mg : Str → Option Value} {t : List (Str × List Str)} {c f x : Str} {fs : List Str} {C : Addr}
theorem fldT_nil : FldT K mg (okL []) := ⟨fun _ _ _ h => by cases h⟩
theorem nfl_nil : ∀ g ∈ ([] : List Str), NoAttr K C g := fun _ h => by cases h
theorem nfl_cons (h : NoAttr K C f) (r : ∀ g ∈ fs, NoAttr K C g) : ∀ g ∈ f :: fs, NoAttr K C g := fun g hg => by
  rcases List.mem_cons.mp hg with e | e
  · rw [e]; exact h
  · exact r g e
theorem fldT_cons (hc : mg c = some (.ref C)) (cl : Cls K C) (nf : ∀ g ∈ fs, NoAttr K C g) (r : FldT K mg (okL t)) : FldT K mg (okL ((c, fs) :: t)) := ⟨fun c' f' C' h hm => by
  have h' : ((c == c' && fs.contains f') || okL t c' f') = true := h
  rcases Bool.or_eq_true_iff.mp h' with h1 | h1
  · rw [Bool.and_eq_true, beq_iff_eq] at h1
    obtain ⟨e, h2⟩ := h1
    subst e
    have : C = C' := by
      have := hc.symm.trans hm
      injection this with z
      injection z
    subst this
    exact ⟨cl, nf f' (by simpa using h2)⟩
  · exact r.of c' f' C' h1 hm⟩
theorem one_cls {C' : Addr} (g : mg x = some (.ref C)) (h : mg c = some (.ref C')) (hy : ([x] : List Str).contains c = true) : c = x ∧ C' = C := by
  have e : c = x := by simpa using hy
  subst e
  have := g.symm.trans h
  injection this with z
  injection z with z
  exact ⟨rfl, z.symm⟩
theorem yes_1 (g : mg x = some (.ref C)) (te : PySem.W.exmOne K (.ref C) (.ref C) = some true) : ∀ c C', mg c = some (.ref C') → ([x] : List Str).contains c = true → PySem.W.exmOne K (.ref C') (.ref C) = some true := fun c C' h hy => by
  obtain ⟨_, e⟩ := one_cls g h hy
  rw [e]
  exact te
theorem no_nil {cV : Value} : ∀ c C', mg c = some (.ref C') → ([] : List Str).contains c = true → PySem.W.exmOne K (.ref C') cV = some false := fun _ _ _ h => by cases h
theorem no_cons {cV : Value} {l : List Str} (g : mg x = some (.ref C)) (n : PySem.W.exmOne K (.ref C) cV = some false) (r : ∀ c C', mg c = some (.ref C') → l.contains c = true → PySem.W.exmOne K (.ref C') cV = some false) :
    ∀ c C', mg c = some (.ref C') → (x :: l).contains c = true → PySem.W.exmOne K (.ref C') cV = some false := fun c C' h hy => by
  have hy' : c = x ∨ l.contains c = true := by simpa using hy
  rcases hy' with e | e
  · subst e
    have := g.symm.trans h
    injection this with z
    injection z with z
    rw [← z]
    exact n
  · exact r c C' h e
end
end DL
namespace DL
open PySem L2
section
variable {env : Env} {S : Store}
@[simp] theorem ev_Ch (o o' : SV → SV → M SV) (f g h : Env → M SV) : eCh o o' f g h env = bnd (f env) fun x => bnd (g env) fun y => bnd (bnd (o x y) asB) fun k => if k then bnd (h env) fun z => o' y z else ret (.d (.bl false)) := rfl
@[simp] theorem ev_Sl (f : Env → M SV) (lo hi : Env → M (Option Int)) : eSl f lo hi env = bnd (f env) fun x => bnd (lo env) fun l => bnd (hi env) fun h => oSl x l h := rfl
@[simp] theorem ev_pN : pNone env = ret none := rfl
theorem ev_pS (f : Env → M SV) : pSome f env = bnd (f env) fun x => match x with
  | .d (.int i) => ret (some i)
  | _ => stuck := rfl
@[simp] theorem ev_pSi (f : Env → M SV) {i : Int} (h : f env = ret (.d (.int i))) : pSome f env = ret (some i) := by rw [ev_pS, h]; rfl
theorem oAdd_l {l m : List D} (h : l.length + m.length ≤ 16777216) : oAdd (.d (.lst l)) (.d (.lst m)) = ret (.d (.lst (l ++ m))) := by
  funext S
  show (if l.length + m.length ≤ lim then some (R.ok (SV.d (.lst (l ++ m))), S) else none) = _
  rw [if_pos (show l.length + m.length ≤ lim from h)]
  rfl
theorem oAddT_t {l m : List D} (h : l.length + m.length ≤ 16777216) : oAddT (.d (.tup l)) (.d (.tup m)) = ret (.d (.tup (l ++ m))) := by
  unfold oAddT
  exact if_pos h
@[simp] theorem mkTup_0 : mkTup [] = ret (.d (.tup [])) := rfl
@[simp] theorem mkTup_1 (a : D) : mkTup [.d a] = ret (.d (.tup [a])) := rfl
@[simp] theorem mkTup_3 (a b c : D) : mkTup [.d a, .d b, .d c] = ret (.d (.tup [a, b, c])) := rfl
@[simp] theorem mkLst_3 (a b c : D) : mkLst [.d a, .d b, .d c] = ret (.d (.lst [a, b, c])) := rfl
@[simp] theorem mkOwn_1 (a : D) : mkOwn [.d a] S = some (.ok (.ptr S.length), S ++ [[a]]) := rfl
theorem bools_map {α : Type} (p : α → Bool) : ∀ xs : List α, bools (xs.map fun x => D.bl (p x)) = some (xs.map p)
  | [] => rfl
  | x :: xs => by
    simp only [List.map_cons, bools]
    rw [bools_map p xs]
    rfl
theorem intsD_map : ∀ xs : List Int, intsD (xs.map D.int) = some xs
  | [] => rfl
  | x :: xs => by
    simp only [List.map_cons, intsD]
    rw [intsD_map xs]
    rfl
theorem fold_l {α : Type} {rd : List D → Option (List α)} {g : List α → D} {l : List D} {bs : List α} (h : rd l = some bs) : bFold rd g [.d (.lst l)] = ret (.d (g bs)) := by
  funext S
  simp [bFold, items, h, ret]
theorem bAll_map {α : Type} (p : α → Bool) (xs : List α) : bAll [.d (.lst (xs.map fun x => D.bl (p x)))] = ret (.d (.bl (xs.all p))) := by
  unfold bAll
  rw [fold_l (bools_map p xs), List.all_map]
  rfl
theorem bAny_map {α : Type} (p : α → Bool) (xs : List α) : bAny [.d (.lst (xs.map fun x => D.bl (p x)))] = ret (.d (.bl (xs.any p))) := by
  unfold bAny
  rw [fold_l (bools_map p xs), List.any_map]
  rfl
theorem bSum_map (xs : List Int) : bSum [.d (.lst (xs.map D.int))] = ret (.d (.int xs.sum)) := fold_l (intsD_map xs)
@[simp] theorem oIsN_n : oIsN (.d .non) (.d .non) = ret (.d (.bl true)) := rfl
@[simp] theorem oNotN_n : oNotN (.d .non) (.d .non) = ret (.d (.bl false)) := rfl
@[simp] theorem oIsN_i (i : Int) : oIsN (.d (.int i)) (.d .non) = ret (.d (.bl false)) := rfl
@[simp] theorem oNotN_i (i : Int) : oNotN (.d (.int i)) (.d .non) = ret (.d (.bl true)) := rfl
theorem lc_loopF {t : Tg} {cond : Env → M Bool} {fe : Env → M SV} {all : List D} {k : Nat} (p : D → Bool) (h : D → D) {S0 : Store} (hk : k = S0.length) : ∀ (ds acc : List D),
    (∀ d ∈ ds, ∃ env1, setT t d env = some env1 ∧ cond env1 = ret (p d) ∧ (p d = true → fe env1 = ret (.d (h d)))) → acc.length + ds.length ≤ 16777216 → lcL t none all cond fe k env ds (S0 ++ [acc]) = some (S0 ++ [acc ++ (ds.filter p).map h])
  | [], acc, _, _ => by unfold lcL; simp
  | d :: ds, acc, hd, hl => by
    obtain ⟨env1, h1, h2, h3⟩ := hd d List.mem_cons_self
    unfold lcL
    rw [h1]; dsimp only; rw [h2]; dsimp only [ret]
    cases hp : p d with
    | true =>
      rw [h3 hp]; dsimp only [ret]
      have hg : (S0 ++ [acc])[k]? = some acc := by rw [hk]; simp
      have hlt : acc.length < lim := by simp only [List.length_cons] at hl; simp only [lim]; omega
      unfold lcNext
      rw [hg]; dsimp only; rw [if_pos hlt]; dsimp only
      rw [if_pos (show keepOk none all _ from trivial)]
      have hs : (S0 ++ [acc]).set k (acc ++ [h d]) = S0 ++ [acc ++ [h d]] := by rw [hk]; simp
      rw [hs, lc_loopF p h hk ds (acc ++ [h d]) (fun x hx => hd x (List.mem_cons_of_mem _ hx)) (by simp only [List.length_append, List.length_cons, List.length_nil] at hl ⊢; omega)]
      simp [hp]
    | false =>
      dsimp only
      rw [if_pos (show keepOk none all _ from trivial)]
      rw [lc_loopF p h hk ds acc (fun x hx => hd x (List.mem_cons_of_mem _ hx)) (by simp only [List.length_cons] at hl; omega)]
      simp [hp]
theorem lc_ret {ws : List Nat} {t : Tg} {f : Env → M (List D × KK)} {cond : Env → M Bool} {fe : Env → M SV} {ds : List D} (p : D → Bool) (h : D → D) (hf : f env = ret (ds, none))
    (hd : ∀ d ∈ ds, ∃ env1, setT t d (wipeE env ws) = some env1 ∧ cond env1 = ret (p d) ∧ (p d = true → fe env1 = ret (.d (h d)))) (hl : ds.length ≤ 16777216) (hcl : ∀ d, isOwn (h d) = false := by intro _; rfl) : eLc ws t f cond fe env = ret (.d (.lst ((ds.filter p).map h))) := by
  funext S
  unfold eLc
  rw [bnd_at (show f env S = some (.ok (ds, none), S) by rw [hf]; rfl)]
  dsimp only
  rw [lc_loopF p h rfl ds [] hd (by simpa using hl)]
  simp [ret, List.getElem?_append_right, cal_app, clsd_map hcl]
theorem lc_retO {ws : List Nat} {t : Tg} {f : Env → M (List D × KK)} {cond : Env → M Bool} {fe : Env → M SV} {ds : List D} (p : D → Bool) (h : D → D) (hf : f env = ret (ds, none))
    (hd : ∀ d ∈ ds, ∃ env1, setT t d (wipeE env ws) = some env1 ∧ cond env1 = ret (p d) ∧ (p d = true → fe env1 = ret (.d (h d)))) (hl : ds.length ≤ 16777216) (hcl : ∀ d, isOwn (h d) = false := by intro _; rfl) : eLcOwn ws t f cond fe env S = some (.ok (.ptr S.length), S ++ [(ds.filter p).map h]) := by
  unfold eLcOwn
  rw [bnd_at (show f env S = some (.ok (ds, none), S) by rw [hf]; rfl)]
  dsimp only
  rw [lc_loopF p h rfl ds [] hd (by simpa using hl)]
  simp [cal_app, clsd_map hcl]
/-- no test -/
theorem lc_all {ws : List Nat} {t : Tg} {f : Env → M (List D × KK)} {fe : Env → M SV} {ds : List D} (h : D → D) (hf : f env = ret (ds, none))
    (hd : ∀ d ∈ ds, ∃ env1, setT t d (wipeE env ws) = some env1 ∧ fe env1 = ret (.d (h d))) (hl : ds.length ≤ 16777216) (hcl : ∀ d, isOwn (h d) = false := by intro _; rfl) : eLc ws t f tYesD fe env = ret (.d (.lst (ds.map h))) := by
  rw [lc_ret (fun _ => true) h hf (fun d hm => by obtain ⟨e1, a, b⟩ := hd d hm; exact ⟨e1, a, rfl, fun _ => b⟩) hl hcl, List.filter_eq_self.mpr (fun _ _ => rfl)]
theorem st_R1 {c fld : Str} {f : Env → M SV} {x : D} {S' : Store} (h : f env S = some (.ok (.d x), S')) : sRaise1 c fld f env S = some (.er c [fld] [x] env, S') := by unfold sRaise1 lift; rw [h]
/-- f = e: a field of the object under way -/
theorem st_SetF {ok : Str → Str → Bool} {fld c : Str} {fo fe : Env → M SV} {x : D} {k : Nat} {fs : List Str} {l : List D} {S1 S2 : Store} (h1 : fe env S = some (.ok (.d x), S1)) (h2 : fo env S1 = some (.ok (.obj k), S2)) (h3 : S2[k]? = some [.ins c fs l]) (h4 : ok c fld = true ∧ fs.length < 1000) :
    sSetF ok fld fo fe env S = some (.nx env, S2.set k [.ins c (putD fld x fs l).1 (putD fld x fs l).2]) := by
  unfold sSetF lift
  rw [bnd_at h1, bnd_at h2]
  dsimp only [ret]
  rw [h3]
  dsimp only [fldD]
  rw [if_pos h4]
/-- .. a list of one's own -/
theorem st_SetFO {ok : Str → Str → Bool} {fld c : Str} {fo fe : Env → M SV} {j k : Nat} {fs : List Str} {l : List D} {S1 S2 : Store} (h1 : fe env S = some (.ok (.ptr j), S1)) (h2 : fo env S1 = some (.ok (.obj k), S2)) (h3 : S2[k]? = some [.ins c fs l]) (h4 : ok c fld = true ∧ fs.length < 1000) :
    sSetF ok fld fo fe env S = some (.nx env, S2.set k [.ins c (putD fld (.own j) fs l).1 (putD fld (.own j) fs l).2]) := by
  unfold sSetF lift
  rw [bnd_at h1, bnd_at h2]
  dsimp only [ret]
  rw [h3]
  dsimp only [fldD]
  rw [if_pos h4]
theorem fn_non {np n : Nat} {body : SM} {as : List SV} {env1 : Env} {S1 : Store} (hl : as.length = np) (h : body (as.map some ++ List.replicate (n - as.length) none) S = some (.nx env1, S1)) (hc : Cal S S1 := by (first | exact cal_refl _ | exact cal_app _ _ | exact cal_cons (calC_2 rfl) | exact cal_cons0 (calC_2 rfl) | exact cal_cons calC_ints | exact cal_cons0 calC_ints | (exact cal_cons (by assumption)) | (exact cal_cons0 (by assumption)))) : fnSem np n body as S = some (.ok (.d .non), S1.take S.length) := by
  unfold fnSem; rw [if_pos hl, h]; dsimp only; rw [if_pos hc]
theorem mk_ok {c : Str} {m : Fn} {as : List SV} {fs : List Str} {l : List D} {S1 : Store} (hn : noExc as = true) (h : m (.obj S.length :: as) (S ++ [[.ins c [] []]]) = some (.ok (.d .non), S1)) (h2 : S1[S.length]? = some [.ins c fs l]) (ho : l.any isOwn = false := by rfl) (hc : Cal S S1 := by (first | exact cal_refl _ | exact cal_app _ _ | exact cal_cons (calC_2 rfl) | exact cal_cons0 (calC_2 rfl) | exact cal_cons calC_ints | exact cal_cons0 calC_ints | (exact cal_cons (by assumption)) | (exact cal_cons0 (by assumption)))) : mkM c m as S = some (.ok (.d (.ins c fs l)), S1.take S.length) := by
  unfold mkM; rw [if_pos hn, h]; dsimp only; rw [h2]; dsimp only; rw [if_pos ⟨ho, hc⟩]
theorem mk_er {c e : Str} {m : Fn} {as : List SV} {fs : List Str} {l : List D} {S1 : Store} (hn : noExc as = true) (h : m (.obj S.length :: as) (S ++ [[.ins c [] []]]) = some (.err e fs l, S1)) (hc : Cal S S1 := by (first | exact cal_refl _ | exact cal_app _ _ | exact cal_cons (calC_2 rfl) | exact cal_cons0 (calC_2 rfl) | exact cal_cons calC_ints | exact cal_cons0 calC_ints | (exact cal_cons (by assumption)) | (exact cal_cons0 (by assumption)))) : mkM c m as S = some (.err e fs l, S1.take S.length) := by
  unfold mkM; rw [if_pos hn, h]; dsimp only; rw [if_pos hc]
theorem plains_of : ∀ {l : List D}, (∀ d ∈ l, plain d = true) → plains l = true
  | [], _ => rfl
  | d :: l, h => by
    simp only [plains, Bool.and_eq_true]
    exact ⟨h d List.mem_cons_self, plains_of fun x hx => h x (List.mem_cons_of_mem _ hx)⟩
theorem lay_of : ∀ {l : List D}, (∀ d ∈ l, PyData.canLay0 (toPy d) = true) → PyData.canLayAll0 (toPys l) = true
  | [], _ => by simp [toPys, PyData.canLayAll0]
  | d :: l, h => by
    simp only [toPys, PyData.canLayAll0, Bool.and_eq_true]
    exact ⟨h d List.mem_cons_self, lay_of fun x hx => h x (List.mem_cons_of_mem _ hx)⟩
theorem dep_of {n : Nat} : ∀ {l : List D}, (∀ d ∈ l, (toPy d).depth ≤ n) → PyData.depthAll (toPys l) ≤ n
  | [], _ => by simp [toPys, PyData.depthAll]
  | d :: l, h => by
    simp only [toPys, PyData.depthAll]
    exact Nat.max_le.mpr ⟨h d List.mem_cons_self, dep_of fun x hx => h x (List.mem_cons_of_mem _ hx)⟩
/-- can be compared: plain, and not deep -/
def Cmp (n : Nat) (d : D) : Prop := plain d = true ∧ PyData.canLay0 (toPy d) = true ∧ (toPy d).depth ≤ n
theorem Cmp.lst {n : Nat} {l : List D} (h : ∀ d ∈ l, Cmp n d) : Cmp (n + 1) (.lst l) := ⟨plains_of fun d hd => (h d hd).1, by
  simp only [toPy, PyData.canLay0]
  exact lay_of fun d hd => (h d hd).2.1, by
  simp only [toPy, PyData.depth]
  have := dep_of (l := l) fun d hd => (h d hd).2.2
  omega⟩
theorem Cmp.tup {n : Nat} {l : List D} (h : ∀ d ∈ l, Cmp n d) : Cmp (n + 1) (.tup l) := ⟨plains_of fun d hd => (h d hd).1, by
  simp only [toPy, PyData.canLay0]
  exact lay_of fun d hd => (h d hd).2.1, by
  simp only [toPy, PyData.depth]
  have := dep_of (l := l) fun d hd => (h d hd).2.2
  omega⟩
theorem Cmp.mono {n m : Nat} {d : D} (h : Cmp n d) (hn : n ≤ m) : Cmp m d := ⟨h.1, h.2.1, Nat.le_trans h.2.2 hn⟩
theorem Cmp.int (i : Int) : Cmp 0 (.int i) := ⟨rfl, by simp [toPy, PyData.canLay0], by simp [toPy, PyData.depth]⟩
theorem Cmp.str {i : Str} (h : PyData.strOk i = true) : Cmp 0 (.str i) := ⟨rfl, by simp [toPy, PyData.canLay0, h], by simp [toPy, PyData.depth]⟩
theorem Cmp.bl (i : Bool) : Cmp 0 (.bl i) := ⟨rfl, by simp [toPy, PyData.canLay0], by simp [toPy, PyData.depth]⟩
theorem Cmp.non : Cmp 0 .non := ⟨rfl, by simp [toPy, PyData.canLay0], by simp [toPy, PyData.depth]⟩
theorem Cmp.sh {n : Nat} {d : D} (h : Cmp n d) (hn : n ≤ 64) : SeqAt.shaped (toPy d) = true := by
  unfold SeqAt.shaped
  rw [h.2.1, Bool.true_and, decide_eq_true_eq]
  exact Nat.le_trans h.2.2 hn
theorem Cmp.ok {n m : Nat} {x y : D} (h : Cmp n x) (h' : Cmp m y) (hn : n ≤ 64) (hm : m ≤ 64) : eqOk x y = true := by
  unfold eqOk
  rw [h.1, h'.1, h.sh hn, h'.sh hm]
  rfl
theorem eqD_same {n : Nat} {d : D} (h : Cmp n d) : eqD d d = true := SeqAt.eqv_refl _ h.2.1
end
end DL
namespace DL
open PySem L2
/-- a class's own def, by its name -/
structure OwnM (P : Program) (w : World) (K : PySem.W.Frag) (mg : Str → Option Value) (base : Heap) (k : Nat) (c name : Str) (ps : List Str) (m : Fn) (C f : Addr) (fd : FuncData) : Prop where
  F : FnOk P w K mg base (L2N.CX P w) k f fd ps (spD K mg m)
  gC : mg c = some (.ref C)
  cl : Cls K C
  M : Meth K C name f
  b : Binds K fd ps []
section
variable {X : Cx} {W : WG} {P : Program} {k : Nat} {c name : Str} {ps : List Str} {m : Fn} {C f : Addr} {fd : FuncData} {x : Str} {p pos apos : Pos} {e o a b : Expr} {es : List Expr} {g h fo : Env → M SV} {fa : Env → M (List SV)}
/-- the callee runs, somewhere below the running body -/
theorem run_low {A : Around} {pins : List (Addr × Obj)} {σ : St} {H : Hp} {s : Shared} {Q : VK} {E : XK} {us : List Value} {vs : List V} {sp : Sp} (F : FnOk X.prog X.w X.K X.mg X.base (L2N.CX X.prog X.w) k f fd ps sp) (hr : Room k A) (hf : A.frames = X.A.frames) (hb : Binds X.K fd ps [])
    (hx : PassesAt (L2N.CX X.prog X.w) X σ E) (I : Inv X pins σ H s) (r : Vals vs us) (h : sp vs H Q E) : wpAny (model X.prog X.w) A (call (.ref f) us) (EP X pins σ Q) X.xe s := by
  have hl : us.length = ps.length := by rw [← r.length]; exact F.len _ _ _ _ h
  have bb := hb s us I.kIn (by rw [List.append_nil]; exact hl)
  rw [List.append_nil] at bb
  have e0 : Env0 X.prog X.w X.K X.mg X.base A X.stack s H := by
    have e := I.env0
    exact ⟨by rw [hf]; exact e.frames, e.mod, e.bs, e.bsz, e.funs, e.frf, e.hok, e.bare⟩
  refine wpAny_call (codeAny_mono (F.run A X.stack s H ⟨us, []⟩ us vs Q E hr e0 bb r h) fun r s' hq => ?_)
  cases r with
  | error e => exact hx pins H s e s' I hq
  | ok fl =>
    cases fl with
    | ret u => exact I.after hq
    | next => exact False.elim hq
    | brk => exact False.elim hq
    | cont => exact False.elim hq
/-- an object of the class -/
def isOf (c : Str) : SV → Bool
  | .d (.ins c' _ _) => c' == c
  | _ => false
theorem isOf_rep {K : PySem.W.Frag} {mg : Gm} {A : List Addr} {H : Hp} {sv : SV} {v : V} {C : Addr} (hc : mg.m c = some (.ref C)) (h : RepS K mg A H sv v) (e : isOf c sv = true) : ∃ q dx gs, v = .ref q ∧ H q = some (.ins C dx gs) := by
  unfold isOf at e
  split at e
  · rename_i c' fs l
    have ec : c' = c := by simpa using e
    subst ec
    have h1 : Rep K mg.m A H (.ins c' fs l) v := h
    simp only [Rep] at h1
    obtain ⟨q, C', dx, vs, e1, _, h2, h3, _, _⟩ := h1
    rw [hc] at h2
    cases h2
    exact ⟨q, dx, _, e1, h3⟩
  · cases e
/-- a mirror called with an object of the class ahead -/
def callO (c : Str) (cv : RR → M SV) (m : Fn) (as : List SV) : M SV := match as with
  | o :: r => if isOf c o = true then callM cv m (o :: r) else stuck
  | [] => stuck
theorem callO_step {cv : RR → M SV} (hcv : CvOk cv) {as : List SV} {vs : List V} {σ : St} {H : Hp} {A : List Addr} {S : Store} {r : R SV} {S' : Store} {Q : VK} (hc : X.mg c = some (.ref C)) (hS : Sta X.K (gm X W) A H S) (hx : RepSs X.K (gm X W) A H as vs)
    (he : callO c cv m as S = some (r, S')) (hp : Po X.K (gm X W) (relS X.K (gm X W)) W Q σ A H r S') (E : XK) (hE : ∀ cls d H', W.w cls d σ H' → E cls d H') : (∃ q dx gs vs', vs = .ref q :: vs' ∧ H q = some (.ins C dx gs)) ∧ spD X.K X.mg m vs H Q E := by
  cases as with
  | nil => cases he
  | cons o r0 =>
    unfold callO at he
    by_cases hi : isOf c o = true
    · dsimp only at he
      rw [if_pos hi] at he
      refine ⟨?_, call_step hcv hS hx he hp E hE⟩
      obtain ⟨v, vs', e1, h1, _⟩ := hx
      obtain ⟨q, dx, gs, e2, h2⟩ := isOf_rep (mg := gm X W) hc h1 hi
      subst e2
      exact ⟨q, dx, gs, vs', e1, h2⟩
    · dsimp only at he
      rw [if_neg hi] at he
      cases he
def tMethE (K : PySem.W.Frag) (C : Addr) (m : Str) (sp : Sp) (E : St → XK) (ta : TE) (t : TA) : TE := fun σ H Q => ta σ H fun x H1 => ∃ a dx fs, x = .ref a ∧ H1 a = some (.ins C dx fs) ∧ fs.lookup m = none ∧ t σ H1 fun vs H2 => sp (.ref a :: vs) H2 Q (E σ)
theorem pe_methE {sp : Sp} {E : St → XK} {ta : TE} {t : TA} {pl : Sem Bool} (he : PE X o ta) (c0 : Cls X.K C) (hm : Meth X.K C name f) (F : FnOk X.prog X.w X.K X.mg X.base (L2N.CX X.prog X.w) k f fd ps sp) (hr : Room k X.A) (hb : Binds X.K fd ps []) (hx : ∀ σ, PassesAt (L2N.CX X.prog X.w) X σ (E σ)) (ha : PA X (e :: es) t)
    (hst : starEach (e :: es) X.env = (false, eval e X.env) :: starEach es X.env := by rfl) (hpl : (backTo pos (starEach es X.env)).any (·.1) = false := by rfl)
    (ht : eval (.Call (.Attribute o name apos) (e :: es) [] pos) X.env = (do
      let ov ← eval o X.env
      standAt apos.atName
      let (f, first) ← holding [ov] (getMethod ov name pl)
      callWith pos f first (backTo pos (starEach (e :: es) X.env)) (backToKw pos (keywordEach [] X.env))) := by rfl) :
    PE X (.Call (.Attribute o name apos) (e :: es) [] pos) (tMethE X.K C name sp E ta t) := by
  refine ⟨fun pins s σ H Q I h => ?_⟩
  refine PySem.W.methodCall_KW (pl := pl) (thn (he.run pins s σ H _ I h) fun u s1 ⟨x, H1, I1, rx, a, dx, fs, ex, ea, l, q⟩ => ?_) ht
  subst ex
  obtain rfl : u = Value.ref a := rx
  refine getmeth_ok I1 ea c0 hm l ?_
  refine PySem.W.callWith_K (first := [.ref a]) (h₀ := X.base) I.ok.mod.kin hm.kp (thn (ha.run pos pins s1 σ H1 _ I1 q) fun us s2 ⟨vs, H2, I2, r, q2⟩ => ⟨I2.kIn, ?_⟩) hst hpl
  exact run_low (us := .ref a :: us) (vs := .ref a :: vs) F hr rfl hb (hx σ) I2 (.cons rfl r) q2
theorem pe_methE0 {sp : Sp} {E : St → XK} {ta : TE} {pl : Sem Bool} (he : PE X o ta) (c0 : Cls X.K C) (hm : Meth X.K C name f) (F : FnOk X.prog X.w X.K X.mg X.base (L2N.CX X.prog X.w) k f fd ps sp) (hr : Room k X.A) (hb : Binds X.K fd ps []) (hx : ∀ σ, PassesAt (L2N.CX X.prog X.w) X σ (E σ))
    (ht : eval (.Call (.Attribute o name apos) [] [] pos) X.env = (do
      let ov ← eval o X.env
      standAt apos.atName
      let (f, first) ← holding [ov] (getMethod ov name pl)
      callWith pos f first (backTo pos (starEach [] X.env)) (backToKw pos (keywordEach [] X.env))) := by rfl) :
    PE X (.Call (.Attribute o name apos) [] [] pos) (tMethE X.K C name sp E ta tNil) := by
  refine ⟨fun pins s σ H Q I h => ?_⟩
  refine PySem.W.methodCall_KW (pl := pl) (thn (he.run pins s σ H _ I h) fun u s1 ⟨x, H1, I1, rx, a, dx, fs, ex, ea, l, q⟩ => ?_) ht
  subst ex
  obtain rfl : u = Value.ref a := rx
  refine getmeth_ok I1 ea c0 hm l ?_
  exact PySem.W.callWith_K0 (first := [.ref a]) I1.kIn hm.kp (run_low (us := [.ref a]) (vs := [.ref a]) F hr rfl hb (hx σ) I1 (.cons rfl .nil) q)
/-- no field of it has the name -/
def noFld (c name : Str) : SV → Bool
  | .d (.ins c' fs _) => c' == c && !fs.contains name
  | _ => false
theorem lookup_none {name : Str} : ∀ {fs : List Str} {vs : List V}, fs.contains name = false → (fs.zip vs).lookup name = none
  | [], vs, _ => by cases vs <;> rfl
  | g :: fs, [], _ => rfl
  | g :: fs, v :: vs, h => by
    rw [List.contains_cons, Bool.or_eq_false_iff] at h
    rw [List.zip_cons_cons, List.lookup, h.1]
    exact lookup_none h.2
theorem noFld_rep {K : PySem.W.Frag} {mg : Gm} {A : List Addr} {H : Hp} {sv : SV} {v : V} {C : Addr} (hc : mg.m c = some (.ref C)) (h : RepS K mg A H sv v) (e : noFld c name sv = true) : ∃ q dx gs, v = .ref q ∧ H q = some (.ins C dx gs) ∧ gs.lookup name = none := by
  unfold noFld at e
  split at e
  · rename_i c' fs l
    rw [Bool.and_eq_true] at e
    have ec : c' = c := by simpa using e.1
    subst ec
    have h1 : Rep K mg.m A H (.ins c' fs l) v := h
    simp only [Rep] at h1
    obtain ⟨q, C', dx, vs, e1, _, h2, h3, _, _⟩ := h1
    rw [hc] at h2
    cases h2
    exact ⟨q, dx, _, e1, h3, lookup_none (by simpa using e.2)⟩
  · cases e
def eMeth (c name : Str) (cv : RR → M SV) (m : Fn) (fo : Env → M SV) (fa : Env → M (List SV)) : Env → M SV := fun env => bnd (fo env) fun o => if noFld c name o = true then bnd (fa env) fun as => callM cv m (o :: as) else stuck
theorem tok_meth {cv : RR → M SV} (hcv : CvOk cv) {ta : TE} {t : TA} (hc : X.mg c = some (.ref C)) (ko : TOk X.K (gm X W) (relS X.K (gm X W)) W ta fo) (ka : TOk X.K (gm X W) (relA X.K (gm X W)) W t fa) :
    TOk X.K (gm X W) (relS X.K (gm X W)) W (tMethE X.K C name (spD X.K X.mg m) (WE W.w) ta t) (eMeth c name cv m fo fa) := by
  refine tbind (rel := relS X.K (gm X W)) (rel2 := relS X.K (gm X W)) (g := fun env o => if noFld c name o = true then bnd (fa env) fun as => callM cv m (o :: as) else stuck)
    (tk := fun x σ H1 Q => ∃ a dx fs, x = .ref a ∧ H1 a = some (.ins C dx fs) ∧ fs.lookup name = none ∧ t σ H1 fun vs H2 => spD X.K X.mg m (.ref a :: vs) H2 Q (WE W.w σ)) ko fun a v σ H A S env r S' hS hE hx he Q hp => ?_
  by_cases hn : noFld c name a = true
  · rw [if_pos hn] at he
    obtain ⟨q, dx, gs, e1, h1, h2⟩ := noFld_rep (mg := gm X W) hc hx hn
    subst e1
    refine ⟨q, dx, gs, rfl, h1, h2, ?_⟩
    rcases bnd_some he with ⟨as, S1, ef, q2⟩ | ⟨c, fs, l, ef, rfl⟩
    · exact ka σ H A S env _ S1 hS hE ef _ fun vs A1 H1 e1 s1 r1 => call_step hcv s1 (as := a :: as) (vs := .ref q :: vs) ⟨.ref q, vs, rfl, RepS.mono e1 hx, r1⟩ q2 (hp.mono e1) _ fun _ _ _ h => h
    · exact ka σ H A S env _ _ hS hE ef _ hp
  · rw [if_neg hn] at he; cases he
theorem de_meth0 {cv : RR → M SV} (hcv : CvOk cv) {pl : Sem Bool} (M0 : OwnM X.prog X.w X.K X.mg X.base k c name ps m C f fd) (hr : Room k X.A) (tk : L2N.Takes X W.w) (ho : DE X W o fo)
    (ht : eval (.Call (.Attribute o name apos) [] [] pos) X.env = (do
      let ov ← eval o X.env
      standAt apos.atName
      let (f, first) ← holding [ov] (getMethod ov name pl)
      callWith pos f first (backTo pos (starEach [] X.env)) (backToKw pos (keywordEach [] X.env))) := by rfl) :
    DE X W (.Call (.Attribute o name apos) [] [] pos) (eMeth c name cv m fo aNil) := by
  obtain ⟨ta, po, ko⟩ := ho
  exact ⟨_, pe_methE0 (pl := pl) po M0.cl M0.M M0.F hr M0.b (fun σ => L2N.passAt tk σ) ht, tok_meth hcv M0.gC ko (t := tNil) (fun σ H A S env r S' hS hE he Q hp => by cases he; exact hp.val hS rfl)⟩
/-- what is asked may hang on the slots -/
def ROk' (X : Cx) (W : WG) (r : St → R2) (o : SV → SV → M SV) : Prop := ∀ (a b : SV) (x y : V) (σ : St) (H : Hp) (A : List Addr) (S : Store) (rr : R SV) (S' : Store), Sta X.K (gm X W) A H S → RepS X.K (gm X W) A H a x → RepS X.K (gm X W) A H b y → o a b S = some (rr, S') → ∀ Q, Po X.K (gm X W) (relS X.K (gm X W)) W Q σ A H rr S' → r σ x y H Q
def OpR' (X : Cx) (f : Value → Value → Sem Value) (r : St → R2) : Prop :=
  ∀ (pins : List (Addr × Obj)) (s : Shared) (σ : St) (H : Hp) (x y : V) (v u : Value) (Q : VK), Inv X pins σ H s → RelV x v → RelV y u → r σ x y H Q → wpAny (model X.prog X.w) X.A (f v u) (EP X pins σ Q) X.xe s
end
end DL
namespace DL
open PySem L2
open PyProof.Rows (subscriptTail Subscript_)
section
variable {X : Cx} {W : WG} {k : Nat} {c name : Str} {ps : List Str} {m : Fn} {C f : Addr} {fd : FuncData} {x : Str} {p pos apos : Pos} {e o a b : Expr} {es : List Expr} {g h fo : Env → M SV} {fa : Env → M (List SV)} {ta tb : TE}
def tOp' (r : St → R2) (ta tb : TE) : TE := fun σ H Q => ta σ H fun x H1 => tb σ H1 fun y H2 => r σ x y H2 Q
theorem pe_cmp' {op : CmpOp} {r : St → R2} (ho : OpR' X (compareOp op) r) (ha : PE X a ta) (hb : PE X b tb) (hm : behindInMarks op b = false) : PE X (.Compare a [op] [b] pos) (tOp' r ta tb) :=
  ⟨fun pins s σ H Q I h => wpAny_Compare1 (binT ha hb (R := fun x y H2 => r σ x y H2 Q) I h fun v u s2 x y H2 I2 rx ry q => ho pins s2 σ H2 x y v u Q I2 rx ry q) hm⟩
theorem tok_op' {r : St → R2} {o : SV → SV → M SV} (hr : ROk' X W r o) (ka : TOk X.K (gm X W) (relS X.K (gm X W)) W ta g) (kb : TOk X.K (gm X W) (relS X.K (gm X W)) W tb h) : TOk X.K (gm X W) (relS X.K (gm X W)) W (tOp' r ta tb) (eOp o g h) :=
  tbind2 ka kb fun x y u v σ H A S r S' hS hx hy he Q hp => hr x y u v σ H A S r S' hS hx hy he Q hp
/-- the mirror of an own operator; the answer's kind is asked where Python asks -/
def oOwn (c : Str) (m : Fn) (x y : SV) : M SV := callO c asPure m [x, y]
def rOwnE (X : Cx) (W : WG) (C : Addr) (m : Fn) (σ : St) : R2 := fun x y H Q => (∃ q dx gs, x = .ref q ∧ H q = some (.ins C dx gs)) ∧ spD X.K X.mg m [x, y] H Q (WE W.w σ)
theorem rok_own (hc : X.mg c = some (.ref C)) : ROk' X W (rOwnE X W C m) (oOwn c m) := by
  intro a b x y σ H A S rr S' hS hx hy he Q hp
  obtain ⟨⟨q, dx, gs, vs', e1, h1⟩, h2⟩ := callO_step (.inl rfl) hc hS (as := [a, b]) (vs := [x, y]) ⟨x, [y], rfl, hx, y, [], rfl, hy, rfl⟩ he hp _ fun _ _ _ h => h
  cases e1
  exact ⟨⟨q, dx, gs, rfl, h1⟩, h2⟩
end
end DL
namespace DL
open PySem L2
structure IsC (K : PySem.W.Frag) (C : Addr) : Prop where
  cl : Cls K C
  ca : PySem.W.findIn K (.ref C) "__class__" = some (some (.builtin "object.__class__"))
  cn : PySem.W.specialIn K (.builtin "object.__class__") "__get__" = some (some (.builtin "getset_descriptor.__get__"))
  ct : PySem.W.takesIn K (.builtin "object.__class__") = some true
  cm : PySem.W.mroIn K C (.type "object") = some true
  jC : PySem.W.isClsIn K C = true
  tC : PySem.W.typeIn K (.ref C) = some (.type "type")
def tyNames : List String := ["NoneType", "bool", "int", "str", "list", "tuple"]
theorem sub_ty {K : PySem.W.Frag} {C : Addr} : ∀ T ∈ tyNames, PySem.W.subIn K (.type T) (.ref C) = some false := by
  intro T hT
  simp only [tyNames, List.mem_cons, List.not_mem_nil, or_false] at hT
  rcases hT with rfl | rfl | rfl | rfl | rfl | rfl <;> kernel_rfl
theorem notFirst_ty {K : PySem.W.Frag} {C : Addr} {T : String} (h : T ∈ tyNames) : PySem.W.notFirst K C (.type T) = true := by
  unfold PySem.W.notFirst
  rw [sub_ty T h]
  simp
theorem kit_own {K : PySem.W.Frag} {C : Addr} : PySem.W.kitOne K (.ref C) (.ref C) = some true := by
  unfold PySem.W.kitOne
  rw [if_pos (by simp)]
theorem kit_ty_own {K : PySem.W.Frag} {C : Addr} {T : String} (i : IsC K C) (h : T ∈ tyNames) : PySem.W.kitOne K (.type T) (.ref C) = some false := by
  have e5 : (PySem.W.clsIn K C).isSome = true := i.jC
  unfold PySem.W.kitOne PySem.W.kitCls
  simp [e5, i.tC, sub_ty T h]
theorem tyN_mem {sv : SV} {T : String} (h : tyN sv = some T) : T ∈ tyNames := by
  unfold tyN at h
  split at h <;> first | (cases h; simp [tyNames]; done) | cases h
section
variable {X : Cx} {W : WG} {k : Nat} {c name : Str} {ps : List Str} {m : Fn} {C f : Addr} {fd : FuncData} {x : Str} {p pos apos : Pos} {e o a b : Expr} {es : List Expr} {g h fo : Env → M SV} {fa : Env → M (List SV)} {ta tb : TE}
/-- the other side: of the same class, or of a built-in type -/
def Side (K : PySem.W.Frag) (C : Addr) (y : V) (H : Hp) : Prop := (∃ q dx gs, y = .ref q ∧ H q = some (.ins C dx gs)) ∨ ∃ T, T ∈ tyNames ∧ TyX K H y (.type T)
def sideB (c : Str) (y : SV) : Bool := isOf c y || (tyN y).isSome
theorem side_rep {A : List Addr} {H : Hp} {S : Store} {sv : SV} {v : V} (hc : X.mg c = some (.ref C)) (hS : Sta X.K (gm X W) A H S) (h : RepS X.K (gm X W) A H sv v) (e : sideB c sv = true) : Side X.K C v H := by
  unfold sideB at e
  rcases Bool.or_eq_true_iff.mp e with e | e
  · exact .inl (isOf_rep (mg := gm X W) hc h e)
  · obtain ⟨T, hT⟩ := Option.isSome_iff_exists.mp e
    exact .inr ⟨T, tyN_mem hT, tyN_rep hS h hT⟩
/-- o == v -/
def oEqO (c : Str) (m : Fn) (x y : SV) : M SV := if sideB c y = true then oOwn c m x y else stuck
theorem rok_eqO (hc : X.mg c = some (.ref C)) : ROk' X W (fun σ x y H Q => rOwnE X W C m σ x y H Q ∧ Side X.K C y H) (oEqO c m) := by
  intro a b x y σ H A S rr S' hS hx hy he Q hp
  unfold oEqO at he
  by_cases hs : sideB c b = true
  · rw [if_pos hs] at he
    exact ⟨rok_own hc a b x y σ H A S rr S' hS hx hy he Q hp, side_rep hc hS hy hs⟩
  · rw [if_neg hs] at he; cases he
theorem op_eqO' (M0 : OwnM X.prog X.w X.K X.mg X.base k c "__eq__" ps m C f fd) (hr : Room k X.A) (tk : L2N.Takes X W.w) : OpR' X (compareOp .Eq) (fun σ x y H Q => rOwnE X W C m σ x y H Q ∧ Side X.K C y H) := by
  intro pins s σ H x y v u Q I rx ry h
  obtain ⟨⟨⟨q0, dx, gs, rfl, h1⟩, h2⟩, hs⟩ := h
  cases (show v = Value.ref q0 from rx)
  obtain ⟨mA, O, _⟩ := ins_get I.hok h1
  obtain ⟨od, J, _⟩ := O.look
  obtain ⟨m0, hF⟩ := I.fr
  show wpAny (model X.prog X.w) X.A (richCompare .Eq (.ref q0) u) (EP X pins σ Q) X.xe s
  have run := wpAny_mono (run_low (us := [.ref q0, u]) (vs := [.ref q0, y]) M0.F hr rfl M0.b (L2N.passAt tk σ) I (.cons rfl (.cons ry .nil)) h2) (Q' := PySem.W.CmpBack (EP X pins σ Q)) (E' := X.xe) (fun w s' z => by
    obtain ⟨z', H', I', rz, qz⟩ := z
    exact SlX.cmpback rz ⟨z', H', I', rz, qz⟩) fun _ _ x => x
  rcases hs with ⟨q1, dx1, gs1, rfl, h3⟩ | ⟨T, hT, ty⟩
  · cases (show u = Value.ref q1 from ry)
    obtain ⟨mA', O', _⟩ := ins_get I.hok h3
    obtain ⟨od', J', _⟩ := O'.look
    exact PySem.W.cmp_K (op := .Eq) (tb := .ref C) hr.units0 hF I.ok.mod.kin J J'.type (by simp [PySem.W.notFirst]) M0.M.at_ M0.M.fn run
  · obtain ⟨P, Z, pz, hx⟩ := kit_of I ry ty
    exact PySem.W.cmp_K (op := .Eq) (tb := .type T) hr.units0 hF I.ok.mod.kin J (Z.ty _ _ I.kIn pz) (notFirst_ty hT) M0.M.at_ M0.M.fn run
theorem de_eqO (M0 : OwnM X.prog X.w X.K X.mg X.base k c "__eq__" ps m C f fd) (hr : Room k X.A) (tk : L2N.Takes X W.w) (ha : DE X W a g) (hb : DE X W b h) (hm : behindInMarks .Eq b = false := by exact nomark _) : DE X W (.Compare a [.Eq] [b] pos) (eOp (oEqO c m) g h) := by
  obtain ⟨ta, pa, ka⟩ := ha
  obtain ⟨tb, pb, kb⟩ := hb
  exact ⟨_, pe_cmp' (op_eqO' M0 hr tk) pa pb hm, tok_op' (rok_eqO M0.gC) ka kb⟩
theorem de_cls {C : Addr} (hg : Gl X c) (hm : X.mg c = some (.ref C)) (hd : (c == ("__debug__" : Str)) = false := by decide) : DE X W (.Name c pos) (eC (.cls c)) :=
  ⟨_, pe_glob hg hm (show RelV (V.ref C) (Value.ref C) from rfl) hd, tok_c fun _ _ => by simp only [Rep]; exact ⟨C, hm, rfl⟩⟩
def bIsiC (c : Str) : List SV → M SV
  | [x, .d (.cls c')] => if c' = c then (if isOf c x = true then ret (.d (.bl true)) else if (tyN x).isSome = true then ret (.d (.bl false)) else stuck) else stuck
  | _ => stuck
theorem cok_isiC (hc : X.mg c = some (.ref C)) (i : IsC X.K C) : COk X W (rIsi X.K) (bIsiC c) := by
  intro as vs σ H A S rr S' hS hx he Q hp
  unfold bIsiC at he
  split at he
  · rename_i a c'
    obtain ⟨v, u, rfl, h1, h2⟩ := reps2 hx
    have h2 : Rep X.K X.mg A H (.cls c') u := h2
    simp only [Rep] at h2
    obtain ⟨C', hc', rfl⟩ := h2
    by_cases e1 : c' = c
    · rw [if_pos e1] at he
      subst e1
      have : C' = C := by
        have := hc'.symm.trans hc
        injection this with z; injection z
      subst this
      by_cases e2 : isOf c' a = true
      · rw [if_pos e2] at he
        cases he
        obtain ⟨q, dx, gs, rfl, h3⟩ := isOf_rep (mg := gm X W) hc h1 e2
        exact ⟨.ref q, .ref C', .ref C', .ref C', true, rfl, .own C', .base (.ins h3 i.cl i.ca i.cn i.ct i.cm), kit_own, hp.val hS (show Rep X.K X.mg A H (.bl _) _ by simp only [Rep])⟩
      · rw [if_neg e2] at he
        by_cases e3 : (tyN a).isSome = true
        · rw [if_pos e3] at he
          cases he
          obtain ⟨T, hT⟩ := Option.isSome_iff_exists.mp e3
          exact ⟨v, .ref C', .type T, .ref C', false, rfl, .own C', tyN_rep hS h1 hT, kit_ty_own i (tyN_mem hT), hp.val hS (show Rep X.K X.mg A H (.bl _) _ by simp only [Rep])⟩
        · rw [if_neg e3] at he; cases he
    · rw [if_neg e1] at he; cases he
  · cases he
end
end DL
namespace DLW
open PySem PySem.W PySem.Calls PyProof.Rows
section
variable {prog : Program} {w : World} {A : Around} {E : Value → Shared → Prop} {s : Shared} {K : Frag} {x C L f : Addr} {h₀ : Heap} {m : Str → Option Value} {ox : Obj} {od : Option Obj}
theorem binopI_K {op : Operator} {b : Value} {U : String} {Q : Value → Shared → Prop} {z : Option Value} (F : Fr h₀ L s.heap m) (X₀ : K.In h₀) (I : InstAt s.heap x ox C od) (hb : Looks (model prog w) s.heap (typeOf b) (.type U)) (hc : selfFirst K C = true)
    (hs : findIn K (.ref C) (dunder op.info.2) = some (some (.ref f))) (hf : isFn K (.ref f) = true) (hr0 : findIn K (.ref C) (dunderR op.info.2) = some none)
    (hfU : fillsNumberSlot (.type U) op.info.2 = pure true) (hsub : PySem.W.subIn K (.type U) (.ref C) = some false) (hrU : typeLookup (.type U) (dunderR op.info.2) = pure z)
    (h : wpAny (model prog w) A (call (.ref f) [.ref x, b]) (PySem.W.CmpBack Q) E s) : wpAny (model prog w) A (binaryOp op (.ref x) b) Q E s := by
  have X := X₀.keeps F.keep
  obtain ⟨cd, hcd, hm⟩ := any_some hc
  obtain ⟨rest, hm⟩ : ∃ rest, cd.mro = .ref C :: rest := by
    cases q : cd.mro with
    | nil => rw [q] at hm; cases hm
    | cons a r => rw [q] at hm; exact ⟨r, by rw [List.head?_cons] at hm; cases (beq_iff_eq.mp hm); rfl⟩
  rcases hi : op.info with ⟨sym, nm⟩
  rw [hi] at hs hr0 hfU hrU
  dsimp only at hs hr0 hfU hrU
  simp only [binaryOp, hi]
  refine wpAny_holding (wpAny_bind ?_)
  unfold binaryOp1
  refine wpAny_bind (I.type.here (wpAny_bind (hb.here (wpAny_bind ((fills_K X hcd hm hs).here ?_)))))
  have hne : (Value.ref C == Value.type U) = false := by simp
  simp only [hne, Bool.false_eq_true, if_false]
  refine wpAny_bind (wpAny_of_eq hfU ?_)
  simp only [Bool.and_self, if_true]
  refine wpAny_bind ((looks_subIn X hsub).here ?_)
  simp only [Bool.false_eq_true, if_false, pure_bind, Bool.not_false, Bool.and_self, if_true]
  have np : wpAny (model prog w) A (numberSlotInPython (.ref C) nm) (fun b s' => b = true ∧ s' = s) E s := by
    unfold numberSlotInPython
    refine wpAny_bind ((looks_findIn X hs).here ?_)
    refine wpAny_bind (wpAny_pure ?_)
    refine wpAny_bind ((looks_findIn X hr0).here ?_)
    refine wpAny_bind (wpAny_pure ?_)
    exact wpAny_pure ⟨rfl, rfl⟩
  refine wpAny_bind (wpAny_mono np (fun b s' hb => ?_) fun _ _ x => x)
  obtain ⟨rfl, rfl⟩ := hb
  rw [if_pos rfl]
  refine wpAny_bind (wpAny_of_eq (show numberSlotInPython (.type U) nm = pure false from rfl) ?_)
  rw [if_pos (show (!false) = true from rfl)]
  refine wpAny_bind (wpAny_of_eq hrU ?_)
  rw [if_pos rfl]
  refine wpAny_bind (m := tryMethod (.ref x) _ b) ?_
  unfold tryMethod
  refine wpAny_bind (special_fn X I hs (beq_iff_eq.mp hf) (wpAny_mono h (fun v s' hv => ?_) fun _ _ e => e))
  cases v <;> first | exact hv.elim | exact wpAny_pure (wpAny_pure (wpAny_pure hv))
end
end DLW
namespace DL
open PySem L2
open DLW (binopI_K)
section
variable {X : Cx} {W : WG} {k : Nat} {c name : Str} {ps : List Str} {m : Fn} {C f : Addr} {fd : FuncData} {x : Str} {p pos apos : Pos} {e o a b : Expr} {es : List Expr} {g h fo : Env → M SV} {fa : Env → M (List SV)} {ta tb : TE}
/-- what is walked: data, with nothing to be kept -/
def seqD : SV → Option (Bool × List D)
  | .d (.lst l) => some (true, l)
  | .d (.scr l) => some (true, l)
  | .d (.tup l) => some (false, l)
  | _ => none
theorem seqD_rep {K : PySem.W.Frag} {mg : Gm} {A : List Addr} {H : Hp} {sv : SV} {l : List D} {v : V} {b : Bool} (h : RepS K mg A H sv v) (e : seqD sv = some (b, l)) :
    ∃ a vs, v = .ref a ∧ Reps K mg.m A H l vs ∧ (b = true → SqX K A H a vs) ∧ (b = false → a ∉ A ∧ H a = some (.tup vs)) := by
  unfold seqD at e
  split at e
  · cases e
    have h1 : Rep K mg.m A H (.lst l) v := h
    simp only [Rep] at h1
    obtain ⟨a, vs, e1, n, h2, h3⟩ := h1
    exact ⟨a, vs, e1, h3, fun _ => .inl ⟨.inl h2, n⟩, fun z => by cases z⟩
  · cases e
    have h1 : Rep K mg.m A H (.scr l) v := h
    simp only [Rep] at h1
    obtain ⟨a, vs, e1, h2, h3⟩ := h1
    exact ⟨a, vs, e1, h3, fun _ => h2, fun z => by cases z⟩
  · cases e
    have h1 : Rep K mg.m A H (.tup l) v := h
    simp only [Rep] at h1
    obtain ⟨a, vs, e1, n, h2, h3⟩ := h1
    exact ⟨a, vs, e1, h3, (fun z => by cases z), fun _ => ⟨n, h2⟩⟩
  · cases e
def pairD : List D → List D → List D
  | x :: xs, y :: ys => .tup [x, y] :: pairD xs ys
  | _, _ => []
theorem pairD_length : ∀ xs ys : List D, (pairD xs ys).length = min xs.length ys.length
  | [], ys => by simp [pairD]
  | x :: xs, [] => by simp [pairD]
  | x :: xs, y :: ys => by simp [pairD, pairD_length xs ys]
theorem pairD_get : ∀ {xs ys : List D} {i : Nat} {d : D}, (pairD xs ys)[i]? = some d → ∃ x y, xs[i]? = some x ∧ ys[i]? = some y ∧ d = .tup [x, y]
  | [], ys, i, d, h => by simp [pairD] at h
  | x :: xs, [], i, d, h => by simp [pairD] at h
  | x :: xs, y :: ys, 0, d, h => by simp [pairD] at h; exact ⟨x, y, rfl, rfl, h.symm⟩
  | x :: xs, y :: ys, i + 1, d, h => by
    simp only [pairD, List.getElem?_cons_succ] at h ⊢
    exact pairD_get h
def walkZ : List SV → M (List D × KK)
  | [x, y] => match seqD x, seqD y with
    | some (b, l), some (b', l') => if b = b' then ret (pairD l l', none) else ret (pairD l l', none)
    | _, _ => stuck
  | _ => stuck
theorem rep_pair {K : PySem.W.Frag} {mg : Str → Option Value} {A : List Addr} {H : Hp} {T : Addr} {x y : D} {v u : V} (hT : H T = none) (hA : T ∉ A) (rx : Rep K mg A H x v) (ry : Rep K mg A H y u) : Rep K mg A (upd H T (.tup [v, u])) (.tup [x, y]) (.ref T) := by
  simp only [Rep]
  exact ⟨T, [v, u], rfl, hA, upd_same, by simp only [Reps]; exact ⟨v, [u], rfl, Rep.mono (Ext.new hT) x v rx, u, [], rfl, Rep.mono (Ext.new hT) y u ry, rfl⟩⟩
end
end DL
namespace DL
open PySem L2
/-- a list (true) or a tuple (false) as it stands -/
def SqB (b : Bool) (K : PySem.W.Frag) (H : Hp) (a : Addr) (xs : List V) : Prop := match b with
  | true => SqL K H a xs
  | false => SqT K H a xs
def ItB (b : Bool) (h : Heap) (it l : Addr) (i : Nat) : Prop := match b with
  | true => h.IsListIter it l i
  | false => h.IsTupleIter it l i
def SeB (b : Bool) (h : Heap) (l : Addr) (its : Array Value) : Prop := match b with
  | true => h.IsList l its
  | false => h.IsTuple l its
def obB (b : Bool) (l : Addr) : Obj := match b with
  | true => { cls := .type "list_iterator", data := .fields #[.ref l, .int 0 0] }
  | false => { cls := .type "tuple_iterator", data := .fields #[.ref l, .int 0 0] }
theorem drB (b : Bool) {prog : Program} {w : World} {A : Around} (hh : A.handled = none) (it l : Addr) (hne : l ≠ it) (its : Array Value) :
    Draws prog w A it [it, l] its.size (fun i v => its[i]? = some v) (fun i h => ItB b h it l i ∧ SeB b h l its) := match b with
  | true => Draws.list hh it l hne its
  | false => Draws.tuple hh it l hne its
theorem beB (b : Bool) (l : Addr) (its : Array Value) : Begins (.ref l) (obB b l) fun h => SeB b h l its := match b with
  | true => begins_list l its
  | false => begins_tuple l its
theorem itB0 {b : Bool} {h : Heap} {it l : Addr} (e : h.get? it = some (obB b l)) : ItB b h it l 0 := by
  cases b
  · exact ⟨_, e, rfl, rfl⟩
  · exact ⟨_, e, rfl, rfl⟩
theorem ItB.up {b : Bool} {h h' : Heap} {it l : Addr} {i : Nat} (q : ItB b h it l i) (k : ∀ o, h.get? it = some o → h'.get? it = some o) : ItB b h' it l i := by
  cases b
  · exact Heap.IsTupleIter.at q fun o e => k o e
  · exact Heap.IsListIter.at q fun o e => k o e
theorem ItB.ob {b : Bool} {h : Heap} {it l : Addr} {i : Nat} (q : ItB b h it l i) : ∃ o, h.get? it = some o ∧ ∀ v, o.data ≠ .cell v := by
  cases b <;> (obtain ⟨o, e, _, d⟩ := q; exact ⟨o, e, fun v z => by rw [d] at z; cases z⟩)
theorem SeB.lt {b : Bool} {h : Heap} {l : Addr} {its : Array Value} (q : SeB b h l its) : l < h.objs.size := by
  cases b
  · obtain ⟨o, e, _⟩ := q; exact Heap.lt_size e
  · obtain ⟨o, e, _⟩ := q; exact Heap.lt_size e
theorem inB {b : Bool} {X : Cx} {pins : List (Addr × Obj)} {σ : L2.St} {H : Hp} {s : Shared} {a : Addr} {xs : List V} (I : Inv X pins σ H s) (q : SqB b X.K H a xs) : ∃ its : List Value, Vals xs its ∧ SeB b s.heap a its.toArray := by
  cases b
  · obtain ⟨its, r, p, _⟩ := I.tuple q; exact ⟨its, r, p⟩
  · obtain ⟨its, r, p, _⟩ := I.list q; exact ⟨its, r, p.isList⟩
theorem injB {b : Bool} {X : Cx} {pins : List (Addr × Obj)} {σ : L2.St} {H : Hp} {s : Shared} {a : Addr} {xs ys : List V} (I : Inv X pins σ H s) (q : SqB b X.K H a xs) (q' : SqB b X.K H a ys) : xs = ys := by
  cases b
  · exact I.tuple_inj q q'
  · exact I.list_inj q q'
/-- what a zip draws -/
def ItzB (b1 b2 : Bool) (K : PySem.W.Frag) (a b : Addr) : It where
  go := fun i H => ∃ (xs ys : List V) (x y : V), SqB b1 K H a xs ∧ SqB b2 K H b ys ∧ xs[i]? = some x ∧ ys[i]? = some y
  yld := fun i H v H' => ∃ T x y, v = .ref T ∧ H T = none ∧ H' = upd H T (.tup [x, y]) ∧ (∀ xs, SqB b1 K H a xs → xs[i]? = some x) ∧ ∀ ys, SqB b2 K H b ys → ys[i]? = some y
  stop := fun i H => ∃ xs ys : List V, SqB b1 K H a xs ∧ SqB b2 K H b ys ∧ (i ≤ xs.length ∧ i ≤ ys.length ∧ (i = xs.length ∨ i = ys.length))
theorem sepB {z TI TO i1 i2 a b : Addr} (D : ZipApart z TI TO i1 i2 a b) : ZipSep2 z TI TO i1 i2 [i1, a] [i2, b] := by
  have d12 := D.i12
  constructor
  all_goals (try simp only [List.mem_cons, List.not_mem_nil, or_false, not_or])
  · exact D.TIz
  · exact D.TOz
  · exact D.TITO
  · exact D.TIi1
  · exact .inl trivial
  · exact ⟨D.i1z.symm, D.l1z.symm⟩
  · exact ⟨D.TOi1, D.l1TO.symm⟩
  · exact D.TIi2
  · exact .inl trivial
  · exact ⟨D.i2z.symm, D.l2z.symm⟩
  · exact ⟨D.TOi2, D.l2TO.symm⟩
  · exact ⟨d12, D.l2i1.symm⟩
  · exact ⟨d12.symm, D.l1i2.symm⟩
theorem turn_zipB {b1 b2 : Bool} {P : Program} {w : World} {K : PySem.W.Frag} {elts : List Expr} {kk : Nat} {tpos : Pos} {a b z TI TO i1 i2 : Addr} (D : ZipApart z TI TO i1 i2 a b) :
    Turn P w K (.Tuple elts kk tpos) (ItzB b1 b2 K a b) [z, TI, TO, i1, i2] z (fun i h => IsZip h z TI TO .none ∧ IsTupOf2 h TI (.ref i1) (.ref i2) ∧ (∃ x y, IsTupOf2 h TO x y) ∧ ItB b1 h i1 a i ∧ ItB b2 h i2 b i) where
  mem := List.mem_cons_self
  obj := fun i h st c hc => by
    obtain ⟨f1, f2, ⟨x, y, f3⟩, f4, f5⟩ := st
    simp only [List.mem_cons, List.not_mem_nil, or_false] at hc
    rcases hc with rfl | rfl | rfl | rfl | rfl
    · exact ⟨_, f1, fun v e => by cases e⟩
    · exact ⟨_, f2, fun v e => by cases e⟩
    · exact ⟨_, f3, fun v e => by cases e⟩
    · exact f4.ob
    · exact f5.ob
  keep := fun i h h' st kp => by
    obtain ⟨f1, f2, ⟨x, y, f3⟩, f4, f5⟩ := st
    exact ⟨kp z (by simp) _ f1, kp TI (by simp) _ f2, ⟨x, y, kp TO (by simp) _ f3⟩, f4.up (kp i1 (by simp)), f5.up (kp i2 (by simp))⟩
  item := by
    intro Y y1 y2 y3 hc i pn s σ H E I hf st gg
    subst y1 y2 y3
    obtain ⟨f1, f2, ⟨u0, v0, f3⟩, f4, f5⟩ := st
    obtain ⟨xs, ys, x, y, k1, k2, gx, gy⟩ := gg
    obtain ⟨m1, r1, p1⟩ := inB I k1
    obtain ⟨m2, r2, p2⟩ := inB I k2
    obtain ⟨u, hu, ru⟩ := r1.get gx
    obtain ⟨v, hv, rv⟩ := r2.get gy
    have w1 : m1.toArray[i]? = some u := by simpa using hu
    have w2 : m2.toArray[i]? = some v := by simpa using hv
    have n1 : i < m1.toArray.size := (Array.getElem?_eq_some_iff.mp w1).1
    have n2 : i < m2.toArray.size := (Array.getElem?_eq_some_iff.mp w2).1
    have zlt : z < s.heap.objs.size := Heap.lt_size f1
    have d1 := drB b1 (prog := Y.prog) (w := Y.w) (A := Y.A.in1) (I.ok.hd hc) i1 a D.l1i1 m1.toArray
    have d2 := drB b2 (prog := Y.prog) (w := Y.w) (A := Y.A.in1) (I.ok.hd hc) i2 b D.l2i2 m2.toArray
    refine wpAny_pyNext_zipD2_item (sepB D) d1 d2 f1 f2 f3 ⟨f4, p1⟩ ⟨f5, p2⟩ n1 n2 fun x1 x2 g tk e1 e2 z' O' q1 q2 T' sz kp => ?_
    rw [w1] at e1
    rw [w2] at e2
    cases e1
    cases e2
    refine ⟨_, rfl, wpAny_letOwnedTupleGo_zip (s := { s with heap := g, toks := tk }) z' fun g2 z2 sb => ?_⟩
    have T2 : IsTupOf2 g2 s.heap.objs.size u v := (sb.2 _ (Nat.ne_of_gt zlt)).trans T'
    have new : ObjOk Y.prog Y.w (upd H s.heap.objs.size (.tup [x, y])) g2 s.heap.objs.size (.tup [x, y]) := ⟨by show 2 ≤ sizeLine; decide, [u, v], .cons ru (.cons rv .nil), ⟨_, T2, rfl, _, rfl⟩⟩
    have kp2 : ∀ c o, c ∉ [z, TI, TO, i1, i2] → s.heap.get? c = some o → g2.get? c = some o := fun c o hb e => by
      simp only [List.mem_cons, List.not_mem_nil, or_false, not_or] at hb
      exact (sb.2 c hb.1).trans (kp c o hb.1 hb.2.2.1 hb.2.2.2.1 hb.2.2.2.2 e)
    have I1 : Inv Y pn σ (upd H s.heap.objs.size (.tup [x, y])) { s with heap := g2, toks := tk } := I.turnedNew (t' := tk) kp2 hf (Nat.le_refl _) new
    refine ⟨.ref s.heap.objs.size, _, I1, rfl, ⟨_, x, y, rfl, I.hok.fresh (Nat.le_refl _), rfl, fun l hl => by rw [injB I hl k1]; exact gx, fun l hl => by rw [injB I hl k2]; exact gy⟩, ⟨z2, (sb.2 _ D.TIz).trans (kp _ _ D.TIz D.TITO D.TIi1 D.TIi2 f2), ⟨u, v, (sb.2 _ D.TOz).trans O'⟩, q1.1.up fun o e => (sb.2 _ D.i1z).trans e, q2.1.up fun o e => (sb.2 _ D.i2z).trans e⟩, fun c hcm => ?_⟩
    have lt : c < s.heap.objs.size := by
      simp only [List.mem_cons, List.not_mem_nil, or_false] at hcm
      rcases hcm with rfl | rfl | rfl | rfl | rfl
      · exact zlt
      · exact Heap.lt_size f2
      · exact Heap.lt_size f3
      · obtain ⟨_, e, _⟩ := f4.ob; exact Heap.lt_size e
      · obtain ⟨_, e, _⟩ := f5.ob; exact Heap.lt_size e
    rw [upd_ne (Nat.ne_of_lt lt)]
    exact (hf c hcm).1
  done := by
    intro Y y1 y2 y3 hc i pn s σ H E I hf st gg
    subst y1 y2 y3
    obtain ⟨f1, f2, ⟨u0, v0, f3⟩, f4, f5⟩ := st
    obtain ⟨xs, ys, k1, k2, l1, l2, l3⟩ := gg
    obtain ⟨m1, r1, p1⟩ := inB I k1
    obtain ⟨m2, r2, p2⟩ := inB I k2
    have e1 : m1.toArray.size = xs.length := by rw [List.size_toArray]; exact r1.length.symm
    have e2 : m2.toArray.size = ys.length := by rw [List.size_toArray]; exact r2.length.symm
    have d1 := drB b1 (prog := Y.prog) (w := Y.w) (A := Y.A.in1) (I.ok.hd hc) i1 a D.l1i1 m1.toArray
    have d2 := drB b2 (prog := Y.prog) (w := Y.w) (A := Y.A.in1) (I.ok.hd hc) i2 b D.l2i2 m2.toArray
    refine wpAny_pyNext_zipD2_end (sepB D) d1 d2 f1 f2 f3 ⟨f4, p1⟩ ⟨f5, p2⟩ (by omega) (by omega) (by omega) fun g tk kp => ⟨rfl, I.turnedL (t' := tk) (ch := [z, TI, TO, i1, i2]) (fun c o hb e => ?_) hf⟩
    simp only [List.mem_cons, List.not_mem_nil, or_false, not_or] at hb
    exact kp c o hb.1 hb.2.2.1 hb.2.2.2.1 hb.2.2.2.2 e
  self := fun A0 j t R0 E0 f q => wpAny_pyIter_zip f.1 q
def iZipB (K : PySem.W.Frag) (ta : TA) : TI := fun σ H R => ta σ H fun vs H1 => ∃ b1 b2 a b xs ys, vs = [.ref a, .ref b] ∧ SqB b1 K H1 a xs ∧ SqB b2 K H1 b ys ∧ R (ItzB b1 b2 K a b) H1
theorem pi_zipB {X : Cx} {e e2 : Expr} {ta : TA} {p pos tpos : Pos} {elts : List Expr} {kk : Nat} (hg : Gl X "zip") (hm : X.mg "zip" = none) (ha : PA X [e, e2] ta)
    (h0 : starEach [e, e2] X.env = (false, eval e X.env) :: starEach [e2] X.env := by rfl) (h1 : (backTo pos (starEach [e2] X.env)).any (·.1) = false := by rfl) :
    PI X (.Tuple elts kk tpos) (.Call (.Name "zip" p) [e, e2] [] pos) (iZipB X.K ta) where
  run := fun pn s σ H R I h => by
    refine PyProof.Rows.Call_ (ld_blt I hg hm PyProof.Rows.boot_zip (PyProof.Rows.callWith_type1 (thn (ha.run pos pn s σ H _ I h) fun us t ⟨vs, G, I1, r1, q1⟩ => ?_) h0 h1))
    obtain ⟨b1, b2, a, b, xs, ys, rfl, k1, k2, q⟩ := q1
    obtain ⟨u, v, rfl, ru, rv⟩ : ∃ u v, us = [u, v] ∧ RelV (.ref a) u ∧ RelV (.ref b) v := by
      cases r1 with
      | cons r rr => cases rr with
        | cons r' rr => cases rr; exact ⟨_, _, rfl, r, r'⟩
    cases ru
    cases rv
    obtain ⟨m1, _, p1⟩ := inB I1 k1
    obtain ⟨m2, _, p2⟩ := inB I1 k2
    let N := t.heap.objs.size
    have fr : ∀ c, c ∈ [N + 4, N + 2, N + 3, N, N + 1] → FpOk X pn G c := fun c hcm => by
      have le : N ≤ c := by
        simp only [List.mem_cons, List.not_mem_nil, or_false] at hcm
        omega
      exact I1.fpOk le (I1.hok.fresh le)
    refine zip_begins2 (beB b1 a m1.toArray) (beB b2 b m2.toArray) p1 p2 fun g z1 z2 z3 z4 z5 sz kp => wpAny_pyIter_zip z1 ?_
    exact ⟨N + 4, [N + 4, N + 2, N + 3, N, N + 1], _, _, G, rfl, I1.kept (t' := t.toks) kp, turn_zipB (PySem.W.ktu_apart N a b p1.lt p2.lt), ⟨z1, z2, ⟨_, _, z3⟩, itB0 z4, itB0 z5⟩, fr, q⟩
section
variable {K : PySem.W.Frag} {mg : Gm}
def SqD (b : Bool) (K : PySem.W.Frag) (A : List Addr) (H : Hp) (a : Addr) (vs : List V) : Prop := match b with
  | true => SqX K A H a vs
  | false => a ∉ A ∧ H a = some (.tup vs)
theorem SqD.sq {b : Bool} {A : List Addr} {H : Hp} {a : Addr} {vs : List V} (h : SqD b K A H a vs) : SqB b K H a vs := by
  cases b
  · exact SqT.of (And.right h)
  · exact SqX.sql h
theorem SqD.mono {b : Bool} {A A' : List Addr} {H H' : Hp} {a : Addr} {vs : List V} (e : Ext A H A' H') (h : SqD b K A H a vs) : SqD b K A' H' a vs := by
  cases b
  · obtain ⟨n, q⟩ := h
    exact ⟨e.notin q n, e.keep _ _ q n⟩
  · exact SqX.mono e h
theorem jok_zipB {b1 b2 : Bool} {a b : Addr} {xs ys : List D} : JOk K mg (ItzB b1 b2 K a b) (pairD xs ys) none (fun A H S => (∃ vs, SqD b1 K A H a vs ∧ Reps K mg.m A H xs vs) ∧ ∃ ws, SqD b2 K A H b ws ∧ Reps K mg.m A H ys ws) where
  go := fun i A H S ⟨⟨vs, h, r⟩, ws, h', r'⟩ hi => by
    have l := pairD_length xs ys
    have n1 : i < vs.length := by have := r.length; omega
    have n2 : i < ws.length := by have := r'.length; omega
    exact ⟨vs, ws, vs[i], ws[i], h.sq, h'.sq, List.getElem?_eq_getElem n1, List.getElem?_eq_getElem n2⟩
  stop := fun A H S ⟨⟨vs, h, r⟩, ws, h', r'⟩ => ⟨vs, ws, h.sq, h'.sq, by have l := pairD_length xs ys; have := r.length; have := r'.length; omega⟩
  yld := fun i A H S x H' d hS hI hd hy => by
    obtain ⟨T, x1, y1, rfl, hT, rfl, e1, e2⟩ := hy
    obtain ⟨⟨vs, h, r⟩, ws, h', r'⟩ := hI
    obtain ⟨dx, dy, g1, g2, rfl⟩ := pairD_get hd
    obtain ⟨v, q1, rv⟩ := r.get g1
    obtain ⟨u, q2, ru⟩ := r'.get g2
    have f1 := e1 vs h.sq
    have f2 := e2 ws h'.sq
    rw [q1] at f1
    rw [q2] at f2
    cases f1
    cases f2
    have e := Ext.new (A := A) (o := .tup [x1, y1]) hT
    exact ⟨e, hS.new hT, ⟨⟨vs, h.mono e, Reps.mono e _ _ r⟩, ws, h'.mono e, Reps.mono e _ _ r'⟩, rep_pair hT (hS.free hT) rv ru⟩
  keep := fun A H S A' H' S' hS ⟨⟨vs, h, r⟩, ws, h', r'⟩ e _ _ => ⟨⟨vs, h.mono e, Reps.mono e _ _ r⟩, ws, h'.mono e, Reps.mono e _ _ r'⟩
end
section
variable {X : Cx} {W : WG} {e e2 a b : Expr} {fa : Env → M (List SV)} {p pos tpos : Pos} {elts : List Expr} {kk : Nat}
theorem di_zip (h : DA X W [e, e2] fa) (hg : Gl X "zip") (hm : X.mg "zip" = none) (hs : starEach [e, e2] X.env = (false, eval e X.env) :: starEach [e2] X.env := by rfl) (hpl : (backTo pos (starEach [e2] X.env)).any (·.1) = false := by rfl) :
    DI X W (.Tuple elts kk tpos) (.Call (.Name "zip" p) [e, e2] [] pos) (eArg walkZ fa) := by
  obtain ⟨ta, pa, ka⟩ := h
  refine ⟨_, pi_zipB hg hm pa hs hpl, iok_args (o := walkZ) (wk := fun vs H1 R => ∃ b1 b2 a b xs ys, vs = [.ref a, .ref b] ∧ SqB b1 X.K H1 a xs ∧ SqB b2 X.K H1 b ys ∧ R (ItzB b1 b2 X.K a b) H1) ka fun as vs σ H A S r S' hS hx he Rr hp => ?_⟩
  unfold walkZ at he
  split at he
  · rename_i x y
    obtain ⟨v, u, rfl, h1, h2⟩ := reps2 hx
    rcases q1 : seqD x with _ | ⟨b1, l1⟩
    · (try dsimp only at he); rw [q1] at he; cases he
    · rcases q2 : seqD y with _ | ⟨b2, l2⟩
      · (try dsimp only at he); rw [q1, q2] at he; cases he
      · (try dsimp only at he); rw [q1, q2] at he
        dsimp only at he
        rw [ite_self] at he
        cases he
        obtain ⟨a1, vs1, rfl, r1, f1, t1⟩ := seqD_rep (mg := gm X W) h1 q1
        obtain ⟨a2, vs2, rfl, r2, f2, t2⟩ := seqD_rep (mg := gm X W) h2 q2
        have s1 : SqD b1 X.K A H a1 vs1 := by
          cases b1
          · exact t1 rfl
          · exact f1 rfl
        have s2 : SqD b2 X.K A H a2 vs2 := by
          cases b2
          · exact t2 rfl
          · exact f2 rfl
        exact ⟨b1, b2, a1, a2, vs1, vs2, rfl, s1.sq, s2.sq, hp _ _ A H (Ext.refl A H) hS jok_zipB ⟨⟨vs1, s1, r1⟩, vs2, s2, r2⟩ trivial⟩
  · cases he
end
end DL
namespace DL
open PySem L2
open PySem.Calls (spliced_cons spliced_nil)
/-- the zip's cells, while what it gave out is kept in the list at q -/
def ZS (z TI TO i1 i2 a b q : Addr) (i : Nat) (h : Heap) : Prop := IsPair h TI (.ref i1) (.ref i2) ∧ h.IsListIter i1 a i ∧ h.IsListIter i2 b i ∧
  ((IsZip h z TI TO .none ∧ ∃ x y, IsPair h TO x y) ∨ ∃ T f oT, IsZipHeld h z TI TO T f ∧ h.get? T = some oT ∧ T ≠ z ∧ T ≠ i1 ∧ T ≠ i2 ∧ T ≠ q)
theorem ZS.keep {z TI TO i1 i2 a b q : Addr} {i : Nat} {h h' : Heap} (st : ZS z TI TO i1 i2 a b q i h) (hq : q ≠ z ∧ q ≠ TI ∧ q ≠ TO ∧ q ≠ i1 ∧ q ≠ i2) (k : ∀ c o, c ≠ q → h.get? c = some o → h'.get? c = some o) : ZS z TI TO i1 i2 a b q i h' := by
  obtain ⟨hTI, h1, h2, hz⟩ := st
  obtain ⟨q1, q2, q3, q4, q5⟩ := hq
  refine ⟨k _ _ (Ne.symm q2) hTI, h1.at fun o e => k _ o (Ne.symm q4) e, h2.at fun o e => k _ o (Ne.symm q5) e, ?_⟩
  rcases hz with ⟨hz, x, y, hTO⟩ | ⟨T, f, oT, hz, hT, r1, r2, r3, r4⟩
  · exact .inl ⟨k _ _ (Ne.symm q1) hz, x, y, k _ _ (Ne.symm q3) hTO⟩
  · exact .inr ⟨T, f, oT, k _ _ (Ne.symm q1) hz, k _ _ r4 hT, r1, r2, r3, r4⟩
theorem ZS.lt {z TI TO i1 i2 a b q : Addr} {i : Nat} {h : Heap} (st : ZS z TI TO i1 i2 a b q i h) : z < h.objs.size ∧ TI < h.objs.size ∧ i1 < h.objs.size ∧ i2 < h.objs.size := by
  obtain ⟨hTI, ⟨_, e1, _⟩, ⟨_, e2, _⟩, hz⟩ := st
  refine ⟨?_, Heap.lt_size hTI, Heap.lt_size e1, Heap.lt_size e2⟩
  rcases hz with ⟨hz, _⟩ | ⟨T, f, oT, hz, _⟩
  · exact Heap.lt_size hz
  · exact Heap.lt_size hz
end DL
namespace DL
open PySem L2
open PyProof.Rows (Call_)
end DL
namespace DL
open PySem L2
open PyProof.Rows (Call_)
theorem meets_enum_newV {v : Value} {o : Obj} {H : Heap → Prop} (B : Begins v o H) :
    Meets (Builtin.«enumerate.__new__» ⟨[.type "enumerate", v], []⟩) (fun _ R s => H s.heap ∧
      R (.ok (.ret (.ref (s.heap.push o).objs.size))) { s with heap := (s.heap.push o).push { cls := .type "enumerate", data := .fields #[.none, .bool false, .ref s.heap.objs.size, rawInt 0, .none, .none] } }) :=
  .of_wp fun prog w A R s h => by
    obtain ⟨hp, g, d, tk, os⟩ := s; obtain ⟨h1, h⟩ := h
    have hsub := sub_enumerate
    have q1 : ∀ {A' : Around} {E : Value → Shared → Prop} {Q : Value → Shared → Prop}, Q (.ref hp.objs.size) ⟨hp.push o, g, d, tk, os⟩ → wpAny (model prog w) A' (pyIter v) Q E ⟨hp, g, d, tk, os⟩ :=
      fun q => B.iter prog w _ _ ⟨hp, g, d, tk, os⟩ _ h1 q
    wp_walk using q1
    refine wpAny_stack_any fun st => wpAny_pure ?_
    split
    · rename_i c _ _ _ _ _
      cases (c == Value.type "enumerate")
      · wp_walk using q1
        exact ⟨_, rfl, h⟩
      · wp_walk using q1
        exact ⟨_, rfl, h⟩
    · wp_walk using q1
      exact ⟨_, rfl, h⟩
theorem call_enum_tup {prog : Program} {w : World} {A : Around} {E : Value → Shared → Prop} {s : Shared} {t : Addr} {items : Array Value} {Q : Value → Shared → Prop} (ht : s.heap.IsTuple t items)
    (h : ∀ h', IsEnum h' (s.heap.objs.size + 1) s.heap.objs.size 0 .none → h'.IsTupleIter s.heap.objs.size t 0 → h'.objs.size = s.heap.objs.size + 2 →
      (∀ b o, s.heap.get? b = some o → h'.get? b = some o) → Q (.ref (s.heap.objs.size + 1)) { s with heap := h' }) :
    wpAny (model prog w) A (call (.type "enumerate") [.ref t]) Q E s := by
  refine callType_new F.called_enumerate (by decide) (F.typeCall_enumerate_1 _) (F.newCall_enumerate_1 _) (fun obj => F.args_object_init_2 obj _) F.entry_enumerate_new
    (meets_enum_newV (begins_tuple t items)) ⟨ht, ?_⟩
  have hz : (s.heap.push { cls := .type "tuple_iterator", data := .fields #[.ref t, .int 0 0] }).objs.size = s.heap.objs.size + 1 := Heap.size_push ..
  show _ ∧ _
  rw [hz]
  have he : IsEnum ((s.heap.push { cls := .type "tuple_iterator", data := .fields #[.ref t, .int 0 0] }).push { cls := .type "enumerate", data := .fields #[.none, .bool false, .ref s.heap.objs.size, rawInt 0, .none, .none] }) (s.heap.objs.size + 1) s.heap.objs.size 0 .none := by
    have := Heap.get?_push_size (s.heap.push { cls := .type "tuple_iterator", data := .fields #[.ref t, .int 0 0] }) (o := { cls := .type "enumerate", data := .fields #[.none, .bool false, .ref s.heap.objs.size, rawInt 0, .none, .none] }) rfl
    rw [hz] at this; exact this
  exact ⟨⟨_, he, rfl⟩, h _ he ⟨_, Heap.get?_push_of_some _ (Heap.get?_push_size _ rfl), rfl, rfl⟩ (by rw [Heap.size_push, hz]) fun b o x => Heap.get?_push_of_some _ (Heap.get?_push_of_some _ x)⟩
def IteT (K : PySem.W.Frag) (a : Addr) : It :=
  ⟨fun i H => ∃ (xs : List V) (x : V), SqT K H a xs ∧ xs[i]? = some x, fun i H v H' => ∃ T x, v = .ref T ∧ H T = none ∧ H' = upd H T (.tup [.int (i : Nat), x]) ∧ ∀ xs, SqT K H a xs → xs[i]? = some x, fun i H => ∃ xs : List V, SqT K H a xs ∧ xs.length ≤ i⟩
theorem turn_enumT {P : Program} {w : World} {K : PySem.W.Frag} {elts : List Expr} {kk : Nat} {tpos : Pos} (a e it : Addr) (hai : a ≠ it) (hae : a ≠ e) :
    Turn P w K (.Tuple elts kk tpos) (IteT K a) [e, it] e (fun i h => (∃ old, IsEnum h e it ((i : Nat) : Int) old) ∧ h.IsTupleIter it a i ∧ e ≠ it) where
  mem := by simp
  obj := fun i h st b hb => by
    obtain ⟨⟨old, he⟩, ⟨o, ho, hc, hd⟩, _⟩ := st
    have e' : b = e ∨ b = it := by simpa using hb
    rcases e' with z | z
    · rw [z]; exact ⟨_, he, fun v q => nomatch q⟩
    · rw [z]; exact ⟨o, ho, fun v q => by rw [hd] at q; cases q⟩
  keep := fun i h h' st k => let ⟨⟨old, he⟩, hi, hne⟩ := st; ⟨⟨old, k e (by simp) _ he⟩, hi.at fun o q => k it (by simp) o q, hne⟩
  item := by
    intro X hP hw hK hc i pins s σ H E I hf st hg
    subst hP hw hK
    obtain ⟨⟨old, he⟩, hit, hne⟩ := st
    obtain ⟨xs, x, hq, hx⟩ := hg
    obtain ⟨its, rv, p, hz⟩ := I.tuple hq
    obtain ⟨u, hu, ru⟩ := rv.get hx
    have hel : e < s.heap.objs.size := Heap.lt_size he
    have hil : it < s.heap.objs.size := by obtain ⟨_, q, _⟩ := hit; exact Heap.lt_size q
    have p' : s.heap.IsTuple a its.toArray := p
    refine wpAny_pyNext_enum_itemD (Draws.tuple (show X.A.in1.handled = none from I.ok.hd hc) it a hai its.toArray) he ⟨hit, p'⟩ (by have := (List.getElem?_eq_some_iff.mp hu).1; simpa using this) hne (fun hm => by
      rcases List.mem_cons.mp hm with z | z
      · exact hne z
      · exact hae (List.mem_singleton.mp z).symm) fun x' h' tk hPx ho hit' hT hsz hk => ?_
    have hxu : x' = u := by
      have h1 : its.toArray[i]? = some x' := hPx
      have h2 : its.toArray[i]? = some u := by simpa using hu
      rw [h1] at h2; exact Option.some.inj h2
    subst hxu
    refine ⟨_, rfl, wpAny_letOwnedTupleGo_enum (s := { s with heap := h', toks := tk + 1 }) ho fun h'' he' sb => ?_⟩
    have hT2 : h''.get? s.heap.objs.size = some { cls := .type "tuple", data := .seq #[.int i tk, x'] } := (sb.2 _ (Nat.ne_of_gt hel)).trans hT
    have new : ObjOk X.prog X.w (upd H s.heap.objs.size (.tup [.int (i : Nat), x])) h'' s.heap.objs.size (.tup [.int (i : Nat), x]) :=
      ⟨by show 2 ≤ sizeLine; decide, [.int i tk, x'], .cons ⟨_, rfl⟩ (.cons ru .nil), ⟨_, hT2, rfl, _, rfl⟩⟩
    have I1 : Inv X pins σ (upd H s.heap.objs.size (.tup [.int (i : Nat), x])) { s with heap := h'', toks := tk + 1 } :=
      I.turnedNew (ch := [e, it]) (fun b ob hb q => (sb.2 b (fun z => hb (by simp [z]))).trans (hk b ob (fun z => hb (by simp [z])) (fun z => hb (by simp [z])) q)) hf (Nat.le_refl _) new
    refine ⟨.ref s.heap.objs.size, _, I1, rfl, ⟨_, x, rfl, I.hok.fresh (Nat.le_refl _), rfl, fun ys hy => by rw [I.tuple_inj hy hq]; exact hx⟩, ⟨⟨x', ?_⟩, hit'.1.at fun o q => (sb.2 it (Ne.symm hne)).trans q, hne⟩, fun b hb => ?_⟩
    · have e1 : ((i + 1 : Nat) : Int) = (i : Int) + 1 := by omega
      rw [e1]; exact he'
    · have hb' : b < s.heap.objs.size := by
        have e' : b = e ∨ b = it := by simpa using hb
        rcases e' with z | z
        · rw [z]; exact hel
        · rw [z]; exact hil
      rw [upd_ne (Nat.ne_of_lt hb')]
      exact (hf b hb).1
  done := by
    intro X hP hw hK hc i pins s σ H E I hf st hg
    subst hP hw hK
    obtain ⟨⟨old, he⟩, hit, hne⟩ := st
    obtain ⟨xs, hq, hx⟩ := hg
    obtain ⟨its, rv, p, hz⟩ := I.tuple hq
    obtain ⟨f0, f1, f2, f3, f4, f5⟩ := hf it (by simp)
    have hl := rv.length
    have p' : s.heap.IsTuple a its.toArray := p
    have none' : its.toArray[i]? = none := by simp; omega
    have hT : s.TypeIs (.ref e) "enumerate" := ⟨_, he, rfl⟩
    unfold pyNext
    refine wpAny_bind (wpAny_attempt (wpAny_callSpecial?_slot (name := Str.ofString "__next__") hT F.slot_enumerate_next
      (wpAny_call_entry F.slot_enumerate_next hT F.entry_enumerate_next ?_ (F.args_enumerate_next_1 _))))
    show wpAny _ _ (field (.ref e) 2 >>= _) _ _ _
    refine wpAny_bind (wpAny_field he rfl (x := .ref it) rfl ?_)
    refine wpAny_bind (wpAny_nextOf_tuple_end (show X.A.in1.handled = none from I.ok.hd hc) hit p' none' fun h' x eb hx' => ?_)
    obtain ⟨o, ho, hcc⟩ := hx'
    refine wpAny_bind (wpAny_isInstance (T := "StopIteration") (b := true) ⟨o, ho, hcc⟩ isSubtype_stop ?_)
    exact wpAny_pure ⟨rfl, I.turned (t' := s.toks) (fun b o hb q => eb b o hb q) f0 f1 f3 f4 f5⟩
  self := fun A i s Q E st h => let ⟨⟨_, he⟩, _⟩ := st; wpAny_pyIter_enum he h
/-- enumerate of a list or a tuple -/
theorem pi_enumA {X : Cx} {e : Expr} {ta : TA} {p pos tpos : Pos} {elts : List Expr} {kk : Nat} (hg : Gl X "enumerate") (hm : X.mg "enumerate" = none) (ha : PA X [e] ta) (hs : starEach [e] X.env = [(false, eval e X.env)] := by rfl) :
    PI X (.Tuple elts kk tpos) (.Call (.Name "enumerate" p) [e] [] pos) (fun σ H R => ta σ H fun vs H1 => ∃ a xs, vs = [.ref a] ∧ ((SqL X.K H1 a xs ∧ R (Ite X.K a) H1) ∨ (SqT X.K H1 a xs ∧ R (IteT X.K a) H1))) := by
  refine ⟨fun pins s σ H R I h => ?_⟩
  refine Call_ (ld_blt I hg hm PyProof.Rows.boot_enumerate (PyProof.Rows.callWith_type1 (thn (ha.run pos pins s σ H _ I h) fun us s1 ⟨vs, H1, I1, r1, q1⟩ => ?_) hs rfl))
  obtain ⟨a, xs, ex, q1⟩ := q1
  subst ex
  cases r1 with
  | cons r rr =>
    cases rr
    cases r
    have fp : ∀ b ∈ [s1.heap.objs.size + 1, s1.heap.objs.size], FpOk X pins H1 b := fun b hb => by
      have e' : b = s1.heap.objs.size + 1 ∨ b = s1.heap.objs.size := by simpa using hb
      have hle : s1.heap.objs.size ≤ b := by
        rcases e' with z | z
        · rw [z]; exact Nat.le_add_right _ _
        · rw [z]; exact Nat.le_refl _
      exact I1.fpOk hle (I1.hok.fresh hle)
    rcases q1 with ⟨hq, q⟩ | ⟨hq, q⟩
    · obtain ⟨its, rv, p', hz⟩ := I1.list hq
      refine call_enumerate_list p'.isList fun h' he hit hsz hk => wpAny_pyIter_enum he ?_
      have I2 : Inv X pins σ H1 { s1 with heap := h' } := I1.kept (t' := s1.toks) hk
      exact ⟨s1.heap.objs.size + 1, [s1.heap.objs.size + 1, s1.heap.objs.size], _, _, H1, rfl, I2, turn_enum a (s1.heap.objs.size + 1) s1.heap.objs.size, ⟨⟨.none, he⟩, hit, Nat.succ_ne_self _⟩, fp, q⟩
    · obtain ⟨its, rv, p', hz⟩ := I1.tuple hq
      have pT : s1.heap.IsTuple a its.toArray := p'
      obtain ⟨o1, ho1, _⟩ := id pT
      have hal : a < s1.heap.objs.size := Heap.lt_size ho1
      refine call_enum_tup pT fun h' he hit hsz hk => wpAny_pyIter_enum he ?_
      have I2 : Inv X pins σ H1 { s1 with heap := h' } := I1.kept (t' := s1.toks) hk
      exact ⟨s1.heap.objs.size + 1, [s1.heap.objs.size + 1, s1.heap.objs.size], _, _, H1, rfl, I2, turn_enumT a (s1.heap.objs.size + 1) s1.heap.objs.size (Nat.ne_of_lt hal) (Nat.ne_of_lt (Nat.lt_succ_of_lt hal)), ⟨⟨.none, he⟩, hit, Nat.succ_ne_self _⟩, fp, q⟩
end DL
namespace DL
open PySem L2
def enumD : Nat → List D → List D
  | _, [] => []
  | i, x :: xs => .tup [.int (i : Nat), x] :: enumD (i + 1) xs
theorem enumD_length : ∀ (i : Nat) (xs : List D), (enumD i xs).length = xs.length
  | _, [] => rfl
  | i, x :: xs => by simp [enumD, enumD_length (i + 1) xs]
theorem enumD_get : ∀ {xs : List D} {k i : Nat} {d : D}, (enumD k xs)[i]? = some d → ∃ x, xs[i]? = some x ∧ d = .tup [.int ((k + i : Nat) : Int), x]
  | [], k, i, d, h => by simp [enumD] at h
  | x :: xs, k, 0, d, h => by simp [enumD] at h; exact ⟨x, rfl, by simpa using h.symm⟩
  | x :: xs, k, i + 1, d, h => by
    simp only [enumD, List.getElem?_cons_succ] at h ⊢
    obtain ⟨y, h1, h2⟩ := enumD_get h
    refine ⟨y, h1, ?_⟩
    have e : k + 1 + i = k + (i + 1) := by omega
    rw [e] at h2
    exact h2
section
variable {K : PySem.W.Frag} {mg : Gm}
theorem jok_enum {a : Addr} {xs : List D} : JOk K mg (Ite K a) (enumD 0 xs) none (fun A H S => ∃ vs, SqX K A H a vs ∧ Reps K mg.m A H xs vs) where
  go := fun i A H S ⟨vs, h, r⟩ hi => by
    rw [enumD_length] at hi
    have h1 : i < vs.length := by rw [← r.length]; omega
    exact ⟨vs, vs[i], h.sql, List.getElem?_eq_getElem h1⟩
  stop := fun A H S ⟨vs, h, r⟩ => ⟨vs, h.sql, by rw [enumD_length, ← r.length]; exact Nat.le_refl _⟩
  yld := fun i A H S x H' d hS ⟨vs, h, r⟩ hd hy => by
    obtain ⟨T, x1, rfl, hT, rfl, e1⟩ := hy
    obtain ⟨dx, g1, rfl⟩ := enumD_get hd
    obtain ⟨v, q1, rv⟩ := r.get g1
    have f1 := e1 vs h.sql
    rw [q1] at f1
    cases f1
    have e := Ext.new (A := A) (o := .tup [.int (i : Nat), x1]) hT
    refine ⟨e, hS.new hT, ⟨vs, h.mono e, Reps.mono e _ _ r⟩, ?_⟩
    have e0 : ((0 + i : Nat) : Int) = (i : Nat) := by rw [Nat.zero_add]
    rw [e0]
    exact rep_pair hT (hS.free hT) (by simp only [Rep]) rv
  keep := fun A H S A' H' S' hS ⟨vs, h, r⟩ e _ _ => ⟨vs, h.mono e, Reps.mono e _ _ r⟩
theorem jok_enumT {a : Addr} {xs : List D} : JOk K mg (IteT K a) (enumD 0 xs) none (fun A H S => ∃ vs, (a ∉ A ∧ H a = some (.tup vs)) ∧ Reps K mg.m A H xs vs) where
  go := fun i A H S ⟨vs, h, r⟩ hi => by
    rw [enumD_length] at hi
    have h1 : i < vs.length := by rw [← r.length]; omega
    exact ⟨vs, vs[i], SqT.of h.2, List.getElem?_eq_getElem h1⟩
  stop := fun A H S ⟨vs, h, r⟩ => ⟨vs, SqT.of h.2, by rw [enumD_length, ← r.length]; exact Nat.le_refl _⟩
  yld := fun i A H S x H' d hS ⟨vs, h, r⟩ hd hy => by
    obtain ⟨T, x1, rfl, hT, rfl, e1⟩ := hy
    obtain ⟨dx, g1, rfl⟩ := enumD_get hd
    obtain ⟨v, q1, rv⟩ := r.get g1
    have f1 := e1 vs (SqT.of h.2)
    rw [q1] at f1
    cases f1
    have e := Ext.new (A := A) (o := .tup [.int (i : Nat), x1]) hT
    refine ⟨e, hS.new hT, ⟨vs, ⟨e.notin h.2 h.1, e.keep _ _ h.2 h.1⟩, Reps.mono e _ _ r⟩, ?_⟩
    have e0 : ((0 + i : Nat) : Int) = (i : Nat) := by rw [Nat.zero_add]
    rw [e0]
    exact rep_pair hT (hS.free hT) (by simp only [Rep]) rv
  keep := fun A H S A' H' S' hS ⟨vs, h, r⟩ e _ _ => ⟨vs, ⟨e.notin h.2 h.1, e.keep _ _ h.2 h.1⟩, Reps.mono e _ _ r⟩
end
def walkE : List SV → M (List D × KK)
  | [x] => match seqD x with
    | some (_, l) => ret (enumD 0 l, none)
    | _ => stuck
  | _ => stuck
section
variable {X : Cx} {W : WG} {e : Expr} {fa : Env → M (List SV)} {p pos tpos : Pos} {elts : List Expr} {kk : Nat}
theorem di_enum (h : DA X W [e] fa) (hg : Gl X "enumerate") (hm : X.mg "enumerate" = none) (hs : starEach [e] X.env = [(false, eval e X.env)] := by rfl) :
    DI X W (.Tuple elts kk tpos) (.Call (.Name "enumerate" p) [e] [] pos) (eArg walkE fa) := by
  obtain ⟨ta, pa, ka⟩ := h
  refine ⟨_, pi_enumA hg hm pa hs, iok_args (o := walkE) (wk := fun vs H1 R => ∃ a xs, vs = [.ref a] ∧ ((SqL X.K H1 a xs ∧ R (Ite X.K a) H1) ∨ (SqT X.K H1 a xs ∧ R (IteT X.K a) H1))) ka fun as vs σ H A S r S' hS hx he Rr hp => ?_⟩
  unfold walkE at he
  split at he
  · rename_i x
    obtain ⟨v, rfl, h1⟩ := reps1 hx
    rcases q1 : seqD x with _ | ⟨b1, l1⟩
    · (try dsimp only at he); rw [q1] at he; cases he
    · (try dsimp only at he); rw [q1] at he
      cases he
      obtain ⟨a1, vs1, rfl, r1, f1, t1⟩ := seqD_rep (mg := gm X W) h1 q1
      cases b1 with
      | true => exact ⟨a1, vs1, rfl, .inl ⟨(f1 rfl).sql, hp _ _ A H (Ext.refl A H) hS jok_enum ⟨vs1, f1 rfl, r1⟩ trivial⟩⟩
      | false => exact ⟨a1, vs1, rfl, .inr ⟨SqT.of (t1 rfl).2, hp _ _ A H (Ext.refl A H) hS jok_enumT ⟨vs1, t1 rfl, r1⟩ trivial⟩⟩
  · cases he
end
end DL
namespace DL
open PySem L2
section
variable {X : Cx} {W : WG} {e e2 a b o i : Expr} {f g fo fi fe : Env → M SV} {fa : Env → M (List SV)} {p pos pos2 tpos apos cpos : Pos}
theorem Reps.flat {K : PySem.W.Frag} {mg : Str → Option Value} {A : List Addr} {H : Hp} {ds : List D} {vs : List V} (h : Reps K mg A H ds vs) : ∀ n : Nat, Reps K mg A H (List.replicate n ds).flatten (List.replicate n vs).flatten
  | 0 => by
    show Reps K mg A H [] []
    simp only [Reps]
  | n + 1 => by
    rw [List.replicate_succ, List.replicate_succ, List.flatten_cons, List.flatten_cons]
    exact h.append (Reps.flat h n)
def oRepOwn (x y : SV) : M SV := match x, y with
  | .d (.lst l), .d (.int k) => if 0 ≤ k ∧ k ≤ 16777216 ∧ l.length * k.toNat ≤ 16777216 then (fun S => some (.ok (.ptr S.length), S ++ [(List.replicate k.toNat l).flatten])) else stuck
  | _, _ => stuck
theorem rok_repOwn : ROk X W rRep oRepOwn := by
  intro a b x y σ H A S rr S' hS hx hy he Q hp
  unfold oRepOwn at he
  split at he
  · rename_i l k
    by_cases c : 0 ≤ k ∧ k ≤ 16777216 ∧ l.length * k.toNat ≤ 16777216
    · rw [if_pos c] at he
      cases he
      have h1 : Rep X.K X.mg A H (.lst l) x := hx
      have h2 : Rep X.K X.mg A H (.int k) y := hy
      simp only [Rep] at h1 h2
      obtain ⟨q, vs, e1, n, hq, r⟩ := h1
      refine ⟨q, k, vs, e1, h2, hq, by omega, by omega, ?_, fun p hpn => hp _ _ _ (Ext.own hpn) (hS.own hpn (r.flat k.toNat)) ⟨p, own_at hS.len, rfl, _, upd_same⟩⟩
      rw [← r.length]
      exact lim_ok c.2.2
    · rw [if_neg c] at he; cases he
  · cases he
def rGetN : V → V → Hp → VK → Prop := fun o i H Q => ∃ p xs j v, o = .ref p ∧ i = .int ((j : Nat) : Int) ∧ H p = some (.lst xs) ∧ j < 2 ^ 62 ∧ xs[j]? = some v ∧ Q v H
theorem get_listN : PGet X rGetN := by
  intro pins s σ H o i ov iv Q I ro ri h
  obtain ⟨p, xs, j, v, rfl, rfl, hp, hj, hv, q⟩ := h
  cases ro
  obtain ⟨t, rfl⟩ := ri
  obtain ⟨its, rv, pl, hz⟩ := I.list (SqL.of hp)
  obtain ⟨u, hu, ru⟩ := rv.get hv
  refine PySem.wpAny_getItem_list pl.isList (by omega) (by omega) (x := u) ?_ ⟨v, H, I, ru, q⟩
  rw [Int.toNat_natCast]
  simpa using hu
def getP (o i : SV) : M SV := match o, i with
  | .ptr k, .d (.int n) => if 0 ≤ n ∧ n < 2 ^ 62 then (fun S => match S[k]? with
    | some l => match l[n.toNat]? with
      | some d => some (.ok (.d d), S)
      | none => none
    | none => none) else stuck
  | _, _ => stuck
def sAugI (gg : Int → Int → Int) (fo fi fe : Env → M SV) : SM := fun env => lift env (bnd (fo env) fun o => bnd (fi env) fun i => bnd (getP o i) fun x => bnd (fe env) fun y => ret (o, i, x, y)) fun q S => match q with
  | (.ptr k, .d (.int n), .d (.int a), .d (.int b)) => match S[k]? with
    | some l => match ixN l.length n with
      | some j => some (.nx env, S.set k (l.set j (.int (gg a b))))
      | none => none
    | none => none
  | _ => none
theorem ds_augi {op : Operator} {gg : Int → Int → Int} (hip : PIp X op (ipI gg)) (ho : DE X W o fo) (hi : DE X W i fi) (he : DE X W e fe)
    (ha : ∀ ov iv new, augStore i ov iv new = (do holding [new, ov, iv] (setItem ov iv new); release [new, ov, iv] []; pure .next) := by intros; rfl) : DS X W (.AugAssign (.Subscript o i tpos) op e pos) (sAugI gg fo fi fe) := by
  obtain ⟨te, pe, ke⟩ := he
  obtain ⟨to, po, ko⟩ := ho
  obtain ⟨ti, pi, ki⟩ := hi
  refine ⟨_, ps_augS po pi get_listN pe hip set_list ha, ?_⟩
  intro σ H A S env oo S' hS hE he Dn hp
  rcases lift_some he with ⟨⟨ov, iv, xv, yv⟩, S1, ef, q⟩ | ⟨c, fs, l, ef, rfl⟩
  · rcases bnd_some ef with ⟨o1, S2, ef1, ef2⟩ | ⟨_, _, _, _, z⟩
    · refine ko σ H A S env _ S2 hS hE ef1 _ fun vo A1 H1 e1 s1 r1 => ?_
      rcases bnd_some ef2 with ⟨i1, S3, ef3, ef4⟩ | ⟨_, _, _, _, z⟩
      · refine ki σ H1 A1 S2 env _ S3 s1 (hE.mono e1) ef3 _ fun vi A2 H2 e2 s2 r2 => ?_
        have r1b := RepS.mono (x := o1) e2 r1
        rcases bnd_some ef4 with ⟨x1, S4, ef5, ef6⟩ | ⟨_, _, _, _, z⟩
        · unfold getP at ef5
          split at ef5
          · rename_i k n
            by_cases c : 0 ≤ n ∧ n < 2 ^ 62
            · rw [if_pos c] at ef5
              (try dsimp only at ef5)
              rcases eS : S3[k]? with _ | l
              · rw [eS] at ef5; cases ef5
              · rw [eS] at ef5
                (try dsimp only at ef5)
                rcases el : l[n.toNat]? with _ | d
                · rw [el] at ef5; cases ef5
                · rw [el] at ef5
                  cases ef5
                  obtain ⟨aa, h1, h2, h0⟩ := r1b
                  have h3 : Rep X.K X.mg A2 H2 (.int n) vi := r2
                  simp only [Rep] at h3
                  obtain ⟨ws, h4, h5⟩ := s2.lst h1 h0 eS
                  obtain ⟨vd, hg, rd⟩ := h5.get el
                  refine ⟨aa, ws, n.toNat, vd, h2, by rw [h3, Int.toNat_of_nonneg c.1], h4, by omega, hg, ?_⟩
                  rcases bnd_some ef6 with ⟨y1, S5, ef7, ef8⟩ | ⟨_, _, _, _, z⟩
                  · refine ke σ H2 A2 S3 env _ S5 s2 ((hE.mono e1).mono e2) ef7 _ fun vy A3 H3 e3 s3 r3 => ?_
                    cases ef8
                    split at q
                    · rename_i k' n' a b q0
                      cases q0
                      rcases eS5 : S1[k]? with _ | l5
                      · rw [eS5] at q; cases q
                      · rw [eS5] at q
                        dsimp only at q
                        rcases ej : ixN l5.length n with _ | j
                        · rw [ej] at q; cases q
                        · rw [ej] at q
                          cases q
                          have ra : Rep X.K X.mg A2 H2 (.int a) vd := rd
                          have rb : Rep X.K X.mg A3 H3 (.int b) vy := r3
                          simp only [Rep] at ra rb
                          refine ⟨a, b, ra, rb, ?_⟩
                          obtain ⟨aa', g1, g2, g0⟩ := RepS.mono (x := .ptr k) e3 (show RepS X.K (gm X W) A2 H2 (.ptr k) vo from ⟨aa, h1, h2, h0⟩)
                          obtain ⟨us, g4, g5⟩ := s3.lst g1 g0 eS5
                          have rg : Rep X.K X.mg A3 H3 (.int (gg a b)) (.int (gg a b)) := by simp only [Rep]
                          obtain ⟨s4, e4⟩ := s3.setF g1 g0 (g5.set j (.of rg))
                          exact ⟨aa', us, n, j, g2, h3, g4, by rw [← g5.length]; exact ej, hp σ A3 _ (((e1.trans e2).trans e3).trans e4) s4 ((((hE.mono e1).mono e2).mono e3).mono e4)⟩
                    · cases q
                  · cases z
            · rw [if_neg c] at ef5; cases ef5
          · cases ef5
        · cases z
      · cases z
    · cases z
  · rcases bnd_some ef with ⟨o1, S2, ef1, ef2⟩ | ⟨_, _, _, ef1, z⟩
    · refine ko σ H A S env _ S2 hS hE ef1 _ fun vo A1 H1 e1 s1 r1 => ?_
      rcases bnd_some ef2 with ⟨i1, S3, ef3, ef4⟩ | ⟨_, _, _, ef3, z⟩
      · refine ki σ H1 A1 S2 env _ S3 s1 (hE.mono e1) ef3 _ fun vi A2 H2 e2 s2 r2 => ?_
        have r1b := RepS.mono (x := o1) e2 r1
        rcases bnd_some ef4 with ⟨x1, S4, ef5, ef6⟩ | ⟨_, _, _, ef5, z⟩
        · unfold getP at ef5
          split at ef5
          · rename_i k n
            by_cases c : 0 ≤ n ∧ n < 2 ^ 62
            · rw [if_pos c] at ef5
              (try dsimp only at ef5)
              rcases eS : S3[k]? with _ | l
              · rw [eS] at ef5; cases ef5
              · rw [eS] at ef5
                (try dsimp only at ef5)
                rcases el : l[n.toNat]? with _ | d
                · rw [el] at ef5; cases ef5
                · rw [el] at ef5
                  cases ef5
                  obtain ⟨aa, h1, h2, h0⟩ := r1b
                  have h3 : Rep X.K X.mg A2 H2 (.int n) vi := r2
                  simp only [Rep] at h3
                  obtain ⟨ws, h4, h5⟩ := s2.lst h1 h0 eS
                  obtain ⟨vd, hg, rd⟩ := h5.get el
                  refine ⟨aa, ws, n.toNat, vd, h2, by rw [h3, Int.toNat_of_nonneg c.1], h4, by omega, hg, ?_⟩
                  rcases bnd_some ef6 with ⟨y1, S5, ef7, ef8⟩ | ⟨_, _, _, ef7, z⟩
                  · cases ef8
                  · cases z
                    exact ke σ H2 A2 S3 env _ _ s2 ((hE.mono e1).mono e2) ef7 _ fun C dd A' H' hc e s r => hp C dd σ A' H' hc ((e1.trans e2).trans e) s (((hE.mono e1).mono e2).mono e) r
            · rw [if_neg c] at ef5; cases ef5
          · cases ef5
        · unfold getP at ef5
          split at ef5
          · rename_i k n
            by_cases c : 0 ≤ n ∧ n < 2 ^ 62
            · rw [if_pos c] at ef5
              (try dsimp only at ef5)
              rcases eS : S3[k]? with _ | l
              · rw [eS] at ef5; cases ef5
              · rw [eS] at ef5
                (try dsimp only at ef5)
                rcases el : l[n.toNat]? with _ | d
                · rw [el] at ef5; cases ef5
                · rw [el] at ef5; cases ef5
            · rw [if_neg c] at ef5; cases ef5
          · cases ef5
      · cases z
        exact ki σ H1 A1 S2 env _ _ s1 (hE.mono e1) ef3 _ fun C dd A' H' hc e s r => hp C dd σ A' H' hc (e1.trans e) s ((hE.mono e1).mono e) r
    · cases z
      exact ko σ H A S env _ _ hS hE ef1 _ fun C dd A' H' hc e s r => hp C dd σ A' H' hc e s (hE.mono e) r
end
structure JOkS (K : PySem.W.Frag) (mg : Gm) (J : It) (ds : List SV) (inv : List Addr → Hp → Store → Prop) : Prop where
  go : ∀ i A H S, inv A H S → i < ds.length → J.go i H
  stop : ∀ A H S, inv A H S → J.stop ds.length H
  yld : ∀ i A H S x H' d, Sta K mg A H S → inv A H S → ds[i]? = some d → J.yld i H x H' → Ext A H A H' ∧ Sta K mg A H' S ∧ inv A H' S ∧ RepS K mg A H' d x
  keep : ∀ A H S A' H' S', Sta K mg A H S → inv A H S → Ext A H A' H' → Sta K mg A' H' S' → inv A' H' S'
section
variable {K : PySem.W.Frag} {mg : Gm}
theorem RepSs.get {A : List Addr} {H : Hp} : ∀ {ds : List SV} {vs : List V} {i : Nat} {d : SV}, RepSs K mg A H ds vs → ds[i]? = some d → ∃ v, vs[i]? = some v ∧ RepS K mg A H d v
  | [], vs, i, d, h, e => by simp at e
  | x :: ds, vs, 0, d, h, e => by
    obtain ⟨v, vs', rfl, h1, h2⟩ := h
    simp at e
    subst e
    exact ⟨v, rfl, h1⟩
  | x :: ds, vs, i + 1, d, h, e => by
    obtain ⟨v, vs', rfl, h1, h2⟩ := h
    exact RepSs.get (i := i) h2 (by simpa using e)
theorem jok_listS {a : Addr} {ds : List SV} : JOkS K mg (Itl K a) ds (fun A H S => ∃ vs, SqX K A H a vs ∧ RepSs K mg A H ds vs) where
  go := fun i A H S ⟨vs, h, r⟩ hi => by
    have hi' : i < vs.length := by rw [← r.length]; exact hi
    exact ⟨vs, vs[i], h.sql, List.getElem?_eq_getElem hi'⟩
  stop := fun A H S ⟨vs, h, r⟩ => ⟨vs, h.sql, by rw [← r.length]; exact Nat.le_refl _⟩
  yld := fun i A H S x H' d hS hI hd hy => by
    obtain ⟨rfl, hy⟩ := hy
    obtain ⟨vs, h, r⟩ := hI
    obtain ⟨v, h1, h2⟩ := r.get hd
    have e := hy vs h.sql
    rw [h1] at e
    cases e
    exact ⟨Ext.refl A _, hS, ⟨vs, h, r⟩, h2⟩
  keep := fun A H S A' H' S' hS ⟨vs, h, r⟩ e _ => ⟨vs, h.mono e, RepSs.mono e r⟩
end
noncomputable def forS (i : Nat) (F : SM) : List SV → SM
  | [], env, S => some (.nx env, S)
  | d :: ds, env, S => match F (env.set i (some d)) S with
      | some (.nx env2, S2) => forS i F ds env2 S2
      | some (.ct env2, S2) => forS i F ds env2 S2
      | some (.bk env2, S2) => some (.nx env2, S2)
      | some (.rt sv, S2) => some (.rt sv, S2)
      | some (.er c fs l env2, S2) => some (.er c fs l env2, S2)
      | none => none
end DL
namespace DL
open PySem L2
section
variable {X : Cx} {W : WG} {e e2 a b o i : Expr} {f g fo fi fe : Env → M SV} {fa : Env → M (List SV)} {p pos pos2 tpos apos cpos : Pos} {st : Stmt} {es : List Expr}
def sMut (g : List D → List SV → Option (List D)) (fo : Env → M SV) (fa : Env → M (List SV)) : SM := fun env => lift env (bnd (bnd (fo env) asPtr) fun k => bnd (fa env) fun v => ret (k, v)) fun q S => match cellC S q.1 with
  | some l => match g l q.2 with
    | some l' => some (.nx env, S.set q.1 l')
    | none => none
  | none => none
theorem tuple_mul1 (l : Addr) (items : Array Value) (n : Nat) (dd : Option Addr) (sl : Array (Option Value)) (u : Tok) :
    Meets (Builtin.«tuple.__mul__» ⟨[.ref l, .int 1 u], []⟩) (fun _ R s => s.heap.get? l = some { cls := .type "tuple", dict := dd, data := .seq items n, slots := sl } ∧ R (.ok (.ret (Value.ref l))) s) :=
  .of_wp fun prog w A R s h => by
    obtain ⟨hp, g, d, tk, os⟩ := s
    obtain ⟨hl, h⟩ := h
    have f1 := AutoSeq1.idx_int
    have c1 : (items.isEmpty || (1 : Int) == 1) = true := by simp
    wp_walk using wpAny_loadPart' hl
    repeat (first
      | (refine wpAny_ite_false (decide_eq_false (by decide)) ?_; wp_walk using wpAny_loadPart' hl)
      | (refine wpAny_ite_true (decide_eq_true c1) ?_; wp_walk using wpAny_loadPart' hl))
    exact ⟨_, rfl, h⟩
def rRep1 (K : PySem.W.Frag) : R2 := fun x y H Q => ∃ l xs, x = .ref l ∧ y = .int 1 ∧ SqT K H l xs ∧ Q (.ref l) H
theorem op_rep1 : OpR X (binaryOp .Mult) (rRep1 X.K) := by
  intro pins s σ H x y v u Q I rx ry h
  obtain ⟨l, xs, rfl, rfl, hT, q⟩ := h
  cases rx
  obtain ⟨t, rfl⟩ := ry
  obtain ⟨its, r, ⟨⟨cls, dd, data, sl⟩, ho, hc, n, hd⟩, hs⟩ := I.tuple hT
  simp only at hc hd
  subst hc hd
  exact wpAny_binaryOp_repeat_ref (T := "tuple") (U := "int") (by decide) ⟨_, ho, rfl⟩ (fun s' => typeIs_int s' 1 t) noFill_tuple_mul F.fills_int_mul F.slot_int_rmul repeat_tuple F.slot_int_index.lookup
    (call_meets F.slot_int_rmul (typeIs_int s 1 t) F.entry_int_rmul (F.args_int_rmul_2 _ _) (int_rmul_tuple 1 t l its.toArray n dd sl) ⟨ho, rfl, ⟨_, ho, rfl⟩, call_meets F.slot_tuple_mul ⟨_, ho, rfl⟩ F.entry_tuple_mul (F.args_tuple_mul_2 _ _) (tuple_mul1 l its.toArray n dd sl t) ⟨ho, .ref l, H, I, rfl, q⟩⟩)
def rMulT (K : PySem.W.Frag) : R2 := fun x y H Q => rRep1 K x y H Q ∨ rRepT K x y H Q
theorem op_mulT : OpR X (binaryOp .Mult) (rMulT X.K) := by
  intro pins s σ H x y v u Q I rx ry h
  rcases h with h | h
  · exact op_rep1 pins s σ H x y v u Q I rx ry h
  · exact op_repT pins s σ H x y v u Q I rx ry h
def oMulT (x y : SV) : M SV := match x, y with
  | .d (.tup l), .d (.int k) => if l ≠ [] ∧ 1 ≤ k ∧ k ≤ 1000 ∧ l.length ≤ 1000 then ret (.d (.tup (List.replicate k.toNat l).flatten)) else stuck
  | _, _ => stuck
theorem rok_mulT : ROk X W (rMulT X.K) oMulT := by
  intro a b x y σ H A S rr S' hS hx hy he Q hp
  unfold oMulT at he
  split at he
  · rename_i l k
    by_cases c : l ≠ [] ∧ 1 ≤ k ∧ k ≤ 1000 ∧ l.length ≤ 1000
    · rw [if_pos c] at he
      cases he
      have h1 : Rep X.K X.mg A H (.tup l) x := hx
      have h2 : Rep X.K X.mg A H (.int k) y := hy
      simp only [Rep] at h1 h2
      obtain ⟨q, vs, e1, n, hq, r⟩ := h1
      by_cases hk : k = 1
      · subst hk
        refine .inl ⟨q, vs, e1, h2, SqT.of hq, ?_⟩
        refine hp.val hS (show Rep X.K X.mg A H _ _ from ?_)
        simp only [Rep]
        exact ⟨q, vs, rfl, n, hq, by simpa using r⟩
      · refine .inr ⟨q, k, vs, e1, h2, SqT.of hq, fun e => c.1 (List.eq_nil_of_length_eq_zero (by rw [r.length, e]; rfl)), by omega, c.2.2.1, by rw [← r.length]; exact c.2.2.2, fun p hpn => hp.new hS hpn ?_⟩
        simp only [Rep]
        exact ⟨p, _, rfl, hS.free hpn, upd_same, Reps.mono (Ext.new hpn) _ _ (r.flat k.toNat)⟩
    · rw [if_neg c] at he; cases he
  · cases he
end
end DL
namespace DL
open PySem L2 PySem.Spec PyProof.Rows
section
variable {X : Cx} {W : WG} {e a o : Expr} {f fo : Env → M SV} {p pos tpos : Pos}
def sSetAll (fo fe : Env → M SV) : SM := fun env => lift env (bnd (fe env) fun v => bnd (bnd (fo env) asPtr) fun k => ret (v, k)) fun q S => match q with
  | (.d (.lst ys), k) => match S[k]? with
    | some xs => if xs.length + ys.length ≤ lim then some (.nx env, S.set k ys) else none
    | none => none
  | _ => none
end
end DL
namespace DL
open PySem L2
structure Oth (K : PySem.W.Frag) (mg : Str → Option Value) (C : Addr) (c' : Str) (C' : Addr) : Prop where
  g : mg c' = some (.ref C')
  i : IsC K C'
  ns : PySem.W.subIn K (.ref C') (.ref C) = some false
  ne : (Value.ref C' == Value.ref C) = false
theorem Oth.kt {K : PySem.W.Frag} {mg : Str → Option Value} {C C' : Addr} {c' : Str} (o : Oth K mg C c' C') (i : IsC K C) : PySem.W.kitOne K (.ref C') (.ref C) = some false := by
  have e5 : (PySem.W.clsIn K C).isSome = true := i.jC
  have e6 : ((Value.ref C') == (Value.ref C)) = false := o.ne
  unfold PySem.W.kitOne PySem.W.kitCls
  simp [e5, e6, i.tC, o.ns]
end DL
namespace DL
open PySem L2
end DL
namespace DL
open PySem L2
abbrev KD := List (List L2.Key × D)
def valD (l : KD) (k : List L2.Key) : Option D := (l.find? fun kv => decide (kv.1 = k)).map (·.2)
section
variable {K : PySem.W.Frag} {mg : Str → Option Value} {A : List Addr} {H : Hp}
/-- the entries and what they stand for -/
abbrev KR (K : PySem.W.Frag) (mg : Str → Option Value) (A : List Addr) (H : Hp) : KD → List (List L2.Key × V) → Prop := Paired fun p q => p.1 = q.1 ∧ Rep K mg A H p.2 q.2
theorem KR.any {l : KD} {kvs : List (List L2.Key × V)} (h : KR K mg A H l kvs) (k : List L2.Key) : (l.any fun kv => decide (kv.1 = k)) = (kvs.any fun kv => decide (kv.1 = k)) := by
  induction h with
  | nil => rfl
  | cons h t ih => rw [List.any_cons, List.any_cons, ih, h.1]
theorem KR.val {l : KD} {kvs : List (List L2.Key × V)} (h : KR K mg A H l kvs) (k : List L2.Key) : (∀ d, valD l k = some d → ∃ v, valV kvs k = some v ∧ Rep K mg A H d v) ∧ (valD l k = none → valV kvs k = none) := by
  induction h with
  | nil => exact ⟨fun d e => by simp [valD] at e, fun _ => rfl⟩
  | @cons p q ps qs h t ih =>
    by_cases e : p.1 = k
    · have e' : q.1 = k := h.1.symm.trans e
      have a : valD (p :: ps) k = some p.2 := by simp [valD, List.find?_cons, e]
      rw [a, valV_pos e']
      exact ⟨fun d z => by cases z; exact ⟨_, rfl, h.2⟩, fun z => by cases z⟩
    · have e' : ¬ q.1 = k := fun z => e (h.1.trans z)
      have a : valD (p :: ps) k = valD ps k := by simp [valD, List.find?_cons, e]
      rw [a, valV_neg e']
      exact ih
theorem KR.of : ∀ {ks : List (List L2.Key)} {l : List D} {vs : List V}, ks.length = vs.length → Reps K mg A H l vs → KR K mg A H (ks.zip l) (ks.zip vs)
  | [], l, vs, _, _ => by rw [List.zip_nil_left, List.zip_nil_left]; exact .nil
  | k :: ks, [], vs, e, h => by simp only [Reps] at h; subst h; simp at e
  | k :: ks, d :: l, vs, e, h => by
    simp only [Reps] at h
    obtain ⟨v, r, rfl, h1, h2⟩ := h
    rw [List.zip_cons_cons, List.zip_cons_cons]
    exact .cons ⟨rfl, h1⟩ (KR.of (by simpa using e) h2)
theorem KR.mono {A' : List Addr} {H' : Hp} (x : Ext A H A' H') {l : KD} {kvs : List (List L2.Key × V)} (h : KR K mg A H l kvs) : KR K mg A' H' l kvs := by
  induction h with
  | nil => exact .nil
  | cons h t ih => exact .cons ⟨h.1, Rep.mono x _ _ h.2⟩ ih
end
section
variable {X : Cx} {W : WG} {e e2 a b o i : Expr} {f g fo fi fe : Env → M SV} {fa : Env → M (List SV)} {p pos pos2 tpos apos cpos : Pos} {k : Nat}
theorem d2 {A : Around} (r : Room k A) : A.units + 2 < cLine := by have := r.un; omega
theorem d1 {A : Around} (r : Room k A) : A.units + 1 < cLine := by have := r.un; omega
end
end DL
namespace DL
open PySem L2
end DL
namespace DL
open PySem L2
end DL
namespace DL
open PySem L2
section
variable {X : Cx} {W : WG} {P : Program} {k : Nat} {c name : Str} {ps : List Str} {m : Fn} {C f : Addr} {fd : FuncData} {x : Str} {p pos apos : Pos} {e o a b : Expr} {es : List Expr} {g h fo fe : Env → M SV} {fa : Env → M (List SV)} {t : Env → M Bool} {F : SM} {body : List Stmt} {st : Stmt}
def noFldB (c name : Str) (S : Store) : SV → Bool
  | .obj k => match S[k]? with
    | some [.ins c' fs _] => c' == c && !fs.contains name
    | _ => false
  | _ => false
theorem noFldB_rep {K : PySem.W.Frag} {mg : Gm} {A : List Addr} {H : Hp} {S : Store} {sv : SV} {v : V} (hS : Sta K mg A H S) (hc : mg.m c = some (.ref C)) (h : RepS K mg A H sv v) (e : noFldB c name S sv = true) : ∃ q dx gs, v = .ref q ∧ H q = some (.ins C dx gs) ∧ gs.lookup name = none := by
  unfold noFldB at e
  split at e
  · rename_i k
    split at e
    · rename_i c' fs l q
      rw [Bool.and_eq_true] at e
      have ec : c' = c := by simpa using e.1
      subst ec
      obtain ⟨a, h1, h2, h0⟩ := h
      obtain ⟨c2, fs2, l2, C2, dx, vs, h3, h4, h5, h6, h7⟩ := (hS.at' k a _ h1 q).ins h0
      cases h3
      rw [hc] at h4
      cases h4
      exact ⟨a, dx, _, h2, h5, lookup_none (by simpa using e.2)⟩
    · cases e
  · cases e
def eMethB (c name : Str) (cv : RR → M SV) (m : Fn) (fo : Env → M SV) (fa : Env → M (List SV)) : Env → M SV := fun env => bnd (fo env) fun o S => if noFldB c name S o = true then (bnd (fa env) fun as => callM cv m (o :: as)) S else none
theorem tok_methB {cv : RR → M SV} (hcv : CvOk cv) {ta : TE} {t : TA} (hc : X.mg c = some (.ref C)) (ko : TOk X.K (gm X W) (relS X.K (gm X W)) W ta fo) (ka : TOk X.K (gm X W) (relA X.K (gm X W)) W t fa) :
    TOk X.K (gm X W) (relS X.K (gm X W)) W (tMethE X.K C name (spD X.K X.mg m) (WE W.w) ta t) (eMethB c name cv m fo fa) := by
  refine tbind (rel := relS X.K (gm X W)) (rel2 := relS X.K (gm X W)) (g := fun env o S => if noFldB c name S o = true then (bnd (fa env) fun as => callM cv m (o :: as)) S else none)
    (tk := fun x σ H1 Q => ∃ a dx fs, x = .ref a ∧ H1 a = some (.ins C dx fs) ∧ fs.lookup name = none ∧ t σ H1 fun vs H2 => spD X.K X.mg m (.ref a :: vs) H2 Q (WE W.w σ)) ko fun a v σ H A S env r S' hS hE hx he Q hp => ?_
  by_cases hn : noFldB c name S a = true
  · rw [if_pos hn] at he
    obtain ⟨q, dx, gs, e1, h1, h2⟩ := noFldB_rep (mg := gm X W) hS hc hx hn
    subst e1
    refine ⟨q, dx, gs, rfl, h1, h2, ?_⟩
    rcases bnd_some he with ⟨as, S1, ef, q2⟩ | ⟨c, fs, l, ef, rfl⟩
    · exact ka σ H A S env _ S1 hS hE ef _ fun vs A1 H1 e1 s1 r1 => call_step hcv s1 (as := a :: as) (vs := .ref q :: vs) ⟨.ref q, vs, rfl, RepS.mono e1 hx, r1⟩ q2 (hp.mono e1) _ fun _ _ _ h => h
    · exact ka σ H A S env _ _ hS hE ef _ hp
  · rw [if_neg hn] at he; cases he
theorem de_methB {cv : RR → M SV} (hcv : CvOk cv) {pl : Sem Bool} (M0 : OwnM X.prog X.w X.K X.mg X.base k c name ps m C f fd) (hr : Room k X.A) (tk : L2N.Takes X W.w) (ho : DE X W o fo) (ha : DA X W (e :: es) fa)
    (hst : starEach (e :: es) X.env = (false, eval e X.env) :: starEach es X.env := by rfl) (hpl : (backTo pos (starEach es X.env)).any (·.1) = false := by rfl)
    (ht : eval (.Call (.Attribute o name apos) (e :: es) [] pos) X.env = (do
      let ov ← eval o X.env
      standAt apos.atName
      let (f, first) ← holding [ov] (getMethod ov name pl)
      callWith pos f first (backTo pos (starEach (e :: es) X.env)) (backToKw pos (keywordEach [] X.env))) := by rfl) :
    DE X W (.Call (.Attribute o name apos) (e :: es) [] pos) (eMethB c name cv m fo fa) := by
  obtain ⟨ta, po, ko⟩ := ho
  obtain ⟨t, pa, ka⟩ := ha
  exact ⟨_, pe_methE (pl := pl) po M0.cl M0.M M0.F hr M0.b (fun σ => L2N.passAt tk σ) pa hst hpl ht, tok_methB hcv M0.gC ko ka⟩
theorem de_methB0 {cv : RR → M SV} (hcv : CvOk cv) {pl : Sem Bool} (M0 : OwnM X.prog X.w X.K X.mg X.base k c name ps m C f fd) (hr : Room k X.A) (tk : L2N.Takes X W.w) (ho : DE X W o fo)
    (ht : eval (.Call (.Attribute o name apos) [] [] pos) X.env = (do
      let ov ← eval o X.env
      standAt apos.atName
      let (f, first) ← holding [ov] (getMethod ov name pl)
      callWith pos f first (backTo pos (starEach [] X.env)) (backToKw pos (keywordEach [] X.env))) := by rfl) :
    DE X W (.Call (.Attribute o name apos) [] [] pos) (eMethB c name cv m fo aNil) := by
  obtain ⟨ta, po, ko⟩ := ho
  exact ⟨_, pe_methE0 (pl := pl) po M0.cl M0.M M0.F hr M0.b (fun σ => L2N.passAt tk σ) ht, tok_methB hcv M0.gC ko (t := tNil) (fun σ H A S env r S' hS hE he Q hp => by cases he; exact hp.val hS rfl)⟩
def asT : SV → M Bool
  | .d (.lst l) => ret (!l.isEmpty)
  | .d (.bl b) => ret b
  | _ => stuck
def eTru (f : Env → M SV) : Env → M Bool := fun env => bnd (f env) asT
end
end DL
namespace DL
open PySem L2
end DL
namespace DL
open PySem L2 PySem.W PyProof.Rows
end DL
namespace DL
open PySem L2
open PyProof.Rows (Call_)
end DL
namespace DL
open PySem L2
open RZ (ItzT pi_zipA)
section
variable {K : PySem.W.Frag} {mg : Gm}
def InvL (K : PySem.W.Frag) (mg : Gm) (a : Addr) (ds : List D) (p : List (Nat × List D)) (A : List Addr) (H : Hp) : Prop :=
  ∃ vs, Reps K mg.m A H ds vs ∧ ((p = [] ∧ SqX K A H a vs) ∨ ∃ k, p = [(k, ds)] ∧ clsd ds = true ∧ A[k]? = some a ∧ H a = some (.lst vs))
theorem InvL.new {a T : Addr} {ds : List D} {p : List (Nat × List D)} {A : List Addr} {H : Hp} {o : HO} (h : InvL K mg a ds p A H) (hT : H T = none) : InvL K mg a ds p A (upd H T o) := by
  have e := Ext.new (A := A) (o := o) hT
  obtain ⟨vs, r, ⟨q, h⟩ | ⟨k, q, hc, h1, h⟩⟩ := h
  · exact ⟨vs, Reps.mono e _ _ r, .inl ⟨q, h.mono e⟩⟩
  · exact ⟨vs, Reps.mono e _ _ r, .inr ⟨k, q, hc, h1, by rw [upd_ne (ne_of_none h hT)]; exact h⟩⟩
theorem InvL.keep {a : Addr} {ds : List D} {p : List (Nat × List D)} {A A' : List Addr} {H H' : Hp} {S' : Store} (h : InvL K mg a ds p A H) (e : Ext A H A' H') (hS' : Sta K mg A' H' S') (hk : ∀ q ∈ p, S'[q.1]? = some q.2) : InvL K mg a ds p A' H' := by
  obtain ⟨vs, r, ⟨q, h⟩ | ⟨k, q, hc, h1, h⟩⟩ := h
  · exact ⟨vs, Reps.mono e _ _ r, .inl ⟨q, h.mono e⟩⟩
  · subst q
    have h1' : A'[k]? = some a := by
      obtain ⟨l, rfl, _⟩ := e.app
      rw [List.getElem?_append_left (List.getElem?_eq_some_iff.mp h1).1]; exact h1
    obtain ⟨ws, h3, h4⟩ := hS'.lstC h1' (e.kl a vs h) (hk _ (List.mem_singleton.mpr rfl)) hc
    exact ⟨ws, h4, .inr ⟨k, rfl, hc, h1', h3⟩⟩
end
end DL
namespace DL
open PySem L2
def dicOf (S : Store) (k : Nat) : Option KD := match S[k]? with
  | some [.dct ks l] => some (ks.zip l)
  | _ => none
section
variable {K : PySem.W.Frag} {g : Gm} {A : List Addr} {H : Hp} {S : Store}
theorem Sta.dic {k : Nat} {a : Addr} {l : KD} (s : Sta K g A H S) (h1 : A[k]? = some a) (h0 : (∃ kvs, H a = some (.dT kvs)) ∨ ∃ kvs, H a = some (.dK kvs)) (e : dicOf S k = some l) : ∃ kvs, H a = some (.dT kvs) ∧ KR K g.m A H l kvs := by
  unfold dicOf at e
  split at e
  · rename_i ks l0 eS
    cases e
    rcases s.at' k a _ h1 eS with ⟨vs, hv, _⟩ | ⟨c, fs, l, C, dx, vs, z, _⟩ | ⟨ks', l', vs, z, hv, hl, r⟩ | ⟨ks', l', vs, z, _⟩
    · rcases h0 with ⟨_, h0⟩ | ⟨_, h0⟩ <;> · rw [hv] at h0; cases h0
    · cases z
    · cases z
      exact ⟨_, hv, KR.of hl r⟩
    · cases z
  · cases e
end
end DL
namespace DL
open PySem L2
section
variable {K : PySem.W.Frag} {mg : Str → Option Value} {A : List Addr} {H : Hp}
theorem KR.some {l : KD} {kvs : List (List L2.Key × V)} (h : KR K mg A H l kvs) (k : List L2.Key) : (valV kvs k).isSome = (valD l k).isSome := by
  rcases e : valD l k with _ | d
  · rw [(h.val k).2 e]; rfl
  · obtain ⟨v, hv, _⟩ := (h.val k).1 d e
    rw [hv]; rfl
end
end DL
namespace DL
open PySem L2
end DL
namespace DL
open PySem L2
end DL
namespace DL
open PySem L2
end DL
namespace DL
open PySem L2
end DL
namespace DL
open PySem L2
end DL
namespace DL
open PySem L2
end DL
namespace DL
open PySem L2 PySem.Spec PyProof.Rows
end DL
namespace DL
open PySem L2 PySem.Spec PyProof.Rows
end DL
namespace DL
open PySem L2 PySem.Spec PyProof.Rows
section
variable {X : Cx} {W : WG} {k : Nat} {c : Str} {ps : List Str} {m : Fn} {C f : Addr} {fd : FuncData} {x : Str} {p pos : Pos} {e : Expr} {fa : Env → M (List SV)}
def lenBk (r : SV) : M SV := match r with
  | .d (.int n) => if 0 ≤ n ∧ n < 2 ^ 63 then ret (.d (.int n)) else stuck
  | _ => stuck
def rLenO (X : Cx) (W : WG) (C : Addr) (m : Fn) (σ : L2.St) (vs : List V) (H : Hp) (Q : VK) : Prop := (∃ q dx gs vs', vs = .ref q :: vs' ∧ H q = some (.ins C dx gs)) ∧ spD X.K X.mg m vs H (fun z H' => ∃ n : Int, z = .int n ∧ (0 ≤ n ∧ n < 2 ^ 63) ∧ Q (.int n) H') (WE W.w σ)
theorem pe_lenO {ta : TA} (M0 : OwnM X.prog X.w X.K X.mg X.base k c "__len__" ps m C f fd) (hps : ps.length = 1) (hr : Room (k + 1) X.A) (tk : L2N.Takes X W.w) (hg : Gl X x) (hm : X.mg x = none) (hv : bootBuiltins x = some (.builtin "len")) (ha : PA X [e] ta) (hn : x ≠ "__name__" := by decide) (hdb : (x == ("__debug__" : Str)) = false := by decide)
    (hs : starEach [e] X.env = (false, eval e X.env) :: starEach [] X.env := by rfl) : PE X (.Call (.Name x p) [e] [] pos) (fun σ H Q => ta σ H fun vs H1 => rLenO X W C m σ vs H1 Q) := by
  refine ⟨fun pins s σ H Q I h => ?_⟩
  refine wpAny_Call_Name_kw (ld_blt I hg hm hv ?_ hn hdb)
  refine PyProof.Rows.callWith_builtin1 (thn (ha.run pos pins s σ H _ I h) fun us s1 ⟨vs, H1, I1, r1, ⟨q, dx, gs, vs', e1, h1⟩, h2⟩ => ?_) hs rfl
  have hl := M0.F.len _ _ _ _ h2
  subst e1
  rw [hps] at hl
  have : vs' = [] := by cases vs' with
    | nil => rfl
    | cons _ _ => simp at hl
  subst this
  cases r1 with
  | cons r rr =>
    cases rr
    cases r
    obtain ⟨mA, O, _⟩ := ins_get I1.hok h1
    obtain ⟨od, J, _⟩ := O.look
    obtain ⟨m0, hF⟩ := I1.fr
    refine PySem.W.len_K hF I1.ok.mod.kin J M0.M.at_ M0.M.fn (wpAny_mono (run_low (A := X.A.in1) (us := [.ref q]) (vs := [.ref q]) M0.F hr.in1 rfl M0.b (L2N.passAt tk σ) I1 (.cons rfl .nil) h2) (fun w s' z => ?_) fun _ _ x => x)
    obtain ⟨z', H', I', rz, n, en, hn, qz⟩ := z
    subst en
    obtain ⟨t, rfl⟩ := (show ∃ t, w = Value.int n t from rz)
    exact ⟨hn, .int n, H', I'.tok _, ⟨_, rfl⟩, qz⟩
end
end DL
namespace DL
open PySem L2 PySem.Spec PyProof.Rows
end DL
namespace DL
open PySem L2
/-- data that is no object -/
def flatD : D → Bool
  | .non => true
  | .bl _ => true
  | .int _ => true
  | .str _ => true
  | _ => false
end DL
namespace DL
open PySem L2
section
variable {X : Cx} {W : WG} {a b : Expr} {f g : Env → M SV} {pos : Pos}
def lendSV (S : Store) : SV → Option SV
  | .d x => some (.d x)
  | .ptr k => match S[k]? with
    | some l => (frzL 0 S l).map fun l' => .d (.lst l')
    | none => none
  | _ => none
def lendEnv (S : Store) (env : Env) : Env := env.map fun s => s.bind (lendSV S)
def sLend (F : SM) : SM := fun env S => match F (lendEnv S env) [] with
  | some (.rt (.d x), S1) => if flatD x = true then some (.rt (.d x), S) else none
  | _ => none
end
end DL
namespace DL
open PySem L2 PySem.Spec PyProof.Rows
end DL
namespace DL
open PySem L2
end DL
namespace DL
open PySem L2
section
variable {X : Cx} {W : WG} {st : Stmt} {o : Expr} {fo : Env → M SV}
def sClearX (fo : Env → M SV) : SM := fun env => lift env (bnd (bnd (fo env) asPtr) fun k => bnd (aNil env) fun v => ret (k, v)) fun q S => match S[q.1]? with
  | some _ => some (.nx env, S.set q.1 [])
  | none => none
end
end DL
namespace DL
open PySem
@[elab_as_elim] theorem ofN1 {motive : List Value → Prop} (us : List Value) (hl : us.length = 1) (h : ∀ a0 : Value, motive [a0]) : motive us := match us, hl with
  | [a0], _ => h a0
@[elab_as_elim] theorem ofN2 {motive : List Value → Prop} (us : List Value) (hl : us.length = 2) (h : ∀ a0 a1 : Value, motive [a0, a1]) : motive us := match us, hl with
  | [a0, a1], _ => h a0 a1
@[elab_as_elim] theorem ofN3 {motive : List Value → Prop} (us : List Value) (hl : us.length = 3) (h : ∀ a0 a1 a2 : Value, motive [a0, a1, a2]) : motive us := match us, hl with
  | [a0, a1, a2], _ => h a0 a1 a2
end DL
namespace DL
open PySem L2
open PyProof.Rows (step_dedup firstMet IntsAre)
section
variable {X : Cx} {W : WG} {a : Expr} {f : Env → M SV} {p p2 q pos : Pos}
def asTA (x : SV) : M Bool := fun S => match x with
  | .d .non => some (.ok false, S)
  | x => match seqOf S x with
    | some l => some (.ok (!l.isEmpty), S)
    | none => none
def eTruA (f : Env → M SV) : Env → M Bool := fun env => bnd (f env) asTA
theorem dt_truA (ha : DE X W a f) (he : ∀ whole, isTrue a X.env whole = (do let v ← whole; standAt a.pos; holding [v] (truthy v)) := by intro _; rfl) : DT X W a (eTruA f) := by
  obtain ⟨ta, pa, ka⟩ := ha
  refine ⟨_, pt_truth pa he, tbind (rel := relS X.K (gm X W)) (rel2 := relB) (g := fun _ x => asTA x) (tk := fun x _ H1 Q => ∃ k, TruV X.K x H1 k ∧ Q k H1) ka fun a v σ H A S env r S' hS hE hx he Q hp => ?_⟩
  unfold asTA at he
  split at he
  · cases he
    have h1 : Rep X.K X.mg A H .non v := hx
    simp only [Rep] at h1
    subst h1
    exact ⟨false, rfl, hp.val hS rfl⟩
  · split at he
    · rename_i l e1
      cases he
      obtain ⟨aa, vs, rfl, h1, h2⟩ := seq_rep hS hx e1
      have hl := h2.length
      have e : (!vs.isEmpty) = !l.isEmpty := by cases l <;> cases vs <;> first | rfl | cases hl
      rcases h1 with h1 | h1
      · exact ⟨!vs.isEmpty, .inl ⟨vs, h1, rfl⟩, hp.val hS e.symm⟩
      · exact ⟨!vs.isEmpty, .inr (.inl ⟨vs, h1, rfl⟩), hp.val hS e.symm⟩
    · cases he
end
end DL
namespace DL
open PySem L2
def pick {α : Type} (b : Bool) (x y : α) : α := if b then x else y
section
variable {env e' : Env} {S S1 S2 S3 S4 : Store}
theorem q_pkT {α : Type} {x y r : α} (h : x = r) : pick true x y = r := h
theorem q_pkF {α : Type} {x y r : α} (h : y = r) : pick false x y = r := h
theorem q_pkNF {α : Type} {x y r : α} (h : x = r) : pick (!false) x y = r := h
theorem q_pkNT {α : Type} {x y r : α} (h : y = r) : pick (!true) x y = r := h
theorem q_go {α : Type} {x y : α} (h : x = y) : x = y := h
theorem q_fin {α : Type} {x y : α} (h : some x = some y) : some x = some y := h
theorem q_leaf {α : Type} {x : Option (R α × Store)} {r : R α × Store} (h : x = some r) : x = some r := h
theorem q_pickT {α : Type} {b : Bool} {x y r : α} (hb : b = true) (h : x = r) : pick b x y = r := by rw [hb]; exact h
theorem q_pickF {α : Type} {b : Bool} {x y r : α} (hb : b = false) (h : y = r) : pick b x y = r := by rw [hb]; exact h
theorem q_pickNT {α : Type} {b : Bool} {x y r : α} (hb : b = false) (h : x = r) : pick (!b) x y = r := by rw [hb]; exact h
theorem q_pickNF {α : Type} {b : Bool} {x y r : α} (hb : b = true) (h : y = r) : pick (!b) x y = r := by rw [hb]; exact h
theorem q_nr {b : Bool} : (!b) = !b := rfl
theorem q_pkAnd {b c : Bool} {x : Option (R SV × Store)} (h : x = some (.ok (.d (.bl c)), S)) : pick b x (some (.ok (.d (.bl false)), S)) = some (.ok (.d (.bl (b && c))), S) := by cases b <;> first | exact h | rfl
theorem q_pkOr {b c : Bool} {x : Option (R SV × Store)} (h : x = some (.ok (.d (.bl c)), S)) : pick b (some (.ok (.d (.bl true)), S)) x = some (.ok (.d (.bl (b || c))), S) := by cases b <;> first | exact h | rfl
theorem q_pkAndB {b c : Bool} {x : Option (R Bool × Store)} (h : x = some (.ok c, S)) : pick b x (some (.ok false, S)) = some (.ok (b && c), S) := by cases b <;> first | exact h | rfl
theorem q_pkOrB {b c : Bool} {x : Option (R Bool × Store)} (h : x = some (.ok c, S)) : pick b (some (.ok true, S)) x = some (.ok (b || c), S) := by cases b <;> first | exact h | rfl
theorem q_nt : (!true) = false := rfl
theorem q_nf : (!false) = true := rfl
theorem q_nn {b : Bool} : (!(!b)) = b := Bool.not_not b
theorem q_ret {α : Type} {m : M α} {a : α} (h : m = ret a) : m S = some (.ok a, S) := by rw [h]; rfl
theorem q_fun {α : Type} {m : M α} {a : α} (h : ∀ S, m S = some (.ok a, S)) : m = ret a := funext h
theorem q_var {i : Nat} {x : SV} (h : env[i]? = some (some x)) : eVar i env S = some (.ok x, S) := by unfold eVar; rw [h]; rfl
theorem q_c {d : D} : eC d env S = some (.ok (.d d), S) := rfl
theorem q_op {o : SV → SV → M SV} {f g : Env → M SV} {x y : SV} {r} (h1 : f env S = some (.ok x, S1)) (h2 : g env S1 = some (.ok y, S2)) (h3 : o x y S2 = r) : eOp o f g env S = r := by
  unfold eOp; rw [bnd_at h1, bnd_at h2, h3]
theorem q_un {o : SV → M SV} {f : Env → M SV} {x : SV} {r} (h1 : f env S = some (.ok x, S1)) (h3 : o x S1 = r) : eUn o f env S = r := by unfold eUn; rw [bnd_at h1, h3]
theorem q_nil : aNil env S = some (.ok [], S) := rfl
theorem q_cons {f : Env → M SV} {fa : Env → M (List SV)} {x : SV} {xs : List SV} (h1 : f env S = some (.ok x, S1)) (h2 : fa env S1 = some (.ok xs, S2)) : aCons f fa env S = some (.ok (x :: xs), S2) := by
  unfold aCons; rw [bnd_at h1, bnd_at h2]; rfl
theorem q_arg {α : Type} {o : List SV → M α} {fa : Env → M (List SV)} {xs : List SV} {r} (h1 : fa env S = some (.ok xs, S1)) (h3 : o xs S1 = r) : eArg o fa env S = r := by unfold eArg; rw [bnd_at h1, h3]
theorem q_call {cv : RR → M SV} {m : Fn} {fa : Env → M (List SV)} {xs : List SV} {r} (h1 : fa env S = some (.ok xs, S1)) (h3 : callM cv m xs S1 = r) : eCall cv m [] fa env S = r := by
  unfold eCall; rw [bnd_at h1, List.append_nil, h3]
theorem q_callD {cv : RR → M SV} {m : Fn} {fa : Env → M (List SV)} {xs : List SV} {d : SV} {r} (h1 : fa env S = some (.ok xs, S1)) (h3 : callM cv m (xs ++ [d]) S1 = r) : eCall cv m [d] fa env S = r := by
  unfold eCall; rw [bnd_at h1, h3]
theorem q_tst {f : Env → M SV} {b : Bool} (h1 : f env S = some (.ok (.d (.bl b)), S1)) : eTst f env S = some (.ok b, S1) := by unfold eTst; rw [bnd_at h1]; rfl
theorem q_tru {f : Env → M SV} {x : SV} {r} (h1 : f env S = some (.ok x, S1)) (h2 : asT x S1 = r) : eTru f env S = r := by unfold eTru; rw [bnd_at h1, h2]
theorem q_truA {f : Env → M SV} {x : SV} {r} (h1 : f env S = some (.ok x, S1)) (h2 : asTA x S1 = r) : eTruA f env S = r := by unfold eTruA; rw [bnd_at h1, h2]
theorem q_not {t : Env → M Bool} {b c : Bool} (h1 : t env S = some (.ok b, S1)) (h2 : (!b) = c) : tyNot t env S = some (.ok c, S1) := by unfold tyNot; rw [bnd_at h1, ← h2]; rfl
theorem q_enot {t : Env → M SV} {b c : Bool} (h1 : t env S = some (.ok (.d (.bl b)), S1)) (h2 : (!b) = c) : eNot t env S = some (.ok (.d (.bl c)), S1) := by
  unfold eNot; rw [bnd_at (show bnd (t env) asB S = some (.ok b, S1) by rw [bnd_at h1]; rfl), ← h2]; rfl
theorem q_yes : tYesD env S = some (.ok true, S) := rfl
theorem q_and {t u : Env → M Bool} {b : Bool} {r} (h1 : t env S = some (.ok b, S1)) (h2 : pick b (u env S1) (some (.ok false, S1)) = r) : tyAnd t u env S = r := by
  unfold tyAnd; rw [bnd_at h1, ← h2]; cases b <;> rfl
theorem q_or {t u : Env → M Bool} {b : Bool} {r} (h1 : t env S = some (.ok b, S1)) (h2 : pick b (some (.ok true, S1)) (u env S1) = r) : tyOr t u env S = r := by
  unfold tyOr; rw [bnd_at h1, ← h2]; cases b <;> rfl
theorem q_eand {f g : Env → M SV} {b : Bool} {r} (h1 : f env S = some (.ok (.d (.bl b)), S1)) (h2 : pick b (g env S1) (some (.ok (.d (.bl false)), S1)) = r) : eAnd f g env S = r := by
  unfold eAnd; rw [bnd_at (show bnd (f env) asB S = some (.ok b, S1) by rw [bnd_at h1]; rfl), ← h2]; cases b <;> rfl
theorem q_eor {f g : Env → M SV} {b : Bool} {r} (h1 : f env S = some (.ok (.d (.bl b)), S1)) (h2 : pick b (some (.ok (.d (.bl true)), S1)) (g env S1) = r) : eOr f g env S = r := by
  unfold eOr; rw [bnd_at (show bnd (f env) asB S = some (.ok b, S1) by rw [bnd_at h1]; rfl), ← h2]; cases b <;> rfl
theorem q_eif {t : Env → M Bool} {f g : Env → M SV} {b : Bool} {r} (h1 : t env S = some (.ok b, S1)) (h2 : pick b (f env S1) (g env S1) = r) : eIf t f g env S = r := by
  unfold eIf; rw [bnd_at h1, ← h2]; cases b <;> rfl
def chK (o : SV → SV → M SV) (y : SV) (h : Env → M SV) (env : Env) : M SV := bnd (h env) fun z => o y z
theorem q_chK {o : SV → SV → M SV} {y z : SV} {h : Env → M SV} {r} (h1 : h env S = some (.ok z, S1)) (h2 : o y z S1 = r) : chK o y h env S = r := by unfold chK; rw [bnd_at h1, h2]
theorem q_ch {o o' : SV → SV → M SV} {f g h : Env → M SV} {x y : SV} {b : Bool} {r} (h1 : f env S = some (.ok x, S1)) (h2 : g env S1 = some (.ok y, S2)) (h3 : o x y S2 = some (.ok (.d (.bl b)), S3)) (h4 : pick b (chK o' y h env S3) (some (.ok (.d (.bl false)), S3)) = r) : eCh o o' f g h env S = r := by
  unfold eCh; rw [bnd_at h1, bnd_at h2, bnd_at (show bnd (o x y) asB S2 = some (.ok b, S3) by rw [bnd_at h3]; rfl), ← h4]; cases b <;> rfl
theorem q_sl {f : Env → M SV} {lo hi : Env → M (Option Int)} {x : SV} {l h : Option Int} {r} (h1 : f env S = some (.ok x, S1)) (h2 : lo env S1 = some (.ok l, S2)) (h3 : hi env S2 = some (.ok h, S3)) (h4 : oSl x l h S3 = r) : eSl f lo hi env S = r := by
  unfold eSl; rw [bnd_at h1, bnd_at h2, bnd_at h3, h4]
theorem q_pN : pNone env S = some (.ok none, S) := rfl
theorem q_pS {f : Env → M SV} {i : Int} (h : f env S = some (.ok (.d (.int i)), S1)) : pSome f env S = some (.ok (some i), S1) := by unfold pSome; rw [bnd_at h]; rfl
theorem q_slL {l : List D} {lo hi : Option Int} : oSl (.d (.lst l)) lo hi S = some (.ok (.d (.lst (cutD l lo hi))), S) := rfl
theorem q_slT {l : List D} {lo hi : Option Int} : oSl (.d (.tup l)) lo hi S = some (.ok (.d (.tup (cutD l lo hi))), S) := rfl
theorem q_meth {c name : Str} {cv : RR → M SV} {m : Fn} {fo : Env → M SV} {fa : Env → M (List SV)} {o : SV} {as : List SV} {r} (h1 : fo env S = some (.ok o, S1)) (hn : noFld c name o = true) (h2 : fa env S1 = some (.ok as, S2)) (h3 : callM cv m (o :: as) S2 = r) : eMeth c name cv m fo fa env S = r := by
  unfold eMeth; rw [bnd_at h1, if_pos hn, bnd_at h2, h3]
theorem q_methB {c name : Str} {cv : RR → M SV} {m : Fn} {fo : Env → M SV} {fa : Env → M (List SV)} {o : SV} {as : List SV} {r} (h1 : fo env S = some (.ok o, S1)) (hn : noFldB c name S1 o = true) (h2 : fa env S1 = some (.ok as, S2)) (h3 : callM cv m (o :: as) S2 = r) : eMethB c name cv m fo fa env S = r := by
  unfold eMethB; rw [bnd_at h1]; rw [if_pos hn, bnd_at h2, h3]
theorem q_ble {a b : Nat} (h : Nat.ble a b = true) : Nat.ble a b = true := h
theorem q_nofld {c n : Str} {o : SV} (h : noFld c n o = true) : noFld c n o = true := h
theorem q_dn : datas [] = some [] := rfl
theorem q_dc {x : D} {xs : List SV} {ds : List D} (h : datas xs = some ds) : datas (.d x :: xs) = some (x :: ds) := by show (datas xs).map _ = _; rw [h]; rfl
theorem q_fn : fldDs [] = some [] := rfl
theorem q_fc {x : D} {xs : List SV} {ds : List D} (h : fldDs xs = some ds) : fldDs (.d x :: xs) = some (x :: ds) := by show (match fldD (.d x), fldDs xs with | some d, some ds => some (d :: ds) | _, _ => none) = _; rw [h]; rfl
theorem q_fp {k : Nat} {xs : List SV} {ds : List D} (h : fldDs xs = some ds) : fldDs (.ptr k :: xs) = some (.own k :: ds) := by show (match fldD (.ptr k), fldDs xs with | some d, some ds => some (d :: ds) | _, _ => none) = _; rw [h]; rfl
theorem q_mkLst {xs : List SV} {ds : List D} (h : datas xs = some ds) (hl : Nat.ble ds.length lim = true) : mkLst xs S = some (.ok (.d (.lst ds)), S) := by unfold mkLst; rw [h]; dsimp only; rw [if_pos (Nat.le_of_ble_eq_true hl)]; rfl
theorem q_mkTup {xs : List SV} {ds : List D} (h : datas xs = some ds) (hl : Nat.ble ds.length lim = true) : mkTup xs S = some (.ok (.d (.tup ds)), S) := by unfold mkTup; rw [h]; dsimp only; rw [if_pos (Nat.le_of_ble_eq_true hl)]; rfl
theorem q_mkOwn {xs : List SV} {ds : List D} (h : fldDs xs = some ds) (hl : Nat.ble ds.length lim = true) : mkOwn xs S = some (.ok (.ptr S.length), S ++ [ds]) := by unfold mkOwn; rw [h]; dsimp only; rw [if_pos (Nat.le_of_ble_eq_true hl)]
theorem q_lenM {α : Type} {f : α → D} {l : List α} : bLen [.d (.lst (l.map f))] S = some (.ok (.d (.int l.length)), S) := by rw [bLen_l, List.length_map]; rfl
theorem q_lenMT {α : Type} {f : α → D} {l : List α} : bLen [.d (.tup (l.map f))] S = some (.ok (.d (.int l.length)), S) := by rw [bLen_t, List.length_map]; rfl
theorem q_iOf {f : Env → M SV} {x : SV} {r} (h1 : f env S = some (.ok x, S1)) (h2 : walkD x S1 = r) : iOf f env S = r := by unfold iOf; rw [bnd_at h1, h2]
theorem q_wkL {l : List D} : walkD (.d (.lst l)) S = some (.ok (l, none), S) := rfl
theorem q_wkT {l : List D} : walkD (.d (.tup l)) S = some (.ok (l, none), S) := rfl
theorem q_wkS {l : List D} : walkD (.d (.scr l)) S = some (.ok (l, none), S) := rfl
theorem q_cP {m : Fn} {as : List SV} {x : D} (h : m as = ret (.d x)) (hn : noExc as = true) : callM asPure m as S = some (.ok (.d x), S) := q_ret (call_pure hn h)
theorem q_cA {m : Fn} {as : List SV} {x : D} (h : m as S = some (.ok (.d x), S1)) (hn : noExc as = true) : callM asPure m as S = some (.ok (.d x), S1) := call_at hn h
theorem q_cF {m : Fn} {as : List SV} {x : List D} (h : m as S = some (.ok (.fresh x), S1)) (hn : noExc as = true) (hc : clsd x = true) : callM asPure m as S = some (.ok (.d (.lst x)), S1) := call_atF hn h hc
theorem q_cFO {m : Fn} {as : List SV} {x : List D} (h : m as S = some (.ok (.fresh x), S1)) (hn : noExc as = true) : callM asOwn m as S = some (.ok (.ptr S1.length), S1 ++ [x]) := call_atO hn h
theorem q_cE {m : Fn} {as : List SV} {c fs l} {cv} (h : m as S = some (.err c fs l, S1)) (hn : noExc as = true) : callM cv m as S = some (.err c fs l, S1) := call_er hn h
theorem q_gC {cv : RR → M SV} {m : Fn} {as : List SV} {r} (h : callM cv m as S = r) : callM cv m as S = r := h
theorem q_gP {α : Type} {b : Bool} {x y r : α} (h : pick b x y = r) : pick b x y = r := h
def thenS (G : SM) : O → Store → Option (O × Store)
  | .nx e, S => G e S
  | o, S => some (o, S)
theorem q_Seq {F G : SM} {o : O} {r} (h1 : F env S = some (o, S1)) (h2 : thenS G o S1 = r) : sSeq F G env S = r := by unfold sSeq; rw [h1, ← h2]; cases o <;> rfl
theorem q_thN {G : SM} {r} (h : G e' S = r) : thenS G (.nx e') S = r := h
theorem q_thR {G : SM} {v : SV} : thenS G (.rt v) S = some (.rt v, S) := rfl
theorem q_thB {G : SM} : thenS G (.bk e') S = some (.bk e', S) := rfl
theorem q_thC {G : SM} : thenS G (.ct e') S = some (.ct e', S) := rfl
theorem q_thE {G : SM} {c fs l} : thenS G (.er c fs l e') S = some (.er c fs l e', S) := rfl
theorem q_Nop : sNop env S = some (.nx env, S) := rfl
theorem q_Brk : sBrk env S = some (.bk env, S) := rfl
theorem q_Cnt : sCnt env S = some (.ct env, S) := rfl
theorem q_RetN : sRetN env S = some (.rt (.d .non), S) := rfl
def setK (i : Nat) (env : Env) : R SV → Store → Option (O × Store)
  | .ok a, S => some (.nx (env.set i (some a)), S)
  | .err c fs l, S => some (.er c fs l env, S)
theorem q_Set {i : Nat} {f : Env → M SV} {a : R SV} {r} (h : f env S = some (a, S1)) (h2 : setK i env a S1 = r) : sSet i f env S = r := by unfold sSet lift; rw [h, ← h2]; cases a <;> rfl
theorem q_setN {i : Nat} {a : SV} (he : env.set i (some a) = e') : setK i env (.ok a) S = some (.nx e', S) := by rw [← he]; rfl
theorem q_setE {i : Nat} {c fs l} : setK i env (.err c fs l) S = some (.er c fs l env, S) := rfl
def dropK (env : Env) : R SV → Store → Option (O × Store)
  | .ok _, S => some (.nx env, S)
  | .err c fs l, S => some (.er c fs l env, S)
theorem q_Drop {f : Env → M SV} {a : R SV} {r} (h : f env S = some (a, S1)) (h2 : dropK env a S1 = r) : sDrop f env S = r := by unfold sDrop lift; rw [h, ← h2]; cases a <;> rfl
theorem q_drN {a : SV} : dropK env (.ok a) S = some (.nx env, S) := rfl
theorem q_drE {c fs l} : dropK env (.err c fs l) S = some (.er c fs l env, S) := rfl
def retK (env : Env) : R SV → Store → Option (O × Store)
  | .ok a, S => some (.rt a, S)
  | .err c fs l, S => some (.er c fs l env, S)
theorem q_Ret {f : Env → M SV} {a : R SV} {r} (h : f env S = some (a, S1)) (h2 : retK env a S1 = r) : sRet f env S = r := by unfold sRet lift; rw [h, ← h2]; cases a <;> rfl
theorem q_rtN {a : SV} : retK env (.ok a) S = some (.rt a, S) := rfl
theorem q_rtE {c fs l} : retK env (.err c fs l) S = some (.er c fs l env, S) := rfl
theorem q_If {t : Env → M Bool} {F G : SM} {b : Bool} {r} (h : t env S = some (.ok b, S1)) (h2 : pick b (F env S1) (G env S1) = r) : sIf t F G env S = r := by rw [st_If h, ← h2]; rfl
theorem q_For {t : Tg} {f : Env → M (List D × KK)} {F : SM} {ds : List D} {kk : KK} {r} (h : f env S = some (.ok (ds, kk), S1)) (h2 : forL t kk ds F ds env S1 = r) : sFor t f F env S = r := (st_For h).trans h2
theorem q_R0 {c : Str} : sRaise0 c env S = some (.er c [] [] env, S) := rfl
theorem q_R1 {c fld : Str} {f : Env → M SV} {x : D} (h : f env S = some (.ok (.d x), S1)) : sRaise1 c fld f env S = some (.er c [fld] [x] env, S1) := st_R1 h
def tryK (hs : List HdM) : O → Store → Option (O × Store)
  | .er c fs l env1, S1 => hdL hs c fs l env1 S1
  | o, S => some (o, S)
theorem q_Try {B : SM} {hs : List HdM} {o : O} {r} (h : B env S = some (o, S1)) (h2 : tryK hs o S1 = r) : sTryM B hs env S = r := by unfold sTryM; rw [h, ← h2]; cases o <;> rfl
theorem q_tyN {hs : List HdM} : tryK hs (.nx e') S = some (.nx e', S) := rfl
theorem q_tyR {hs : List HdM} {v : SV} : tryK hs (.rt v) S = some (.rt v, S) := rfl
theorem q_tyE {hs : List HdM} {c fs l} {r} (h : hdL hs c fs l e' S = r) : tryK hs (.er c fs l e') S = r := h
theorem q_hdY {h : HdM} {hs : List HdM} {c fs l} {r} (hy : h.yes.contains c = true) (hn : envNE env = true) (h1 : endX h.slot (h.U c fs l (setX h.slot env) S) = r) : hdL (h :: hs) c fs l env S = r := by
  show (if h.yes.contains c = true then (if envNE env = true then endX h.slot (h.U c fs l (setX h.slot env) S) else none) else _) = r
  rw [if_pos hy, if_pos hn, h1]
theorem q_hdN {h : HdM} {hs : List HdM} {c fs l} {r} (hy : h.yes.contains c = false) (hn : h.no.contains c = true) (h1 : hdL hs c fs l env S = r) : hdL (h :: hs) c fs l env S = r := by
  show (if h.yes.contains c = true then _ else if h.no.contains c = true then hdL hs c fs l env S else none) = r
  rw [if_neg (by rw [hy]; decide), if_pos hn, h1]
def endK (k : Option Nat) (o : O) (S : Store) : Option (O × Store) := endX k (some (o, S))
theorem q_ex {k : Option Nat} {u : Option (O × Store)} {o : O} {r} (h : u = some (o, S1)) (h2 : endK k o S1 = r) : endX k u = r := by rw [h]; exact h2
theorem q_ekR {k : Option Nat} {v : SV} (hn : noX v = true) : endK k (.rt v) S = some (.rt v, S) := by unfold endK endX; dsimp only; rw [if_pos hn]
theorem q_ekN {k : Option Nat} {e : Env} (he : unX k e = e') (hn : envNE e' = true) : endK k (.nx e) S = some (.nx e', S) := by rw [← he]; unfold endK endX; dsimp only; rw [he, if_pos hn]
theorem q_xf {i : Nat} {fld : Str} {fs : List Str} {l : List D} {d : D} (h : env[i]? = some (some .exc)) (h2 : lookD fld fs l = some d) : eXf i fld fs l env S = some (.ok (.d d), S) := by unfold eXf; rw [h]; dsimp only; rw [h2]; rfl
theorem q_SetI {fo fi fe : Env → M SV} {x : D} {k : Nat} {n : Int} {l : List D} {j : Nat} {r} (h1 : fe env S = some (.ok (.d x), S1)) (h2 : fo env S1 = some (.ok (.ptr k), S2)) (h3 : fi env S2 = some (.ok (.d (.int n)), S3)) (h4 : S3[k]? = some l) (h5 : ixN l.length n = some j) (h6 : some (O.nx env, S3.set k (l.set j x)) = r) : sSetI fo fi fe env S = r := (st_SetI h1 h2 h3 h4 h5).trans h6
theorem q_AppL {fo fe : Env → M SV} {x : D} {T : Store} {l : List D} (h1 : fo env S = some (.ok (.ptr T.length), S1)) (h2 : fe env S1 = some (.ok (.d x), T ++ [l])) (h5 : l.length < 16777216) : sApp fo fe env S = some (.nx env, T ++ [l ++ [x]]) := by
  rw [st_App h1 h2 (by simp) h5]; simp
theorem q_SetAll {fo fe : Env → M SV} {k : Nat} {xs ys : List D} {r} (h1 : fe env S = some (.ok (.d (.lst ys)), S1)) (h2 : fo env S1 = some (.ok (.ptr k), S2)) (h3 : S2[k]? = some xs) (h4 : xs.length + ys.length ≤ 16777216) (h6 : some (O.nx env, S2.set k ys) = r) : sSetAll fo fe env S = r := by
  unfold sSetAll lift
  rw [bnd_at h1, bnd_at (show bnd (fo env) asPtr S1 = some (.ok k, S2) by rw [bnd_at h2]; rfl)]
  dsimp only [ret]
  rw [h3]; dsimp only
  rw [if_pos (show xs.length + ys.length ≤ lim from h4), h6]
theorem q_Mut {g : List D → List SV → Option (List D)} {fo : Env → M SV} {fa : Env → M (List SV)} {k : Nat} {as : List SV} {l l' : List D} {r} (h1 : fo env S = some (.ok (.ptr k), S1)) (h2 : fa env S1 = some (.ok as, S2)) (h3 : cellC S2 k = some l) (h4 : g l as = some l') (h6 : some (O.nx env, S2.set k l') = r) : sMut g fo fa env S = r := by
  unfold sMut lift
  rw [bnd_at (show bnd (fo env) asPtr S = some (.ok k, S1) by rw [bnd_at h1]; rfl), bnd_at h2]
  dsimp only [ret]
  rw [h3]; dsimp only
  rw [h4]; dsimp only; rw [h6]
theorem q_ClearX {fo : Env → M SV} {k : Nat} {l : List D} {r} (h1 : fo env S = some (.ok (.ptr k), S1)) (h3 : S1[k]? = some l) (h6 : some (O.nx env, S1.set k []) = r) : sClearX fo env S = r := by
  unfold sClearX lift
  rw [bnd_at (show bnd (fo env) asPtr S = some (.ok k, S1) by rw [bnd_at h1]; rfl), bnd_at (show aNil env S1 = some (.ok [], S1) from rfl)]
  dsimp only [ret]
  rw [h3]; dsimp only; rw [h6]
theorem q_Lend {F : SM} {x : D} (he : lendEnv S env = e') (h : F e' [] = some (.rt (.d x), S1)) (hf : flatD x = true) : sLend F env S = some (.rt (.d x), S) := by
  unfold sLend; rw [he, h]; dsimp only; rw [if_pos hf]
theorem q_flat {x : D} (h : flatD x = true) : flatD x = true := h
theorem fn_FT {np n : Nat} {body : SM} {as : List SV} {x : List D} {S S1 T : Store} {p k : Nat} (hl : as.length = np) (h : body (as.map some ++ List.replicate (n - as.length) none) S = some (.rt (.ptr p), S1)) (hS : S1 = S ++ T) (hp : p = S.length + k) (hx : T[k]? = some x) (hc : clsd x = true) : fnSem np n body as S = some (.ok (.fresh x), S) := by
  subst hS; subst hp
  have := fn_retP (x := x) hl h (by omega) (by rw [List.getElem?_append_right (by omega)]; simpa using hx) (cal_app _ _) hc
  simpa using this
theorem fn_DT {np n : Nat} {body : SM} {as : List SV} {x : D} {S S1 T : Store} (hl : as.length = np) (h : body (as.map some ++ List.replicate (n - as.length) none) S = some (.rt (.d x), S1)) (hS : S1 = S ++ T) : fnSem np n body as S = some (.ok (.d x), S) := by
  subst hS
  have := fn_ret hl h (cal_app _ _)
  simpa using this
theorem fn_ET {np n : Nat} {body : SM} {as : List SV} {e : Env} {c fs l} {S S1 T : Store} (hl : as.length = np) (h : body (as.map some ++ List.replicate (n - as.length) none) S = some (.er c fs l e, S1)) (hS : S1 = S ++ T) : fnSem np n body as S = some (.err c fs l, S) := by
  subst hS
  have := fn_er hl h (cal_app _ _)
  simpa using this
end
end DL
namespace DL
open PySem L2
theorem at_AugI {gg : Int → Int → Int} {fo fi fe : Env → M SV} {env : Env} {S S1 S2 S3 : Store} {k : Nat} {n a b : Int} {l : List D} (h1 : fo env S = some (.ok (.ptr k), S1)) (h2 : fi env S1 = some (.ok (.d (.int n)), S2)) (hn : 0 ≤ n ∧ n < 2 ^ 62) (hl : S2[k]? = some l) (ha : l[n.toNat]? = some (.int a))
    (h3 : fe env S2 = some (.ok (.d (.int b)), S3)) (hl3 : S3[k]? = some l) : sAugI gg fo fi fe env S = some (.nx env, S3.set k (l.set n.toNat (.int (gg a b)))) := by
  unfold sAugI lift bnd
  rw [h1]; dsimp only; rw [h2]; dsimp only
  rw [show getP (.ptr k) (.d (.int n)) S2 = some (.ok (.d (.int a)), S2) by simp only [getP]; rw [if_pos hn]; simp only [hl, ha]]
  dsimp only; rw [h3]; dsimp only [ret]; rw [hl3]; dsimp only
  have hi : n.toNat < l.length := (List.getElem?_eq_some_iff.mp ha).1
  rw [show ixN l.length n = some n.toNat by unfold ixN; (try simp only []); split <;> first | (simp; omega) | (exfalso; omega)]
theorem fn_U {np n : Nat} {body : SM} {as : List SV} {sv : SV} {S S1 : Store} (hl : as.length = np) (h : body (as.map some ++ List.replicate (n - as.length) none) S = some (.rt sv, S1)) (hs : sv ≠ .exc := by intro h; cases h) : fnSemU np n body as S = some (.ok (.grow sv), S1) := by
  unfold fnSemU; rw [if_pos hl, h]; cases sv <;> first | rfl | exact absurd rfl hs
theorem fn_Un {np n : Nat} {body : SM} {as : List SV} {e : Env} {S S1 : Store} (hl : as.length = np) (h : body (as.map some ++ List.replicate (n - as.length) none) S = some (.nx e, S1)) : fnSemU np n body as S = some (.ok (.grow (.d .non)), S1) := by
  unfold fnSemU; rw [if_pos hl, h]
theorem fn_Ue {np n : Nat} {body : SM} {as : List SV} {e : Env} {c fs l} {S S1 T : Store} (hl : as.length = np) (h : body (as.map some ++ List.replicate (n - as.length) none) S = some (.er c fs l e, S1)) (hS : S1 = S ++ T) : fnSemU np n body as S = some (.err c fs l, S) := by
  subst hS
  unfold fnSemU; rw [if_pos hl, h]; dsimp only; rw [if_pos (cal_app _ _), List.take_left]
theorem call_U {cv : RR → M SV} (hcv : CvOk cv) {m : Fn} {as : List SV} {x : SV} {S S1 : Store} (hn : noExc as = true) (h : m as S = some (.ok (.grow x), S1)) : callM cv m as S = some (.ok x, S1) := by
  unfold callM; rw [if_pos hn, bnd_at h]; rcases hcv with rfl | rfl <;> rfl
theorem mkO_at {c : Str} {m : Fn} {as : List SV} {S S1 : Store} (hn : noExc as = true) (h : m (.obj S.length :: as) (S ++ [[.ins c [] []]]) = some (.ok (.grow (.d .non)), S1)) : mkO c m as S = some (.ok (.obj S.length), S1) := by
  unfold mkO; rw [if_pos hn, h]
end DL
namespace DL
open PySem L2
def lendQ (q : Nat) (S : Store) : SV → Option SV
  | .d x => some (.d x)
  | .ptr k => if k < q then some (.ptr k) else match S[k]? with
    | some l => match frzL q S l with
      | some l' => if clsd l' = true then some (.d (.lst l')) else none
      | none => none
    | none => none
  | _ => none
def lendEnvQ (q : Nat) (S : Store) (env : Env) : Env := env.map fun s => s.bind (lendQ q S)
def plainL (l : List D) : Bool := clsd l && match l with
  | [.ins _ _ _] => false
  | _ => true
def sLendQ (q : Nat) (F : SM) : SM := fun env S => if q ≤ S.length ∧ (S.take q).all plainL = true then match F (lendEnvQ q S env) (S.take q) with
  | some (.rt (.d x), S1) => some (.rt (.d x), S1)
  | _ => none else none
theorem q_LendQ {q : Nat} {F : SM} {env e' : Env} {S S0 S1 : Store} {x : D} (hq : q ≤ S.length) (hp : (S.take q).all plainL = true) (he : lendEnvQ q S env = e') (h0 : S.take q = S0) (h : F e' S0 = some (.rt (.d x), S1)) : sLendQ q F env S = some (.rt (.d x), S1) := by
  unfold sLendQ
  rw [if_pos ⟨hq, hp⟩, he, h0, h]
end DL
namespace DL
open PySem L2
end DL
namespace DL
open PySem L2
def IV.sv : IV → SV
  | .d x => .d x
  | .ptr k => .ptr k
  | .obj k => .obj k
  | .dic k => .dic k
def svI : SV → Option IV
  | .d x => some (.d x)
  | .ptr k => some (.ptr k)
  | .obj k => some (.obj k)
  | .dic k => some (.dic k)
  | _ => none
def svIs : List SV → Option (List IV)
  | [] => some []
  | x :: xs => match svI x, svIs xs with
    | some d, some ds => some (d :: ds)
    | _, _ => none
section
variable {K : PySem.W.Frag} {g : Gm} {A : List Addr} {H : Hp}
theorem RepI.sv {i : IV} {v : V} (h : RepI K g.m A H i v) : RepS K g A H i.sv v := by cases i <;> exact h
theorem svI_rep {sv : SV} {i : IV} {v : V} (h : RepS K g A H sv v) (e : svI sv = some i) : RepI K g.m A H i v := by
  cases sv <;> cases e <;> exact h
theorem RepIs.sv : ∀ {l : List IV} {vs : List V}, RepIs K g.m A H l vs → RepSs K g A H (l.map IV.sv) vs
  | [], vs, h => h
  | i :: l, vs, ⟨v, r, e, h1, h2⟩ => ⟨v, r, e, h1.sv, RepIs.sv h2⟩
theorem svIs_rep : ∀ {xs : List SV} {l : List IV} {vs : List V}, RepSs K g A H xs vs → svIs xs = some l → RepIs K g.m A H l vs
  | [], l, vs, h, e => by cases e; exact h
  | x :: xs, l, vs, ⟨v, r, e1, h1, h2⟩, e => by
    unfold svIs at e
    rcases e3 : svI x with _ | d
    · rw [e3] at e; cases e
    · rcases e4 : svIs xs with _ | ds'
      · rw [e3, e4] at e; cases e
      · rw [e3, e4] at e
        cases e
        exact ⟨v, r, e1, svI_rep h1 e3, svIs_rep h2 e4⟩
theorem RepIs.length : ∀ {l : List IV} {vs : List V}, RepIs K g.m A H l vs → l.length = vs.length
  | [], vs, h => by rw [show vs = [] from h]; rfl
  | i :: l, vs, ⟨v, r, e, h1, h2⟩ => by rw [e, List.length_cons, List.length_cons, RepIs.length h2]
theorem RepIs.get {l : List IV} {vs : List V} {i : Nat} {d : IV} (h : RepIs K g.m A H l vs) (e : l[i]? = some d) : ∃ v, vs[i]? = some v ∧ RepS K g A H d.sv v :=
  RepSs.get h.sv (by rw [List.getElem?_map, e]; rfl)
end
def mkSq (b : Bool) : List SV → M SV := fun xs => match svIs xs with
  | some l => if l.length ≤ lim then ret (.sq b l) else stuck
  | none => stuck
noncomputable def sForQ (i : Nat) (f : Env → M SV) (F : SM) : SM := fun env => lift env (f env) fun q S => match q with
  | .sq _ l => forS i F (l.map IV.sv) env S
  | _ => none
section
variable {X : Cx} {W : WG} {es : List Expr} {a b e iter : Expr} {body : List Stmt} {fa : Env → M (List SV)} {f g : Env → M SV} {F : SM} {pos pos2 npos : Pos} {x : Str}
theorem sq_step (b : Bool) {σ : St} {H : Hp} {A : List Addr} {S S' : Store} {as : List SV} {vs : List V} {r : R SV} {Q : VK} (hS : Sta X.K (gm X W) A H S) (hx : RepSs X.K (gm X W) A H as vs) (he : mkSq b as S = some (r, S')) (hp : Po X.K (gm X W) (relS X.K (gm X W)) W Q σ A H r S') :
    vs.length ≤ sizeLine ∧ ∀ p, H p = none → Q (.ref p) (upd H p (sqO b vs)) := by
  unfold mkSq at he
  rcases q : svIs as with _ | l
  · rw [q] at he; cases he
  · rw [q] at he
    have rd := svIs_rep hx q
    by_cases hl : l.length ≤ lim
    · replace he := (congrFun (if_pos hl) S).symm.trans he
      cases he
      exact ⟨by rw [← RepIs.length (g := gm X W) rd]; exact lim_ok hl, fun p hpn => hp _ A _ (Ext.new hpn) (hS.new hpn) ⟨p, vs, rfl, hS.free hpn, upd_same, RepIs.mono (Ext.new hpn) rd⟩⟩
    · replace he := (congrFun (if_neg hl) S).symm.trans he
      cases he
theorem de_lstQ (h : DA X W es fa) : DE X W (.List es pos) (eArg (mkSq true) fa) := by
  obtain ⟨x, p, k⟩ := h
  exact ⟨_, pe_lst p, tbind (rel := relA X.K (gm X W)) (rel2 := relS X.K (gm X W)) (g := fun _ x => mkSq true x) (tk := fun (vs : List V) _ H (Q : VK) => vs.length ≤ sizeLine ∧ ∀ p, H p = none → Q (.ref p) (upd H p (.lst vs))) k fun a vs σ H A S env r S' hS hE hx he Q hp => sq_step true hS hx he hp⟩
theorem jok_tupS {K : PySem.W.Frag} {mg : Gm} {a : Addr} {ds : List SV} : JOkS K mg (Itt K a) ds (fun A H S => ∃ vs, a ∉ A ∧ H a = some (.tup vs) ∧ RepSs K mg A H ds vs) where
  go := fun i A H S ⟨vs, n, h, r⟩ hi => by
    have hi' : i < vs.length := by rw [← r.length]; exact hi
    exact ⟨vs, vs[i], SqT.of h, List.getElem?_eq_getElem hi'⟩
  stop := fun A H S ⟨vs, n, h, r⟩ => ⟨vs, SqT.of h, by rw [← r.length]; exact Nat.le_refl _⟩
  yld := fun i A H S x H' d hS hI hd hy => by
    obtain ⟨rfl, hy⟩ := hy
    obtain ⟨vs, n, h, r⟩ := hI
    obtain ⟨v, h1, h2⟩ := r.get hd
    have e := hy vs (SqT.of h)
    rw [h1] at e
    cases e
    exact ⟨Ext.refl A _, hS, ⟨vs, n, h, r⟩, h2⟩
  keep := fun A H S A' H' S' hS ⟨vs, n, h, r⟩ e _ => ⟨vs, e.notin h n, e.keep _ _ h n, RepSs.mono e r⟩
/-- a walk over things of any kind -/
theorem forS_run {tb : TS} {i : Nat} (kb : SOk X.K (gm X W) W tb F) {J : It} {ds : List SV} {inv : List Addr → Hp → Store → Prop} (jok : JOkS X.K (gm X W) J ds inv)
    {σ : St} {H : Hp} {A : List Addr} {env : Env} {o : O} {S' : Store} {Dn : Ends} {A0 : List Addr} {H0 : Hp} {S1 : Store} (e0 : Ext A H A0 H0) (s0 : Sta X.K (gm X W) A0 H0 S1) (hE : EnvR X.K (gm X W) A H σ env) (i0 : inv A0 H0 S1)
    (q : forS i F ds env S1 = some (o, S')) (hp : PoS X.K (gm X W) Dn W A H o S') :
    ∃ W0 : Nat → Nat → St → Hp → Prop, (∃ m, W0 0 m σ H0) ∧ ∀ j m σ H, W0 j m σ H → (J.stop j H ∧ Dn.nx σ H) ∨ (J.go j H ∧ ∃ N : St → Hp → Prop, (∀ σ' H', N σ' H' → ∃ m', m' < m ∧ W0 (j + 1) m' σ' H') ∧ ∀ x H', J.yld j H x H' → gName i x σ H' fun σ2 H2 => tb { Dn with nx := N, ct := N, bk := Dn.nx } σ2 H2) := by
  refine ⟨fun j m σ2 H2 => m = ds.length - j ∧ j ≤ ds.length ∧ ∃ A2 S2 env2, Ext A H A2 H2 ∧ Sta X.K (gm X W) A2 H2 S2 ∧ EnvR X.K (gm X W) A2 H2 σ2 env2 ∧ inv A2 H2 S2 ∧ forS i F (ds.drop j) env2 S2 = some (o, S'), ⟨ds.length, by simp, Nat.zero_le _, A0, S1, env, e0, s0, hE.mono e0, i0, by simpa using q⟩, ?_⟩
  rintro j m σ2 H2 ⟨rfl, hi, A2, S2, env2, e2, s2, E2, i2, q2⟩
  by_cases hlt : j < ds.length
  · refine .inr ⟨jok.go j A2 H2 S2 i2 hlt, ?_⟩
    have hd : ds[j]? = some ds[j] := List.getElem?_eq_getElem hlt
    have hdrop : ds.drop j = ds[j] :: ds.drop (j + 1) := List.drop_eq_getElem_cons hlt
    rw [hdrop] at q2
    unfold forS at q2
    rcases eF : F (env2.set i (some ds[j])) S2 with _ | ⟨o3, S3⟩
    · rw [eF] at q2; cases q2
    · rw [eF] at q2
      refine ⟨fun σ4 H4 => ∃ A4 S4 env4, Ext A H A4 H4 ∧ Sta X.K (gm X W) A4 H4 S4 ∧ EnvR X.K (gm X W) A4 H4 σ4 env4 ∧ inv A4 H4 S4 ∧ forS i F (ds.drop (j + 1)) env4 S4 = some (o, S'), fun σ4 H4 h4 => ⟨ds.length - (j + 1), by omega, rfl, hlt, h4⟩, ?_⟩
      intro x H3 hy
      obtain ⟨e3, s3, i3, r3⟩ := jok.yld j A2 H2 S2 x H3 ds[j] s2 i2 hd hy
      have E3 := (E2.mono e3).set r3 (i := i)
      show gName i x σ2 H3 _
      refine kb _ H3 A2 S2 _ o3 S3 s3 E3 eF _ ?_
      have e23 := e2.trans e3
      cases o3 with
      | nx env4 => exact fun σ4 A4 H4 e4 s4 E4 => ⟨A4, S3, env4, e23.trans e4, s4, E4, jok.keep A2 H3 S2 A4 H4 S3 s3 i3 e4 s4, q2⟩
      | ct env4 => exact fun σ4 A4 H4 e4 s4 E4 => ⟨A4, S3, env4, e23.trans e4, s4, E4, jok.keep A2 H3 S2 A4 H4 S3 s3 i3 e4 s4, q2⟩
      | bk env4 =>
        cases q2
        exact fun σ4 A4 H4 e4 s4 E4 => hp σ4 A4 H4 (e23.trans e4) s4 E4
      | rt sv =>
        cases q2
        exact fun v A4 H4 e4 s4 r4 => hp v A4 H4 (e23.trans e4) s4 r4
      | er c fs l env4 =>
        cases q2
        exact fun C dd σ4 A4 H4 hc e4 s4 E4 r4 => hp C dd σ4 A4 H4 hc (e23.trans e4) s4 E4 r4
  · have hi' : j = ds.length := by omega
    subst hi'
    refine .inl ⟨jok.stop A2 H2 S2 i2, ?_⟩
    rw [List.drop_length] at q2
    unfold forS at q2
    cases q2
    exact hp σ2 A2 H2 e2 s2 E2
theorem ds_forQ (i : Nat) (hp : PassesOwn (model X.prog X.w) X.A X.env X.xe) (hc : X.calm = true) (he : DE X W iter f) (hg : DG X (.Name x npos) (.one i)) (hb : DSs X W body F)
    (hs : ∀ z, foldedSetIterable iter X.env z = pure z := by intro _; rfl) : DS X W (.For (.Name x npos) iter body [] pos) (sForQ i f F) := by
  obtain ⟨te, pe, ke⟩ := he
  obtain ⟨tb, pb, kb⟩ := hb
  refine ⟨_, ps_for hp hc (pi_lt pe) hg pb hs, ?_⟩
  intro σ H A S env o S' hS hE he Dn hp
  rcases lift_some he with ⟨a, S1, ef, q⟩ | ⟨c, fs, l, ef, rfl⟩
  · refine ke σ H A S env _ S1 hS hE ef _ fun v A0 H0 e0 s0 r0 => ?_
    split at q
    · rename_i b l
      obtain ⟨p, vs, h3, hn, hv, r⟩ := (show RepS X.K (gm X W) A0 H0 (.sq b l) v from r0)
      have r' : RepIs X.K (gm X W).m A0 H0 l vs := r
      cases b with
      | true => exact .inl ⟨p, h3, ⟨vs, SqL.of hv⟩, forS_run (J := Itl X.K p) kb jok_listS e0 s0 hE ⟨vs, .inl ⟨.inl hv, hn⟩, r'.sv⟩ q hp⟩
      | false => exact .inr ⟨p, h3, ⟨vs, SqT.of hv⟩, forS_run (J := Itt X.K p) kb jok_tupS e0 s0 hE ⟨vs, hn, hv, r'.sv⟩ q hp⟩
    · cases q
  · exact ke σ H A S env _ _ hS hE ef _ fun C dd A' H' hc e s r => hp C dd σ A' H' hc e s (hE.mono e) r
end
section
variable {X : Cx} {W : WG} {k : Nat} {c : Str} {ps : List Str} {m : Fn} {C f : Addr} {fd : FuncData} {x : Str} {p pos : Pos} {e : Expr} {fa : Env → M (List SV)}
def callOB (c : Str) (cv : RR → M SV) (m : Fn) (as : List SV) : M SV := fun S => match as with
  | o :: r => if noFldB c "__len__" S o = true then callM cv m (o :: r) S else none
  | [] => none
theorem callOB_step {cv : RR → M SV} (hcv : CvOk cv) {as : List SV} {vs : List V} {σ : St} {H : Hp} {A : List Addr} {S : Store} {r : R SV} {S' : Store} {Q : VK} (hc : X.mg c = some (.ref C)) (hS : Sta X.K (gm X W) A H S) (hx : RepSs X.K (gm X W) A H as vs)
    (he : callOB c cv m as S = some (r, S')) (hp : Po X.K (gm X W) (relS X.K (gm X W)) W Q σ A H r S') (E : XK) (hE : ∀ cls d H', W.w cls d σ H' → E cls d H') : (∃ q dx gs vs', vs = .ref q :: vs' ∧ H q = some (.ins C dx gs)) ∧ spD X.K X.mg m vs H Q E := by
  cases as with
  | nil => cases he
  | cons o r0 =>
    unfold callOB at he
    dsimp only at he
    by_cases hi : noFldB c "__len__" S o = true
    · rw [if_pos hi] at he
      refine ⟨?_, call_step hcv hS hx he hp E hE⟩
      obtain ⟨v, vs', e1, h1, _⟩ := hx
      obtain ⟨q, dx, gs, e2, h2, _⟩ := noFldB_rep (mg := gm X W) hS hc h1 hi
      subst e2
      exact ⟨q, dx, gs, vs', e1, h2⟩
    · rw [if_neg hi] at he
      cases he
def bLenObjB (c : Str) (m : Fn) (as : List SV) : M SV := bnd (callOB c asPure m as) lenBk
theorem de_lenOB (M0 : OwnM X.prog X.w X.K X.mg X.base k c "__len__" ps m C f fd) (hps : ps.length = 1) (hr : Room (k + 1) X.A) (tk : L2N.Takes X W.w) (hg : Gl X x) (hm : X.mg x = none) (hv : bootBuiltins x = some (.builtin "len")) (h : DA X W [e] fa) (hn : x ≠ "__name__" := by decide) (hdb : (x == ("__debug__" : Str)) = false := by decide)
    (hs : starEach [e] X.env = (false, eval e X.env) :: starEach [] X.env := by rfl) : DE X W (.Call (.Name x p) [e] [] pos) (eArg (bLenObjB c m) fa) := by
  obtain ⟨ta, pa, ka⟩ := h
  refine ⟨_, pe_lenO M0 hps hr tk hg hm hv pa hn hdb hs, tbind (rel := relA X.K (gm X W)) (rel2 := relS X.K (gm X W)) (g := fun _ as => bLenObjB c m as) (tk := fun vs σ H Q => rLenO X W C m σ vs H Q) ka fun as vs σ H A S env rr S' hS hE hx he Q hp => ?_⟩
  have key : ∀ rr1 S1, callOB c asPure m as S = some (rr1, S1) → (Po X.K (gm X W) (relS X.K (gm X W)) W (fun z H' => ∃ n : Int, z = .int n ∧ (0 ≤ n ∧ n < 2 ^ 63) ∧ Q (.int n) H') σ A H rr1 S1) → rLenO X W C m σ vs H Q := fun rr1 S1 ec hp1 => callOB_step (.inl rfl) M0.gC hS hx ec hp1 _ fun _ _ _ h => h
  have he' : bnd (callOB c asPure m as) lenBk S = some (rr, S') := he
  rcases bnd_some he' with ⟨z, S1, ec, q⟩ | ⟨c1, fs, l, ec, rfl⟩
  · refine key _ S1 ec fun v A' H' e s r => ?_
    unfold lenBk at q
    split at q
    · rename_i n
      by_cases hc : 0 ≤ n ∧ n < 2 ^ 63
      · rw [if_pos hc] at q
        cases q
        have r' : Rep X.K X.mg A' H' (.int n) v := r
        have r'' := r'
        simp only [Rep] at r''
        subst r''
        exact ⟨n, rfl, hc, hp _ A' H' e s r'⟩
      · rw [if_neg hc] at q; cases q
    · cases q
  · exact key _ _ ec hp
theorem lenOB_at {n : Nat} {o : SV} {S : Store} (h1 : noFldB c "__len__" S o = true) (h2 : callM asPure m [o] S = some (.ok (.d (.int (n : Nat))), S)) (hn : n < 2 ^ 63) : bLenObjB c m [o] S = some (.ok (.d (.int (n : Nat))), S) := by
  have e : callOB c asPure m [o] S = some (.ok (.d (.int (n : Nat))), S) := by
    unfold callOB; dsimp only; rw [if_pos h1, h2]
  unfold bLenObjB
  rw [bnd_at e]
  unfold lenBk
  dsimp only
  rw [if_pos ⟨by omega, by omega⟩]
  rfl
end
section
variable {env e' : Env} {S S1 S2 : Store}
theorem q_mkSq {b : Bool} {xs : List SV} {l : List IV} (h : svIs xs = some l) (hl : Nat.ble l.length lim = true) : mkSq b xs S = some (.ok (.sq b l), S) := by unfold mkSq; rw [h]; dsimp only; rw [if_pos (Nat.le_of_ble_eq_true hl)]; rfl
theorem q_ForQ {i : Nat} {f : Env → M SV} {F : SM} {b : Bool} {l : List IV} {r} (h : f env S = some (.ok (.sq b l), S1)) (h2 : forS i F (l.map IV.sv) env S1 = r) : sForQ i f F env S = r := by
  unfold sForQ lift; rw [h]; exact h2
theorem q_fsN {i : Nat} {F : SM} : forS i F [] env S = some (.nx env, S) := rfl
theorem q_fsC {i : Nat} {F : SM} {d : SV} {ds : List SV} {r} (h : F (env.set i (some d)) S = some (.nx e', S1)) (h2 : forS i F ds e' S1 = r) : forS i F (d :: ds) env S = r := by
  rw [← h2]; conv => lhs; unfold forS
  rw [h]
end
end DL
namespace DL
open PySem
abbrev PS := PyProof.Rows.PlainShape
end DL
namespace Lw
open PySem L2 DL
def top (i : Nat) : Stmt := PySem.Challenge.pw_everyhint_k67_logs_of_plays.main.body.getD i (.Pass ⟨0, 0, 0, 0⟩)
abbrev okF : Str → Str → Bool := okL [("Hint", ["shape", "_weights", "unit"]), ("Log", ["shape", "_plays"])]
abbrev s_is_whole : Stmt := top 12
abbrev N_is_whole : List Str := ["value"]
abbrev P_is_whole : List Str := ["value"]
abbrev s_is_list : Stmt := top 13
abbrev N_is_list : List Str := ["value"]
abbrev P_is_list : List Str := ["value"]
abbrev s_is_row : Stmt := top 14
abbrev N_is_row : List Str := ["value", "many", "each"]
abbrev P_is_row : List Str := ["value", "many"]
abbrev s_is_weights : Stmt := top 15
abbrev N_is_weights : List Str := ["value", "many", "each"]
abbrev P_is_weights : List Str := ["value", "many"]
abbrev s_is_shape : Stmt := top 16
abbrev N_is_shape : List Str := ["value", "many"]
abbrev P_is_shape : List Str := ["value"]
abbrev s_count_cells : Stmt := top 17
abbrev N_count_cells : List Str := ["shape", "found", "many"]
abbrev P_count_cells : List Str := ["shape"]
abbrev s_is_move : Stmt := top 18
abbrev N_is_move : List Str := ["shape", "player", "value"]
abbrev P_is_move : List Str := ["shape", "player", "value"]
abbrev s_is_cell : Stmt := top 19
abbrev N_is_cell : List Str := ["shape", "value", "player", "move"]
abbrev P_is_cell : List Str := ["shape", "value"]
abbrev s_check_cell : Stmt := top 20
abbrev N_check_cell : List Str := ["shape", "cell"]
abbrev P_check_cell : List Str := ["shape", "cell"]
abbrev s_place : Stmt := top 21
abbrev N_place : List Str := ["shape", "cell", "found", "many", "move"]
abbrev P_place : List Str := ["shape", "cell"]
abbrev s_lowest : Stmt := top 24
abbrev N_lowest : List Str := ["numbers", "common", "number"]
abbrev P_lowest : List Str := ["numbers"]
abbrev s_counts : Stmt := top 29
abbrev N_counts : List Str := ["log", "found", "cell"]
abbrev P_counts : List Str := ["log"]
abbrev s__law_pool : Stmt := top 31
abbrev N__law_pool : List Str := ["_law_script"]
abbrev P__law_pool : List Str := ["_law_script"]
abbrev s__law_take : Stmt := top 32
abbrev N__law_take : List Str := ["_law_pool_here", "_law_many", "_law_at", "_law_drawn", "_law_mixed", "_law_digit"]
abbrev P__law_take : List Str := ["_law_pool_here", "_law_many"]
abbrev s__law_divisor : Stmt := top 33
abbrev N__law_divisor : List Str := ["_law_numbers", "_law_found", "_law_number", "_law_one", "_law_other"]
abbrev P__law_divisor : List Str := ["_law_numbers"]
abbrev s__law_shapes : Stmt := top 34
abbrev N__law_shapes : List Str := ["_law_most", "_law_found", "_law_a", "_law_b", "_law_c", "_law_shape_here"]
abbrev P__law_shapes : List Str := ["_law_most"]
abbrev s__law_size : Stmt := top 35
abbrev N__law_size : List Str := ["_law_shape_here", "_law_size_here", "_law_count"]
abbrev P__law_size : List Str := ["_law_shape_here"]
abbrev s__law_shape : Stmt := top 36
abbrev N__law_shape : List Str := ["_law_pool_here", "_law_most", "_law_found"]
abbrev P__law_shape : List Str := ["_law_pool_here", "_law_most"]
abbrev s__law_cells : Stmt := top 37
abbrev N__law_cells : List Str := ["_law_shape_here", "_law_found", "_law_count", "_law_longer", "_law_cell", "_law_move"]
abbrev P__law_cells : List Str := ["_law_shape_here"]
abbrev s__law_least_terms : Stmt := top 38
abbrev N__law_least_terms : List Str := ["_law_numbers", "_law_part", "_law_number"]
abbrev P__law_least_terms : List Str := ["_law_numbers"]
abbrev s__law_refused : Stmt := top 39
abbrev N__law_refused : List Str := ["_law_which", "_law_log", "_law_value", "error"]
abbrev P__law_refused : List Str := ["_law_which", "_law_log", "_law_value"]
abbrev s__law_same : Stmt := top 40
abbrev N__law_same : List Str := ["_law_log", "_law_shape_here", "_law_own", "_law_hint", "_law_counts", "_law_place", "_law_cell"]
abbrev P__law_same : List Str := ["_law_log", "_law_shape_here", "_law_own"]
abbrev s__law_odd_cells : Stmt := top 41
abbrev N__law_odd_cells : List Str := ["_law_shape_here", "_law_listed", "_law_odd"]
abbrev P__law_odd_cells : List Str := ["_law_shape_here", "_law_listed"]
abbrev s__law_hints : Stmt := top 42
abbrev N__law_hints : List Str := ["_law_logs", "_law_found", "_law_one", "_law_hint"]
abbrev P__law_hints : List Str := ["_law_logs"]
abbrev s__law_kept : Stmt := top 43
abbrev N__law_kept : List Str := ["_law_log", "_law_own", "_law_seen", "_law_hint", "_law_weights", "_law_bad"]
abbrev P__law_kept : List Str := ["_law_log", "_law_own", "_law_seen"]
abbrev s_law : Stmt := top 44
abbrev N_law : List Str := ["_law_script", "_law_pool_here", "_law_shape_here", "_law_listed", "_law_log", "_law_own", "_law_beside", "_law_beside_own", "_law_seen", "_law_k", "_law_kind", "_law_bad", "_law_count", "_law_cell"]
abbrev P_law : List Str := ["_law_script"]
abbrev s_Hint___init__ : Stmt := inClass (top 26) 0
abbrev N_Hint___init__ : List Str := ["self", "shape", "weights"]
abbrev P_Hint___init__ : List Str := ["self", "shape", "weights"]
abbrev s_Hint___eq__ : Stmt := inClass (top 26) 3
abbrev N_Hint___eq__ : List Str := ["self", "other"]
abbrev P_Hint___eq__ : List Str := ["self", "other"]
abbrev s_Hint_weights : Stmt := inClass (top 26) 4
abbrev N_Hint_weights : List Str := ["self"]
abbrev P_Hint_weights : List Str := ["self"]
abbrev s_Log___init__ : Stmt := inClass (top 28) 0
abbrev N_Log___init__ : List Str := ["self", "shape"]
abbrev P_Log___init__ : List Str := ["self", "shape"]
abbrev s_Log___init__P : Stmt := inClass (top 28) 0
abbrev N_Log___init__P : List Str := ["self", "shape"]
abbrev P_Log___init__P : List Str := ["self", "shape"]
abbrev s_Log___len__ : Stmt := inClass (top 28) 1
abbrev N_Log___len__ : List Str := ["self"]
abbrev P_Log___len__ : List Str := ["self"]
abbrev s_Log_plays : Stmt := inClass (top 28) 2
abbrev N_Log_plays : List Str := ["self"]
abbrev P_Log_plays : List Str := ["self"]
abbrev s_Log_play : Stmt := inClass (top 28) 3
abbrev N_Log_play : List Str := ["self", "cell"]
abbrev P_Log_play : List Str := ["self", "cell"]
abbrev s_Log_hint : Stmt := inClass (top 28) 4
abbrev N_Log_hint : List Str := ["self"]
abbrev P_Log_hint : List Str := ["self"]
abbrev s_Log_behind : Stmt := inClass (top 28) 5
abbrev N_Log_behind : List Str := ["self", "count", "found", "cell"]
abbrev P_Log_behind : List Str := ["self", "count"]
noncomputable def y_is_whole : SM := (sRet (eAnd (eArg bIsi (aCons (eVar 0) (aCons (eC (.ty "int")) aNil))) (eNot (eArg bIsi (aCons (eVar 0) (aCons (eC (.ty "bool")) aNil))))))
noncomputable def m_is_whole : Fn := fnSem 1 1 y_is_whole
noncomputable def y_is_list : SM := (sRet (eArg bIsiT (aCons (eVar 0) (aCons (eArg mkTup (aCons (eC (.ty "list")) (aCons (eC (.ty "tuple")) aNil))) aNil))))
noncomputable def m_is_list : Fn := fnSem 1 1 y_is_list
noncomputable def y_is_row : SM := (sRet (eAnd (eCall asPure m_is_list [] (aCons (eVar 0) aNil)) (eAnd (eOp oEq (eArg bLen (aCons (eVar 0) aNil)) (eVar 1)) (eArg bAll (aCons (eLc [2] (.one 2) (iOf (eVar 0)) tYesD (eCall asPure m_is_whole [] (aCons (eVar 2) aNil))) aNil)))))
noncomputable def m_is_row : Fn := fnSem 2 3 y_is_row
noncomputable def y_is_weights : SM := (sSeq (sIf (tyNot (eTst (eCall asPure m_is_row [] (aCons (eVar 0) (aCons (eVar 1) aNil))))) (sRet (eC (.bl false))) sNop)
    (sRet (eAnd (eArg bAll (aCons (eLc [2] (.one 2) (iOf (eVar 0)) tYesD (eOp oGe (eVar 2) (eC (.int 0)))) aNil)) (eArg bAny (aCons (eLc [2] (.one 2) (iOf (eVar 0)) tYesD (eOp oGt (eVar 2) (eC (.int 0)))) aNil)))))
noncomputable def m_is_weights : Fn := fnSem 2 3 y_is_weights
noncomputable def y_count_cells : SM := (sSeq (sSet 1 (eC (.int 1)))
    (sSeq (sFor (.one 2) (iOf (eVar 0)) (sSet 1 (eOp oMul (eVar 1) (eVar 2))))
    (sRet (eVar 1))))
noncomputable def m_count_cells : Fn := fnSem 1 3 y_count_cells
noncomputable def y_is_shape : SM := (sSeq (sIf (tyOr (tyNot (eTst (eCall asPure m_is_list [] (aCons (eVar 0) aNil)))) (tyNot (eTst (eCh oLe oLe (eC (.int 1)) (eArg bLen (aCons (eVar 0) aNil)) (eC (.int 3)))))) (sRet (eC (.bl false))) sNop)
    (sSeq (sIf (tyNot (eTst (eArg bAll (aCons (eLc [1] (.one 1) (iOf (eVar 0)) tYesD (eAnd (eCall asPure m_is_whole [] (aCons (eVar 1) aNil)) (eCh oLe oLe (eC (.int 1)) (eVar 1) (eC (.int 4))))) aNil)))) (sRet (eC (.bl false))) sNop)
    (sRet (eOp oLe (eCall asPure m_count_cells [] (aCons (eVar 0) aNil)) (eC (.int 16))))))
noncomputable def m_is_shape : Fn := fnSem 1 2 y_is_shape
noncomputable def y_is_move : SM := (sRet (eAnd (eCall asPure m_is_whole [] (aCons (eVar 2) aNil)) (eCh oLe oLt (eC (.int 0)) (eVar 2) (eOp oIdx (eVar 0) (eVar 1)))))
noncomputable def m_is_move : Fn := fnSem 3 3 y_is_move
noncomputable def y_is_cell : SM := (sSeq (sIf (tyOr (tyNot (eTst (eArg bIsi (aCons (eVar 1) (aCons (eC (.ty "tuple")) aNil))))) (eTst (eOp oNe (eArg bLen (aCons (eVar 1) aNil)) (eArg bLen (aCons (eVar 0) aNil))))) (sRet (eC (.bl false))) sNop)
    (sRet (eArg bAll (aCons (eLc [2, 3] (.many [2, 3]) (eArg walkE (aCons (eVar 1) aNil)) tYesD (eCall asPure m_is_move [] (aCons (eVar 0) (aCons (eVar 2) (aCons (eVar 3) aNil))))) aNil))))
noncomputable def m_is_cell : Fn := fnSem 2 4 y_is_cell
noncomputable def y_check_cell : SM := (sIf (tyNot (eTst (eCall asPure m_is_cell [] (aCons (eVar 0) (aCons (eVar 1) aNil))))) (sRaise1 "NoCell" "cell" (eVar 1)) sNop)
noncomputable def m_check_cell : Fn := fnSem 2 2 y_check_cell
noncomputable def y_place : SM := (sSeq (sSet 2 (eC (.int 0)))
    (sSeq (sFor (.many [3, 4]) (eArg walkZ (aCons (eVar 0) (aCons (eVar 1) aNil))) (sSet 2 (eOp oAdd (eOp oMul (eVar 2) (eVar 3)) (eVar 4))))
    (sRet (eVar 2))))
noncomputable def m_place : Fn := fnSem 2 5 y_place
noncomputable def y_lowest : SM := (sSeq (sSet 1 (eC (.int 0)))
    (sSeq (sFor (.one 2) (iOf (eVar 0)) (sSet 1 (eArg bGcd (aCons (eVar 1) (aCons (eVar 2) aNil)))))
    (sSeq (sIf (eTst (eOp oEq (eVar 1) (eC (.int 0)))) (sRet (eArg bListOwn (aCons (eVar 0) aNil))) sNop)
    (sRet (eLcOwn [2] (.one 2) (iOf (eVar 0)) tYesD (eOp oFdiv (eVar 2) (eVar 1)))))))
noncomputable def m_lowest : Fn := fnSem 1 3 y_lowest
noncomputable def y_Log_plays : SM := (sRet (eArg bListOwn (aCons (eUn (oFld okF "_plays") (eVar 0)) aNil)))
noncomputable def m_Log_plays : Fn := fnSem 1 1 y_Log_plays
noncomputable abbrev b0_counts : SM := (sAugI (fun i j => i + j) (eVar 1) (eCall asPure m_place [] (aCons (eUn (oFld okF "shape") (eVar 0)) (aCons (eVar 2) aNil))) (eC (.int 1)))
noncomputable def y_counts : SM := (sSeq (sSet 1 (eOp oRepOwn (eArg mkLst (aCons (eC (.int 0)) aNil)) (eCall asPure m_count_cells [] (aCons (eUn (oFld okF "shape") (eVar 0)) aNil))))
    (sSeq (sFor (.one 2) (iOf (eMethB "Log" "plays" asPure m_Log_plays (eVar 0) aNil)) b0_counts)
    (sRet (eVar 1))))
noncomputable def m_counts : Fn := fnSem 1 3 y_counts
noncomputable def y__law_pool : SM := (sRet (eArg mkOwn (aCons (eC (.int 0)) (aCons (eC (.int 0)) (aCons (eArg bList (aCons (eVar 0) aNil)) aNil)))))
noncomputable def m__law_pool : Fn := fnSem 1 1 y__law_pool
noncomputable def y__law_take : SM := (sSeq (sIf (eTst (eOp oEq (eOp oIdx (eVar 0) (eC (.int 1))) (eC (.int 0)))) (sSeq (sSet 2 (eOp oIdx (eVar 0) (eC (.int 0))))
    (sSeq (sSetI (eVar 0) (eC (.int 0)) (eOp oAdd (eVar 2) (eC (.int 1))))
    (sSeq (sSet 3 (eOp oIdx (eOp oAdd (eOp oIdx (eVar 0) (eC (.int 2))) (eArg mkLst (aCons (eC (.int 0)) aNil))) (eOp oMod (eArg bInt (aCons (eVar 2) aNil)) (eArg bMax (aCons (eC (.int 1)) (aCons (eArg bLen (aCons (eOp oIdx (eVar 0) (eC (.int 2))) aNil)) aNil))))))
    (sSeq (sSet 4 (eOp oMod (eOp oPow (eOp oAdd (eOp oAdd (eOp oMod (eArg bInt (aCons (eVar 3) aNil)) (eC (.int 2147483647))) (eOp oMul (eC (.int 7919)) (eVar 2))) (eC (.int 13))) (eC (.int 5))) (eC (.int 2147483647))))
    (sSeq (sSet 4 (eOp oMod (eOp oPow (eOp oAdd (eOp oAdd (eVar 4) (eOp oMul (eC (.int 104729)) (eVar 2))) (eC (.int 29))) (eC (.int 3))) (eC (.int 2147483629))))
    (sSeq (sIf (eTst (eOp oLt (eVar 3) (eOp oPow (eC (.int 10)) (eC (.int 18))))) (sRet (eOp oMod (eOp oFdiv (eVar 4) (eC (.int 11))) (eVar 1))) sNop)
    (sSetI (eVar 0) (eC (.int 1)) (eVar 3)))))))) sNop)
    (sSeq (sSet 5 (eOp oMod (eArg bInt (aCons (eOp oIdx (eVar 0) (eC (.int 1))) aNil)) (eVar 1)))
    (sSeq (sSetI (eVar 0) (eC (.int 1)) (eOp oFdiv (eOp oIdx (eVar 0) (eC (.int 1))) (eVar 1)))
    (sRet (eVar 5)))))
noncomputable def m__law_take : Fn := fnSem 2 6 y__law_take
noncomputable def y__law_divisor : SM := (sSeq (sSet 1 (eC (.int 0)))
    (sSeq (sFor (.one 2) (iOf (eVar 0)) (sSeq (sSet 3 (eArg bAbs (aCons (eVar 2) aNil)))
    (sSeq (sSet 4 (eVar 1))
    (sSeq (whL (eTst (eOp oNe (eVar 4) (eC (.int 0)))) (sPar 3 4 (aCons (eVar 4) (aCons (eOp oMod (eArg bInt (aCons (eVar 3) aNil)) (eVar 4)) aNil))) 100000)
    (sSet 1 (eVar 3))))))
    (sRet (eVar 1))))
noncomputable def m__law_divisor : Fn := fnSem 1 5 y__law_divisor
noncomputable def y__law_size : SM := (sSeq (sSet 1 (eC (.int 1)))
    (sSeq (sFor (.one 2) (iOf (eVar 0)) (sSet 1 (eOp oMul (eVar 1) (eVar 2))))
    (sRet (eVar 1))))
noncomputable def m__law_size : Fn := fnSem 1 3 y__law_size
noncomputable def y__law_shapes : SM := (sSeq (sSet 1 (eLc [2] (.one 2) (eArg walkR2 (aCons (eC (.int 1)) (aCons (eC (.int 5)) aNil))) tYesD (eArg mkLst (aCons (eVar 2) aNil))))
    (sSeq (sFor (.one 2) (eArg walkR2 (aCons (eC (.int 1)) (aCons (eC (.int 5)) aNil))) (sSet 1 (eOp oAdd (eVar 1) (eLc [3] (.one 3) (eArg walkR2 (aCons (eC (.int 1)) (aCons (eC (.int 5)) aNil))) tYesD (eArg mkLst (aCons (eVar 2) (aCons (eVar 3) aNil)))))))
    (sSeq (sFor (.one 2) (eArg walkR2 (aCons (eC (.int 1)) (aCons (eC (.int 5)) aNil))) (sFor (.one 3) (eArg walkR2 (aCons (eC (.int 1)) (aCons (eC (.int 5)) aNil))) (sSet 1 (eOp oAdd (eVar 1) (eLc [4] (.one 4) (eArg walkR2 (aCons (eC (.int 1)) (aCons (eC (.int 5)) aNil))) tYesD (eArg mkLst (aCons (eVar 2) (aCons (eVar 3) (aCons (eVar 4) aNil)))))))))
    (sRet (eLcOwn [5] (.one 5) (iOf (eVar 1)) (eTst (eOp oLe (eCall asPure m__law_size [] (aCons (eVar 5) aNil)) (eVar 0))) (eVar 5))))))
noncomputable def m__law_shapes : Fn := fnSem 1 6 y__law_shapes
noncomputable def y__law_shape : SM := (sSeq (sSet 2 (eCall asPure m__law_shapes [] (aCons (eVar 1) aNil)))
    (sRet (eOp oIdx (eVar 2) (eCall asPure m__law_take [] (aCons (eVar 0) (aCons (eArg bLen (aCons (eVar 2) aNil)) aNil))))))
noncomputable def m__law_shape : Fn := fnSem 2 3 y__law_shape
noncomputable def y__law_cells : SM := (sSeq (sSet 1 (eArg mkLst (aCons (eArg mkLst aNil) aNil)))
    (sSeq (sFor (.one 2) (iOf (eVar 0)) (sSeq (sSet 3 (eArg mkLst aNil))
    (sSeq (sFor (.one 4) (iOf (eVar 1)) (sSet 3 (eOp oAdd (eVar 3) (eLc [5] (.one 5) (eArg walkR1 (aCons (eVar 2) aNil)) tYesD (eOp oAdd (eVar 4) (eArg mkLst (aCons (eVar 5) aNil)))))))
    (sSet 1 (eVar 3)))))
    (sRet (eLcOwn [4] (.one 4) (iOf (eVar 1)) tYesD (eArg bTuple (aCons (eVar 4) aNil))))))
noncomputable def m__law_cells : Fn := fnSem 1 6 y__law_cells
noncomputable def y__law_least_terms : SM := (sSeq (sSet 1 (eCall asPure m__law_divisor [] (aCons (eVar 0) aNil)))
    (sSeq (sIf (eTst (eOp oEq (eVar 1) (eC (.int 0)))) (sRet (eArg bListOwn (aCons (eVar 0) aNil))) sNop)
    (sRet (eLcOwn [2] (.one 2) (iOf (eVar 0)) tYesD (eOp oFdiv (eVar 2) (eVar 1))))))
noncomputable def m__law_least_terms : Fn := fnSem 1 3 y__law_least_terms
noncomputable def y_Log___init__P : SM := (sSeq (sIf (tyNot (eTst (eCall asPure m_is_shape [] (aCons (eVar 1) aNil)))) (sRaise0 "BadShape") sNop)
    (sSeq (sSetF okF "shape" (eVar 0) (eArg bTuple (aCons (eVar 1) aNil)))
    (sSetF okF "_plays" (eVar 0) (eArg mkLst aNil))))
noncomputable def m_Log___init__P : Fn := fnSem 2 2 y_Log___init__P
noncomputable def y_Log_play : SM := (sSeq (sDrop (eCall asPure m_check_cell [] (aCons (eUn (oFld okF "shape") (eVar 0)) (aCons (eVar 1) aNil))))
    (sApp (eUn (oFld okF "_plays") (eVar 0)) (eVar 1)))
noncomputable def m_Log_play : Fn := fnSem 2 2 y_Log_play
noncomputable def y_Log___init__ : SM := (sSeq (sIf (tyNot (eTst (eCall asPure m_is_shape [] (aCons (eVar 1) aNil)))) (sRaise0 "BadShape") sNop)
    (sSeq (sSetF okF "shape" (eVar 0) (eArg bTuple (aCons (eVar 1) aNil)))
    (sSetF okF "_plays" (eVar 0) (eArg mkOwn aNil))))
noncomputable def m_Log___init__ : Fn := fnSemU 2 2 y_Log___init__
noncomputable def y_Log_behind : SM := (sSeq (sIf (tyOr (tyNot (eTst (eCall asPure m_is_whole [] (aCons (eVar 1) aNil)))) (tyNot (eTst (eCh oLe oLe (eC (.int 0)) (eVar 1) (eArg bLen (aCons (eUn (oFld okF "_plays") (eVar 0)) aNil)))))) (sRaise0 "BadShares") sNop)
    (sSeq (sSet 2 (eArg (mkO "Log" m_Log___init__) (aCons (eUn (oFld okF "shape") (eVar 0)) aNil)))
    (sSeq (sFor (.one 3) (iOf (eSl (eUn (oFld okF "_plays") (eVar 0)) pNone (pSome (eVar 1)))) (sDrop (eMethB "Log" "play" asPure m_Log_play (eVar 2) (aCons (eVar 3) aNil))))
    (sRet (eVar 2)))))
noncomputable def m_Log_behind : Fn := fnSemU 2 4 y_Log_behind
noncomputable def y__law_refused : SM := (sSeq (sTryM (sSeq (sIf (eTst (eOp oEq (eVar 0) (eC (.int 0)))) (sDrop (eMethB "Log" "play" asPure m_Log_play (eVar 1) (aCons (eVar 2) aNil))) sNop)
    (sSeq (sIf (eTst (eOp oEq (eVar 0) (eC (.int 1)))) (sDrop (eMethB "Log" "behind" asPure m_Log_behind (eVar 1) (aCons (eVar 2) aNil))) sNop)
    (sIf (eTst (eOp oEq (eVar 0) (eC (.int 2)))) (sDrop (eArg (mkM "Log" m_Log___init__P) (aCons (eVar 2) aNil))) sNop))) [⟨(some 3), ["NoCell"], ["BadShares", "BadShape"], fun c fs l => (sRet (eArg mkLst (aCons (eC (.str "cell")) (aCons (eXf 3 "cell" fs l) aNil))))⟩, ⟨none, ["BadShares"], ["BadShape"], fun c fs l => (sRet (eArg mkLst (aCons (eC (.str "shares")) aNil)))⟩, ⟨none, ["BadShape"], [], fun c fs l => (sRet (eArg mkLst (aCons (eC (.str "shape")) aNil)))⟩])
    (sRet (eArg mkOwn aNil)))
noncomputable def m__law_refused : Fn := fnSem 3 4 y__law_refused
noncomputable def y_Hint___init__ : SM := (sSeq (sIf (tyNot (eTst (eCall asPure m_is_shape [] (aCons (eVar 1) aNil)))) (sRaise0 "BadShape") sNop)
    (sSeq (sIf (tyNot (eTst (eCall asPure m_is_weights [] (aCons (eVar 2) (aCons (eCall asPure m_count_cells [] (aCons (eVar 1) aNil)) aNil))))) (sRaise0 "BadWeights") sNop)
    (sSeq (sSetF okF "shape" (eVar 0) (eArg bTuple (aCons (eVar 1) aNil)))
    (sSeq (sSetF okF "_weights" (eVar 0) (eCall asPure m_lowest [] (aCons (eVar 2) aNil)))
    (sSetF okF "unit" (eVar 0) (eArg bSum (aCons (eUn (oFld okF "_weights") (eVar 0)) aNil)))))))
noncomputable def m_Hint___init__ : Fn := fnSem 3 3 y_Hint___init__
noncomputable def y_Log___len__ : SM := (sRet (eArg bLen (aCons (eUn (oFld okF "_plays") (eVar 0)) aNil)))
noncomputable def m_Log___len__ : Fn := fnSem 1 1 y_Log___len__
noncomputable def y_Log_hint : SM := (sRet (eIf (eTruA (eUn (oFld okF "_plays") (eVar 0))) (eArg (mkM "Hint" m_Hint___init__) (aCons (eUn (oFld okF "shape") (eVar 0)) (aCons (eCall asPure m_counts [] (aCons (eVar 0) aNil)) aNil))) (eC .non)))
noncomputable def m_Log_hint : Fn := fnSem 1 1 y_Log_hint
noncomputable def y_Hint___eq__ : SM := (sRet (eAnd (eArg (bIsiC "Hint") (aCons (eVar 1) (aCons (eC (.cls "Hint")) aNil))) (eAnd (eOp oEq (eUn (oFld okF "shape") (eVar 0)) (eUn (oFld okF "shape") (eVar 1))) (eOp oEq (eUn (oFld okF "_weights") (eVar 0)) (eUn (oFld okF "_weights") (eVar 1))))))
noncomputable def m_Hint___eq__ : Fn := fnSem 2 2 y_Hint___eq__
noncomputable def y_Hint_weights : SM := (sRet (eArg bListOwn (aCons (eUn (oFld okF "_weights") (eVar 0)) aNil)))
noncomputable def m_Hint_weights : Fn := fnSem 1 1 y_Hint_weights
noncomputable abbrev c0__law_same : DL.Env → M SV := (eLc [6] (.one 6) (iOf (eVar 2)) (eTst (eOp oEq (eVar 6) (eVar 5))) (eVar 6))
noncomputable abbrev c1__law_same : DL.Env → M SV := (eLc [5] (.one 5) (iOf (eCall asPure m__law_cells [] (aCons (eVar 1) aNil))) tYesD (eArg bLen (aCons c0__law_same aNil)))
noncomputable def y__law_same : SM := (sSeq (sIf (tyOr (eTst (eOp oNe (eUn (oFld okF "shape") (eVar 0)) (eArg bTuple (aCons (eVar 1) aNil)))) (tyOr (eTst (eOp oNe (eArg (bLenObjB "Log" m_Log___len__) (aCons (eVar 0) aNil)) (eArg bLen (aCons (eVar 2) aNil)))) (eTst (eOp oNe (eMethB "Log" "plays" asPure m_Log_plays (eVar 0) aNil) (eVar 2))))) (sRet (eC (.bl false))) sNop)
    (sSeq (sApp (eMethB "Log" "plays" asOwn m_Log_plays (eVar 0) aNil) (eArg mkTup (aCons (eC (.int 0)) (aCons (eC (.int 0)) aNil))))
    (sSeq (sSet 3 (eMethB "Log" "hint" asPure m_Log_hint (eVar 0) aNil))
    (sSeq (sIf (eTst (eOp oEq (eVar 2) (eArg mkLst aNil))) (sRet (eOp oIsN (eVar 3) (eC .non))) sNop)
    (sSeq (sSet 4 c1__law_same)
    (sRet (eAnd (eOp (oEqO "Hint" m_Hint___eq__) (eVar 3) (eArg (mkM "Hint" m_Hint___init__) (aCons (eArg bTuple (aCons (eVar 1) aNil)) (aCons (eVar 4) aNil)))) (eOp oEq (eMeth "Hint" "weights" asPure m_Hint_weights (eVar 3) aNil) (eCall asPure m__law_least_terms [] (aCons (eVar 4) aNil))))))))))
noncomputable def m__law_same : Fn := fnSem 3 7 y__law_same
noncomputable def y__law_odd_cells : SM := (sSeq (sSet 2 (eArg mkLst (aCons (eOp oAddT (eOp oIdx (eVar 1) (eUn oNeg (eC (.int 1)))) (eArg mkTup (aCons (eC (.int 0)) aNil))) (aCons (eSl (eOp oIdx (eVar 1) (eUn oNeg (eC (.int 1)))) (pSome (eC (.int 1))) pNone) (aCons (eArg bList (aCons (eOp oIdx (eVar 1) (eC (.int 0))) aNil)) (aCons (eOp oMulT (eArg mkTup (aCons (eUn oNeg (eC (.int 1))) aNil)) (eArg bLen (aCons (eVar 0) aNil))) (aCons (eC .non) (aCons (eC (.int 0)) aNil))))))))
    (sRet (eOp oAdd (eVar 2) (eArg mkLst (aCons (eOp oMulT (eArg mkTup (aCons (eC (.bl true)) aNil)) (eArg bLen (aCons (eVar 0) aNil))) (aCons (eOp oMulT (eArg mkTup (aCons (eC (.bl false)) aNil)) (eArg bLen (aCons (eVar 0) aNil))) aNil))))))
noncomputable def m__law_odd_cells : Fn := fnSem 2 3 y__law_odd_cells
noncomputable abbrev b0__law_hints : SM := (sIf (tyAnd (eTst (eOp oNotN (eVar 2) (eC .non))) (eTst (eOp oNotN (eMethB "Log" "hint" asPure m_Log_hint (eVar 2) aNil) (eC .non)))) (sSeq (sSet 3 (eMethB "Log" "hint" asPure m_Log_hint (eVar 2) aNil))
    (sApp (eVar 1) (eArg mkTup (aCons (eVar 3) (aCons (eMeth "Hint" "weights" asPure m_Hint_weights (eVar 3) aNil) aNil))))) sNop)
noncomputable def y__law_hints : SM := (sSeq (sSet 1 (eArg mkOwn aNil))
    (sSeq (sForQ 2 (eVar 0) b0__law_hints)
    (sRet (eVar 1))))
noncomputable def m__law_hints : Fn := fnSem 1 4 y__law_hints
noncomputable abbrev c0__law_kept : DL.Env → M SV := (eLc [3, 4] (.many [3, 4]) (iOf (eVar 2)) (eTst (eOp oNe (eMeth "Hint" "weights" asPure m_Hint_weights (eVar 3) aNil) (eVar 4))) (eVar 3))
noncomputable abbrev c1__law_kept : DL.Env → M SV := (eLc [5] (.one 5) (iOf (eArg mkLst (aCons (eArg mkLst aNil) (aCons (eArg mkTup (aCons (eC (.int 5)) aNil)) (aCons (eArg mkTup (aCons (eC (.int 0)) (aCons (eC (.int 1)) aNil))) (aCons (eArg mkTup (aCons (eC (.int 4)) (aCons (eC (.int 4)) (aCons (eC (.int 2)) aNil)))) (aCons (eArg mkTup (aCons (eC (.bl true)) aNil)) (aCons (eC .non) (aCons (eC (.int 3)) aNil))))))))) tYesD (eOp oEq (eCall asPure m__law_refused [] (aCons (eC (.int 2)) (aCons (eVar 0) (aCons (eVar 5) aNil)))) (eArg mkLst (aCons (eC (.str "shape")) aNil))))
noncomputable def y__law_kept : SM := (sSeq (sIf (eTst (eOp oNe c0__law_kept (eArg mkLst aNil))) (sRet (eC (.bl false))) sNop)
    (sSeq (sIf (tyNot (eTst (eArg bAll (aCons c1__law_kept aNil)))) (sRet (eC (.bl false))) sNop)
    (sRet (eAnd (eOp oEq (eMethB "Log" "plays" asPure m_Log_plays (eMethB "Log" "behind" asPure m_Log_behind (eVar 0) (aCons (eArg bLen (aCons (eVar 1) aNil)) aNil)) aNil) (eVar 1)) (eOp oIsN (eMethB "Log" "hint" asPure m_Log_hint (eMethB "Log" "behind" asPure m_Log_behind (eVar 0) (aCons (eC (.int 0)) aNil)) aNil) (eC .non))))))
noncomputable def m__law_kept : Fn := fnSem 3 6 y__law_kept
noncomputable abbrev b0_law : SM := (sSeq (sSet 10 (eCall asPure m__law_take [] (aCons (eVar 1) (aCons (eC (.int 6)) aNil))))
    (sSeq (sIf (eTst (eOp oEq (eVar 10) (eC (.int 0)))) (sSeq (sSet 11 (eOp oIdx (eCall asPure m__law_odd_cells [] (aCons (eVar 2) (aCons (eVar 3) aNil))) (eCall asPure m__law_take [] (aCons (eVar 1) (aCons (eC (.int 8)) aNil)))))
    (sIf (eTst (eOp oNe (eCall asPure m__law_refused [] (aCons (eC (.int 0)) (aCons (eVar 4) (aCons (eVar 11) aNil)))) (eArg mkLst (aCons (eC (.str "cell")) (aCons (eVar 11) aNil))))) (sRet (eC (.bl false))) sNop)) (sIf (eTst (eOp oEq (eVar 10) (eC (.int 1)))) (sSeq (sSet 11 (eOp oIdx (eArg mkLst (aCons (eUn oNeg (eC (.int 1))) (aCons (eOp oAdd (eArg bLen (aCons (eVar 5) aNil)) (eC (.int 1))) (aCons (eC (.bl true)) (aCons (eC .non) (aCons (eC (.str "1")) aNil)))))) (eCall asPure m__law_take [] (aCons (eVar 1) (aCons (eC (.int 5)) aNil)))))
    (sIf (eTst (eOp oNe (eCall asPure m__law_refused [] (aCons (eC (.int 1)) (aCons (eVar 4) (aCons (eVar 11) aNil)))) (eArg mkLst (aCons (eC (.str "shares")) aNil)))) (sRet (eC (.bl false))) sNop)) (sIf (eTst (eOp oEq (eVar 10) (eC (.int 2)))) (sSeq (sSet 12 (eCall asPure m__law_take [] (aCons (eVar 1) (aCons (eOp oAdd (eArg bLen (aCons (eVar 5) aNil)) (eC (.int 1))) aNil))))
    (sSeq (sSet 6 (eMethB "Log" "behind" asPure m_Log_behind (eVar 4) (aCons (eVar 12) aNil)))
    (sSet 7 (eSl (eVar 5) pNone (pSome (eVar 12)))))) (sIf (tyAnd (eTst (eOp oEq (eVar 10) (eC (.int 3)))) (eTst (eOp oNotN (eVar 6) (eC .non)))) (sSeq (sSet 13 (eOp oIdx (eVar 3) (eCall asPure m__law_take [] (aCons (eVar 1) (aCons (eArg bLen (aCons (eVar 3) aNil)) aNil)))))
    (sSeq (sIf (eTst (eOp oNotN (eMethB "Log" "play" asPure m_Log_play (eVar 6) (aCons (eVar 13) aNil)) (eC .non))) (sRet (eC (.bl false))) sNop)
    (sSet 7 (eOp oAdd (eVar 7) (eArg mkLst (aCons (eVar 13) aNil)))))) (sSeq (sSet 13 (eOp oIdx (eVar 3) (eCall asPure m__law_take [] (aCons (eVar 1) (aCons (eArg bLen (aCons (eVar 3) aNil)) aNil)))))
    (sSeq (sIf (eTst (eOp oNotN (eMethB "Log" "play" asPure m_Log_play (eVar 4) (aCons (eVar 13) aNil)) (eC .non))) (sRet (eC (.bl false))) sNop)
    (sSet 5 (eOp oAdd (eVar 5) (eArg mkLst (aCons (eVar 13) aNil))))))))))
    (sSeq (sIf (tyOr (tyNot (eTst (eCall asPure m__law_same [] (aCons (eVar 4) (aCons (eVar 2) (aCons (eVar 5) aNil)))))) (tyAnd (eTst (eOp oNotN (eVar 6) (eC .non))) (tyNot (eTst (eCall asPure m__law_same [] (aCons (eVar 6) (aCons (eVar 2) (aCons (eVar 7) aNil)))))))) (sRet (eC (.bl false))) sNop)
    (sSet 8 (eOp oAdd (eVar 8) (eCall asPure m__law_hints [] (aCons (eArg (mkSq true) (aCons (eVar 4) (aCons (eVar 6) aNil))) aNil)))))))
noncomputable def y_law : SM := (sSeq (sSet 1 (eCall asOwn m__law_pool [] (aCons (eVar 0) aNil)))
    (sSeq (sSet 2 (eCall asPure m__law_shape [] (aCons (eVar 1) (aCons (eC (.int 16)) aNil))))
    (sSeq (sSet 3 (eCall asPure m__law_cells [] (aCons (eVar 2) aNil)))
    (sSeq (sSet 4 (eArg (mkO "Log" m_Log___init__) (aCons (eOp oIdx (eArg mkLst (aCons (eArg bTuple (aCons (eVar 2) aNil)) (aCons (eVar 2) aNil))) (eCall asPure m__law_take [] (aCons (eVar 1) (aCons (eC (.int 2)) aNil)))) aNil)))
    (sSeq (sSet 5 (eArg mkLst aNil))
    (sSeq (sSet 6 (eC .non))
    (sSeq (sSet 7 (eArg mkLst aNil))
    (sSeq (sSet 8 (eArg mkLst aNil))
    (sSeq (sFor (.one 9) (eArg walkR1 (aCons (eCall asPure m__law_take [] (aCons (eVar 1) (aCons (eC (.int 13)) aNil))) aNil)) b0_law)
    (sRet (eCall asOwn m__law_kept [] (aCons (eVar 4) (aCons (eVar 5) (aCons (eVar 8) aNil))))))))))))))
noncomputable def m_law : Fn := fnSem 1 14 y_law
end Lw
namespace Lw
open PySem L2 DL
def PoolOk (n : Nat) (l : List D) : Prop := ∃ (at' cur : Int) (ns : List Int), l = [.int at', .int cur, .lst (ns.map D.int)] ∧ 0 ≤ at' ∧ at' ≤ n ∧ ns.length ≤ 63
theorem pool_cal0 {n : Nat} {l l' : List D} {rest : Store} (h : PoolOk n l') : Cal (l :: rest) (l' :: rest) := by
  obtain ⟨_, _, _, rfl, _⟩ := h
  exact cal_cons0 (calC_2 rfl)
theorem fmod_lt {a b : Int} (h : 0 < b) : 0 ≤ a.fmod b ∧ a.fmod b < b := ⟨Int.fmod_nonneg_of_pos a h, Int.fmod_lt_of_pos a h⟩
theorem at0 (a b c : D) : atI [a, b, c] 0 = some a := by simp [atI, ixN]
theorem at1 (a b c : D) : atI [a, b, c] 1 = some b := by simp [atI, ixN]
theorem at2 (a b c : D) : atI [a, b, c] 2 = some c := by simp [atI, ixN]
theorem log2_lt {a : Int} {k : Nat} (h : a.natAbs < 2 ^ k) (hk : 0 < k) : a.natAbs.log2 < k := PySem.Flt.log2_lt_of hk h
theorem draw_at (ns : List Int) (i : Int) : ∃ d : Int, atI (ns.map D.int ++ [.int 0]) (i.fmod (if (ns.length : Int) > 1 then (ns.length : Int) else 1)) = some (.int d) := by
  have hb : (0 : Int) < (if (ns.length : Int) > 1 then (ns.length : Int) else 1) := by split <;> omega
  obtain ⟨h0, h1⟩ := fmod_lt (a := i) hb
  generalize hj : i.fmod (if (ns.length : Int) > 1 then (ns.length : Int) else 1) = j at h0 h1
  obtain ⟨m, rfl⟩ := Int.eq_ofNat_of_zero_le h0
  have hm : m < ns.length + 1 := by split at h1 <;> omega
  have e : ns.map D.int ++ [.int 0] = (ns ++ [0]).map D.int := by simp
  rw [e]
  have hm2 : m < (ns ++ [0]).length := by simpa using hm
  exact ⟨(ns ++ [0])[m], atI_nat (by rw [List.getElem?_map, List.getElem?_eq_getElem hm2]; rfl)⟩
/-- the last rows of a draw -/
theorem take_rest (n : Nat) (many at' cur : Int) (ns : List Int) (rest : Store) (a b c d : Option SV) (hm : 0 < many) (hl : many.natAbs.log2 < 9000) (h0 : 0 ≤ at') (h1 : at' ≤ n) (hn : ns.length ≤ 63) :
    ∃ r cur', 0 ≤ r ∧ r < many ∧ (sSeq (sSet 5 (eOp oMod (eArg bInt (aCons (eOp oIdx (eVar 0) (eC (.int 1))) aNil)) (eVar 1)))
    (sSeq (sSetI (eVar 0) (eC (.int 1)) (eOp oFdiv (eOp oIdx (eVar 0) (eC (.int 1))) (eVar 1)))
    (sRet (eVar 5)))) [some (.ptr 0), some (.d (.int many)), a, b, c, d] ([.int at', .int cur, .lst (ns.map D.int)] :: rest) = some (.rt (.d (.int r)), [.int at', .int cur', .lst (ns.map D.int)] :: rest) := by
  obtain ⟨r0, r1⟩ := fmod_lt (a := cur) hm
  refine ⟨cur.fmod many, cur.fdiv many, r0, r1, ?_⟩
  have hne : many ≠ 0 := by omega
  have i1 : oIdx (.ptr 0) (.d (.int 1)) ([.int at', .int cur, .lst (ns.map D.int)] :: rest) = some (.ok (.d (.int cur)), [.int at', .int cur, .lst (ns.map D.int)] :: rest) := oIdx_p rfl (at1 _ _ _)
  rw [st_SeqN (st_Set (a := .d (.int (cur.fmod many))) (S' := [.int at', .int cur, .lst (ns.map D.int)] :: rest) (by
    simp only [ev_Op, ev_Arg, ev_Cons, ev_Nil, ev_C, eVar, List.getElem?_cons_zero, List.getElem?_cons_succ, bnd_ret']
    rw [bnd_assoc, bnd_assoc, bnd_at i1]
    simp [oMod_i hne]))]
  rw [st_SeqN (st_SetI (x := .int (cur.fdiv many)) (k := 0) (n := 1) (j := 1) (l := [.int at', .int cur, .lst (ns.map D.int)]) (S1 := [.int at', .int cur, .lst (ns.map D.int)] :: rest) (S2 := [.int at', .int cur, .lst (ns.map D.int)] :: rest) (S3 := [.int at', .int cur, .lst (ns.map D.int)] :: rest) (by
    simp only [ev_Op, ev_C, eVar, List.set_cons_succ, List.set_cons_zero, List.getElem?_cons_zero, List.getElem?_cons_succ, bnd_ret']
    rw [bnd_at i1]
    simp [oFdiv_i hne hl]) (by simp [eVar]) (by simp) rfl (by simp [ixN]))]
  rw [st_Ret (a := .d (.int (cur.fmod many))) (S' := [.int at', .int (cur.fdiv many), .lst (ns.map D.int)] :: rest) (by simp [eVar])]
theorem take_ok (n : Nat) (hnn : n ≤ 1000000) (many : Int) (l : List D) (rest : Store) (hm : 0 < many) (hl : many.natAbs.log2 < 9000) (hp : PoolOk n l) :
    ∃ r l', 0 ≤ r ∧ r < many ∧ PoolOk (n + 1) l' ∧ m__law_take [.ptr 0, .d (.int many)] (l :: rest) = some (.ok (.d (.int r)), l' :: rest) := by
  obtain ⟨at', cur, ns, rfl, h0, h1, hn⟩ := hp
  have hne : many ≠ 0 := by omega
  have i0 : oIdx (.ptr 0) (.d (.int 0)) ([.int at', .int cur, .lst (ns.map D.int)] :: rest) = some (.ok (.d (.int at')), [.int at', .int cur, .lst (ns.map D.int)] :: rest) := oIdx_p rfl (at0 _ _ _)
  have i1 : oIdx (.ptr 0) (.d (.int 1)) ([.int at', .int cur, .lst (ns.map D.int)] :: rest) = some (.ok (.d (.int cur)), [.int at', .int cur, .lst (ns.map D.int)] :: rest) := oIdx_p rfl (at1 _ _ _)
  by_cases hc : cur = 0
  · subst hc
    have i2 : oIdx (.ptr 0) (.d (.int 2)) ([.int (at' + 1), .int 0, .lst (ns.map D.int)] :: rest) = some (.ok (.d (.lst (ns.map D.int))), [.int (at' + 1), .int 0, .lst (ns.map D.int)] :: rest) := oIdx_p rfl (at2 _ _ _)
    obtain ⟨dr, hdr⟩ := draw_at ns at'
    have hmx : (if (ns.length : Int) > 1 then (ns.length : Int) else 1) ≠ 0 := by split <;> omega
    let A := [Option.some (SV.ptr 0), some (.d (.int many)), none, none, none, none]
    let S1 : Store := [.int (at' + 1), .int 0, .lst (ns.map D.int)] :: rest
    let m1 : Int := ((dr.fmod 2147483647 + 7919 * at' + 13) ^ (5 : Nat)).fmod 2147483647
    let m2 : Int := ((m1 + 104729 * at' + 29) ^ (3 : Nat)).fmod 2147483629
    have b1 : (dr.fmod 2147483647 + 7919 * at' + 13).natAbs < 2 ^ 64 := by
      have := fmod_lt (a := dr) (b := 2147483647) (by decide)
      omega
    have b2 : (m1 + 104729 * at' + 29).natAbs < 2 ^ 64 := by
      have := fmod_lt (a := (dr.fmod 2147483647 + 7919 * at' + 13) ^ (5 : Nat)) (b := 2147483647) (by decide)
      have e : m1 = ((dr.fmod 2147483647 + 7919 * at' + 13) ^ (5 : Nat)).fmod 2147483647 := rfl
      omega
    have la : at'.natAbs.log2 < 64 := log2_lt (by omega) (by decide)
    have blk : (sSeq (sSet 2 (eOp oIdx (eVar 0) (eC (.int 0))))
    (sSeq (sSetI (eVar 0) (eC (.int 0)) (eOp oAdd (eVar 2) (eC (.int 1))))
    (sSeq (sSet 3 (eOp oIdx (eOp oAdd (eOp oIdx (eVar 0) (eC (.int 2))) (eArg mkLst (aCons (eC (.int 0)) aNil))) (eOp oMod (eArg bInt (aCons (eVar 2) aNil)) (eArg bMax (aCons (eC (.int 1)) (aCons (eArg bLen (aCons (eOp oIdx (eVar 0) (eC (.int 2))) aNil)) aNil))))))
    (sSeq (sSet 4 (eOp oMod (eOp oPow (eOp oAdd (eOp oAdd (eOp oMod (eArg bInt (aCons (eVar 3) aNil)) (eC (.int 2147483647))) (eOp oMul (eC (.int 7919)) (eVar 2))) (eC (.int 13))) (eC (.int 5))) (eC (.int 2147483647))))
    (sSeq (sSet 4 (eOp oMod (eOp oPow (eOp oAdd (eOp oAdd (eVar 4) (eOp oMul (eC (.int 104729)) (eVar 2))) (eC (.int 29))) (eC (.int 3))) (eC (.int 2147483629))))
    (sSeq (sIf (eTst (eOp oLt (eVar 3) (eOp oPow (eC (.int 10)) (eC (.int 18))))) (sRet (eOp oMod (eOp oFdiv (eVar 4) (eC (.int 11))) (eVar 1))) sNop)
    (sSetI (eVar 0) (eC (.int 1)) (eVar 3)))))))) A ([.int at', .int 0, .lst (ns.map D.int)] :: rest) =
      if dr < 10 ^ 18 then some (.rt (.d (.int ((m2.fdiv 11).fmod many))), S1) else
        some (.nx [some (.ptr 0), some (.d (.int many)), some (.d (.int at')), some (.d (.int dr)), some (.d (.int m2)), none], [.int (at' + 1), .int dr, .lst (ns.map D.int)] :: rest) := by
      rw [st_SeqN (st_Set (a := .d (.int at')) (S' := [.int at', .int 0, .lst (ns.map D.int)] :: rest) (by
        simp only [A, ev_Op, ev_C, eVar, List.getElem?_cons_zero, bnd_ret']
        exact i0))]
      rw [st_SeqN (st_SetI (x := .int (at' + 1)) (k := 0) (n := 0) (j := 0) (l := [.int at', .int 0, .lst (ns.map D.int)]) (S1 := [.int at', .int 0, .lst (ns.map D.int)] :: rest) (S2 := [.int at', .int 0, .lst (ns.map D.int)] :: rest) (S3 := [.int at', .int 0, .lst (ns.map D.int)] :: rest) (by simp [A, eVar]) (by simp [A, eVar]) (by simp) rfl (by simp [ixN]))]
      have cat : oAdd (.d (.lst (ns.map D.int))) (.d (.lst [.int 0])) S1 = some (.ok (.d (.lst (ns.map D.int ++ [.int 0]))), S1) := by
        have : (ns.map D.int).length + [D.int 0].length ≤ lim := by simp only [List.length_map, List.length_cons, List.length_nil, lim]; omega
        show (match items S1 (.d (.lst (ns.map D.int))), items S1 (.d (.lst [.int 0])) with
          | some l, some m => if l.length + m.length ≤ lim then some (R.ok (SV.d (.lst (l ++ m))), S1) else none
          | _, _ => none) = _
        dsimp only [items]
        rw [if_pos this]
      rw [st_SeqN (st_Set (a := .d (.int dr)) (S' := S1) (by
        simp only [A, ev_Op, ev_Arg, ev_Cons, ev_Nil, ev_C, eVar, List.set_cons_succ, List.set_cons_zero, List.getElem?_cons_zero, List.getElem?_cons_succ, bnd_ret', mkLst_1, bInt_i]
        rw [bnd_assoc, bnd_at i2, bnd_at cat]
        simp only [bnd_assoc]
        rw [bnd_at i2]
        simp only [bnd_ret', bLen_l, bMax_i, List.length_map, oMod_i hmx, oIdx_l hdr, ret_at]
        rfl))]
      rw [st_SeqN (st_Set (a := .d (.int m1)) (S' := S1) (by
        simp only [A, ev_Op, ev_Arg, ev_Cons, ev_Nil, ev_C, eVar, List.set_cons_succ, List.set_cons_zero, List.getElem?_cons_zero, List.getElem?_cons_succ, bnd_ret', bInt_i]
        rw [oMod_i (by decide)]
        simp only [bnd_ret']
        rw [oMul_i (by have : (7919 : Int).natAbs.log2 < 64 := by decide
                       omega)]
        simp only [bnd_ret', oAdd_i]
        rw [oPow_i (by decide) (by decide) b1]
        simp only [bnd_ret']
        rw [oMod_i (by decide)]
        rfl))]
      rw [st_SeqN (st_Set (a := .d (.int m2)) (S' := S1) (by
        simp only [A, ev_Op, ev_Arg, ev_Cons, ev_Nil, ev_C, eVar, List.set_cons_succ, List.set_cons_zero, List.getElem?_cons_zero, List.getElem?_cons_succ, bnd_ret']
        rw [oMul_i (by have : (104729 : Int).natAbs.log2 < 64 := by decide
                       omega)]
        simp only [bnd_ret', oAdd_i]
        rw [oPow_i (by decide) (by decide) b2]
        simp only [bnd_ret']
        rw [oMod_i (by decide)]
        rfl))]
      have tst : (eTst (eOp oLt (eVar 3) (eOp oPow (eC (.int 10)) (eC (.int 18))))) [some (.ptr 0), some (.d (.int many)), some (.d (.int at')), some (.d (.int dr)), some (.d (.int m2)), none] S1 = some (.ok (decide (dr < 10 ^ 18)), S1) := by
        simp only [ev_Tst, ev_Op, ev_C, eVar, List.getElem?_cons_zero, List.getElem?_cons_succ, bnd_ret']
        rw [oPow_i (by decide) (by decide) (by decide)]
        simp only [bnd_ret', oLt_i, asB_b, ret_at]
        rfl
      by_cases hd : dr < 10 ^ 18
      · rw [if_pos hd]
        rw [decide_eq_true hd] at tst
        refine st_SeqR ?_
        show sIf _ _ _ [some (.ptr 0), some (.d (.int many)), some (.d (.int at')), some (.d (.int dr)), some (.d (.int m2)), none] S1 = _
        rw [st_IfT tst]
        refine st_Ret ?_
        simp only [ev_Op, ev_C, eVar, List.getElem?_cons_zero, List.getElem?_cons_succ, bnd_ret']
        rw [oFdiv_i (by decide) (by decide)]
        simp only [bnd_ret']
        rw [oMod_i hne]
        rfl
      · rw [if_neg hd]
        rw [decide_eq_false hd] at tst
        refine (st_SeqN (env' := [some (.ptr 0), some (.d (.int many)), some (.d (.int at')), some (.d (.int dr)), some (.d (.int m2)), none]) (S' := S1) ?_).trans ?_
        · show sIf _ _ _ [some (.ptr 0), some (.d (.int many)), some (.d (.int at')), some (.d (.int dr)), some (.d (.int m2)), none] S1 = _
          rw [st_IfF tst]
          rfl
        · rw [st_SetI (x := .int dr) (k := 0) (n := 1) (j := 1) (l := [.int (at' + 1), .int 0, .lst (ns.map D.int)]) (S1 := S1) (S2 := S1) (S3 := S1) (by simp [eVar]) (by simp [eVar]) (by simp) rfl (by simp [ixN])]
          rfl
    have tst0 : (eTst (eOp oEq (eOp oIdx (eVar 0) (eC (.int 1))) (eC (.int 0)))) A ([.int at', .int 0, .lst (ns.map D.int)] :: rest) = some (.ok true, [.int at', .int 0, .lst (ns.map D.int)] :: rest) := by
      simp only [A, ev_Tst, ev_Op, ev_C, eVar, List.getElem?_cons_zero, List.getElem?_cons_succ, bnd_ret']
      rw [bnd_assoc, bnd_at i1]
      simp
    by_cases hd : dr < 10 ^ 18
    · rw [if_pos hd] at blk
      obtain ⟨r0, r1⟩ := fmod_lt (a := m2.fdiv 11) hm
      refine ⟨_, [.int (at' + 1), .int 0, .lst (ns.map D.int)], r0, r1, ⟨at' + 1, 0, ns, rfl, by omega, by omega, hn⟩, ?_⟩
      refine fn_retE rfl (S1 := S1) ?_ (by simp [S1])
      show y__law_take A _ = _
      unfold y__law_take
      refine st_SeqR ?_
      rw [st_IfT tst0, blk]
    · rw [if_neg hd] at blk
      obtain ⟨r, cur', r0, r1, hr⟩ := take_rest (n + 1) many (at' + 1) dr ns rest (some (.d (.int at'))) (some (.d (.int dr))) (some (.d (.int m2))) none hm hl (by omega) (by omega) hn
      refine ⟨r, [.int (at' + 1), .int cur', .lst (ns.map D.int)], r0, r1, ⟨at' + 1, cur', ns, rfl, by omega, by omega, hn⟩, ?_⟩
      refine fn_retE rfl (S1 := [.int (at' + 1), .int cur', .lst (ns.map D.int)] :: rest) ?_ (by simp)
      show y__law_take A _ = _
      unfold y__law_take
      rw [st_SeqN (env' := [some (.ptr 0), some (.d (.int many)), some (.d (.int at')), some (.d (.int dr)), some (.d (.int m2)), none]) (S' := [.int (at' + 1), .int dr, .lst (ns.map D.int)] :: rest) (by rw [st_IfT tst0, blk])]
      exact hr
  · obtain ⟨r, cur', r0, r1, hr⟩ := take_rest n many at' cur ns rest none none none none hm hl h0 h1 hn
    refine ⟨r, [.int at', .int cur', .lst (ns.map D.int)], r0, r1, ⟨at', cur', ns, rfl, h0, by omega, hn⟩, ?_⟩
    refine fn_retE rfl (S1 := [.int at', .int cur', .lst (ns.map D.int)] :: rest) ?_ (by simp)
    show y__law_take [some (.ptr 0), some (.d (.int many)), none, none, none, none] _ = _
    unfold y__law_take
    rw [st_SeqN (env' := [some (.ptr 0), some (.d (.int many)), none, none, none, none]) (S' := [.int at', .int cur, .lst (ns.map D.int)] :: rest) (by
      rw [st_IfF (S' := [.int at', .int cur, .lst (ns.map D.int)] :: rest) (by
        simp only [ev_Tst, ev_Op, ev_C, eVar, List.getElem?_cons_zero, List.getElem?_cons_succ, bnd_ret']
        rw [bnd_assoc, bnd_at i1]
        simp [hc])]
      rfl)]
    exact hr
end Lw
namespace Lw
open PySem L2 DL
def basic : D → Bool
  | .non => true
  | .bl _ => true
  | .int _ => true
  | .str _ => true
  | .tup _ => true
  | .lst _ => true
  | _ => false
def whole : D → Bool
  | .int _ => true
  | _ => false
@[simp] theorem kit_ni : kitB "NoneType" "int" = some false := by decide +kernel
@[simp] theorem kit_si : kitB "str" "int" = some false := by decide +kernel
@[simp] theorem kit_ti : kitB "tuple" "int" = some false := by decide +kernel
@[simp] theorem kit_li : kitB "list" "int" = some false := by decide +kernel
@[simp] theorem kit_nl : kitB "NoneType" "list" = some false := by decide +kernel
@[simp] theorem kit_sl : kitB "str" "list" = some false := by decide +kernel
@[simp] theorem kit_tl : kitB "tuple" "list" = some false := by decide +kernel
@[simp] theorem kit_ll : kitB "list" "list" = some true := by decide +kernel
@[simp] theorem kit_bl : kitB "bool" "list" = some false := by decide +kernel
@[simp] theorem kit_il : kitB "int" "list" = some false := by decide +kernel
@[simp] theorem kit_nt : kitB "NoneType" "tuple" = some false := by decide +kernel
@[simp] theorem kit_st : kitB "str" "tuple" = some false := by decide +kernel
@[simp] theorem kit_lt : kitB "list" "tuple" = some false := by decide +kernel
@[simp] theorem kit_bt : kitB "bool" "tuple" = some false := by decide +kernel
@[simp] theorem kit_it : kitB "int" "tuple" = some false := by decide +kernel
theorem fn_R {np n : Nat} {f : DL.Env → M SV} {as : List SV} {x : D} (hl : as.length = np) (h : f (as.map some ++ List.replicate (n - as.length) none) = ret (.d x)) : fnSem np n (sRet f) as = ret (.d x) := by
  funext S
  exact fn_retE hl (st_Ret (by rw [h]; rfl)) rfl
theorem fn_B {np n : Nat} {body : SM} {as : List SV} {x : D} (hl : as.length = np) (h : ∀ S, body (as.map some ++ List.replicate (n - as.length) none) S = some (.rt (.d x), S)) : fnSem np n body as = ret (.d x) := by
  funext S
  exact fn_retE hl (h S) rfl
theorem whole_ev (d : D) (h : basic d = true) (env : DL.Env) (i : Nat) (he : env[i]? = some (some (.d d))) : (eAnd (eArg bIsi (aCons (eVar i) (aCons (eC (.ty "int")) aNil))) (eNot (eArg bIsi (aCons (eVar i) (aCons (eC (.ty "bool")) aNil))))) env = ret (.d (.bl (whole d))) := by
  simp only [ev_And, ev_Not, ev_Arg, ev_Cons, ev_Nil, ev_C, ev_Var he, bnd_ret']
  cases d <;> first | cases h | skip
  all_goals simp [bIsi, tyN, whole]
theorem v_whole (d : D) (h : basic d = true) : m_is_whole [.d d] = ret (.d (.bl (whole d))) := fn_R rfl (whole_ev d h _ 0 rfl)
def islst : D → Bool
  | .lst _ => true
  | .tup _ => true
  | _ => false
theorem v_list (d : D) (h : basic d = true) : m_is_list [.d d] = ret (.d (.bl (islst d))) := by
  refine fn_R rfl ?_
  show (eArg bIsiT (aCons (eVar 0) (aCons (eArg mkTup (aCons (eC (.ty "list")) (aCons (eC (.ty "tuple")) aNil))) aNil))) [some (.d d)] = _
  simp only [ev_Arg, ev_Cons, ev_Nil, ev_C, eVar, List.getElem?_cons_zero, bnd_ret', mkTup_2]
  cases d <;> first | cases h | skip
  all_goals simp [bIsiT, tyN, tysOf, kitS, islst]
/-- all are whole, by a comprehension -/
theorem all_whole (m : Fn) (hm : ∀ d, basic d = true → m [.d d] = ret (.d (.bl (whole d)))) (env : DL.Env) (i : Nat) (fi : DL.Env → M (List D × KK)) (r : List D) (hi : fi env = ret (r, none)) (hw : ∀ d, (wipeE env [i]).set i (some (.d d)) = (wipeE env [i]).set i (some (.d d)) ∧ i < env.length) (hb : ∀ d ∈ r, basic d = true) (hl : r.length ≤ 1000) :
    (eArg bAll (aCons (eLc [i] (.one i) fi tYesD (eCall asPure m [] (aCons (eVar i) aNil))) aNil)) env = ret (.d (.bl (r.all whole))) := by
  have lc : (eLc [i] (.one i) fi tYesD (eCall asPure m [] (aCons (eVar i) aNil))) env = ret (.d (.lst (r.map fun d => D.bl (whole d)))) := by
    refine lc_all (fun d => .bl (whole d)) hi (fun d hd => ⟨_, rfl, ?_⟩) (by omega)
    have hlen : i < (wipeE env [i]).length := by
      show i < (env.set i none).length
      rw [List.length_set]
      exact (hw d).2
    have hv : ((wipeE env [i]).set i (some (.d d)))[i]? = some (some (SV.d d)) := by rw [List.getElem?_set_self hlen]
    simp only [ev_Call, ev_Cons, ev_Nil, ev_Var hv, bnd_ret', List.append_nil]
    exact call_pure rfl (hm d (hb d hd))
  simp only [ev_Arg, ev_Cons, ev_Nil, lc, bnd_ret']
  exact bAll_map whole r
theorem v_row (r : List D) (hb : ∀ d ∈ r, basic d = true) (hl : r.length ≤ 1000) (n : Int) : m_is_row [.d (.lst r), .d (.int n)] = ret (.d (.bl (decide ((r.length : Int) = n) && r.all whole))) := by
  refine fn_R rfl ?_
  show (eAnd (eCall asPure m_is_list [] (aCons (eVar 0) aNil)) (eAnd (eOp oEq (eArg bLen (aCons (eVar 0) aNil)) (eVar 1)) (eArg bAll (aCons (eLc [2] (.one 2) (iOf (eVar 0)) tYesD (eCall asPure m_is_whole [] (aCons (eVar 2) aNil))) aNil)))) [some (.d (.lst r)), some (.d (.int n)), none] = _
  have a := all_whole m_is_whole v_whole [some (.d (.lst r)), some (.d (.int n)), none] 2 (iOf (eVar 0)) r rfl (fun d => ⟨rfl, show 2 < 3 by decide⟩) hb hl
  have c1 : callM asPure m_is_list [.d (.lst r)] = ret (.d (.bl true)) := call_pure rfl (v_list (.lst r) rfl)
  rw [ev_And, ev_Call, ev_And, a]
  simp only [ev_Op, ev_Arg, ev_Cons, ev_Nil, eVar, List.getElem?_cons_zero, List.getElem?_cons_succ, bnd_ret', List.append_nil, c1, asB_b, if_true, bLen_l, oEq_i]
  by_cases h : (r.length : Int) = n
  · simp [h]
  · simp [h]
def prodI : Int → List Int → Int
  | a, [] => a
  | a, m :: ms => prodI (a * m) ms
def Rng (ms : List Int) : Prop := ∀ m ∈ ms, 1 ≤ m ∧ m ≤ 4
theorem mul_rng {a m : Int} {k : Nat} (h1 : 1 ≤ a) (h2 : a ≤ 4 ^ k) (hm : 1 ≤ m ∧ m ≤ 4) : 1 ≤ a * m ∧ a * m ≤ 4 ^ (k + 1) := by
  constructor
  · have := Int.mul_le_mul_of_nonneg_left hm.1 (show 0 ≤ a by omega)
    omega
  · rw [Int.pow_succ]
    exact Int.mul_le_mul h2 hm.2 (by omega) (by omega)
theorem pow_rng {a : Int} {k : Nat} (h1 : 1 ≤ a) (h2 : a ≤ 4 ^ k) (hk : k ≤ 10) : a.natAbs.log2 < 64 := log2_lt (by
  have h3 : (4 : Int) ^ k ≤ 4 ^ 10 := by
    have : (4 : Nat) ^ k ≤ 4 ^ 10 := Nat.pow_le_pow_right (by decide) hk
    exact_mod_cast this
  have e1 : (4 : Int) ^ 10 = 1048576 := by decide
  have e2 : (2 : Nat) ^ 64 = 18446744073709551616 := by decide
  omega) (by decide)
theorem prod_bd : ∀ (ms : List Int) (a : Int) (k : Nat), 1 ≤ a → a ≤ 4 ^ k → Rng ms → 1 ≤ prodI a ms ∧ prodI a ms ≤ 4 ^ (k + ms.length)
  | [], a, k, h1, h2, _ => ⟨h1, h2⟩
  | m :: ms, a, k, h1, h2, hr => by
    obtain ⟨q1, q2⟩ := mul_rng h1 h2 (hr m List.mem_cons_self)
    have := prod_bd ms (a * m) (k + 1) q1 q2 fun x hx => hr x (List.mem_cons_of_mem _ hx)
    rw [show k + (m :: ms).length = k + 1 + ms.length by simp only [List.length_cons]; omega]
    exact this
theorem size_loop (all : List D) (e0 : Option SV) (S : Store) : ∀ (ms : List Int) (a : Int) (k : Nat) (e2 : Option SV), 1 ≤ a → a ≤ 4 ^ k → k + ms.length ≤ 10 → Rng ms → ∃ x2,
    forL (.one 2) none all (sSet 1 (eOp oMul (eVar 1) (eVar 2))) (ms.map D.int) [e0, some (.d (.int a)), e2] S = some (.nx [e0, some (.d (.int (prodI a ms))), x2], S)
  | [], a, k, e2, _, _, _, _ => ⟨e2, for_nil⟩
  | m :: ms, a, k, e2, h1, h2, h3, hr => by
    have hm := hr m List.mem_cons_self
    obtain ⟨q1, q2⟩ := mul_rng h1 h2 hm
    have lm : m.natAbs.log2 < 64 := log2_lt (by omega) (by decide)
    have la : a.natAbs.log2 < 64 := pow_rng h1 h2 (by omega)
    obtain ⟨x2, ih⟩ := size_loop all e0 S ms (a * m) (k + 1) (some (.d (.int m))) q1 q2 (by simp only [List.length_cons] at h3; omega) (fun x hx => hr x (List.mem_cons_of_mem _ hx))
    refine ⟨x2, ?_⟩
    rw [List.map_cons, for_nx (kk := none) (all := all) (env2 := [e0, some (.d (.int (a * m))), some (.d (.int m))]) (S2 := S) rfl ?_ (show keepOk none all S from trivial)]
    · exact ih
    · rw [st_Set (a := .d (.int (a * m))) (S' := S) (by
        simp only [ev_Op, eVar, List.set_cons_succ, List.set_cons_zero, List.getElem?_cons_zero, List.getElem?_cons_succ, bnd_ret']
        rw [oMul_i (by omega)]
        rfl)]
      rfl
theorem size_body (ms : List Int) (hl : ms.length ≤ 10) (hr : Rng ms) (S : Store) : (sSeq (sSet 1 (eC (.int 1)))
    (sSeq (sFor (.one 2) (iOf (eVar 0)) (sSet 1 (eOp oMul (eVar 1) (eVar 2))))
    (sRet (eVar 1)))) [some (.d (.lst (ms.map D.int))), none, none] S = some (.rt (.d (.int (prodI 1 ms))), S) := by
  obtain ⟨x2, h⟩ := size_loop (ms.map D.int) (some (.d (.lst (ms.map D.int)))) S ms 1 0 none (by decide) (by decide) (by omega) hr
  rw [st_SeqN (st_Set (a := .d (.int 1)) (S' := S) rfl)]
  rw [st_SeqN (by
    rw [st_For (ds := ms.map D.int) (kk := none) (S' := S) rfl]
    exact h)]
  exact st_Ret rfl
theorem v_count (ms : List Int) (hl : ms.length ≤ 10) (hr : Rng ms) : m_count_cells [.d (.lst (ms.map D.int))] = ret (.d (.int (prodI 1 ms))) := fn_B rfl (size_body ms hl hr)
theorem v_size (ms : List Int) (hl : ms.length ≤ 10) (hr : Rng ms) : m__law_size [.d (.lst (ms.map D.int))] = ret (.d (.int (prodI 1 ms))) := fn_B rfl (size_body ms hl hr)
end Lw
namespace Lw
open PySem L2 DL
def inR : D → Bool
  | .int n => decide (1 ≤ n) && decide (n ≤ 4)
  | _ => false
def intOf : D → Int
  | .int n => n
  | _ => 0
def shapeOk : D → Bool
  | .lst l => (decide (1 ≤ l.length) && decide (l.length ≤ 3)) && (l.all inR && decide (prodI 1 (l.map intOf) ≤ 16))
  | _ => false
/-- what is passed as a shape -/
def Shp : D → Prop
  | .lst l => l.length ≤ 100 ∧ ∀ d ∈ l, basic d = true
  | .non => True
  | .int _ => True
  | .str _ => True
  | _ => False
theorem ints_of {l : List D} (h : l.all whole = true) : l = (l.map intOf).map D.int := by
  induction l with
  | nil => rfl
  | cons d l ih =>
    rw [List.all_cons, Bool.and_eq_true] at h
    rw [List.map_cons, List.map_cons, ← ih h.2]
    cases d <;> first | rfl | cases h.1
theorem inR_whole {l : List D} (h : l.all inR = true) : l.all whole = true := by
  rw [List.all_eq_true] at h ⊢
  intro d hd
  have := h d hd
  cases d <;> first | rfl | cases this
theorem inR_rng {l : List D} (h : l.all inR = true) : Rng (l.map intOf) := by
  intro m hm
  obtain ⟨d, hd, rfl⟩ := List.mem_map.mp hm
  have := List.all_eq_true.mp h d hd
  cases d <;> first | cases this | skip
  rename_i n
  have h2 : (decide (1 ≤ n) && decide (n ≤ 4)) = true := this
  rw [Bool.and_eq_true, decide_eq_true_eq, decide_eq_true_eq] at h2
  exact h2
theorem inR_all (ms : List Int) : (ms.map D.int).all inR = true ↔ Rng ms := by
  rw [List.all_eq_true]
  constructor
  · intro h m hm
    have : inR (.int m) = true := h _ (List.mem_map_of_mem hm)
    have h2 : (decide (1 ≤ m) && decide (m ≤ 4)) = true := this
    rw [Bool.and_eq_true, decide_eq_true_eq, decide_eq_true_eq] at h2
    exact h2
  · intro h d hd
    obtain ⟨m, hm, rfl⟩ := List.mem_map.mp hd
    obtain ⟨a, b⟩ := h m hm
    show (decide (1 ≤ m) && decide (m ≤ 4)) = true
    rw [decide_eq_true a, decide_eq_true b]
    rfl
theorem in_ev (d : D) (h : basic d = true) (env : DL.Env) (i : Nat) (he : env[i]? = some (some (.d d))) : (eAnd (eCall asPure m_is_whole [] (aCons (eVar i) aNil)) (eCh oLe oLe (eC (.int 1)) (eVar i) (eC (.int 4)))) env = ret (.d (.bl (inR d))) := by
  have c : callM asPure m_is_whole [.d d] = ret (.d (.bl (whole d))) := call_pure rfl (v_whole d h)
  simp only [ev_And, ev_Call, ev_Cons, ev_Nil, ev_C, ev_Ch, ev_Var he, bnd_ret', List.append_nil, c, asB_b]
  cases d <;> first | rfl | skip
  rename_i n
  simp only [whole, if_true, bnd_ret', oLe_i, asB_b, inR]
  by_cases h1 : 1 ≤ n
  · simp [h1]
  · simp [h1]
theorem sIf_pick {t : DL.Env → M Bool} {F G : SM} {env : DL.Env} {S : Store} {b : Bool} (h : t env = ret b) : sIf t F G env S = if b then F env S else G env S := st_If (by rw [h]; rfl)
theorem chain_len (l : List D) (env : DL.Env) (h : env[0]? = some (some (.d (.lst l)))) : (eCh oLe oLe (eC (.int 1)) (eArg bLen (aCons (eVar 0) aNil)) (eC (.int 3))) env = ret (.d (.bl (decide (1 ≤ l.length) && decide (l.length ≤ 3)))) := by
  simp only [ev_Ch, ev_Arg, ev_Cons, ev_Nil, ev_C, ev_Var h, bnd_ret', bLen_l, oLe_i, asB_b]
  by_cases h1 : (1 : Int) ≤ l.length
  · have h1' : 1 ≤ l.length := by omega
    by_cases h2 : (l.length : Int) ≤ 3
    · have h2' : l.length ≤ 3 := by omega
      simp [h1, h2, h1', h2']
    · have h2' : ¬ l.length ≤ 3 := by omega
      simp [h1, h2, h1', h2']
  · have h1' : ¬ 1 ≤ l.length := by omega
    simp [h1, h1']
theorem v_shape (sh : D) (h : Shp sh) : m_is_shape [.d sh] = ret (.d (.bl (shapeOk sh))) := by
  refine fn_B rfl fun S => ?_
  show y_is_shape [some (.d sh), none] S = _
  have hb : basic sh = true := by cases sh <;> first | rfl | exact h.elim
  have c1 : callM asPure m_is_list [.d sh] = ret (.d (.bl (islst sh))) := call_pure rfl (v_list sh hb)
  unfold y_is_shape
  by_cases hl : islst sh = true
  · cases sh <;> first | exact h.elim | cases hl | skip
    rename_i l
    obtain ⟨hlen, hbs⟩ := h
    have t1 : (tyOr (tyNot (eTst (eCall asPure m_is_list [] (aCons (eVar 0) aNil)))) (tyNot (eTst (eCh oLe oLe (eC (.int 1)) (eArg bLen (aCons (eVar 0) aNil)) (eC (.int 3)))))) [some (.d (.lst l)), none] = ret (!(decide (1 ≤ l.length) && decide (l.length ≤ 3))) := by
      rw [ev_tyOr, ev_tyNot, ev_tyNot, ev_Tst, ev_Tst, chain_len l _ rfl]
      simp only [ev_Call, ev_Cons, ev_Nil, eVar, List.getElem?_cons_zero, bnd_ret', List.append_nil, c1, asB_b, islst, Bool.not_true]
      rfl
    by_cases h13 : (decide (1 ≤ l.length) && decide (l.length ≤ 3)) = true
    · rw [h13] at t1
      rw [st_SeqN (env' := [some (.d (.lst l)), none]) (S' := S) (by rw [sIf_pick t1]; rfl)]
      have lc : (eLc [1] (.one 1) (iOf (eVar 0)) tYesD (eAnd (eCall asPure m_is_whole [] (aCons (eVar 1) aNil)) (eCh oLe oLe (eC (.int 1)) (eVar 1) (eC (.int 4))))) [some (.d (.lst l)), none] = ret (.d (.lst (l.map fun d => D.bl (inR d)))) :=
        lc_all (ds := l) (fun d => .bl (inR d)) rfl (fun d hd => ⟨[some (.d (.lst l)), some (.d d)], rfl, in_ev d (hbs d hd) _ 1 rfl⟩) (by omega)
      have t2 : (tyNot (eTst (eArg bAll (aCons (eLc [1] (.one 1) (iOf (eVar 0)) tYesD (eAnd (eCall asPure m_is_whole [] (aCons (eVar 1) aNil)) (eCh oLe oLe (eC (.int 1)) (eVar 1) (eC (.int 4))))) aNil)))) [some (.d (.lst l)), none] = ret (!(l.all inR)) := by
        simp only [ev_tyNot, ev_Tst, ev_Arg, ev_Cons, ev_Nil, lc, bnd_ret', bAll_map, asB_b]
      by_cases hin : l.all inR = true
      · rw [hin] at t2
        rw [st_SeqN (env' := [some (.d (.lst l)), none]) (S' := S) (by rw [sIf_pick t2]; rfl)]
        have e := ints_of (inR_whole hin)
        have hlen3 : (l.map intOf).length ≤ 10 := by
          rw [Bool.and_eq_true, decide_eq_true_eq, decide_eq_true_eq] at h13
          rw [List.length_map]; omega
        have c2 : callM asPure m_count_cells [.d (.lst l)] = ret (.d (.int (prodI 1 (l.map intOf)))) := by
          have := v_count (l.map intOf) hlen3 (inR_rng hin)
          rw [← e] at this
          exact call_pure rfl this
        refine st_Ret ?_
        simp only [ev_Op, ev_Call, ev_Cons, ev_Nil, ev_C, eVar, List.getElem?_cons_zero, bnd_ret', List.append_nil, c2, oLe_i, shapeOk, h13, hin, Bool.true_and]
        rfl
      · have hin' : l.all inR = false := by simpa using hin
        rw [hin'] at t2
        refine st_SeqR ?_
        rw [sIf_pick t2]
        simp only [shapeOk, hin', Bool.false_and, Bool.and_false, Bool.not_false, if_true]
        rfl
    · have h13' : (decide (1 ≤ l.length) && decide (l.length ≤ 3)) = false := by simpa using h13
      rw [h13'] at t1
      refine st_SeqR ?_
      rw [sIf_pick t1]
      simp only [shapeOk, h13', Bool.false_and, Bool.not_false, if_true]
      rfl
  · have hl' : islst sh = false := by simpa using hl
    have t1 : (tyOr (tyNot (eTst (eCall asPure m_is_list [] (aCons (eVar 0) aNil)))) (tyNot (eTst (eCh oLe oLe (eC (.int 1)) (eArg bLen (aCons (eVar 0) aNil)) (eC (.int 3)))))) [some (.d sh), none] = ret true := by
      simp only [ev_tyOr, ev_tyNot, ev_Tst, ev_Call, ev_Cons, ev_Nil, eVar, List.getElem?_cons_zero, bnd_ret', List.append_nil, c1, asB_b, hl', Bool.not_false]
      rfl
    have e : shapeOk sh = false := by cases sh <;> first | rfl | exact h.elim | cases hl'
    refine st_SeqR ?_
    rw [sIf_pick t1, e]
    rfl
end Lw
namespace Lw
open PySem L2 DL
theorem sum_rep (n a : Nat) : (List.replicate n a).sum = n * a := by
  induction n with
  | zero => simp
  | succ n ih => rw [List.replicate_succ, List.sum_cons, ih, Nat.succ_mul, Nat.add_comm]
def cellStep (found : List (List Int)) (m : Int) : List (List Int) := found.flatMap fun s => (List.range m.toNat).map fun i => s ++ [((i : Nat) : Int)]
def cellsOf (ms : List Int) : List (List Int) := ms.foldl cellStep [[]]
def cD (c : List Int) : D := .tup (c.map D.int)
theorem step_len {found : List (List Int)} {m : Int} (hm : 1 ≤ m ∧ m ≤ 4) : (cellStep found m).length ≤ 4 * found.length ∧ found.length ≤ (cellStep found m).length := by
  unfold cellStep
  rw [List.length_flatMap]
  simp only [List.length_map, List.length_range, List.map_const', sum_rep]
  have h1 : 1 ≤ m.toNat := by omega
  have h2 : m.toNat ≤ 4 := by omega
  constructor
  · rw [Nat.mul_comm]; exact Nat.mul_le_mul_right _ h2
  · exact Nat.le_mul_of_pos_right _ h1
theorem step_one {found : List (List Int)} {m : Int} {k : Nat} (h : ∀ c ∈ found, c.length = k) : ∀ c ∈ cellStep found m, c.length = k + 1 := by
  intro c hc
  unfold cellStep at hc
  obtain ⟨s, hs, hc⟩ := List.mem_flatMap.mp hc
  obtain ⟨i, _, rfl⟩ := List.mem_map.mp hc
  rw [List.length_append, h s hs]
  rfl
theorem shape_ints {sh : D} (h : shapeOk sh = true) : ∃ ms, sh = .lst (ms.map D.int) ∧ 1 ≤ ms.length ∧ ms.length ≤ 3 ∧ Rng ms ∧ prodI 1 ms ≤ 16 := by
  cases sh <;> first | cases h | skip
  rename_i l
  have h' : ((decide (1 ≤ l.length) && decide (l.length ≤ 3)) && (l.all inR && decide (prodI 1 (l.map intOf) ≤ 16))) = true := h
  rw [Bool.and_eq_true, Bool.and_eq_true, Bool.and_eq_true, decide_eq_true_eq, decide_eq_true_eq, decide_eq_true_eq] at h'
  obtain ⟨⟨h1, h2⟩, h3, h4⟩ := h'
  exact ⟨l.map intOf, by rw [← ints_of (inR_whole h3)], by rw [List.length_map]; exact h1, by rw [List.length_map]; exact h2, inR_rng h3, h4⟩
end Lw
namespace Lw
open PySem L2 DL
theorem ev_CallR {cv : RR → M SV} {m : Fn} {fa : DL.Env → M (List SV)} {env : DL.Env} {as : List SV} {x : SV} (h : fa env = ret as) (h2 : callM cv m as = ret x) : eCall cv m [] fa env = ret x := by
  rw [ev_Call, h, bnd_ret', List.append_nil, h2]
theorem ev_ArgR {α : Type} {o : List SV → M α} {fa : DL.Env → M (List SV)} {env : DL.Env} {as : List SV} {x : α} (h : fa env = ret as) (h2 : o as = ret x) : eArg o fa env = ret x := by
  rw [ev_Arg, h, bnd_ret', h2]
theorem at_ret {α : Type} {m : M α} {a : α} (h : m = ret a) (S : Store) : m S = some (.ok a, S) := by rw [h]; rfl
/-- a list of short lists of plain values -/
def Row (d : D) : Prop := ∃ r, d = .lst r ∧ r.length ≤ 100 ∧ ∀ x ∈ r, basic x = true
def Rows (rows : List D) : Prop := rows.length ≤ 1000 ∧ ∀ d ∈ rows, Row d
theorem walk_i (j : Int) (h : 0 ≤ j ∧ j ≤ 1000000) : walkR1 [.d (.int j)] = ret (rangeD 0 j.toNat, none) := by
  show (if rngOk j = true then ret (rangeD 0 j.toNat, none) else stuck) = _
  rw [if_pos (by unfold rngOk; rw [decide_eq_true (by omega), decide_eq_true (by omega)]; rfl)]
theorem walk_n (n : Nat) (hn : n ≤ 1000) : walkR1 [.d (.int n)] = ret (rangeD 0 n, none) := by
  have h := walk_i n (by omega)
  rw [Int.toNat_natCast] at h
  exact h
theorem map_intOf (ms : List Int) : (ms.map D.int).map intOf = ms := by
  rw [List.map_map]
  exact List.map_id ms
end Lw
namespace Lw
open PySem L2 DL
theorem call_fr {m : Fn} {as : List SV} {x : List D} (hn : noExc as = true) (h : ∀ S, m as S = some (.ok (.fresh x), S)) (hc : clsd x = true := by (first | rfl | exact clsd_ints _ | exact clsd_map (fun _ => rfl) _ | assumption | (exact clsd_append (clsd_ints _) (by rfl)) | (exact clsd_append (clsd_map (fun _ => rfl) _) (by rfl)))) : callM asPure m as = ret (.d (.lst x)) := by
  funext S
  exact call_atF hn (h S) hc
theorem fn_F {np n : Nat} {body : SM} {as : List SV} {x : List D} {S : Store} (hl : as.length = np) (h : body (as.map some ++ List.replicate (n - as.length) none) S = some (.rt (.ptr S.length), S ++ [x])) (hc : clsd x = true := by (first | rfl | exact clsd_ints _ | exact clsd_map (fun _ => rfl) _ | assumption | (exact clsd_append (clsd_ints _) (by rfl)) | (exact clsd_append (clsd_map (fun _ => rfl) _) (by rfl)))) : fnSem np n body as S = some (.ok (.fresh x), S) := by
  rw [fn_retP (x := x) hl h (Nat.le_refl _) (by simp) (cal_app _ _) hc, List.take_left' rfl]
end Lw
namespace Lw
open PySem L2 DL
/-- anything but a list of one's own -/
def cln : D → D
  | .own _ => .non
  | d => d
theorem cln_no (d : D) : isOwn (cln d) = false := by cases d <;> rfl
def ShL (d : D) : Prop := ∃ ms : List Int, d = .lst (ms.map D.int) ∧ 1 ≤ ms.length ∧ ms.length ≤ 3 ∧ Rng ms
def Fnd (n : Nat) (l : List D) : Prop := (∀ d ∈ l, ShL d) ∧ D.lst [.int 1] ∈ l ∧ l.length ≤ n
def I14 (d : D) : Prop := ∃ i : Int, d = .int i ∧ 1 ≤ i ∧ i ≤ 4
theorem r14 : walkR2 [.d (.int 1), .d (.int 5)] = ret (rangeD 1 4, none) := by
  show (if rngOk 1 = true ∧ rngOk 5 = true then ret (rangeD 1 ((5 : Int) - 1).toNat, none) else stuck) = _
  rw [if_pos (by decide)]
  rfl
theorem in14 : ∀ d ∈ rangeD 1 4, I14 d := by
  intro d hd
  obtain ⟨i, hi, rfl⟩ := List.mem_map.mp hd
  have := List.mem_range.mp hi
  exact ⟨_, rfl, by omega, by omega⟩
theorem len14 : (rangeD 1 4).length = 4 := rangeD_length 1 4
theorem arg14 (env : DL.Env) : (eArg walkR2 (aCons (eC (.int 1)) (aCons (eC (.int 5)) aNil))) env = ret (rangeD 1 4, none) := ev_ArgR rfl r14
theorem shl1 {a : D} (h : I14 a) : ShL (.lst [a]) := by
  obtain ⟨i, rfl, h1, h2⟩ := h
  exact ⟨[i], rfl, by simp, by simp, fun m hm => by rw [List.mem_singleton.mp hm]; exact ⟨h1, h2⟩⟩
theorem shl2 {a b : D} (h : I14 a) (h' : I14 b) : ShL (.lst [a, b]) := by
  obtain ⟨i, rfl, h1, h2⟩ := h
  obtain ⟨j, rfl, h3, h4⟩ := h'
  refine ⟨[i, j], rfl, by simp, by simp, fun m hm => ?_⟩
  rcases List.mem_cons.mp hm with e | e
  · rw [e]; exact ⟨h1, h2⟩
  · rw [List.mem_singleton.mp e]; exact ⟨h3, h4⟩
theorem shl3 {a b c : D} (h : I14 a) (h' : I14 b) (h'' : I14 c) : ShL (.lst [a, b, c]) := by
  obtain ⟨i, rfl, h1, h2⟩ := h
  obtain ⟨j, rfl, h3, h4⟩ := h'
  obtain ⟨k, rfl, h5, h6⟩ := h''
  refine ⟨[i, j, k], rfl, by simp, by simp, fun m hm => ?_⟩
  rcases List.mem_cons.mp hm with e | hm
  · rw [e]; exact ⟨h1, h2⟩
  rcases List.mem_cons.mp hm with e | e
  · rw [e]; exact ⟨h3, h4⟩
  · rw [List.mem_singleton.mp e]; exact ⟨h5, h6⟩
theorem Fnd.more {n : Nat} {l m : List D} (h : Fnd n l) (hm : ∀ d ∈ m, ShL d) (hl : m.length ≤ 4) : Fnd (n + 4) (l ++ m) := ⟨fun d hd => by
  rcases List.mem_append.mp hd with q | q
  · exact h.1 d q
  · exact hm d q, List.mem_append_left _ h.2.1, by rw [List.length_append]; have := h.2.2; omega⟩
theorem sh_loop1 (all : List D) (e0 e5 : Option SV) (S : Store) : ∀ (ds : List D) (n : Nat) (l : List D) (e2 : Option SV), (∀ d ∈ ds, I14 d) → n + 4 * ds.length ≤ 1000 → Fnd n l → ∃ l' x2, Fnd (n + 4 * ds.length) l' ∧
    forL (.one 2) none all (sSet 1 (eOp oAdd (eVar 1) (eLc [3] (.one 3) (eArg walkR2 (aCons (eC (.int 1)) (aCons (eC (.int 5)) aNil))) tYesD (eArg mkLst (aCons (eVar 2) (aCons (eVar 3) aNil)))))) ds [e0, some (.d (.lst l)), e2, none, none, e5] S = some (.nx [e0, some (.d (.lst l')), x2, none, none, e5], S)
  | [], n, l, e2, _, _, h => ⟨l, e2, h, for_nil⟩
  | d :: ds, n, l, e2, hd, hn, h => by
    have h0 := hd d List.mem_cons_self
    have hm : ∀ x ∈ (rangeD 1 4).map (fun x => D.lst [d, x]), ShL x := fun x hx => by
      obtain ⟨y, hy, rfl⟩ := List.mem_map.mp hx
      exact shl2 h0 (in14 y hy)
    obtain ⟨l', x2, g, e⟩ := sh_loop1 all e0 e5 S ds (n + 4) (l ++ (rangeD 1 4).map (fun x => D.lst [d, x])) (some (.d d)) (fun x hx => hd x (List.mem_cons_of_mem _ hx)) (by simp only [List.length_cons] at hn; omega) (h.more hm (by rw [List.length_map, len14]; decide))
    refine ⟨l', x2, by rw [show n + 4 * (d :: ds).length = n + 4 + 4 * ds.length by simp only [List.length_cons]; omega]; exact g, ?_⟩
    rw [for_nx (kk := none) (all := all) (env2 := [e0, some (.d (.lst (l ++ (rangeD 1 4).map (fun x => D.lst [d, x])))), some (.d d), none, none, e5]) (S2 := S) rfl ?_ (show keepOk none all S from trivial)]
    · exact e
    · show sSet 1 _ [e0, some (.d (.lst l)), some (.d d), none, none, e5] S = _
      have lc : (eLc [3] (.one 3) (eArg walkR2 (aCons (eC (.int 1)) (aCons (eC (.int 5)) aNil))) tYesD (eArg mkLst (aCons (eVar 2) (aCons (eVar 3) aNil)))) [e0, some (.d (.lst l)), some (.d d), none, none, e5] = ret (.d (.lst ((rangeD 1 4).map (fun x => D.lst [d, x])))) :=
        lc_all (fun x => D.lst [d, x]) (arg14 _) (fun x _ => ⟨[e0, some (.d (.lst l)), some (.d d), some (.d x), none, e5], rfl, rfl⟩) (by rw [len14]; decide)
      rw [st_Set (a := .d (.lst (l ++ (rangeD 1 4).map (fun x => D.lst [d, x])))) (S' := S) (at_ret (by
        rw [ev_Op, lc]
        exact oAdd_l (by rw [List.length_map, len14]; have := h.2.2; omega)) S)]
      rfl
theorem sh_loop2 (all : List D) (e0 e5 : Option SV) (a : D) (ha : I14 a) (S : Store) : ∀ (ds : List D) (n : Nat) (l : List D) (e3 : Option SV), (∀ d ∈ ds, I14 d) → n + 4 * ds.length ≤ 1000 → Fnd n l → ∃ l' x3, Fnd (n + 4 * ds.length) l' ∧
    forL (.one 3) none all (sSet 1 (eOp oAdd (eVar 1) (eLc [4] (.one 4) (eArg walkR2 (aCons (eC (.int 1)) (aCons (eC (.int 5)) aNil))) tYesD (eArg mkLst (aCons (eVar 2) (aCons (eVar 3) (aCons (eVar 4) aNil))))))) ds [e0, some (.d (.lst l)), some (.d a), e3, none, e5] S = some (.nx [e0, some (.d (.lst l')), some (.d a), x3, none, e5], S)
  | [], n, l, e3, _, _, h => ⟨l, e3, h, for_nil⟩
  | d :: ds, n, l, e3, hd, hn, h => by
    have h0 := hd d List.mem_cons_self
    have hm : ∀ x ∈ (rangeD 1 4).map (fun x => D.lst [a, d, x]), ShL x := fun x hx => by
      obtain ⟨y, hy, rfl⟩ := List.mem_map.mp hx
      exact shl3 ha h0 (in14 y hy)
    obtain ⟨l', x3, g, e⟩ := sh_loop2 all e0 e5 a ha S ds (n + 4) (l ++ (rangeD 1 4).map (fun x => D.lst [a, d, x])) (some (.d d)) (fun x hx => hd x (List.mem_cons_of_mem _ hx)) (by simp only [List.length_cons] at hn; omega) (h.more hm (by rw [List.length_map, len14]; decide))
    refine ⟨l', x3, by rw [show n + 4 * (d :: ds).length = n + 4 + 4 * ds.length by simp only [List.length_cons]; omega]; exact g, ?_⟩
    rw [for_nx (kk := none) (all := all) (env2 := [e0, some (.d (.lst (l ++ (rangeD 1 4).map (fun x => D.lst [a, d, x])))), some (.d a), some (.d d), none, e5]) (S2 := S) rfl ?_ (show keepOk none all S from trivial)]
    · exact e
    · show sSet 1 _ [e0, some (.d (.lst l)), some (.d a), some (.d d), none, e5] S = _
      have lc : (eLc [4] (.one 4) (eArg walkR2 (aCons (eC (.int 1)) (aCons (eC (.int 5)) aNil))) tYesD (eArg mkLst (aCons (eVar 2) (aCons (eVar 3) (aCons (eVar 4) aNil))))) [e0, some (.d (.lst l)), some (.d a), some (.d d), none, e5] = ret (.d (.lst ((rangeD 1 4).map (fun x => D.lst [a, d, x])))) :=
        lc_all (fun x => D.lst [a, d, x]) (arg14 _) (fun x _ => ⟨[e0, some (.d (.lst l)), some (.d a), some (.d d), some (.d x), e5], rfl, rfl⟩) (by rw [len14]; decide)
      rw [st_Set (a := .d (.lst (l ++ (rangeD 1 4).map (fun x => D.lst [a, d, x])))) (S' := S) (at_ret (by
        rw [ev_Op, lc]
        exact oAdd_l (by rw [List.length_map, len14]; have := h.2.2; omega)) S)]
      rfl
theorem sh_loop3 (all : List D) (e0 e5 : Option SV) (S : Store) : ∀ (ds : List D) (n : Nat) (l : List D) (e2 e3 : Option SV), (∀ d ∈ ds, I14 d) → n + 16 * ds.length ≤ 1000 → Fnd n l → ∃ l' x2 x3, Fnd (n + 16 * ds.length) l' ∧
    forL (.one 2) none all (sFor (.one 3) (eArg walkR2 (aCons (eC (.int 1)) (aCons (eC (.int 5)) aNil))) (sSet 1 (eOp oAdd (eVar 1) (eLc [4] (.one 4) (eArg walkR2 (aCons (eC (.int 1)) (aCons (eC (.int 5)) aNil))) tYesD (eArg mkLst (aCons (eVar 2) (aCons (eVar 3) (aCons (eVar 4) aNil)))))))) ds [e0, some (.d (.lst l)), e2, e3, none, e5] S = some (.nx [e0, some (.d (.lst l')), x2, x3, none, e5], S)
  | [], n, l, e2, e3, _, _, h => ⟨l, e2, e3, h, for_nil⟩
  | d :: ds, n, l, e2, e3, hd, hn, h => by
    have h0 := hd d List.mem_cons_self
    obtain ⟨l1, y3, g1, e1⟩ := sh_loop2 (rangeD 1 4) e0 e5 d h0 S (rangeD 1 4) n l e3 in14 (by rw [len14]; simp only [List.length_cons] at hn; omega) h
    rw [len14] at g1
    obtain ⟨l', x2, x3, g, e⟩ := sh_loop3 all e0 e5 S ds (n + 16) l1 (some (.d d)) y3 (fun x hx => hd x (List.mem_cons_of_mem _ hx)) (by simp only [List.length_cons] at hn; omega) g1
    refine ⟨l', x2, x3, by rw [show n + 16 * (d :: ds).length = n + 16 + 16 * ds.length by simp only [List.length_cons]; omega]; exact g, ?_⟩
    rw [for_nx (kk := none) (all := all) (env2 := [e0, some (.d (.lst l1)), some (.d d), y3, none, e5]) (S2 := S) rfl ?_ (show keepOk none all S from trivial)]
    · exact e
    · show sFor _ _ _ [e0, some (.d (.lst l)), some (.d d), e3, none, e5] S = _
      rw [st_For (ds := rangeD 1 4) (kk := none) (S' := S) (at_ret (arg14 _) S)]
      exact e1
def prodD (d : D) : Int := match d with
  | .lst l => prodI 1 (l.map intOf)
  | _ => 0
theorem v_shapes (most : Int) (hm : 1 ≤ most) (S : Store) : ∃ L, m__law_shapes [.d (.int most)] S = some (.ok (.fresh L), S) ∧ (∀ d ∈ L, ShL d ∧ prodD d ≤ most) ∧ 1 ≤ L.length ∧ L.length ≤ 1000 := by
  have g0 : Fnd 4 ((rangeD 1 4).map fun x => D.lst [x]) := ⟨fun x hx => by
    obtain ⟨y, hy, rfl⟩ := List.mem_map.mp hx
    exact shl1 (in14 y hy), List.mem_map_of_mem (f := fun x => D.lst [x]) (a := .int 1) (by
      refine List.mem_map.mpr ⟨0, by simp, rfl⟩), by rw [List.length_map, len14]; decide⟩
  obtain ⟨l1, x2, g1, e1⟩ := sh_loop1 (rangeD 1 4) (some (.d (.int most))) none S (rangeD 1 4) 4 _ none in14 (by rw [len14]; decide) g0
  rw [len14] at g1
  obtain ⟨l2, y2, y3, g2, e2⟩ := sh_loop3 (rangeD 1 4) (some (.d (.int most))) none S (rangeD 1 4) 20 l1 x2 none in14 (by rw [len14]; decide) g1
  rw [len14] at g2
  have eM : (l2.filter fun d => decide (prodD d ≤ most)).map cln = (l2.filter fun d => decide (prodD d ≤ most)).map id := List.map_congr_left fun d hd => by
    obtain ⟨ms, rfl, _⟩ := g2.1 d (List.mem_filter.mp hd).1
    rfl
  refine ⟨(l2.filter fun d => decide (prodD d ≤ most)).map id, fn_F rfl ?_ (by rw [← eM]; exact clsd_map cln_no _), ?_, ?_, ?_⟩
  · show y__law_shapes [some (.d (.int most)), none, none, none, none, none] S = _
    unfold y__law_shapes
    rw [st_SeqN (st_Set (a := .d (.lst ((rangeD 1 4).map fun x => D.lst [x]))) (S' := S) (at_ret (lc_all (fun x => D.lst [x]) (arg14 _) (fun x _ => ⟨[some (.d (.int most)), none, some (.d x), none, none, none], rfl, rfl⟩) (by rw [len14]; decide)) S))]
    rw [st_SeqN (by
      rw [st_For (ds := rangeD 1 4) (kk := none) (S' := S) (at_ret (arg14 _) S)]
      exact e1)]
    rw [st_SeqN (by
      rw [st_For (ds := rangeD 1 4) (kk := none) (S' := S) (at_ret (arg14 _) S)]
      exact e2)]
    refine st_Ret ?_
    rw [← eM]
    refine lc_retO (ds := l2) (fun d => decide (prodD d ≤ most)) cln rfl (fun d hd => ?_) (by have := g2.2.2; omega) cln_no
    obtain ⟨ms, rfl, h1, h2, hr⟩ := g2.1 d hd
    refine ⟨[some (.d (.int most)), some (.d (.lst l2)), y2, y3, none, some (.d (.lst (ms.map D.int)))], rfl, ?_, fun _ => rfl⟩
    have c : callM asPure m__law_size [.d (.lst (ms.map D.int))] = ret (.d (.int (prodI 1 ms))) := call_pure rfl (v_size ms (by omega) hr)
    rw [ev_Tst, ev_Op, ev_CallR (as := [.d (.lst (ms.map D.int))]) rfl c]
    show bnd (oLe (.d (.int (prodI 1 ms))) (.d (.int most))) asB = ret (decide (prodI 1 ((ms.map D.int).map intOf) ≤ most))
    rw [map_intOf]
    rfl
  · intro d hd
    rw [List.map_id] at hd
    obtain ⟨a, b⟩ := List.mem_filter.mp hd
    exact ⟨g2.1 d a, of_decide_eq_true b⟩
  · rw [List.map_id]
    have : D.lst [.int 1] ∈ l2.filter fun d => decide (prodD d ≤ most) := List.mem_filter.mpr ⟨g2.2.1, decide_eq_true (show prodI 1 [1] ≤ most from hm)⟩
    exact List.length_pos_of_mem this
  · rw [List.map_id]
    have := List.length_filter_le (fun d => decide (prodD d ≤ most)) l2
    have := g2.2.2
    omega
theorem at_mem {l : List D} {r : Int} (h0 : 0 ≤ r) (h1 : r < l.length) : ∃ d ∈ l, atI l r = some d := by
  obtain ⟨m, rfl⟩ := Int.eq_ofNat_of_zero_le h0
  have hm : m < l.length := by omega
  exact ⟨l[m], List.getElem_mem hm, atI_nat (List.getElem?_eq_getElem hm)⟩
theorem nat_log {k : Nat} (h : k ≤ 1000000) : (k : Int).natAbs.log2 < 9000 := Nat.lt_of_lt_of_le (log2_lt (k := 64) (by
  have : (2 : Nat) ^ 64 = 18446744073709551616 := by decide
  omega) (by decide)) (by decide)
theorem clsd_all : ∀ {l : List D}, (∀ d ∈ l, isOwn d = false) → clsd l = true := fun {l} h => by
  simp only [clsd, Bool.not_eq_true', List.any_eq_false]
  exact fun d hd => by rw [h d hd]; decide
theorem v_drawnM (most : Int) (hmost : 1 ≤ most ∧ most ≤ 16) (n : Nat) (hn : n ≤ 900000) (l : List D) (rest : Store) (hp : PoolOk n l) : ∃ sh l', shapeOk sh = true ∧ PoolOk (n + 1) l' ∧ m__law_shape [.ptr 0, .d (.int most)] (l :: rest) = some (.ok (.d sh), l' :: rest) := by
  obtain ⟨L, eL, hL, h1, h2⟩ := v_shapes most hmost.1 (l :: rest)
  obtain ⟨r, l', r0, r1, p1, e1⟩ := take_ok n (by omega) L.length l rest (by omega) (nat_log (by omega)) hp
  obtain ⟨d, hd, ed⟩ := at_mem r0 r1
  obtain ⟨⟨ms, rfl, a, b, hr⟩, hpr⟩ := hL d hd
  refine ⟨.lst (ms.map D.int), l', ?_, p1, ?_⟩
  · show ((decide (1 ≤ (ms.map D.int).length) && decide ((ms.map D.int).length ≤ 3)) && ((ms.map D.int).all inR && decide (prodI 1 ((ms.map D.int).map intOf) ≤ 16))) = true
    rw [List.length_map, decide_eq_true a, decide_eq_true b, (inR_all ms).mpr hr, decide_eq_true (show prodI 1 ((ms.map D.int).map intOf) ≤ 16 from Int.le_trans hpr hmost.2)]
    rfl
  · refine fn_retE (S1 := l' :: rest) rfl ?_ (by simp) (pool_cal0 p1)
    show y__law_shape [some (.ptr 0), some (.d (.int most)), none] (l :: rest) = _
    unfold y__law_shape
    rw [st_SeqN (st_Set (a := .d (.lst L)) (S' := l :: rest) (by
      rw [ev_Call, show (aCons (eVar 1) aNil) [some (.ptr 0), some (.d (.int most)), none] = ret [.d (.int most)] from rfl, bnd_ret']
      exact call_atF rfl eL (clsd_all fun d hd => by obtain ⟨⟨ms, rfl, _⟩, _⟩ := hL d hd; rfl)))]
    refine st_Ret ?_
    show bnd (bnd ((aCons (eVar 0) (aCons (eArg bLen (aCons (eVar 2) aNil)) aNil)) [some (.ptr 0), some (.d (.int most)), some (.d (.lst L))]) fun as => callM asPure m__law_take (as ++ [])) (fun y => oIdx (.d (.lst L)) y) (l :: rest) = _
    rw [show (aCons (eVar 0) (aCons (eArg bLen (aCons (eVar 2) aNil)) aNil)) [some (.ptr 0), some (.d (.int most)), some (.d (.lst L))] = ret [.ptr 0, .d (.int L.length)] from rfl, bnd_ret', List.append_nil, bnd_at (call_at rfl e1), oIdx_l ed]
    rfl
end Lw
namespace Lw
open PySem L2 DL
def sq (b : Bool) (l : List D) : D := if b then .tup l else .lst l
theorem it_sq {b : Bool} {l : List D} {env : DL.Env} {i : Nat} (h : env[i]? = some (some (.d (sq b l)))) : iOf (eVar i) env = ret (l, none) := by
  show bnd (eVar i env) walkD = _
  rw [ev_Var h, bnd_ret']
  cases b <;> rfl
theorem len_sq (b : Bool) (l : List D) : bLen [.d (sq b l)] = ret (.d (.int l.length)) := by cases b <;> rfl
theorem list_sq (b : Bool) (l : List D) : callM asPure m_is_list [.d (sq b l)] = ret (.d (.bl true)) := by cases b <;> exact call_pure rfl (v_list _ rfl)
/-- a sound shape -/
structure Snd (ms : List Int) : Prop where
  l1 : 1 ≤ ms.length
  l2 : ms.length ≤ 3
  r : Rng ms
  p : prodI 1 ms ≤ 16
theorem snd_of {sh : D} (h : shapeOk sh = true) : ∃ ms, sh = .lst (ms.map D.int) ∧ Snd ms := by
  obtain ⟨ms, e, a, b, c, d⟩ := shape_ints h
  exact ⟨ms, e, a, b, c, d⟩
theorem Snd.pos {ms : List Int} (s : Snd ms) : 1 ≤ prodI 1 ms := (prod_bd ms 1 0 (by decide) (by decide) s.r).1
theorem v_countS (b : Bool) {ms : List Int} (s : Snd ms) : m_count_cells [.d (sq b (ms.map D.int))] = ret (.d (.int (prodI 1 ms))) := by
  refine fn_B rfl fun S => ?_
  show y_count_cells [some (.d (sq b (ms.map D.int))), none, none] S = _
  obtain ⟨x2, h⟩ := size_loop (ms.map D.int) (some (.d (sq b (ms.map D.int)))) S ms 1 0 none (by decide) (by decide) (by have := s.l2; omega) s.r
  unfold y_count_cells
  rw [st_SeqN (st_Set (a := .d (.int 1)) (S' := S) rfl)]
  rw [st_SeqN (by
    rw [st_For (ds := ms.map D.int) (kk := none) (S' := S) (at_ret (it_sq (b := b) rfl) S)]
    exact h)]
  exact st_Ret rfl
theorem v_shapeS (b : Bool) {ms : List Int} (s : Snd ms) : m_is_shape [.d (sq b (ms.map D.int))] = ret (.d (.bl true)) := by
  refine fn_B rfl fun S => ?_
  show y_is_shape [some (.d (sq b (ms.map D.int))), none] S = _
  have hl : (ms.map D.int).length = ms.length := List.length_map _
  unfold y_is_shape
  have t1 : (tyOr (tyNot (eTst (eCall asPure m_is_list [] (aCons (eVar 0) aNil)))) (tyNot (eTst (eCh oLe oLe (eC (.int 1)) (eArg bLen (aCons (eVar 0) aNil)) (eC (.int 3)))))) [some (.d (sq b (ms.map D.int))), none] = ret false := by
    have h1 : (1 : Int) ≤ ms.length := by have := s.l1; omega
    have h2 : (ms.length : Int) ≤ 3 := by have := s.l2; omega
    simp only [ev_tyOr, ev_tyNot, ev_Tst, ev_Call, ev_Ch, ev_Arg, ev_Cons, ev_Nil, ev_C, eVar, List.getElem?_cons_zero, bnd_ret', List.append_nil, list_sq, asB_b, Bool.not_true, len_sq, hl, oLe_i, if_neg Bool.false_ne_true, decide_eq_true h1, if_true, decide_eq_true h2]
  rw [st_SeqN (env' := [some (.d (sq b (ms.map D.int))), none]) (S' := S) (by rw [sIf_pick t1]; rfl)]
  have lc : (eLc [1] (.one 1) (iOf (eVar 0)) tYesD (eAnd (eCall asPure m_is_whole [] (aCons (eVar 1) aNil)) (eCh oLe oLe (eC (.int 1)) (eVar 1) (eC (.int 4))))) [some (.d (sq b (ms.map D.int))), none] = ret (.d (.lst ((ms.map D.int).map fun d => D.bl (inR d)))) :=
    lc_all (ds := ms.map D.int) (fun d => .bl (inR d)) (it_sq (b := b) rfl) (fun d hd => ⟨[some (.d (sq b (ms.map D.int))), some (.d d)], rfl, in_ev d (by obtain ⟨m, _, rfl⟩ := List.mem_map.mp hd; rfl) _ 1 rfl⟩) (by rw [hl]; have := s.l2; omega)
  have t2 : (tyNot (eTst (eArg bAll (aCons (eLc [1] (.one 1) (iOf (eVar 0)) tYesD (eAnd (eCall asPure m_is_whole [] (aCons (eVar 1) aNil)) (eCh oLe oLe (eC (.int 1)) (eVar 1) (eC (.int 4))))) aNil)))) [some (.d (sq b (ms.map D.int))), none] = ret false := by
    simp only [ev_tyNot, ev_Tst, ev_Arg, ev_Cons, ev_Nil, lc, bnd_ret', bAll_map, asB_b, (inR_all ms).mpr s.r, Bool.not_true]
  rw [st_SeqN (env' := [some (.d (sq b (ms.map D.int))), none]) (S' := S) (by rw [sIf_pick t2]; rfl)]
  have c2 := call_pure (m := m_count_cells) (as := [.d (sq b (ms.map D.int))]) rfl (v_countS b s)
  refine st_Ret ?_
  simp only [ev_Op, ev_Call, ev_Cons, ev_Nil, ev_C, eVar, List.getElem?_cons_zero, bnd_ret', List.append_nil, c2, oLe_i, decide_eq_true s.p]
  rfl
theorem whole_ints (r : List Int) : (r.map D.int).all whole = true := by
  rw [List.all_eq_true]
  intro d hd
  obtain ⟨i, _, rfl⟩ := List.mem_map.mp hd
  rfl
theorem calC_ins {n : Nat} {c : Str} {fs : List Str} {l : List D} (h : l.any isOwn = false) : CalC n [.ins c fs l] := ⟨fun j hj => by simp at hj, fun c' fs' l' e j hj => by
  cases e
  have : l.any isOwn = true := List.any_eq_true.mpr ⟨_, hj, rfl⟩
  rw [this] at h
  cases h⟩
theorem cal_last {S : Store} {x y : List D} (h : CalC (S.length + 1) y) : Cal (S ++ [x]) (S ++ [y]) := fun k ds hk e => by
  rw [List.length_append, List.length_singleton] at hk ⊢
  by_cases q : k < S.length
  · left; rw [List.getElem?_append_left q] at e ⊢; exact e
  · right
    rw [List.getElem?_append_right (by omega), show k - S.length = 0 by omega] at e
    cases e
    exact h
end Lw
namespace Lw
open PySem L2 DL
def Sm (k : Nat) (x : Int) : Prop := x.natAbs < 2 ^ k
theorem Sm.log {k : Nat} {x : Int} (h : Sm k x) (hk : 0 < k) : x.natAbs.log2 < k := log2_lt h hk
theorem Sm.mono {j k : Nat} {x : Int} (h : Sm j x) (hk : j ≤ k) : Sm k x := Nat.lt_of_lt_of_le h (Nat.pow_le_pow_right (by decide) hk)
theorem Sm.mul {j k : Nat} {x y : Int} (h : Sm j x) (h2 : Sm k y) : Sm (j + k) (x * y) := wide_lt h h2
theorem Sm.add {k : Nat} {x y : Int} (h : Sm k x) (h2 : Sm k y) : Sm (k + 1) (x + y) := by
  unfold Sm at *
  rw [Nat.pow_succ]
  have := Int.natAbs_add_le x y
  omega
theorem Sm.neg {k : Nat} {x : Int} (h : Sm k x) : Sm k (-x) := by unfold Sm at *; rw [Int.natAbs_neg]; exact h
theorem Sm.sub {k : Nat} {x y : Int} (h : Sm k x) (h2 : Sm k y) : Sm (k + 1) (x - y) := by
  rw [Int.sub_eq_add_neg]; exact h.add h2.neg
theorem Sm.le {k : Nat} {x y : Int} (h : Sm k x) (h2 : y.natAbs ≤ x.natAbs) : Sm k y := Nat.lt_of_le_of_lt h2 h
abbrev wT : DL.Env → M Bool := eTst (eOp oNe (eVar 4) (eC (.int 0)))
abbrev wB : SM := sPar 3 4 (aCons (eVar 4) (aCons (eOp oMod (eArg bInt (aCons (eVar 3) aNil)) (eVar 4)) aNil))
theorem gw_step (e0 e1 e2 : Option SV) (a b : Nat) (hb : b ≠ 0) (n : Nat) (S : Store) : whL wT wB (n + 1) [e0, e1, e2, some (.d (.int a)), some (.d (.int b))] S = whL wT wB n [e0, e1, e2, some (.d (.int b)), some (.d (.int ((a % b : Nat) : Int)))] S := by
  have hb' : (b : Int) ≠ 0 := by omega
  refine wh_t (S1 := S) (by simp [eVar, hb]) ?_
  show sPar 3 4 _ _ _ = _
  rw [st_Par (x := .d (.int b)) (y := .d (.int ((a % b : Nat) : Int))) (S1 := S) (by
    simp only [ev_Op, ev_Arg, ev_Cons, ev_Nil, eVar, List.getElem?_cons_zero, List.getElem?_cons_succ, bnd_ret', bInt_i]
    rw [oMod_i hb', Int.fmod_eq_emod_of_nonneg _ (by omega)]
    rfl)]
  rfl
theorem gw_stop (e0 e1 e2 : Option SV) (a : Nat) (n : Nat) (S : Store) : whL wT wB (n + 1) [e0, e1, e2, some (.d (.int a)), some (.d (.int 0))] S = some (.nx [e0, e1, e2, some (.d (.int a)), some (.d (.int 0))], S) := wh_f (by simp [eVar])
theorem half_lt {a b : Nat} (hb : 0 < b) (hr : 0 < a % b) : b % (a % b) < b / 2 + 1 ∧ 2 * (b % (a % b)) < b := by
  have h1 : a % b < b := Nat.mod_lt _ hb
  generalize a % b = r at hr h1
  have h2 : b % r < r := Nat.mod_lt _ hr
  have h3 := Nat.div_add_mod b r
  have h4 : 1 ≤ b / r := Nat.div_pos (by omega) hr
  have h5 : r ≤ r * (b / r) := Nat.le_mul_of_pos_right _ h4
  omega
theorem gw_loop (e0 e1 e2 : Option SV) (S : Store) : ∀ (k a b n : Nat), b < 2 ^ k → 2 * k + 1 ≤ n → whL wT wB n [e0, e1, e2, some (.d (.int a)), some (.d (.int b))] S = some (.nx [e0, e1, e2, some (.d (.int (Nat.gcd a b))), some (.d (.int 0))], S)
  | 0, a, b, n, hb, hn => by
    have : b = 0 := by simpa using hb
    subst this
    obtain ⟨m, rfl⟩ : ∃ m, n = m + 1 := ⟨n - 1, by omega⟩
    rw [Nat.gcd_zero_right]
    exact gw_stop e0 e1 e2 a m S
  | k + 1, a, b, n, hb, hn => by
    obtain ⟨m, rfl⟩ : ∃ m, n = m + 1 := ⟨n - 1, by omega⟩
    by_cases h0 : b = 0
    · subst h0
      rw [Nat.gcd_zero_right]
      exact gw_stop e0 e1 e2 a m S
    · rw [gw_step e0 e1 e2 a b h0]
      obtain ⟨j, rfl⟩ : ∃ j, m = j + 1 := ⟨m - 1, by omega⟩
      have hg : Nat.gcd a b = Nat.gcd b (a % b) := by rw [Nat.gcd_comm a b, Nat.gcd_rec b a, Nat.gcd_comm]
      rw [hg]
      by_cases h1 : a % b = 0
      · rw [h1, Nat.gcd_zero_right]
        exact gw_stop e0 e1 e2 b j S
      · rw [gw_step e0 e1 e2 b (a % b) h1]
        have hg2 : Nat.gcd b (a % b) = Nat.gcd (a % b) (b % (a % b)) := by rw [Nat.gcd_comm b, Nat.gcd_rec (a % b) b, Nat.gcd_comm]
        rw [hg2]
        have := (half_lt (a := a) (b := b) (by omega) (by omega)).2
        rw [Nat.pow_succ] at hb
        exact gw_loop e0 e1 e2 S k _ _ j (by omega) (by omega)
def gFold (f : Nat) (ns : List Int) : Nat := ns.foldl (fun f n => Nat.gcd n.natAbs f) f
def lowI (ns : List Int) : List Int := if gFold 0 ns = 0 then ns else ns.map fun n => n.fdiv (gFold 0 ns : Int)
theorem gFold_sm : ∀ (ns : List Int) (f : Nat), f < 2 ^ 4000 → (∀ n ∈ ns, Sm 4000 n) → gFold f ns < 2 ^ 4000
  | [], f, hf, _ => hf
  | n :: ns, f, hf, hn => by
    refine gFold_sm ns _ ?_ (fun m hm => hn m (List.mem_cons_of_mem _ hm))
    have hn0 : Sm 4000 n := hn n List.mem_cons_self
    show Nat.gcd n.natAbs f < 2 ^ 4000
    by_cases h : n.natAbs = 0
    · rw [h, Nat.gcd_zero_left]; exact hf
    · exact Nat.lt_of_le_of_lt (Nat.gcd_le_left _ (by omega)) hn0
theorem gl_loop (all : List D) (e0 : Option SV) (S : Store) : ∀ (ns : List Int) (f : Nat) (e2 : Option SV), ∃ x2,
    forL (.one 2) none all (sSet 1 (eArg bGcd (aCons (eVar 1) (aCons (eVar 2) aNil)))) (ns.map D.int) [e0, some (.d (.int f)), e2] S = some (.nx [e0, some (.d (.int (gFold f ns))), x2], S)
  | [], f, e2 => ⟨e2, for_nil⟩
  | n :: ns, f, e2 => by
    obtain ⟨x2, ih⟩ := gl_loop all e0 S ns (Nat.gcd n.natAbs f) (some (.d (.int n)))
    refine ⟨x2, ?_⟩
    rw [List.map_cons, for_nx (kk := none) (all := all) (env2 := [e0, some (.d (.int (Nat.gcd n.natAbs f))), some (.d (.int n))]) (S2 := S) rfl ?_ (show keepOk none all S from trivial)]
    · exact ih
    · rw [st_Set (a := .d (.int (Nat.gcd n.natAbs f))) (S' := S) (by
        simp only [ev_Arg, ev_Cons, ev_Nil, eVar, List.set_cons_succ, List.set_cons_zero, List.getElem?_cons_zero, List.getElem?_cons_succ, bnd_ret', bGcd_i, Int.natAbs_natCast]
        rw [Nat.gcd_comm]
        rfl)]
      rfl
/-- the division of each -/
theorem glow_lc (x : SV) (g : Int) (hg : g ≠ 0) (hl : g.natAbs.log2 < 9000) (ns : List Int) (hn : ns.length ≤ 100000) (e2 : Option SV) (S : Store) (hx : walkD x = ret (ns.map D.int, none)) :
    eLcOwn [2] (.one 2) (iOf (eVar 0)) tYesD (eOp oFdiv (eVar 2) (eVar 1)) [some x, some (.d (.int g)), e2] S = some (.ok (.ptr S.length), S ++ [(ns.map fun n => n.fdiv g).map D.int]) := by
  rw [lc_pureO (ds := ns.map D.int) (S1 := S) (fun d => .int (match d with
    | .int n => n.fdiv g
    | _ => 0)) (by
      show (iOf (eVar 0)) _ _ = _
      simp only [ev_iOf, eVar, List.getElem?_cons_zero, bnd_ret', hx]
      rfl) (fun d hd => by
      obtain ⟨n, _, rfl⟩ := List.mem_map.mp hd
      refine ⟨[some x, some (.d (.int g)), some (.d (.int n))], rfl, rfl, ?_⟩
      simp only [ev_Op, eVar, List.getElem?_cons_zero, List.getElem?_cons_succ, bnd_ret']
      exact oFdiv_i hg hl) (by rw [List.length_map]; omega)]
  rw [List.map_map, List.map_map]
  rfl
theorem v_lowest (x : SV) (ns : List Int) (hn : ns.length ≤ 100000) (hs : ∀ n ∈ ns, Sm 4000 n) (hx : walkD x = ret (ns.map D.int, none)) (hb : ∀ S : Store, bListOwn [x] S = some (.ok (.ptr S.length), S ++ [ns.map D.int])) (S : Store) :
    m_lowest [x] S = some (.ok (.fresh ((lowI ns).map D.int)), S) := by
  have hg := gFold_sm ns 0 (Nat.two_pow_pos _) hs
  have body : y_lowest [some x, none, none] S = some (.rt (.ptr S.length), S ++ [(lowI ns).map D.int]) := by
    unfold y_lowest
    rw [st_SeqN (st_Set (a := .d (.int 0)) (S' := S) rfl)]
    obtain ⟨x2, h2⟩ := gl_loop (ns.map D.int) (some x) S ns 0 none
    rw [st_SeqN (by
      rw [st_For (ds := ns.map D.int) (kk := none) (S' := S) (by
        show (iOf (eVar 0)) [some x, some (.d (.int 0)), none] S = _
        simp only [ev_iOf, eVar, List.getElem?_cons_zero, bnd_ret', hx]
        rfl)]
      exact h2)]
    unfold lowI
    by_cases h0 : gFold 0 ns = 0
    · rw [if_pos h0]
      refine st_SeqR ?_
      rw [st_IfT (S' := S) (by simp [eVar, h0])]
      refine st_Ret ?_
      simp only [ev_Arg, ev_Cons, ev_Nil, eVar, List.getElem?_cons_zero, bnd_ret']
      exact hb S
    · rw [if_neg h0]
      rw [st_SeqN (env' := [some x, some (.d (.int (gFold 0 ns))), x2]) (S' := S) (by
        rw [st_IfF (S' := S) (by simp [eVar, h0])]
        rfl)]
      refine st_Ret ?_
      exact glow_lc x (gFold 0 ns) (by omega) (Nat.lt_of_lt_of_le (log2_lt (k := 4000) (by rw [Int.natAbs_natCast]; exact hg) (by decide)) (by decide)) ns hn x2 S hx
  refine (fn_retP (np := 1) (n := 3) (body := y_lowest) (as := [x]) (k := S.length) (x := (lowI ns).map D.int) (S1 := S ++ [(lowI ns).map D.int]) rfl body (Nat.le_refl _) (by simp)).trans ?_
  simp
end Lw
namespace Lw
open PySem L2 DL
section
variable {α : Type} {env : DL.Env} {S : Store}
theorem lcA_loop {t : Tg} {cond : DL.Env → M Bool} {fe : DL.Env → M SV} {all : List D} {k : Nat} (mk : α → D) (p : α → Bool) (h : α → D) {S0 : Store} (hk : k = S0.length) : ∀ (ds : List α) (acc : List D),
    (∀ d ∈ ds, ∃ env1, setT t (mk d) env = some env1 ∧ cond env1 = ret (p d) ∧ (p d = true → fe env1 = ret (.d (h d)))) → acc.length + ds.length ≤ 16777216 → lcL t none all cond fe k env (ds.map mk) (S0 ++ [acc]) = some (S0 ++ [acc ++ (ds.filter p).map h])
  | [], acc, _, _ => by rw [List.map_nil]; unfold lcL; simp
  | d :: ds, acc, hd, hl => by
    obtain ⟨env1, h1, h2, h3⟩ := hd d List.mem_cons_self
    rw [List.map_cons]
    unfold lcL
    rw [h1]; dsimp only; rw [h2]; dsimp only [DL.ret]
    cases hp : p d with
    | true =>
      rw [h3 hp]; dsimp only [DL.ret]
      have hg : (S0 ++ [acc])[k]? = some acc := by rw [hk]; simp
      have hlt : acc.length < lim := by simp only [List.length_cons] at hl; simp only [lim]; omega
      unfold lcNext
      rw [hg]; dsimp only; rw [if_pos hlt]; dsimp only
      rw [if_pos (show keepOk none all _ from trivial)]
      have hs : (S0 ++ [acc]).set k (acc ++ [h d]) = S0 ++ [acc ++ [h d]] := by rw [hk]; simp
      rw [hs, lcA_loop mk p h hk ds (acc ++ [h d]) (fun x hx => hd x (List.mem_cons_of_mem _ hx)) (by simp only [List.length_append, List.length_cons, List.length_nil] at hl ⊢; omega)]
      simp [hp]
    | false =>
      dsimp only
      rw [if_pos (show keepOk none all _ from trivial)]
      rw [lcA_loop mk p h hk ds acc (fun x hx => hd x (List.mem_cons_of_mem _ hx)) (by simp only [List.length_cons] at hl; omega)]
      simp [hp]
theorem lcA_ret {ws : List Nat} {t : Tg} {f : DL.Env → M (List D × KK)} {cond : DL.Env → M Bool} {fe : DL.Env → M SV} {ds : List α} (mk : α → D) (p : α → Bool) (h : α → D) (hf : f env = ret (ds.map mk, none))
    (hd : ∀ d ∈ ds, ∃ env1, setT t (mk d) (wipeE env ws) = some env1 ∧ cond env1 = ret (p d) ∧ (p d = true → fe env1 = ret (.d (h d)))) (hl : ds.length ≤ 16777216) (hcl : ∀ d, isOwn (h d) = false := by intro _; rfl) : eLc ws t f cond fe env = ret (.d (.lst ((ds.filter p).map h))) := by
  funext S
  unfold eLc
  rw [bnd_at (show f env S = some (.ok (ds.map mk, none), S) by rw [hf]; rfl)]
  dsimp only
  rw [lcA_loop mk p h rfl ds [] hd (by simpa using hl)]
  simp [DL.ret, List.getElem?_append_right, cal_app, clsd_map hcl]
theorem lcA_retO {ws : List Nat} {t : Tg} {f : DL.Env → M (List D × KK)} {cond : DL.Env → M Bool} {fe : DL.Env → M SV} {ds : List α} (mk : α → D) (p : α → Bool) (h : α → D) (hf : f env = ret (ds.map mk, none))
    (hd : ∀ d ∈ ds, ∃ env1, setT t (mk d) (wipeE env ws) = some env1 ∧ cond env1 = ret (p d) ∧ (p d = true → fe env1 = ret (.d (h d)))) (hl : ds.length ≤ 16777216) (hcl : ∀ d, isOwn (h d) = false := by intro _; rfl) : eLcOwn ws t f cond fe env S = some (.ok (.ptr S.length), S ++ [(ds.filter p).map h]) := by
  unfold eLcOwn
  rw [bnd_at (show f env S = some (.ok (ds.map mk, none), S) by rw [hf]; rfl)]
  dsimp only
  rw [lcA_loop mk p h rfl ds [] hd (by simpa using hl)]
  simp [cal_app, clsd_map hcl]
theorem lcA_all {ws : List Nat} {t : Tg} {f : DL.Env → M (List D × KK)} {fe : DL.Env → M SV} {ds : List α} (mk : α → D) (h : α → D) (hf : f env = ret (ds.map mk, none))
    (hd : ∀ d ∈ ds, ∃ env1, setT t (mk d) (wipeE env ws) = some env1 ∧ fe env1 = ret (.d (h d))) (hl : ds.length ≤ 16777216) (hcl : ∀ d, isOwn (h d) = false := by intro _; rfl) : eLc ws t f tYesD fe env = ret (.d (.lst (ds.map h))) := by
  rw [lcA_ret mk (fun _ => true) h hf (fun d hm => by obtain ⟨e1, a, b⟩ := hd d hm; exact ⟨e1, a, rfl, fun _ => b⟩) hl hcl, List.filter_eq_self.mpr (fun _ _ => rfl)]
theorem lcA_allO {ws : List Nat} {t : Tg} {f : DL.Env → M (List D × KK)} {fe : DL.Env → M SV} {ds : List α} (mk : α → D) (h : α → D) (hf : f env = ret (ds.map mk, none))
    (hd : ∀ d ∈ ds, ∃ env1, setT t (mk d) (wipeE env ws) = some env1 ∧ fe env1 = ret (.d (h d))) (hl : ds.length ≤ 16777216) (hcl : ∀ d, isOwn (h d) = false := by intro _; rfl) : eLcOwn ws t f tYesD fe env S = some (.ok (.ptr S.length), S ++ [ds.map h]) := by
  rw [lcA_retO mk (fun _ => true) h hf (fun d hm => by obtain ⟨e1, a, b⟩ := hd d hm; exact ⟨e1, a, rfl, fun _ => b⟩) hl hcl, List.filter_eq_self.mpr (fun _ _ => rfl)]
end
theorem pair_map {α β : Type} (f : α → D) (g : β → D) : ∀ (r : List α) (q : List β), pairD (r.map f) (q.map g) = (r.zip q).map fun p => .tup [f p.1, g p.2]
  | [], q => by simp [pairD]
  | a :: r, [] => by simp [pairD]
  | a :: r, b :: q => by simp [pairD, pair_map f g r q]
theorem enum_map {α : Type} (f : α → D) : ∀ (l : List α) (i : Nat), enumD i (l.map f) = (l.zipIdx i).map fun p => .tup [.int (p.2 : Nat), f p.1]
  | [], i => by simp [enumD]
  | a :: l, i => by simp [enumD, enum_map f l (i + 1), List.zipIdx_cons]
theorem range_map (n : Nat) : rangeD 0 n = (List.range n).map fun i => D.int (i : Nat) := by
  unfold rangeD
  refine List.map_congr_left fun i _ => ?_
  rw [Int.zero_add]
end Lw
namespace Lw
open PySem L2 DL
def r4 : List Int := [1, 2, 3, 4]
def allShapes : List (List Int) := (r4.map fun a => [a]) ++ ((r4.flatMap fun a => r4.map fun b => [a, b]) ++ (r4.flatMap fun a => r4.flatMap fun b => r4.map fun c => [a, b, c]))
theorem in_r4 {a : Int} (h : 1 ≤ a ∧ a ≤ 4) : a ∈ r4 := by
  have : a = 1 ∨ a = 2 ∨ a = 3 ∨ a = 4 := by omega
  rcases this with h | h | h | h <;> subst h <;> decide
theorem Snd.mem {ms : List Int} (s : Snd ms) : ms ∈ allShapes := by
  have hl1 := s.l1
  have hl2 := s.l2
  have hr := s.r
  unfold allShapes
  match ms, hl1, hl2, hr with
  | [a], _, _, hr => exact List.mem_append_left _ (List.mem_map.mpr ⟨a, in_r4 (hr a (by simp)), rfl⟩)
  | [a, b], _, _, hr => exact List.mem_append_right _ (List.mem_append_left _ (List.mem_flatMap.mpr ⟨a, in_r4 (hr a (by simp)), List.mem_map.mpr ⟨b, in_r4 (hr b (by simp)), rfl⟩⟩))
  | [a, b, c], _, _, hr => exact List.mem_append_right _ (List.mem_append_right _ (List.mem_flatMap.mpr ⟨a, in_r4 (hr a (by simp)), List.mem_flatMap.mpr ⟨b, in_r4 (hr b (by simp)), List.mem_map.mpr ⟨c, in_r4 (hr c (by simp)), rfl⟩⟩⟩))
  | [], h, _, _ => exact absurd h (by decide)
  | _ :: _ :: _ :: _ :: _, _, h, _ => simp only [List.length_cons] at h; omega
def plI (f : Int) : List Int → List Int → Int
  | m :: ms, c :: cs => plI (f * m + c) ms cs
  | _, _ => f
def inCell (ms c : List Int) : Bool := decide (c.length = ms.length) && (List.range ms.length).all fun p => decide (0 ≤ c.getD p 0) && decide (c.getD p 0 < ms.getD p 0)
def shFact (ms : List Int) : Bool := decide (((cellsOf ms).length : Int) = prodI 1 ms) && (List.range (cellsOf ms).length).all fun k => decide (plI 0 ms ((cellsOf ms).getD k []) = (k : Int)) && inCell ms ((cellsOf ms).getD k [])
theorem shFacts : allShapes.all shFact = true := by decide +kernel
theorem cells_len {ms : List Int} (s : Snd ms) : ((cellsOf ms).length : Int) = prodI 1 ms := by
  have := List.all_eq_true.mp shFacts ms s.mem
  unfold shFact at this
  rw [Bool.and_eq_true] at this
  exact of_decide_eq_true this.1
theorem cell_at {ms : List Int} (s : Snd ms) {k : Nat} {c : List Int} (h : (cellsOf ms)[k]? = some c) : plI 0 ms c = (k : Int) ∧ c.length = ms.length ∧ ∀ p, p < ms.length → 0 ≤ c.getD p 0 ∧ c.getD p 0 < ms.getD p 0 := by
  have := List.all_eq_true.mp shFacts ms s.mem
  unfold shFact at this
  rw [Bool.and_eq_true] at this
  have hk : k < (cellsOf ms).length := (List.getElem?_eq_some_iff.mp h).1
  have q := List.all_eq_true.mp this.2 k (List.mem_range.mpr hk)
  have e : (cellsOf ms).getD k [] = c := by rw [List.getD_eq_getElem?_getD, h]; rfl
  rw [e, Bool.and_eq_true] at q
  have q2 := q.2
  unfold inCell at q2
  rw [Bool.and_eq_true] at q2
  refine ⟨of_decide_eq_true q.1, of_decide_eq_true q2.1, fun p hp => ?_⟩
  have := List.all_eq_true.mp q2.2 p (List.mem_range.mpr hp)
  rw [Bool.and_eq_true] at this
  exact ⟨of_decide_eq_true this.1, of_decide_eq_true this.2⟩
theorem cell_mem {ms : List Int} (s : Snd ms) {c : List Int} (h : c ∈ cellsOf ms) : c.length = ms.length ∧ ∀ p, p < ms.length → 0 ≤ c.getD p 0 ∧ c.getD p 0 < ms.getD p 0 := by
  obtain ⟨k, hk, rfl⟩ := List.mem_iff_getElem.mp h
  exact (cell_at s (List.getElem?_eq_getElem hk)).2
structure Wts (ms ws : List Int) : Prop where
  s : Snd ms
  n : (ws.length : Int) = prodI 1 ms
  nn : ∀ w ∈ ws, 0 ≤ w
  le : ∀ w ∈ ws, w ≤ 1000000000000000000000000000000
  pos : 0 < ws.sum
theorem Wts.len {ms ws : List Int} (h : Wts ms ws) : ws.length ≤ 16 ∧ ws.length = (cellsOf ms).length := by
  have := h.n; have := cells_len h.s; have := h.s.p
  omega
theorem sum_bd : ∀ {l : List Int}, (∀ w ∈ l, 0 ≤ w) → (∀ w ∈ l, w ≤ 1000000000000000000000000000000) → 0 ≤ l.sum ∧ l.sum ≤ 1000000000000000000000000000000 * l.length
  | [], _, _ => ⟨by simp, by simp⟩
  | a :: l, h, h' => by
    have ih := sum_bd (l := l) (fun w hw => h w (List.mem_cons_of_mem _ hw)) (fun w hw => h' w (List.mem_cons_of_mem _ hw))
    have h1 := h a List.mem_cons_self
    have h2 := h' a List.mem_cons_self
    rw [List.sum_cons, List.length_cons]
    omega
theorem sm_of {x : Int} (h : 0 ≤ x) (h2 : x ≤ 1000000000000000000000000000000000) : Sm 4000 x := by
  have : Sm 112 x := by
    show x.natAbs < 2 ^ 112
    have : (2 : Nat) ^ 64 = 18446744073709551616 := by decide
    omega
  exact this.mono (by decide)
theorem Wts.sum {ms ws : List Int} (h : Wts ms ws) : ws.sum ≤ 16000000000000000000000000000000 := by
  have := (sum_bd h.nn h.le).2
  have := h.len
  omega
theorem pos_mem : ∀ {l : List Int}, 0 < l.sum → ∃ n ∈ l, 0 < n
  | [], h => by simp at h
  | a :: l, h => by
    by_cases ha : 0 < a
    · exact ⟨a, List.mem_cons_self, ha⟩
    · rw [List.sum_cons] at h
      obtain ⟨n, hn, q⟩ := pos_mem (l := l) (by omega)
      exact ⟨n, List.mem_cons_of_mem _ hn, q⟩
end Lw
namespace Lw
open PySem L2 DL
def hintD (ms ws : List Int) : D := .ins "Hint" ["shape", "_weights", "unit"] [.tup (ms.map D.int), .lst (ws.map D.int), .int ws.sum]
theorem v_isw {ms ws : List Int} (h : Wts ms ws) : m_is_weights [.d (.lst (ws.map D.int)), .d (.int (prodI 1 ms))] = ret (.d (.bl true)) := by
  have hl : (ws.map D.int).length ≤ 1000 := by rw [List.length_map]; have := h.len; omega
  have row : callM asPure m_is_row [.d (.lst (ws.map D.int)), .d (.int (prodI 1 ms))] = ret (.d (.bl true)) := by
    rw [call_pure rfl (v_row _ (fun d hd => by obtain ⟨i, _, rfl⟩ := List.mem_map.mp hd; rfl) hl _), whole_ints, Bool.and_true, decide_eq_true (by rw [List.length_map]; exact h.n)]
  refine fn_B rfl fun S => ?_
  let E : DL.Env := [some (.d (.lst (ws.map D.int))), some (.d (.int (prodI 1 ms))), none]
  show y_is_weights E S = _
  unfold y_is_weights
  have t : (tyNot (eTst (eCall asPure m_is_row [] (aCons (eVar 0) (aCons (eVar 1) aNil))))) E = ret false := by
    simp only [ev_tyNot, ev_Tst, ev_CallR (env := E) (fa := aCons (eVar 0) (aCons (eVar 1) aNil)) (cv := asPure) rfl row, bnd_ret', asB_b, Bool.not_true]
  rw [st_SeqN (env' := E) (S' := S) (by rw [sIf_pick t]; rfl)]
  refine st_Ret ?_
  have a1 : (eLc [2] (.one 2) (iOf (eVar 0)) tYesD (eOp oGe (eVar 2) (eC (.int 0)))) E = ret (.d (.lst (ws.map fun x => D.bl (decide (0 ≤ x))))) :=
    lcA_all D.int (fun x => .bl (decide (0 ≤ x))) rfl (fun x _ => ⟨[some (.d (.lst (ws.map D.int))), some (.d (.int (prodI 1 ms))), some (.d (.int x))], rfl, rfl⟩) (by have := h.len; omega)
  have a2 : (eLc [2] (.one 2) (iOf (eVar 0)) tYesD (eOp oGt (eVar 2) (eC (.int 0)))) E = ret (.d (.lst (ws.map fun x => D.bl (decide (0 < x))))) :=
    lcA_all D.int (fun x => .bl (decide (0 < x))) rfl (fun x _ => ⟨[some (.d (.lst (ws.map D.int))), some (.d (.int (prodI 1 ms))), some (.d (.int x))], rfl, rfl⟩) (by have := h.len; omega)
  have b1 : ws.all (fun x => decide (0 ≤ x)) = true := List.all_eq_true.mpr fun x hx => decide_eq_true (h.nn x hx)
  have b2 : ws.any (fun x => decide (0 < x)) = true := List.any_eq_true.mpr (by obtain ⟨n, hn, q⟩ := pos_mem h.pos; exact ⟨n, hn, decide_eq_true q⟩)
  simp only [ev_And, ev_Arg, ev_Cons, ev_Nil, a1, a2, bnd_ret', bAll_map, bAny_map, asB_b, b1, b2, if_true]
  rfl
theorem c_low {ms ws : List Int} (h : Wts ms ws) : callM asPure m_lowest [.d (.lst (ws.map D.int))] = ret (.d (.lst ((lowI ws).map D.int))) :=
  call_fr rfl fun S => v_lowest _ ws (by have := h.len; omega) (fun n hn => sm_of (h.nn n hn) (by have := h.le n hn; omega)) rfl (fun _ => rfl) S
theorem v_hint {ms ws : List Int} (h : Wts ms ws) (S : Store) : mkM "Hint" m_Hint___init__ [.d (.tup (ms.map D.int)), .d (.lst (ws.map D.int))] S = some (.ok (.d (hintD ms (lowI ws))), S) := by
  have sh : callM asPure m_is_shape [.d (.tup (ms.map D.int))] = ret (.d (.bl true)) := call_pure rfl (v_shapeS true h.s)
  have c1 : callM asPure m_count_cells [.d (.tup (ms.map D.int))] = ret (.d (.int (prodI 1 ms))) := call_pure rfl (v_countS true h.s)
  have w1 : callM asPure m_is_weights [.d (.lst (ws.map D.int)), .d (.int (prodI 1 ms))] = ret (.d (.bl true)) := call_pure rfl (v_isw h)
  let E : DL.Env := [some (.obj S.length), some (.d (.tup (ms.map D.int))), some (.d (.lst (ws.map D.int)))]
  have t1 : (tyNot (eTst (eCall asPure m_is_shape [] (aCons (eVar 1) aNil)))) E = ret false := by
    simp only [ev_tyNot, ev_Tst, ev_CallR (env := E) (fa := aCons (eVar 1) aNil) (cv := asPure) rfl sh, bnd_ret', asB_b, Bool.not_true]
  have t2 : (tyNot (eTst (eCall asPure m_is_weights [] (aCons (eVar 2) (aCons (eCall asPure m_count_cells [] (aCons (eVar 1) aNil)) aNil))))) E = ret false := by
    have c2 : (eCall asPure m_count_cells [] (aCons (eVar 1) aNil)) E = ret (.d (.int (prodI 1 ms))) := ev_CallR rfl c1
    have c3 : (eCall asPure m_is_weights [] (aCons (eVar 2) (aCons (eCall asPure m_count_cells [] (aCons (eVar 1) aNil)) aNil))) E = ret (.d (.bl true)) := ev_CallR (by simp only [ev_Cons, ev_Nil, c2, bnd_ret']; rfl) w1
    simp only [ev_tyNot, ev_Tst, c3, bnd_ret', asB_b, Bool.not_true]
  have set : ∀ {fld : Str} {fe : DL.Env → M SV} {x : D} {fs fs' : List Str} {l l' : List D}, fe E (S ++ [[D.ins "Hint" fs l]]) = some (.ok (.d x), S ++ [[D.ins "Hint" fs l]]) → okF "Hint" fld = true → fs.length < 1000 → (putD fld x fs l).1 = fs' → (putD fld x fs l).2 = l' →
      sSetF okF fld (eVar 0) fe E (S ++ [[D.ins "Hint" fs l]]) = some (.nx E, S ++ [[D.ins "Hint" fs' l']]) := fun {fld fe x fs fs' l l'} h1 h2 h3 h4 h5 => by
    rw [st_SetF (x := x) (k := S.length) (c := "Hint") (fs := fs) (l := l) (S1 := S ++ [[D.ins "Hint" fs l]]) (S2 := S ++ [[D.ins "Hint" fs l]]) h1 rfl (by simp) ⟨h2, h3⟩, h4, h5]
    simp
  have key : m_Hint___init__ [.obj S.length, .d (.tup (ms.map D.int)), .d (.lst (ws.map D.int))] (S ++ [[D.ins "Hint" [] []]]) = some (.ok (.d .non), (S ++ [[hintD ms (lowI ws)]]).take (S ++ [[D.ins "Hint" [] []]]).length) := by
    refine fn_non (env1 := E) rfl ?_ (cal_last (calC_ins rfl))
    show y_Hint___init__ E _ = _
    unfold y_Hint___init__
    rw [st_SeqN (env' := E) (S' := S ++ [[D.ins "Hint" [] []]]) (by rw [sIf_pick t1]; rfl)]
    rw [st_SeqN (env' := E) (S' := S ++ [[D.ins "Hint" [] []]]) (by rw [sIf_pick t2]; rfl)]
    rw [st_SeqN (set (x := .tup (ms.map D.int)) (fs' := ["shape"]) (l' := [.tup (ms.map D.int)]) rfl (by decide) (by decide) rfl rfl)]
    rw [st_SeqN (set (x := .lst ((lowI ws).map D.int)) (fs' := ["shape", "_weights"]) (l' := [.tup (ms.map D.int), .lst ((lowI ws).map D.int)]) (at_ret (ev_CallR rfl (c_low h)) _) (by decide) (by decide) rfl rfl)]
    refine set (x := .int (lowI ws).sum) ?_ (by decide) (by decide) rfl rfl
    have e1 : (aCons (eUn (oFld okF "_weights") (eVar 0)) aNil) E (S ++ [[D.ins "Hint" ["shape", "_weights"] [.tup (ms.map D.int), .lst ((lowI ws).map D.int)]]]) = some (.ok [.d (.lst ((lowI ws).map D.int))], S ++ [[D.ins "Hint" ["shape", "_weights"] [.tup (ms.map D.int), .lst ((lowI ws).map D.int)]]]) := by
      have e0 : insOf (S ++ [[D.ins "Hint" ["shape", "_weights"] [.tup (ms.map D.int), .lst ((lowI ws).map D.int)]]]) (.obj S.length) = some (("Hint" : Str), (["shape", "_weights"] : List Str), ([D.tup (ms.map D.int), D.lst ((lowI ws).map D.int)] : List D)) := by
        simp [insOf]
      have e2 : (eUn (oFld okF "_weights") (eVar 0)) E (S ++ [[D.ins "Hint" ["shape", "_weights"] [.tup (ms.map D.int), .lst ((lowI ws).map D.int)]]]) = some (.ok (.d (.lst ((lowI ws).map D.int))), S ++ [[D.ins "Hint" ["shape", "_weights"] [.tup (ms.map D.int), .lst ((lowI ws).map D.int)]]]) := by
        show oFld okF "_weights" (.obj S.length) _ = _
        unfold oFld
        rw [e0]
        rfl
      rw [ev_Cons, bnd_at e2]
      rfl
    rw [ev_Arg, bnd_at e1]
    exact congrFun (bSum_map (lowI ws)) _
  rw [show (S ++ [[D.ins "Hint" [] []]]).length = (S ++ [[hintD ms (lowI ws)]]).length by simp, List.take_length] at key
  rw [mk_ok (fs := ["shape", "_weights", "unit"]) (l := [.tup (ms.map D.int), .lst ((lowI ws).map D.int), .int (lowI ws).sum]) (S1 := S ++ [[hintD ms (lowI ws)]]) rfl key (by simp [hintD])]
  simp [hintD]
theorem v_wM (ms ws : List Int) (S : Store) : m_Hint_weights [.d (hintD ms ws)] S = some (.ok (.fresh (ws.map D.int)), S) := by
  refine fn_F rfl ?_
  show y_Hint_weights [some (.d (hintD ms ws))] S = _
  exact st_Ret rfl
theorem cell_ix {c : List Int} {p : Nat} (h : p < c.length) : oIdx (.d (cD c)) (.d (.int (p : Nat))) = ret (.d (.int (c.getD p 0))) := by
  refine oIdx_t (atI_nat ?_)
  rw [List.getElem?_map, List.getD_eq_getElem?_getD, List.getElem?_eq_getElem h]
  rfl
def inN (n : Int) : D → Bool
  | .int i => decide (0 ≤ i) && decide (i < n)
  | _ => false
theorem v_ism {ms : List Int} {p : Nat} (hp : p < ms.length) (v : D) (hb : basic v = true) : m_is_move [.d (.tup (ms.map D.int)), .d (.int (p : Nat)), .d v] = ret (.d (.bl (inN (ms.getD p 0) v))) := by
  refine fn_R rfl ?_
  let E : DL.Env := [some (.d (.tup (ms.map D.int))), some (.d (.int (p : Nat))), some (.d v)]
  show (eAnd (eCall asPure m_is_whole [] (aCons (eVar 2) aNil)) (eCh oLe oLt (eC (.int 0)) (eVar 2) (eOp oIdx (eVar 0) (eVar 1)))) E = _
  have c : callM asPure m_is_whole [.d v] = ret (.d (.bl (whole v))) := call_pure rfl (v_whole v hb)
  rw [ev_And, ev_CallR (as := [.d v]) rfl c, bnd_ret', asB_b, bnd_ret']
  cases v <;> first | rfl | skip
  rename_i i
  have ix : oIdx (.d (.tup (ms.map D.int))) (.d (.int (p : Nat))) = ret (.d (.int (ms.getD p 0))) := cell_ix hp
  show (eCh oLe oLt (eC (.int 0)) (eVar 2) (eOp oIdx (eVar 0) (eVar 1))) E = _
  simp only [ev_Ch, ev_Op, ev_C, eVar, E, List.getElem?_cons_zero, List.getElem?_cons_succ, bnd_ret', ix, oLe_i, oLt_i, asB_b]
  by_cases q : 0 ≤ i
  · rw [decide_eq_true q]; simp [inN, q]
  · rw [decide_eq_false q]; simp [inN, q]
end Lw
namespace Lw
open PySem L2 DL
theorem place_loop (all : List D) (e0 e1 : Option SV) (S : Store) : ∀ (ms c : List Int) (f : Int) (k : Nat) (e3 e4 : Option SV), 0 < k → Sm k f → k + 4 * ms.length ≤ 1000 → (∀ m ∈ ms, Sm 3 m) → (∀ x ∈ c, Sm 3 x) → ∃ x3 x4,
    forL (.many [3, 4]) none all (sSet 2 (eOp oAdd (eOp oMul (eVar 2) (eVar 3)) (eVar 4))) ((ms.zip c).map fun x => D.tup [.int x.1, .int x.2]) [e0, e1, some (.d (.int f)), e3, e4] S = some (.nx [e0, e1, some (.d (.int (plI f ms c))), x3, x4], S)
  | [], c, f, k, e3, e4, _, _, _, _, _ => ⟨e3, e4, by rw [List.zip_nil_left, List.map_nil, for_nil]; cases c <;> rfl⟩
  | m :: ms, [], f, k, e3, e4, _, _, _, _, _ => ⟨e3, e4, by rw [List.zip_nil_right, List.map_nil, for_nil]; rfl⟩
  | m :: ms, x :: c, f, k, e3, e4, h0, h1, h2, h3, h4 => by
    have hm := h3 m List.mem_cons_self
    have hx := h4 x List.mem_cons_self
    have hf : Sm (k + 4) (f * m + x) := (h1.mul hm).add (hx.mono (by omega))
    obtain ⟨x3, x4, ih⟩ := place_loop all e0 e1 S ms c (f * m + x) (k + 4) (some (.d (.int m))) (some (.d (.int x))) (by omega) hf (by simp only [List.length_cons] at h2; omega) (fun y hy => h3 y (List.mem_cons_of_mem _ hy)) (fun y hy => h4 y (List.mem_cons_of_mem _ hy))
    refine ⟨x3, x4, ?_⟩
    rw [List.zip_cons_cons, List.map_cons, for_nx (kk := none) (all := all) (env1 := [e0, e1, some (.d (.int f)), some (.d (.int m)), some (.d (.int x))]) (env2 := [e0, e1, some (.d (.int (f * m + x))), some (.d (.int m)), some (.d (.int x))]) (S2 := S) rfl ?_ (show keepOk none all S from trivial)]
    · exact ih
    · rw [st_Set (a := .d (.int (f * m + x))) (S' := S) (by
        simp only [ev_Op, eVar, List.getElem?_cons_zero, List.getElem?_cons_succ, bnd_ret']
        rw [oMul_i (by have := h1.log h0; have := hm.log (by decide); simp only [List.length_cons] at h2; omega), bnd_ret', oAdd_i]
        rfl)]
      rfl
theorem sm3 {x : Int} (h : 0 ≤ x) (h2 : x ≤ 7) : Sm 3 x := by
  show x.natAbs < 2 ^ 3
  have : (2 : Nat) ^ 3 = 8 := by decide
  omega
theorem cell_sm {ms c : List Int} (s : Snd ms) (h : c ∈ cellsOf ms) : ∀ x ∈ c, Sm 3 x := fun x hx => by
  obtain ⟨hl, hb⟩ := cell_mem s h
  obtain ⟨p, hp, rfl⟩ := List.mem_iff_getElem.mp hx
  have := hb p (by omega)
  have e : c.getD p 0 = c[p] := by rw [List.getD_eq_getElem?_getD, List.getElem?_eq_getElem hp]; rfl
  have hm : ms.getD p 0 ≤ 4 := by
    rw [List.getD_eq_getElem?_getD, List.getElem?_eq_getElem (by omega)]
    exact (s.r _ (List.getElem_mem _)).2
  rw [e] at this
  exact sm3 this.1 (by omega)
theorem v_place {ms c : List Int} (s : Snd ms) {k : Nat} (h : (cellsOf ms)[k]? = some c) : m_place [.d (.tup (ms.map D.int)), .d (cD c)] = ret (.d (.int (k : Nat))) := by
  have hc : c ∈ cellsOf ms := List.mem_of_getElem? h
  refine fn_B rfl fun S => ?_
  let E : DL.Env := [some (.d (.tup (ms.map D.int))), some (.d (cD c)), none, none, none]
  show y_place E S = _
  unfold y_place
  rw [st_SeqN (st_Set (a := .d (.int 0)) (S' := S) rfl)]
  obtain ⟨x3, x4, hx⟩ := place_loop ((ms.zip c).map fun x => D.tup [.int x.1, .int x.2]) (some (.d (.tup (ms.map D.int)))) (some (.d (cD c))) S ms c 0 1 none none (by decide) (by show (0 : Int).natAbs < 2 ^ 1; decide) (by have := s.l2; omega) (fun m hm => by have := s.r m hm; exact sm3 (by omega) (by omega)) (cell_sm s hc)
  rw [st_SeqN (by
    rw [st_For (ds := (ms.zip c).map fun x => D.tup [.int x.1, .int x.2]) (kk := none) (S' := S) (at_ret (ev_ArgR (as := [.d (.tup (ms.map D.int)), .d (cD c)]) (x := (pairD (ms.map D.int) (c.map D.int), none)) rfl rfl |>.trans (by rw [pair_map])) S)]
    exact hx)]
  rw [(cell_at s h).1]
  exact st_Ret rfl
theorem v_isc {ms c : List Int} (s : Snd ms) (h : c ∈ cellsOf ms) : m_is_cell [.d (.tup (ms.map D.int)), .d (cD c)] = ret (.d (.bl true)) := by
  obtain ⟨hl, hb⟩ := cell_mem s h
  refine fn_B rfl fun S => ?_
  let E : DL.Env := [some (.d (.tup (ms.map D.int))), some (.d (cD c)), none, none]
  show y_is_cell E S = _
  unfold y_is_cell
  have i1 : bIsi [.d (cD c), .d (.ty "tuple")] = ret (.d (.bl true)) := by unfold cD; simp [bIsi, tyN]
  have t : (tyOr (tyNot (eTst (eArg bIsi (aCons (eVar 1) (aCons (eC (.ty "tuple")) aNil))))) (eTst (eOp oNe (eArg bLen (aCons (eVar 1) aNil)) (eArg bLen (aCons (eVar 0) aNil))))) E = ret false := by
    have l1 : bLen [.d (cD c)] = ret (.d (.int c.length)) := by unfold cD; rw [bLen_t, List.length_map]
    simp only [ev_tyOr, ev_tyNot, ev_Tst, ev_Arg, ev_Op, ev_Cons, ev_Nil, ev_C, E, eVar, List.getElem?_cons_zero, List.getElem?_cons_succ, bnd_ret', i1, l1, bLen_t, List.length_map, oNe_i, asB_b, Bool.not_true, hl, decide_true]
    rfl
  rw [st_SeqN (env' := E) (S' := S) (by rw [sIf_pick t]; rfl)]
  refine st_Ret ?_
  have a1 : (eLc [2, 3] (.many [2, 3]) (eArg walkE (aCons (eVar 1) aNil)) tYesD (eCall asPure m_is_move [] (aCons (eVar 0) (aCons (eVar 2) (aCons (eVar 3) aNil))))) E = ret (.d (.lst (c.zipIdx.map fun x => D.bl true))) :=
    lcA_all (fun x : Int × Nat => D.tup [.int (x.2 : Nat), .int x.1]) (fun x => .bl true) (by
      rw [ev_ArgR (as := [.d (cD c)]) (x := (enumD 0 (c.map D.int), none)) rfl rfl, enum_map]) (fun x hx => ⟨[some (.d (.tup (ms.map D.int))), some (.d (cD c)), some (.d (.int (x.2 : Nat))), some (.d (.int x.1))], rfl, by
      have q : c[x.2]? = some x.1 := by
        have := List.mem_zipIdx_iff_getElem?.mp hx
        simpa using this
      have hp : x.2 < c.length := (List.getElem?_eq_some_iff.mp q).1
      have b := hb x.2 (by omega)
      have e : c.getD x.2 0 = x.1 := by rw [List.getD_eq_getElem?_getD, q]; rfl
      rw [e] at b
      rw [ev_CallR (as := [.d (.tup (ms.map D.int)), .d (.int (x.2 : Nat)), .d (.int x.1)]) rfl (call_pure rfl (v_ism (by omega) (.int x.1) rfl))]
      have y : inN (ms.getD x.2 0) (.int x.1) = true := by
        show (decide (0 ≤ x.1) && decide (x.1 < ms.getD x.2 0)) = true
        rw [decide_eq_true b.1, decide_eq_true b.2]
        rfl
      rw [y]⟩) (by rw [List.length_zipIdx, hl]; have := s.l2; omega)
  rw [ev_ArgR (as := [.d (.lst (c.zipIdx.map fun x => D.bl true))]) (by simp only [ev_Cons, ev_Nil, a1, bnd_ret']) (bAll_map (fun _ => true) _)]
  simp only [List.all_eq_true.mpr (fun _ _ => rfl : ∀ x ∈ c.zipIdx, (fun _ => true) x = true)]
  rfl
theorem v_cc {ms c : List Int} (s : Snd ms) (h : c ∈ cellsOf ms) : callM asPure m_check_cell [.d (.tup (ms.map D.int)), .d (cD c)] = ret (.d .non) := by
  refine call_pure rfl ?_
  funext S
  have t : (tyNot (eTst (eCall asPure m_is_cell [] (aCons (eVar 0) (aCons (eVar 1) aNil))))) [some (.d (.tup (ms.map D.int))), some (.d (cD c))] = ret false := by
    simp only [ev_tyNot, ev_Tst, ev_CallR (env := [some (SV.d (.tup (ms.map D.int))), some (SV.d (cD c))]) (fa := aCons (eVar 0) (aCons (eVar 1) aNil)) (cv := asPure) (as := [.d (.tup (ms.map D.int)), .d (cD c)]) rfl (call_pure rfl (v_isc s h)), bnd_ret', asB_b, Bool.not_true]
  have := fn_non (np := 2) (n := 2) (body := y_check_cell) (S := S) (env1 := [some (.d (.tup (ms.map D.int))), some (.d (cD c))]) (as := [.d (.tup (ms.map D.int)), .d (cD c)]) (S1 := S) rfl (by
    show sIf _ _ _ _ _ = _
    exact (sIf_pick t).trans rfl)
  rw [List.take_length] at this
  exact this
end Lw
namespace Lw
open PySem L2 DL
theorem cut_to (l : List D) {p : Nat} (h : p ≤ l.length) : cutD l none (some (p : Int)) = l.take p := by
  unfold cutD
  rw [HT.sIx_none, HT.sIx_nat, List.drop_zero, Nat.sub_zero, Nat.min_eq_left h]
theorem cut_from (l : List D) {p : Nat} (h : p ≤ l.length) : cutD l (some (p : Int)) none = l.drop p := by
  unfold cutD
  rw [HT.sIx_none, HT.sIx_nat, Nat.min_eq_left h]
  exact List.take_of_length_le (by rw [List.length_drop]; exact Nat.le_refl _)
end Lw
namespace Lw
open PySem L2 DL
def cL (c : List Int) : D := .lst (c.map D.int)
theorem lcell_lc (m : Int) (hm : 1 ≤ m ∧ m ≤ 4) (c : List Int) (hc : c.length ≤ 10) (e0 e1 e3 e5 : Option SV) :
    (eLc [5] (.one 5) (eArg walkR1 (aCons (eVar 2) aNil)) tYesD (eOp oAdd (eVar 4) (eArg mkLst (aCons (eVar 5) aNil)))) [e0, e1, some (.d (.int m)), e3, some (.d (cL c)), e5] = ret (.d (.lst ((cellStep [c] m).map cL))) := by
  rw [lcA_all (fun i : Nat => D.int (i : Nat)) (fun i : Nat => cL (c ++ [((i : Nat) : Int)])) (by
    rw [ev_ArgR (as := [.d (.int m)]) (x := (rangeD 0 m.toNat, none)) rfl (walk_i _ (by omega)), range_map]) (fun i _ => ⟨[e0, e1, some (.d (.int m)), e3, some (.d (cL c)), some (.d (.int (i : Nat)))], rfl, by
      show bnd (ret (.d (cL c))) (fun x => bnd (ret (.d (.lst [.int (i : Nat)]))) fun y => oAdd x y) = _
      rw [bnd_ret', bnd_ret']
      unfold cL
      rw [oAdd_l (by simp only [List.length_map, List.length_cons, List.length_nil]; omega), List.map_append]
      rfl⟩) (by rw [List.length_range]; omega)]
  unfold cellStep
  rw [List.flatMap_cons, List.flatMap_nil, List.append_nil, List.map_map]
  rfl
theorem lcell_in (all : List D) (S : Store) (e0 e1 : Option SV) (m : Int) (hm : 1 ≤ m ∧ m ≤ 4) : ∀ (fs acc : List (List Int)) (e4 : Option SV), acc.length + 4 * fs.length ≤ 2000 → (∀ c ∈ fs, c.length ≤ 10) → ∃ x4,
    forL (.one 4) none all (sSet 3 (eOp oAdd (eVar 3) (eLc [5] (.one 5) (eArg walkR1 (aCons (eVar 2) aNil)) tYesD (eOp oAdd (eVar 4) (eArg mkLst (aCons (eVar 5) aNil)))))) (fs.map cL) [e0, e1, some (.d (.int m)), some (.d (.lst (acc.map cL))), e4, none] S =
      some (.nx [e0, e1, some (.d (.int m)), some (.d (.lst ((acc ++ cellStep fs m).map cL))), x4, none], S)
  | [], acc, e4, _, _ => ⟨e4, by rw [List.map_nil, for_nil]; unfold cellStep; rw [List.flatMap_nil, List.append_nil]⟩
  | c :: fs, acc, e4, hl, hc => by
    have hs := (step_len (found := [c]) hm).1
    simp only [List.length_cons, List.length_nil] at hl hs
    obtain ⟨x4, ih⟩ := lcell_in all S e0 e1 m hm fs (acc ++ cellStep [c] m) (some (.d (cL c))) (by rw [List.length_append]; omega) (fun x hx => hc x (List.mem_cons_of_mem _ hx))
    refine ⟨x4, ?_⟩
    rw [List.map_cons, for_nx (kk := none) (all := all) (env2 := [e0, e1, some (.d (.int m)), some (.d (.lst ((acc ++ cellStep [c] m).map cL))), some (.d (cL c)), none]) (S2 := S) rfl ?_ (show keepOk none all S from trivial)]
    · rw [ih]
      have : acc ++ cellStep [c] m ++ cellStep fs m = acc ++ cellStep (c :: fs) m := by
        unfold cellStep
        rw [List.append_assoc]
        simp only [List.flatMap_cons, List.flatMap_nil, List.append_nil]
      rw [this]
    · show sSet 3 _ [e0, e1, some (.d (.int m)), some (.d (.lst (acc.map cL))), some (.d (cL c)), none] S = _
      rw [st_Set (a := .d (.lst ((acc ++ cellStep [c] m).map cL))) (S' := S) (at_ret (by
        rw [ev_Op, show eVar 3 [e0, e1, some (.d (.int m)), some (.d (.lst (acc.map cL))), some (.d (cL c)), none] = ret (.d (.lst (acc.map cL))) from rfl, bnd_ret', lcell_lc m hm c (hc c List.mem_cons_self), bnd_ret', oAdd_l (by simp only [List.length_map]; omega), List.map_append]) S)]
      rfl
theorem lcells_loop (all : List D) (e0 : Option SV) (S : Store) : ∀ (ms : List Int) (found : List (List Int)) (k : Nat) (e2 e3 e4 : Option SV), found.length ≤ 4 ^ k → (∀ c ∈ found, c.length = k) → k + ms.length ≤ 4 → Rng ms → ∃ x2 x3 x4,
    forL (.one 2) none all (sSeq (sSet 3 (eArg mkLst aNil))
    (sSeq (sFor (.one 4) (iOf (eVar 1)) (sSet 3 (eOp oAdd (eVar 3) (eLc [5] (.one 5) (eArg walkR1 (aCons (eVar 2) aNil)) tYesD (eOp oAdd (eVar 4) (eArg mkLst (aCons (eVar 5) aNil)))))))
    (sSet 1 (eVar 3)))) (ms.map D.int) [e0, some (.d (.lst (found.map cL))), e2, e3, e4, none] S =
      some (.nx [e0, some (.d (.lst ((ms.foldl cellStep found).map cL))), x2, x3, x4, none], S)
  | [], found, k, e2, e3, e4, _, _, _, _ => ⟨e2, e3, e4, for_nil⟩
  | m :: ms, found, k, e2, e3, e4, h1, h2, h3, hr => by
    have hm := hr m List.mem_cons_self
    have hk : found.length ≤ 256 := Nat.le_trans h1 (by
      have : (4 : Nat) ^ k ≤ 4 ^ 4 := Nat.pow_le_pow_right (by decide) (by omega)
      exact this)
    obtain ⟨y4, fi⟩ := lcell_in (found.map cL) S e0 (some (.d (.lst (found.map cL)))) m hm found [] e4 (by simp only [List.length_nil]; omega) (fun c hc => by rw [h2 c hc]; omega)
    obtain ⟨x2, x3, x4, ih⟩ := lcells_loop all e0 S ms (cellStep found m) (k + 1) (some (.d (.int m))) (some (.d (.lst ((cellStep found m).map cL)))) y4 (by rw [Nat.pow_succ]; have := (step_len (found := found) hm).1; omega) (step_one h2) (by simp only [List.length_cons] at h3; omega) (fun x hx => hr x (List.mem_cons_of_mem _ hx))
    refine ⟨x2, x3, x4, ?_⟩
    rw [List.map_cons, for_nx (kk := none) (all := all) (env2 := [e0, some (.d (.lst ((cellStep found m).map cL))), some (.d (.int m)), some (.d (.lst ((cellStep found m).map cL))), y4, none]) (S2 := S) rfl ?_ (show keepOk none all S from trivial)]
    · exact ih
    · show sSeq _ _ [e0, some (.d (.lst (found.map cL))), some (.d (.int m)), e3, e4, none] S = _
      rw [st_SeqN (st_Set (a := .d (.lst [])) (S' := S) rfl)]
      show sSeq _ _ [e0, some (.d (.lst (found.map cL))), some (.d (.int m)), some (.d (.lst [])), e4, none] S = _
      rw [st_SeqN (by
        rw [st_For (ds := found.map cL) (kk := none) (S' := S) rfl]
        exact fi)]
      rw [List.nil_append]
      rw [st_Set (a := .d (.lst ((cellStep found m).map cL))) (S' := S) rfl]
      rfl
theorem v_lcells {ms : List Int} (s : Snd ms) (S : Store) : m__law_cells [.d (.lst (ms.map D.int))] S = some (.ok (.fresh ((cellsOf ms).map cD)), S) := by
  refine fn_F rfl ?_
  show y__law_cells [some (.d (.lst (ms.map D.int))), none, none, none, none, none] S = _
  unfold y__law_cells
  rw [st_SeqN (st_Set (a := .d (.lst [cL []])) (S' := S) rfl)]
  obtain ⟨x2, x3, x4, hx⟩ := lcells_loop (ms.map D.int) (some (.d (.lst (ms.map D.int)))) S ms [[]] 0 none none none (by decide) (by simp) (by have := s.l2; omega) s.r
  rw [st_SeqN (by
    rw [st_For (ds := ms.map D.int) (kk := none) (S' := S) rfl]
    exact hx)]
  refine st_Ret ?_
  have hl : (cellsOf ms).length ≤ 16 := by have := cells_len s; have := s.p; omega
  exact lcA_allO cL cD rfl (fun c _ => ⟨[some (.d (.lst (ms.map D.int))), some (.d (.lst ((cellsOf ms).map cL))), x2, x3, some (.d (cL c)), none], rfl, rfl⟩) (by omega)
theorem c_lcells {ms : List Int} (s : Snd ms) : callM asPure m__law_cells [.d (.lst (ms.map D.int))] = ret (.d (.lst ((cellsOf ms).map cD))) := call_fr rfl (v_lcells s)
end Lw
namespace Lw
open PySem L2 DL
theorem ix_cells {l : List (List Int)} {k : Nat} (h : k < l.length) : oIdx (.d (.lst (l.map cD))) (.d (.int (k : Nat))) = ret (.d (cD (l.getD k []))) := by
  refine oIdx_l (atI_nat ?_)
  rw [List.getElem?_map, List.getD_eq_getElem?_getD, List.getElem?_eq_getElem h]
  rfl
theorem getD_mem {l : List (List Int)} {k : Nat} (h : k < l.length) : l.getD k [] ∈ l := by
  rw [List.getD_eq_getElem?_getD, List.getElem?_eq_getElem h]
  exact List.getElem_mem h
theorem log_of {x : Int} (h : 0 ≤ x) (h2 : x ≤ 1000000) : x.natAbs.log2 < 9000 := Nat.lt_of_lt_of_le (log2_lt (k := 64) (by
  have : (2 : Nat) ^ 64 = 18446744073709551616 := by decide
  omega) (by decide)) (by decide)
theorem ne_same {n : Nat} {d : D} (h : Cmp n d) (hn : n ≤ 64) : oNe (.d d) (.d d) = ret (.d (.bl false)) := by
  rw [oNe_d (h.ok h hn hn), eqD_same h]
  rfl
theorem eq_same {n : Nat} {d : D} (h : Cmp n d) (hn : n ≤ 64) : oEq (.d d) (.d d) = ret (.d (.bl true)) := by
  rw [oEq_d (h.ok h hn hn), eqD_same h]
theorem cmp_ints (l : List Int) : Cmp 1 (.lst (l.map D.int)) := Cmp.lst fun d hd => by obtain ⟨i, _, rfl⟩ := List.mem_map.mp hd; exact Cmp.int i
end Lw
namespace Lw
open PySem L2 DL
def Sq (S : Store) (x : SV) (l : List D) : Prop := x = .d (.lst l) ∨ x = .d (.tup l) ∨ ∃ k, x = .ptr k ∧ S[k]? = some l ∧ clsd l = true
theorem sq_p {S : Store} {k : Nat} {l : List D} (h : S[k]? = some l) (hc : clsd l = true := by (first | rfl | exact clsd_ints _ | exact clsd_map (fun _ => rfl) _ | assumption | (exact clsd_append (clsd_ints _) (by rfl)) | (exact clsd_append (clsd_map (fun _ => rfl) _) (by rfl)))) : Sq S (.ptr k) l := .inr (.inr ⟨k, rfl, h, hc⟩)
def Wk (S : Store) (x : SV) (l : List D) (kk : KK) : Prop := walkD x S = some (.ok (l, kk), S) ∧ ∀ T : Store, keepOk kk l (S ++ T)
section
variable {S : Store} {x : SV} {l : List D}
theorem Sq.ext (h : Sq S x l) (T : Store) : Sq (S ++ T) x l := by
  rcases h with h | h | ⟨k, h, q, hc⟩
  · exact .inl h
  · exact .inr (.inl h)
  · exact .inr (.inr ⟨k, h, by rw [List.getElem?_append_left (List.getElem?_eq_some_iff.mp q).1]; exact q, hc⟩)
theorem Sq.seq (h : Sq S x l) : seqOf S x = some l := by
  rcases h with rfl | rfl | ⟨k, rfl, q, hc⟩
  · rfl
  · rfl
  · exact cellC_of q hc
theorem Sq.len (h : Sq S x l) : bLen [x] S = some (.ok (.d (.int l.length)), S) := by
  have e := h.seq
  rcases h with rfl | rfl | ⟨k, rfl, q, hc⟩
  · rfl
  · rfl
  · show (match seqOf S (.ptr k) with
      | some l => some (R.ok (SV.d (.int l.length)), S)
      | none => none) = _
    rw [e]
theorem Sq.wk (h : Sq S x l) : ∃ kk, Wk S x l kk := by
  rcases h with rfl | rfl | ⟨k, rfl, q, hc⟩
  · exact ⟨none, rfl, fun _ => trivial⟩
  · exact ⟨none, rfl, fun _ => trivial⟩
  · refine ⟨some [(k, l)], ?_, fun T => ?_⟩
    · unfold walkD
      dsimp only
      rw [q]
      dsimp only
      rw [if_pos hc]
    · intro p hp
      rw [List.mem_singleton.mp hp]
      rw [List.getElem?_append_left (List.getElem?_eq_some_iff.mp q).1]
      exact q
theorem Sq.no (h : Sq S x l) (r : List SV) : noExc (x :: r) = noExc r := by
  rcases h with rfl | rfl | ⟨k, rfl, q⟩ <;> rfl
theorem Sq.own (h : Sq S x l) : bListOwn [x] S = some (.ok (.ptr S.length), S ++ [l]) := by
  show (match seqOf S x with
    | some l => some (R.ok (SV.ptr S.length), S ++ [l])
    | none => none) = _
  rw [h.seq]
theorem Sq.tup (h : Sq S x l) : bTuple [x] S = some (.ok (.d (.tup l)), S) := by
  have e := h.seq
  rcases h with rfl | rfl | ⟨k, rfl, q⟩
  · rfl
  · rfl
  · show (match seqOf S (.ptr k) with
      | some l => some (R.ok (SV.d (.tup l)), S)
      | none => none) = _
    rw [e]
theorem ev_CallS {cv : RR → M SV} {m : Fn} {fa : DL.Env → M (List SV)} {env : DL.Env} {as : List SV} {r : Option (R SV × Store)} (h : fa env S = some (.ok as, S)) (h2 : callM cv m as S = r) : eCall cv m [] fa env S = r := by
  rw [ev_Call, bnd_at h, List.append_nil]
  exact h2
theorem ev_ArgS {α : Type} {o : List SV → M α} {fa : DL.Env → M (List SV)} {env : DL.Env} {as : List SV} {r : Option (R α × Store)} (h : fa env S = some (.ok as, S)) (h2 : o as S = r) : eArg o fa env S = r := by
  rw [ev_Arg, bnd_at h]
  exact h2
theorem lcK_loop {α : Type} {env : DL.Env} {t : Tg} {fe : DL.Env → M SV} {all : List D} {k : Nat} {kk : KK} (mk : α → D) (h : α → D) {S0 : Store} (hk : k = S0.length) (hq : ∀ T : Store, keepOk kk all (S0 ++ T)) : ∀ (ds : List α) (acc : List D),
    (∀ d ∈ ds, ∃ env1, setT t (mk d) env = some env1 ∧ fe env1 = ret (.d (h d))) → acc.length + ds.length ≤ 16777216 → lcL t kk all tYesD fe k env (ds.map mk) (S0 ++ [acc]) = some (S0 ++ [acc ++ ds.map h])
  | [], acc, _, _ => by rw [List.map_nil]; unfold lcL; simp
  | d :: ds, acc, hd, hl => by
    obtain ⟨env1, h1, h3⟩ := hd d List.mem_cons_self
    rw [List.map_cons]
    unfold lcL
    rw [h1]; dsimp only; rw [ev_Yes]; dsimp only [DL.ret]
    rw [h3]; dsimp only [DL.ret]
    have hg : (S0 ++ [acc])[k]? = some acc := by rw [hk]; simp
    have hlt : acc.length < lim := by simp only [List.length_cons] at hl; simp only [lim]; omega
    unfold lcNext
    rw [hg]; dsimp only; rw [if_pos hlt]; dsimp only
    have hs : (S0 ++ [acc]).set k (acc ++ [h d]) = S0 ++ [acc ++ [h d]] := by rw [hk]; simp
    rw [hs, if_pos (hq [acc ++ [h d]])]
    rw [lcK_loop mk h hk hq ds (acc ++ [h d]) (fun x hx => hd x (List.mem_cons_of_mem _ hx)) (by simp only [List.length_append, List.length_cons, List.length_nil] at hl ⊢; omega)]
    simp
theorem lcKO {α : Type} {env : DL.Env} {ws : List Nat} {t : Tg} {f : DL.Env → M (List D × KK)} {fe : DL.Env → M SV} {ds : List α} {kk : KK} (mk : α → D) (h : α → D) (hf : f env S = some (.ok (ds.map mk, kk), S)) (hq : ∀ T : Store, keepOk kk (ds.map mk) (S ++ T))
    (hd : ∀ d ∈ ds, ∃ env1, setT t (mk d) (wipeE env ws) = some env1 ∧ fe env1 = ret (.d (h d))) (hl : ds.length ≤ 16777216) (hcl : clsd (ds.map h) = true := by (first | rfl | exact clsd_ints _ | exact clsd_map (fun _ => rfl) _ | assumption | (exact clsd_append (clsd_ints _) (by rfl)) | (exact clsd_append (clsd_map (fun _ => rfl) _) (by rfl)))) : eLcOwn ws t f tYesD fe env S = some (.ok (.ptr S.length), S ++ [ds.map h]) := by
  unfold eLcOwn
  rw [bnd_at hf]
  dsimp only
  rw [lcK_loop mk h rfl hq ds [] hd (by simpa using hl)]
  simp [hcl, cal_app]
theorem Wk.it {kk : KK} (w : Wk S x l kk) {env : DL.Env} {i : Nat} (he : env[i]? = some (some x)) : (iOf (eVar i)) env S = some (.ok (l, kk), S) := by
  rw [ev_iOf, ev_Var he, bnd_ret']
  exact w.1
theorem args1 {env : DL.Env} {i : Nat} (he : env[i]? = some (some x)) : (aCons (eVar i) aNil) env S = some (.ok [x], S) := by
  rw [ev_Cons, ev_Var he]
  rfl
end
def wOk (n : Int) (l : List D) : Bool := (decide ((l.length : Int) = n) && l.all whole) && ((l.map intOf).all (fun i => decide (0 ≤ i)) && (l.map intOf).any (fun i => decide (0 < i)))
theorem Wts.ok {ms ws : List Int} (h : Wts ms ws) : wOk (prodI 1 ms) (ws.map D.int) = true := by
  unfold wOk
  rw [whole_ints, map_intOf, decide_eq_true (by rw [List.length_map]; exact h.n), List.all_eq_true.mpr fun x hx => decide_eq_true (h.nn x hx), List.any_eq_true.mpr (by obtain ⟨n, hn, q⟩ := pos_mem h.pos; exact ⟨n, hn, decide_eq_true q⟩)]
  rfl
end Lw
namespace Lw
open PySem L2 DL
/-- payoffs for a shape -/
structure Pay (ms : List Int) (R : List (List Int)) : Prop where
  s : Snd ms
  n : (R.length : Int) = prodI 1 ms
  w : ∀ r ∈ R, r.length = ms.length
theorem Pay.len {ms : List Int} {R : List (List Int)} (p : Pay ms R) : 1 ≤ R.length ∧ R.length ≤ 16 := by
  have := p.n; have := p.s.p; have := p.s.pos
  omega
end Lw
namespace Lw
open PySem L2 DL
def bt (p a b : Nat) : List Int := [((p : Nat) : Int), ((a : Nat) : Int), ((b : Nat) : Int)]
def prsN (n : Nat) : List (Nat × Nat) := (List.range n).flatMap fun a => (List.range n).map fun b => (a, b)
def betsQ (p n : Nat) : List (List Int) := ((prsN n).filter fun x => decide (x.1 ≠ x.2)).map fun x => bt p x.1 x.2
def betsL (ms : List Int) : List (List Int) := ms.zipIdx.flatMap fun x => betsQ x.2 x.1.toNat
def lrow (p n a : Nat) : List (List Int) := ((List.range n).filter fun b => decide (b ≠ a)).map fun b => bt p a b
def lbetsP (p n : Nat) : List (List Int) := (List.range n).flatMap fun a => lrow p n a
def lbetsL (ms : List Int) : List (List Int) := (List.range ms.length).flatMap fun p => lbetsP p (ms.getD p 0).toNat
def betOk (ms : List Int) : List Int → Bool
  | [p, a, o] => (decide (0 ≤ p) && decide (p < ms.length)) && ((decide (0 ≤ a) && decide (a < ms.getD p.toNat 0)) && ((decide (0 ≤ o) && decide (o < ms.getD p.toNat 0)) && decide (a ≠ o)))
  | _ => false
def betFact (ms : List Int) : Bool := decide (lbetsL ms = betsL ms) && ((betsL ms).all (betOk ms) && (decide ((betsL ms).length ≤ 48) && decide (cellsOf ms).Nodup))
theorem betFacts : allShapes.all betFact = true := by decide +kernel
structure Bet (ms : List Int) (p a o : Nat) : Prop where
  hp : p < ms.length
  ha : (a : Int) < ms.getD p 0
  ho : (o : Int) < ms.getD p 0
  hn : a ≠ o
theorem bet_facts {ms : List Int} (s : Snd ms) : lbetsL ms = betsL ms ∧ (∀ b ∈ betsL ms, ∃ p a o, b = bt p a o ∧ Bet ms p a o) ∧ (betsL ms).length ≤ 48 ∧ (cellsOf ms).Nodup := by
  have := List.all_eq_true.mp betFacts ms s.mem
  unfold betFact at this
  simp only [Bool.and_eq_true, decide_eq_true_eq, List.all_eq_true] at this
  obtain ⟨h1, h2, h3, h4⟩ := this
  refine ⟨h1, fun b hb => ?_, h3, h4⟩
  have q := h2 b hb
  unfold betOk at q
  split at q
  · rename_i p a o
    simp only [Bool.and_eq_true, decide_eq_true_eq] at q
    obtain ⟨⟨p0, p1⟩, ⟨a0, a1⟩, ⟨o0, o1⟩, ne⟩ := q
    obtain ⟨p, rfl⟩ := Int.eq_ofNat_of_zero_le p0
    obtain ⟨a, rfl⟩ := Int.eq_ofNat_of_zero_le a0
    obtain ⟨o, rfl⟩ := Int.eq_ofNat_of_zero_le o0
    rw [Int.toNat_natCast] at a1 o1
    exact ⟨p, a, o, rfl, by omega, a1, o1, fun e => ne (by rw [e])⟩
  · cases q
end Lw
namespace Lw
open PySem L2 DL
theorem cell_ix' {ms c : List Int} (s : Snd ms) (h : c ∈ cellsOf ms) : (cellsOf ms)[(plI 0 ms c).toNat]? = some c := by
  obtain ⟨k, hk, e⟩ := List.mem_iff_getElem.mp h
  have h2 : (cellsOf ms)[k]? = some c := by rw [List.getElem?_eq_getElem hk, e]
  rw [(cell_at s h2).1, Int.toNat_natCast]
  exact h2
end Lw
namespace Lw
open PySem L2 DL
def dotI (a b : List Int) : Int := ((a.zip b).map fun x => x.1 * x.2).sum
/-- payoffs up to 1000 -/
structure PayB (ms : List Int) (R : List (List Int)) : Prop where
  p : Pay ms R
  b : ∀ r ∈ R, ∀ x ∈ r, -1000 ≤ x ∧ x ≤ 1000
theorem getD_in {α : Type} {l : List α} {k : Nat} {d : α} : l.getD k d ∈ l ∨ l.getD k d = d := by
  rw [List.getD_eq_getElem?_getD]
  rcases h : l[k]? with _ | x
  · exact .inr rfl
  · exact .inl (List.mem_of_getElem? h)
theorem PayB.at {ms : List Int} {R : List (List Int)} (h : PayB ms R) (k p : Nat) : -1000 ≤ (R.getD k []).getD p 0 ∧ (R.getD k []).getD p 0 ≤ 1000 := by
  rcases getD_in (l := R.getD k []) (k := p) (d := 0) with q | q
  · rcases getD_in (l := R) (k := k) (d := []) with q2 | q2
    · exact h.b _ q2 _ q
    · rw [q2] at q; cases q
  · rw [q]; decide
end Lw
set_option hygiene false in
local macro_rules | `(tactic| exists $[$hs:term],*) => `(tactic| ((try dsimp only [List.set]); repeat' ((with_reducible apply DL.q_go); first
  | (first $[| with_reducible exact $hs]*) | ((with_reducible apply DL.q_ret); first $[| with_reducible exact $hs]*)
  | with_reducible exact DL.q_nil | with_reducible exact DL.q_c | with_reducible apply DL.q_cons
  | ((with_reducible apply DL.q_var); exact rfl)
  | with_reducible apply DL.q_op | with_reducible apply DL.q_un | with_reducible apply DL.q_arg | with_reducible apply DL.q_call | with_reducible apply DL.q_callD
  | with_reducible apply DL.q_tst | with_reducible apply DL.q_tru | with_reducible apply DL.q_truA | with_reducible apply DL.q_not | with_reducible apply DL.q_enot | with_reducible exact DL.q_yes
  | with_reducible apply DL.q_and | with_reducible apply DL.q_or | with_reducible apply DL.q_eand | with_reducible apply DL.q_eor | with_reducible apply DL.q_eif
  | with_reducible apply DL.q_ch | with_reducible apply DL.q_chK | with_reducible apply DL.q_sl | with_reducible exact DL.q_pN | with_reducible apply DL.q_pS | with_reducible exact DL.q_slL | with_reducible exact DL.q_slT
  | with_reducible apply DL.q_meth | with_reducible apply DL.q_methB | ((with_reducible apply DL.q_nofld); exact rfl)
  | with_reducible apply DL.q_mkLst | with_reducible apply DL.q_mkTup | with_reducible apply DL.q_mkOwn | ((with_reducible apply DL.q_ble); exact rfl)
  | with_reducible exact DL.q_dn | with_reducible apply DL.q_dc | with_reducible exact DL.q_fn | with_reducible apply DL.q_fc | with_reducible apply DL.q_fp
  | with_reducible apply DL.q_Seq | with_reducible apply DL.q_thN | with_reducible exact DL.q_thR | with_reducible exact DL.q_thB | with_reducible exact DL.q_thC | with_reducible exact DL.q_thE
  | with_reducible apply DL.q_AppL | with_reducible apply DL.q_SetI | with_reducible apply DL.q_SetAll | with_reducible apply DL.q_Mut | with_reducible apply DL.q_ClearX | with_reducible exact DL.q_Nop | with_reducible exact DL.q_Brk | with_reducible exact DL.q_Cnt | with_reducible exact DL.q_RetN
  | with_reducible apply DL.q_Set | ((with_reducible apply DL.q_setN); (try dsimp only [List.set]); (try exact rfl)) | with_reducible exact DL.q_setE
  | with_reducible apply DL.q_Drop | with_reducible exact DL.q_drN | with_reducible exact DL.q_drE | with_reducible apply DL.q_Ret | with_reducible exact DL.q_rtN | with_reducible exact DL.q_rtE
  | with_reducible apply DL.q_If | with_reducible apply DL.q_For | with_reducible exact DL.q_R0 | with_reducible apply DL.q_R1
  | with_reducible apply DL.q_Try | with_reducible exact DL.q_tyN | with_reducible exact DL.q_tyR | with_reducible apply DL.q_tyE
  | ((with_reducible apply DL.q_hdY); exact rfl; (first | exact rfl | (first $[| with_reducible exact $hs]*)); dsimp only [DL.setX, List.set]) | ((with_reducible apply DL.q_hdN); exact rfl; exact rfl)
  | with_reducible apply DL.q_LendQ | with_reducible apply DL.q_Lend | ((with_reducible apply DL.q_flat); exact rfl)
  | with_reducible apply DL.q_ex | ((with_reducible apply DL.q_ekR); exact rfl) | ((with_reducible apply DL.q_ekN); dsimp only [DL.unX, List.set]; (try exact rfl); exact rfl) | ((with_reducible apply DL.q_xf); exact rfl; exact rfl)
  | with_reducible apply DL.q_iOf | with_reducible exact DL.q_wkL | with_reducible exact DL.q_wkT | with_reducible exact DL.q_wkS
  | ((with_reducible apply DL.q_fin); exact rfl) | with_reducible apply DL.q_pkT | with_reducible apply DL.q_pkNF | with_reducible apply DL.q_pkNT | with_reducible apply DL.q_pkF | with_reducible exact DL.q_nt | with_reducible exact DL.q_nf
  | ((with_reducible apply DL.q_leaf); first $[| (erw [$hs:term]; first | done | exact rfl)]*)
  | ((with_reducible apply DL.q_gC); first | ((with_reducible apply DL.q_cP); (first $[| with_reducible exact $hs]*); exact rfl) | ((with_reducible apply DL.q_cA); (first $[| with_reducible exact $hs]*); exact rfl) | ((with_reducible apply DL.q_cF); (first $[| with_reducible exact $hs]*); exact rfl; first | exact rfl | (first $[| with_reducible exact $hs]*)) | ((with_reducible apply DL.q_cFO); (first $[| with_reducible exact $hs]*); exact rfl) | ((with_reducible apply DL.q_cE); (first $[| with_reducible exact $hs]*); exact rfl))
  | ((with_reducible apply DL.q_gP); first | ((with_reducible apply DL.q_pickT); first $[| with_reducible exact $hs]*) | ((with_reducible apply DL.q_pickF); first $[| with_reducible exact $hs]*) | ((with_reducible apply DL.q_pickNT); first $[| with_reducible exact $hs]*) | ((with_reducible apply DL.q_pickNF); first $[| with_reducible exact $hs]*) | apply DL.q_pickT (by decide) | apply DL.q_pickF (by decide))
  | with_reducible exact DL.q_ret (DL.oEq_i _ _) | with_reducible exact DL.q_ret (DL.oNe_i _ _) | with_reducible exact DL.q_ret (DL.oAdd_i _ _) | with_reducible exact DL.q_ret (DL.oSub_i _ _)
  | with_reducible exact DL.q_ret (DL.oLt_i _ _) | with_reducible exact DL.q_ret (DL.oLe_i _ _) | with_reducible exact DL.q_ret (DL.oGt_i _ _) | with_reducible exact DL.q_ret (DL.oGe_i _ _) | with_reducible exact DL.q_ret (DL.oNeg_i _)
  | with_reducible exact DL.q_ret (DL.bInt_i _) | with_reducible exact DL.q_ret (DL.bInt_b _) | with_reducible exact DL.q_ret (DL.bAbs_i _)
  | with_reducible exact DL.q_lenM | with_reducible exact DL.q_lenMT | with_reducible exact DL.q_ret (DL.bLen_l _) | with_reducible exact DL.q_ret (DL.bLen_t _)
  | with_reducible exact DL.q_ret (DL.bList_l _) | with_reducible exact DL.q_ret (DL.bList_t _) | with_reducible exact DL.q_ret (DL.bTuple_t _) | with_reducible exact DL.q_ret (DL.bTuple_l _)
  | with_reducible exact DL.bListOwn_l _ | with_reducible exact DL.bListOwn_t _
  | with_reducible exact DL.q_nn | with_reducible exact DL.q_nr
  | with_reducible apply DL.q_pkAnd | with_reducible apply DL.q_pkOr | with_reducible apply DL.q_pkAndB | with_reducible apply DL.q_pkOrB
  )))
namespace Lw
open PySem L2 DL
def logI (ms : List Int) (j : Nat) : List D := [.ins "Log" ["shape", "_plays"] [.tup (ms.map D.int), .own j]]
structure LogAt (S : Store) (ms : List Int) (ps : List (List Int)) (k j : Nat) : Prop where
  o : S[k]? = some (logI ms j)
  l : S[j]? = some (ps.map cD)
theorem LogAt.ext {S : Store} {ms : List Int} {ps : List (List Int)} {k j : Nat} (h : LogAt S ms ps k j) (T : Store) : LogAt (S ++ T) ms ps k j :=
  ⟨by rw [List.getElem?_append_left (List.getElem?_eq_some_iff.mp h.o).1]; exact h.o, by rw [List.getElem?_append_left (List.getElem?_eq_some_iff.mp h.l).1]; exact h.l⟩
theorem clsd_cells (ps : List (List Int)) : clsd (ps.map cD) = true := clsd_map (fun _ => rfl) _
section
variable {S : Store} {ms : List Int} {ps : List (List Int)} {k j : Nat}
theorem l_ins (h : LogAt S ms ps k j) : insOf S (.obj k) = some (("Log" : Str), (["shape", "_plays"] : List Str), ([.tup (ms.map D.int), .own j] : List D)) := by
  simp only [insOf, h.o, logI]
theorem lf_shape (h : LogAt S ms ps k j) : oFld okF "shape" (.obj k) S = some (.ok (.d (.tup (ms.map D.int))), S) := by
  unfold oFld; rw [l_ins h]; rfl
theorem lf_plays (h : LogAt S ms ps k j) : oFld okF "_plays" (.obj k) S = some (.ok (.ptr j), S) := by
  unfold oFld; rw [l_ins h]; rfl
theorem l_nf (h : LogAt S ms ps k j) {nm : Str} (hn : (["shape", "_plays"] : List Str).contains nm = false := by decide +kernel) : noFldB "Log" nm S (.obj k) = true := by
  simp only [noFldB, h.o, logI]; rw [hn]; rfl
theorem v_plays (h : LogAt S ms ps k j) : m_Log_plays [.obj k] S = some (.ok (.fresh (ps.map cD)), S) := by
  have sq : Sq S (.ptr j) (ps.map cD) := sq_p h.l (clsd_cells ps)
  have lf := lf_plays h
  have lo := sq.own
  refine fn_F (x := ps.map cD) rfl ?_
  show y_Log_plays [some (.obj k)] S = _
  unfold y_Log_plays
  exists lf, lo
end
def cntL (ms : List Int) (ps : List (List Int)) : List Int := (cellsOf ms).map fun c => ((ps.count c : Nat) : Int)
theorem cnt_len (ms : List Int) (ps : List (List Int)) : (cntL ms ps).length = (cellsOf ms).length := by unfold cntL; rw [List.length_map]
theorem cnt_at {ms : List Int} {ps : List (List Int)} {i : Nat} {c : List Int} (h : (cellsOf ms)[i]? = some c) : (cntL ms ps)[i]? = some ((ps.count c : Nat) : Int) := by
  unfold cntL; rw [List.getElem?_map, h]; rfl
theorem cnt_step {ms : List Int} (s : Snd ms) {ps : List (List Int)} {i : Nat} {c : List Int} (h : (cellsOf ms)[i]? = some c) : (cntL ms ps).set i (((ps.count c : Nat) : Int) + 1) = cntL ms (ps ++ [c]) := by
  have nd := (bet_facts s).2.2.2
  apply List.ext_getElem?
  intro n
  by_cases e : i = n
  · subst e
    rw [List.getElem?_set_self (by rw [cnt_len]; exact (List.getElem?_eq_some_iff.mp h).1), cnt_at h, List.count_append]
    simp
  · rw [List.getElem?_set_ne e]
    rcases q : (cellsOf ms)[n]? with _ | c'
    · unfold cntL; rw [List.getElem?_map, List.getElem?_map, q]; rfl
    · rw [cnt_at q, cnt_at q, List.count_append]
      have hne : c ≠ c' := fun z => by
        subst z
        obtain ⟨a1, a2⟩ := List.getElem?_eq_some_iff.mp h
        obtain ⟨b1, b2⟩ := List.getElem?_eq_some_iff.mp q
        exact e ((List.getElem_inj nd).mp (a2.trans b2.symm))
      have : List.count c' [c] = 0 := List.count_eq_zero.mpr (by simp; exact fun z => hne z.symm)
      rw [this]; rfl
theorem cnt_nil (ms : List Int) : cntL ms [] = List.replicate (cellsOf ms).length 0 := by
  unfold cntL
  rw [List.eq_replicate_iff]
  exact ⟨by rw [List.length_map], fun b hb => by obtain ⟨c, _, rfl⟩ := List.mem_map.mp hb; simp⟩
theorem cnt_bd {ms : List Int} {ps : List (List Int)} : ∀ x ∈ cntL ms ps, 0 ≤ x ∧ x ≤ ps.length := fun x hx => by
  obtain ⟨c, _, rfl⟩ := List.mem_map.mp hx
  have := List.count_le_length (a := c) (l := ps)
  omega
/-- summing over the cells, each as often as it was played -/
theorem sum_ite_one {f : List Int → Int} {c : List Int} : ∀ {l : List (List Int)}, l.Nodup → c ∈ l → (l.map fun d => if d = c then f d else 0).sum = f c
  | [], _, h => by cases h
  | d :: l, nd, h => by
    rw [List.nodup_cons] at nd
    rw [List.map_cons, List.sum_cons]
    by_cases e : d = c
    · subst e
      rw [if_pos rfl]
      have z : (l.map fun x => if x = d then f x else 0).sum = 0 := by
        have : (l.map fun x => if x = d then f x else 0) = l.map fun _ => (0 : Int) := List.map_congr_left fun x hx => if_neg fun (e : x = d) => nd.1 (e ▸ hx)
        rw [this]
        clear this nd h
        induction l with
        | nil => rfl
        | cons _ _ ih => simp only [List.map_cons, List.sum_cons, ih]; rfl
      rw [z]; omega
    · rw [if_neg e, sum_ite_one nd.2 (by rcases List.mem_cons.mp h with q | q; exact absurd q.symm e; exact q)]; omega
theorem dot_map (a f : List Int → Int) : ∀ l : List (List Int), dotI (l.map a) (l.map f) = (l.map fun c => a c * f c).sum
  | [] => rfl
  | c :: l => by
    have ih := dot_map a f l
    unfold dotI at *
    simp only [List.map_cons, List.zip_cons_cons, List.sum_cons, ih]
theorem sum_add (a b : List Int → Int) : ∀ l : List (List Int), (l.map fun c => a c + b c).sum = (l.map a).sum + (l.map b).sum
  | [] => rfl
  | c :: l => by simp only [List.map_cons, List.sum_cons, sum_add a b l]; omega
theorem cnt_dot {ms : List Int} (s : Snd ms) (f : List Int → Int) : ∀ {ps : List (List Int)}, (∀ c ∈ ps, c ∈ cellsOf ms) → dotI (cntL ms ps) ((cellsOf ms).map f) = (ps.map f).sum
  | [], _ => by
    unfold cntL
    rw [dot_map]
    have : ((cellsOf ms).map fun c => ((([] : List (List Int)).count c : Nat) : Int) * f c) = (cellsOf ms).map fun _ => (0 : Int) := List.map_congr_left fun c _ => by simp
    rw [this]
    generalize cellsOf ms = l
    induction l with
    | nil => rfl
    | cons _ _ ih => simp only [List.map_cons, List.sum_cons]; rw [ih]; rfl
  | p :: ps, h => by
    have ih := cnt_dot s f (ps := ps) fun c hc => h c (List.mem_cons_of_mem _ hc)
    have nd := (bet_facts s).2.2.2
    unfold cntL at *
    rw [dot_map] at *
    rw [List.map_cons, List.sum_cons, ← ih, ← sum_ite_one (f := f) nd (h p List.mem_cons_self), ← sum_add]
    congr 1
    refine List.map_congr_left fun c _ => ?_
    rw [List.count_cons]
    by_cases e : c = p
    · subst e; simp; rw [Int.add_mul]; omega
    · rw [if_neg e, if_neg (by simp; exact fun z => e z.symm)]; simp
theorem cnt_sum {ms : List Int} (s : Snd ms) {ps : List (List Int)} (h : ∀ c ∈ ps, c ∈ cellsOf ms) : (cntL ms ps).sum = ps.length := by
  have := cnt_dot s (fun _ => 1) h
  have e : dotI (cntL ms ps) ((cellsOf ms).map fun _ => 1) = (cntL ms ps).sum := by
    unfold cntL
    rw [dot_map]
    congr 1
    exact List.map_congr_left fun c _ => by simp
  rw [e] at this
  rw [this]
  clear this e h
  induction ps with
  | nil => rfl
  | cons _ _ ih => simp only [List.map_cons, List.sum_cons, ih, List.length_cons]; omega
theorem cnt_wts {ms : List Int} (s : Snd ms) {ps : List (List Int)} (h : ∀ c ∈ ps, c ∈ cellsOf ms) (h1 : ps ≠ []) (h2 : ps.length ≤ 1000) : Wts ms (cntL ms ps) :=
  ⟨s, by rw [cnt_len]; exact cells_len s, fun w hw => (cnt_bd w hw).1, fun w hw => by have := (cnt_bd w hw).2; omega, by rw [cnt_sum s h]; have := List.length_pos_iff.mpr h1; omega⟩
end Lw
namespace Lw
open PySem L2 DL
theorem rep_0 (n : Nat) (hn : n ≤ 1000) (S : Store) : oRepOwn (.d (.lst [.int 0])) (.d (.int (n : Nat))) S = some (.ok (.ptr S.length), S ++ [(List.replicate n (0 : Int)).map D.int]) := by
  unfold oRepOwn
  dsimp only
  rw [if_pos ⟨by omega, by omega, by rw [Int.toNat_natCast]; simp; omega⟩, Int.toNat_natCast]
  have : (List.replicate n [D.int 0]).flatten = (List.replicate n (0 : Int)).map D.int := by
    rw [List.map_replicate]
    clear hn
    induction n with
    | zero => rfl
    | succ n ih => rw [List.replicate_succ, List.flatten_cons, ih]; rfl
  rw [this]
theorem cnt_loop {ms : List Int} (s : Snd ms) {S : Store} {ps : List (List Int)} {k j : Nat} (h : LogAt S ms ps k j) (all : List D) : ∀ (L acc : List (List Int)) (e2 : Option SV), (∀ c ∈ L, c ∈ cellsOf ms) → ∃ x2,
    forL (.one 2) none all b0_counts (L.map cD) [some (.obj k), some (.ptr S.length), e2] (S ++ [(cntL ms acc).map D.int]) = some (.nx [some (.obj k), some (.ptr S.length), x2], S ++ [(cntL ms (acc ++ L)).map D.int])
  | [], acc, e2, _ => ⟨e2, by rw [List.append_nil]; rfl⟩
  | c :: L, acc, e2, hc => by
    have hcm := hc c List.mem_cons_self
    have k1 := cell_ix' s hcm
    generalize hi : (plI 0 ms c).toNat = i at k1
    obtain ⟨x2, ih⟩ := cnt_loop s h all L (acc ++ [c]) (some (.d (cD c))) fun d hd => hc d (List.mem_cons_of_mem _ hd)
    refine ⟨x2, ?_⟩
    rw [List.append_assoc, List.singleton_append] at ih
    rw [← ih]
    have vp := v_place s k1
    have il := (List.getElem?_eq_some_iff.mp k1).1
    have hN := cells_len s
    have hp := s.p
    have lf := lf_shape (h.ext [(cntL ms acc).map D.int])
    have st : b0_counts [some (.obj k), some (.ptr S.length), some (.d (cD c))] (S ++ [(cntL ms acc).map D.int]) = some (.nx [some (.obj k), some (.ptr S.length), some (.d (cD c))], S ++ [(cntL ms (acc ++ [c])).map D.int]) := by
      have := at_AugI (gg := fun i j => i + j) (fo := eVar 1) (fi := eCall asPure m_place [] (aCons (eUn (oFld okF "shape") (eVar 0)) (aCons (eVar 2) aNil))) (fe := eC (.int 1)) (env := [some (.obj k), some (.ptr S.length), some (.d (cD c))]) (S := S ++ [(cntL ms acc).map D.int]) (S1 := S ++ [(cntL ms acc).map D.int]) (S2 := S ++ [(cntL ms acc).map D.int]) (S3 := S ++ [(cntL ms acc).map D.int]) (k := S.length) (n := (i : Nat)) (a := ((acc.count c : Nat) : Int)) (b := 1) (l := (cntL ms acc).map D.int)
        rfl (by exists lf, vp) ⟨by omega, by omega⟩ (by simp) (by rw [Int.toNat_natCast, List.getElem?_map, cnt_at k1]; rfl) rfl (by simp)
      show sAugI _ _ _ _ _ _ = _
      rw [this, Int.toNat_natCast]
      have q : ((cntL ms acc).map D.int).set i (.int (((acc.count c : Nat) : Int) + 1)) = (cntL ms (acc ++ [c])).map D.int := by
        rw [← cnt_step s k1, List.map_set]
      rw [q]
      simp
    exact for_nx rfl st trivial
theorem v_counts {ms : List Int} (s : Snd ms) {S : Store} {ps : List (List Int)} {k j : Nat} (h : LogAt S ms ps k j) (hc : ∀ c ∈ ps, c ∈ cellsOf ms) : m_counts [.obj k] S = some (.ok (.fresh ((cntL ms ps).map D.int)), S) := by
  have hN := cells_len s
  have hp := s.p
  have cc : m_count_cells [.d (.tup (ms.map D.int))] = ret (.d (.int (prodI 1 ms))) := v_countS true s
  have lf := lf_shape h
  have rp := rep_0 (cellsOf ms).length (by omega) S
  rw [← cnt_nil, hN] at rp
  have nf := l_nf (nm := "plays") (h.ext [(cntL ms []).map D.int])
  have vp := call_atF rfl (v_plays (h.ext [(cntL ms []).map D.int])) (clsd_cells ps)
  obtain ⟨x2, lp⟩ := cnt_loop s h (ps.map cD) ps [] none hc
  rw [List.nil_append] at lp
  apply fn_FT (k := 0) (T := [(cntL ms ps).map D.int]) rfl
  · show y_counts [some (.obj k), none, none] S = _
    unfold y_counts
    exists lf, cc, rp, nf, vp, lp
  · rfl
  · simp
  · rfl
  · exact clsd_map (fun _ => rfl) _
end Lw
namespace Lw
open PySem L2 DL
section
variable {S : Store} {ms : List Int} {ps : List (List Int)} {k j : Nat} {R : List (List Int)}
theorem c_counts (s : Snd ms) (h : LogAt S ms ps k j) (hc : ∀ c ∈ ps, c ∈ cellsOf ms) : callM asPure m_counts [.obj k] S = some (.ok (.d (.lst ((cntL ms ps).map D.int))), S) := call_atF rfl (v_counts s h hc) (clsd_map (fun _ => rfl) _)
theorem v_loghint (s : Snd ms) (h : LogAt S ms ps k j) (hc : ∀ c ∈ ps, c ∈ cellsOf ms) (hl : ps.length ≤ 1000) : m_Log_hint [.obj k] S = some (.ok (.d (if ps = [] then .non else hintD ms (lowI (cntL ms ps)))), S) := by
  have lf := lf_plays h
  have ls := lf_shape h
  have ta : asTA (.ptr j) S = some (.ok (!ps.isEmpty), S) := by
    have sq : Sq S (.ptr j) (ps.map cD) := sq_p h.l (clsd_cells ps)
    unfold asTA
    simp only [sq.seq, List.isEmpty_map]
  by_cases e : ps = []
  · subst e
    rw [if_pos rfl]
    apply fn_DT (T := []) rfl
    · show y_Log_hint [some (.obj k)] S = _
      unfold y_Log_hint
      exists lf, ta
    · simp
  · rw [if_neg e]
    have e' : ps.isEmpty = false := by cases ps; exact absurd rfl e; rfl
    rw [e'] at ta
    have cc := c_counts s h hc
    have mk := v_hint (cnt_wts s hc e hl) S
    apply fn_DT (T := []) rfl
    · show y_Log_hint [some (.obj k)] S = _
      unfold y_Log_hint
      exists lf, ls, ta, cc, mk
    · simp
end
end Lw
namespace Lw
open PySem L2 DL
theorem v_newlog {ms : List Int} (s : Snd ms) (S : Store) : mkO "Log" m_Log___init__ [.d (.tup (ms.map D.int))] S = some (.ok (.obj S.length), S ++ [logI ms (S.length + 1), []]) := by
  have sh : callM asPure m_is_shape [.d (.tup (ms.map D.int))] = ret (.d (.bl true)) := call_pure rfl (v_shapeS true s)
  have bt' : bTuple [.d (.tup (ms.map D.int))] = ret (.d (.tup (ms.map D.int))) := bTuple_t _
  let E : DL.Env := [some (.obj S.length), some (.d (.tup (ms.map D.int)))]
  have f1 := st_SetF (ok := okF) (fld := "shape") (c := "Log") (fo := eVar 0) (fe := eArg bTuple (aCons (eVar 1) aNil)) (env := E) (x := .tup (ms.map D.int)) (k := S.length) (fs := []) (l := []) (S := S ++ [[D.ins "Log" [] []]]) (S1 := S ++ [[D.ins "Log" [] []]]) (S2 := S ++ [[D.ins "Log" [] []]]) (by exists bt') rfl (by simp) (by decide)
  have e1 : (S ++ [[D.ins "Log" [] []]]).set S.length [D.ins "Log" (putD "shape" (.tup (ms.map D.int)) [] []).1 (putD "shape" (.tup (ms.map D.int)) [] []).2] = S ++ [[D.ins "Log" ["shape"] [.tup (ms.map D.int)]]] := by simp [putD]
  rw [e1] at f1
  have f2 := st_SetFO (ok := okF) (fld := "_plays") (c := "Log") (fo := eVar 0) (fe := eArg mkOwn aNil) (env := E) (j := S.length + 1) (k := S.length) (fs := ["shape"]) (l := [.tup (ms.map D.int)]) (S := S ++ [[D.ins "Log" ["shape"] [.tup (ms.map D.int)]]]) (S1 := S ++ [[D.ins "Log" ["shape"] [.tup (ms.map D.int)]]] ++ [[]]) (S2 := S ++ [[D.ins "Log" ["shape"] [.tup (ms.map D.int)]]] ++ [[]]) (by
    have mo : mkOwn [] (S ++ [[D.ins "Log" ["shape"] [.tup (ms.map D.int)]]]) = some (.ok (.ptr (S.length + 1)), S ++ [[D.ins "Log" ["shape"] [.tup (ms.map D.int)]]] ++ [[]]) := by
      have := q_mkOwn (S := S ++ [[D.ins "Log" ["shape"] [.tup (ms.map D.int)]]]) (xs := []) (ds := []) rfl rfl
      rw [List.length_append] at this
      exact this
    exists mo) rfl (by simp) (by decide)
  have e2 : (S ++ [[D.ins "Log" ["shape"] [.tup (ms.map D.int)]]] ++ [[]]).set S.length [D.ins "Log" (putD "_plays" (.own (S.length + 1)) ["shape"] [.tup (ms.map D.int)]).1 (putD "_plays" (.own (S.length + 1)) ["shape"] [.tup (ms.map D.int)]).2] = S ++ [logI ms (S.length + 1), []] := by
    have : ("shape" : Str) ≠ "_plays" := by decide +kernel
    simp [putD, logI, this]
  rw [e2] at f2
  refine mkO_at rfl (fn_Un (e := E) rfl ?_)
  show y_Log___init__ E (S ++ [[D.ins "Log" [] []]]) = _
  unfold y_Log___init__
  exists sh, f1, f2
end Lw
namespace Lw
open PySem L2 DL
section
variable {S : Store} {ms ms' : List Int} {ps : List (List Int)} {k j : Nat} {R : List (List Int)}
theorem v_playS (s : Snd ms) (h : LogAt S ms ps k j) {c : List Int} (hc : c ∈ cellsOf ms) (hl : ps.length ≤ 1000) :
    callM asPure m_Log_play [.obj k, .d (cD c)] S = some (.ok (.d .non), S.set j ((ps ++ [c]).map cD)) := by
  have ls := lf_shape h
  have lf := lf_plays h
  have vc := v_cc s hc
  have ap := st_App (env := [some (.obj k), some (.d (cD c))]) (fo := eUn (oFld okF "_plays") (eVar 0)) (fe := eVar 1) (S := S) (S1 := S) (S2 := S) (x := cD c) (k := j) (by exists lf) rfl h.l (by rw [List.length_map]; omega)
  have e1 : ps.map cD ++ [cD c] = (ps ++ [c]).map cD := by rw [List.map_append]; rfl
  rw [e1] at ap
  refine call_at rfl ?_
  have hs : (S.set j ((ps ++ [c]).map cD)).length = S.length := by simp
  have := fn_non (np := 2) (n := 2) (body := y_Log_play) (as := [.obj k, .d (cD c)]) (S := S) (S1 := S.set j ((ps ++ [c]).map cD)) (env1 := [some (.obj k), some (.d (cD c))]) rfl (by
    show y_Log_play [some (.obj k), some (.d (cD c))] S = _
    unfold y_Log_play
    exists ls, vc, ap) (by
    refine cal_set ⟨fun q hq => ?_, fun c' fs l' e q hq => ?_⟩
    · obtain ⟨z, _, hz⟩ := List.mem_map.mp hq
      cases hz
    · have : ∀ d ∈ (ps ++ [c]).map cD, ∃ z, d = cD z := fun d hd => by obtain ⟨z, _, rfl⟩ := List.mem_map.mp hd; exact ⟨z, rfl⟩
      rw [e] at this
      obtain ⟨z, hz⟩ := this _ List.mem_cons_self
      cases hz)
  rw [← hs, List.take_length] at this
  exact this
theorem bh_loop (s : Snd ms) (S : Store) (e0 e1 : Option SV) (all : List D) : ∀ (L acc : List (List Int)) (e3 : Option SV), (∀ c ∈ L, c ∈ cellsOf ms) → acc.length + L.length ≤ 1000 → ∃ x3,
    forL (.one 3) none all (sDrop (eMethB "Log" "play" asPure m_Log_play (eVar 2) (aCons (eVar 3) aNil))) (L.map cD) [e0, e1, some (.obj S.length), e3] (S ++ [logI ms (S.length + 1), acc.map cD]) = some (.nx [e0, e1, some (.obj S.length), x3], S ++ [logI ms (S.length + 1), (acc ++ L).map cD])
  | [], acc, e3, _, _ => ⟨e3, by rw [List.append_nil]; exact for_nil⟩
  | c :: L, acc, e3, hc, hl => by
    have la : LogAt (S ++ [logI ms (S.length + 1), acc.map cD]) ms acc S.length (S.length + 1) := ⟨by simp, by simp⟩
    rw [List.length_cons] at hl
    have vp := v_playS s la (hc c List.mem_cons_self) (by omega)
    have e : (S ++ [logI ms (S.length + 1), acc.map cD]).set (S.length + 1) ((acc ++ [c]).map cD) = S ++ [logI ms (S.length + 1), (acc ++ [c]).map cD] := by
      rw [List.set_append, if_neg (by omega), show S.length + 1 - S.length = 1 by omega]; rfl
    rw [e] at vp
    have nf := l_nf (nm := "play") la
    obtain ⟨x3, ih⟩ := bh_loop s S e0 e1 all L (acc ++ [c]) (some (.d (cD c))) (fun d hd => hc d (List.mem_cons_of_mem _ hd)) (by simp; omega)
    rw [List.append_assoc, List.singleton_append] at ih
    refine ⟨x3, ?_⟩
    rw [← ih]
    refine for_nx rfl ?_ trivial
    exists nf, vp
theorem v_behind (s : Snd ms) (h : LogAt S ms ps k j) (hc : ∀ c ∈ ps, c ∈ cellsOf ms) (hl : ps.length ≤ 1000) {n : Nat} (hn : n ≤ ps.length) :
    callM asPure m_Log_behind [.obj k, .d (.int (n : Nat))] S = some (.ok (.obj S.length), S ++ [logI ms (S.length + 1), (ps.take n).map cD]) := by
  have sq : Sq S (.ptr j) (ps.map cD) := sq_p h.l (clsd_cells ps)
  have wh : callM asPure m_is_whole [.d (.int (n : Nat))] = ret (.d (.bl true)) := call_pure rfl (v_whole (.int (n : Nat)) rfl)
  have ln : bLen [.ptr j] S = some (.ok (.d (.int (ps.length : Nat))), S) := by have := sq.len; rw [List.length_map] at this; exact this
  have d1 : decide ((0 : Int) ≤ (n : Nat)) = true := decide_eq_true (by omega)
  have d2 : decide (((n : Nat) : Int) ≤ (ps.length : Nat)) = true := decide_eq_true (by omega)
  have lf := lf_plays h
  have ls := lf_shape h
  have mk := v_newlog s S
  have h2 := h.ext [logI ms (S.length + 1), []]
  have lf2 := lf_plays h2
  have sq2 : Sq (S ++ [logI ms (S.length + 1), []]) (.ptr j) (ps.map cD) := sq.ext _
  have it2 : items (S ++ [logI ms (S.length + 1), []]) (.ptr j) = some (ps.map cD) := by
    show cellC _ j = _
    unfold cellC
    rw [h2.l, Option.bind_some, if_pos (clsd_cells ps)]
  have sl : oSl (.ptr j) none (some ((n : Nat) : Int)) (S ++ [logI ms (S.length + 1), []]) = some (.ok (.d (.lst ((ps.take n).map cD))), S ++ [logI ms (S.length + 1), []]) := by
    show (match items (S ++ [logI ms (S.length + 1), []]) (.ptr j) with
      | some l => some (R.ok (SV.d (.lst (cutD l none (some ((n : Nat) : Int))))), S ++ [logI ms (S.length + 1), []])
      | none => none) = _
    rw [it2]
    dsimp only
    rw [cut_to _ (by rw [List.length_map]; exact hn), List.map_take]
  obtain ⟨x3, lp⟩ := bh_loop s S (some (.obj k)) (some (.d (.int (n : Nat)))) ((ps.take n).map cD) (ps.take n) [] none (fun c hc' => hc c (List.mem_of_mem_take hc')) (by simp; omega)
  rw [List.nil_append, List.map_nil] at lp
  refine call_U (.inl rfl) rfl (fn_U rfl ?_)
  show y_Log_behind [some (.obj k), some (.d (.int (n : Nat))), none, none] S = _
  unfold y_Log_behind
  exists wh, ln, d1, d2, lf, ls, mk, lf2, sl, lp
end
end Lw
namespace Lw
open PySem L2 DL
def cellB (ms : List Int) : D → Bool
  | .tup l => decide (l.length = ms.length) && l.zipIdx.all fun x => inN (ms.getD x.2 0) x.1
  | _ => false
theorem enum_tup (l : List D) (k : Nat) : enumD k l = (l.zipIdx k).map fun x : D × Nat => D.tup [.int (x.2 : Nat), x.1] := by
  induction l generalizing k with
  | nil => rfl
  | cons d l ih =>
    rw [List.zipIdx_cons, List.map_cons, ← ih]
    rfl
theorem v_isC {ms : List Int} (s : Snd ms) (v : D) (hb : basic v = true) (hl : ∀ l, v = .tup l → ∀ d ∈ l, basic d = true) : m_is_cell [.d (.tup (ms.map D.int)), .d v] = ret (.d (.bl (cellB ms v))) := by
  refine fn_B rfl fun S => ?_
  let E : DL.Env := [some (.d (.tup (ms.map D.int))), some (.d v), none, none]
  show y_is_cell E S = _
  unfold y_is_cell
  by_cases ht : ∃ l, v = .tup l
  · obtain ⟨l, rfl⟩ := ht
    have i1 : bIsi [.d (.tup l), .d (.ty "tuple")] = ret (.d (.bl true)) := by simp [bIsi, tyN]
    have t : (tyOr (tyNot (eTst (eArg bIsi (aCons (eVar 1) (aCons (eC (.ty "tuple")) aNil))))) (eTst (eOp oNe (eArg bLen (aCons (eVar 1) aNil)) (eArg bLen (aCons (eVar 0) aNil))))) E = ret (!decide (l.length = ms.length)) := by
      simp only [ev_tyOr, ev_tyNot, ev_Tst, ev_Arg, ev_Op, ev_Cons, ev_Nil, ev_C, E, eVar, List.getElem?_cons_zero, List.getElem?_cons_succ, bnd_ret', i1, bLen_t, List.length_map, oNe_i, asB_b, Bool.not_true, Bool.false_eq_true, if_false]
      by_cases q : l.length = ms.length
      · simp [q]
      · have q' : ¬ ((l.length : Int) = (ms.length : Int)) := by omega
        simp [q, q']
    by_cases q : l.length = ms.length
    · rw [decide_eq_true q] at t
      rw [st_SeqN (env' := E) (S' := S) (by rw [sIf_pick t]; rfl)]
      refine st_Ret ?_
      have a1 : (eLc [2, 3] (.many [2, 3]) (eArg walkE (aCons (eVar 1) aNil)) tYesD (eCall asPure m_is_move [] (aCons (eVar 0) (aCons (eVar 2) (aCons (eVar 3) aNil))))) E = ret (.d (.lst (l.zipIdx.map fun x => D.bl (inN (ms.getD x.2 0) x.1)))) :=
        lcA_all (fun x : D × Nat => D.tup [.int (x.2 : Nat), x.1]) (fun x => .bl (inN (ms.getD x.2 0) x.1)) (by
          rw [ev_ArgR (as := [.d (.tup l)]) (x := (enumD 0 l, none)) rfl rfl, enum_tup]) (fun x hx => ⟨[some (.d (.tup (ms.map D.int))), some (.d (.tup l)), some (.d (.int (x.2 : Nat))), some (.d x.1)], rfl, by
          have q2 : l[x.2]? = some x.1 := by
            have := List.mem_zipIdx_iff_getElem?.mp hx
            simpa using this
          have hp : x.2 < l.length := (List.getElem?_eq_some_iff.mp q2).1
          have hbx := hl l rfl x.1 (List.mem_of_getElem? q2)
          exact ev_CallR (as := [.d (.tup (ms.map D.int)), .d (.int (x.2 : Nat)), .d x.1]) rfl (call_pure (by cases x.1 <;> rfl) (v_ism (by omega) x.1 hbx))⟩) (by rw [List.length_zipIdx, q]; have := s.l2; omega)
      rw [ev_ArgR (as := [.d (.lst (l.zipIdx.map fun x => D.bl (inN (ms.getD x.2 0) x.1)))]) (by simp only [ev_Cons, ev_Nil, a1, bnd_ret']) (bAll_map (fun x : D × Nat => inN (ms.getD x.2 0) x.1) _)]
      simp only [cellB, q, decide_true, Bool.true_and]
      rfl
    · rw [decide_eq_false q] at t
      refine st_SeqR ?_
      rw [sIf_pick t]
      simp only [cellB, decide_eq_false q, Bool.false_and, Bool.not_false, if_true]
      rfl
  · have i1 : bIsi [.d v, .d (.ty "tuple")] = ret (.d (.bl false)) := by
      cases v <;> first | (exfalso; exact ht ⟨_, rfl⟩) | (simp [bIsi, tyN]; done) | (cases hb; done)
    have t : (tyOr (tyNot (eTst (eArg bIsi (aCons (eVar 1) (aCons (eC (.ty "tuple")) aNil))))) (eTst (eOp oNe (eArg bLen (aCons (eVar 1) aNil)) (eArg bLen (aCons (eVar 0) aNil))))) E = ret true := by
      simp only [ev_tyOr, ev_tyNot, ev_Tst, ev_Arg, ev_Cons, ev_Nil, ev_C, E, eVar, List.getElem?_cons_zero, List.getElem?_cons_succ, bnd_ret', i1, asB_b, Bool.not_false, if_true]
    refine st_SeqR ?_
    rw [sIf_pick t]
    have : cellB ms v = false := by cases v <;> first | rfl | (exfalso; exact ht ⟨_, rfl⟩)
    rw [this]
    rfl
theorem er_cc {ms : List Int} (s : Snd ms) {v : D} (hb : basic v = true) (hl : ∀ l, v = .tup l → ∀ d ∈ l, basic d = true) (h : cellB ms v = false) (S : Store) : m_check_cell [.d (.tup (ms.map D.int)), .d v] S = some (.err "NoCell" ["cell"] [v], S) := by
  let E : DL.Env := [some (.d (.tup (ms.map D.int))), some (.d v)]
  have t : (tyNot (eTst (eCall asPure m_is_cell [] (aCons (eVar 0) (aCons (eVar 1) aNil))))) E = ret true := by
    simp only [ev_tyNot, ev_Tst, ev_CallR (env := E) (fa := aCons (eVar 0) (aCons (eVar 1) aNil)) (cv := asPure) (as := [.d (.tup (ms.map D.int)), .d v]) rfl (call_pure (by cases v <;> rfl) (v_isC s v hb hl)), bnd_ret', asB_b, h, Bool.not_false]
  have := fn_er (np := 2) (n := 2) (body := y_check_cell) (S := S) (as := [.d (.tup (ms.map D.int)), .d v]) (c := "NoCell") (fs := ["cell"]) (l := [v]) (e := E) (S1 := S) rfl (by
    show sIf _ _ _ E S = _
    rw [sIf_pick t, if_pos rfl]
    exact st_R1 (x := v) (S' := S) rfl)
  rw [List.take_length] at this
  exact this
end Lw
namespace Lw
open PySem L2 DL
theorem gd_loopK (all : List D) (kk : KK) (e0 : Option SV) (S : Store) (hq : keepOk kk all S) : ∀ (ns : List Int) (f : Nat) (e2 e3 e4 : Option SV), f < 2 ^ 4000 → (∀ n ∈ ns, Sm 4000 n) → ∃ x2 x3 x4,
    forL (.one 2) kk all (sSeq (sSet 3 (eArg bAbs (aCons (eVar 2) aNil))) (sSeq (sSet 4 (eVar 1)) (sSeq (whL wT wB 100000) (sSet 1 (eVar 3))))) (ns.map D.int) [e0, some (.d (.int f)), e2, e3, e4] S = some (.nx [e0, some (.d (.int (gFold f ns))), x2, x3, x4], S)
  | [], f, e2, e3, e4, _, _ => ⟨e2, e3, e4, for_nil⟩
  | n :: ns, f, e2, e3, e4, hf, hn => by
    have hn0 : Sm 4000 n := hn n List.mem_cons_self
    have hf' : Nat.gcd n.natAbs f < 2 ^ 4000 := by
      by_cases h : n.natAbs = 0
      · rw [h, Nat.gcd_zero_left]; exact hf
      · exact Nat.lt_of_le_of_lt (Nat.gcd_le_left _ (by omega)) hn0
    obtain ⟨x2, x3, x4, ih⟩ := gd_loopK all kk e0 S hq ns (Nat.gcd n.natAbs f) (some (.d (.int n))) (some (.d (.int (Nat.gcd n.natAbs f)))) (some (.d (.int 0))) hf' (fun m hm => hn m (List.mem_cons_of_mem _ hm))
    refine ⟨x2, x3, x4, ?_⟩
    rw [List.map_cons, for_nx (kk := kk) (all := all) (env2 := [e0, some (.d (.int (Nat.gcd n.natAbs f))), some (.d (.int n)), some (.d (.int (Nat.gcd n.natAbs f))), some (.d (.int 0))]) (S2 := S) rfl ?_ hq]
    · exact ih
    · show sSeq _ _ [e0, some (.d (.int f)), some (.d (.int n)), e3, e4] S = _
      have ab : (if n < 0 then -n else n) = (n.natAbs : Int) := by split <;> omega
      rw [st_SeqN (st_Set (a := .d (.int (n.natAbs : Int))) (S' := S) (by simp only [ev_Arg, ev_Cons, ev_Nil, eVar, List.getElem?_cons_zero, List.getElem?_cons_succ, bnd_ret', bAbs_i, ab]; rfl))]
      rw [st_SeqN (st_Set (a := .d (.int f)) (S' := S) rfl)]
      show sSeq (whL wT wB 100000) _ [e0, some (.d (.int f)), some (.d (.int n)), some (.d (.int (n.natAbs : Int))), some (.d (.int f))] S = _
      rw [st_SeqN (gw_loop e0 (some (.d (.int f))) (some (.d (.int n))) S 4000 n.natAbs f 100000 hf (by decide))]
      rw [st_Set (a := .d (.int (Nat.gcd n.natAbs f))) (S' := S) rfl]
      rfl
theorem v_divS {S : Store} {x : SV} {ns : List Int} (h : Sq S x (ns.map D.int)) (hs : ∀ n ∈ ns, Sm 4000 n) : m__law_divisor [x] S = some (.ok (.d (.int (gFold 0 ns))), S) := by
  obtain ⟨kk, w⟩ := h.wk
  have hq0 : keepOk kk (ns.map D.int) S := by have := w.2 []; rwa [List.append_nil] at this
  refine fn_retE rfl ?_ rfl
  show y__law_divisor [some x, none, none, none, none] S = _
  unfold y__law_divisor
  rw [st_SeqN (st_Set (a := .d (.int 0)) (S' := S) rfl)]
  obtain ⟨x2, x3, x4, hx⟩ := gd_loopK (ns.map D.int) kk (some x) S hq0 ns 0 none none none (Nat.two_pow_pos _) hs
  show sSeq _ _ [some x, some (.d (.int 0)), none, none, none] S = _
  rw [st_SeqN (by rw [st_For (ds := ns.map D.int) (kk := kk) (S' := S) (w.it rfl)]; exact hx)]
  rw [st_Ret (a := .d (.int (gFold 0 ns))) (S' := S) rfl]
theorem v_leastS {S : Store} {x : SV} {ns : List Int} (h : Sq S x (ns.map D.int)) (hn : ns.length ≤ 100000) (hs : ∀ n ∈ ns, Sm 4000 n) : m__law_least_terms [x] S = some (.ok (.fresh ((lowI ns).map D.int)), S) := by
  have hg := gFold_sm ns 0 (Nat.two_pow_pos _) hs
  obtain ⟨kk, w⟩ := h.wk
  have body : y__law_least_terms [some x, none, none] S = some (.rt (.ptr S.length), S ++ [(lowI ns).map D.int]) := by
    unfold y__law_least_terms
    rw [st_SeqN (st_Set (a := .d (.int (gFold 0 ns))) (S' := S) (ev_CallS (args1 rfl) (call_at (by rw [h.no]; rfl) (v_divS h hs))))]
    show sSeq _ _ [some x, some (.d (.int (gFold 0 ns))), none] S = _
    unfold lowI
    by_cases h0 : gFold 0 ns = 0
    · rw [if_pos h0]
      refine st_SeqR ?_
      rw [st_IfT (S' := S) (by simp [eVar, h0])]
      exact st_Ret (ev_ArgS (args1 rfl) h.own)
    · rw [if_neg h0]
      rw [st_SeqN (env' := [some x, some (.d (.int (gFold 0 ns))), none]) (S' := S) (by
        rw [st_IfF (S' := S) (by simp [eVar, h0])]
        rfl)]
      refine st_Ret ?_
      have hl : (gFold 0 ns : Int).natAbs.log2 < 9000 := Nat.lt_of_lt_of_le (log2_lt (k := 4000) (by rw [Int.natAbs_natCast]; exact hg) (by decide)) (by decide)
      rw [lcKO (kk := kk) D.int (fun n => D.int (n.fdiv (gFold 0 ns : Int))) (w.it rfl) w.2 (fun n _ => ⟨[some x, some (.d (.int (gFold 0 ns))), some (.d (.int n))], rfl, by
        show oFdiv (.d (.int n)) (.d (.int (gFold 0 ns))) = _
        exact oFdiv_i (by omega) hl⟩) (by omega), List.map_map]
      rfl
  refine (fn_retP (np := 1) (n := 3) (body := y__law_least_terms) (as := [x]) (k := S.length) (x := (lowI ns).map D.int) (S1 := S ++ [(lowI ns).map D.int]) rfl body (Nat.le_refl _) (by simp)).trans ?_
  simp
end Lw
namespace Lw
open PySem L2 DL
theorem o_own {c : Str} {m : Fn} {x y : D} {d : D} (h : isOf c (.d x) = true) (hm : m [.d x, .d y] = ret (.d d)) (hn : noExc [SV.d x, SV.d y] = true) : oOwn c m (.d x) (.d y) = ret (.d d) := by
  show callO c asPure m [.d x, .d y] = _
  show (if isOf c (.d x) = true then callM asPure m [.d x, .d y] else stuck) = _
  rw [if_pos h]
  exact call_pure hn hm
theorem v_eqS (ms ws : List Int) : m_Hint___eq__ [.d (hintD ms ws), .d (hintD ms ws)] = ret (.d (.bl true)) := by
  refine fn_R rfl ?_
  have i1 : bIsiC "Hint" [.d (hintD ms ws), .d (.cls "Hint")] = ret (.d (.bl true)) := by
    unfold bIsiC
    dsimp only
    rw [if_pos rfl, if_pos (by rfl)]
  have f1 : oFld okF "shape" (.d (hintD ms ws)) = ret (.d (.tup (ms.map D.int))) := rfl
  have f2 : oFld okF "_weights" (.d (hintD ms ws)) = ret (.d (.lst (ws.map D.int))) := rfl
  have e1 : oEq (.d (.tup (ms.map D.int))) (.d (.tup (ms.map D.int))) = ret (.d (.bl true)) := by rw [oEq_d (eqOk_intsT ms ms), eqD_intsT, decide_eq_true rfl]
  have e2 : oEq (.d (.lst (ws.map D.int))) (.d (.lst (ws.map D.int))) = ret (.d (.bl true)) := by rw [oEq_d (eqOk_ints ws ws), eqD_ints, decide_eq_true rfl]
  refine q_fun fun S => ?_
  show (eAnd (eArg (bIsiC "Hint") (aCons (eVar 1) (aCons (eC (.cls "Hint")) aNil))) _) [some (.d (hintD ms ws)), some (.d (hintD ms ws))] S = _
  exists i1, f1, f2, e1, e2
theorem o_eqS (ms ws : List Int) : oEqO "Hint" m_Hint___eq__ (.d (hintD ms ws)) (.d (hintD ms ws)) = ret (.d (.bl true)) := by
  unfold oEqO
  rw [if_pos (by rfl)]
  exact o_own rfl (v_eqS ms ws) rfl
section
variable {S : Store} {ms : List Int} {ps : List (List Int)} {k j : Nat}
theorem v_loglen (h : LogAt S ms ps k j) : m_Log___len__ [.obj k] S = some (.ok (.d (.int (ps.length : Nat))), S) := by
  have lf := lf_plays h
  have sq : Sq S (.ptr j) (ps.map cD) := sq_p h.l (clsd_cells ps)
  have ln : bLen [.ptr j] S = some (.ok (.d (.int (ps.length : Nat))), S) := by have := sq.len; rw [List.length_map] at this; exact this
  apply fn_DT (T := []) rfl
  · show y_Log___len__ [some (.obj k)] S = _
    unfold y_Log___len__
    exists lf, ln
  · simp
theorem eqD_cell (a b : List Int) : oEq (.d (cD a)) (.d (cD b)) = ret (.d (.bl (decide (a = b)))) := by
  unfold cD
  rw [oEq_d (eqOk_intsT a b), eqD_intsT]
theorem cnt_comp (s : Snd ms) (e0 e3 e4 e6 : Option SV) : c1__law_same [e0, some (.d (.lst (ms.map D.int))), some (.d (.lst (ps.map cD))), e3, e4, none, e6] = ret (.d (.lst ((cntL ms ps).map D.int))) ∨ 1000 < ps.length := by
  by_cases hl : ps.length ≤ 1000
  rotate_left
  · exact .inr (by omega)
  refine .inl ?_
  have hN := cells_len s
  have hp := s.p
  have cc := c_lcells s
  have ib : (iOf (eCall asPure m__law_cells [] (aCons (eVar 1) aNil))) [e0, some (.d (.lst (ms.map D.int))), some (.d (.lst (ps.map cD))), e3, e4, none, e6] = ret ((cellsOf ms).map cD, none) := q_fun fun S => by exists cc
  have := lcA_all (env := [e0, some (.d (.lst (ms.map D.int))), some (.d (.lst (ps.map cD))), e3, e4, none, e6]) (ws := [5]) (t := .one 5) (fe := eArg bLen (aCons c0__law_same aNil)) (ds := cellsOf ms) cD (fun c => .int ((ps.count c : Nat) : Int)) ib (fun c hc => ⟨[e0, some (.d (.lst (ms.map D.int))), some (.d (.lst (ps.map cD))), e3, e4, some (.d (cD c)), e6], rfl, q_fun fun S => by
    have ip : (iOf (eVar 2)) [e0, some (.d (.lst (ms.map D.int))), some (.d (.lst (ps.map cD))), e3, e4, some (.d (cD c)), e6] = ret (ps.map cD, none) := rfl
    have lc : c0__law_same [e0, some (.d (.lst (ms.map D.int))), some (.d (.lst (ps.map cD))), e3, e4, some (.d (cD c)), e6] = ret (.d (.lst ((ps.filter fun x => decide (x = c)).map cD))) :=
      lcA_ret (env := [e0, some (.d (.lst (ms.map D.int))), some (.d (.lst (ps.map cD))), e3, e4, some (.d (cD c)), e6]) (ws := [6]) (t := .one 6) (cond := eTst (eOp oEq (eVar 6) (eVar 5))) (fe := eVar 6) (ds := ps) cD (fun x => decide (x = c)) cD ip (fun x hx => ⟨[e0, some (.d (.lst (ms.map D.int))), some (.d (.lst (ps.map cD))), e3, e4, some (.d (cD c)), some (.d (cD x))], rfl, (q_fun fun S => by
        have e := eqD_cell x c
        exists e), fun _ => rfl⟩) (by omega)
    have ln : bLen [.d (.lst ((ps.filter fun x => decide (x = c)).map cD))] = ret (.d (.int ((ps.count c : Nat) : Int))) := by
      rw [bLen_l, List.length_map, List.count_eq_length_filter]
      congr 5
      exact List.filter_congr fun x _ => by rw [Bool.eq_iff_iff]; simp
    exists lc, ln⟩) (by omega)
  rw [show c1__law_same [e0, some (.d (.lst (ms.map D.int))), some (.d (.lst (ps.map cD))), e3, e4, none, e6] = _ from this]
  unfold cntL
  rw [List.map_map]; rfl
end
end Lw
namespace Lw
open PySem L2 DL
theorem cmp_cell (c : List Int) : Cmp 1 (cD c) := Cmp.tup fun d hd => by obtain ⟨i, _, rfl⟩ := List.mem_map.mp hd; exact Cmp.int i
theorem cmp_cells (l : List (List Int)) : Cmp 2 (.lst (l.map cD)) := Cmp.lst fun d hd => by obtain ⟨c, _, rfl⟩ := List.mem_map.mp hd; exact cmp_cell c
theorem eq_nil (l : List (List Int)) : oEq (.d (.lst (l.map cD))) (.d (.lst [])) = ret (.d (.bl l.isEmpty)) := by
  rw [oEq_d (Cmp.ok (n := 2) (m := 2) (cmp_cells l) (Cmp.lst fun d hd => by cases hd) (by decide) (by decide))]
  cases l <;> rfl
section
variable {S : Store} {ms : List Int} {ps : List (List Int)} {k j : Nat}
theorem v_lsame (s : Snd ms) (h : LogAt S ms ps k j) (hc : ∀ c ∈ ps, c ∈ cellsOf ms) (hl : ps.length ≤ 1000) :
    callM asPure m__law_same [.obj k, .d (.lst (ms.map D.int)), .d (.lst (ps.map cD))] S = some (.ok (.d (.bl true)), S) := by
  have lf := lf_shape h
  have bt' : bTuple [.d (.lst (ms.map D.int))] = ret (.d (.tup (ms.map D.int))) := bTuple_l _
  have n1 : oNe (.d (.tup (ms.map D.int))) (.d (.tup (ms.map D.int))) = ret (.d (.bl false)) := ne_same (n := 1) (cmp_cell ms) (by decide)
  have ll := lenOB_at (m := m_Log___len__) (l_nf (nm := "__len__") h) (call_at rfl (v_loglen h)) (by omega)
  have n2 := ne_same (Cmp.int ((ps.length : Nat) : Int)) (by decide)
  have nf := l_nf (nm := "plays") h
  have vp := call_atF rfl (v_plays h) (clsd_cells ps)
  have vo := call_atO rfl (v_plays h)
  have n3 := ne_same (cmp_cells ps) (by decide)
  have hx := h.ext [ps.map cD ++ [.tup [.int 0, .int 0]]]
  have nh := l_nf (nm := "hint") hx
  have vh := call_at rfl (v_loghint s hx hc hl)
  have en := eq_nil ps
  have hlt : (ps.map cD).length < 16777216 := by rw [List.length_map]; omega
  by_cases e : ps = []
  · subst e
    rw [if_pos rfl] at vh
    have nn : oIsN (.d .non) (.d .non) = ret (.d (.bl true)) := rfl
    refine call_at rfl (fn_DT (S1 := S ++ [([] : List (List Int)).map cD ++ [.tup [.int 0, .int 0]]]) (T := [([] : List (List Int)).map cD ++ [.tup [.int 0, .int 0]]]) rfl ?_ rfl)
    show y__law_same [some (.obj k), some (.d (.lst (ms.map D.int))), some (.d (.lst (([] : List (List Int)).map cD))), none, none, none, none] S = _
    unfold y__law_same
    exists lf, bt', n1, ll, n2, nf, vp, vo, n3, nh, vh, en, nn
    exact hlt
  · have e' : ps.isEmpty = false := by cases ps; exact absurd rfl e; rfl
    rw [e'] at en
    rw [if_neg e] at vh
    have W := cnt_wts s hc e hl
    have c1 := (cnt_comp (ms := ms) (ps := ps) s (some (.obj k)) (some (.d (hintD ms (lowI (cntL ms ps))))) none none).resolve_right (by omega)
    have mk := v_hint W (S ++ [ps.map cD ++ [.tup [.int 0, .int 0]]])
    have oe := o_eqS ms (lowI (cntL ms ps))
    have vw := call_atF (S1 := S ++ [ps.map cD ++ [.tup [.int 0, .int 0]]]) rfl (v_wM ms (lowI (cntL ms ps)) (S ++ [ps.map cD ++ [.tup [.int 0, .int 0]]])) (clsd_map (fun _ => rfl) _)
    have vl := call_atF (S1 := S ++ [ps.map cD ++ [.tup [.int 0, .int 0]]]) rfl (v_leastS (S := S ++ [ps.map cD ++ [.tup [.int 0, .int 0]]]) (x := .d (.lst ((cntL ms ps).map D.int))) (.inl rfl) (by rw [cnt_len]; have := cells_len s; have := s.p; omega) (fun n hn => sm_of (cnt_bd n hn).1 (by have := (cnt_bd n hn).2; omega))) (clsd_map (fun _ => rfl) _)
    have ee : oEq (.d (.lst ((lowI (cntL ms ps)).map D.int))) (.d (.lst ((lowI (cntL ms ps)).map D.int))) = ret (.d (.bl true)) := eq_same (cmp_ints _) (by decide)
    refine call_at rfl (fn_DT (S1 := S ++ [ps.map cD ++ [.tup [.int 0, .int 0]]]) (T := [ps.map cD ++ [.tup [.int 0, .int 0]]]) rfl ?_ rfl)
    show y__law_same [some (.obj k), some (.d (.lst (ms.map D.int))), some (.d (.lst (ps.map cD))), none, none, none, none] S = _
    unfold y__law_same
    exists lf, bt', n1, ll, n2, nf, vp, vo, n3, nh, vh, en, c1, mk, oe, vw, vl, ee
    exact hlt
def hL (ms : List Int) (ps : List (List Int)) : List D := if ps = [] then [] else [.tup [hintD ms (lowI (cntL ms ps)), .lst ((lowI (cntL ms ps)).map D.int)]]
theorem h_step (s : Snd ms) (h : LogAt S ms ps k j) (hc : ∀ c ∈ ps, c ∈ cellsOf ms) (hl : ps.length ≤ 1000) (acc : List D) (ha : acc.length ≤ 1000) (e0 e3 : Option SV) : ∃ x3,
    b0__law_hints [e0, some (.ptr S.length), some (.obj k), e3] (S ++ [acc]) = some (.nx [e0, some (.ptr S.length), some (.obj k), x3], S ++ [acc ++ hL ms ps]) := by
  have hx := h.ext [acc]
  have nh := l_nf (nm := "hint") hx
  have vh := call_at rfl (v_loghint s hx hc hl)
  have n0 : oNotN (.obj k) (.d .non) = ret (.d (.bl true)) := rfl
  unfold hL
  by_cases e : ps = []
  · subst e
    rw [if_pos rfl] at vh
    rw [if_pos rfl, List.append_nil]
    have n1 : oNotN (.d .non) (.d .non) = ret (.d (.bl false)) := rfl
    refine ⟨e3, ?_⟩
    exists nh, vh, n0, n1
  · rw [if_neg e] at vh
    rw [if_neg e]
    have n1 : oNotN (.d (hintD ms (lowI (cntL ms ps)))) (.d .non) = ret (.d (.bl true)) := rfl
    have vw := call_atF (S1 := S ++ [acc]) rfl (v_wM ms (lowI (cntL ms ps)) (S ++ [acc])) (clsd_map (fun _ => rfl) _)
    refine ⟨some (.d (hintD ms (lowI (cntL ms ps)))), ?_⟩
    exists nh, vh, n0, n1, vw
    exact (by omega : acc.length < 16777216)
theorem v_hints (s : Snd ms) (h : LogAt S ms ps k j) (hc : ∀ c ∈ ps, c ∈ cellsOf ms) (hl : ps.length ≤ 1000) : callM asPure m__law_hints [.sq true [.obj k, .d .non]] S = some (.ok (.d (.lst (hL ms ps))), S) := by
  obtain ⟨x3, st⟩ := h_step s h hc hl [] (by decide) (some (.sq true [.obj k, .d .non])) none
  rw [List.nil_append] at st
  have n2 : oNotN (.d .non) (.d .non) = ret (.d (.bl false)) := rfl
  have st2 : b0__law_hints [some (.sq true [.obj k, .d .non]), some (.ptr S.length), some (.d .non), x3] (S ++ [hL ms ps]) = some (.nx [some (.sq true [.obj k, .d .non]), some (.ptr S.length), some (.d .non), x3], S ++ [hL ms ps]) := by
    exists n2
  have fl : sForQ 2 (eVar 0) b0__law_hints [some (.sq true [.obj k, .d .non]), some (.ptr S.length), none, none] (S ++ [[]]) = some (.nx [some (.sq true [.obj k, .d .non]), some (.ptr S.length), some (.d .non), x3], S ++ [hL ms ps]) :=
    q_ForQ rfl (q_fsC st (q_fsC st2 q_fsN))
  have mo : mkOwn [] S = some (.ok (.ptr S.length), S ++ [[]]) := rfl
  have hcl : clsd (hL ms ps) = true := by unfold hL; split <;> rfl
  refine call_atF rfl (fn_FT (S1 := S ++ [hL ms ps]) (T := [hL ms ps]) (k := 0) (p := S.length) rfl ?_ rfl rfl rfl hcl) hcl
  show y__law_hints [some (.sq true [.obj k, .d .non]), none, none, none] S = _
  unfold y__law_hints
  exists mo, fl
theorem v_hints2 (s : Snd ms) (h : LogAt S ms ps k j) (hc : ∀ c ∈ ps, c ∈ cellsOf ms) (hl : ps.length ≤ 1000) {qs : List (List Int)} {k2 j2 : Nat} (h2 : LogAt S ms qs k2 j2) (hc2 : ∀ c ∈ qs, c ∈ cellsOf ms) (hl2 : qs.length ≤ 1000) : callM asPure m__law_hints [.sq true [.obj k, .obj k2]] S = some (.ok (.d (.lst (hL ms ps ++ hL ms qs))), S) := by
  obtain ⟨x3, st⟩ := h_step s h hc hl [] (by decide) (some (.sq true [.obj k, .obj k2])) none
  rw [List.nil_append] at st
  obtain ⟨y3, st2⟩ := h_step s h2 hc2 hl2 (hL ms ps) (by unfold hL; split <;> simp) (some (.sq true [.obj k, .obj k2])) x3
  have fl : sForQ 2 (eVar 0) b0__law_hints [some (.sq true [.obj k, .obj k2]), some (.ptr S.length), none, none] (S ++ [[]]) = some (.nx [some (.sq true [.obj k, .obj k2]), some (.ptr S.length), some (.obj k2), y3], S ++ [hL ms ps ++ hL ms qs]) :=
    q_ForQ rfl (q_fsC st (q_fsC st2 q_fsN))
  have mo : mkOwn [] S = some (.ok (.ptr S.length), S ++ [[]]) := rfl
  have hcl : clsd (hL ms ps ++ hL ms qs) = true := by unfold hL; split <;> split <;> rfl
  refine call_atF rfl (fn_FT (S1 := S ++ [hL ms ps ++ hL ms qs]) (T := [hL ms ps ++ hL ms qs]) (k := 0) (p := S.length) rfl ?_ rfl rfl rfl hcl) hcl
  show y__law_hints [some (.sq true [.obj k, .obj k2]), none, none, none] S = _
  unfold y__law_hints
  exists mo, fl
end
end Lw
namespace Lw
open PySem L2 DL
theorem mulT_one (x : D) {n : Nat} (h : 1 ≤ n ∧ n ≤ 1000) : oMulT (.d (.tup [x])) (.d (.int (n : Nat))) = ret (.d (.tup (List.replicate n x))) := by
  have e : (List.replicate ((n : Nat) : Int).toNat [x]).flatten = List.replicate n x := by rw [Int.toNat_natCast, List.flatten_replicate_singleton]
  unfold oMulT
  dsimp only
  rw [if_pos ⟨by simp, by omega, by omega, by show 1 ≤ 1000; decide⟩, e]
structure BadV (ms : List Int) (v : D) : Prop where
  b : basic v = true
  l : ∀ l, v = .tup l → ∀ d ∈ l, basic d = true
  c : cellB ms v = false
  m : Cmp 1 v
  n : ∀ r : List SV, noExc (.d v :: r) = noExc r
theorem bad_tup {ms : List Int} {l : List D} (hb : ∀ d ∈ l, basic d = true ∧ Cmp 0 d) (hc : l.length ≠ ms.length ∨ ∃ i d, l[i]? = some d ∧ inN (ms.getD i 0) d = false) : BadV ms (.tup l) := by
  refine ⟨rfl, fun l' e d hd => ?_, ?_, Cmp.tup fun d hd => (hb d hd).2, fun _ => rfl⟩
  · cases e; exact (hb d hd).1
  · show (decide (l.length = ms.length) && l.zipIdx.all fun x => inN (ms.getD x.2 0) x.1) = false
    rcases hc with h | ⟨i, d, h1, h2⟩
    · rw [decide_eq_false h]; rfl
    · rw [show (l.zipIdx.all fun x => inN (ms.getD x.2 0) x.1) = false from List.all_eq_false.mpr ⟨(d, i), List.mem_zipIdx_iff_getElem?.mpr (by simpa using h1), by show ¬ (inN (ms.getD i 0) d = true); rw [h2]; decide⟩, Bool.and_false]
abbrev oddA (ms a b : List Int) : List D := [.tup (a.map D.int ++ [.int 0]), .tup (cutD (a.map D.int) (some 1) none), .lst (b.map D.int), .tup (List.replicate ms.length (.int (-1))), .non, .int 0]
abbrev oddB (ms : List Int) : List D := [.tup (List.replicate ms.length (.bl true)), .tup (List.replicate ms.length (.bl false))]
theorem bc_int (i : Int) : basic (.int i) = true ∧ Cmp 0 (.int i) := ⟨rfl, Cmp.int i⟩
theorem odd_all {ms : List Int} (s : Snd ms) {a b : List Int} (ha : a ∈ cellsOf ms) (hb' : b ∈ cellsOf ms) : ∀ v ∈ oddA ms a b ++ oddB ms, BadV ms v := by
  have l1 := s.l1
  obtain ⟨hl, hb⟩ := cell_mem s ha
  have intc : ∀ c : List Int, ∀ d ∈ c.map D.int, basic d = true ∧ Cmp 0 d := fun c d hd => by obtain ⟨i, _, rfl⟩ := List.mem_map.mp hd; exact bc_int i
  have rep : ∀ x : D, (basic x = true ∧ Cmp 0 x) → inN (ms.getD 0 0) x = false → BadV ms (.tup (List.replicate ms.length x)) := fun x hx hn =>
    bad_tup (fun d hd => by rw [List.eq_of_mem_replicate hd]; exact hx) (.inr ⟨0, x, by rw [List.getElem?_replicate]; exact if_pos (by omega), hn⟩)
  intro v hv
  have hv' : v = .tup (a.map D.int ++ [.int 0]) ∨ v = .tup (cutD (a.map D.int) (some 1) none) ∨ v = .lst (b.map D.int) ∨ v = .tup (List.replicate ms.length (.int (-1))) ∨ v = .non ∨ v = .int 0 ∨ v = .tup (List.replicate ms.length (.bl true)) ∨ v = .tup (List.replicate ms.length (.bl false)) := by simpa using hv
  rcases hv' with rfl | rfl | rfl | rfl | rfl | rfl | rfl | rfl
  · exact bad_tup (fun d hd => by
      rcases List.mem_append.mp hd with e | e
      · exact intc a d e
      · rw [List.mem_singleton.mp e]; exact bc_int 0) (.inl (by simp; omega))
  · have e := cut_from (a.map D.int) (p := 1) (by rw [List.length_map]; omega)
    rw [show cutD (a.map D.int) (some 1) none = (a.map D.int).drop 1 from e]
    exact bad_tup (fun d hd => intc a d (List.mem_of_mem_drop hd)) (.inl (by simp; omega))
  · exact ⟨rfl, fun l e => (by cases e), rfl, Cmp.lst fun d hd => (intc b d hd).2, fun _ => rfl⟩
  · exact rep _ (bc_int (-1)) rfl
  · exact ⟨rfl, fun l e => (by cases e), rfl, Cmp.non.mono (by decide), fun _ => rfl⟩
  · exact ⟨rfl, fun l e => (by cases e), rfl, (Cmp.int 0).mono (by decide), fun _ => rfl⟩
  · exact rep _ ⟨rfl, Cmp.bl true⟩ rfl
  · exact rep _ ⟨rfl, Cmp.bl false⟩ rfl
theorem last_c {ms : List Int} (s : Snd ms) : ∃ c, c ∈ cellsOf ms ∧ oIdx (.d (.lst ((cellsOf ms).map cD))) (.d (.int (-1))) = ret (.d (cD c)) := by
  have hN := cells_len s
  have hpos := s.pos
  have hne : 0 < (cellsOf ms).length := by omega
  refine ⟨(cellsOf ms).getD ((cellsOf ms).length - 1) [], getD_mem (by omega), ?_⟩
  refine oIdx_l ?_
  unfold atI ixN
  rw [List.length_map]
  simp
  rw [if_pos (by omega)]
  simp only [Option.bind_some]
  rw [show ((-1 : Int) + ((cellsOf ms).length : Int)).toNat = (cellsOf ms).length - 1 by omega]
  rw [List.getElem?_eq_getElem (by omega)]
  rfl
theorem v_odd {ms : List Int} (s : Snd ms) : ∃ L : List D, L.length = 8 ∧ (∀ v ∈ L, BadV ms v) ∧ callM asPure m__law_odd_cells [.d (.lst (ms.map D.int)), .d (.lst ((cellsOf ms).map cD))] = ret (.d (.lst L)) := by
  have l1 := s.l1
  have l2 := s.l2
  have hN := cells_len s
  have hpos := s.pos
  obtain ⟨a, ha, ixa⟩ := last_c s
  have hb : (cellsOf ms).getD 0 [] ∈ cellsOf ms := getD_mem (by omega)
  have ixb : oIdx (.d (.lst ((cellsOf ms).map cD))) (.d (.int 0)) = ret (.d (cD ((cellsOf ms).getD 0 []))) := ix_cells (k := 0) (by omega)
  generalize (cellsOf ms).getD 0 [] = b at hb ixb
  obtain ⟨hal, _⟩ := cell_mem s ha
  have ad1 : oAddT (.d (cD a)) (.d (.tup [.int 0])) = ret (.d (.tup (a.map D.int ++ [.int 0]))) := oAddT_t (by simp; omega)
  have sl : oSl (.d (cD a)) (some 1) none = ret (.d (.tup (cutD (a.map D.int) (some 1) none))) := rfl
  have bl1 : bList [.d (cD b)] = ret (.d (.lst (b.map D.int))) := bList_t _
  have mm := mulT_one (.int (-1)) (n := ms.length) (by omega)
  have mt := mulT_one (.bl true) (n := ms.length) (by omega)
  have mf := mulT_one (.bl false) (n := ms.length) (by omega)
  have ba : oAdd (.d (.lst (oddA ms a b))) (.d (.lst (oddB ms))) = ret (.d (.lst (oddA ms a b ++ oddB ms))) := oAdd_l (by show 6 + 2 ≤ 16777216; decide)
  refine ⟨oddA ms a b ++ oddB ms, rfl, odd_all s ha hb, call_pure rfl (fn_B rfl fun S => ?_)⟩
  show y__law_odd_cells [some (.d (.lst (ms.map D.int))), some (.d (.lst ((cellsOf ms).map cD))), none] S = _
  unfold y__law_odd_cells
  exists ixa, ixb, ad1, sl, bl1, mm, mt, mf, ba
section
variable {S : Store} {ms : List Int} {ps : List (List Int)} {k j : Nat}
theorem rf_cell (s : Snd ms) (h : LogAt S ms ps k j) {v : D} (hv : BadV ms v) : callM asPure m__law_refused [.d (.int 0), .obj k, .d v] S = some (.ok (.d (.lst [.str "cell", v])), S) := by
  have ls := lf_shape h
  have nf := l_nf (nm := "play") h
  have ec := call_er (cv := asPure) (by show noExc (.d v :: []) = true; rw [hv.n]; rfl) (er_cc s hv.b hv.l hv.c S)
  have e0 : callM asPure m_Log_play [.obj k, .d v] S = some (.err "NoCell" ["cell"] [v], S) := by
    refine call_er (by show noExc (.d v :: []) = true; rw [hv.n]; rfl) (fn_ET (S1 := S) (e := [some (.obj k), some (.d v)]) (T := []) rfl ?_ (by simp))
    show y_Log_play [some (.obj k), some (.d v)] S = _
    unfold y_Log_play
    exists ls, ec
  refine call_at (by show noExc (.d v :: []) = true; rw [hv.n]; rfl) (fn_DT (S1 := S) (T := []) rfl ?_ (by simp))
  show y__law_refused [some (.d (.int 0)), some (.obj k), some (.d v), none] S = _
  unfold y__law_refused
  exists nf, e0
theorem whole_b (v : D) (h : basic v = true) : callM asPure m_is_whole [.d v] = ret (.d (.bl (whole v))) := call_pure (by cases v <;> first | rfl | cases h) (v_whole v h)
theorem rf_share (h : LogAt S ms ps k j) {v : D} (hb : basic v = true) (hv : whole v = false ∨ ∃ i : Int, v = .int i ∧ (i < 0 ∨ (ps.length : Int) < i)) : callM asPure m__law_refused [.d (.int 1), .obj k, .d v] S = some (.ok (.d (.lst [.str "shares"])), S) := by
  have nf := l_nf (nm := "behind") h
  have lf := lf_plays h
  have nx : noExc [SV.d v] = true := by cases v <;> first | rfl | cases hb
  have sq : Sq S (.ptr j) (ps.map cD) := sq_p h.l (clsd_cells ps)
  have ln : bLen [.ptr j] S = some (.ok (.d (.int (ps.length : Nat))), S) := by have := sq.len; rw [List.length_map] at this; exact this
  have wh := whole_b v hb
  have e0 : callM asPure m_Log_behind [.obj k, .d v] S = some (.err "BadShares" [] [], S) := by
    refine call_er nx (fn_Ue (e := [some (.obj k), some (.d v), none, none]) (S1 := S) (T := []) rfl ?_ (by simp))
    show y_Log_behind [some (.obj k), some (.d v), none, none] S = _
    unfold y_Log_behind
    rcases hv with q | ⟨i, rfl, q⟩
    · rw [q] at wh
      exists wh
    · rw [show whole (.int i) = true from rfl] at wh
      rcases q with q | q
      · have d1 : decide ((0 : Int) ≤ i) = false := decide_eq_false (by omega)
        exists wh, d1
      · have d1 : decide ((0 : Int) ≤ i) = true := decide_eq_true (by omega)
        have d2 : decide (i ≤ (ps.length : Nat)) = false := decide_eq_false (by omega)
        exists wh, lf, ln, d1, d2
  refine call_at nx (fn_DT (S1 := S) (T := []) rfl ?_ (by simp))
  show y__law_refused [some (.d (.int 1)), some (.obj k), some (.d v), none] S = _
  unfold y__law_refused
  exists nf, e0
theorem rf_shape {x : SV} {v : D} (hn : noExc [SV.d v] = true) (hx : noExc [x] = true) (hs : callM asPure m_is_shape [.d v] = ret (.d (.bl false))) : callM asPure m__law_refused [.d (.int 2), x, .d v] S = some (.ok (.d (.lst [.str "shape"])), S) := by
  have e0 : mkM "Log" m_Log___init__P [.d v] S = some (.err "BadShape" [] [], S) := by
    have key : m_Log___init__P [.obj S.length, .d v] (S ++ [[.ins "Log" [] []]]) = some (.err "BadShape" [] [], S ++ [[.ins "Log" [] []]]) := by
      refine fn_ET (S1 := S ++ [[.ins "Log" [] []]]) (e := [some (.obj S.length), some (.d v)]) (T := []) rfl ?_ (by simp)
      show y_Log___init__P [some (.obj S.length), some (.d v)] _ = _
      unfold y_Log___init__P
      exists hs
    have := mk_er hn key (cal_app _ _)
    rw [List.take_left] at this
    exact this
  have nx : noExc [.d (.int 2), x, .d v] = true := by cases x <;> first | exact hn | cases hx
  have en : envNE [some (.d (.int 2)), some x, some (.d v), none] = true := by cases x <;> first | rfl | cases hx
  refine call_at nx (fn_DT (S1 := S) (T := []) rfl ?_ (by simp))
  show y__law_refused [some (.d (.int 2)), some x, some (.d v), none] S = _
  unfold y__law_refused
  exists e0, en
theorem v_shapeN {l : List D} (h1 : 1 ≤ l.length) (h3 : l.length ≤ 3) (hb : ∀ d ∈ l, basic d = true) (hr : l.all inR = false) : callM asPure m_is_shape [.d (.tup l)] = ret (.d (.bl false)) := by
  refine call_pure rfl (fn_B rfl fun S => ?_)
  have il : callM asPure m_is_list [.d (.tup l)] = ret (.d (.bl true)) := list_sq true l
  have d1 : decide ((1 : Int) ≤ (l.length : Nat)) = true := decide_eq_true (by omega)
  have d2 : decide (((l.length : Nat) : Int) ≤ 3) = true := decide_eq_true (by omega)
  have lc : (eLc [1] (.one 1) (iOf (eVar 0)) tYesD (eAnd (eCall asPure m_is_whole [] (aCons (eVar 1) aNil)) (eCh oLe oLe (eC (.int 1)) (eVar 1) (eC (.int 4))))) [some (.d (.tup l)), none] = ret (.d (.lst (l.map fun d => .bl (inR d)))) :=
    lc_all (ds := l) (fun d => .bl (inR d)) rfl (fun d hd => ⟨[some (.d (.tup l)), some (.d d)], rfl, in_ev d (hb d hd) _ 1 rfl⟩) (by omega)
  have ba := bAll_map inR l
  rw [hr] at ba
  show y_is_shape [some (.d (.tup l)), none] S = _
  unfold y_is_shape
  exists il, d1, d2, lc, ba
theorem v_shape442 : callM asPure m_is_shape [.d (.tup [.int 4, .int 4, .int 2])] = ret (.d (.bl false)) := by
  refine call_pure rfl (fn_B rfl fun S => ?_)
  have il : callM asPure m_is_list [.d (.tup [.int 4, .int 4, .int 2])] = ret (.d (.bl true)) := list_sq true _
  have bl3 : bLen [.d (.tup [.int 4, .int 4, .int 2])] = ret (.d (.int 3)) := rfl
  have lc : (eLc [1] (.one 1) (iOf (eVar 0)) tYesD (eAnd (eCall asPure m_is_whole [] (aCons (eVar 1) aNil)) (eCh oLe oLe (eC (.int 1)) (eVar 1) (eC (.int 4))))) [some (.d (.tup [.int 4, .int 4, .int 2])), none] = ret (.d (.lst ([D.int 4, .int 4, .int 2].map fun d => .bl (inR d)))) :=
    lc_all (ds := [D.int 4, .int 4, .int 2]) (fun d => .bl (inR d)) rfl (fun d hd => ⟨[some (.d (.tup [.int 4, .int 4, .int 2])), some (.d d)], rfl, in_ev d (by
      have : d = .int 4 ∨ d = .int 4 ∨ d = .int 2 := by simpa using hd
      rcases this with rfl | rfl | rfl <;> rfl) _ 1 rfl⟩) (by decide)
  have ba : bAll [.d (.lst ([D.int 4, .int 4, .int 2].map fun d => .bl (inR d)))] = ret (.d (.bl true)) := bAll_map inR [D.int 4, .int 4, .int 2]
  have cc : callM asPure m_count_cells [.d (.tup [.int 4, .int 4, .int 2])] = ret (.d (.int 32)) := by
    refine call_pure rfl (fn_B rfl fun S => ?_)
    obtain ⟨x2, lp⟩ := size_loop [D.int 4, .int 4, .int 2] (some (.d (.tup [.int 4, .int 4, .int 2]))) S [4, 4, 2] 1 0 none (by decide) (by decide) (by decide) (by intro m hm; revert hm; revert m; decide)
    have lp' : forL (.one 2) none [D.int 4, .int 4, .int 2] (sSet 1 (eOp oMul (eVar 1) (eVar 2))) [D.int 4, .int 4, .int 2] [some (.d (.tup [.int 4, .int 4, .int 2])), some (.d (.int 1)), none] S = some (.nx [some (.d (.tup [.int 4, .int 4, .int 2])), some (.d (.int 32)), x2], S) := lp
    show y_count_cells [some (.d (.tup [.int 4, .int 4, .int 2])), none, none] S = _
    unfold y_count_cells
    exists lp'
  have d3 : oLe (.d (.int 32)) (.d (.int 16)) = ret (.d (.bl false)) := rfl
  show y_is_shape [some (.d (.tup [.int 4, .int 4, .int 2])), none] S = _
  unfold y_is_shape
  exists il, bl3, lc, ba, cc, d3
end
end Lw
namespace Lw
open PySem L2 DL
/-- hints with their weights, as they were told -/
def Seen (L : List D) : Prop := ∀ d ∈ L, ∃ ms ws, d = .tup [hintD ms ws, .lst (ws.map D.int)]
theorem seen_hL (ms : List Int) (ps : List (List Int)) : Seen (hL ms ps) := fun d hd => by
  unfold hL at hd
  split at hd
  · cases hd
  · exact ⟨_, _, List.mem_singleton.mp hd⟩
theorem Seen.app {L M : List D} (h : Seen L) (h2 : Seen M) : Seen (L ++ M) := fun d hd => by
  rcases List.mem_append.mp hd with e | e
  · exact h d e
  · exact h2 d e
theorem hL_len (ms : List Int) (ps : List (List Int)) : (hL ms ps).length ≤ 1 := by unfold hL; split <;> simp
theorem at0_app (T : Store) (a b : List D) : (T ++ [a, b])[T.length]? = some a := by rw [List.getElem?_append_right (by omega)]; simp
theorem at1_app (T : Store) (a b : List D) : (T ++ [a, b])[T.length + 1]? = some b := by rw [List.getElem?_append_right (by omega)]; simp
theorem st_sp : PyData.strOk "shape" = true := by decide +kernel
theorem st_ce : PyData.strOk "cell" = true := by decide +kernel
theorem st_sh : PyData.strOk "shares" = true := by decide +kernel
section
variable {S : Store} {ms : List Int} {ps : List (List Int)} {k j : Nat}
theorem v_kept (s : Snd ms) (h : LogAt S ms ps k j) (hc : ∀ c ∈ ps, c ∈ cellsOf ms) (hl : ps.length ≤ 1000) {L : List D} (hL' : Seen L) (hn : L.length ≤ 1000) : callM asOwn m__law_kept [.obj k, .d (.lst (ps.map cD)), .d (.lst L)] S = some (.ok (.d (.bl true)), S) := by
  have lc : c0__law_kept [some (.obj k), some (.d (.lst (ps.map cD))), some (.d (.lst L)), none, none, none] = ret (.d (.lst ((L.filter fun _ => false).map fun _ => D.non))) :=
    lcA_ret (env := [some (SV.obj k), some (.d (.lst (ps.map cD))), some (.d (.lst L)), none, none, none]) (ws := [3, 4]) (t := .many [3, 4]) (f := iOf (eVar 2)) (cond := eTst (eOp oNe (eMeth "Hint" "weights" asPure m_Hint_weights (eVar 3) aNil) (eVar 4))) (fe := eVar 3) (ds := L) id (fun _ => false) (fun _ => D.non) (by rw [List.map_id]; rfl) (fun d hd => by
      obtain ⟨ms', ws, rfl⟩ := hL' d hd
      refine ⟨[some (.obj k), some (.d (.lst (ps.map cD))), some (.d (.lst L)), some (.d (hintD ms' ws)), some (.d (.lst (ws.map D.int))), none], rfl, q_fun fun S => ?_, fun h => by cases h⟩
      have vw := call_atF (S1 := S) rfl (v_wM ms' ws S) (clsd_map (fun _ => rfl) _)
      have ne := ne_same (cmp_ints ws) (by decide)
      exists vw, ne) (by omega)
  rw [List.filter_eq_nil_iff.mpr (fun _ _ h => by cases h), List.map_nil] at lc
  have n0 : oNe (.d (.lst [])) (.d (.lst [])) = ret (.d (.bl false)) := ne_same (n := 1) (Cmp.lst fun d hd => by cases hd) (by decide)
  have ms1 : mkLst [.d (.lst []), .d (.tup [.int 5]), .d (.tup [.int 0, .int 1]), .d (.tup [.int 4, .int 4, .int 2]), .d (.tup [.bl true]), .d .non, .d (.int 3)] = ret (.d (.lst [.lst [], .tup [.int 5], .tup [.int 0, .int 1], .tup [.int 4, .int 4, .int 2], .tup [.bl true], .non, .int 3])) := rfl
  have bs : ∀ d ∈ [D.lst [], .tup [.int 5], .tup [.int 0, .int 1], .tup [.int 4, .int 4, .int 2], .tup [.bl true], .non, .int 3], noExc [SV.d d] = true ∧ callM asPure m_is_shape [.d d] = ret (.d (.bl false)) := fun d hd => by
    have hd' : d = .lst [] ∨ d = .tup [.int 5] ∨ d = .tup [.int 0, .int 1] ∨ d = .tup [.int 4, .int 4, .int 2] ∨ d = .tup [.bl true] ∨ d = .non ∨ d = .int 3 := by simpa using hd
    rcases hd' with rfl | rfl | rfl | rfl | rfl | rfl | rfl
    · exact ⟨rfl, call_pure rfl (v_shape (.lst []) ⟨by decide, fun d hd => by cases hd⟩)⟩
    · exact ⟨rfl, v_shapeN (by decide) (by decide) (fun d hd => by rw [List.mem_singleton.mp hd]; rfl) rfl⟩
    · exact ⟨rfl, v_shapeN (by decide) (by decide) (fun d hd => by
        have : d = .int 0 ∨ d = .int 1 := by simpa using hd
        rcases this with rfl | rfl <;> rfl) rfl⟩
    · exact ⟨rfl, v_shape442⟩
    · exact ⟨rfl, v_shapeN (by decide) (by decide) (fun d hd => by rw [List.mem_singleton.mp hd]; rfl) rfl⟩
    · exact ⟨rfl, call_pure rfl (v_shape .non trivial)⟩
    · exact ⟨rfl, call_pure rfl (v_shape (.int 3) trivial)⟩
  have l1 : c1__law_kept [some (.obj k), some (.d (.lst (ps.map cD))), some (.d (.lst L)), none, none, none] = ret (.d (.lst (([D.lst [], .tup [.int 5], .tup [.int 0, .int 1], .tup [.int 4, .int 4, .int 2], .tup [.bl true], .non, .int 3]).map fun _ => D.bl true))) :=
    lcA_all (env := [some (SV.obj k), some (.d (.lst (ps.map cD))), some (.d (.lst L)), none, none, none]) (ws := [5]) (t := .one 5) (fe := eOp oEq (eCall asPure m__law_refused [] (aCons (eC (.int 2)) (aCons (eVar 0) (aCons (eVar 5) aNil)))) (eArg mkLst (aCons (eC (.str "shape")) aNil))) (ds := [D.lst [], .tup [.int 5], .tup [.int 0, .int 1], .tup [.int 4, .int 4, .int 2], .tup [.bl true], .non, .int 3]) id (fun _ => D.bl true) rfl (fun d hd => by
      obtain ⟨h1, h2⟩ := bs d hd
      refine ⟨[some (.obj k), some (.d (.lst (ps.map cD))), some (.d (.lst L)), none, none, some (.d d)], rfl, q_fun fun S => ?_⟩
      have rf := rf_shape (S := S) (x := .obj k) h1 rfl h2
      have ee : oEq (.d (.lst [.str "shape"])) (.d (.lst [.str "shape"])) = ret (.d (.bl true)) := eq_same (n := 1) (Cmp.lst fun d hd => by rw [List.mem_singleton.mp hd]; exact Cmp.str st_sp) (by decide)
      exists rf, ee) (by decide)
  have ba : bAll [.d (.lst (([D.lst [], .tup [.int 5], .tup [.int 0, .int 1], .tup [.int 4, .int 4, .int 2], .tup [.bl true], .non, .int 3]).map fun _ => D.bl true))] = ret (.d (.bl true)) := bAll_map (fun _ => true) [D.lst [], .tup [.int 5], .tup [.int 0, .int 1], .tup [.int 4, .int 4, .int 2], .tup [.bl true], .non, .int 3]
  have nb := l_nf (nm := "behind") h
  have vb := v_behind s h hc hl (n := ps.length) (Nat.le_refl _)
  rw [List.take_length] at vb
  have LA : LogAt (S ++ [logI ms (S.length + 1), ps.map cD]) ms ps S.length (S.length + 1) := ⟨by simp, by simp⟩
  have np := l_nf (nm := "plays") LA
  have vp := call_atF rfl (v_plays LA) (clsd_cells ps)
  have ee := eq_same (cmp_cells ps) (by decide)
  have h2 := h.ext [logI ms (S.length + 1), ps.map cD]
  have nb2 := l_nf (nm := "behind") h2
  have vb2 := v_behind s h2 hc hl (n := 0) (by omega)
  rw [List.take_zero, List.map_nil] at vb2
  have LB : LogAt (S ++ [logI ms (S.length + 1), ps.map cD] ++ [logI ms ((S ++ [logI ms (S.length + 1), ps.map cD]).length + 1), []]) ms [] (S ++ [logI ms (S.length + 1), ps.map cD]).length ((S ++ [logI ms (S.length + 1), ps.map cD]).length + 1) := ⟨at0_app _ _ _, at1_app _ _ _⟩
  have nh := l_nf (nm := "hint") LB
  have vh := call_at rfl (v_loghint s LB (fun c hc => by cases hc) (by decide))
  rw [if_pos rfl] at vh
  have nn : oIsN (.d .non) (.d .non) = ret (.d (.bl true)) := rfl
  refine call_atP rfl (fn_DT (S1 := S ++ [logI ms (S.length + 1), ps.map cD] ++ [logI ms ((S ++ [logI ms (S.length + 1), ps.map cD]).length + 1), []]) (T := [logI ms (S.length + 1), ps.map cD] ++ [logI ms ((S ++ [logI ms (S.length + 1), ps.map cD]).length + 1), []]) rfl ?_ (by rw [List.append_assoc]))
  show y__law_kept [some (.obj k), some (.d (.lst (ps.map cD))), some (.d (.lst L)), none, none, none] S = _
  unfold y__law_kept
  exists lc, n0, l1, ba, nb, vb, np, vp, ee, nb2, vb2, nh, vh, nn
end
end Lw
namespace Lw
open PySem L2 DL
structure LogR (rest : Store) (ms : List Int) (ps : List (List Int)) (k j : Nat) : Prop where
  o : rest[k]? = some (logI ms (j + 1))
  l : rest[j]? = some (ps.map cD)
theorem LogR.at {rest : Store} {ms : List Int} {ps : List (List Int)} {k j : Nat} (h : LogR rest ms ps k j) (l : List D) : LogAt (l :: rest) ms ps (k + 1) (j + 1) := ⟨by simpa using h.o, by simpa using h.l⟩
theorem log_ne {ms : List Int} {i : Nat} {ps : List (List Int)} (h : logI ms i = ps.map cD) : False := by
  cases ps with
  | nil => cases h
  | cons p ps => injection h with h1 _; cases h1
theorem LogR.set {rest : Store} {ms : List Int} {ps qs : List (List Int)} {k j k' j' : Nat} (h : LogR rest ms ps k j) (h' : LogR rest ms qs k' j') (hne : j ≠ j') (rs : List (List Int)) : LogR (rest.set j' (rs.map cD)) ms ps k j :=
  ⟨by
    rw [List.getElem?_set_ne fun e => ?_]
    · exact h.o
    · subst e
      have := h.o.symm.trans h'.l
      exact log_ne (Option.some.inj this), by rw [List.getElem?_set_ne fun e => hne e.symm]; exact h.l⟩
theorem LogR.self {rest : Store} {ms : List Int} {ps : List (List Int)} {k j : Nat} (h : LogR rest ms ps k j) (rs : List (List Int)) : LogR (rest.set j (rs.map cD)) ms rs k j :=
  ⟨by
    rw [List.getElem?_set_ne fun e => ?_]
    · exact h.o
    · subst e
      have := h.o.symm.trans h.l
      exact log_ne (Option.some.inj this), by rw [List.getElem?_set_self (List.getElem?_eq_some_iff.mp h.l).1]⟩
theorem LogR.ext {rest : Store} {ms : List Int} {ps : List (List Int)} {k j : Nat} (h : LogR rest ms ps k j) (T : Store) : LogR (rest ++ T) ms ps k j :=
  ⟨by rw [List.getElem?_append_left (List.getElem?_eq_some_iff.mp h.o).1]; exact h.o, by rw [List.getElem?_append_left (List.getElem?_eq_some_iff.mp h.l).1]; exact h.l⟩
/-- the log beside: none, or one of its own -/
inductive Bes (rest : Store) (ms : List Int) (N : Nat) : Option SV → Option SV → Prop
  | no : Bes rest ms N (some (.d .non)) (some (.d (.lst [])))
  | yes (k j : Nat) (qs : List (List Int)) (h : LogR rest ms qs k j) (hj : j ≠ 1) (hc : ∀ c ∈ qs, c ∈ cellsOf ms) (hl : qs.length ≤ N) : Bes rest ms N (some (.obj (k + 1))) (some (.d (.lst (qs.map cD))))
theorem Bes.more {rest : Store} {ms : List Int} {N M : Nat} {a b : Option SV} (h : Bes rest ms N a b) (hm : N ≤ M) : Bes rest ms M a b := by
  cases h with
  | no => exact .no
  | yes k j qs h hj hc hl => exact .yes k j qs h hj hc (by omega)
abbrev EW (X0 : SV) (ms : List Int) (ps : List (List Int)) (e6 e7 : Option SV) (L : List D) (e9 e10 e11 e12 e13 : Option SV) : DL.Env := [some X0, some (.ptr 0), some (.d (.lst (ms.map D.int))), some (.d (.lst ((cellsOf ms).map cD))), some (.obj 1), some (.d (.lst (ps.map cD))), e6, e7, some (.d (.lst L)), e9, e10, e11, e12, e13]
noncomputable abbrev TB : SM := (sSeq (sIf (tyOr (tyNot (eTst (eCall asPure m__law_same [] (aCons (eVar 4) (aCons (eVar 2) (aCons (eVar 5) aNil)))))) (tyAnd (eTst (eOp oNotN (eVar 6) (eC .non))) (tyNot (eTst (eCall asPure m__law_same [] (aCons (eVar 6) (aCons (eVar 2) (aCons (eVar 7) aNil)))))))) (sRet (eC (.bl false))) sNop)
    (sSet 8 (eOp oAdd (eVar 8) (eCall asPure m__law_hints [] (aCons (eArg (mkSq true) (aCons (eVar 4) (aCons (eVar 6) aNil))) aNil)))))
section
variable {X0 : SV} {ms : List Int}
theorem tb_step (s : Snd ms) {rest : Store} {ps : List (List Int)} {N : Nat} {e6 e7 : Option SV} (h : LogR rest ms ps 0 1) (hc : ∀ c ∈ ps, c ∈ cellsOf ms) (hl : ps.length ≤ N) (hb : Bes rest ms N e6 e7) (hN : N ≤ 1000) {L : List D} (hL : Seen L) (hn : L.length ≤ 1000) (l : List D) (e9 e10 e11 e12 e13 : Option SV) : ∃ L', Seen L' ∧ L'.length ≤ L.length + 2 ∧
    TB (EW X0 ms ps e6 e7 L e9 e10 e11 e12 e13) (l :: rest) = some (.nx (EW X0 ms ps e6 e7 L' e9 e10 e11 e12 e13), l :: rest) := by
  have vs := v_lsame s (h.at l) hc (by omega)
  cases hb with
  | no =>
    have n0 : oNotN (.d .non) (.d .non) = ret (.d (.bl false)) := rfl
    have vh := v_hints s (h.at l) hc (by omega)
    have ad : oAdd (.d (.lst L)) (.d (.lst (Lw.hL ms ps))) = ret (.d (.lst (L ++ Lw.hL ms ps))) := oAdd_l (by have := hL_len ms ps; omega)
    have mk : mkSq true [.obj 1, .d .non] (l :: rest) = some (.ok (.sq true [.obj 1, .d .non]), l :: rest) := q_mkSq rfl rfl
    refine ⟨L ++ Lw.hL ms ps, hL.app (seen_hL ms ps), by have := hL_len ms ps; simp; omega, ?_⟩
    exists vs, n0, mk, vh, ad
  | yes k j qs h2 hj hc2 hl2 =>
    have vs2 := v_lsame s (h2.at l) hc2 (by omega)
    have n0 : oNotN (.obj (k + 1)) (.d .non) = ret (.d (.bl true)) := rfl
    have vh := v_hints2 s (h.at l) hc (by omega) (h2.at l) hc2 (by omega)
    have ad : oAdd (.d (.lst L)) (.d (.lst (Lw.hL ms ps ++ Lw.hL ms qs))) = ret (.d (.lst (L ++ (Lw.hL ms ps ++ Lw.hL ms qs)))) := oAdd_l (by have := hL_len ms ps; have := hL_len ms qs; simp; omega)
    have mk : mkSq true [.obj 1, .obj (k + 1)] (l :: rest) = some (.ok (.sq true [.obj 1, .obj (k + 1)]), l :: rest) := q_mkSq rfl rfl
    refine ⟨L ++ (Lw.hL ms ps ++ Lw.hL ms qs), hL.app ((seen_hL ms ps).app (seen_hL ms qs)), by have := hL_len ms ps; have := hL_len ms qs; simp; omega, ?_⟩
    exists vs, vs2, n0, mk, vh, ad
end
end Lw
namespace Lw
open PySem L2 DL
theorem v_newlogL {ms : List Int} (s : Snd ms) (S : Store) : mkO "Log" m_Log___init__ [.d (.lst (ms.map D.int))] S = some (.ok (.obj S.length), S ++ [logI ms (S.length + 1), []]) := by
  have sh : callM asPure m_is_shape [.d (.lst (ms.map D.int))] = ret (.d (.bl true)) := call_pure rfl (v_shapeS false s)
  have bt' : bTuple [.d (.lst (ms.map D.int))] = ret (.d (.tup (ms.map D.int))) := bTuple_l _
  let E : DL.Env := [some (.obj S.length), some (.d (.lst (ms.map D.int)))]
  have f1 := st_SetF (ok := okF) (fld := "shape") (c := "Log") (fo := eVar 0) (fe := eArg bTuple (aCons (eVar 1) aNil)) (env := E) (x := .tup (ms.map D.int)) (k := S.length) (fs := []) (l := []) (S := S ++ [[D.ins "Log" [] []]]) (S1 := S ++ [[D.ins "Log" [] []]]) (S2 := S ++ [[D.ins "Log" [] []]]) (by exists bt') rfl (by simp) (by decide)
  have e1 : (S ++ [[D.ins "Log" [] []]]).set S.length [D.ins "Log" (putD "shape" (.tup (ms.map D.int)) [] []).1 (putD "shape" (.tup (ms.map D.int)) [] []).2] = S ++ [[D.ins "Log" ["shape"] [.tup (ms.map D.int)]]] := by simp [putD]
  rw [e1] at f1
  have f2 := st_SetFO (ok := okF) (fld := "_plays") (c := "Log") (fo := eVar 0) (fe := eArg mkOwn aNil) (env := E) (j := S.length + 1) (k := S.length) (fs := ["shape"]) (l := [.tup (ms.map D.int)]) (S := S ++ [[D.ins "Log" ["shape"] [.tup (ms.map D.int)]]]) (S1 := S ++ [[D.ins "Log" ["shape"] [.tup (ms.map D.int)]]] ++ [[]]) (S2 := S ++ [[D.ins "Log" ["shape"] [.tup (ms.map D.int)]]] ++ [[]]) (by
    have mo : mkOwn [] (S ++ [[D.ins "Log" ["shape"] [.tup (ms.map D.int)]]]) = some (.ok (.ptr (S.length + 1)), S ++ [[D.ins "Log" ["shape"] [.tup (ms.map D.int)]]] ++ [[]]) := by
      have := q_mkOwn (S := S ++ [[D.ins "Log" ["shape"] [.tup (ms.map D.int)]]]) (xs := []) (ds := []) rfl rfl
      rw [List.length_append] at this
      exact this
    exists mo) rfl (by simp) (by decide)
  have e2 : (S ++ [[D.ins "Log" ["shape"] [.tup (ms.map D.int)]]] ++ [[]]).set S.length [D.ins "Log" (putD "_plays" (.own (S.length + 1)) ["shape"] [.tup (ms.map D.int)]).1 (putD "_plays" (.own (S.length + 1)) ["shape"] [.tup (ms.map D.int)]).2] = S ++ [logI ms (S.length + 1), []] := by
    have : ("shape" : Str) ≠ "_plays" := by decide +kernel
    simp [putD, logI, this]
  rw [e2] at f2
  refine mkO_at rfl (fn_Un (e := E) rfl ?_)
  show y_Log___init__ E (S ++ [[D.ins "Log" [] []]]) = _
  unfold y_Log___init__
  exists sh, f1, f2
section
variable {X0 : SV} {ms : List Int}
/-- a play of one of the two logs, any cell drawn -/
theorem draw_c (s : Snd ms) {n : Nat} (hn : n ≤ 900000) {l : List D} (hp : PoolOk n l) (rest : Store) : ∃ c l', c ∈ cellsOf ms ∧ PoolOk (n + 1) l' ∧ ∀ env : DL.Env, env[1]? = some (some (.ptr 0)) → env[3]? = some (some (.d (.lst ((cellsOf ms).map cD)))) →
    (eOp oIdx (eVar 3) (eCall asPure m__law_take [] (aCons (eVar 1) (aCons (eArg bLen (aCons (eVar 3) aNil)) aNil)))) env (l :: rest) = some (.ok (.d (cD c)), l' :: rest) := by
  have hN := cells_len s
  have hp16 := s.p
  have hpos := s.pos
  obtain ⟨r, l', r0, r1, p', tk⟩ := take_ok n (by omega) ((cellsOf ms).length : Nat) l rest (by omega) (log_of (by omega) (by omega)) hp
  obtain ⟨q, rfl⟩ := Int.eq_ofNat_of_zero_le r0
  have hq : q < (cellsOf ms).length := by omega
  have hc : (cellsOf ms).getD q [] ∈ cellsOf ms := getD_mem hq
  generalize hcc : (cellsOf ms).getD q [] = c at hc
  refine ⟨c, l', hc, p', fun env h1 h3 => ?_⟩
  have tk' := call_at (by rfl) tk
  have ix : oIdx (.d (.lst ((cellsOf ms).map cD))) (.d (.int (q : Nat))) = ret (.d (cD c)) := by rw [← hcc]; exact ix_cells hq
  have v1 : eVar 1 env (l :: rest) = some (.ok (.ptr 0), l :: rest) := q_var h1
  have v3 : eVar 3 env (l :: rest) = some (.ok (.d (.lst ((cellsOf ms).map cD))), l :: rest) := q_var h3
  exists v1, v3, tk', ix
theorem k_dec {r : Int} {i : Int} (h : r = i) : decide (r = i) = true := decide_eq_true h
theorem k_no {r : Int} {i : Int} (h : r ≠ i) : decide (r = i) = false := decide_eq_false h
theorem b_step (s : Snd ms) {n : Nat} (hn : n ≤ 800000) {l : List D} (hp : PoolOk n l) {rest : Store} {ps : List (List Int)} {N : Nat} {e6 e7 : Option SV} (h : LogR rest ms ps 0 1) (hr : 2 ≤ rest.length) (hc : ∀ c ∈ ps, c ∈ cellsOf ms) (hl : ps.length ≤ N) (hb : Bes rest ms N e6 e7) (hN : N ≤ 900) {L : List D} (hL : Seen L) (hLn : L.length ≤ 900) (e9 e10 e11 e12 e13 : Option SV) :
    ∃ l' rest' ps' e6' e7' L' x10 x11 x12 x13, PoolOk (n + 2) l' ∧ LogR rest' ms ps' 0 1 ∧ 2 ≤ rest'.length ∧ (∀ c ∈ ps', c ∈ cellsOf ms) ∧ ps'.length ≤ N + 1 ∧ Bes rest' ms (N + 1) e6' e7' ∧ Seen L' ∧ L'.length ≤ L.length + 2 ∧
      b0_law (EW X0 ms ps e6 e7 L e9 e10 e11 e12 e13) (l :: rest) = some (.nx (EW X0 ms ps' e6' e7' L' e9 x10 x11 x12 x13), l' :: rest') := by
  obtain ⟨r, l1, r0, r1, p1, tk⟩ := take_ok n (by omega) 6 l rest (by decide) (by decide) hp
  have tk' := call_at (by rfl) tk
  -- a play of the first log
  have plog : r ≠ 0 → r ≠ 1 → r ≠ 2 → (r = 3 → e6 = some (.d .non)) → ∃ l' rest' ps' e6' e7' L' x10 x11 x12 x13, PoolOk (n + 2) l' ∧ LogR rest' ms ps' 0 1 ∧ 2 ≤ rest'.length ∧ (∀ c ∈ ps', c ∈ cellsOf ms) ∧ ps'.length ≤ N + 1 ∧ Bes rest' ms (N + 1) e6' e7' ∧ Seen L' ∧ L'.length ≤ L.length + 2 ∧
      b0_law (EW X0 ms ps e6 e7 L e9 e10 e11 e12 e13) (l :: rest) = some (.nx (EW X0 ms ps' e6' e7' L' e9 x10 x11 x12 x13), l' :: rest') := fun q0 q1 q2 q3 => by
    have k0 := k_no q0
    have k1 := k_no q1
    have k2 := k_no q2
    obtain ⟨c, l2, hcc, p2, dr⟩ := draw_c s (n := n + 1) (by omega) p1 rest
    have dr' := dr (EW X0 ms ps e6 e7 L e9 (some (.d (.int r))) e11 e12 e13) rfl rfl
    have L2 := h.at l2
    have nf := l_nf (nm := "play") L2
    have vp : callM asPure m_Log_play [.obj 1, .d (cD c)] (l2 :: rest) = some (.ok (.d .non), l2 :: rest.set 1 ((ps ++ [c]).map cD)) := v_playS s L2 hcc (by omega)
    have nn : oNotN (.d .non) (.d .non) = ret (.d (.bl false)) := rfl
    have ad : oAdd (.d (.lst (ps.map cD))) (.d (.lst [cD c])) = ret (.d (.lst ((ps ++ [c]).map cD))) := by
      rw [List.map_append]
      exact oAdd_l (by rw [List.length_map, List.length_singleton]; omega)
    have h' : LogR (rest.set 1 ((ps ++ [c]).map cD)) ms (ps ++ [c]) 0 1 := h.self (ps ++ [c])
    have hc' : ∀ d ∈ ps ++ [c], d ∈ cellsOf ms := fun d hd => by
      rcases List.mem_append.mp hd with e | e
      · exact hc d e
      · rw [List.mem_singleton.mp e]; exact hcc
    have hb' : Bes (rest.set 1 ((ps ++ [c]).map cD)) ms (N + 1) e6 e7 := by
      cases hb with
      | no => exact .no
      | yes k j qs h2 hj hc2 hl2 => exact .yes k j qs (h2.set h hj (ps ++ [c])) hj hc2 (by omega)
    obtain ⟨L', hL', hn', tb⟩ := tb_step (X0 := X0) s h' hc' (N := N + 1) (by simp; omega) hb' (by omega) hL (by omega) l2 e9 (some (.d (.int r))) e11 e12 (some (.d (cD c)))
    refine ⟨l2, _, ps ++ [c], e6, e7, L', some (.d (.int r)), e11, e12, some (.d (cD c)), p2, h', by rw [List.length_set]; exact hr, hc', by simp; omega, hb', hL', hn', ?_⟩
    by_cases c3 : r = 3
    · have k3 := k_dec c3
      rw [q3 c3] at dr' tb ⊢
      exists tk', k0, k1, k2, k3, nn, dr', nf, vp, ad, tb
    · have k3 := k_no c3
      exists tk', k0, k1, k2, k3, nn, dr', nf, vp, ad, tb
  by_cases c0 : r = 0
  · have k0 := k_dec c0
    obtain ⟨O, o8, obad, od⟩ := v_odd s
    obtain ⟨b, l2, b0, b1, p2, tb2⟩ := take_ok (n + 1) (by omega) 8 l1 rest (by decide) (by decide) p1
    have t2 := call_at (by rfl) tb2
    obtain ⟨v, hv, hat⟩ := at_mem (l := O) b0 (by omega)
    have bv := obad v hv
    have ix : oIdx (.d (.lst O)) (.d (.int b)) = ret (.d v) := oIdx_l hat
    have rf := rf_cell s (h.at l2) bv
    have ne : oNe (.d (.lst [.str "cell", v])) (.d (.lst [.str "cell", v])) = ret (.d (.bl false)) := ne_same (n := 2) (Cmp.lst fun d hd => by
      have : d = .str "cell" ∨ d = v := by simpa using hd
      rcases this with rfl | rfl
      · exact (Cmp.str st_ce).mono (by decide)
      · exact bv.m) (by decide)
    obtain ⟨L', hL', hn', tb⟩ := tb_step (X0 := X0) s h hc hl hb (by omega) hL (by omega) l2 e9 (some (.d (.int r))) (some (.d v)) e12 e13
    refine ⟨l2, rest, ps, e6, e7, L', some (.d (.int r)), some (.d v), e12, e13, p2, h, hr, hc, by omega, hb.more (by omega), hL', hn', ?_⟩
    exists tk', k0, od, t2, ix, rf, ne, tb
  by_cases c1 : r = 1
  · have k0 := k_no c0
    have k1 := k_dec c1
    obtain ⟨b, l2, b0, b1, p2, tb2⟩ := take_ok (n + 1) (by omega) 5 l1 rest (by decide) (by decide) p1
    have t2 := call_at (by rfl) tb2
    have ad : oAdd (.d (.int (ps.length : Nat))) (.d (.int 1)) = ret (.d (.int ((ps.length : Nat) + 1))) := oAdd_i _ _
    obtain ⟨v, hv, hat⟩ := at_mem (l := [D.int (-1), .int ((ps.length : Nat) + 1), .bl true, .non, .str "1"]) b0 b1
    have ix : oIdx (.d (.lst [D.int (-1), .int ((ps.length : Nat) + 1), .bl true, .non, .str "1"])) (.d (.int b)) = ret (.d v) := oIdx_l hat
    have hv' : v = .int (-1) ∨ v = .int ((ps.length : Nat) + 1) ∨ v = .bl true ∨ v = .non ∨ v = .str "1" := by simpa using hv
    have rf : callM asPure m__law_refused [.d (.int 1), .obj 1, .d v] (l2 :: rest) = some (.ok (.d (.lst [.str "shares"])), l2 :: rest) := by
      rcases hv' with rfl | rfl | rfl | rfl | rfl
      · exact rf_share (h.at l2) rfl (.inr ⟨_, rfl, .inl (by decide)⟩)
      · exact rf_share (h.at l2) rfl (.inr ⟨_, rfl, .inr (by omega)⟩)
      · exact rf_share (h.at l2) rfl (.inl rfl)
      · exact rf_share (h.at l2) rfl (.inl rfl)
      · exact rf_share (h.at l2) rfl (.inl rfl)
    have ne : oNe (.d (.lst [.str "shares"])) (.d (.lst [.str "shares"])) = ret (.d (.bl false)) := ne_same (n := 1) (Cmp.lst fun d hd => by rw [List.mem_singleton.mp hd]; exact Cmp.str st_sh) (by decide)
    obtain ⟨L', hL', hn', tb⟩ := tb_step (X0 := X0) s h hc hl hb (by omega) hL (by omega) l2 e9 (some (.d (.int r))) (some (.d v)) e12 e13
    refine ⟨l2, rest, ps, e6, e7, L', some (.d (.int r)), some (.d v), e12, e13, p2, h, hr, hc, by omega, hb.more (by omega), hL', hn', ?_⟩
    exists tk', k0, k1, ad, t2, ix, rf, ne, tb
  by_cases c2 : r = 2
  · have k0 := k_no c0
    have k1 := k_no c1
    have k2 := k_dec c2
    obtain ⟨b, l2, b0, b1, p2, tb2⟩ := take_ok (n + 1) (by omega) ((ps.length : Nat) + 1 : Int) l1 rest (by omega) (log_of (by omega) (by omega)) p1
    obtain ⟨q, rfl⟩ := Int.eq_ofNat_of_zero_le b0
    have hq : q ≤ ps.length := by omega
    have t2 := call_at (by rfl) tb2
    have ad : oAdd (.d (.int (ps.length : Nat))) (.d (.int 1)) = ret (.d (.int ((ps.length : Nat) + 1))) := oAdd_i _ _
    have nb := l_nf (nm := "behind") (h.at l2)
    have vb : callM asPure m_Log_behind [.obj 1, .d (.int (q : Nat))] (l2 :: rest) = some (.ok (.obj (rest.length + 1)), l2 :: (rest ++ [logI ms (rest.length + 1 + 1), (ps.take q).map cD])) := v_behind s (h.at l2) hc (by omega) hq
    have sl : oSl (.d (.lst (ps.map cD))) none (some ((q : Nat) : Int)) = ret (.d (.lst ((ps.take q).map cD))) := by
      show ret (SV.d (.lst (cutD (ps.map cD) none (some ((q : Nat) : Int))))) = _
      rw [cut_to _ (by rw [List.length_map]; exact hq), List.map_take]
    have h' : LogR (rest ++ [logI ms (rest.length + 1 + 1), (ps.take q).map cD]) ms ps 0 1 := h.ext _
    have hb' : Bes (rest ++ [logI ms (rest.length + 1 + 1), (ps.take q).map cD]) ms (N + 1) (some (.obj (rest.length + 1))) (some (.d (.lst ((ps.take q).map cD)))) :=
      .yes rest.length (rest.length + 1) (ps.take q) ⟨at0_app _ _ _, at1_app _ _ _⟩ (by omega) (fun c h => hc c (List.mem_of_mem_take h)) (by rw [List.length_take]; omega)
    obtain ⟨L', hL', hn', tb⟩ := tb_step (X0 := X0) s h' hc (N := N + 1) (by omega) hb' (by omega) hL (by omega) l2 e9 (some (.d (.int r))) e11 (some (.d (.int (q : Nat)))) e13
    refine ⟨l2, _, ps, _, _, L', some (.d (.int r)), e11, some (.d (.int (q : Nat))), e13, p2, h', by rw [List.length_append]; omega, hc, by omega, hb', hL', hn', ?_⟩
    exists tk', k0, k1, k2, ad, t2, nb, vb, sl, tb
  by_cases c3 : r = 3
  · cases hb with
    | no => exact plog c0 c1 c2 fun _ => rfl
    | yes k j qs h2 hj hc2 hl2 =>
      have k0 := k_no c0
      have k1 := k_no c1
      have k2 := k_no c2
      have k3 := k_dec c3
      have n1 : oNotN (.obj (k + 1)) (.d .non) = ret (.d (.bl true)) := rfl
      obtain ⟨c, l2, hcc, p2, dr⟩ := draw_c s (n := n + 1) (by omega) p1 rest
      have dr' := dr (EW X0 ms ps (some (.obj (k + 1))) (some (.d (.lst (qs.map cD)))) L e9 (some (.d (.int r))) e11 e12 e13) rfl rfl
      have L2 := h2.at l2
      have nf := l_nf (nm := "play") L2
      have vp : callM asPure m_Log_play [.obj (k + 1), .d (cD c)] (l2 :: rest) = some (.ok (.d .non), l2 :: rest.set j ((qs ++ [c]).map cD)) := v_playS s L2 hcc (by omega)
      have nn : oNotN (.d .non) (.d .non) = ret (.d (.bl false)) := rfl
      have ad : oAdd (.d (.lst (qs.map cD))) (.d (.lst [cD c])) = ret (.d (.lst ((qs ++ [c]).map cD))) := by
        rw [List.map_append]
        exact oAdd_l (by rw [List.length_map, List.length_singleton]; omega)
      have h' : LogR (rest.set j ((qs ++ [c]).map cD)) ms ps 0 1 := h.set h2 (fun e => hj e.symm) (qs ++ [c])
      have hb' : Bes (rest.set j ((qs ++ [c]).map cD)) ms (N + 1) (some (.obj (k + 1))) (some (.d (.lst ((qs ++ [c]).map cD)))) := .yes k j (qs ++ [c]) (h2.self (qs ++ [c])) hj (fun d hd => by
        rcases List.mem_append.mp hd with e | e
        · exact hc2 d e
        · rw [List.mem_singleton.mp e]; exact hcc) (by simp; omega)
      obtain ⟨L', hL', hn', tb⟩ := tb_step (X0 := X0) s h' hc (N := N + 1) (by omega) hb' (by omega) hL (by omega) l2 e9 (some (.d (.int r))) e11 e12 (some (.d (cD c)))
      refine ⟨l2, _, ps, _, _, L', some (.d (.int r)), e11, e12, some (.d (cD c)), p2, h', by rw [List.length_set]; exact hr, hc, by omega, hb', hL', hn', ?_⟩
      exists tk', k0, k1, k2, k3, n1, dr', nf, vp, nn, ad, tb
  · exact plog c0 c1 c2 fun e => absurd e c3
theorem b_loop (s : Snd ms) (all : List D) : ∀ (D0 : List D) {n : Nat} (hn : n + 2 * D0.length ≤ 700000) {l : List D} (hp : PoolOk n l) {rest : Store} {ps : List (List Int)} {N : Nat} {e6 e7 : Option SV} (h : LogR rest ms ps 0 1) (hr : 2 ≤ rest.length) (hc : ∀ c ∈ ps, c ∈ cellsOf ms) (hl : ps.length ≤ N) (hb : Bes rest ms N e6 e7) (hN : N + D0.length ≤ 800) {L : List D} (hL : Seen L) (hLn : L.length + 2 * D0.length ≤ 800) (e9 e10 e11 e12 e13 : Option SV),
    ∃ l' rest' ps' e6' e7' L' x9 x10 x11 x12 x13, LogR rest' ms ps' 0 1 ∧ (∀ c ∈ ps', c ∈ cellsOf ms) ∧ ps'.length ≤ 900 ∧ Seen L' ∧ L'.length ≤ 900 ∧ (∃ m, PoolOk m l') ∧
      forL (.one 9) none all b0_law D0 (EW X0 ms ps e6 e7 L e9 e10 e11 e12 e13) (l :: rest) = some (.nx (EW X0 ms ps' e6' e7' L' x9 x10 x11 x12 x13), l' :: rest')
  | [], n, hn, l, hp, rest, ps, N, e6, e7, h, hr, hc, hl, hb, hN, L, hL, hLn, e9, e10, e11, e12, e13 => ⟨l, rest, ps, e6, e7, L, e9, e10, e11, e12, e13, h, hc, by simp at hN; omega, hL, by simp at hLn; omega, ⟨n, hp⟩, for_nil⟩
  | d :: D0, n, hn, l, hp, rest, ps, N, e6, e7, h, hr, hc, hl, hb, hN, L, hL, hLn, e9, e10, e11, e12, e13 => by
    rw [List.length_cons] at hn hN hLn
    obtain ⟨l1, r1, p1, a6, a7, L1, y10, y11, y12, y13, g1, g2, g3, g4, g5, g6, g7, g8, st⟩ := b_step (X0 := X0) s (by omega) hp h hr hc hl hb (by omega) hL (by omega) (some (.d d)) e10 e11 e12 e13
    obtain ⟨l', rest', ps', e6', e7', L', x9, x10, x11, x12, x13, q1, q2, q3, q4, q5, q6, ih⟩ := b_loop s all D0 (n := n + 2) (by omega) g1 g2 g3 g4 (N := N + 1) g5 g6 (by omega) g7 (by omega) (some (.d d)) y10 y11 y12 y13
    refine ⟨l', rest', ps', e6', e7', L', x9, x10, x11, x12, x13, q1, q2, q3, q4, q5, q6, ?_⟩
    rw [← ih]
    exact for_nx rfl st trivial
end
end Lw
namespace Lw
open PySem L2 DL
theorem main : ∀ ns : List Int, ns.length ≤ 63 → m_law [.d (.scr (ns.map D.int))] [] = some (.ok (.d (.bl true)), []) := by
  intro ns hns
  let X0 : SV := .d (.scr (ns.map D.int))
  let L0 : List D := [.int 0, .int 0, .lst (ns.map D.int)]
  have hp0 : PoolOk 0 L0 := ⟨0, 0, ns, rfl, by decide, by decide, hns⟩
  obtain ⟨sh, l1, hsh, p1, f1⟩ := v_drawnM 16 (by decide) 0 (by decide) L0 [] hp0
  obtain ⟨ms, rfl, s⟩ := snd_of hsh
  have po : callM asOwn m__law_pool [X0] [] = some (.ok (.ptr 0), [L0]) := call_atO rfl (S1 := []) (x := L0) (by
    refine fn_F (x := L0) rfl ?_
    show y__law_pool [some X0] [] = _
    unfold y__law_pool
    refine st_Ret ?_
    simp only [X0, L0, ev_Arg, ev_Cons, ev_Nil, ev_C, eVar, List.getElem?_cons_zero, bnd_ret', bList_s, mkOwn_3])
  have c1 : callM asPure m__law_shape [.ptr 0, .d (.int 16)] [L0] = some (.ok (.d (.lst (ms.map D.int))), [l1]) := call_at rfl f1
  have cc := c_lcells s
  have bt' : bTuple [.d (.lst (ms.map D.int))] = ret (.d (.tup (ms.map D.int))) := bTuple_l _
  obtain ⟨a, l2, a0, a1, p2, f2⟩ := take_ok _ (by decide) 2 l1 [] (by decide) (by decide) p1
  have t2 : callM asPure m__law_take [.ptr 0, .d (.int 2)] [l1] = some (.ok (.d (.int a)), [l2]) := call_at rfl f2
  have nl : ∃ b : Bool, oIdx (.d (.lst [.tup (ms.map D.int), .lst (ms.map D.int)])) (.d (.int a)) = ret (.d (sq b (ms.map D.int))) := by
    have : a = 0 ∨ a = 1 := by omega
    rcases this with rfl | rfl
    · exact ⟨true, rfl⟩
    · exact ⟨false, rfl⟩
  obtain ⟨b, ix⟩ := nl
  have mk : mkO "Log" m_Log___init__ [.d (sq b (ms.map D.int))] [l2] = some (.ok (.obj 1), [l2, logI ms 2, []]) := by
    cases b with
    | true => exact v_newlog s [l2]
    | false => exact v_newlogL s [l2]
  have h0 : LogR [logI ms 2, ([] : List (List Int)).map cD] ms [] 0 1 := ⟨rfl, rfl⟩
  obtain ⟨d, l3, d0, d1, p3, f3⟩ := take_ok _ (by decide) 13 l2 [logI ms 2, []] (by decide) (by decide) p2
  have t3 : callM asPure m__law_take [.ptr 0, .d (.int 13)] [l2, logI ms 2, []] = some (.ok (.d (.int d)), [l3, logI ms 2, []]) := call_at rfl f3
  obtain ⟨q, rfl⟩ := Int.eq_ofNat_of_zero_le d0
  have w3 : walkR1 [.d (.int (q : Nat))] = ret (rangeD 0 q, none) := walk_n q (by omega)
  obtain ⟨l', rest', ps', e6', e7', L', x9, x10, x11, x12, x13, q1, q2, q3, q4, q5, ⟨m, pm⟩, lp⟩ := b_loop (X0 := X0) s (rangeD 0 q) (rangeD 0 q) (n := 3) (by rw [rangeD_length]; omega) p3 h0 (by simp) (fun c hc => by cases hc) (N := 0) (by decide) (e6 := some (.d .non)) (e7 := some (.d (.lst []))) .no (by rw [rangeD_length]; omega) (L := []) (fun d hd => by cases hd) (by rw [rangeD_length]; simp; omega) none none none none none
  have lp' : forL (.one 9) none (rangeD 0 q) b0_law (rangeD 0 q) [some X0, some (.ptr 0), some (.d (.lst (ms.map D.int))), some (.d (.lst ((cellsOf ms).map cD))), some (.obj 1), some (.d (.lst [])), some (.d .non), some (.d (.lst [])), some (.d (.lst [])), none, none, none, none, none] [l3, logI ms 2, []] = some (.nx [some X0, some (.ptr 0), some (.d (.lst (ms.map D.int))), some (.d (.lst ((cellsOf ms).map cD))), some (.obj 1), some (.d (.lst (ps'.map cD))), e6', e7', some (.d (.lst L')), x9, x10, x11, x12, x13], l' :: rest') := lp
  have vk := v_kept s (q1.at l') q2 (by omega) q4 (by omega)
  refine fn_DT (S1 := l' :: rest') (T := l' :: rest') rfl ?_ rfl
  show y_law [some X0, none, none, none, none, none, none, none, none, none, none, none, none, none] [] = _
  unfold y_law
  exists po, c1, cc, bt', t2, ix, mk, t3, w3, lp', vk
end Lw
namespace Lw
open PySem L2 DL
structure Txt (K : PySem.W.Frag) (mg : Str → Option Value) : Prop where
  fld : FldT K mg okF
  b_list : mg "list" = none
  b_range : mg "range" = none
  b_int : mg "int" = none
  b_len : mg "len" = none
  b_max : mg "max" = none
  b_tuple : mg "tuple" = none
  b_isinstance : mg "isinstance" = none
  b_bool : mg "bool" = none
  b_all : mg "all" = none
  b_enumerate : mg "enumerate" = none
  b_any : mg "any" = none
  b_gcd : mg "gcd" = some (.builtin "math.gcd")
  b_sum : mg "sum" = none
  b_zip : mg "zip" = none
  b_abs : mg "abs" = none
  i_MOST_CELLS : ∃ t, mg "MOST_CELLS" = some (.int 16 t)
  i_MOST_MOVES : ∃ t, mg "MOST_MOVES" = some (.int 4 t)
  i_MOST_PLAYERS : ∃ t, mg "MOST_PLAYERS" = some (.int 3 t)
section
variable {P : Program} {w : World} {K : PySem.W.Frag} {mg : Str → Option Value} {base : Heap}
theorem sc_is_whole : FnScope N_is_whole P_is_whole (defScope s_is_whole) := ⟨rfl, rfl, rfl, by decide +kernel, rfl, by decide +kernel, by decide +kernel⟩
theorem sc_is_list : FnScope N_is_list P_is_list (defScope s_is_list) := ⟨rfl, rfl, rfl, by decide +kernel, rfl, by decide +kernel, by decide +kernel⟩
theorem sc_is_row : FnScope N_is_row P_is_row (defScope s_is_row) := ⟨rfl, rfl, rfl, by decide +kernel, rfl, by decide +kernel, by decide +kernel⟩
theorem sc_is_weights : FnScope N_is_weights P_is_weights (defScope s_is_weights) := ⟨rfl, rfl, rfl, by decide +kernel, rfl, by decide +kernel, by decide +kernel⟩
theorem sc_is_shape : FnScope N_is_shape P_is_shape (defScope s_is_shape) := ⟨rfl, rfl, rfl, by decide +kernel, rfl, by decide +kernel, by decide +kernel⟩
theorem sc_count_cells : FnScope N_count_cells P_count_cells (defScope s_count_cells) := ⟨rfl, rfl, rfl, by decide +kernel, rfl, by decide +kernel, by decide +kernel⟩
theorem sc_is_move : FnScope N_is_move P_is_move (defScope s_is_move) := ⟨rfl, rfl, rfl, by decide +kernel, rfl, by decide +kernel, by decide +kernel⟩
theorem sc_is_cell : FnScope N_is_cell P_is_cell (defScope s_is_cell) := ⟨rfl, rfl, rfl, by decide +kernel, rfl, by decide +kernel, by decide +kernel⟩
theorem sc_check_cell : FnScope N_check_cell P_check_cell (defScope s_check_cell) := ⟨rfl, rfl, rfl, by decide +kernel, rfl, by decide +kernel, by decide +kernel⟩
theorem sc_place : FnScope N_place P_place (defScope s_place) := ⟨rfl, rfl, rfl, by decide +kernel, rfl, by decide +kernel, by decide +kernel⟩
theorem sc_lowest : FnScope N_lowest P_lowest (defScope s_lowest) := ⟨rfl, rfl, rfl, by decide +kernel, rfl, by decide +kernel, by decide +kernel⟩
theorem sc_counts : FnScope N_counts P_counts (defScope s_counts) := ⟨rfl, rfl, rfl, by decide +kernel, rfl, by decide +kernel, by decide +kernel⟩
theorem sc__law_pool : FnScope N__law_pool P__law_pool (defScope s__law_pool) := ⟨rfl, rfl, rfl, by decide +kernel, rfl, by decide +kernel, by decide +kernel⟩
theorem sc__law_take : FnScope N__law_take P__law_take (defScope s__law_take) := ⟨rfl, rfl, rfl, by decide +kernel, rfl, by decide +kernel, by decide +kernel⟩
theorem sc__law_divisor : FnScope N__law_divisor P__law_divisor (defScope s__law_divisor) := ⟨rfl, rfl, rfl, by decide +kernel, rfl, by decide +kernel, by decide +kernel⟩
theorem sc__law_shapes : FnScope N__law_shapes P__law_shapes (defScope s__law_shapes) := ⟨rfl, rfl, rfl, by decide +kernel, rfl, by decide +kernel, by decide +kernel⟩
theorem sc__law_size : FnScope N__law_size P__law_size (defScope s__law_size) := ⟨rfl, rfl, rfl, by decide +kernel, rfl, by decide +kernel, by decide +kernel⟩
theorem sc__law_shape : FnScope N__law_shape P__law_shape (defScope s__law_shape) := ⟨rfl, rfl, rfl, by decide +kernel, rfl, by decide +kernel, by decide +kernel⟩
theorem sc__law_cells : FnScope N__law_cells P__law_cells (defScope s__law_cells) := ⟨rfl, rfl, rfl, by decide +kernel, rfl, by decide +kernel, by decide +kernel⟩
theorem sc__law_least_terms : FnScope N__law_least_terms P__law_least_terms (defScope s__law_least_terms) := ⟨rfl, rfl, rfl, by decide +kernel, rfl, by decide +kernel, by decide +kernel⟩
theorem sc__law_refused : FnScope N__law_refused P__law_refused (defScope s__law_refused) := ⟨rfl, rfl, rfl, by decide +kernel, rfl, by decide +kernel, by decide +kernel⟩
theorem sc__law_same : FnScope N__law_same P__law_same (defScope s__law_same) := ⟨rfl, rfl, rfl, by decide +kernel, rfl, by decide +kernel, by decide +kernel⟩
theorem sc__law_odd_cells : FnScope N__law_odd_cells P__law_odd_cells (defScope s__law_odd_cells) := ⟨rfl, rfl, rfl, by decide +kernel, rfl, by decide +kernel, by decide +kernel⟩
theorem sc__law_hints : FnScope N__law_hints P__law_hints (defScope s__law_hints) := ⟨rfl, rfl, rfl, by decide +kernel, rfl, by decide +kernel, by decide +kernel⟩
theorem sc__law_kept : FnScope N__law_kept P__law_kept (defScope s__law_kept) := ⟨rfl, rfl, rfl, by decide +kernel, rfl, by decide +kernel, by decide +kernel⟩
theorem sc_law : FnScope N_law P_law (defScope s_law) := ⟨rfl, rfl, rfl, by decide +kernel, rfl, by decide +kernel, by decide +kernel⟩
theorem sc_Hint___init__ : FnScope N_Hint___init__ P_Hint___init__ (defScope s_Hint___init__) := ⟨rfl, rfl, rfl, by decide +kernel, rfl, by decide +kernel, by decide +kernel⟩
theorem sc_Hint___eq__ : FnScope N_Hint___eq__ P_Hint___eq__ (defScope s_Hint___eq__) := ⟨rfl, rfl, rfl, by decide +kernel, rfl, by decide +kernel, by decide +kernel⟩
theorem sc_Hint_weights : FnScope N_Hint_weights P_Hint_weights (defScope s_Hint_weights) := ⟨rfl, rfl, rfl, by decide +kernel, rfl, by decide +kernel, by decide +kernel⟩
theorem sc_Log___init__ : FnScope N_Log___init__ P_Log___init__ (defScope s_Log___init__) := ⟨rfl, rfl, rfl, by decide +kernel, rfl, by decide +kernel, by decide +kernel⟩
theorem sc_Log___init__P : FnScope N_Log___init__P P_Log___init__P (defScope s_Log___init__P) := ⟨rfl, rfl, rfl, by decide +kernel, rfl, by decide +kernel, by decide +kernel⟩
theorem sc_Log___len__ : FnScope N_Log___len__ P_Log___len__ (defScope s_Log___len__) := ⟨rfl, rfl, rfl, by decide +kernel, rfl, by decide +kernel, by decide +kernel⟩
theorem sc_Log_plays : FnScope N_Log_plays P_Log_plays (defScope s_Log_plays) := ⟨rfl, rfl, rfl, by decide +kernel, rfl, by decide +kernel, by decide +kernel⟩
theorem sc_Log_play : FnScope N_Log_play P_Log_play (defScope s_Log_play) := ⟨rfl, rfl, rfl, by decide +kernel, rfl, by decide +kernel, by decide +kernel⟩
theorem sc_Log_hint : FnScope N_Log_hint P_Log_hint (defScope s_Log_hint) := ⟨rfl, rfl, rfl, by decide +kernel, rfl, by decide +kernel, by decide +kernel⟩
theorem sc_Log_behind : FnScope N_Log_behind P_Log_behind (defScope s_Log_behind) := ⟨rfl, rfl, rfl, by decide +kernel, rfl, by decide +kernel, by decide +kernel⟩
theorem ok_is_whole (T : Txt K mg)  {f : Addr} {fd : FuncData} (F : Fun K "is_whole" "is_whole" s_is_whole f fd) :
    FnOk P w K mg base (L2N.CX P w) 1 f fd P_is_whole (spD K mg m_is_whole) :=
  fnD F sc_is_whole fun cdv A outer s H E hr =>
    (ds_one (ds_ret (de_and (de_callB call_isi cok_isi rfl T.b_isinstance (by decide +kernel) (da_cons (de_var 0) (da_cons (de_ty rfl T.b_int (by decide +kernel)) da_nil))) (de_one (de_not (de_callB call_isi cok_isi rfl T.b_isinstance (by decide +kernel) (da_cons (de_var 0) (da_cons (de_ty rfl T.b_bool (by decide +kernel)) da_nil))))))))
theorem ok_is_list (T : Txt K mg)  {f : Addr} {fd : FuncData} (F : Fun K "is_list" "is_list" s_is_list f fd) :
    FnOk P w K mg base (L2N.CX P w) 1 f fd P_is_list (spD K mg m_is_list) :=
  fnD F sc_is_list fun cdv A outer s H E hr =>
    (ds_one (ds_ret (de_callB call_isiT cok_isiT rfl T.b_isinstance (by decide +kernel) (da_cons (de_var 0) (da_cons (de_tup (da_cons (de_ty rfl T.b_list (by decide +kernel)) (da_cons (de_ty rfl T.b_tuple (by decide +kernel)) da_nil))) da_nil)))))
theorem ok_is_row (T : Txt K mg) {f_is_list : Addr} {d_is_list : FuncData} (c_is_list : Callee P w K mg base 1 "is_list" P_is_list m_is_list f_is_list d_is_list) (b_is_list : Binds K d_is_list P_is_list []) {f_is_whole : Addr} {d_is_whole : FuncData} (c_is_whole : Callee P w K mg base 1 "is_whole" P_is_whole m_is_whole f_is_whole d_is_whole) (b_is_whole : Binds K d_is_whole P_is_whole []) {f : Addr} {fd : FuncData} (F : Fun K "is_row" "is_row" s_is_row f fd) :
    FnOk P w K mg base (L2N.CX P w) 2 f fd P_is_row (spD K mg m_is_row) :=
  fnD F sc_is_row fun cdv A outer s H E hr =>
    (ds_one (ds_ret (de_and (c_is_list.call (.inl rfl) hr (by decide) (L2N.takes_of rfl rfl rfl rfl) rfl b_is_list .nil (fun _ _ => rfl) (da_cons (de_var 0) da_nil)) (de_and (de_cmp (op_eqD (Room.units hr)) rok_eq (de_callB call_lenAll cok_len rfl T.b_len (by decide +kernel) (da_cons (de_var 0) da_nil)) (de_var 1) (nomark _)) (de_one (de_callB (cr_all rfl) cok_all rfl T.b_all (by decide +kernel) (da_cons (de_lc (.one 2) [("each", 2)] rfl sc_is_row.nd (di_lt (de_var 0)) (blkOk_by (N := N_is_row) (sc := defScope s_is_row) (by decide +kernel)) (fun _ _ _ _ _ => dg_name 2 sc_is_row.nd) (fun _ _ _ _ _ => dts_nil) (fun _ _ _ _ _ => (c_is_whole.call (.inl rfl) hr (by decide) takesN rfl b_is_whole .nil (fun _ _ => rfl) (da_cons (de_var 2) da_nil))) (fun _ h => h)) da_nil)))))))
theorem ok_is_weights (T : Txt K mg) {f_is_row : Addr} {d_is_row : FuncData} (c_is_row : Callee P w K mg base 2 "is_row" P_is_row m_is_row f_is_row d_is_row) (b_is_row : Binds K d_is_row P_is_row []) {f : Addr} {fd : FuncData} (F : Fun K "is_weights" "is_weights" s_is_weights f fd) :
    FnOk P w K mg base (L2N.CX P w) 3 f fd P_is_weights (spD K mg m_is_weights) :=
  fnD F sc_is_weights fun cdv A outer s H E hr =>
    (ds_cons (ds_if (dt_not (dt_val (c_is_row.call (.inl rfl) hr (by decide) (L2N.takes_of rfl rfl rfl rfl) rfl b_is_row .nil (fun _ _ => rfl) (da_cons (de_var 0) (da_cons (de_var 1) da_nil))))) (ds_one (ds_ret de_bl)) ds_nil)
      (ds_one (ds_ret (de_and (de_callB (cr_all rfl) cok_all rfl T.b_all (by decide +kernel) (da_cons (de_lc (.one 2) [("each", 2)] rfl sc_is_weights.nd (di_lt (de_var 0)) (blkOk_by (N := N_is_weights) (sc := defScope s_is_weights) (by decide +kernel)) (fun _ _ _ _ _ => dg_name 2 sc_is_weights.nd) (fun _ _ _ _ _ => dts_nil) (fun _ _ _ _ _ => (de_cmp op_ge rok_ge (de_var 2) de_int (nomark _))) (fun _ h => h)) da_nil)) (de_one (de_callB (cr_any rfl) cok_any rfl T.b_any (by decide +kernel) (da_cons (de_lc (.one 2) [("each", 2)] rfl sc_is_weights.nd (di_lt (de_var 0)) (blkOk_by (N := N_is_weights) (sc := defScope s_is_weights) (by decide +kernel)) (fun _ _ _ _ _ => dg_name 2 sc_is_weights.nd) (fun _ _ _ _ _ => dts_nil) (fun _ _ _ _ _ => (de_cmp op_gt rok_gt (de_var 2) de_int (nomark _))) (fun _ h => h)) da_nil)))))))
theorem ok_count_cells (T : Txt K mg)  {f : Addr} {fd : FuncData} (F : Fun K "count_cells" "count_cells" s_count_cells f fd) :
    FnOk P w K mg base (L2N.CX P w) 1 f fd P_count_cells (spD K mg m_count_cells) :=
  fnD F sc_count_cells fun cdv A outer s H E hr =>
    (ds_cons (ds_set 1 sc_count_cells.nd de_int)
      (ds_cons (ds_for (passes_of rfl) rfl (di_lt (de_var 0)) (dg_name 2 sc_count_cells.nd) (ds_one (ds_set 1 sc_count_cells.nd (de_op op_mulW rok_mul (de_var 1) (de_var 2)))))
      (ds_one (ds_ret (de_var 1)))))
theorem ok_is_shape (T : Txt K mg) {f_is_list : Addr} {d_is_list : FuncData} (c_is_list : Callee P w K mg base 1 "is_list" P_is_list m_is_list f_is_list d_is_list) (b_is_list : Binds K d_is_list P_is_list []) {f_is_whole : Addr} {d_is_whole : FuncData} (c_is_whole : Callee P w K mg base 1 "is_whole" P_is_whole m_is_whole f_is_whole d_is_whole) (b_is_whole : Binds K d_is_whole P_is_whole []) {f_count_cells : Addr} {d_count_cells : FuncData} (c_count_cells : Callee P w K mg base 1 "count_cells" P_count_cells m_count_cells f_count_cells d_count_cells) (b_count_cells : Binds K d_count_cells P_count_cells []) {f : Addr} {fd : FuncData} (F : Fun K "is_shape" "is_shape" s_is_shape f fd) :
    FnOk P w K mg base (L2N.CX P w) 2 f fd P_is_shape (spD K mg m_is_shape) :=
  fnD F sc_is_shape fun cdv A outer s H E hr =>
    (ds_cons (ds_if (dt_bool (dw_or (dt_not (dt_val (c_is_list.call (.inl rfl) hr (by decide) (L2N.takes_of rfl rfl rfl rfl) rfl b_is_list .nil (fun _ _ => rfl) (da_cons (de_var 0) da_nil)))) (dw_or1 (dt_not (dt_ch op_le op_le rok_le rok_le de_int (de_callB call_lenAll cok_len rfl T.b_len (by decide +kernel) (da_cons (de_var 0) da_nil)) (de_gint rfl T.i_MOST_PLAYERS.choose_spec)))))) (ds_one (ds_ret de_bl)) ds_nil)
      (ds_cons (ds_if (dt_not (dt_val (de_callB (cr_all rfl) cok_all rfl T.b_all (by decide +kernel) (da_cons (de_lc (.one 1) [("many", 1)] rfl sc_is_shape.nd (di_lt (de_var 0)) (blkOk_by (N := N_is_shape) (sc := defScope s_is_shape) (by decide +kernel)) (fun _ _ _ _ _ => dg_name 1 sc_is_shape.nd) (fun _ _ _ _ _ => dts_nil) (fun _ _ _ _ _ => (de_and (c_is_whole.call (.inl rfl) hr (by decide) takesN rfl b_is_whole .nil (fun _ _ => rfl) (da_cons (de_var 1) da_nil)) (de_one (de_ch op_le op_le rok_le rok_le de_int (de_var 1) (de_gint rfl T.i_MOST_MOVES.choose_spec))))) (fun _ h => h)) da_nil)))) (ds_one (ds_ret de_bl)) ds_nil)
      (ds_one (ds_ret (de_cmp op_le rok_le (c_count_cells.call (.inl rfl) hr (by decide) (L2N.takes_of rfl rfl rfl rfl) rfl b_count_cells .nil (fun _ _ => rfl) (da_cons (de_var 0) da_nil)) (de_gint rfl T.i_MOST_CELLS.choose_spec) (nomark _))))))
theorem ok_is_move (T : Txt K mg) {f_is_whole : Addr} {d_is_whole : FuncData} (c_is_whole : Callee P w K mg base 1 "is_whole" P_is_whole m_is_whole f_is_whole d_is_whole) (b_is_whole : Binds K d_is_whole P_is_whole []) {f : Addr} {fd : FuncData} (F : Fun K "is_move" "is_move" s_is_move f fd) :
    FnOk P w K mg base (L2N.CX P w) 2 f fd P_is_move (spD K mg m_is_move) :=
  fnD F sc_is_move fun cdv A outer s H E hr =>
    (ds_one (ds_ret (de_and (c_is_whole.call (.inl rfl) hr (by decide) (L2N.takes_of rfl rfl rfl rfl) rfl b_is_whole .nil (fun _ _ => rfl) (da_cons (de_var 2) da_nil)) (de_one (de_ch op_le op_lt rok_le rok_lt de_int (de_var 2) (de_idx (de_var 0) (de_var 1)))))))
theorem ok_is_cell (T : Txt K mg) {f_is_move : Addr} {d_is_move : FuncData} (c_is_move : Callee P w K mg base 2 "is_move" P_is_move m_is_move f_is_move d_is_move) (b_is_move : Binds K d_is_move P_is_move []) {f : Addr} {fd : FuncData} (F : Fun K "is_cell" "is_cell" s_is_cell f fd) :
    FnOk P w K mg base (L2N.CX P w) 3 f fd P_is_cell (spD K mg m_is_cell) :=
  fnD F sc_is_cell fun cdv A outer s H E hr =>
    (ds_cons (ds_if (dt_bool (dw_or (dt_not (dt_val (de_callB call_isi cok_isi rfl T.b_isinstance (by decide +kernel) (da_cons (de_var 1) (da_cons (de_ty rfl T.b_tuple (by decide +kernel)) da_nil))))) (dw_or1 (dt_cmp (op_neD (Room.units hr)) rok_ne (de_callB call_lenAll cok_len rfl T.b_len (by decide +kernel) (da_cons (de_var 1) da_nil)) (de_callB call_lenAll cok_len rfl T.b_len (by decide +kernel) (da_cons (de_var 0) da_nil)) (nomark _))))) (ds_one (ds_ret de_bl)) ds_nil)
      (ds_one (ds_ret (de_callB (cr_all rfl) cok_all rfl T.b_all (by decide +kernel) (da_cons (de_lc (.many [2, 3]) [("player", 2), ("move", 3)] rfl sc_is_cell.nd (di_enum (da_cons (de_var 1) da_nil) rfl T.b_enumerate) (blkOk_by (N := N_is_cell) (sc := defScope s_is_cell) (by decide +kernel)) (fun _ _ _ _ _ => dg_tup rfl (dgs_cons 2 sc_is_cell.nd (dgs_cons 3 sc_is_cell.nd dgs_nil))) (fun _ _ _ _ _ => dts_nil) (fun _ _ _ _ _ => (c_is_move.call (.inl rfl) hr (by decide) takesN rfl b_is_move .nil (fun _ _ => rfl) (da_cons (de_var 0) (da_cons (de_var 2) (da_cons (de_var 3) da_nil))))) (fun _ h => h)) da_nil)))))
theorem ok_check_cell (T : Txt K mg) {f_is_cell : Addr} {d_is_cell : FuncData} (c_is_cell : Callee P w K mg base 3 "is_cell" P_is_cell m_is_cell f_is_cell d_is_cell) (b_is_cell : Binds K d_is_cell P_is_cell []) {C_NoCell fI_NoCell : Addr} {dI_NoCell : FuncData} (E_NoCell : ErrC K mg "NoCell" "cell" "cell" C_NoCell fI_NoCell dI_NoCell) {f : Addr} {fd : FuncData} (F : Fun K "check_cell" "check_cell" s_check_cell f fd) :
    FnOk P w K mg base (L2N.CX P w) 4 f fd P_check_cell (spD K mg m_check_cell) :=
  fnD F sc_check_cell fun cdv A outer s H E hr =>
    (ds_one (ds_if (dt_not (dt_val (c_is_cell.call (.inl rfl) hr (by decide) (L2N.takes_of rfl rfl rfl rfl) rfl b_is_cell .nil (fun _ _ => rfl) (da_cons (de_var 0) (da_cons (de_var 1) da_nil))))) (ds_one (ds_raise1 rfl (L2N.takes_of rfl rfl rfl rfl) E_NoCell.T E_NoCell.iC E_NoCell.tI E_NoCell.hno (E_NoCell.F _ _ _) (hr.mono (by decide)) E_NoCell.b rfl E_NoCell.gC (de_var 1))) ds_nil))
theorem ok_place (T : Txt K mg)  {f : Addr} {fd : FuncData} (F : Fun K "place" "place" s_place f fd) :
    FnOk P w K mg base (L2N.CX P w) 1 f fd P_place (spD K mg m_place) :=
  fnD F sc_place fun cdv A outer s H E hr =>
    (ds_cons (ds_set 2 sc_place.nd de_int)
      (ds_cons (ds_for (passes_of rfl) rfl (di_zip (da_cons (de_var 0) (da_cons (de_var 1) da_nil)) rfl T.b_zip) (dg_tup rfl (dgs_cons 3 sc_place.nd (dgs_cons 4 sc_place.nd dgs_nil))) (ds_one (ds_set 2 sc_place.nd (de_op op_addAll rok_add (de_op op_mulW rok_mul (de_var 2) (de_var 3)) (de_var 4)))))
      (ds_one (ds_ret (de_var 2)))))
theorem ok_lowest (T : Txt K mg)  {f : Addr} {fd : FuncData} (F : Fun K "lowest" "lowest" s_lowest f fd) :
    FnOk P w K mg base (L2N.CX P w) 1 f fd P_lowest (spD K mg m_lowest) :=
  fnD F sc_lowest fun cdv A outer s H E hr =>
    (ds_cons (ds_set 1 sc_lowest.nd de_int)
      (ds_cons (ds_for (passes_of rfl) rfl (di_lt (de_var 0)) (dg_name 2 sc_lowest.nd) (ds_one (ds_set 1 sc_lowest.nd (de_callG cr_gcd cok_gcd rfl T.b_gcd (da_cons (de_var 1) (da_cons (de_var 2) da_nil))))))
      (ds_cons (ds_if (dt_cmp (op_eqD (Room.units hr)) rok_eq (de_var 1) de_int (nomark _)) (ds_one (ds_ret (de_callTy call_list_of cok_listOwn rfl T.b_list (by decide +kernel) (da_cons (de_var 0) da_nil)))) ds_nil)
      (ds_one (ds_ret (de_lcOwn (.one 2) [("number", 2)] rfl sc_lowest.nd (di_lt (de_var 0)) (blkOk_by (N := N_lowest) (sc := defScope s_lowest) (by decide +kernel)) (fun _ _ _ _ _ => dg_name 2 sc_lowest.nd) (fun _ _ _ _ _ => dts_nil) (fun _ _ _ _ _ => (de_op op_fdivZ rok_fdiv (de_var 2) (de_var 1))) (fun _ h => h)))))))
theorem ok_Log_plays (T : Txt K mg)  {f : Addr} {fd : FuncData} (F : Fun K "plays" "Log.plays" s_Log_plays f fd) :
    FnOk P w K mg base (L2N.CX P w) 1 f fd P_Log_plays (spD K mg m_Log_plays) :=
  fnD F sc_Log_plays fun cdv A outer s H E hr =>
    (ds_one (ds_ret (de_callTy call_list_of cok_listOwn rfl T.b_list (by decide +kernel) (da_cons (de_fld T.fld (de_var 0)) da_nil))))
theorem ok_counts (T : Txt K mg) {f_count_cells : Addr} {d_count_cells : FuncData} (c_count_cells : Callee P w K mg base 1 "count_cells" P_count_cells m_count_cells f_count_cells d_count_cells) (b_count_cells : Binds K d_count_cells P_count_cells []) {f_place : Addr} {d_place : FuncData} (c_place : Callee P w K mg base 1 "place" P_place m_place f_place d_place) (b_place : Binds K d_place P_place []) {KC_Log : Addr} {f_Log_plays : Addr} {d_Log_plays : FuncData} (om_Log_plays : OwnM P w K mg base 1 "Log" "plays" P_Log_plays m_Log_plays KC_Log f_Log_plays d_Log_plays) {f : Addr} {fd : FuncData} (F : Fun K "counts" "counts" s_counts f fd) :
    FnOk P w K mg base (L2N.CX P w) 2 f fd P_counts (spD K mg m_counts) :=
  fnD F sc_counts fun cdv A outer s H E hr =>
    (ds_cons (ds_set 1 sc_counts.nd (de_op op_rep rok_repOwn (de_lst (da_cons de_int da_nil)) (c_count_cells.call (.inl rfl) hr (by decide) (L2N.takes_of rfl rfl rfl rfl) rfl b_count_cells .nil (fun _ _ => rfl) (da_cons (de_fld T.fld (de_var 0)) da_nil))))
      (ds_cons (ds_for (passes_of rfl) rfl (di_lt (de_methB0 (.inl rfl) om_Log_plays (hr.mono (by decide)) (L2N.takes_of rfl rfl rfl rfl) (de_var 0))) (dg_name 2 sc_counts.nd) (ds_one (ds_augi ip_add (de_var 1) (c_place.call (.inl rfl) hr (by decide) (L2N.takes_of rfl rfl rfl rfl) rfl b_place .nil (fun _ _ => rfl) (da_cons (de_fld T.fld (de_var 0)) (da_cons (de_var 2) da_nil))) de_int)))
      (ds_one (ds_ret (de_var 1)))))
theorem ok__law_pool (T : Txt K mg)  {f : Addr} {fd : FuncData} (F : Fun K "_law_pool" "_law_pool" s__law_pool f fd) :
    FnOk P w K mg base (L2N.CX P w) 1 f fd P__law_pool (spD K mg m__law_pool) :=
  fnD F sc__law_pool fun cdv A outer s H E hr =>
    (ds_one (ds_ret (de_own (da_cons de_int (da_cons de_int (da_cons (de_callTy call_list_of cok_list rfl T.b_list (by decide +kernel) (da_cons (de_var 0) da_nil)) da_nil))))))
theorem ok__law_take (T : Txt K mg)  {f : Addr} {fd : FuncData} (F : Fun K "_law_take" "_law_take" s__law_take f fd) :
    FnOk P w K mg base (L2N.CX P w) 1 f fd P__law_take (spD K mg m__law_take) :=
  fnD F sc__law_take fun cdv A outer s H E hr =>
    (ds_cons (ds_if (dt_cmp (op_eqD (Room.units hr)) rok_eq (de_idx (de_var 0) de_int) de_int (nomark _)) (ds_cons (ds_set 2 sc__law_take.nd (de_idx (de_var 0) de_int))
      (ds_cons (ds_seti (fun p q => pg_sub p q set_list) (de_op op_addAll rok_add (de_var 2) de_int) (de_var 0) de_int)
      (ds_cons (ds_set 3 sc__law_take.nd (de_idx (de_op op_addAll rok_add (de_idx (de_var 0) de_int) (de_lst (da_cons de_int da_nil))) (de_op op_modN rok_mod (de_callTy call_int1 cok_int rfl T.b_int (by decide +kernel) (da_cons (de_var 2) da_nil)) (de_callB (call_max2 rfl) cok_max rfl T.b_max (by decide +kernel) (da_cons de_int (da_cons (de_callB call_lenAll cok_len rfl T.b_len (by decide +kernel) (da_cons (de_idx (de_var 0) de_int) da_nil)) da_nil))))))
      (ds_cons (ds_set 4 sc__law_take.nd (de_op op_modN rok_mod (de_op op_pow rok_pow (de_op op_addAll rok_add (de_op op_addAll rok_add (de_op op_modN rok_mod (de_callTy call_int1 cok_int rfl T.b_int (by decide +kernel) (da_cons (de_var 3) da_nil)) de_int) (de_op op_mulW rok_mul de_int (de_var 2))) de_int) de_int) de_int))
      (ds_cons (ds_set 4 sc__law_take.nd (de_op op_modN rok_mod (de_op op_pow rok_pow (de_op op_addAll rok_add (de_op op_addAll rok_add (de_var 4) (de_op op_mulW rok_mul de_int (de_var 2))) de_int) de_int) de_int))
      (ds_cons (ds_if (dt_cmp op_lt rok_lt (de_var 3) (de_op op_pow rok_pow de_int de_int) (nomark _)) (ds_one (ds_ret (de_op op_modN rok_mod (de_op op_fdivZ rok_fdiv (de_var 4) de_int) (de_var 1)))) ds_nil)
      (ds_one (ds_seti (fun p q => pg_sub p q set_list) (de_var 3) (de_var 0) de_int)))))))) ds_nil)
      (ds_cons (ds_set 5 sc__law_take.nd (de_op op_modN rok_mod (de_callTy call_int1 cok_int rfl T.b_int (by decide +kernel) (da_cons (de_idx (de_var 0) de_int) da_nil)) (de_var 1)))
      (ds_cons (ds_seti (fun p q => pg_sub p q set_list) (de_op op_fdivZ rok_fdiv (de_idx (de_var 0) de_int) (de_var 1)) (de_var 0) de_int)
      (ds_one (ds_ret (de_var 5))))))
theorem ok__law_divisor (T : Txt K mg)  {f : Addr} {fd : FuncData} (F : Fun K "_law_divisor" "_law_divisor" s__law_divisor f fd) :
    FnOk P w K mg base (L2N.CX P w) 1 f fd P__law_divisor (spD K mg m__law_divisor) :=
  fnD F sc__law_divisor fun cdv A outer s H E hr =>
    (ds_cons (ds_set 1 sc__law_divisor.nd de_int)
      (ds_cons (ds_for (passes_of rfl) rfl (di_lt (de_var 0)) (dg_name 2 sc__law_divisor.nd) (ds_cons (ds_set 3 sc__law_divisor.nd (de_callB call_abs cok_abs rfl T.b_abs (by decide +kernel) (da_cons (de_var 2) da_nil)))
      (ds_cons (ds_set 4 sc__law_divisor.nd (de_var 1))
      (ds_cons (ds_while 100000 (passes_of rfl) (dt_cmp (op_neD (Room.units hr)) rok_ne (de_var 4) de_int (nomark _)) (ds_one (ds_par 3 4 (fun p => ps_par rfl sc__law_divisor.nd rfl rfl (by decide) rfl rfl p (by rfl)) (da_cons (de_var 4) (da_cons (de_op op_modN rok_mod (de_callTy call_int1 cok_int rfl T.b_int (by decide +kernel) (da_cons (de_var 3) da_nil)) (de_var 4)) da_nil)))))
      (ds_one (ds_set 1 sc__law_divisor.nd (de_var 3)))))))
      (ds_one (ds_ret (de_var 1)))))
theorem ok__law_size (T : Txt K mg)  {f : Addr} {fd : FuncData} (F : Fun K "_law_size" "_law_size" s__law_size f fd) :
    FnOk P w K mg base (L2N.CX P w) 1 f fd P__law_size (spD K mg m__law_size) :=
  fnD F sc__law_size fun cdv A outer s H E hr =>
    (ds_cons (ds_set 1 sc__law_size.nd de_int)
      (ds_cons (ds_for (passes_of rfl) rfl (di_lt (de_var 0)) (dg_name 2 sc__law_size.nd) (ds_one (ds_set 1 sc__law_size.nd (de_op op_mulW rok_mul (de_var 1) (de_var 2)))))
      (ds_one (ds_ret (de_var 1)))))
theorem ok__law_shapes (T : Txt K mg) {f__law_size : Addr} {d__law_size : FuncData} (c__law_size : Callee P w K mg base 1 "_law_size" P__law_size m__law_size f__law_size d__law_size) (b__law_size : Binds K d__law_size P__law_size []) {f : Addr} {fd : FuncData} (F : Fun K "_law_shapes" "_law_shapes" s__law_shapes f fd) :
    FnOk P w K mg base (L2N.CX P w) 2 f fd P__law_shapes (spD K mg m__law_shapes) :=
  fnD F sc__law_shapes fun cdv A outer s H E hr =>
    (ds_cons (ds_setLc (.one 2) [("_law_a", 2)] 1 rfl sc__law_shapes.nd rfl (di_range2 (da_cons de_int (da_cons de_int da_nil)) rfl T.b_range) (blkOk_by (N := N__law_shapes) (sc := defScope s__law_shapes) (by decide +kernel)) (fun _ _ _ _ _ => dg_name 2 sc__law_shapes.nd) (fun _ _ _ _ _ => dts_nil) (fun _ _ _ _ _ => (de_lst (da_cons (de_var 2) da_nil))) (fun _ h => h) (sw_true rfl rfl rfl (by decide +kernel)))
      (ds_cons (ds_for (passes_of rfl) rfl (di_range2 (da_cons de_int (da_cons de_int da_nil)) rfl T.b_range) (dg_name 2 sc__law_shapes.nd) (ds_one (ds_set 1 sc__law_shapes.nd (de_op op_addAll rok_add (de_var 1) (de_lc (.one 3) [("_law_b", 3)] rfl sc__law_shapes.nd (di_range2 (da_cons de_int (da_cons de_int da_nil)) rfl T.b_range) (blkOk_by (N := N__law_shapes) (sc := defScope s__law_shapes) (by decide +kernel)) (fun _ _ _ _ _ => dg_name 3 sc__law_shapes.nd) (fun _ _ _ _ _ => dts_nil) (fun _ _ _ _ _ => (de_lst (da_cons (de_var 2) (da_cons (de_var 3) da_nil)))) (fun _ h => h))))))
      (ds_cons (ds_for (passes_of rfl) rfl (di_range2 (da_cons de_int (da_cons de_int da_nil)) rfl T.b_range) (dg_name 2 sc__law_shapes.nd) (ds_one (ds_for (passes_of rfl) rfl (di_range2 (da_cons de_int (da_cons de_int da_nil)) rfl T.b_range) (dg_name 3 sc__law_shapes.nd) (ds_one (ds_set 1 sc__law_shapes.nd (de_op op_addAll rok_add (de_var 1) (de_lc (.one 4) [("_law_c", 4)] rfl sc__law_shapes.nd (di_range2 (da_cons de_int (da_cons de_int da_nil)) rfl T.b_range) (blkOk_by (N := N__law_shapes) (sc := defScope s__law_shapes) (by decide +kernel)) (fun _ _ _ _ _ => dg_name 4 sc__law_shapes.nd) (fun _ _ _ _ _ => dts_nil) (fun _ _ _ _ _ => (de_lst (da_cons (de_var 2) (da_cons (de_var 3) (da_cons (de_var 4) da_nil))))) (fun _ h => h))))))))
      (ds_one (ds_ret (de_lcOwn (.one 5) [("_law_shape_here", 5)] rfl sc__law_shapes.nd (di_lt (de_var 1)) (blkOk_by (N := N__law_shapes) (sc := defScope s__law_shapes) (by decide +kernel)) (fun _ _ _ _ _ => dg_name 5 sc__law_shapes.nd) (fun _ _ _ _ _ => (dts_one (dt_cmp op_le rok_le (c__law_size.call (.inl rfl) hr (by decide) takesN rfl b__law_size .nil (fun _ _ => rfl) (da_cons (de_var 5) da_nil)) (de_var 0) (nomark _)))) (fun _ _ _ _ _ => (de_var 5)) (fun _ h => h)))))))
theorem ok__law_shape (T : Txt K mg) {f__law_shapes : Addr} {d__law_shapes : FuncData} (c__law_shapes : Callee P w K mg base 2 "_law_shapes" P__law_shapes m__law_shapes f__law_shapes d__law_shapes) (b__law_shapes : Binds K d__law_shapes P__law_shapes []) {f__law_take : Addr} {d__law_take : FuncData} (c__law_take : Callee P w K mg base 1 "_law_take" P__law_take m__law_take f__law_take d__law_take) (b__law_take : Binds K d__law_take P__law_take []) {f : Addr} {fd : FuncData} (F : Fun K "_law_shape" "_law_shape" s__law_shape f fd) :
    FnOk P w K mg base (L2N.CX P w) 3 f fd P__law_shape (spD K mg m__law_shape) :=
  fnD F sc__law_shape fun cdv A outer s H E hr =>
    (ds_cons (ds_set 2 sc__law_shape.nd (c__law_shapes.call (.inl rfl) hr (by decide) (L2N.takes_of rfl rfl rfl rfl) rfl b__law_shapes .nil (fun _ _ => rfl) (da_cons (de_var 1) da_nil)))
      (ds_one (ds_ret (de_idx (de_var 2) (c__law_take.call (.inl rfl) hr (by decide) (L2N.takes_of rfl rfl rfl rfl) rfl b__law_take .nil (fun _ _ => rfl) (da_cons (de_var 0) (da_cons (de_callB call_lenAll cok_len rfl T.b_len (by decide +kernel) (da_cons (de_var 2) da_nil)) da_nil)))))))
theorem ok__law_cells (T : Txt K mg)  {f : Addr} {fd : FuncData} (F : Fun K "_law_cells" "_law_cells" s__law_cells f fd) :
    FnOk P w K mg base (L2N.CX P w) 1 f fd P__law_cells (spD K mg m__law_cells) :=
  fnD F sc__law_cells fun cdv A outer s H E hr =>
    (ds_cons (ds_set 1 sc__law_cells.nd (de_lst (da_cons (de_lst da_nil) da_nil)))
      (ds_cons (ds_for (passes_of rfl) rfl (di_lt (de_var 0)) (dg_name 2 sc__law_cells.nd) (ds_cons (ds_set 3 sc__law_cells.nd (de_lst da_nil))
      (ds_cons (ds_for (passes_of rfl) rfl (di_lt (de_var 1)) (dg_name 4 sc__law_cells.nd) (ds_one (ds_set 3 sc__law_cells.nd (de_op op_addAll rok_add (de_var 3) (de_lc (.one 5) [("_law_move", 5)] rfl sc__law_cells.nd (di_range1 (da_cons (de_var 2) da_nil) rfl T.b_range) (blkOk_by (N := N__law_cells) (sc := defScope s__law_cells) (by decide +kernel)) (fun _ _ _ _ _ => dg_name 5 sc__law_cells.nd) (fun _ _ _ _ _ => dts_nil) (fun _ _ _ _ _ => (de_op op_addAll rok_add (de_var 4) (de_lst (da_cons (de_var 5) da_nil)))) (fun _ h => h))))))
      (ds_one (ds_set 1 sc__law_cells.nd (de_var 3))))))
      (ds_one (ds_ret (de_lcOwn (.one 4) [("_law_cell", 4)] rfl sc__law_cells.nd (di_lt (de_var 1)) (blkOk_by (N := N__law_cells) (sc := defScope s__law_cells) (by decide +kernel)) (fun _ _ _ _ _ => dg_name 4 sc__law_cells.nd) (fun _ _ _ _ _ => dts_nil) (fun _ _ _ _ _ => (de_callTy call_tuple_of cok_tuple rfl T.b_tuple (by decide +kernel) (da_cons (de_var 4) da_nil))) (fun _ h => h))))))
theorem ok__law_least_terms (T : Txt K mg) {f__law_divisor : Addr} {d__law_divisor : FuncData} (c__law_divisor : Callee P w K mg base 1 "_law_divisor" P__law_divisor m__law_divisor f__law_divisor d__law_divisor) (b__law_divisor : Binds K d__law_divisor P__law_divisor []) {f : Addr} {fd : FuncData} (F : Fun K "_law_least_terms" "_law_least_terms" s__law_least_terms f fd) :
    FnOk P w K mg base (L2N.CX P w) 2 f fd P__law_least_terms (spD K mg m__law_least_terms) :=
  fnD F sc__law_least_terms fun cdv A outer s H E hr =>
    (ds_cons (ds_set 1 sc__law_least_terms.nd (c__law_divisor.call (.inl rfl) hr (by decide) (L2N.takes_of rfl rfl rfl rfl) rfl b__law_divisor .nil (fun _ _ => rfl) (da_cons (de_var 0) da_nil)))
      (ds_cons (ds_if (dt_cmp (op_eqD (Room.units hr)) rok_eq (de_var 1) de_int (nomark _)) (ds_one (ds_ret (de_callTy call_list_of cok_listOwn rfl T.b_list (by decide +kernel) (da_cons (de_var 0) da_nil)))) ds_nil)
      (ds_one (ds_ret (de_lcOwn (.one 2) [("_law_number", 2)] rfl sc__law_least_terms.nd (di_lt (de_var 0)) (blkOk_by (N := N__law_least_terms) (sc := defScope s__law_least_terms) (by decide +kernel)) (fun _ _ _ _ _ => dg_name 2 sc__law_least_terms.nd) (fun _ _ _ _ _ => dts_nil) (fun _ _ _ _ _ => (de_op op_fdivZ rok_fdiv (de_var 2) (de_var 1))) (fun _ h => h))))))
theorem ok_Log___init__P (T : Txt K mg) {f_is_shape : Addr} {d_is_shape : FuncData} (c_is_shape : Callee P w K mg base 2 "is_shape" P_is_shape m_is_shape f_is_shape d_is_shape) (b_is_shape : Binds K d_is_shape P_is_shape []) {C_BadShape : Addr} (Z_BadShape : Err0 K mg "BadShape" C_BadShape) {f : Addr} {fd : FuncData} (F : Fun K "__init__" "Log.__init__" s_Log___init__P f fd) :
    FnOk P w K mg base (L2N.CX P w) 3 f fd P_Log___init__P (spD K mg m_Log___init__P) :=
  fnD F sc_Log___init__P fun cdv A outer s H E hr =>
    (ds_cons (ds_if (dt_not (dt_val (c_is_shape.call (.inl rfl) hr (by decide) (L2N.takes_of rfl rfl rfl rfl) rfl b_is_shape .nil (fun _ _ => rfl) (da_cons (de_var 1) da_nil)))) (ds_one (ds_raise0 rfl (L2N.takes_of rfl rfl rfl rfl) Z_BadShape rfl)) ds_nil)
      (ds_cons (ds_setF T.fld (de_callTy call_tuple_of cok_tuple rfl T.b_tuple (by decide +kernel) (da_cons (de_var 1) da_nil)) (de_var 0))
      (ds_one (ds_setF T.fld (de_lst da_nil) (de_var 0)))))
theorem ok_Log_play (T : Txt K mg) {f_check_cell : Addr} {d_check_cell : FuncData} (c_check_cell : Callee P w K mg base 4 "check_cell" P_check_cell m_check_cell f_check_cell d_check_cell) (b_check_cell : Binds K d_check_cell P_check_cell []) {f : Addr} {fd : FuncData} (F : Fun K "play" "Log.play" s_Log_play f fd) :
    FnOk P w K mg base (L2N.CX P w) 5 f fd P_Log_play (spD K mg m_Log_play) :=
  fnD F sc_Log_play fun cdv A outer s H E hr =>
    (ds_cons (ds_expr (c_check_cell.call (.inl rfl) hr (by decide) (L2N.takes_of rfl rfl rfl rfl) rfl b_check_cell .nil (fun _ _ => rfl) (da_cons (de_fld T.fld (de_var 0)) (da_cons (de_var 1) da_nil))))
      (ds_one (ds_app (fun po pa => ps_expr (pe_bm PySem.F.plainAttrs_list PySem.F.slot_list_append PySem.F.type_list_append mt_append po pa)) (de_fld T.fld (de_var 0)) (de_var 1))))
theorem ok_Log___init__ (T : Txt K mg) {f_is_shape : Addr} {d_is_shape : FuncData} (c_is_shape : Callee P w K mg base 2 "is_shape" P_is_shape m_is_shape f_is_shape d_is_shape) (b_is_shape : Binds K d_is_shape P_is_shape []) {C_BadShape : Addr} (Z_BadShape : Err0 K mg "BadShape" C_BadShape) {f : Addr} {fd : FuncData} (F : Fun K "__init__" "Log.__init__" s_Log___init__ f fd) :
    FnOk P w K mg base (L2N.CX P w) 3 f fd P_Log___init__ (spD K mg m_Log___init__) :=
  fnDU F sc_Log___init__ fun cdv A outer s H E hr =>
    (ds_cons (ds_if (dt_not (dt_val (c_is_shape.call (.inl rfl) hr (by decide) (L2N.takes_of rfl rfl rfl rfl) rfl b_is_shape .nil (fun _ _ => rfl) (da_cons (de_var 1) da_nil)))) (ds_one (ds_raise0 rfl (L2N.takes_of rfl rfl rfl rfl) Z_BadShape rfl)) ds_nil)
      (ds_cons (ds_setF T.fld (de_callTy call_tuple_of cok_tuple rfl T.b_tuple (by decide +kernel) (da_cons (de_var 1) da_nil)) (de_var 0))
      (ds_one (ds_setF T.fld (de_own da_nil) (de_var 0)))))
theorem ok_Log_behind (T : Txt K mg) {f_is_whole : Addr} {d_is_whole : FuncData} (c_is_whole : Callee P w K mg base 1 "is_whole" P_is_whole m_is_whole f_is_whole d_is_whole) (b_is_whole : Binds K d_is_whole P_is_whole []) {C_BadShares : Addr} (Z_BadShares : Err0 K mg "BadShares" C_BadShares) {CC_Log fI_Log : Addr} {dI_Log : FuncData} (mk_Log : Maker P w K mg base 3 "Log" P_Log___init__ m_Log___init__ CC_Log fI_Log dI_Log) {KC_Log : Addr} {f_Log_play : Addr} {d_Log_play : FuncData} (om_Log_play : OwnM P w K mg base 5 "Log" "play" P_Log_play m_Log_play KC_Log f_Log_play d_Log_play) {f : Addr} {fd : FuncData} (F : Fun K "behind" "Log.behind" s_Log_behind f fd) :
    FnOk P w K mg base (L2N.CX P w) 6 f fd P_Log_behind (spD K mg m_Log_behind) :=
  fnDU F sc_Log_behind fun cdv A outer s H E hr =>
    (ds_cons (ds_if (dt_bool (dw_or (dt_not (dt_val (c_is_whole.call (.inl rfl) hr (by decide) (L2N.takes_of rfl rfl rfl rfl) rfl b_is_whole .nil (fun _ _ => rfl) (da_cons (de_var 1) da_nil)))) (dw_or1 (dt_not (dt_ch op_le op_le rok_le rok_le de_int (de_var 1) (de_callB call_lenAll cok_len rfl T.b_len (by decide +kernel) (da_cons (de_fld T.fld (de_var 0)) da_nil))))))) (ds_one (ds_raise0 rfl (L2N.takes_of rfl rfl rfl rfl) Z_BadShares rfl)) ds_nil)
      (ds_cons (ds_set 2 sc_Log_behind.nd (de_makeO mk_Log (hr.mono (by decide)) (L2N.takes_of rfl rfl rfl rfl) rfl (da_cons (de_fld T.fld (de_var 0)) da_nil)))
      (ds_cons (ds_for (passes_of rfl) rfl (di_lt (de_slice (de_fld T.fld (de_var 0)) dp_none (dp_some (de_var 1)))) (dg_name 3 sc_Log_behind.nd) (ds_one (ds_expr (de_methB (.inl rfl) om_Log_play (hr.mono (by decide)) (L2N.takes_of rfl rfl rfl rfl) (de_var 2) (da_cons (de_var 3) da_nil)))))
      (ds_one (ds_ret (de_var 2))))))
theorem ok__law_refused (T : Txt K mg) {C_NoCell fI_NoCell : Addr} {dI_NoCell : FuncData} (E_NoCell : ErrC K mg "NoCell" "cell" "cell" C_NoCell fI_NoCell dI_NoCell) {C_BadShares : Addr} (Z_BadShares : Err0 K mg "BadShares" C_BadShares) {C_BadShape : Addr} (Z_BadShape : Err0 K mg "BadShape" C_BadShape) (te_NoCell : PySem.W.exmOne K (.ref C_NoCell) (.ref C_NoCell) = some true) (te_BadShares : PySem.W.exmOne K (.ref C_BadShares) (.ref C_BadShares) = some true) (te_BadShape : PySem.W.exmOne K (.ref C_BadShape) (.ref C_BadShape) = some true) (nn_BadShares_NoCell : PySem.W.exmOne K (.ref C_BadShares) (.ref C_NoCell) = some false) (nn_BadShape_NoCell : PySem.W.exmOne K (.ref C_BadShape) (.ref C_NoCell) = some false) (nn_BadShape_BadShares : PySem.W.exmOne K (.ref C_BadShape) (.ref C_BadShares) = some false) {CP_Log fP_Log : Addr} {dP_Log : FuncData} (mkP_Log : Maker P w K mg base 3 "Log" P_Log___init__P m_Log___init__P CP_Log fP_Log dP_Log) {KC_Log : Addr} {f_Log_play : Addr} {d_Log_play : FuncData} (om_Log_play : OwnM P w K mg base 5 "Log" "play" P_Log_play m_Log_play KC_Log f_Log_play d_Log_play) {f_Log_behind : Addr} {d_Log_behind : FuncData} (om_Log_behind : OwnM P w K mg base 6 "Log" "behind" P_Log_behind m_Log_behind KC_Log f_Log_behind d_Log_behind) {f : Addr} {fd : FuncData} (F : Fun K "_law_refused" "_law_refused" s__law_refused f fd) :
    FnOk P w K mg base (L2N.CX P w) 7 f fd P__law_refused (spD K mg m__law_refused) :=
  fnD F sc__law_refused fun cdv A outer s H E hr =>
    (ds_cons (ds_tryM rfl rfl sc__law_refused.nd (L2N.takes_of rfl rfl rfl rfl) (fun w pn xe tk1 po1 => (ds_cons (ds_if (dt_cmp (op_eqD (Room.units hr)) rok_eq (de_var 0) de_int (nomark _)) (ds_one (ds_expr (de_methB (.inl rfl) om_Log_play (hr.mono (by decide)) tk1 (de_var 1) (da_cons (de_var 2) da_nil)))) ds_nil)
      (ds_cons (ds_if (dt_cmp (op_eqD (Room.units hr)) rok_eq (de_var 0) de_int (nomark _)) (ds_one (ds_expr (de_methB (.inl rfl) om_Log_behind (hr.mono (by decide)) tk1 (de_var 1) (da_cons (de_var 2) da_nil)))) ds_nil)
      (ds_one (ds_if (dt_cmp (op_eqD (Room.units hr)) rok_eq (de_var 0) de_int (nomark _)) (ds_one (ds_expr (de_make mkP_Log (hr.mono (by decide)) tk1 rfl (da_cons (de_var 2) da_nil)))) ds_nil))))) (.cons (cV := .ref C_NoCell) (kk := (some (3, "error"))) (h := ⟨(some 3), ["NoCell"], ["BadShares", "BadShape"], fun c fs l => (sRet (eArg mkLst (aCons (eC (.str "cell")) (aCons (eXf 3 "cell" fs l) aNil))))⟩) ⟨⟨rfl, by decide, .inl E_NoCell.gC⟩, ⟨rfl, rfl⟩, rfl, yes_1 E_NoCell.gC te_NoCell, (no_cons Z_BadShares.gC nn_BadShares_NoCell (no_cons Z_BadShape.gC nn_BadShape_NoCell no_nil))⟩ (fun c C a oe d pn fs l hC hy hz hf => by
        obtain ⟨rfl, rfl⟩ := one_cls E_NoCell.gC hC hy
        exact (ds_one (ds_ret (de_lst (da_cons de_str (da_cons (de_xf 3 E_NoCell.x E_NoCell.hno hz.zc hf) da_nil)))))) (.cons (cV := .ref C_BadShares) (kk := none) (h := ⟨none, ["BadShares"], ["BadShape"], fun c fs l => (sRet (eArg mkLst (aCons (eC (.str "shares")) aNil)))⟩) ⟨⟨rfl, by decide, .inl Z_BadShares.gC⟩, trivial, rfl, yes_1 Z_BadShares.gC te_BadShares, (no_cons Z_BadShape.gC nn_BadShape_BadShares no_nil)⟩ (fun c C a oe d pn fs l hC hy hz hf => by
        obtain ⟨rfl, rfl⟩ := one_cls Z_BadShares.gC hC hy
        exact (ds_one (ds_ret (de_lst (da_cons de_str da_nil))))) (.cons (cV := .ref C_BadShape) (kk := none) (h := ⟨none, ["BadShape"], [], fun c fs l => (sRet (eArg mkLst (aCons (eC (.str "shape")) aNil)))⟩) ⟨⟨rfl, by decide, .inl Z_BadShape.gC⟩, trivial, rfl, yes_1 Z_BadShape.gC te_BadShape, no_nil⟩ (fun c C a oe d pn fs l hC hy hz hf => by
        obtain ⟨rfl, rfl⟩ := one_cls Z_BadShape.gC hC hy
        exact (ds_one (ds_ret (de_lst (da_cons de_str da_nil))))) (.nil)))))
      (ds_one (ds_ret (de_own da_nil))))
theorem ok_Hint___init__ (T : Txt K mg) {f_is_shape : Addr} {d_is_shape : FuncData} (c_is_shape : Callee P w K mg base 2 "is_shape" P_is_shape m_is_shape f_is_shape d_is_shape) (b_is_shape : Binds K d_is_shape P_is_shape []) {f_is_weights : Addr} {d_is_weights : FuncData} (c_is_weights : Callee P w K mg base 3 "is_weights" P_is_weights m_is_weights f_is_weights d_is_weights) (b_is_weights : Binds K d_is_weights P_is_weights []) {f_count_cells : Addr} {d_count_cells : FuncData} (c_count_cells : Callee P w K mg base 1 "count_cells" P_count_cells m_count_cells f_count_cells d_count_cells) (b_count_cells : Binds K d_count_cells P_count_cells []) {f_lowest : Addr} {d_lowest : FuncData} (c_lowest : Callee P w K mg base 1 "lowest" P_lowest m_lowest f_lowest d_lowest) (b_lowest : Binds K d_lowest P_lowest []) {C_BadShape : Addr} (Z_BadShape : Err0 K mg "BadShape" C_BadShape) {C_BadWeights : Addr} (Z_BadWeights : Err0 K mg "BadWeights" C_BadWeights) {f : Addr} {fd : FuncData} (F : Fun K "__init__" "Hint.__init__" s_Hint___init__ f fd) :
    FnOk P w K mg base (L2N.CX P w) 4 f fd P_Hint___init__ (spD K mg m_Hint___init__) :=
  fnD F sc_Hint___init__ fun cdv A outer s H E hr =>
    (ds_cons (ds_if (dt_not (dt_val (c_is_shape.call (.inl rfl) hr (by decide) (L2N.takes_of rfl rfl rfl rfl) rfl b_is_shape .nil (fun _ _ => rfl) (da_cons (de_var 1) da_nil)))) (ds_one (ds_raise0 rfl (L2N.takes_of rfl rfl rfl rfl) Z_BadShape rfl)) ds_nil)
      (ds_cons (ds_if (dt_not (dt_val (c_is_weights.call (.inl rfl) hr (by decide) (L2N.takes_of rfl rfl rfl rfl) rfl b_is_weights .nil (fun _ _ => rfl) (da_cons (de_var 2) (da_cons (c_count_cells.call (.inl rfl) hr (by decide) (L2N.takes_of rfl rfl rfl rfl) rfl b_count_cells .nil (fun _ _ => rfl) (da_cons (de_var 1) da_nil)) da_nil))))) (ds_one (ds_raise0 rfl (L2N.takes_of rfl rfl rfl rfl) Z_BadWeights rfl)) ds_nil)
      (ds_cons (ds_setF T.fld (de_callTy call_tuple_of cok_tuple rfl T.b_tuple (by decide +kernel) (da_cons (de_var 1) da_nil)) (de_var 0))
      (ds_cons (ds_setF T.fld (c_lowest.call (.inl rfl) hr (by decide) (L2N.takes_of rfl rfl rfl rfl) rfl b_lowest .nil (fun _ _ => rfl) (da_cons (de_var 2) da_nil)) (de_var 0))
      (ds_one (ds_setF T.fld (de_callB (cr_sumB rfl) cok_sum rfl T.b_sum (by decide +kernel) (da_cons (de_fld T.fld (de_var 0)) da_nil)) (de_var 0)))))))
theorem ok_Log___len__ (T : Txt K mg)  {f : Addr} {fd : FuncData} (F : Fun K "__len__" "Log.__len__" s_Log___len__ f fd) :
    FnOk P w K mg base (L2N.CX P w) 1 f fd P_Log___len__ (spD K mg m_Log___len__) :=
  fnD F sc_Log___len__ fun cdv A outer s H E hr =>
    (ds_one (ds_ret (de_callB call_lenAll cok_len rfl T.b_len (by decide +kernel) (da_cons (de_fld T.fld (de_var 0)) da_nil))))
theorem ok_Log_hint (T : Txt K mg) {f_counts : Addr} {d_counts : FuncData} (c_counts : Callee P w K mg base 2 "counts" P_counts m_counts f_counts d_counts) (b_counts : Binds K d_counts P_counts []) {CC_Hint fI_Hint : Addr} {dI_Hint : FuncData} (mk_Hint : Maker P w K mg base 4 "Hint" P_Hint___init__ m_Hint___init__ CC_Hint fI_Hint dI_Hint) {f : Addr} {fd : FuncData} (F : Fun K "hint" "Log.hint" s_Log_hint f fd) :
    FnOk P w K mg base (L2N.CX P w) 6 f fd P_Log_hint (spD K mg m_Log_hint) :=
  fnD F sc_Log_hint fun cdv A outer s H E hr =>
    (ds_one (ds_ret (de_if (dt_truA (de_fld T.fld (de_var 0))) (de_make mk_Hint (hr.mono (by decide)) (L2N.takes_of rfl rfl rfl rfl) rfl (da_cons (de_fld T.fld (de_var 0)) (da_cons (c_counts.call (.inl rfl) hr (by decide) (L2N.takes_of rfl rfl rfl rfl) rfl b_counts .nil (fun _ _ => rfl) (da_cons (de_var 0) da_nil)) da_nil))) de_non)))
theorem ok_Hint___eq__ (T : Txt K mg) {KC_Hint : Addr} (gC_Hint : mg "Hint" = some (.ref KC_Hint)) (ic_Hint : IsC K KC_Hint) {f : Addr} {fd : FuncData} (F : Fun K "__eq__" "Hint.__eq__" s_Hint___eq__ f fd) :
    FnOk P w K mg base (L2N.CX P w) 1 f fd P_Hint___eq__ (spD K mg m_Hint___eq__) :=
  fnD F sc_Hint___eq__ fun cdv A outer s H E hr =>
    (ds_one (ds_ret (de_and (de_callB call_isi (cok_isiC gC_Hint ic_Hint) rfl T.b_isinstance (by decide +kernel) (da_cons (de_var 1) (da_cons (de_cls rfl gC_Hint) da_nil))) (de_and (de_cmp (op_eqD (Room.units hr)) rok_eq (de_fld T.fld (de_var 0)) (de_fld T.fld (de_var 1)) (nomark _)) (de_one (de_cmp (op_eqD (Room.units hr)) rok_eq (de_fld T.fld (de_var 0)) (de_fld T.fld (de_var 1)) (nomark _)))))))
theorem ok_Hint_weights (T : Txt K mg)  {f : Addr} {fd : FuncData} (F : Fun K "weights" "Hint.weights" s_Hint_weights f fd) :
    FnOk P w K mg base (L2N.CX P w) 1 f fd P_Hint_weights (spD K mg m_Hint_weights) :=
  fnD F sc_Hint_weights fun cdv A outer s H E hr =>
    (ds_one (ds_ret (de_callTy call_list_of cok_listOwn rfl T.b_list (by decide +kernel) (da_cons (de_fld T.fld (de_var 0)) da_nil))))
theorem ok__law_same (T : Txt K mg) {f__law_cells : Addr} {d__law_cells : FuncData} (c__law_cells : Callee P w K mg base 1 "_law_cells" P__law_cells m__law_cells f__law_cells d__law_cells) (b__law_cells : Binds K d__law_cells P__law_cells []) {f__law_least_terms : Addr} {d__law_least_terms : FuncData} (c__law_least_terms : Callee P w K mg base 2 "_law_least_terms" P__law_least_terms m__law_least_terms f__law_least_terms d__law_least_terms) (b__law_least_terms : Binds K d__law_least_terms P__law_least_terms []) {CC_Hint fI_Hint : Addr} {dI_Hint : FuncData} (mk_Hint : Maker P w K mg base 4 "Hint" P_Hint___init__ m_Hint___init__ CC_Hint fI_Hint dI_Hint) {KC_Log : Addr} {f_Log___len__ : Addr} {d_Log___len__ : FuncData} (om_Log___len__ : OwnM P w K mg base 1 "Log" "__len__" P_Log___len__ m_Log___len__ KC_Log f_Log___len__ d_Log___len__) {f_Log_plays : Addr} {d_Log_plays : FuncData} (om_Log_plays : OwnM P w K mg base 1 "Log" "plays" P_Log_plays m_Log_plays KC_Log f_Log_plays d_Log_plays) {f_Log_hint : Addr} {d_Log_hint : FuncData} (om_Log_hint : OwnM P w K mg base 6 "Log" "hint" P_Log_hint m_Log_hint KC_Log f_Log_hint d_Log_hint) {KC_Hint : Addr} {f_Hint___eq__ : Addr} {d_Hint___eq__ : FuncData} (om_Hint___eq__ : OwnM P w K mg base 1 "Hint" "__eq__" P_Hint___eq__ m_Hint___eq__ KC_Hint f_Hint___eq__ d_Hint___eq__) {f_Hint_weights : Addr} {d_Hint_weights : FuncData} (om_Hint_weights : OwnM P w K mg base 1 "Hint" "weights" P_Hint_weights m_Hint_weights KC_Hint f_Hint_weights d_Hint_weights) {f : Addr} {fd : FuncData} (F : Fun K "_law_same" "_law_same" s__law_same f fd) :
    FnOk P w K mg base (L2N.CX P w) 7 f fd P__law_same (spD K mg m__law_same) :=
  fnD F sc__law_same fun cdv A outer s H E hr =>
    (ds_cons (ds_if (dt_bool (dw_or (dt_cmp (op_neD (Room.units hr)) rok_ne (de_fld T.fld (de_var 0)) (de_callTy call_tuple_of cok_tuple rfl T.b_tuple (by decide +kernel) (da_cons (de_var 1) da_nil)) (nomark _)) (dw_or (dt_cmp (op_neD (Room.units hr)) rok_ne (de_lenOB om_Log___len__ rfl (hr.mono (by decide)) (L2N.takes_of rfl rfl rfl rfl) rfl T.b_len (by decide +kernel) (da_cons (de_var 0) da_nil)) (de_callB call_lenAll cok_len rfl T.b_len (by decide +kernel) (da_cons (de_var 2) da_nil)) (nomark _)) (dw_or1 (dt_cmp (op_neD (Room.units hr)) rok_ne (de_methB0 (.inl rfl) om_Log_plays (hr.mono (by decide)) (L2N.takes_of rfl rfl rfl rfl) (de_var 0)) (de_var 2) (nomark _)))))) (ds_one (ds_ret de_bl)) ds_nil)
      (ds_cons (ds_app (fun po pa => ps_expr (pe_bm PySem.F.plainAttrs_list PySem.F.slot_list_append PySem.F.type_list_append mt_append po pa)) (de_methB0 (.inr rfl) om_Log_plays (hr.mono (by decide)) (L2N.takes_of rfl rfl rfl rfl) (de_var 0)) (de_tup (da_cons de_int (da_cons de_int da_nil))))
      (ds_cons (ds_set 3 sc__law_same.nd (de_methB0 (.inl rfl) om_Log_hint (hr.mono (by decide)) (L2N.takes_of rfl rfl rfl rfl) (de_var 0)))
      (ds_cons (ds_if (dt_cmp (op_eqD (Room.units hr)) rok_eq (de_var 2) (de_lst da_nil) (nomark _)) (ds_one (ds_ret (de_cmp op_isN rok_isN (de_var 3) de_non (nomark _)))) ds_nil)
      (ds_cons (ds_setLc (.one 5) [("_law_place", 5)] 4 rfl sc__law_same.nd rfl (di_lt (c__law_cells.call (.inl rfl) hr (by decide) (L2N.takes_of rfl rfl rfl rfl) rfl b__law_cells .nil (fun _ _ => rfl) (da_cons (de_var 1) da_nil))) (blkOk_by (N := N__law_same) (sc := defScope s__law_same) (by decide +kernel)) (fun _ _ _ _ _ => dg_name 5 sc__law_same.nd) (fun _ _ _ _ _ => dts_nil) (fun _ _ _ _ _ => (de_callB call_lenAll cok_len rfl T.b_len (by decide +kernel) (da_cons (de_lc (.one 6) [("_law_cell", 6)] rfl sc__law_same.nd (di_lt (de_var 2)) (blkOk_by (N := N__law_same) (by kernel_rfl)) (fun _ _ _ _ _ => dg_name 6 sc__law_same.nd) (fun _ _ _ _ _ => (dts_one (dt_cmp (op_eqD (Room.units hr)) rok_eq (de_var 6) (de_var 5) (nomark _)))) (fun _ _ _ _ _ => (de_var 6)) (fun _ h => h)) da_nil))) (fun _ h => h) (sw_true rfl rfl rfl (by decide +kernel)))
      (ds_one (ds_ret (de_and (de_eqO om_Hint___eq__ (hr.mono (by decide)) (L2N.takes_of rfl rfl rfl rfl) (de_var 3) (de_make mk_Hint (hr.mono (by decide)) (L2N.takes_of rfl rfl rfl rfl) rfl (da_cons (de_callTy call_tuple_of cok_tuple rfl T.b_tuple (by decide +kernel) (da_cons (de_var 1) da_nil)) (da_cons (de_var 4) da_nil)))) (de_one (de_cmp (op_eqD (Room.units hr)) rok_eq (de_meth0 (.inl rfl) om_Hint_weights (hr.mono (by decide)) (L2N.takes_of rfl rfl rfl rfl) (de_var 3)) (c__law_least_terms.call (.inl rfl) hr (by decide) (L2N.takes_of rfl rfl rfl rfl) rfl b__law_least_terms .nil (fun _ _ => rfl) (da_cons (de_var 4) da_nil)) (nomark _)))))))))))
theorem ok__law_odd_cells (T : Txt K mg)  {f : Addr} {fd : FuncData} (F : Fun K "_law_odd_cells" "_law_odd_cells" s__law_odd_cells f fd) :
    FnOk P w K mg base (L2N.CX P w) 1 f fd P__law_odd_cells (spD K mg m__law_odd_cells) :=
  fnD F sc__law_odd_cells fun cdv A outer s H E hr =>
    (ds_cons (ds_set 2 sc__law_odd_cells.nd (de_lst (da_cons (de_op op_addT rok_addT (de_idx (de_var 1) (de_un un_neg uok_neg de_int)) (de_tup (da_cons de_int da_nil))) (da_cons (de_slice (de_idx (de_var 1) (de_un un_neg uok_neg de_int)) (dp_some de_int) dp_none) (da_cons (de_callTy call_list_of cok_list rfl T.b_list (by decide +kernel) (da_cons (de_idx (de_var 1) de_int) da_nil)) (da_cons (de_op op_mulT rok_mulT (de_tup (da_cons (de_un un_neg uok_neg de_int) da_nil)) (de_callB call_lenAll cok_len rfl T.b_len (by decide +kernel) (da_cons (de_var 0) da_nil))) (da_cons de_non (da_cons de_int da_nil))))))))
      (ds_one (ds_ret (de_op op_addAll rok_add (de_var 2) (de_lst (da_cons (de_op op_mulT rok_mulT (de_tup (da_cons de_bl da_nil)) (de_callB call_lenAll cok_len rfl T.b_len (by decide +kernel) (da_cons (de_var 0) da_nil))) (da_cons (de_op op_mulT rok_mulT (de_tup (da_cons de_bl da_nil)) (de_callB call_lenAll cok_len rfl T.b_len (by decide +kernel) (da_cons (de_var 0) da_nil))) da_nil)))))))
theorem ok__law_hints (T : Txt K mg) {KC_Log : Addr} {f_Log_hint : Addr} {d_Log_hint : FuncData} (om_Log_hint : OwnM P w K mg base 6 "Log" "hint" P_Log_hint m_Log_hint KC_Log f_Log_hint d_Log_hint) {KC_Hint : Addr} {f_Hint_weights : Addr} {d_Hint_weights : FuncData} (om_Hint_weights : OwnM P w K mg base 1 "Hint" "weights" P_Hint_weights m_Hint_weights KC_Hint f_Hint_weights d_Hint_weights) {f : Addr} {fd : FuncData} (F : Fun K "_law_hints" "_law_hints" s__law_hints f fd) :
    FnOk P w K mg base (L2N.CX P w) 7 f fd P__law_hints (spD K mg m__law_hints) :=
  fnD F sc__law_hints fun cdv A outer s H E hr =>
    (ds_cons (ds_set 1 sc__law_hints.nd (de_own da_nil))
      (ds_cons (ds_forQ 2 (passes_of rfl) rfl (de_var 0) (dg_name 2 sc__law_hints.nd) (ds_one (ds_if (dt_bool (dw_and (dt_cmp op_notN rok_notN (de_var 2) de_non (nomark _)) (dw_and1 (dt_cmp op_notN rok_notN (de_methB0 (.inl rfl) om_Log_hint (hr.mono (by decide)) (L2N.takes_of rfl rfl rfl rfl) (de_var 2)) de_non (nomark _))))) (ds_cons (ds_set 3 sc__law_hints.nd (de_methB0 (.inl rfl) om_Log_hint (hr.mono (by decide)) (L2N.takes_of rfl rfl rfl rfl) (de_var 2)))
      (ds_one (ds_app (fun po pa => ps_expr (pe_bm PySem.F.plainAttrs_list PySem.F.slot_list_append PySem.F.type_list_append mt_append po pa)) (de_var 1) (de_tup (da_cons (de_var 3) (da_cons (de_meth0 (.inl rfl) om_Hint_weights (hr.mono (by decide)) (L2N.takes_of rfl rfl rfl rfl) (de_var 3)) da_nil)))))) ds_nil)))
      (ds_one (ds_ret (de_var 1)))))
theorem ok__law_kept (T : Txt K mg) {f__law_refused : Addr} {d__law_refused : FuncData} (c__law_refused : Callee P w K mg base 7 "_law_refused" P__law_refused m__law_refused f__law_refused d__law_refused) (b__law_refused : Binds K d__law_refused P__law_refused []) {KC_Hint : Addr} {f_Hint_weights : Addr} {d_Hint_weights : FuncData} (om_Hint_weights : OwnM P w K mg base 1 "Hint" "weights" P_Hint_weights m_Hint_weights KC_Hint f_Hint_weights d_Hint_weights) {KC_Log : Addr} {f_Log_plays : Addr} {d_Log_plays : FuncData} (om_Log_plays : OwnM P w K mg base 1 "Log" "plays" P_Log_plays m_Log_plays KC_Log f_Log_plays d_Log_plays) {f_Log_behind : Addr} {d_Log_behind : FuncData} (om_Log_behind : OwnM P w K mg base 6 "Log" "behind" P_Log_behind m_Log_behind KC_Log f_Log_behind d_Log_behind) {f_Log_hint : Addr} {d_Log_hint : FuncData} (om_Log_hint : OwnM P w K mg base 6 "Log" "hint" P_Log_hint m_Log_hint KC_Log f_Log_hint d_Log_hint) {f : Addr} {fd : FuncData} (F : Fun K "_law_kept" "_law_kept" s__law_kept f fd) :
    FnOk P w K mg base (L2N.CX P w) 8 f fd P__law_kept (spD K mg m__law_kept) :=
  fnD F sc__law_kept fun cdv A outer s H E hr =>
    (ds_cons (ds_if (dt_cmp (op_neD (Room.units hr)) rok_ne (de_lc (.many [3, 4]) [("_law_hint", 3), ("_law_weights", 4)] rfl sc__law_kept.nd (di_lt (de_var 2)) (blkOk_by (N := N__law_kept) (sc := defScope s__law_kept) (by decide +kernel)) (fun _ _ _ _ _ => dg_tup rfl (dgs_cons 3 sc__law_kept.nd (dgs_cons 4 sc__law_kept.nd dgs_nil))) (fun _ _ _ _ _ => (dts_one (dt_cmp (op_neD (Room.units hr)) rok_ne (de_meth0 (.inl rfl) om_Hint_weights (hr.mono (by decide)) takesN (de_var 3)) (de_var 4) (nomark _)))) (fun _ _ _ _ _ => (de_var 3)) (fun _ h => h)) (de_lst da_nil) (nomark _)) (ds_one (ds_ret de_bl)) ds_nil)
      (ds_cons (ds_if (dt_not (dt_val (de_callB (cr_all rfl) cok_all rfl T.b_all (by decide +kernel) (da_cons (de_lc (.one 5) [("_law_bad", 5)] rfl sc__law_kept.nd (di_lt (de_lst (da_cons (de_lst da_nil) (da_cons (de_tup (da_cons de_int da_nil)) (da_cons (de_tup (da_cons de_int (da_cons de_int da_nil))) (da_cons (de_tup (da_cons de_int (da_cons de_int (da_cons de_int da_nil)))) (da_cons (de_tup (da_cons de_bl da_nil)) (da_cons de_non (da_cons de_int da_nil))))))))) (blkOk_by (N := N__law_kept) (sc := defScope s__law_kept) (by decide +kernel)) (fun _ _ _ _ _ => dg_name 5 sc__law_kept.nd) (fun _ _ _ _ _ => dts_nil) (fun _ _ _ _ _ => (de_cmp (op_eqD (Room.units hr)) rok_eq (c__law_refused.call (.inl rfl) hr (by decide) takesN rfl b__law_refused .nil (fun _ _ => rfl) (da_cons de_int (da_cons (de_var 0) (da_cons (de_var 5) da_nil)))) (de_lst (da_cons de_str da_nil)) (nomark _))) (fun _ h => h)) da_nil)))) (ds_one (ds_ret de_bl)) ds_nil)
      (ds_one (ds_ret (de_and (de_cmp (op_eqD (Room.units hr)) rok_eq (de_methB0 (.inl rfl) om_Log_plays (hr.mono (by decide)) (L2N.takes_of rfl rfl rfl rfl) (de_methB (.inl rfl) om_Log_behind (hr.mono (by decide)) (L2N.takes_of rfl rfl rfl rfl) (de_var 0) (da_cons (de_callB call_lenAll cok_len rfl T.b_len (by decide +kernel) (da_cons (de_var 1) da_nil)) da_nil))) (de_var 1) (nomark _)) (de_one (de_cmp op_isN rok_isN (de_methB0 (.inl rfl) om_Log_hint (hr.mono (by decide)) (L2N.takes_of rfl rfl rfl rfl) (de_methB (.inl rfl) om_Log_behind (hr.mono (by decide)) (L2N.takes_of rfl rfl rfl rfl) (de_var 0) (da_cons de_int da_nil))) de_non (nomark _))))))))
theorem ok_law (T : Txt K mg) {f__law_pool : Addr} {d__law_pool : FuncData} (c__law_pool : Callee P w K mg base 1 "_law_pool" P__law_pool m__law_pool f__law_pool d__law_pool) (b__law_pool : Binds K d__law_pool P__law_pool []) {f__law_shape : Addr} {d__law_shape : FuncData} (c__law_shape : Callee P w K mg base 3 "_law_shape" P__law_shape m__law_shape f__law_shape d__law_shape) (b__law_shape : Binds K d__law_shape P__law_shape []) {f__law_cells : Addr} {d__law_cells : FuncData} (c__law_cells : Callee P w K mg base 1 "_law_cells" P__law_cells m__law_cells f__law_cells d__law_cells) (b__law_cells : Binds K d__law_cells P__law_cells []) {f__law_take : Addr} {d__law_take : FuncData} (c__law_take : Callee P w K mg base 1 "_law_take" P__law_take m__law_take f__law_take d__law_take) (b__law_take : Binds K d__law_take P__law_take []) {f__law_odd_cells : Addr} {d__law_odd_cells : FuncData} (c__law_odd_cells : Callee P w K mg base 1 "_law_odd_cells" P__law_odd_cells m__law_odd_cells f__law_odd_cells d__law_odd_cells) (b__law_odd_cells : Binds K d__law_odd_cells P__law_odd_cells []) {f__law_refused : Addr} {d__law_refused : FuncData} (c__law_refused : Callee P w K mg base 7 "_law_refused" P__law_refused m__law_refused f__law_refused d__law_refused) (b__law_refused : Binds K d__law_refused P__law_refused []) {f__law_same : Addr} {d__law_same : FuncData} (c__law_same : Callee P w K mg base 7 "_law_same" P__law_same m__law_same f__law_same d__law_same) (b__law_same : Binds K d__law_same P__law_same []) {f__law_hints : Addr} {d__law_hints : FuncData} (c__law_hints : Callee P w K mg base 7 "_law_hints" P__law_hints m__law_hints f__law_hints d__law_hints) (b__law_hints : Binds K d__law_hints P__law_hints []) {f__law_kept : Addr} {d__law_kept : FuncData} (c__law_kept : Callee P w K mg base 8 "_law_kept" P__law_kept m__law_kept f__law_kept d__law_kept) (b__law_kept : Binds K d__law_kept P__law_kept []) {CC_Log fI_Log : Addr} {dI_Log : FuncData} (mk_Log : Maker P w K mg base 3 "Log" P_Log___init__ m_Log___init__ CC_Log fI_Log dI_Log) {KC_Log : Addr} {f_Log_behind : Addr} {d_Log_behind : FuncData} (om_Log_behind : OwnM P w K mg base 6 "Log" "behind" P_Log_behind m_Log_behind KC_Log f_Log_behind d_Log_behind) {f_Log_play : Addr} {d_Log_play : FuncData} (om_Log_play : OwnM P w K mg base 5 "Log" "play" P_Log_play m_Log_play KC_Log f_Log_play d_Log_play) {f : Addr} {fd : FuncData} (F : Fun K "law" "law" s_law f fd) :
    FnOk P w K mg base (L2N.CX P w) 9 f fd P_law (spD K mg m_law) :=
  fnD F sc_law fun cdv A outer s H E hr =>
    (ds_cons (ds_set 1 sc_law.nd (c__law_pool.call (.inr rfl) hr (by decide) (L2N.takes_of rfl rfl rfl rfl) rfl b__law_pool .nil (fun _ _ => rfl) (da_cons (de_var 0) da_nil)))
      (ds_cons (ds_set 2 sc_law.nd (c__law_shape.call (.inl rfl) hr (by decide) (L2N.takes_of rfl rfl rfl rfl) rfl b__law_shape .nil (fun _ _ => rfl) (da_cons (de_var 1) (da_cons de_int da_nil))))
      (ds_cons (ds_set 3 sc_law.nd (c__law_cells.call (.inl rfl) hr (by decide) (L2N.takes_of rfl rfl rfl rfl) rfl b__law_cells .nil (fun _ _ => rfl) (da_cons (de_var 2) da_nil)))
      (ds_cons (ds_set 4 sc_law.nd (de_makeO mk_Log (hr.mono (by decide)) (L2N.takes_of rfl rfl rfl rfl) rfl (da_cons (de_idx (de_lst (da_cons (de_callTy call_tuple_of cok_tuple rfl T.b_tuple (by decide +kernel) (da_cons (de_var 2) da_nil)) (da_cons (de_var 2) da_nil))) (c__law_take.call (.inl rfl) hr (by decide) (L2N.takes_of rfl rfl rfl rfl) rfl b__law_take .nil (fun _ _ => rfl) (da_cons (de_var 1) (da_cons de_int da_nil)))) da_nil)))
      (ds_cons (ds_set 5 sc_law.nd (de_lst da_nil))
      (ds_cons (ds_set 6 sc_law.nd de_non)
      (ds_cons (ds_set 7 sc_law.nd (de_lst da_nil))
      (ds_cons (ds_set 8 sc_law.nd (de_lst da_nil))
      (ds_cons (ds_for (passes_of rfl) rfl (di_range1 (da_cons (c__law_take.call (.inl rfl) hr (by decide) (L2N.takes_of rfl rfl rfl rfl) rfl b__law_take .nil (fun _ _ => rfl) (da_cons (de_var 1) (da_cons de_int da_nil))) da_nil) rfl T.b_range) (dg_name 9 sc_law.nd) (ds_cons (ds_set 10 sc_law.nd (c__law_take.call (.inl rfl) hr (by decide) (L2N.takes_of rfl rfl rfl rfl) rfl b__law_take .nil (fun _ _ => rfl) (da_cons (de_var 1) (da_cons de_int da_nil))))
      (ds_cons (ds_if (dt_cmp (op_eqD (Room.units hr)) rok_eq (de_var 10) de_int (nomark _)) (ds_cons (ds_set 11 sc_law.nd (de_idx (c__law_odd_cells.call (.inl rfl) hr (by decide) (L2N.takes_of rfl rfl rfl rfl) rfl b__law_odd_cells .nil (fun _ _ => rfl) (da_cons (de_var 2) (da_cons (de_var 3) da_nil))) (c__law_take.call (.inl rfl) hr (by decide) (L2N.takes_of rfl rfl rfl rfl) rfl b__law_take .nil (fun _ _ => rfl) (da_cons (de_var 1) (da_cons de_int da_nil)))))
      (ds_one (ds_if (dt_cmp (op_neD (Room.units hr)) rok_ne (c__law_refused.call (.inl rfl) hr (by decide) (L2N.takes_of rfl rfl rfl rfl) rfl b__law_refused .nil (fun _ _ => rfl) (da_cons de_int (da_cons (de_var 4) (da_cons (de_var 11) da_nil)))) (de_lst (da_cons de_str (da_cons (de_var 11) da_nil))) (nomark _)) (ds_one (ds_ret de_bl)) ds_nil))) (ds_one (ds_if (dt_cmp (op_eqD (Room.units hr)) rok_eq (de_var 10) de_int (nomark _)) (ds_cons (ds_set 11 sc_law.nd (de_idx (de_lst (da_cons (de_un un_neg uok_neg de_int) (da_cons (de_op op_addAll rok_add (de_callB call_lenAll cok_len rfl T.b_len (by decide +kernel) (da_cons (de_var 5) da_nil)) de_int) (da_cons de_bl (da_cons de_non (da_cons de_str da_nil)))))) (c__law_take.call (.inl rfl) hr (by decide) (L2N.takes_of rfl rfl rfl rfl) rfl b__law_take .nil (fun _ _ => rfl) (da_cons (de_var 1) (da_cons de_int da_nil)))))
      (ds_one (ds_if (dt_cmp (op_neD (Room.units hr)) rok_ne (c__law_refused.call (.inl rfl) hr (by decide) (L2N.takes_of rfl rfl rfl rfl) rfl b__law_refused .nil (fun _ _ => rfl) (da_cons de_int (da_cons (de_var 4) (da_cons (de_var 11) da_nil)))) (de_lst (da_cons de_str da_nil)) (nomark _)) (ds_one (ds_ret de_bl)) ds_nil))) (ds_one (ds_if (dt_cmp (op_eqD (Room.units hr)) rok_eq (de_var 10) de_int (nomark _)) (ds_cons (ds_set 12 sc_law.nd (c__law_take.call (.inl rfl) hr (by decide) (L2N.takes_of rfl rfl rfl rfl) rfl b__law_take .nil (fun _ _ => rfl) (da_cons (de_var 1) (da_cons (de_op op_addAll rok_add (de_callB call_lenAll cok_len rfl T.b_len (by decide +kernel) (da_cons (de_var 5) da_nil)) de_int) da_nil))))
      (ds_cons (ds_set 6 sc_law.nd (de_methB (.inl rfl) om_Log_behind (hr.mono (by decide)) (L2N.takes_of rfl rfl rfl rfl) (de_var 4) (da_cons (de_var 12) da_nil)))
      (ds_one (ds_set 7 sc_law.nd (de_slice (de_var 5) dp_none (dp_some (de_var 12))))))) (ds_one (ds_if (dt_bool (dw_and (dt_cmp (op_eqD (Room.units hr)) rok_eq (de_var 10) de_int (nomark _)) (dw_and1 (dt_cmp op_notN rok_notN (de_var 6) de_non (nomark _))))) (ds_cons (ds_set 13 sc_law.nd (de_idx (de_var 3) (c__law_take.call (.inl rfl) hr (by decide) (L2N.takes_of rfl rfl rfl rfl) rfl b__law_take .nil (fun _ _ => rfl) (da_cons (de_var 1) (da_cons (de_callB call_lenAll cok_len rfl T.b_len (by decide +kernel) (da_cons (de_var 3) da_nil)) da_nil)))))
      (ds_cons (ds_if (dt_cmp op_notN rok_notN (de_methB (.inl rfl) om_Log_play (hr.mono (by decide)) (L2N.takes_of rfl rfl rfl rfl) (de_var 6) (da_cons (de_var 13) da_nil)) de_non (nomark _)) (ds_one (ds_ret de_bl)) ds_nil)
      (ds_one (ds_set 7 sc_law.nd (de_op op_addAll rok_add (de_var 7) (de_lst (da_cons (de_var 13) da_nil))))))) (ds_cons (ds_set 13 sc_law.nd (de_idx (de_var 3) (c__law_take.call (.inl rfl) hr (by decide) (L2N.takes_of rfl rfl rfl rfl) rfl b__law_take .nil (fun _ _ => rfl) (da_cons (de_var 1) (da_cons (de_callB call_lenAll cok_len rfl T.b_len (by decide +kernel) (da_cons (de_var 3) da_nil)) da_nil)))))
      (ds_cons (ds_if (dt_cmp op_notN rok_notN (de_methB (.inl rfl) om_Log_play (hr.mono (by decide)) (L2N.takes_of rfl rfl rfl rfl) (de_var 4) (da_cons (de_var 13) da_nil)) de_non (nomark _)) (ds_one (ds_ret de_bl)) ds_nil)
      (ds_one (ds_set 5 sc_law.nd (de_op op_addAll rok_add (de_var 5) (de_lst (da_cons (de_var 13) da_nil))))))))))))))
      (ds_cons (ds_if (dt_bool (dw_or (dt_not (dt_val (c__law_same.call (.inl rfl) hr (by decide) (L2N.takes_of rfl rfl rfl rfl) rfl b__law_same .nil (fun _ _ => rfl) (da_cons (de_var 4) (da_cons (de_var 2) (da_cons (de_var 5) da_nil)))))) (dw_or1 (dt_bool (dw_and (dt_cmp op_notN rok_notN (de_var 6) de_non (nomark _)) (dw_and1 (dt_not (dt_val (c__law_same.call (.inl rfl) hr (by decide) (L2N.takes_of rfl rfl rfl rfl) rfl b__law_same .nil (fun _ _ => rfl) (da_cons (de_var 6) (da_cons (de_var 2) (da_cons (de_var 7) da_nil)))))))))))) (ds_one (ds_ret de_bl)) ds_nil)
      (ds_one (ds_set 8 sc_law.nd (de_op op_addAll rok_add (de_var 8) (c__law_hints.call (.inl rfl) hr (by decide) (L2N.takes_of rfl rfl rfl rfl) rfl b__law_hints .nil (fun _ _ => rfl) (da_cons (de_lstQ (da_cons (de_var 4) (da_cons (de_var 6) da_nil))) da_nil)))))))))
      (ds_one (ds_ret (c__law_kept.call (.inr rfl) hr (by decide) (L2N.takes_of rfl rfl rfl rfl) rfl b__law_kept .nil (fun _ _ => rfl) (da_cons (de_var 4) (da_cons (de_var 5) (da_cons (de_var 8) da_nil)))))))))))))))
end
end Lw
namespace Lw
open PySem L2 DL
theorem init_NoCell (Y : Cx) (hN : Y.N = (["self", "cell"] : List Str)) (hS : Y.env.scope = defScope (inClass (top 7) 0)) : PSs Y (defBody (inClass (top 7) 0)) (tOst Y.K "cell" (tVar 0) (tVar 1)) :=
  pss_one (ps_ost (pe_var (by rw [hN]; rfl) (by rw [hS]; exact .inl rfl)) (pe_var (by rw [hN]; rfl) (by rw [hS]; exact .inl rfl)))
theorem all_mk {l : PySem.W.OpenLaw} {w : World} {K : PySem.W.Frag} {h : Heap} {mg : Str → Option Value} {fa : Addr} (X : K.In h) (G : h.Ns mainGlobals mg) (hfa : mg "law" = some (.ref fa))
    {t_MOST_CELLS : Tok}
    {t_MOST_MOVES : Tok}
    {t_MOST_PLAYERS : Tok}
    {C_Log : Addr}
    {C_Hint : Addr}
    {f_Log___init__ : Addr}
    {f_Hint___init__ : Addr}
    {f_Log___init__P : Addr}
    {C_BadShape : Addr}
    {C_BadShares : Addr}
    {C_BadWeights : Addr}
    {C_NoCell fI_NoCell CB_NoCell : Addr} {nm_NoCell q_NoCell : Str} {N_NoCell : Addr} {bs_NoCell : List Value} {sn_NoCell : List Str} {sub_NoCell : List Value} {ab_NoCell : Bool} {col_NoCell : Option Bool} {dd_NoCell : Option Addr} {m0_NoCell m1_NoCell m2_NoCell m3_NoCell m5_NoCell : Option Value}
    {od_NoCell an_NoCell : Option Addr} {sl_NoCell : Array (Option Value)} {oc_NoCell kV_NoCell dc_NoCell pm_NoCell cd_NoCell ct_NoCell : Value}
    {f_is_whole : Addr} {od_is_whole an_is_whole : Option Addr} {sl_is_whole : Array (Option Value)} {oc_is_whole kV_is_whole dc_is_whole pm_is_whole cd_is_whole ct_is_whole : Value}
    {f_is_list : Addr} {od_is_list an_is_list : Option Addr} {sl_is_list : Array (Option Value)} {oc_is_list kV_is_list dc_is_list pm_is_list cd_is_list ct_is_list : Value}
    {f_is_row : Addr} {od_is_row an_is_row : Option Addr} {sl_is_row : Array (Option Value)} {oc_is_row kV_is_row dc_is_row pm_is_row cd_is_row ct_is_row : Value}
    {f_is_weights : Addr} {od_is_weights an_is_weights : Option Addr} {sl_is_weights : Array (Option Value)} {oc_is_weights kV_is_weights dc_is_weights pm_is_weights cd_is_weights ct_is_weights : Value}
    {f_count_cells : Addr} {od_count_cells an_count_cells : Option Addr} {sl_count_cells : Array (Option Value)} {oc_count_cells kV_count_cells dc_count_cells pm_count_cells cd_count_cells ct_count_cells : Value}
    {f_is_shape : Addr} {od_is_shape an_is_shape : Option Addr} {sl_is_shape : Array (Option Value)} {oc_is_shape kV_is_shape dc_is_shape pm_is_shape cd_is_shape ct_is_shape : Value}
    {f_is_move : Addr} {od_is_move an_is_move : Option Addr} {sl_is_move : Array (Option Value)} {oc_is_move kV_is_move dc_is_move pm_is_move cd_is_move ct_is_move : Value}
    {f_is_cell : Addr} {od_is_cell an_is_cell : Option Addr} {sl_is_cell : Array (Option Value)} {oc_is_cell kV_is_cell dc_is_cell pm_is_cell cd_is_cell ct_is_cell : Value}
    {f_check_cell : Addr} {od_check_cell an_check_cell : Option Addr} {sl_check_cell : Array (Option Value)} {oc_check_cell kV_check_cell dc_check_cell pm_check_cell cd_check_cell ct_check_cell : Value}
    {f_place : Addr} {od_place an_place : Option Addr} {sl_place : Array (Option Value)} {oc_place kV_place dc_place pm_place cd_place ct_place : Value}
    {f_lowest : Addr} {od_lowest an_lowest : Option Addr} {sl_lowest : Array (Option Value)} {oc_lowest kV_lowest dc_lowest pm_lowest cd_lowest ct_lowest : Value}
    {f_Log_plays : Addr} {od_Log_plays an_Log_plays : Option Addr} {sl_Log_plays : Array (Option Value)} {oc_Log_plays kV_Log_plays dc_Log_plays pm_Log_plays cd_Log_plays ct_Log_plays : Value}
    {f_counts : Addr} {od_counts an_counts : Option Addr} {sl_counts : Array (Option Value)} {oc_counts kV_counts dc_counts pm_counts cd_counts ct_counts : Value}
    {f__law_pool : Addr} {od__law_pool an__law_pool : Option Addr} {sl__law_pool : Array (Option Value)} {oc__law_pool kV__law_pool dc__law_pool pm__law_pool cd__law_pool ct__law_pool : Value}
    {f__law_take : Addr} {od__law_take an__law_take : Option Addr} {sl__law_take : Array (Option Value)} {oc__law_take kV__law_take dc__law_take pm__law_take cd__law_take ct__law_take : Value}
    {f__law_divisor : Addr} {od__law_divisor an__law_divisor : Option Addr} {sl__law_divisor : Array (Option Value)} {oc__law_divisor kV__law_divisor dc__law_divisor pm__law_divisor cd__law_divisor ct__law_divisor : Value}
    {f__law_size : Addr} {od__law_size an__law_size : Option Addr} {sl__law_size : Array (Option Value)} {oc__law_size kV__law_size dc__law_size pm__law_size cd__law_size ct__law_size : Value}
    {f__law_shapes : Addr} {od__law_shapes an__law_shapes : Option Addr} {sl__law_shapes : Array (Option Value)} {oc__law_shapes kV__law_shapes dc__law_shapes pm__law_shapes cd__law_shapes ct__law_shapes : Value}
    {f__law_shape : Addr} {od__law_shape an__law_shape : Option Addr} {sl__law_shape : Array (Option Value)} {oc__law_shape kV__law_shape dc__law_shape pm__law_shape cd__law_shape ct__law_shape : Value}
    {f__law_cells : Addr} {od__law_cells an__law_cells : Option Addr} {sl__law_cells : Array (Option Value)} {oc__law_cells kV__law_cells dc__law_cells pm__law_cells cd__law_cells ct__law_cells : Value}
    {f__law_least_terms : Addr} {od__law_least_terms an__law_least_terms : Option Addr} {sl__law_least_terms : Array (Option Value)} {oc__law_least_terms kV__law_least_terms dc__law_least_terms pm__law_least_terms cd__law_least_terms ct__law_least_terms : Value}
    {od_Log___init__P an_Log___init__P : Option Addr} {sl_Log___init__P : Array (Option Value)} {oc_Log___init__P kV_Log___init__P dc_Log___init__P pm_Log___init__P cd_Log___init__P ct_Log___init__P : Value}
    {f_Log_play : Addr} {od_Log_play an_Log_play : Option Addr} {sl_Log_play : Array (Option Value)} {oc_Log_play kV_Log_play dc_Log_play pm_Log_play cd_Log_play ct_Log_play : Value}
    {od_Log___init__ an_Log___init__ : Option Addr} {sl_Log___init__ : Array (Option Value)} {oc_Log___init__ kV_Log___init__ dc_Log___init__ pm_Log___init__ cd_Log___init__ ct_Log___init__ : Value}
    {f_Log_behind : Addr} {od_Log_behind an_Log_behind : Option Addr} {sl_Log_behind : Array (Option Value)} {oc_Log_behind kV_Log_behind dc_Log_behind pm_Log_behind cd_Log_behind ct_Log_behind : Value}
    {f__law_refused : Addr} {od__law_refused an__law_refused : Option Addr} {sl__law_refused : Array (Option Value)} {oc__law_refused kV__law_refused dc__law_refused pm__law_refused cd__law_refused ct__law_refused : Value}
    {od_Hint___init__ an_Hint___init__ : Option Addr} {sl_Hint___init__ : Array (Option Value)} {oc_Hint___init__ kV_Hint___init__ dc_Hint___init__ pm_Hint___init__ cd_Hint___init__ ct_Hint___init__ : Value}
    {f_Log___len__ : Addr} {od_Log___len__ an_Log___len__ : Option Addr} {sl_Log___len__ : Array (Option Value)} {oc_Log___len__ kV_Log___len__ dc_Log___len__ pm_Log___len__ cd_Log___len__ ct_Log___len__ : Value}
    {f_Log_hint : Addr} {od_Log_hint an_Log_hint : Option Addr} {sl_Log_hint : Array (Option Value)} {oc_Log_hint kV_Log_hint dc_Log_hint pm_Log_hint cd_Log_hint ct_Log_hint : Value}
    {f_Hint___eq__ : Addr} {od_Hint___eq__ an_Hint___eq__ : Option Addr} {sl_Hint___eq__ : Array (Option Value)} {oc_Hint___eq__ kV_Hint___eq__ dc_Hint___eq__ pm_Hint___eq__ cd_Hint___eq__ ct_Hint___eq__ : Value}
    {f_Hint_weights : Addr} {od_Hint_weights an_Hint_weights : Option Addr} {sl_Hint_weights : Array (Option Value)} {oc_Hint_weights kV_Hint_weights dc_Hint_weights pm_Hint_weights cd_Hint_weights ct_Hint_weights : Value}
    {f__law_same : Addr} {od__law_same an__law_same : Option Addr} {sl__law_same : Array (Option Value)} {oc__law_same kV__law_same dc__law_same pm__law_same cd__law_same ct__law_same : Value}
    {f__law_odd_cells : Addr} {od__law_odd_cells an__law_odd_cells : Option Addr} {sl__law_odd_cells : Array (Option Value)} {oc__law_odd_cells kV__law_odd_cells dc__law_odd_cells pm__law_odd_cells cd__law_odd_cells ct__law_odd_cells : Value}
    {f__law_hints : Addr} {od__law_hints an__law_hints : Option Addr} {sl__law_hints : Array (Option Value)} {oc__law_hints kV__law_hints dc__law_hints pm__law_hints cd__law_hints ct__law_hints : Value}
    {f__law_kept : Addr} {od__law_kept an__law_kept : Option Addr} {sl__law_kept : Array (Option Value)} {oc__law_kept kV__law_kept dc__law_kept pm__law_kept cd__law_kept ct__law_kept : Value}
    {f_law : Addr} {od_law an_law : Option Addr} {sl_law : Array (Option Value)} {oc_law kV_law dc_law pm_law cd_law ct_law : Value}
    (z_list : PySem.W.nsIn K mainGlobals "list" = some none)
    (z_range : PySem.W.nsIn K mainGlobals "range" = some none)
    (z_int : PySem.W.nsIn K mainGlobals "int" = some none)
    (z_len : PySem.W.nsIn K mainGlobals "len" = some none)
    (z_max : PySem.W.nsIn K mainGlobals "max" = some none)
    (z_tuple : PySem.W.nsIn K mainGlobals "tuple" = some none)
    (z_isinstance : PySem.W.nsIn K mainGlobals "isinstance" = some none)
    (z_bool : PySem.W.nsIn K mainGlobals "bool" = some none)
    (z_all : PySem.W.nsIn K mainGlobals "all" = some none)
    (z_enumerate : PySem.W.nsIn K mainGlobals "enumerate" = some none)
    (z_any : PySem.W.nsIn K mainGlobals "any" = some none)
    (z_gcd : PySem.W.nsIn K mainGlobals "gcd" = some (some (.builtin "math.gcd")))
    (z_sum : PySem.W.nsIn K mainGlobals "sum" = some none)
    (z_zip : PySem.W.nsIn K mainGlobals "zip" = some none)
    (z_abs : PySem.W.nsIn K mainGlobals "abs" = some none)
    (z_MOST_CELLS : PySem.W.nsIn K mainGlobals "MOST_CELLS" = some (some (.int 16 t_MOST_CELLS)))
    (z_MOST_MOVES : PySem.W.nsIn K mainGlobals "MOST_MOVES" = some (some (.int 4 t_MOST_MOVES)))
    (z_MOST_PLAYERS : PySem.W.nsIn K mainGlobals "MOST_PLAYERS" = some (some (.int 3 t_MOST_PLAYERS)))
    (aC_Log : PySem.W.nsIn K mainGlobals "Log" = some (some (.ref C_Log)))
    (pg_Log : PySem.W.plainGet K C_Log Str.empty = true)
    (hd_Log : PySem.W.hasDictIn K C_Log = true)
    (po_Log : PySem.W.plainOver K C_Log = true)
    (sa_Log : PySem.W.findIn K (.ref C_Log) "__setattr__" = some (some (.builtin "object.__setattr__")))
    (nf__plays_Log : PySem.W.findIn K (.ref C_Log) "_plays" = some none)
    (nf_shape_Log : PySem.W.findIn K (.ref C_Log) "shape" = some none)
    (aC_Hint : PySem.W.nsIn K mainGlobals "Hint" = some (some (.ref C_Hint)))
    (pg_Hint : PySem.W.plainGet K C_Hint Str.empty = true)
    (hd_Hint : PySem.W.hasDictIn K C_Hint = true)
    (po_Hint : PySem.W.plainOver K C_Hint = true)
    (sa_Hint : PySem.W.findIn K (.ref C_Hint) "__setattr__" = some (some (.builtin "object.__setattr__")))
    (nf_unit_Hint : PySem.W.findIn K (.ref C_Hint) "unit" = some none)
    (nf__weights_Hint : PySem.W.findIn K (.ref C_Hint) "_weights" = some none)
    (nf_shape_Hint : PySem.W.findIn K (.ref C_Hint) "shape" = some none)
    (mk_Log : PySem.W.makesIn K C_Log = true)
    (ini_Log : PySem.W.findIn K (.ref C_Log) "__init__" = some (some (.ref f_Log___init__)))
    (kC_Log : PySem.W.keepIn K (.ref C_Log) = true)
    (fn_Log : PySem.W.isFn K (.ref f_Log___init__) = true)
    (mk_Hint : PySem.W.makesIn K C_Hint = true)
    (ini_Hint : PySem.W.findIn K (.ref C_Hint) "__init__" = some (some (.ref f_Hint___init__)))
    (kC_Hint : PySem.W.keepIn K (.ref C_Hint) = true)
    (fn_Hint : PySem.W.isFn K (.ref f_Hint___init__) = true)
    (mkp_Log : PySem.W.makesIn K C_Log = true)
    (inip_Log : PySem.W.findIn K (.ref C_Log) "__init__" = some (some (.ref f_Log___init__P)))
    (kCp_Log : PySem.W.keepIn K (.ref C_Log) = true)
    (fnp_Log : PySem.W.isFn K (.ref f_Log___init__P) = true)
    (mt_Log_plays : PySem.W.findIn K (.ref C_Log) "plays" = some (some (.ref f_Log_plays)))
    (isf_Log_plays : PySem.W.isFn K (.ref f_Log_plays) = true)
    (mt_Log_play : PySem.W.findIn K (.ref C_Log) "play" = some (some (.ref f_Log_play)))
    (isf_Log_play : PySem.W.isFn K (.ref f_Log_play) = true)
    (mt_Log_behind : PySem.W.findIn K (.ref C_Log) "behind" = some (some (.ref f_Log_behind)))
    (isf_Log_behind : PySem.W.isFn K (.ref f_Log_behind) = true)
    (mt_Log___len__ : PySem.W.findIn K (.ref C_Log) "__len__" = some (some (.ref f_Log___len__)))
    (isf_Log___len__ : PySem.W.isFn K (.ref f_Log___len__) = true)
    (mt_Log_hint : PySem.W.findIn K (.ref C_Log) "hint" = some (some (.ref f_Log_hint)))
    (isf_Log_hint : PySem.W.isFn K (.ref f_Log_hint) = true)
    (mt_Hint___eq__ : PySem.W.findIn K (.ref C_Hint) "__eq__" = some (some (.ref f_Hint___eq__)))
    (isf_Hint___eq__ : PySem.W.isFn K (.ref f_Hint___eq__) = true)
    (mt_Hint_weights : PySem.W.findIn K (.ref C_Hint) "weights" = some (some (.ref f_Hint_weights)))
    (isf_Hint_weights : PySem.W.isFn K (.ref f_Hint_weights) = true)
    (ica_Hint : PySem.W.findIn K (.ref C_Hint) "__class__" = some (some (.builtin "object.__class__")))
    (icn_Hint : PySem.W.specialIn K (.builtin "object.__class__") "__get__" = some (some (.builtin "getset_descriptor.__get__")))
    (ict_Hint : PySem.W.takesIn K (.builtin "object.__class__") = some true)
    (icm_Hint : PySem.W.mroIn K C_Hint (.type "object") = some true)
    (jC_Hint : PySem.W.isClsIn K C_Hint = true)
    (tC_Hint : PySem.W.typeIn K (.ref C_Hint) = some (.type "type"))
    (aC_BadShape : PySem.W.nsIn K mainGlobals "BadShape" = some (some (.ref C_BadShape)))
    (ex_BadShape : PySem.W.excIn K C_BadShape [.type "ValueError", .type "Exception", .type "BaseException", .type "object"] "ValueError.__new__" = true)
    (kC_BadShape : PySem.W.keepIn K (.ref C_BadShape) = true)
    (eC_BadShape : PySem.W.subIn K (.ref C_BadShape) (.type "BaseException") = some true)
    (tC_BadShape : PySem.W.typeIn K (.ref C_BadShape) = some (.type "type"))
    (jC_BadShape : PySem.W.isClsIn K C_BadShape = true)
    (sC_BadShape : PySem.W.subIn K (.ref C_BadShape) (.ref C_BadShape) = some true)
    (aC_BadShares : PySem.W.nsIn K mainGlobals "BadShares" = some (some (.ref C_BadShares)))
    (ex_BadShares : PySem.W.excIn K C_BadShares [.type "ValueError", .type "Exception", .type "BaseException", .type "object"] "ValueError.__new__" = true)
    (kC_BadShares : PySem.W.keepIn K (.ref C_BadShares) = true)
    (eC_BadShares : PySem.W.subIn K (.ref C_BadShares) (.type "BaseException") = some true)
    (tC_BadShares : PySem.W.typeIn K (.ref C_BadShares) = some (.type "type"))
    (jC_BadShares : PySem.W.isClsIn K C_BadShares = true)
    (sC_BadShares : PySem.W.subIn K (.ref C_BadShares) (.ref C_BadShares) = some true)
    (aC_BadWeights : PySem.W.nsIn K mainGlobals "BadWeights" = some (some (.ref C_BadWeights)))
    (ex_BadWeights : PySem.W.excIn K C_BadWeights [.type "ValueError", .type "Exception", .type "BaseException", .type "object"] "ValueError.__new__" = true)
    (kC_BadWeights : PySem.W.keepIn K (.ref C_BadWeights) = true)
    (eC_BadWeights : PySem.W.subIn K (.ref C_BadWeights) (.type "BaseException") = some true)
    (tC_BadWeights : PySem.W.typeIn K (.ref C_BadWeights) = some (.type "type"))
    (aC_NoCell : PySem.W.nsIn K mainGlobals "NoCell" = some (some (.ref C_NoCell)))
    (xL_NoCell : K.lookup C_NoCell = some (excClassObj nm_NoCell q_NoCell C_NoCell N_NoCell bs_NoCell [.ref CB_NoCell, .type "ValueError", .type "Exception", .type "BaseException", .type "object"] true sn_NoCell sub_NoCell ab_NoCell col_NoCell dd_NoCell m0_NoCell m1_NoCell m2_NoCell m3_NoCell m5_NoCell "ValueError.__new__"))
    (sa_NoCell : PySem.W.findIn K (.ref C_NoCell) "__setattr__" = some (some (.builtin "object.__setattr__")))
    (ga_NoCell : PySem.W.findIn K (.ref C_NoCell) "__getattribute__" = some (some (.builtin "BaseException.__getattribute__")))
    (gg_NoCell : PySem.W.findIn K (.ref C_NoCell) "__getattr__" = some none)
    (nb_NoCell : PySem.W.findIn K (.ref C_NoCell) "cell" = some none)
    (iC_NoCell : PySem.W.findIn K (.ref C_NoCell) "__init__" = some (some (.ref fI_NoCell)))
    (tI_NoCell : PySem.W.typeIn K (.ref fI_NoCell) = some (.type "function"))
    (lI_NoCell : K.lookup fI_NoCell = some ⟨oc_NoCell, od_NoCell, .func (PySem.W.fnOf "__init__" "NoCell.__init__" (defArgs (inClass (top 7) 0)) (defBody (inClass (top 7) 0)) (defScope (inClass (top 7) 0)) .none kV_NoCell dc_NoCell pm_NoCell an_NoCell cd_NoCell ct_NoCell), sl_NoCell⟩)
    (cI_NoCell : PySem.W.codeIn K cd_NoCell "NoCell.__init__" = true)
    (kI_NoCell : PySem.W.keepIn K (.ref fI_NoCell) = true)
    (kC_NoCell : PySem.W.keepIn K (.ref C_NoCell) = true)
    (eC_NoCell : PySem.W.subIn K (.ref C_NoCell) (.type "BaseException") = some true)
    (tC_NoCell : PySem.W.typeIn K (.ref C_NoCell) = some (.type "type"))
    (hC_NoCell : PySem.W.hasDictIn K C_NoCell = true)
    (jC_NoCell : PySem.W.isClsIn K C_NoCell = true)
    (sC_NoCell : PySem.W.subIn K (.ref C_NoCell) (.ref C_NoCell) = some true)
    (ns_BadShares_NoCell : PySem.W.subIn K (.ref C_BadShares) (.ref C_NoCell) = some false)
    (ns_BadShape_NoCell : PySem.W.subIn K (.ref C_BadShape) (.ref C_NoCell) = some false)
    (ns_BadShape_BadShares : PySem.W.subIn K (.ref C_BadShape) (.ref C_BadShares) = some false)
    (a_is_whole : PySem.W.nsIn K mainGlobals "is_whole" = some (some (.ref f_is_whole)))
    (l_is_whole : K.lookup f_is_whole = some ⟨oc_is_whole, od_is_whole, .func (PySem.W.fnOf "is_whole" "is_whole" (defArgs s_is_whole) (defBody s_is_whole) (defScope s_is_whole) .none kV_is_whole dc_is_whole pm_is_whole an_is_whole cd_is_whole ct_is_whole), sl_is_whole⟩)
    (c_is_whole : PySem.W.codeIn K cd_is_whole "is_whole" = true)
    (k_is_whole : PySem.W.keepIn K (.ref f_is_whole) = true)
    (a_is_list : PySem.W.nsIn K mainGlobals "is_list" = some (some (.ref f_is_list)))
    (l_is_list : K.lookup f_is_list = some ⟨oc_is_list, od_is_list, .func (PySem.W.fnOf "is_list" "is_list" (defArgs s_is_list) (defBody s_is_list) (defScope s_is_list) .none kV_is_list dc_is_list pm_is_list an_is_list cd_is_list ct_is_list), sl_is_list⟩)
    (c_is_list : PySem.W.codeIn K cd_is_list "is_list" = true)
    (k_is_list : PySem.W.keepIn K (.ref f_is_list) = true)
    (a_is_row : PySem.W.nsIn K mainGlobals "is_row" = some (some (.ref f_is_row)))
    (l_is_row : K.lookup f_is_row = some ⟨oc_is_row, od_is_row, .func (PySem.W.fnOf "is_row" "is_row" (defArgs s_is_row) (defBody s_is_row) (defScope s_is_row) .none kV_is_row dc_is_row pm_is_row an_is_row cd_is_row ct_is_row), sl_is_row⟩)
    (c_is_row : PySem.W.codeIn K cd_is_row "is_row" = true)
    (k_is_row : PySem.W.keepIn K (.ref f_is_row) = true)
    (a_is_weights : PySem.W.nsIn K mainGlobals "is_weights" = some (some (.ref f_is_weights)))
    (l_is_weights : K.lookup f_is_weights = some ⟨oc_is_weights, od_is_weights, .func (PySem.W.fnOf "is_weights" "is_weights" (defArgs s_is_weights) (defBody s_is_weights) (defScope s_is_weights) .none kV_is_weights dc_is_weights pm_is_weights an_is_weights cd_is_weights ct_is_weights), sl_is_weights⟩)
    (c_is_weights : PySem.W.codeIn K cd_is_weights "is_weights" = true)
    (k_is_weights : PySem.W.keepIn K (.ref f_is_weights) = true)
    (a_count_cells : PySem.W.nsIn K mainGlobals "count_cells" = some (some (.ref f_count_cells)))
    (l_count_cells : K.lookup f_count_cells = some ⟨oc_count_cells, od_count_cells, .func (PySem.W.fnOf "count_cells" "count_cells" (defArgs s_count_cells) (defBody s_count_cells) (defScope s_count_cells) .none kV_count_cells dc_count_cells pm_count_cells an_count_cells cd_count_cells ct_count_cells), sl_count_cells⟩)
    (c_count_cells : PySem.W.codeIn K cd_count_cells "count_cells" = true)
    (k_count_cells : PySem.W.keepIn K (.ref f_count_cells) = true)
    (a_is_shape : PySem.W.nsIn K mainGlobals "is_shape" = some (some (.ref f_is_shape)))
    (l_is_shape : K.lookup f_is_shape = some ⟨oc_is_shape, od_is_shape, .func (PySem.W.fnOf "is_shape" "is_shape" (defArgs s_is_shape) (defBody s_is_shape) (defScope s_is_shape) .none kV_is_shape dc_is_shape pm_is_shape an_is_shape cd_is_shape ct_is_shape), sl_is_shape⟩)
    (c_is_shape : PySem.W.codeIn K cd_is_shape "is_shape" = true)
    (k_is_shape : PySem.W.keepIn K (.ref f_is_shape) = true)
    (a_is_move : PySem.W.nsIn K mainGlobals "is_move" = some (some (.ref f_is_move)))
    (l_is_move : K.lookup f_is_move = some ⟨oc_is_move, od_is_move, .func (PySem.W.fnOf "is_move" "is_move" (defArgs s_is_move) (defBody s_is_move) (defScope s_is_move) .none kV_is_move dc_is_move pm_is_move an_is_move cd_is_move ct_is_move), sl_is_move⟩)
    (c_is_move : PySem.W.codeIn K cd_is_move "is_move" = true)
    (k_is_move : PySem.W.keepIn K (.ref f_is_move) = true)
    (a_is_cell : PySem.W.nsIn K mainGlobals "is_cell" = some (some (.ref f_is_cell)))
    (l_is_cell : K.lookup f_is_cell = some ⟨oc_is_cell, od_is_cell, .func (PySem.W.fnOf "is_cell" "is_cell" (defArgs s_is_cell) (defBody s_is_cell) (defScope s_is_cell) .none kV_is_cell dc_is_cell pm_is_cell an_is_cell cd_is_cell ct_is_cell), sl_is_cell⟩)
    (c_is_cell : PySem.W.codeIn K cd_is_cell "is_cell" = true)
    (k_is_cell : PySem.W.keepIn K (.ref f_is_cell) = true)
    (a_check_cell : PySem.W.nsIn K mainGlobals "check_cell" = some (some (.ref f_check_cell)))
    (l_check_cell : K.lookup f_check_cell = some ⟨oc_check_cell, od_check_cell, .func (PySem.W.fnOf "check_cell" "check_cell" (defArgs s_check_cell) (defBody s_check_cell) (defScope s_check_cell) .none kV_check_cell dc_check_cell pm_check_cell an_check_cell cd_check_cell ct_check_cell), sl_check_cell⟩)
    (c_check_cell : PySem.W.codeIn K cd_check_cell "check_cell" = true)
    (k_check_cell : PySem.W.keepIn K (.ref f_check_cell) = true)
    (a_place : PySem.W.nsIn K mainGlobals "place" = some (some (.ref f_place)))
    (l_place : K.lookup f_place = some ⟨oc_place, od_place, .func (PySem.W.fnOf "place" "place" (defArgs s_place) (defBody s_place) (defScope s_place) .none kV_place dc_place pm_place an_place cd_place ct_place), sl_place⟩)
    (c_place : PySem.W.codeIn K cd_place "place" = true)
    (k_place : PySem.W.keepIn K (.ref f_place) = true)
    (a_lowest : PySem.W.nsIn K mainGlobals "lowest" = some (some (.ref f_lowest)))
    (l_lowest : K.lookup f_lowest = some ⟨oc_lowest, od_lowest, .func (PySem.W.fnOf "lowest" "lowest" (defArgs s_lowest) (defBody s_lowest) (defScope s_lowest) .none kV_lowest dc_lowest pm_lowest an_lowest cd_lowest ct_lowest), sl_lowest⟩)
    (c_lowest : PySem.W.codeIn K cd_lowest "lowest" = true)
    (k_lowest : PySem.W.keepIn K (.ref f_lowest) = true)
    (l_Log_plays : K.lookup f_Log_plays = some ⟨oc_Log_plays, od_Log_plays, .func (PySem.W.fnOf "plays" "Log.plays" (defArgs s_Log_plays) (defBody s_Log_plays) (defScope s_Log_plays) .none kV_Log_plays dc_Log_plays pm_Log_plays an_Log_plays cd_Log_plays ct_Log_plays), sl_Log_plays⟩)
    (c_Log_plays : PySem.W.codeIn K cd_Log_plays "Log.plays" = true)
    (k_Log_plays : PySem.W.keepIn K (.ref f_Log_plays) = true)
    (a_counts : PySem.W.nsIn K mainGlobals "counts" = some (some (.ref f_counts)))
    (l_counts : K.lookup f_counts = some ⟨oc_counts, od_counts, .func (PySem.W.fnOf "counts" "counts" (defArgs s_counts) (defBody s_counts) (defScope s_counts) .none kV_counts dc_counts pm_counts an_counts cd_counts ct_counts), sl_counts⟩)
    (c_counts : PySem.W.codeIn K cd_counts "counts" = true)
    (k_counts : PySem.W.keepIn K (.ref f_counts) = true)
    (a__law_pool : PySem.W.nsIn K mainGlobals "_law_pool" = some (some (.ref f__law_pool)))
    (l__law_pool : K.lookup f__law_pool = some ⟨oc__law_pool, od__law_pool, .func (PySem.W.fnOf "_law_pool" "_law_pool" (defArgs s__law_pool) (defBody s__law_pool) (defScope s__law_pool) .none kV__law_pool dc__law_pool pm__law_pool an__law_pool cd__law_pool ct__law_pool), sl__law_pool⟩)
    (c__law_pool : PySem.W.codeIn K cd__law_pool "_law_pool" = true)
    (k__law_pool : PySem.W.keepIn K (.ref f__law_pool) = true)
    (a__law_take : PySem.W.nsIn K mainGlobals "_law_take" = some (some (.ref f__law_take)))
    (l__law_take : K.lookup f__law_take = some ⟨oc__law_take, od__law_take, .func (PySem.W.fnOf "_law_take" "_law_take" (defArgs s__law_take) (defBody s__law_take) (defScope s__law_take) .none kV__law_take dc__law_take pm__law_take an__law_take cd__law_take ct__law_take), sl__law_take⟩)
    (c__law_take : PySem.W.codeIn K cd__law_take "_law_take" = true)
    (k__law_take : PySem.W.keepIn K (.ref f__law_take) = true)
    (a__law_divisor : PySem.W.nsIn K mainGlobals "_law_divisor" = some (some (.ref f__law_divisor)))
    (l__law_divisor : K.lookup f__law_divisor = some ⟨oc__law_divisor, od__law_divisor, .func (PySem.W.fnOf "_law_divisor" "_law_divisor" (defArgs s__law_divisor) (defBody s__law_divisor) (defScope s__law_divisor) .none kV__law_divisor dc__law_divisor pm__law_divisor an__law_divisor cd__law_divisor ct__law_divisor), sl__law_divisor⟩)
    (c__law_divisor : PySem.W.codeIn K cd__law_divisor "_law_divisor" = true)
    (k__law_divisor : PySem.W.keepIn K (.ref f__law_divisor) = true)
    (a__law_size : PySem.W.nsIn K mainGlobals "_law_size" = some (some (.ref f__law_size)))
    (l__law_size : K.lookup f__law_size = some ⟨oc__law_size, od__law_size, .func (PySem.W.fnOf "_law_size" "_law_size" (defArgs s__law_size) (defBody s__law_size) (defScope s__law_size) .none kV__law_size dc__law_size pm__law_size an__law_size cd__law_size ct__law_size), sl__law_size⟩)
    (c__law_size : PySem.W.codeIn K cd__law_size "_law_size" = true)
    (k__law_size : PySem.W.keepIn K (.ref f__law_size) = true)
    (a__law_shapes : PySem.W.nsIn K mainGlobals "_law_shapes" = some (some (.ref f__law_shapes)))
    (l__law_shapes : K.lookup f__law_shapes = some ⟨oc__law_shapes, od__law_shapes, .func (PySem.W.fnOf "_law_shapes" "_law_shapes" (defArgs s__law_shapes) (defBody s__law_shapes) (defScope s__law_shapes) .none kV__law_shapes dc__law_shapes pm__law_shapes an__law_shapes cd__law_shapes ct__law_shapes), sl__law_shapes⟩)
    (c__law_shapes : PySem.W.codeIn K cd__law_shapes "_law_shapes" = true)
    (k__law_shapes : PySem.W.keepIn K (.ref f__law_shapes) = true)
    (a__law_shape : PySem.W.nsIn K mainGlobals "_law_shape" = some (some (.ref f__law_shape)))
    (l__law_shape : K.lookup f__law_shape = some ⟨oc__law_shape, od__law_shape, .func (PySem.W.fnOf "_law_shape" "_law_shape" (defArgs s__law_shape) (defBody s__law_shape) (defScope s__law_shape) .none kV__law_shape dc__law_shape pm__law_shape an__law_shape cd__law_shape ct__law_shape), sl__law_shape⟩)
    (c__law_shape : PySem.W.codeIn K cd__law_shape "_law_shape" = true)
    (k__law_shape : PySem.W.keepIn K (.ref f__law_shape) = true)
    (a__law_cells : PySem.W.nsIn K mainGlobals "_law_cells" = some (some (.ref f__law_cells)))
    (l__law_cells : K.lookup f__law_cells = some ⟨oc__law_cells, od__law_cells, .func (PySem.W.fnOf "_law_cells" "_law_cells" (defArgs s__law_cells) (defBody s__law_cells) (defScope s__law_cells) .none kV__law_cells dc__law_cells pm__law_cells an__law_cells cd__law_cells ct__law_cells), sl__law_cells⟩)
    (c__law_cells : PySem.W.codeIn K cd__law_cells "_law_cells" = true)
    (k__law_cells : PySem.W.keepIn K (.ref f__law_cells) = true)
    (a__law_least_terms : PySem.W.nsIn K mainGlobals "_law_least_terms" = some (some (.ref f__law_least_terms)))
    (l__law_least_terms : K.lookup f__law_least_terms = some ⟨oc__law_least_terms, od__law_least_terms, .func (PySem.W.fnOf "_law_least_terms" "_law_least_terms" (defArgs s__law_least_terms) (defBody s__law_least_terms) (defScope s__law_least_terms) .none kV__law_least_terms dc__law_least_terms pm__law_least_terms an__law_least_terms cd__law_least_terms ct__law_least_terms), sl__law_least_terms⟩)
    (c__law_least_terms : PySem.W.codeIn K cd__law_least_terms "_law_least_terms" = true)
    (k__law_least_terms : PySem.W.keepIn K (.ref f__law_least_terms) = true)
    (l_Log___init__P : K.lookup f_Log___init__P = some ⟨oc_Log___init__P, od_Log___init__P, .func (PySem.W.fnOf "__init__" "Log.__init__" (defArgs s_Log___init__P) (defBody s_Log___init__P) (defScope s_Log___init__P) .none kV_Log___init__P dc_Log___init__P pm_Log___init__P an_Log___init__P cd_Log___init__P ct_Log___init__P), sl_Log___init__P⟩)
    (c_Log___init__P : PySem.W.codeIn K cd_Log___init__P "Log.__init__" = true)
    (k_Log___init__P : PySem.W.keepIn K (.ref f_Log___init__P) = true)
    (l_Log_play : K.lookup f_Log_play = some ⟨oc_Log_play, od_Log_play, .func (PySem.W.fnOf "play" "Log.play" (defArgs s_Log_play) (defBody s_Log_play) (defScope s_Log_play) .none kV_Log_play dc_Log_play pm_Log_play an_Log_play cd_Log_play ct_Log_play), sl_Log_play⟩)
    (c_Log_play : PySem.W.codeIn K cd_Log_play "Log.play" = true)
    (k_Log_play : PySem.W.keepIn K (.ref f_Log_play) = true)
    (l_Log___init__ : K.lookup f_Log___init__ = some ⟨oc_Log___init__, od_Log___init__, .func (PySem.W.fnOf "__init__" "Log.__init__" (defArgs s_Log___init__) (defBody s_Log___init__) (defScope s_Log___init__) .none kV_Log___init__ dc_Log___init__ pm_Log___init__ an_Log___init__ cd_Log___init__ ct_Log___init__), sl_Log___init__⟩)
    (c_Log___init__ : PySem.W.codeIn K cd_Log___init__ "Log.__init__" = true)
    (k_Log___init__ : PySem.W.keepIn K (.ref f_Log___init__) = true)
    (l_Log_behind : K.lookup f_Log_behind = some ⟨oc_Log_behind, od_Log_behind, .func (PySem.W.fnOf "behind" "Log.behind" (defArgs s_Log_behind) (defBody s_Log_behind) (defScope s_Log_behind) .none kV_Log_behind dc_Log_behind pm_Log_behind an_Log_behind cd_Log_behind ct_Log_behind), sl_Log_behind⟩)
    (c_Log_behind : PySem.W.codeIn K cd_Log_behind "Log.behind" = true)
    (k_Log_behind : PySem.W.keepIn K (.ref f_Log_behind) = true)
    (a__law_refused : PySem.W.nsIn K mainGlobals "_law_refused" = some (some (.ref f__law_refused)))
    (l__law_refused : K.lookup f__law_refused = some ⟨oc__law_refused, od__law_refused, .func (PySem.W.fnOf "_law_refused" "_law_refused" (defArgs s__law_refused) (defBody s__law_refused) (defScope s__law_refused) .none kV__law_refused dc__law_refused pm__law_refused an__law_refused cd__law_refused ct__law_refused), sl__law_refused⟩)
    (c__law_refused : PySem.W.codeIn K cd__law_refused "_law_refused" = true)
    (k__law_refused : PySem.W.keepIn K (.ref f__law_refused) = true)
    (l_Hint___init__ : K.lookup f_Hint___init__ = some ⟨oc_Hint___init__, od_Hint___init__, .func (PySem.W.fnOf "__init__" "Hint.__init__" (defArgs s_Hint___init__) (defBody s_Hint___init__) (defScope s_Hint___init__) .none kV_Hint___init__ dc_Hint___init__ pm_Hint___init__ an_Hint___init__ cd_Hint___init__ ct_Hint___init__), sl_Hint___init__⟩)
    (c_Hint___init__ : PySem.W.codeIn K cd_Hint___init__ "Hint.__init__" = true)
    (k_Hint___init__ : PySem.W.keepIn K (.ref f_Hint___init__) = true)
    (l_Log___len__ : K.lookup f_Log___len__ = some ⟨oc_Log___len__, od_Log___len__, .func (PySem.W.fnOf "__len__" "Log.__len__" (defArgs s_Log___len__) (defBody s_Log___len__) (defScope s_Log___len__) .none kV_Log___len__ dc_Log___len__ pm_Log___len__ an_Log___len__ cd_Log___len__ ct_Log___len__), sl_Log___len__⟩)
    (c_Log___len__ : PySem.W.codeIn K cd_Log___len__ "Log.__len__" = true)
    (k_Log___len__ : PySem.W.keepIn K (.ref f_Log___len__) = true)
    (l_Log_hint : K.lookup f_Log_hint = some ⟨oc_Log_hint, od_Log_hint, .func (PySem.W.fnOf "hint" "Log.hint" (defArgs s_Log_hint) (defBody s_Log_hint) (defScope s_Log_hint) .none kV_Log_hint dc_Log_hint pm_Log_hint an_Log_hint cd_Log_hint ct_Log_hint), sl_Log_hint⟩)
    (c_Log_hint : PySem.W.codeIn K cd_Log_hint "Log.hint" = true)
    (k_Log_hint : PySem.W.keepIn K (.ref f_Log_hint) = true)
    (l_Hint___eq__ : K.lookup f_Hint___eq__ = some ⟨oc_Hint___eq__, od_Hint___eq__, .func (PySem.W.fnOf "__eq__" "Hint.__eq__" (defArgs s_Hint___eq__) (defBody s_Hint___eq__) (defScope s_Hint___eq__) .none kV_Hint___eq__ dc_Hint___eq__ pm_Hint___eq__ an_Hint___eq__ cd_Hint___eq__ ct_Hint___eq__), sl_Hint___eq__⟩)
    (c_Hint___eq__ : PySem.W.codeIn K cd_Hint___eq__ "Hint.__eq__" = true)
    (k_Hint___eq__ : PySem.W.keepIn K (.ref f_Hint___eq__) = true)
    (l_Hint_weights : K.lookup f_Hint_weights = some ⟨oc_Hint_weights, od_Hint_weights, .func (PySem.W.fnOf "weights" "Hint.weights" (defArgs s_Hint_weights) (defBody s_Hint_weights) (defScope s_Hint_weights) .none kV_Hint_weights dc_Hint_weights pm_Hint_weights an_Hint_weights cd_Hint_weights ct_Hint_weights), sl_Hint_weights⟩)
    (c_Hint_weights : PySem.W.codeIn K cd_Hint_weights "Hint.weights" = true)
    (k_Hint_weights : PySem.W.keepIn K (.ref f_Hint_weights) = true)
    (a__law_same : PySem.W.nsIn K mainGlobals "_law_same" = some (some (.ref f__law_same)))
    (l__law_same : K.lookup f__law_same = some ⟨oc__law_same, od__law_same, .func (PySem.W.fnOf "_law_same" "_law_same" (defArgs s__law_same) (defBody s__law_same) (defScope s__law_same) .none kV__law_same dc__law_same pm__law_same an__law_same cd__law_same ct__law_same), sl__law_same⟩)
    (c__law_same : PySem.W.codeIn K cd__law_same "_law_same" = true)
    (k__law_same : PySem.W.keepIn K (.ref f__law_same) = true)
    (a__law_odd_cells : PySem.W.nsIn K mainGlobals "_law_odd_cells" = some (some (.ref f__law_odd_cells)))
    (l__law_odd_cells : K.lookup f__law_odd_cells = some ⟨oc__law_odd_cells, od__law_odd_cells, .func (PySem.W.fnOf "_law_odd_cells" "_law_odd_cells" (defArgs s__law_odd_cells) (defBody s__law_odd_cells) (defScope s__law_odd_cells) .none kV__law_odd_cells dc__law_odd_cells pm__law_odd_cells an__law_odd_cells cd__law_odd_cells ct__law_odd_cells), sl__law_odd_cells⟩)
    (c__law_odd_cells : PySem.W.codeIn K cd__law_odd_cells "_law_odd_cells" = true)
    (k__law_odd_cells : PySem.W.keepIn K (.ref f__law_odd_cells) = true)
    (a__law_hints : PySem.W.nsIn K mainGlobals "_law_hints" = some (some (.ref f__law_hints)))
    (l__law_hints : K.lookup f__law_hints = some ⟨oc__law_hints, od__law_hints, .func (PySem.W.fnOf "_law_hints" "_law_hints" (defArgs s__law_hints) (defBody s__law_hints) (defScope s__law_hints) .none kV__law_hints dc__law_hints pm__law_hints an__law_hints cd__law_hints ct__law_hints), sl__law_hints⟩)
    (c__law_hints : PySem.W.codeIn K cd__law_hints "_law_hints" = true)
    (k__law_hints : PySem.W.keepIn K (.ref f__law_hints) = true)
    (a__law_kept : PySem.W.nsIn K mainGlobals "_law_kept" = some (some (.ref f__law_kept)))
    (l__law_kept : K.lookup f__law_kept = some ⟨oc__law_kept, od__law_kept, .func (PySem.W.fnOf "_law_kept" "_law_kept" (defArgs s__law_kept) (defBody s__law_kept) (defScope s__law_kept) .none kV__law_kept dc__law_kept pm__law_kept an__law_kept cd__law_kept ct__law_kept), sl__law_kept⟩)
    (c__law_kept : PySem.W.codeIn K cd__law_kept "_law_kept" = true)
    (k__law_kept : PySem.W.keepIn K (.ref f__law_kept) = true)
    (a_law : PySem.W.nsIn K mainGlobals "law" = some (some (.ref f_law)))
    (l_law : K.lookup f_law = some ⟨oc_law, od_law, .func (PySem.W.fnOf "law" "law" (defArgs s_law) (defBody s_law) (defScope s_law) .none kV_law dc_law pm_law an_law cd_law ct_law), sl_law⟩)
    (c_law : PySem.W.codeIn K cd_law "law" = true)
    (k_law : PySem.W.keepIn K (.ref f_law) = true)
    : ∃ fd : FuncData, (∀ (s : Shared) (v : Value), BindsTo s fd ⟨[v], []⟩ [("_law_script", v)]) ∧ ∀ base : Heap, K.In base → base.Ns mainGlobals mg → FnOk l.prog w K mg base (L2N.CX l.prog w) 9 fa fd ["_law_script"] (spLaw K 63) := by
  have e := hfa.symm.trans (PySem.W.mg_of X G a_law)
  cases e
  have T : Txt K mg := ⟨(fldT_cons (PySem.W.mg_of X G aC_Hint) ⟨pg_Hint, hd_Hint, po_Hint, sa_Hint⟩ (nfl_cons nf_shape_Hint (nfl_cons nf__weights_Hint (nfl_cons nf_unit_Hint nfl_nil))) (fldT_cons (PySem.W.mg_of X G aC_Log) ⟨pg_Log, hd_Log, po_Log, sa_Log⟩ (nfl_cons nf_shape_Log (nfl_cons nf__plays_Log nfl_nil)) fldT_nil)), PySem.W.mg_none_of X G z_list, PySem.W.mg_none_of X G z_range, PySem.W.mg_none_of X G z_int, PySem.W.mg_none_of X G z_len, PySem.W.mg_none_of X G z_max, PySem.W.mg_none_of X G z_tuple, PySem.W.mg_none_of X G z_isinstance, PySem.W.mg_none_of X G z_bool, PySem.W.mg_none_of X G z_all, PySem.W.mg_none_of X G z_enumerate, PySem.W.mg_none_of X G z_any, PySem.W.mg_of X G z_gcd, PySem.W.mg_none_of X G z_sum, PySem.W.mg_none_of X G z_zip, PySem.W.mg_none_of X G z_abs, ⟨_, PySem.W.mg_of X G z_MOST_CELLS⟩, ⟨_, PySem.W.mg_of X G z_MOST_MOVES⟩, ⟨_, PySem.W.mg_of X G z_MOST_PLAYERS⟩⟩
  have gC_Hint := PySem.W.mg_of X G aC_Hint
  have ic_Hint : IsC K C_Hint := ⟨⟨pg_Hint, hd_Hint, po_Hint, sa_Hint⟩, ica_Hint, icn_Hint, ict_Hint, icm_Hint, jC_Hint, tC_Hint⟩
  have Z_BadShape : Err0 K mg "BadShape" C_BadShape := ⟨PySem.W.mg_of X G aC_BadShape, ex_BadShape, kC_BadShape, eC_BadShape, tC_BadShape⟩
  have Z_BadShares : Err0 K mg "BadShares" C_BadShares := ⟨PySem.W.mg_of X G aC_BadShares, ex_BadShares, kC_BadShares, eC_BadShares, tC_BadShares⟩
  have Z_BadWeights : Err0 K mg "BadWeights" C_BadWeights := ⟨PySem.W.mg_of X G aC_BadWeights, ex_BadWeights, kC_BadWeights, eC_BadWeights, tC_BadWeights⟩
  have FI_NoCell := fun_mk (st := inClass (top 7) 0) lI_NoCell cI_NoCell kI_NoCell
  have E_NoCell : ErrC K mg "NoCell" "cell" "cell" C_NoCell fI_NoCell _ := ⟨PySem.W.mg_of X G aC_NoCell, ⟨⟨_, _, _, _, _, _, _, _, _, _, _, _, _, _, _, xL_NoCell, by rfl⟩, sa_NoCell, eC_NoCell, tC_NoCell, kC_NoCell⟩, iC_NoCell, tI_NoCell, nb_NoCell, fun P w base => ok_init1 FI_NoCell (⟨rfl, rfl, rfl, by decide +kernel, rfl, by decide +kernel, by decide +kernel⟩ : FnScope ["self", "cell"] ["self", "cell"] (defScope (inClass (top 7) 0))) (fun Y hN hS => init_NoCell Y hN hS), FI_NoCell.binds (ps := ["self", "cell"]) (fun _ _ _ _ _ _ us hl => ofN2 us hl fun _ _ => rfl), ⟨ga_NoCell, gg_NoCell, eC_NoCell, hC_NoCell⟩, exm_own eC_NoCell jC_NoCell tC_NoCell sC_NoCell⟩
  have te_NoCell := exm_own eC_NoCell jC_NoCell tC_NoCell sC_NoCell
  have te_BadShares := exm_own eC_BadShares jC_BadShares tC_BadShares sC_BadShares
  have te_BadShape := exm_own eC_BadShape jC_BadShape tC_BadShape sC_BadShape
  have nn_BadShares_NoCell := exm_own eC_NoCell jC_NoCell tC_NoCell ns_BadShares_NoCell
  have nn_BadShape_NoCell := exm_own eC_NoCell jC_NoCell tC_NoCell ns_BadShape_NoCell
  have nn_BadShape_BadShares := exm_own eC_BadShares jC_BadShares tC_BadShares ns_BadShape_BadShares
  have F_is_whole := fun_mk (st := s_is_whole) l_is_whole c_is_whole k_is_whole
  have b_is_whole := F_is_whole.binds (ps := P_is_whole) fun _ _ _ _ _ _ us hl => ofN1 us hl fun _ => rfl
  have F_is_list := fun_mk (st := s_is_list) l_is_list c_is_list k_is_list
  have b_is_list := F_is_list.binds (ps := P_is_list) fun _ _ _ _ _ _ us hl => ofN1 us hl fun _ => rfl
  have F_is_row := fun_mk (st := s_is_row) l_is_row c_is_row k_is_row
  have b_is_row := F_is_row.binds (ps := P_is_row) fun _ _ _ _ _ _ us hl => ofN2 us hl fun _ _ => rfl
  have F_is_weights := fun_mk (st := s_is_weights) l_is_weights c_is_weights k_is_weights
  have b_is_weights := F_is_weights.binds (ps := P_is_weights) fun _ _ _ _ _ _ us hl => ofN2 us hl fun _ _ => rfl
  have F_count_cells := fun_mk (st := s_count_cells) l_count_cells c_count_cells k_count_cells
  have b_count_cells := F_count_cells.binds (ps := P_count_cells) fun _ _ _ _ _ _ us hl => ofN1 us hl fun _ => rfl
  have F_is_shape := fun_mk (st := s_is_shape) l_is_shape c_is_shape k_is_shape
  have b_is_shape := F_is_shape.binds (ps := P_is_shape) fun _ _ _ _ _ _ us hl => ofN1 us hl fun _ => rfl
  have F_is_move := fun_mk (st := s_is_move) l_is_move c_is_move k_is_move
  have b_is_move := F_is_move.binds (ps := P_is_move) fun _ _ _ _ _ _ us hl => ofN3 us hl fun _ _ _ => rfl
  have F_is_cell := fun_mk (st := s_is_cell) l_is_cell c_is_cell k_is_cell
  have b_is_cell := F_is_cell.binds (ps := P_is_cell) fun _ _ _ _ _ _ us hl => ofN2 us hl fun _ _ => rfl
  have F_check_cell := fun_mk (st := s_check_cell) l_check_cell c_check_cell k_check_cell
  have b_check_cell := F_check_cell.binds (ps := P_check_cell) fun _ _ _ _ _ _ us hl => ofN2 us hl fun _ _ => rfl
  have F_place := fun_mk (st := s_place) l_place c_place k_place
  have b_place := F_place.binds (ps := P_place) fun _ _ _ _ _ _ us hl => ofN2 us hl fun _ _ => rfl
  have F_lowest := fun_mk (st := s_lowest) l_lowest c_lowest k_lowest
  have b_lowest := F_lowest.binds (ps := P_lowest) fun _ _ _ _ _ _ us hl => ofN1 us hl fun _ => rfl
  have F_Log_plays := fun_mk (st := s_Log_plays) l_Log_plays c_Log_plays k_Log_plays
  have b_Log_plays := F_Log_plays.binds (ps := P_Log_plays) fun _ _ _ _ _ _ us hl => ofN1 us hl fun _ => rfl
  have F_counts := fun_mk (st := s_counts) l_counts c_counts k_counts
  have b_counts := F_counts.binds (ps := P_counts) fun _ _ _ _ _ _ us hl => ofN1 us hl fun _ => rfl
  have F__law_pool := fun_mk (st := s__law_pool) l__law_pool c__law_pool k__law_pool
  have b__law_pool := F__law_pool.binds (ps := P__law_pool) fun _ _ _ _ _ _ us hl => ofN1 us hl fun _ => rfl
  have F__law_take := fun_mk (st := s__law_take) l__law_take c__law_take k__law_take
  have b__law_take := F__law_take.binds (ps := P__law_take) fun _ _ _ _ _ _ us hl => ofN2 us hl fun _ _ => rfl
  have F__law_divisor := fun_mk (st := s__law_divisor) l__law_divisor c__law_divisor k__law_divisor
  have b__law_divisor := F__law_divisor.binds (ps := P__law_divisor) fun _ _ _ _ _ _ us hl => ofN1 us hl fun _ => rfl
  have F__law_size := fun_mk (st := s__law_size) l__law_size c__law_size k__law_size
  have b__law_size := F__law_size.binds (ps := P__law_size) fun _ _ _ _ _ _ us hl => ofN1 us hl fun _ => rfl
  have F__law_shapes := fun_mk (st := s__law_shapes) l__law_shapes c__law_shapes k__law_shapes
  have b__law_shapes := F__law_shapes.binds (ps := P__law_shapes) fun _ _ _ _ _ _ us hl => ofN1 us hl fun _ => rfl
  have F__law_shape := fun_mk (st := s__law_shape) l__law_shape c__law_shape k__law_shape
  have b__law_shape := F__law_shape.binds (ps := P__law_shape) fun _ _ _ _ _ _ us hl => ofN2 us hl fun _ _ => rfl
  have F__law_cells := fun_mk (st := s__law_cells) l__law_cells c__law_cells k__law_cells
  have b__law_cells := F__law_cells.binds (ps := P__law_cells) fun _ _ _ _ _ _ us hl => ofN1 us hl fun _ => rfl
  have F__law_least_terms := fun_mk (st := s__law_least_terms) l__law_least_terms c__law_least_terms k__law_least_terms
  have b__law_least_terms := F__law_least_terms.binds (ps := P__law_least_terms) fun _ _ _ _ _ _ us hl => ofN1 us hl fun _ => rfl
  have F_Log___init__P := fun_mk (st := s_Log___init__P) l_Log___init__P c_Log___init__P k_Log___init__P
  have b_Log___init__P := F_Log___init__P.binds (ps := P_Log___init__P) fun _ _ _ _ _ _ us hl => ofN2 us hl fun _ _ => rfl
  have F_Log_play := fun_mk (st := s_Log_play) l_Log_play c_Log_play k_Log_play
  have b_Log_play := F_Log_play.binds (ps := P_Log_play) fun _ _ _ _ _ _ us hl => ofN2 us hl fun _ _ => rfl
  have F_Log___init__ := fun_mk (st := s_Log___init__) l_Log___init__ c_Log___init__ k_Log___init__
  have b_Log___init__ := F_Log___init__.binds (ps := P_Log___init__) fun _ _ _ _ _ _ us hl => ofN2 us hl fun _ _ => rfl
  have F_Log_behind := fun_mk (st := s_Log_behind) l_Log_behind c_Log_behind k_Log_behind
  have b_Log_behind := F_Log_behind.binds (ps := P_Log_behind) fun _ _ _ _ _ _ us hl => ofN2 us hl fun _ _ => rfl
  have F__law_refused := fun_mk (st := s__law_refused) l__law_refused c__law_refused k__law_refused
  have b__law_refused := F__law_refused.binds (ps := P__law_refused) fun _ _ _ _ _ _ us hl => ofN3 us hl fun _ _ _ => rfl
  have F_Hint___init__ := fun_mk (st := s_Hint___init__) l_Hint___init__ c_Hint___init__ k_Hint___init__
  have b_Hint___init__ := F_Hint___init__.binds (ps := P_Hint___init__) fun _ _ _ _ _ _ us hl => ofN3 us hl fun _ _ _ => rfl
  have F_Log___len__ := fun_mk (st := s_Log___len__) l_Log___len__ c_Log___len__ k_Log___len__
  have b_Log___len__ := F_Log___len__.binds (ps := P_Log___len__) fun _ _ _ _ _ _ us hl => ofN1 us hl fun _ => rfl
  have F_Log_hint := fun_mk (st := s_Log_hint) l_Log_hint c_Log_hint k_Log_hint
  have b_Log_hint := F_Log_hint.binds (ps := P_Log_hint) fun _ _ _ _ _ _ us hl => ofN1 us hl fun _ => rfl
  have F_Hint___eq__ := fun_mk (st := s_Hint___eq__) l_Hint___eq__ c_Hint___eq__ k_Hint___eq__
  have b_Hint___eq__ := F_Hint___eq__.binds (ps := P_Hint___eq__) fun _ _ _ _ _ _ us hl => ofN2 us hl fun _ _ => rfl
  have F_Hint_weights := fun_mk (st := s_Hint_weights) l_Hint_weights c_Hint_weights k_Hint_weights
  have b_Hint_weights := F_Hint_weights.binds (ps := P_Hint_weights) fun _ _ _ _ _ _ us hl => ofN1 us hl fun _ => rfl
  have F__law_same := fun_mk (st := s__law_same) l__law_same c__law_same k__law_same
  have b__law_same := F__law_same.binds (ps := P__law_same) fun _ _ _ _ _ _ us hl => ofN3 us hl fun _ _ _ => rfl
  have F__law_odd_cells := fun_mk (st := s__law_odd_cells) l__law_odd_cells c__law_odd_cells k__law_odd_cells
  have b__law_odd_cells := F__law_odd_cells.binds (ps := P__law_odd_cells) fun _ _ _ _ _ _ us hl => ofN2 us hl fun _ _ => rfl
  have F__law_hints := fun_mk (st := s__law_hints) l__law_hints c__law_hints k__law_hints
  have b__law_hints := F__law_hints.binds (ps := P__law_hints) fun _ _ _ _ _ _ us hl => ofN1 us hl fun _ => rfl
  have F__law_kept := fun_mk (st := s__law_kept) l__law_kept c__law_kept k__law_kept
  have b__law_kept := F__law_kept.binds (ps := P__law_kept) fun _ _ _ _ _ _ us hl => ofN3 us hl fun _ _ _ => rfl
  have F_law := fun_mk (st := s_law) l_law c_law k_law
  refine ⟨PySem.W.fnOf "law" "law" (defArgs s_law) (defBody s_law) (defScope s_law) .none kV_law dc_law pm_law an_law cd_law ct_law, fun s v => .of_eq rfl, fun base _ _ => ?_⟩
  have c_is_whole : Callee l.prog w K mg base 1 "is_whole" P_is_whole m_is_whole f_is_whole _ := ⟨ok_is_whole T F_is_whole, PySem.W.mg_of X G a_is_whole, k_is_whole⟩
  have c_is_list : Callee l.prog w K mg base 1 "is_list" P_is_list m_is_list f_is_list _ := ⟨ok_is_list T F_is_list, PySem.W.mg_of X G a_is_list, k_is_list⟩
  have c_is_row : Callee l.prog w K mg base 2 "is_row" P_is_row m_is_row f_is_row _ := ⟨ok_is_row T c_is_list b_is_list c_is_whole b_is_whole F_is_row, PySem.W.mg_of X G a_is_row, k_is_row⟩
  have c_is_weights : Callee l.prog w K mg base 3 "is_weights" P_is_weights m_is_weights f_is_weights _ := ⟨ok_is_weights T c_is_row b_is_row F_is_weights, PySem.W.mg_of X G a_is_weights, k_is_weights⟩
  have c_count_cells : Callee l.prog w K mg base 1 "count_cells" P_count_cells m_count_cells f_count_cells _ := ⟨ok_count_cells T F_count_cells, PySem.W.mg_of X G a_count_cells, k_count_cells⟩
  have c_is_shape : Callee l.prog w K mg base 2 "is_shape" P_is_shape m_is_shape f_is_shape _ := ⟨ok_is_shape T c_is_list b_is_list c_is_whole b_is_whole c_count_cells b_count_cells F_is_shape, PySem.W.mg_of X G a_is_shape, k_is_shape⟩
  have c_is_move : Callee l.prog w K mg base 2 "is_move" P_is_move m_is_move f_is_move _ := ⟨ok_is_move T c_is_whole b_is_whole F_is_move, PySem.W.mg_of X G a_is_move, k_is_move⟩
  have c_is_cell : Callee l.prog w K mg base 3 "is_cell" P_is_cell m_is_cell f_is_cell _ := ⟨ok_is_cell T c_is_move b_is_move F_is_cell, PySem.W.mg_of X G a_is_cell, k_is_cell⟩
  have c_check_cell : Callee l.prog w K mg base 4 "check_cell" P_check_cell m_check_cell f_check_cell _ := ⟨ok_check_cell T c_is_cell b_is_cell E_NoCell F_check_cell, PySem.W.mg_of X G a_check_cell, k_check_cell⟩
  have c_place : Callee l.prog w K mg base 1 "place" P_place m_place f_place _ := ⟨ok_place T F_place, PySem.W.mg_of X G a_place, k_place⟩
  have c_lowest : Callee l.prog w K mg base 1 "lowest" P_lowest m_lowest f_lowest _ := ⟨ok_lowest T F_lowest, PySem.W.mg_of X G a_lowest, k_lowest⟩
  have om_Log_plays : OwnM l.prog w K mg base 1 "Log" "plays" P_Log_plays m_Log_plays C_Log f_Log_plays _ := ⟨ok_Log_plays T F_Log_plays, PySem.W.mg_of X G aC_Log, ⟨pg_Log, hd_Log, po_Log, sa_Log⟩, ⟨mt_Log_plays, isf_Log_plays, k_Log_plays⟩, b_Log_plays⟩
  have c_counts : Callee l.prog w K mg base 2 "counts" P_counts m_counts f_counts _ := ⟨ok_counts T c_count_cells b_count_cells c_place b_place om_Log_plays F_counts, PySem.W.mg_of X G a_counts, k_counts⟩
  have c__law_pool : Callee l.prog w K mg base 1 "_law_pool" P__law_pool m__law_pool f__law_pool _ := ⟨ok__law_pool T F__law_pool, PySem.W.mg_of X G a__law_pool, k__law_pool⟩
  have c__law_take : Callee l.prog w K mg base 1 "_law_take" P__law_take m__law_take f__law_take _ := ⟨ok__law_take T F__law_take, PySem.W.mg_of X G a__law_take, k__law_take⟩
  have c__law_divisor : Callee l.prog w K mg base 1 "_law_divisor" P__law_divisor m__law_divisor f__law_divisor _ := ⟨ok__law_divisor T F__law_divisor, PySem.W.mg_of X G a__law_divisor, k__law_divisor⟩
  have c__law_size : Callee l.prog w K mg base 1 "_law_size" P__law_size m__law_size f__law_size _ := ⟨ok__law_size T F__law_size, PySem.W.mg_of X G a__law_size, k__law_size⟩
  have c__law_shapes : Callee l.prog w K mg base 2 "_law_shapes" P__law_shapes m__law_shapes f__law_shapes _ := ⟨ok__law_shapes T c__law_size b__law_size F__law_shapes, PySem.W.mg_of X G a__law_shapes, k__law_shapes⟩
  have c__law_shape : Callee l.prog w K mg base 3 "_law_shape" P__law_shape m__law_shape f__law_shape _ := ⟨ok__law_shape T c__law_shapes b__law_shapes c__law_take b__law_take F__law_shape, PySem.W.mg_of X G a__law_shape, k__law_shape⟩
  have c__law_cells : Callee l.prog w K mg base 1 "_law_cells" P__law_cells m__law_cells f__law_cells _ := ⟨ok__law_cells T F__law_cells, PySem.W.mg_of X G a__law_cells, k__law_cells⟩
  have c__law_least_terms : Callee l.prog w K mg base 2 "_law_least_terms" P__law_least_terms m__law_least_terms f__law_least_terms _ := ⟨ok__law_least_terms T c__law_divisor b__law_divisor F__law_least_terms, PySem.W.mg_of X G a__law_least_terms, k__law_least_terms⟩
  have mkP_Log : Maker l.prog w K mg base 3 "Log" P_Log___init__P m_Log___init__P C_Log f_Log___init__P _ := ⟨ok_Log___init__P T c_is_shape b_is_shape Z_BadShape F_Log___init__P, ⟨mkp_Log, inip_Log, fnp_Log, kCp_Log⟩, PySem.W.mg_of X G aC_Log, b_Log___init__P⟩
  have om_Log_play : OwnM l.prog w K mg base 5 "Log" "play" P_Log_play m_Log_play C_Log f_Log_play _ := ⟨ok_Log_play T c_check_cell b_check_cell F_Log_play, PySem.W.mg_of X G aC_Log, ⟨pg_Log, hd_Log, po_Log, sa_Log⟩, ⟨mt_Log_play, isf_Log_play, k_Log_play⟩, b_Log_play⟩
  have mk_Log : Maker l.prog w K mg base 3 "Log" P_Log___init__ m_Log___init__ C_Log f_Log___init__ _ := ⟨ok_Log___init__ T c_is_shape b_is_shape Z_BadShape F_Log___init__, ⟨mk_Log, ini_Log, fn_Log, kC_Log⟩, PySem.W.mg_of X G aC_Log, b_Log___init__⟩
  have om_Log_behind : OwnM l.prog w K mg base 6 "Log" "behind" P_Log_behind m_Log_behind C_Log f_Log_behind _ := ⟨ok_Log_behind T c_is_whole b_is_whole Z_BadShares mk_Log om_Log_play F_Log_behind, PySem.W.mg_of X G aC_Log, ⟨pg_Log, hd_Log, po_Log, sa_Log⟩, ⟨mt_Log_behind, isf_Log_behind, k_Log_behind⟩, b_Log_behind⟩
  have c__law_refused : Callee l.prog w K mg base 7 "_law_refused" P__law_refused m__law_refused f__law_refused _ := ⟨ok__law_refused T E_NoCell Z_BadShares Z_BadShape te_NoCell te_BadShares te_BadShape nn_BadShares_NoCell nn_BadShape_NoCell nn_BadShape_BadShares mkP_Log om_Log_play om_Log_behind F__law_refused, PySem.W.mg_of X G a__law_refused, k__law_refused⟩
  have mk_Hint : Maker l.prog w K mg base 4 "Hint" P_Hint___init__ m_Hint___init__ C_Hint f_Hint___init__ _ := ⟨ok_Hint___init__ T c_is_shape b_is_shape c_is_weights b_is_weights c_count_cells b_count_cells c_lowest b_lowest Z_BadShape Z_BadWeights F_Hint___init__, ⟨mk_Hint, ini_Hint, fn_Hint, kC_Hint⟩, PySem.W.mg_of X G aC_Hint, b_Hint___init__⟩
  have om_Log___len__ : OwnM l.prog w K mg base 1 "Log" "__len__" P_Log___len__ m_Log___len__ C_Log f_Log___len__ _ := ⟨ok_Log___len__ T F_Log___len__, PySem.W.mg_of X G aC_Log, ⟨pg_Log, hd_Log, po_Log, sa_Log⟩, ⟨mt_Log___len__, isf_Log___len__, k_Log___len__⟩, b_Log___len__⟩
  have om_Log_hint : OwnM l.prog w K mg base 6 "Log" "hint" P_Log_hint m_Log_hint C_Log f_Log_hint _ := ⟨ok_Log_hint T c_counts b_counts mk_Hint F_Log_hint, PySem.W.mg_of X G aC_Log, ⟨pg_Log, hd_Log, po_Log, sa_Log⟩, ⟨mt_Log_hint, isf_Log_hint, k_Log_hint⟩, b_Log_hint⟩
  have om_Hint___eq__ : OwnM l.prog w K mg base 1 "Hint" "__eq__" P_Hint___eq__ m_Hint___eq__ C_Hint f_Hint___eq__ _ := ⟨ok_Hint___eq__ T gC_Hint ic_Hint F_Hint___eq__, PySem.W.mg_of X G aC_Hint, ⟨pg_Hint, hd_Hint, po_Hint, sa_Hint⟩, ⟨mt_Hint___eq__, isf_Hint___eq__, k_Hint___eq__⟩, b_Hint___eq__⟩
  have om_Hint_weights : OwnM l.prog w K mg base 1 "Hint" "weights" P_Hint_weights m_Hint_weights C_Hint f_Hint_weights _ := ⟨ok_Hint_weights T F_Hint_weights, PySem.W.mg_of X G aC_Hint, ⟨pg_Hint, hd_Hint, po_Hint, sa_Hint⟩, ⟨mt_Hint_weights, isf_Hint_weights, k_Hint_weights⟩, b_Hint_weights⟩
  have c__law_same : Callee l.prog w K mg base 7 "_law_same" P__law_same m__law_same f__law_same _ := ⟨ok__law_same T c__law_cells b__law_cells c__law_least_terms b__law_least_terms mk_Hint om_Log___len__ om_Log_plays om_Log_hint om_Hint___eq__ om_Hint_weights F__law_same, PySem.W.mg_of X G a__law_same, k__law_same⟩
  have c__law_odd_cells : Callee l.prog w K mg base 1 "_law_odd_cells" P__law_odd_cells m__law_odd_cells f__law_odd_cells _ := ⟨ok__law_odd_cells T F__law_odd_cells, PySem.W.mg_of X G a__law_odd_cells, k__law_odd_cells⟩
  have c__law_hints : Callee l.prog w K mg base 7 "_law_hints" P__law_hints m__law_hints f__law_hints _ := ⟨ok__law_hints T om_Log_hint om_Hint_weights F__law_hints, PySem.W.mg_of X G a__law_hints, k__law_hints⟩
  have c__law_kept : Callee l.prog w K mg base 8 "_law_kept" P__law_kept m__law_kept f__law_kept _ := ⟨ok__law_kept T c__law_refused b__law_refused om_Hint_weights om_Log_plays om_Log_behind om_Log_hint F__law_kept, PySem.W.mg_of X G a__law_kept, k__law_kept⟩
  exact law_imp (ok_law T c__law_pool b__law_pool c__law_shape b__law_shape c__law_cells b__law_cells c__law_take b__law_take c__law_odd_cells b__law_odd_cells c__law_refused b__law_refused c__law_same b__law_same c__law_hints b__law_hints c__law_kept b__law_kept mk_Log om_Log_behind om_Log_play F_law) main
theorem walk {l : PySem.W.OpenLaw} {q : Program} {loose : List Str} {XP : (Str → Option Value) → Heap → Prop} {YP : World → Heap → Prop} {d : DefRec} {K : Params → PySem.W.Frag} (hn : l.most = some 63) (hdf : d.params.defaults = [])
    (hY : ∀ (w : World) (h : Heap), YP w h → (K w.params).In h)
    (F : ∀ (w : World) (mg : Str → Option Value) (fa : Addr) (h : Heap), (K w.params).In h → h.Ns mainGlobals mg → mg d.name = some (.ref fa) →
      ∃ fd : FuncData, (∀ (s : Shared) (u : Value), BindsTo s fd ⟨[u], []⟩ [("_law_script", u)]) ∧ ∀ base : Heap, (K w.params).In base → base.Ns mainGlobals mg → FnOk l.prog w (K w.params) mg base (L2N.CX l.prog w) 9 fa fd ["_law_script"] (spLaw (K w.params) 63)) :
    PySem.W.WalkO q loose XP YP l.row.toRowW d [] (fun f vs => PySem.call f vs) :=
  L2.walk_of (n := 63) (k := 9) (x := "_law_script") (CX := fun w => L2N.CX l.prog w) (sp := fun w => spLaw (K w.params) 63) hn (by decide) hdf ⟨rfl, by decide, by decide⟩ hY F
    (fun _ _ a ns hl _ hS => ⟨a, ns, rfl, hS, hl, fun _ => rfl⟩) fun _ _ _ _ _ h => by
      obtain ⟨_, _, _, _, _, _, _, _, _, _, _, _, z⟩ := h
      exact z.elim
end Lw
open PySem PySem.W PyProof.Rows
set_option maxRecDepth 100000 in
set_option maxHeartbeats 0 in
theorem PySem.Challenge.cw_everyhint_k67_logs_of_plays_holds : PySem.Challenge.rw_everyhint_k67_logs_of_plays.Holds := by
   w_on; o_law; k_head; (case hw => w_witness2)
   k_fill
   refine Lw.walk (l := PySem.Challenge.rw_everyhint_k67_logs_of_plays) rfl rfl (fun w h Y => PySem.W.kIn_of Y) ?F
   case F =>
    intro w mg fa h KX G hmg
    refine' Lw.all_mk KX G hmg ?z_list ?z_range ?z_int ?z_len ?z_max ?z_tuple ?z_isinstance ?z_bool ?z_all ?z_enumerate ?z_any ?z_gcd ?z_sum ?z_zip ?z_abs ?z_MOST_CELLS ?z_MOST_MOVES ?z_MOST_PLAYERS ?aC_Log ?pg_Log ?hd_Log ?po_Log ?sa_Log ?nf__plays_Log ?nf_shape_Log ?aC_Hint ?pg_Hint ?hd_Hint ?po_Hint ?sa_Hint ?nf_unit_Hint ?nf__weights_Hint ?nf_shape_Hint ?mk_Log ?ini_Log ?kC_Log ?fn_Log ?mk_Hint ?ini_Hint ?kC_Hint ?fn_Hint ?mkp_Log ?inip_Log ?kCp_Log ?fnp_Log ?mt_Log_plays ?isf_Log_plays ?mt_Log_play ?isf_Log_play ?mt_Log_behind ?isf_Log_behind ?mt_Log___len__ ?isf_Log___len__ ?mt_Log_hint ?isf_Log_hint ?mt_Hint___eq__ ?isf_Hint___eq__ ?mt_Hint_weights ?isf_Hint_weights ?ica_Hint ?icn_Hint ?ict_Hint ?icm_Hint ?jC_Hint ?tC_Hint ?aC_BadShape ?ex_BadShape ?kC_BadShape ?eC_BadShape ?tC_BadShape ?jC_BadShape ?sC_BadShape ?aC_BadShares ?ex_BadShares ?kC_BadShares ?eC_BadShares ?tC_BadShares ?jC_BadShares ?sC_BadShares ?aC_BadWeights ?ex_BadWeights ?kC_BadWeights ?eC_BadWeights ?tC_BadWeights ?aC_NoCell ?xL_NoCell ?sa_NoCell ?ga_NoCell ?gg_NoCell ?nb_NoCell ?iC_NoCell ?tI_NoCell ?lI_NoCell ?cI_NoCell ?kI_NoCell ?kC_NoCell ?eC_NoCell ?tC_NoCell ?hC_NoCell ?jC_NoCell ?sC_NoCell ?ns_BadShares_NoCell ?ns_BadShape_NoCell ?ns_BadShape_BadShares ?a_is_whole ?l_is_whole ?c_is_whole ?k_is_whole ?a_is_list ?l_is_list ?c_is_list ?k_is_list ?a_is_row ?l_is_row ?c_is_row ?k_is_row ?a_is_weights ?l_is_weights ?c_is_weights ?k_is_weights ?a_count_cells ?l_count_cells ?c_count_cells ?k_count_cells ?a_is_shape ?l_is_shape ?c_is_shape ?k_is_shape ?a_is_move ?l_is_move ?c_is_move ?k_is_move ?a_is_cell ?l_is_cell ?c_is_cell ?k_is_cell ?a_check_cell ?l_check_cell ?c_check_cell ?k_check_cell ?a_place ?l_place ?c_place ?k_place ?a_lowest ?l_lowest ?c_lowest ?k_lowest ?l_Log_plays ?c_Log_plays ?k_Log_plays ?a_counts ?l_counts ?c_counts ?k_counts ?a__law_pool ?l__law_pool ?c__law_pool ?k__law_pool ?a__law_take ?l__law_take ?c__law_take ?k__law_take ?a__law_divisor ?l__law_divisor ?c__law_divisor ?k__law_divisor ?a__law_size ?l__law_size ?c__law_size ?k__law_size ?a__law_shapes ?l__law_shapes ?c__law_shapes ?k__law_shapes ?a__law_shape ?l__law_shape ?c__law_shape ?k__law_shape ?a__law_cells ?l__law_cells ?c__law_cells ?k__law_cells ?a__law_least_terms ?l__law_least_terms ?c__law_least_terms ?k__law_least_terms ?l_Log___init__P ?c_Log___init__P ?k_Log___init__P ?l_Log_play ?c_Log_play ?k_Log_play ?l_Log___init__ ?c_Log___init__ ?k_Log___init__ ?l_Log_behind ?c_Log_behind ?k_Log_behind ?a__law_refused ?l__law_refused ?c__law_refused ?k__law_refused ?l_Hint___init__ ?c_Hint___init__ ?k_Hint___init__ ?l_Log___len__ ?c_Log___len__ ?k_Log___len__ ?l_Log_hint ?c_Log_hint ?k_Log_hint ?l_Hint___eq__ ?c_Hint___eq__ ?k_Hint___eq__ ?l_Hint_weights ?c_Hint_weights ?k_Hint_weights ?a__law_same ?l__law_same ?c__law_same ?k__law_same ?a__law_odd_cells ?l__law_odd_cells ?c__law_odd_cells ?k__law_odd_cells ?a__law_hints ?l__law_hints ?c__law_hints ?k__law_hints ?a__law_kept ?l__law_kept ?c__law_kept ?k__law_kept ?a_law ?l_law ?c_law ?k_law
    (case z_list => k_is)
    (case z_range => k_is)
    (case z_int => k_is)
    (case z_len => k_is)
    (case z_max => k_is)
    (case z_tuple => k_is)
    (case z_isinstance => k_is)
    (case z_bool => k_is)
    (case z_all => k_is)
    (case z_enumerate => k_is)
    (case z_any => k_is)
    (case z_gcd => k_is)
    (case z_sum => k_is)
    (case z_zip => k_is)
    (case z_abs => k_is)
    (case z_MOST_CELLS => k_is)
    (case z_MOST_MOVES => k_is)
    (case z_MOST_PLAYERS => k_is)
    (case aC_Log => k_is)
    (case pg_Log => k_is)
    (case hd_Log => k_is)
    (case po_Log => k_is)
    (case sa_Log => k_is)
    (case nf__plays_Log => k_is)
    (case nf_shape_Log => k_is)
    (case aC_Hint => k_is)
    (case pg_Hint => k_is)
    (case hd_Hint => k_is)
    (case po_Hint => k_is)
    (case sa_Hint => k_is)
    (case nf_unit_Hint => k_is)
    (case nf__weights_Hint => k_is)
    (case nf_shape_Hint => k_is)
    (case mk_Log => k_is)
    (case ini_Log => k_is)
    (case kC_Log => k_is)
    (case fn_Log => k_is)
    (case mk_Hint => k_is)
    (case ini_Hint => k_is)
    (case kC_Hint => k_is)
    (case fn_Hint => k_is)
    (case mkp_Log => k_is)
    (case inip_Log => k_is)
    (case kCp_Log => k_is)
    (case fnp_Log => k_is)
    (case mt_Log_plays => k_is)
    (case isf_Log_plays => k_is)
    (case mt_Log_play => k_is)
    (case isf_Log_play => k_is)
    (case mt_Log_behind => k_is)
    (case isf_Log_behind => k_is)
    (case mt_Log___len__ => k_is)
    (case isf_Log___len__ => k_is)
    (case mt_Log_hint => k_is)
    (case isf_Log_hint => k_is)
    (case mt_Hint___eq__ => k_is)
    (case isf_Hint___eq__ => k_is)
    (case mt_Hint_weights => k_is)
    (case isf_Hint_weights => k_is)
    (case ica_Hint => k_is)
    (case icn_Hint => k_is)
    (case ict_Hint => k_is)
    (case icm_Hint => k_is)
    (case jC_Hint => k_is)
    (case tC_Hint => k_is)
    (case aC_BadShape => k_is)
    (case ex_BadShape => k_exc)
    (case kC_BadShape => k_is)
    (case eC_BadShape => k_is)
    (case tC_BadShape => k_is)
    (case jC_BadShape => k_is)
    (case sC_BadShape => first | rfl | k_is)
    (case aC_BadShares => k_is)
    (case ex_BadShares => k_exc)
    (case kC_BadShares => k_is)
    (case eC_BadShares => k_is)
    (case tC_BadShares => k_is)
    (case jC_BadShares => k_is)
    (case sC_BadShares => first | rfl | k_is)
    (case aC_BadWeights => k_is)
    (case ex_BadWeights => k_exc)
    (case kC_BadWeights => k_is)
    (case eC_BadWeights => k_is)
    (case tC_BadWeights => k_is)
    (case aC_NoCell => k_is)
    (case xL_NoCell => k_is)
    (case sa_NoCell => k_is)
    (case ga_NoCell => k_is)
    (case gg_NoCell => k_is)
    (case nb_NoCell => k_is)
    (case iC_NoCell => k_is)
    (case tI_NoCell => k_is)
    (case lI_NoCell => k_is)
    (case cI_NoCell => k_is)
    (case kI_NoCell => k_is)
    (case kC_NoCell => k_is)
    (case eC_NoCell => k_is)
    (case tC_NoCell => k_is)
    (case hC_NoCell => k_is)
    (case jC_NoCell => k_is)
    (case sC_NoCell => first | rfl | k_is)
    (case ns_BadShares_NoCell => k_is)
    (case ns_BadShape_NoCell => k_is)
    (case ns_BadShape_BadShares => k_is)
    (case a_is_whole => k_is)
    (case l_is_whole => k_is)
    (case c_is_whole => k_is)
    (case k_is_whole => k_is)
    (case a_is_list => k_is)
    (case l_is_list => k_is)
    (case c_is_list => k_is)
    (case k_is_list => k_is)
    (case a_is_row => k_is)
    (case l_is_row => k_is)
    (case c_is_row => k_is)
    (case k_is_row => k_is)
    (case a_is_weights => k_is)
    (case l_is_weights => k_is)
    (case c_is_weights => k_is)
    (case k_is_weights => k_is)
    (case a_count_cells => k_is)
    (case l_count_cells => k_is)
    (case c_count_cells => k_is)
    (case k_count_cells => k_is)
    (case a_is_shape => k_is)
    (case l_is_shape => k_is)
    (case c_is_shape => k_is)
    (case k_is_shape => k_is)
    (case a_is_move => k_is)
    (case l_is_move => k_is)
    (case c_is_move => k_is)
    (case k_is_move => k_is)
    (case a_is_cell => k_is)
    (case l_is_cell => k_is)
    (case c_is_cell => k_is)
    (case k_is_cell => k_is)
    (case a_check_cell => k_is)
    (case l_check_cell => k_is)
    (case c_check_cell => k_is)
    (case k_check_cell => k_is)
    (case a_place => k_is)
    (case l_place => k_is)
    (case c_place => k_is)
    (case k_place => k_is)
    (case a_lowest => k_is)
    (case l_lowest => k_is)
    (case c_lowest => k_is)
    (case k_lowest => k_is)
    (case l_Log_plays => k_is)
    (case c_Log_plays => k_is)
    (case k_Log_plays => k_is)
    (case a_counts => k_is)
    (case l_counts => k_is)
    (case c_counts => k_is)
    (case k_counts => k_is)
    (case a__law_pool => k_is)
    (case l__law_pool => k_is)
    (case c__law_pool => k_is)
    (case k__law_pool => k_is)
    (case a__law_take => k_is)
    (case l__law_take => k_is)
    (case c__law_take => k_is)
    (case k__law_take => k_is)
    (case a__law_divisor => k_is)
    (case l__law_divisor => k_is)
    (case c__law_divisor => k_is)
    (case k__law_divisor => k_is)
    (case a__law_size => k_is)
    (case l__law_size => k_is)
    (case c__law_size => k_is)
    (case k__law_size => k_is)
    (case a__law_shapes => k_is)
    (case l__law_shapes => k_is)
    (case c__law_shapes => k_is)
    (case k__law_shapes => k_is)
    (case a__law_shape => k_is)
    (case l__law_shape => k_is)
    (case c__law_shape => k_is)
    (case k__law_shape => k_is)
    (case a__law_cells => k_is)
    (case l__law_cells => k_is)
    (case c__law_cells => k_is)
    (case k__law_cells => k_is)
    (case a__law_least_terms => k_is)
    (case l__law_least_terms => k_is)
    (case c__law_least_terms => k_is)
    (case k__law_least_terms => k_is)
    (case l_Log___init__P => k_is)
    (case c_Log___init__P => k_is)
    (case k_Log___init__P => k_is)
    (case l_Log_play => k_is)
    (case c_Log_play => k_is)
    (case k_Log_play => k_is)
    (case l_Log___init__ => k_is)
    (case c_Log___init__ => k_is)
    (case k_Log___init__ => k_is)
    (case l_Log_behind => k_is)
    (case c_Log_behind => k_is)
    (case k_Log_behind => k_is)
    (case a__law_refused => k_is)
    (case l__law_refused => k_is)
    (case c__law_refused => k_is)
    (case k__law_refused => k_is)
    (case l_Hint___init__ => k_is)
    (case c_Hint___init__ => k_is)
    (case k_Hint___init__ => k_is)
    (case l_Log___len__ => k_is)
    (case c_Log___len__ => k_is)
    (case k_Log___len__ => k_is)
    (case l_Log_hint => k_is)
    (case c_Log_hint => k_is)
    (case k_Log_hint => k_is)
    (case l_Hint___eq__ => k_is)
    (case c_Hint___eq__ => k_is)
    (case k_Hint___eq__ => k_is)
    (case l_Hint_weights => k_is)
    (case c_Hint_weights => k_is)
    (case k_Hint_weights => k_is)
    (case a__law_same => k_is)
    (case l__law_same => k_is)
    (case c__law_same => k_is)
    (case k__law_same => k_is)
    (case a__law_odd_cells => k_is)
    (case l__law_odd_cells => k_is)
    (case c__law_odd_cells => k_is)
    (case k__law_odd_cells => k_is)
    (case a__law_hints => k_is)
    (case l__law_hints => k_is)
    (case c__law_hints => k_is)
    (case k__law_hints => k_is)
    (case a__law_kept => k_is)
    (case l__law_kept => k_is)
    (case c__law_kept => k_is)
    (case k__law_kept => k_is)
    (case a_law => k_is)
    (case l_law => k_is)
    (case c_law => k_is)
    (case k_law => k_is)
