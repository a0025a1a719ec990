import PyProof.Rows.All
import Wide.All
import OpenK.AllK
import Wide.FinOn
import HandS.ForMost
import HandS.ForExc
import HandS.TryMany
import HandS.Deep
import HandS.Wide
import HandS.Evl
import HandS.IsInst
import HandS.FStr
import HandS.Dict
import HandS.ExcIs
import HandS.RaiseMore
import HandS.ExcCtx
import HandS.HotCalls
import HandS.Flt
import HandS.Comp
import PySem.Challenge.RW_callsmith_k02_trees_within
section
set_option Elab.async false
set_option linter.all false
set_option maxRecDepth 100000
set_option maxHeartbeats 2000000
/-! # Values without a heap: what a def of the text computes, told by a small language of our own -/
namespace PVL
open PySem L2

/-- a cell of the shared store: a list, a dict, an instance -/
inductive Cell where
  | lst (l : List PyData)
  | dct (l : List (Key × PyData))
  | ins (c : Nat) (fs : List (Str × PyData))
abbrev Store := List Cell
/-- a slot of a frame: not known, a value, a list that this frame alone holds -/
inductive SV where
  | un
  | pv (d : PyData)
  | ow (l : List PyData)
abbrev loc (n : Nat) : PyData := .dict [(.int n, .none)]

/-! ## what a value of the layer stands for -/
mutual
inductive Rep (K : PySem.W.Frag) (F : Hp) (ι : List Addr) : V → PyData → Prop
  | non : Rep K F ι .non .none
  | bl (b : Bool) : Rep K F ι (.bl b) (.bool b)
  | int (i : Int) : Rep K F ι (.int i) (.int i)
  | str (x : Str) : Rep K F ι (.str x) (.str x)
  | lst {a : Addr} {xs : List V} {ds : List PyData} : SqL K F a xs → RepL K F ι xs ds → Rep K F ι (.ref a) (.list ds)
  | tup {a : Addr} {xs : List V} {ds : List PyData} : SqT K F a xs → RepL K F ι xs ds → Rep K F ι (.ref a) (.tuple ds)
  | loc {a : Addr} {n : Nat} : ι[n]? = some a → Rep K F ι (.ref a) (.dict [(.int n, .none)])
inductive RepL (K : PySem.W.Frag) (F : Hp) (ι : List Addr) : List V → List PyData → Prop
  | nil : RepL K F ι [] []
  | cons {v : V} {vs : List V} {d : PyData} {ds : List PyData} : Rep K F ι v d → RepL K F ι vs ds → RepL K F ι (v :: vs) (d :: ds)
end
abbrev Sub (F H : Hp) : Prop := Evl.Ex F H
theorem Sub.rfl' {F : Hp} : Sub F F := fun _ _ h => h
theorem pre_get {ι ι' : List Addr} (p : ι <+: ι') {n : Nat} {a : Addr} (h : ι[n]? = some a) : ι'[n]? = some a := by
  obtain ⟨t, rfl⟩ := p
  obtain ⟨hn, _⟩ := List.getElem?_eq_some_iff.mp h
  rw [List.getElem?_append_left hn]
  exact h
section
variable {K : PySem.W.Frag} {F F' : Hp} {ι ι' : List Addr}
mutual
theorem Rep.mono (e : Sub F F') (p : ι <+: ι') : ∀ (d : PyData) (v : V), Rep K F ι v d → Rep K F' ι' v d
  | .none, _, h => by cases h; exact .non
  | .bool _, _, h => by cases h; exact .bl _
  | .int _, _, h => by cases h; exact .int _
  | .str _, _, h => by cases h; exact .str _
  | .list ds, _, h => by
    cases h with
    | lst hs hl => exact .lst (Evl.ex_l e hs) (RepL.mono e p ds _ hl)
  | .tuple ds, _, h => by
    cases h with
    | tup hs hl => exact .tup (Evl.ex_t e hs) (RepL.mono e p ds _ hl)
  | .dict _, _, h => by
    cases h with
    | loc hn => exact .loc (pre_get p hn)
theorem RepL.mono (e : Sub F F') (p : ι <+: ι') : ∀ (ds : List PyData) (vs : List V), RepL K F ι vs ds → RepL K F' ι' vs ds
  | [], _, h => by cases h; exact .nil
  | d :: ds, _, h => by
    cases h with
    | cons h1 h2 => exact .cons (Rep.mono e p d _ h1) (RepL.mono e p ds _ h2)
end
mutual
theorem Rep.dp : ∀ (d : PyData) (v : V), d.canLay0 = true → Rep K F ι v d → Dp K F v d
  | .none, _, _, h => by cases h; exact .non
  | .bool _, _, _, h => by cases h; exact .bl _
  | .int _, _, _, h => by cases h; exact .int _
  | .str _, _, _, h => by cases h; exact .str _
  | .list ds, _, c, h => by
    cases h with
    | lst hs hl => exact .lst hs (RepL.dp ds _ (by simpa [PyData.canLay0] using c) hl)
  | .tuple ds, _, c, h => by
    cases h with
    | tup hs hl => exact .tup hs (RepL.dp ds _ (by simpa [PyData.canLay0] using c) hl)
  | .dict _, _, c, h => by simp [PyData.canLay0] at c
theorem RepL.dp : ∀ (ds : List PyData) (vs : List V), PyData.canLayAll0 ds = true → RepL K F ι vs ds → DpAll K F vs ds
  | [], _, _, h => by cases h; exact .nil
  | d :: ds, _, c, h => by
    cases h with
    | cons h1 h2 =>
      simp only [PyData.canLayAll0, Bool.and_eq_true] at c
      exact .cons (Rep.dp d _ c.1 h1) (RepL.dp ds _ c.2 h2)
end
mutual
theorem dp_mono (e : Sub F F') : ∀ (d : PyData) (v : V), Dp K F v d → Dp K F' v d
  | .none, _, h => by cases h; exact .non
  | .bool _, _, h => by cases h; exact .bl _
  | .int _, _, h => by cases h; exact .int _
  | .str _, _, h => by cases h; exact .str _
  | .list ds, _, h => by
    cases h with
    | lst hs hl => exact .lst (Evl.ex_l e hs) (dpAll_mono e ds _ hl)
  | .tuple ds, _, h => by
    cases h with
    | tup hs hl => exact .tup (Evl.ex_t e hs) (dpAll_mono e ds _ hl)
  | .dict _, _, h => by cases h
theorem dpAll_mono (e : Sub F F') : ∀ (ds : List PyData) (vs : List V), DpAll K F vs ds → DpAll K F' vs ds
  | [], _, h => by cases h; exact .nil
  | d :: ds, _, h => by
    cases h with
    | cons h1 h2 => exact .cons (dp_mono e d _ h1) (dpAll_mono e ds _ h2)
end
theorem RepL.length : ∀ {vs : List V} {ds : List PyData}, RepL K F ι vs ds → vs.length = ds.length
  | [], [], _ => rfl
  | _ :: _, _ :: _, h => by
    cases h with
    | cons _ h2 => simp [RepL.length h2]
  | [], _ :: _, h => by cases h
  | _ :: _, [], h => by cases h
theorem RepL.get : ∀ {vs : List V} {ds : List PyData} {i : Nat} {d : PyData}, RepL K F ι vs ds → ds[i]? = some d → ∃ v, vs[i]? = some v ∧ Rep K F ι v d
  | _ :: _, _ :: _, 0, d, h, e => by
    cases h with
    | cons h1 h2 =>
      simp at e
      subst e
      exact ⟨_, by simp, h1⟩
  | v :: vs, _ :: ds, i + 1, d, h, e => by
    cases h with
    | cons h1 h2 =>
      obtain ⟨u, a, b⟩ := RepL.get (i := i) (d := d) h2 (by simpa using e)
      exact ⟨u, by simpa using a, b⟩
  | [], [], _, _, _, e => by simp at e
  | [], _ :: _, _, _, h, _ => by cases h
  | _ :: _, [], _, _, h, _ => by cases h
theorem RepL.append : ∀ {vs ws : List V} {ds es : List PyData}, RepL K F ι vs ds → RepL K F ι ws es → RepL K F ι (vs ++ ws) (ds ++ es)
  | [], _, [], _, _, h => h
  | _ :: _, _, _ :: _, _, h, h' => by
    cases h with
    | cons h1 h2 => exact .cons h1 (RepL.append h2 h')
  | [], _, _ :: _, _, h, _ => by cases h
  | _ :: _, _, [], _, h, _ => by cases h
theorem RepL.drop : ∀ {vs : List V} {ds : List PyData} (n : Nat), RepL K F ι vs ds → RepL K F ι (vs.drop n) (ds.drop n)
  | _, _, 0, h => h
  | [], [], _ + 1, h => h
  | _ :: _, _ :: _, n + 1, h => by
    cases h with
    | cons _ h2 => exact RepL.drop n h2
  | [], _ :: _, _ + 1, h => by cases h
  | _ :: _, [], _ + 1, h => by cases h
theorem RepL.take : ∀ {vs : List V} {ds : List PyData} (n : Nat), RepL K F ι vs ds → RepL K F ι (vs.take n) (ds.take n)
  | _, _, 0, h => .nil
  | [], [], _ + 1, h => h
  | _ :: _, _ :: _, n + 1, h => by
    cases h with
    | cons h1 h2 => exact .cons h1 (RepL.take n h2)
  | [], _ :: _, _ + 1, h => by cases h
  | _ :: _, [], _ + 1, h => by cases h
theorem RepL.set : ∀ {vs : List V} {ds : List PyData} {v : V} {d : PyData} (n : Nat), RepL K F ι vs ds → Rep K F ι v d → RepL K F ι (vs.set n v) (ds.set n d)
  | [], [], _, _, _, h, _ => h
  | _ :: _, _ :: _, _, _, 0, h, r => by
    cases h with
    | cons _ h2 => exact .cons r h2
  | _ :: _, _ :: _, _, _, n + 1, h, r => by
    cases h with
    | cons h1 h2 => exact .cons h1 (RepL.set n h2 r)
  | [], _ :: _, _, _, _, h, _ => by cases h
  | _ :: _, [], _, _, _, h, _ => by cases h
end

/-! ## worlds -/
/-- F: what never changes; ι: where the store's cells stand; μ: the store -/
structure Wd where
  F : Hp
  ι : List Addr
  μ : Store
def CellAt (K : PySem.W.Frag) (cl : Nat → Addr) (F : Hp) (ι : List Addr) (H : Hp) (a : Addr) : Cell → Prop
  | .lst l => ∃ vs, H a = some (.lst vs) ∧ RepL K F ι vs l
  | .dct l => ∃ kvs, H a = some (.dK kvs) ∧ kvs.map (·.1) = l.map (·.1) ∧ RepL K F ι (kvs.map (·.2)) (l.map (·.2))
  | .ins c fs => ∃ dx l, H a = some (.ins (cl c) dx l) ∧ l.map (·.1) = fs.map (·.1) ∧ RepL K F ι (l.map (·.2)) (fs.map (·.2))
structure WOk (K : PySem.W.Frag) (cl : Nat → Addr) (W : Wd) (H : Hp) : Prop where
  fh : Sub W.F H
  iu : W.ι.Nodup
  len : W.ι.length = W.μ.length
  cells : ∀ (n : Nat) (c : Cell) (a : Addr), W.μ[n]? = some c → W.ι[n]? = some a → CellAt K cl W.F W.ι H a c
  ap : ∀ a, a ∈ W.ι → W.F a = none
/-- from one state to a later one -/
structure Go (W : Wd) (H : Hp) (W' : Wd) (H' : Hp) : Prop where
  f : Sub W.F W'.F
  fn : ∀ b, H b ≠ none → W.F b = none → W'.F b = none
  i : W.ι <+: W'.ι
  inew : ∀ a, a ∈ W'.ι → H a ≠ none → a ∈ W.ι
  keep : ∀ b o, H b = some o → b ∉ W.ι → H' b = some o
  there : ∀ b, H b ≠ none → H' b ≠ none
theorem Go.refl (W : Wd) (H : Hp) : Go W H W H := ⟨fun _ _ h => h, fun _ _ h => h, List.prefix_refl _, fun _ h _ => h, fun _ _ h _ => h, fun _ h => h⟩
theorem Go.trans {W W1 W2 : Wd} {H H1 H2 : Hp} (a : Go W H W1 H1) (b : Go W1 H1 W2 H2) : Go W H W2 H2 where
  f := Evl.Ex.trans a.f b.f
  fn := fun c h n => b.fn c (a.there c h) (a.fn c h n)
  i := a.i.trans b.i
  inew := fun c m h => a.inew c (b.inew c m (a.there c h)) h
  keep := fun c o h m => b.keep c o (a.keep c o h m) (fun z => m (a.inew c z (by rw [h]; simp)))
  there := fun c h => b.there c (a.there c h)
theorem Go.rep {K : PySem.W.Frag} {W W' : Wd} {H H' : Hp} {v : V} {d : PyData} (g : Go W H W' H') (r : Rep K W.F W.ι v d) : Rep K W'.F W'.ι v d := Rep.mono g.f g.i d v r
theorem Go.repL {K : PySem.W.Frag} {W W' : Wd} {H H' : Hp} {v : List V} {d : List PyData} (g : Go W H W' H') (r : RepL K W.F W.ι v d) : RepL K W'.F W'.ι v d := RepL.mono g.f g.i d v r

/-! ## frames -/
def SlotAt (K : PySem.W.Frag) (H0 : Hp) (W : Wd) (H : Hp) (o : Option (Option V)) : SV → Prop
  | .un => True
  | .pv d => ∃ v, o = some (some v) ∧ Rep K W.F W.ι v d
  | .ow l => ∃ a vs, o = some (some (.ref a)) ∧ H0 a = none ∧ W.F a = none ∧ a ∉ W.ι ∧ H a = some (.lst vs) ∧ RepL K W.F W.ι vs l
structure EnvOk (K : PySem.W.Frag) (H0 : Hp) (W : Wd) (H : Hp) (env : List SV) (σ : L2.St) : Prop where
  len : σ.length = env.length
  slots : ∀ (i : Nat) (s : SV), env[i]? = some s → SlotAt K H0 W H σ[i]? s
  apart : ∀ (i j : Nat) (l l' : List PyData), i ≠ j → env[i]? = some (.ow l) → env[j]? = some (.ow l') → σ[i]? ≠ σ[j]?
theorem SlotAt.go {K : PySem.W.Frag} {H0 H H' : Hp} {W W' : Wd} {o : Option (Option V)} (g : Go W H W' H') : ∀ {s : SV}, SlotAt K H0 W H o s → SlotAt K H0 W' H' o s
  | .un, _ => trivial
  | .pv d, ⟨v, e, r⟩ => ⟨v, e, g.rep r⟩
  | .ow l, ⟨a, vs, e, h0, hf, hi, hh, r⟩ => ⟨a, vs, e, h0, g.fn a (by rw [hh]; simp) hf, fun z => hi (g.inew a z (by rw [hh]; simp)), g.keep a _ hh hi, g.repL r⟩
theorem EnvOk.go {K : PySem.W.Frag} {H0 H H' : Hp} {W W' : Wd} {env : List SV} {σ : L2.St} (g : Go W H W' H') (h : EnvOk K H0 W H env σ) : EnvOk K H0 W' H' env σ :=
  ⟨h.len, fun i s e => (h.slots i s e).go g, h.apart⟩
end PVL
end

section
set_option Elab.async false
set_option linter.all false
set_option maxRecDepth 100000
set_option maxHeartbeats 2000000
namespace PVL
open PySem PySem.Spec PyProof.Rows L2

/-! ## operations on values -/
inductive BOp where | add | sub | mul | fdiv | mod | pow
inductive COp where | eq | ne | lt | le | gt | ge | isin | notin
def big : Int := 18446744073709551616
def lim : Nat := 1000000
theorem lim_le {n : Nat} (h : n ≤ lim) : n ≤ sizeLine := Nat.le_trans h (by rw [sizeLine_eq]; decide)
def binP : BOp → PyData → PyData → Option PyData
  | .add, .int i, .int j => some (.int (i + j))
  | .add, .str x, .str y => if x.length + y.length ≤ lim then some (.str (x ++ y)) else none
  | .add, .list x, .list y => if x.length + y.length ≤ lim then some (.list (x ++ y)) else none
  | .add, .tuple (a :: x), .tuple y => if x.length + 1 + y.length ≤ lim then some (.tuple (a :: x ++ y)) else none
  | .sub, .int i, .int j => some (.int (i - j))
  | .mul, .int i, .int j => if (-big < i ∧ i < big) ∨ (-big < j ∧ j < big) then some (.int (i * j)) else none
  | .fdiv, .int i, .int j => if 0 < j ∧ j < big then some (.int (i / j)) else if j < 0 ∧ -big < j then some (.int (i.fdiv j)) else none
  | .mod, .int i, .int j => if 0 < j then some (.int (i % j)) else none
  | .pow, .int i, .int j => if 0 ≤ j ∧ j ≤ 64 ∧ i.natAbs < 1000 then some (.int (i ^ j.toNat)) else none
  | _, _, _ => none
def eqP : PyData → PyData → Option Bool
  | .int i, .int j => some (i == j)
  | .str x, .str y => some (x == y)
  | .int _, .str _ => some false
  | .str _, .int _ => some false
  | .none, .none => some true
  | .none, .int _ => some false
  | .int _, .none => some false
  | .none, .str _ => some false
  | .str _, .none => some false
  | .none, .bool _ => some false
  | .bool _, .none => some false
  | .bool a, .bool b => some (a == b)
  | .bool _, .str _ => some false
  | .str _, .bool _ => some false
  | d, e => if SeqAt.shaped d && SeqAt.shaped e then some (PyData.eqv d e) else none
def cmpP : COp → PyData → PyData → Option PyData
  | .eq, d, e => (eqP d e).map .bool
  | .ne, d, e => (eqP d e).map fun b => .bool (!b)
  | .lt, .int i, .int j => some (.bool (decide (i < j)))
  | .le, .int i, .int j => some (.bool (decide (i ≤ j)))
  | .gt, .int i, .int j => some (.bool (decide (j < i)))
  | .ge, .int i, .int j => some (.bool (decide (j ≤ i)))
  | .isin, d, .list ds => if SeqAt.shaped d && SeqAt.shaped (.list ds) then some (.bool (ds.any fun z => PyData.eqv z d)) else none
  | .notin, d, .list ds => if SeqAt.shaped d && SeqAt.shaped (.list ds) then some (.bool (!ds.any fun z => PyData.eqv z d)) else none
  | _, _, _ => none

section
variable {K : PySem.W.Frag} {cl : Nat → Addr}
/-- a value that may be a frame's own list -/
def RepB (K : PySem.W.Frag) (W : Wd) (H : Hp) (v : V) (d : PyData) : Prop :=
  Rep K W.F W.ι v d ∨ ∃ a vs l, v = .ref a ∧ d = .list l ∧ a ∉ W.ι ∧ H a = some (.lst vs) ∧ RepL K W.F W.ι vs l
theorem RepB.go {W W' : Wd} {H H' : Hp} {v : V} {d : PyData} (g : Go W H W' H') : RepB K W H v d → RepB K W' H' v d
  | .inl r => .inl (g.rep r)
  | .inr ⟨a, vs, l, e1, e2, h1, h2, r⟩ => .inr ⟨a, vs, l, e1, e2, fun z => h1 (g.inew a z (by rw [h2]; simp)), g.keep a _ h2 h1, g.repL r⟩
variable {W : Wd} {H : Hp} {v : V}
theorem RepB.int (h : RepB K W H v (.int i)) : v = .int i := by
  rcases h with h | ⟨_, _, _, _, e, _⟩
  · cases h; rfl
  · cases e
theorem RepB.str (h : RepB K W H v (.str i)) : v = .str i := by
  rcases h with h | ⟨_, _, _, _, e, _⟩
  · cases h; rfl
  · cases e
theorem RepB.bl (h : RepB K W H v (.bool i)) : v = .bl i := by
  rcases h with h | ⟨_, _, _, _, e, _⟩
  · cases h; rfl
  · cases e
theorem RepB.non (h : RepB K W H v .none) : v = .non := by
  rcases h with h | ⟨_, _, _, _, e, _⟩
  · cases h; rfl
  · cases e
theorem RepB.lst {ds : List PyData} (ok : WOk K cl W H) (h : RepB K W H v (.list ds)) : ∃ a vs, v = .ref a ∧ SqL K H a vs ∧ RepL K W.F W.ι vs ds := by
  rcases h with h | ⟨a, vs, l, e1, e2, _, h2, r⟩
  · cases h with
    | lst hs hl => exact ⟨_, _, rfl, Evl.ex_l ok.fh hs, hl⟩
  · cases e2
    exact ⟨a, vs, e1, SqL.of h2, r⟩
theorem RepB.tup {ds : List PyData} (ok : WOk K cl W H) (h : RepB K W H v (.tuple ds)) : ∃ a vs, v = .ref a ∧ SqT K H a vs ∧ RepL K W.F W.ι vs ds := by
  rcases h with h | ⟨_, _, _, _, e, _⟩
  · cases h with
    | tup hs hl => exact ⟨_, _, rfl, Evl.ex_t ok.fh hs, hl⟩
  · cases e
theorem RepB.dp {d : PyData} (ok : WOk K cl W H) (c : d.canLay0 = true) (h : RepB K W H v d) : Dp K H v d := by
  rcases h with h | ⟨a, vs, l, e1, e2, _, h2, r⟩
  · exact dp_mono ok.fh d v (Rep.dp d v c h)
  · subst e1 e2
    exact .lst (SqL.of h2) (dpAll_mono ok.fh _ _ (RepL.dp _ _ (by simpa [PyData.canLay0] using c) r))
end

/-- the end of an operation: the store stays, a value comes -/
def PostB (K : PySem.W.Frag) (cl : Nat → Addr) (W : Wd) (H : Hp) (d : PyData) (Q : VK) : Prop :=
  ∀ v W' H', W'.μ = W.μ → WOk K cl W' H' → Go W H W' H' → Rep K W'.F W'.ι v d → Q v H'
/-- a new list -/
def PostN (K : PySem.W.Frag) (cl : Nat → Addr) (W : Wd) (H : Hp) (l : List PyData) (Q : VK) : Prop :=
  ∀ p vs H', WOk K cl W H' → Go W H W H' → H p = none → W.F p = none → p ∉ W.ι → H' p = some (.lst vs) → RepL K W.F W.ι vs l → Q (.ref p) H'

section
variable {K : PySem.W.Frag} {cl : Nat → Addr} {W : Wd} {H : Hp}
theorem CellAt.upd {F : Hp} {ι : List Addr} {a p : Addr} {o : HO} {c : Cell} (hp : H p = none) (h : CellAt K cl F ι H a c) : CellAt K cl F ι (upd H p o) a c := by
  cases c with
  | lst l =>
    obtain ⟨vs, e, r⟩ := h
    exact ⟨vs, by rw [upd_ne (ne_of_none e hp)]; exact e, r⟩
  | dct l =>
    obtain ⟨kvs, e, r⟩ := h
    exact ⟨kvs, by rw [upd_ne (ne_of_none e hp)]; exact e, r⟩
  | ins c fs =>
    obtain ⟨dx, l, e, r⟩ := h
    exact ⟨dx, l, by rw [upd_ne (ne_of_none e hp)]; exact e, r⟩
theorem CellAt.there {F : Hp} {ι : List Addr} {a : Addr} {c : Cell} (h : CellAt K cl F ι H a c) : H a ≠ none := by
  cases c with
  | lst l => obtain ⟨vs, e, r⟩ := h; rw [e]; simp
  | dct l => obtain ⟨vs, e, r⟩ := h; rw [e]; simp
  | ins c fs => obtain ⟨dx, l, e, r⟩ := h; rw [e]; simp
theorem WOk.there (ok : WOk K cl W H) {a : Addr} (h : a ∈ W.ι) : H a ≠ none := by
  obtain ⟨n, hn, e⟩ := List.getElem_of_mem h
  have h2 : n < W.μ.length := by rw [← ok.len]; exact hn
  exact (ok.cells n W.μ[n] a (by simp [h2]) (by rw [List.getElem?_eq_getElem hn, e])).there
theorem WOk.fnone (ok : WOk K cl W H) {p : Addr} (hp : H p = none) : W.F p = none := by
  cases e : W.F p with
  | none => rfl
  | some o => rw [ok.fh p o e] at hp; cases hp
theorem WOk.notIn (ok : WOk K cl W H) {p : Addr} (hp : H p = none) : p ∉ W.ι := fun h => ok.there h hp
/-- a new object, not told of -/
theorem WOk.new (ok : WOk K cl W H) {p : Addr} {o : HO} (hp : H p = none) : WOk K cl W (upd H p o) :=
  ⟨fun b u e => by rw [upd_ne (ne_of_none (ok.fh b u e) hp)]; exact ok.fh b u e, ok.iu, ok.len, fun n c a e1 e2 => (ok.cells n c a e1 e2).upd hp, ok.ap⟩
theorem Go.new {p : Addr} {o : HO} (hp : H p = none) : Go W H W (upd H p o) :=
  ⟨fun _ _ h => h, fun _ _ h => h, List.prefix_refl _, fun _ h _ => h, fun b u e _ => by rw [upd_ne (ne_of_none e hp)]; exact e, fun b h => by
    cases e : H b with
    | none => exact absurd e h
    | some u => rw [upd_ne (ne_of_none e hp), e]; simp⟩
theorem CellAt.sub {F F' : Hp} {ι : List Addr} {a : Addr} {c : Cell} (s : Sub F F') (h : CellAt K cl F ι H a c) : CellAt K cl F' ι H a c := by
  cases c with
  | lst l =>
    obtain ⟨vs, e, r⟩ := h
    exact ⟨vs, e, RepL.mono s (List.prefix_refl _) _ _ r⟩
  | dct l =>
    obtain ⟨kvs, e, e2, r⟩ := h
    exact ⟨kvs, e, e2, RepL.mono s (List.prefix_refl _) _ _ r⟩
  | ins c fs =>
    obtain ⟨dx, l, e, e2, r⟩ := h
    exact ⟨dx, l, e, e2, RepL.mono s (List.prefix_refl _) _ _ r⟩
/-- an object of the heap, not a cell, is told never to change -/
abbrev Wd.fix (W : Wd) (p : Addr) (o : HO) : Wd := ⟨L2.upd W.F p o, W.ι, W.μ⟩
theorem sub_fix {p : Addr} {o : HO} (hF : W.F p = none) : Sub W.F (upd W.F p o) := fun b u e => by
  rw [upd_ne (ne_of_none e hF)]
  exact e
theorem WOk.fix (ok : WOk K cl W H) {p : Addr} {o : HO} (hF : W.F p = none) (hi : p ∉ W.ι) (hp : H p = some o) : WOk K cl (W.fix p o) H :=
  ⟨fun b u e => by
    by_cases hb : b = p
    · subst hb
      have e' : some o = some u := by rw [← upd_same (H := W.F) (a := b) (o := o)]; exact e
      rw [hp]; exact e'
    · have e' : W.F b = some u := by rw [← upd_ne (H := W.F) (a := p) (o := o) hb]; exact e
      exact ok.fh b u e', ok.iu, ok.len, fun n c a e1 e2 => (ok.cells n c a e1 e2).sub (sub_fix hF), fun a ha => by
    show upd W.F p o a = none
    have ne : a ≠ p := fun z => hi (by rw [← z]; exact ha)
    rw [upd_ne ne]
    exact ok.ap a ha⟩
theorem Go.fix {H0 : Hp} {W0 : Wd} {p : Addr} {o : HO} (g : Go W0 H0 W H) (hF : W.F p = none) (h0 : H0 p = none) : Go W0 H0 (W.fix p o) H :=
  ⟨fun b u e => sub_fix hF b u (g.f b u e), fun b hb n => by
    show upd W.F p o b = none
    have : b ≠ p := fun z => by subst z; exact hb h0
    rw [upd_ne this]
    exact g.fn b hb n, g.i, g.inew, g.keep, g.there⟩
/-- a new list as a value -/
theorem PostB.toN {l : List PyData} {Q : VK} (h : PostB K cl W H (.list l) Q) : PostN K cl W H l Q := fun p vs H' ok g hp hF hi e r => by
  refine h (.ref p) (W.fix p (.lst vs)) H' rfl (ok.fix hF hi e) (g.fix hF hp) ?_
  exact .lst (SqL.of (show upd W.F p (.lst vs) p = _ from upd_same)) (RepL.mono (sub_fix hF) (List.prefix_refl _) _ _ r)
theorem PostB.tup {l : List PyData} {vs : List V} {Q : VK} (ok : WOk K cl W H) (r : RepL K W.F W.ι vs l) (h : PostB K cl W H (.tuple l) Q) (p : Addr) (hp : H p = none) : Q (.ref p) (upd H p (.tup vs)) := by
  have hF := ok.fnone hp
  have hi := ok.notIn hp
  refine h (.ref p) (W.fix p (.tup vs)) (upd H p (.tup vs)) rfl ((ok.new hp).fix hF hi upd_same) ((Go.new hp).fix hF hp) ?_
  exact .tup (SqT.of (show upd W.F p (.tup vs) p = _ from upd_same)) (RepL.mono (sub_fix hF) (List.prefix_refl _) _ _ r)
theorem PostN.mk {l : List PyData} {vs : List V} {Q : VK} (ok : WOk K cl W H) (r : RepL K W.F W.ι vs l) (h : PostN K cl W H l Q) (p : Addr) (hp : H p = none) : Q (.ref p) (upd H p (.lst vs)) :=
  h p vs _ (ok.new hp) (Go.new hp) hp (ok.fnone hp) (ok.notIn hp) upd_same r
theorem PostB.here {d : PyData} {v : V} {Q : VK} (ok : WOk K cl W H) (r : Rep K W.F W.ι v d) (h : PostB K cl W H d Q) : Q v H := h v W H rfl ok (Go.refl _ _) r
end

/-! ## the rules' sums -/
def rCatL (K : PySem.W.Frag) : R2 := fun x y H Q => ∃ l b xs zs, x = .ref l ∧ y = .ref b ∧ SqL K H l xs ∧ SqL K H b zs ∧ xs.length + zs.length ≤ sizeLine ∧ ∀ p, H p = none → Q (.ref p) (upd H p (.lst (xs ++ zs)))
section
variable {X : Cx}
theorem op_catL : OpR X (binaryOp .Add) (rCatL X.K) := by
  intro pins s σ H x y v u Q I rx ry h
  obtain ⟨l, b, xs, zs, rfl, rfl, hH, hB, hz, q⟩ := h
  cases rx
  cases ry
  obtain ⟨its, r, ⟨⟨c1, d1, dt1, s1⟩, n, e, hc, hd, hdt⟩, _⟩ := I.list hH
  obtain ⟨its2, r2, ⟨⟨c2, d2, dt2, s2⟩, n2, e2, hc2, hd2, hdt2⟩, _⟩ := I.list hB
  simp only at hc hdt hc2 hdt2
  subst hc hdt hc2 hdt2
  have hl := r.length
  have hl2 := r2.length
  have ea : its.toArray ++ its2.toArray = (its ++ its2).toArray := by simp
  refine concat_meets ⟨_, e, rfl⟩ ⟨_, e2, rfl⟩ noFill_list_add seq_list_add PySem.F.slot_list_add PySem.F.entry_list_add (PySem.F.args_list_add_2 _ _)
    (list_addW l b its.toArray its2.toArray n n2 d1 d2 s1 s2 (by simp only [List.size_toArray]; omega)) ⟨e, e2, ?_⟩
  rw [ea]
  exact ⟨.ref _, _, I.lnew (t' := s.toks) (r.append r2) (by rw [List.length_append]; omega), rfl, q _ I.fresh⟩
def CDivZ (_ j : Int) : Prop := j ≠ 0 ∧ -big < j ∧ j < big
theorem op_fdivZ : OpR X (binaryOp .FloorDiv) (rI CDivZ fun i j => .int (i.fdiv j)) := opI fun _ j _ _ _ _ _ hc q => by
  refine floordiv_int hc.1 q (.inl (PyProof.noPylong_of_log2 ?_))
  have h1 := hc.2.1
  have h2 := hc.2.2
  have hb : big = 2 ^ 64 := by decide
  rw [hb] at h1 h2
  have : j.natAbs < 2 ^ 64 := by omega
  exact Nat.lt_trans (PySem.Flt.log2_lt_of (by decide) this) (by decide)
def rAddG (K : PySem.W.Frag) : R2 := fun x y H Q => (∃ i j, x = .int i ∧ y = .int j ∧ Q (.int (i + j)) H) ∨
  (∃ i j, x = .str i ∧ y = .str j ∧ i.length + j.length ≤ sizeLine ∧ Q (.str (i ++ j)) H) ∨ rCatL K x y H Q ∨ rCatT K x y H Q
theorem op_addG : OpR X (binaryOp .Add) (rAddG X.K) := op_add.or (op_add_str.or (op_catL.or op_catT))
def rBin (K : PySem.W.Frag) : BOp → R2
  | .add => rAddG K
  | .sub => rI0 fun i j => .int (i - j)
  | .mul => rI CMul fun i j => .int (i * j)
  | .fdiv => rI CDivZ fun i j => .int (i.fdiv j)
  | .mod => rI (fun _ j => 0 < j) fun i j => .int (i % j)
  | .pow => rI CPow fun i j => .int (i ^ j.toNat)
def bop : BOp → Operator
  | .add => .Add
  | .sub => .Sub
  | .mul => .Mult
  | .fdiv => .FloorDiv
  | .mod => .Mod
  | .pow => .Pow
theorem op_bin : ∀ o : BOp, OpR X (binaryOp (bop o)) (rBin X.K o)
  | .add => op_addG
  | .sub => op_sub
  | .mul => op_mul
  | .fdiv => op_fdivZ
  | .mod => op_mod
  | .pow => op_pow
def rEqG (K : PySem.W.Frag) : R2 := fun x y H Q => rEq x y H Q ∨ rEqD K x y H Q
def rNeG (K : PySem.W.Frag) : R2 := fun x y H Q => rNe x y H Q ∨ rNeD K x y H Q
def rCmp (K : PySem.W.Frag) : COp → R2
  | .eq => rEqG K
  | .ne => rNeG K
  | .lt => rI0 fun i j => .bl (decide (i < j))
  | .le => rI0 fun i j => .bl (decide (i ≤ j))
  | .gt => rI0 fun i j => .bl (decide (j < i))
  | .ge => rI0 fun i j => .bl (decide (j ≤ i))
  | .isin => rInD K
  | .notin => rNotInD K
def cop : COp → CmpOp
  | .eq => .Eq
  | .ne => .NotEq
  | .lt => .Lt
  | .le => .LtE
  | .gt => .Gt
  | .ge => .GtE
  | .isin => .In
  | .notin => .NotIn
theorem op_cmp (hu : X.A.units + 65 < cLine) : ∀ o : COp, OpR X (compareOp (cop o)) (rCmp X.K o)
  | .eq => op_eq.or (op_eqD (Nat.lt_trans (Nat.add_lt_add_left (by decide) _) hu))
  | .ne => op_ne.or (op_neD (Nat.lt_trans (Nat.add_lt_add_left (by decide) _) hu))
  | .lt => op_lt
  | .le => op_le
  | .gt => op_gt
  | .ge => op_ge
  | .isin => op_inD hu
  | .notin => op_notInD hu
end

/-! ## the operations keep to their rules -/
section
variable {K : PySem.W.Frag} {cl : Nat → Addr} {W : Wd} {H : Hp} {x y : V} {d e z : PyData} {Q : VK}
theorem bin_ok (ok : WOk K cl W H) : ∀ {o : BOp}, binP o d e = some z → RepB K W H x d → RepB K W H y e → PostB K cl W H z Q → rBin K o x y H Q := by
  intro o hz rx ry k
  have hb : big = 2 ^ 64 := by decide
  unfold binP at hz
  split at hz
  · cases rx.int; cases ry.int; cases hz
    exact .inl ⟨_, _, rfl, rfl, k.here ok (.int _)⟩
  · cases rx.str; cases ry.str
    split at hz
    · rename_i hl
      cases hz
      exact .inr (.inl ⟨_, _, rfl, rfl, lim_le hl, k.here ok (.str _)⟩)
    · cases hz
  · obtain ⟨a, vs, rfl, hs, r⟩ := rx.lst ok
    obtain ⟨b, ws, rfl, hs', r'⟩ := ry.lst ok
    split at hz
    · rename_i hl
      cases hz
      refine .inr (.inr (.inl ⟨a, b, vs, ws, rfl, rfl, hs, hs', lim_le (by rw [r.length, r'.length]; exact hl), fun p hp => ?_⟩))
      exact PostN.mk ok (r.append r') k.toN p hp
    · cases hz
  · obtain ⟨a, vs, rfl, hs, r⟩ := rx.tup ok
    obtain ⟨b, ws, rfl, hs', r'⟩ := ry.tup ok
    split at hz
    · rename_i hl
      cases hz
      have l1 := r.length
      have l2 := r'.length
      simp only [List.length_cons] at l1
      refine .inr (.inr (.inr ⟨a, b, vs, ws, rfl, rfl, hs, hs', (by intro z; subst z; simp at l1), lim_le (by rw [l1, l2]; exact hl), fun hw => ?_, fun _ p hp => ?_⟩))
      · subst hw
        cases r'
        rcases rx with rx | ⟨_, _, _, _, e, _⟩
        · exact k.here ok (by simpa using rx)
        · cases e
      · exact PostB.tup ok (r.append r') k p hp
    · cases hz
  · cases rx.int; cases ry.int; cases hz
    exact ⟨_, _, rfl, rfl, k.here ok (.int _)⟩
  · cases rx.int; cases ry.int
    split at hz
    · rename_i hl
      cases hz
      exact ⟨_, _, rfl, rfl, by rw [hb] at hl; exact hl, k.here ok (.int _)⟩
    · cases hz
  · cases rx.int; cases ry.int
    rename_i i j
    split at hz
    · rename_i hl
      cases hz
      refine ⟨_, _, rfl, rfl, ⟨by omega, by omega, hl.2⟩, ?_⟩
      have e : i.fdiv j = i / j := Int.fdiv_eq_ediv_of_nonneg i (by omega)
      show Q (.int (i.fdiv j)) H
      rw [e]
      exact k.here ok (.int _)
    · split at hz
      · rename_i hl
        cases hz
        exact ⟨_, _, rfl, rfl, ⟨by omega, hl.2, by omega⟩, k.here ok (.int _)⟩
      · cases hz
  · cases rx.int; cases ry.int
    split at hz
    · rename_i hl
      cases hz
      exact ⟨_, _, rfl, rfl, hl, k.here ok (.int _)⟩
    · cases hz
  · cases rx.int; cases ry.int
    split at hz
    · rename_i hl
      cases hz
      exact ⟨_, _, rfl, rfl, ⟨hl.1, by omega, by omega⟩, k.here ok (.int _)⟩
    · cases hz
  · cases hz
end
end PVL
end

section
set_option Elab.async false
set_option linter.all false
set_option maxRecDepth 100000
set_option maxHeartbeats 2000000
namespace PVL
open PySem PySem.Spec PyProof.Rows L2
section
variable {K : PySem.W.Frag} {cl : Nat → Addr} {W : Wd} {H : Hp} {x y : V} {d e z : PyData} {Q : VK} {b : Bool}
theorem rEq_int {i j : Int} {Q : VK} (h : Q (.bl (i == j)) H) : rEq (.int i) (.int j) H Q := ⟨rfl, by rw [dec_int]; exact h⟩
theorem eq_ok (ok : WOk K cl W H) (hz : eqP d e = some b) (rx : RepB K W H x d) (ry : RepB K W H y e) : (∃ c, c = b ∧ scal x y = true ∧ decide (x = y) = c) ∨ (∃ d e, Dp K H x d ∧ Dp K H y e ∧ SeqAt.shaped d = true ∧ SeqAt.shaped e = true ∧ PyData.eqv d e = b) := by
  unfold eqP at hz
  split at hz
  all_goals first
    | (cases rx.int; cases ry.int; cases hz; exact .inl ⟨_, rfl, rfl, dec_int⟩)
    | (cases rx.str; cases ry.str; cases hz; exact .inl ⟨_, rfl, rfl, by rw [dec_str]⟩)
    | (cases rx.int; cases ry.str; cases hz; exact .inl ⟨_, rfl, rfl, decide_eq_false (fun q => nomatch q)⟩)
    | (cases rx.str; cases ry.int; cases hz; exact .inl ⟨_, rfl, rfl, decide_eq_false (fun q => nomatch q)⟩)
    | (cases rx.non; cases ry.non; cases hz; exact .inl ⟨_, rfl, rfl, decide_eq_false (fun q => nomatch q)⟩)
    | (cases rx.non; cases ry.int; cases hz; exact .inl ⟨_, rfl, rfl, decide_eq_false (fun q => nomatch q)⟩)
    | (cases rx.int; cases ry.non; cases hz; exact .inl ⟨_, rfl, rfl, decide_eq_false (fun q => nomatch q)⟩)
    | (cases rx.non; cases ry.str; cases hz; exact .inl ⟨_, rfl, rfl, decide_eq_false (fun q => nomatch q)⟩)
    | (cases rx.str; cases ry.non; cases hz; exact .inl ⟨_, rfl, rfl, decide_eq_false (fun q => nomatch q)⟩)
    | (cases rx.non; cases ry.bl; cases hz; exact .inl ⟨_, rfl, rfl, decide_eq_false (fun q => nomatch q)⟩)
    | (cases rx.bl; cases ry.non; cases hz; exact .inl ⟨_, rfl, rfl, decide_eq_false (fun q => nomatch q)⟩)
    | (cases rx.bl; cases ry.bl; cases hz; exact .inl ⟨_, rfl, rfl, dec_bl⟩)
    | (cases rx.bl; cases ry.str; cases hz; exact .inl ⟨_, rfl, rfl, decide_eq_false (fun q => nomatch q)⟩)
    | (cases rx.str; cases ry.bl; cases hz; exact .inl ⟨_, rfl, rfl, decide_eq_false (fun q => nomatch q)⟩)
    | (cases rx.non; cases ry.non; cases hz; exact .inl ⟨_, rfl, rfl, decide_eq_true rfl⟩)
    | (split at hz
       · rename_i hs
         rw [Bool.and_eq_true] at hs
         exact .inr ⟨_, _, rx.dp ok (SeqAt.canLay_of_shaped hs.1), ry.dp ok (SeqAt.canLay_of_shaped hs.2), hs.1, hs.2, Option.some.inj hz⟩
       · cases hz)
theorem cmp_ok (ok : WOk K cl W H) : ∀ {o : COp}, cmpP o d e = some z → RepB K W H x d → RepB K W H y e → PostB K cl W H z Q → rCmp K o x y H Q := by
  intro o hz rx ry k
  unfold cmpP at hz
  split at hz
  · cases h : eqP d e with
    | none => rw [h] at hz; cases hz
    | some b =>
      rw [h] at hz
      cases hz
      rcases eq_ok ok h rx ry with ⟨c, rfl, hs, hc⟩ | ⟨d', e', h1, h2, h3, h4, h5⟩
      · exact .inl ⟨hs, by rw [hc]; exact k.here ok (.bl _)⟩
      · exact .inr ⟨d', e', h1, h2, h3, h4, by rw [h5]; exact k.here ok (.bl _)⟩
  · cases h : eqP d e with
    | none => rw [h] at hz; cases hz
    | some b =>
      rw [h] at hz
      cases hz
      rcases eq_ok ok h rx ry with ⟨c, rfl, hs, hc⟩ | ⟨d', e', h1, h2, h3, h4, h5⟩
      · exact .inl ⟨hs, by rw [hc]; exact k.here ok (.bl _)⟩
      · exact .inr ⟨d', e', h1, h2, h3, h4, by rw [h5]; exact k.here ok (.bl _)⟩
  · cases rx.int; cases ry.int; cases hz
    exact ⟨_, _, rfl, rfl, k.here ok (.bl _)⟩
  · cases rx.int; cases ry.int; cases hz
    exact ⟨_, _, rfl, rfl, k.here ok (.bl _)⟩
  · cases rx.int; cases ry.int; cases hz
    exact ⟨_, _, rfl, rfl, k.here ok (.bl _)⟩
  · cases rx.int; cases ry.int; cases hz
    exact ⟨_, _, rfl, rfl, k.here ok (.bl _)⟩
  · split at hz
    · rename_i hs
      rw [Bool.and_eq_true] at hs
      cases hz
      exact ⟨d, _, rx.dp ok (SeqAt.canLay_of_shaped hs.1), ry.dp ok (SeqAt.canLay_of_shaped hs.2), hs.1, hs.2, k.here ok (.bl _)⟩
    · cases hz
  · split at hz
    · rename_i hs
      rw [Bool.and_eq_true] at hs
      cases hz
      exact ⟨d, _, rx.dp ok (SeqAt.canLay_of_shaped hs.1), ry.dp ok (SeqAt.canLay_of_shaped hs.2), hs.1, hs.2, k.here ok (.bl _)⟩
    · cases hz
  · cases hz

/-! ### items and slices -/
def idxP : PyData → PyData → Option PyData
  | .list xs, .int i => atI xs i
  | .tuple xs, .int i => atI xs i
  | .str x, .int i => if x.length ≤ lim then (atI x.cps.toList i).map fun c => .str ⟨#[c]⟩ else none
  | _, _ => none
theorem atI_rep {F : Hp} {ι : List Addr} {vs : List V} {ds : List PyData} {i : Int} (r : RepL K F ι vs ds) (h : atI ds i = some d) : ∃ v, atI vs i = some v ∧ Rep K F ι v d := by
  unfold atI at h ⊢
  rw [r.length]
  cases e : ixN ds.length i with
  | none => rw [e] at h; cases h
  | some j =>
    rw [e] at h
    exact r.get h
theorem idx_ok (ok : WOk K cl W H) (hz : idxP d e = some z) (rx : RepB K W H x d) (ry : RepB K W H y e) (k : PostB K cl W H z Q) : rIx K x y H Q := by
  unfold idxP at hz
  split at hz
  · obtain ⟨a, vs, rfl, hs, r⟩ := rx.lst ok
    cases ry.int
    obtain ⟨v, e1, r1⟩ := atI_rep r hz
    exact .inl ⟨a, vs, _, v, rfl, rfl, hs, e1, k.here ok r1⟩
  · obtain ⟨a, vs, rfl, hs, r⟩ := rx.tup ok
    cases ry.int
    obtain ⟨v, e1, r1⟩ := atI_rep r hz
    exact .inr (.inl ⟨a, vs, _, v, rfl, rfl, hs, e1, k.here ok r1⟩)
  · cases rx.str; cases ry.int
    split at hz
    · rename_i hl
      rename_i xx i
      cases h : atI xx.cps.toList i with
      | none => rw [h] at hz; cases hz
      | some c =>
        rw [h] at hz
        cases hz
        exact .inr (.inr ⟨xx, i, c, rfl, rfl, lim_le hl, h, k.here ok (.str _)⟩)
    · cases hz
  · cases hz
def cutD {α : Type} (xs : List α) (lo hi : Option Int) : List α := (xs.drop (HT.sIx xs.length 0 lo)).take (HT.sIx xs.length xs.length hi - HT.sIx xs.length 0 lo)
def slcP : PyData → Option Int → Option Int → Option PyData
  | .list xs, lo, hi => some (.list (cutD xs lo hi))
  | .tuple xs, lo, hi => if HT.sIx xs.length 0 lo = 0 ∧ HT.sIx xs.length xs.length hi = xs.length then none else some (.tuple (cutD xs lo hi))
  | .str x, lo, hi => if x.length ≤ lim then some (.str (cutS x lo hi)) else none
  | _, _, _ => none
theorem cut_rep {F : Hp} {ι : List Addr} {vs : List V} {ds : List PyData} {lo hi : Option Int} (r : RepL K F ι vs ds) : RepL K F ι (cutV vs lo hi) (cutD ds lo hi) := by
  unfold cutV cutD
  rw [r.length]
  exact (r.drop _).take _
def rSlc (K : PySem.W.Frag) : V → Option Int → Option Int → Hp → VK → Prop := fun x lo hi H Q => rSlL K x lo hi H Q ∨ rSlT K x lo hi H Q ∨ rSlS x lo hi H Q
theorem sl_slc {X : Cx} : SlR X (rSlc X.K) := sl_list.or (sl_tup.or sl_str)
theorem slc_ok {lo hi : Option Int} (ok : WOk K cl W H) (hz : slcP d lo hi = some z) (rx : RepB K W H x d) (k : PostB K cl W H z Q) : rSlc K x lo hi H Q := by
  unfold slcP at hz
  split at hz
  · obtain ⟨a, vs, rfl, hs, r⟩ := rx.lst ok
    cases hz
    exact .inl ⟨a, vs, rfl, hs, fun p hp => PostN.mk ok (cut_rep r) k.toN p hp⟩
  · obtain ⟨a, vs, rfl, hs, r⟩ := rx.tup ok
    split at hz
    · cases hz
    · rename_i hn
      cases hz
      refine .inr (.inl ⟨a, vs, rfl, hs, by rw [r.length]; exact hn, fun p hp => PostB.tup ok (cut_rep r) k p hp⟩)
  · cases rx.str
    split at hz
    · rename_i hl
      cases hz
      exact .inr (.inr ⟨_, rfl, lim_le hl, k.here ok (.str _)⟩)
    · cases hz
  · cases hz
/-- the fresh lists among them -/
theorem slcN_ok {l : List PyData} {lo hi : Option Int} (ok : WOk K cl W H) (hz : slcP d lo hi = some (.list l)) (rx : RepB K W H x d) (k : PostN K cl W H l Q) : rSlc K x lo hi H Q := by
  unfold slcP at hz
  split at hz
  · obtain ⟨a, vs, rfl, hs, r⟩ := rx.lst ok
    cases hz
    exact .inl ⟨a, vs, rfl, hs, fun p hp => PostN.mk ok (cut_rep r) k p hp⟩
  · split at hz <;> cases hz
  · split at hz <;> cases hz
  · cases hz
theorem catN_ok {l : List PyData} (ok : WOk K cl W H) (hz : binP .add d e = some (.list l)) (rx : RepB K W H x d) (ry : RepB K W H y e) (k : PostN K cl W H l Q) : rBin K .add x y H Q := by
  unfold binP at hz
  split at hz
  all_goals first
    | (rename_i h; cases h; done)
    | (cases hz; done)
    | (obtain ⟨a, vs, rfl, hs, r⟩ := rx.lst ok
       obtain ⟨b, ws, rfl, hs', r'⟩ := ry.lst ok
       split at hz
       · rename_i hl
         cases hz
         exact .inr (.inr (.inl ⟨a, b, vs, ws, rfl, rfl, hs, hs', lim_le (by rw [r.length, r'.length]; exact hl), fun p hp => PostN.mk ok (r.append r') k p hp⟩))
       · cases hz)
    | (split at hz <;> cases hz; done)
    | (split at hz <;> first | (cases hz; done) | (split at hz <;> cases hz))

/-! ### built-in calls -/
def min3I (i j k : Int) : Int := if k < (if j < i then j else i) then k else if j < i then j else i
inductive Bi where | len | abs | int | list | tuple | max2 | min2 | min3 | maxL | sumL
def intsD : List PyData → Option (List Int)
  | [] => some []
  | .int i :: r => (intsD r).map (i :: ·)
  | _ => none
def strs' : List PyData → Option (List Str)
  | [] => some []
  | .str i :: r => (strs' r).map (i :: ·)
  | _ => none
def maxI : List Int → Int
  | [] => 0
  | [i] => i
  | i :: r => if i < maxI r then maxI r else i
def biP : Bi → List PyData → Option PyData
  | .len, [.list xs] => some (.int xs.length)
  | .len, [.tuple xs] => some (.int xs.length)
  | .len, [.str x] => if x.length ≤ lim then some (.int x.length) else none
  | .abs, [.int i] => some (.int (if i < 0 then -i else i))
  | .int, [.int i] => some (.int i)
  | .int, [.bool b] => some (.int (if b then 1 else 0))
  | .list, [.list xs] => some (.list xs)
  | .list, [.tuple xs] => some (.list xs)
  | .tuple, [.list xs] => some (.tuple xs)
  | .tuple, [.tuple xs] => some (.tuple xs)
  | .max2, [.int i, .int j] => some (.int (if j > i then j else i))
  | .min2, [.int i, .int j] => some (.int (if j < i then j else i))
  | .min3, [.int i, .int j, .int k] => some (.int (min3I i j k))
  | .maxL, [.list xs] => match intsD xs with
    | some (i :: r) => some (.int (maxI (i :: r)))
    | _ => none
  | .sumL, [.list xs] => (intsD xs).map fun l => .int l.sum
  | _, _ => none
theorem ints_rep {F : Hp} {ι : List Addr} : ∀ {ds : List PyData} {vs : List V} {ns : List Int}, intsD ds = some ns → RepL K F ι vs ds → vs = ns.map V.int
  | [], _, _, h, r => by cases r; cases h; rfl
  | .int i :: ds, _, _, h, r => by
    cases r with
    | cons r1 r2 =>
      cases r1
      unfold intsD at h
      cases e : intsD ds with
      | none => rw [e] at h; cases h
      | some l =>
        rw [e] at h
        cases h
        rw [ints_rep e r2]
        rfl
  | .none :: _, _, _, h, _ => by simp [intsD] at h
  | .bool _ :: _, _, _, h, _ => by simp [intsD] at h
  | .str _ :: _, _, _, h, _ => by simp [intsD] at h
  | .list _ :: _, _, _, h, _ => by simp [intsD] at h
  | .tuple _ :: _, _, _, h, _ => by simp [intsD] at h
  | .dict _ :: _, _, _, h, _ => by simp [intsD] at h
theorem strs_rep {F : Hp} {ι : List Addr} : ∀ {ds : List PyData} {vs : List V} {ns : List Str}, strs' ds = some ns → RepL K F ι vs ds → vs = ns.map V.str
  | [], _, _, h, r => by cases r; cases h; rfl
  | .str i :: ds, _, _, h, r => by
    cases r with
    | cons r1 r2 =>
      cases r1
      unfold strs' at h
      cases e : strs' ds with
      | none => rw [e] at h; cases h
      | some l =>
        rw [e] at h
        cases h
        rw [strs_rep e r2]
        rfl
  | .none :: _, _, _, h, _ => by simp [strs'] at h
  | .bool _ :: _, _, _, h, _ => by simp [strs'] at h
  | .int _ :: _, _, _, h, _ => by simp [strs'] at h
  | .list _ :: _, _, _, h, _ => by simp [strs'] at h
  | .tuple _ :: _, _, _, h, _ => by simp [strs'] at h
  | .dict _ :: _, _, _, h, _ => by simp [strs'] at h
theorem maxI_le : ∀ {l : List Int} {y : Int}, y ∈ l → y ≤ maxI l
  | [i], y, h => by simp at h; subst h; exact Int.le_refl _
  | i :: j :: r, y, h => by
    have ih := fun z (hz : z ∈ j :: r) => maxI_le (l := j :: r) hz
    have e : maxI (i :: j :: r) = if i < maxI (j :: r) then maxI (j :: r) else i := rfl
    rw [e]
    rcases List.mem_cons.mp h with rfl | h
    · split <;> omega
    · have := ih y h
      split <;> omega
theorem maxI_mem : ∀ {l : List Int}, l ≠ [] → maxI l ∈ l
  | [i], _ => by simp [maxI]
  | i :: j :: r, _ => by
    have e : maxI (i :: j :: r) = if i < maxI (j :: r) then maxI (j :: r) else i := rfl
    rw [e]
    split
    · exact List.mem_cons_of_mem _ (maxI_mem (by simp))
    · exact List.mem_cons_self
  | [], h => absurd rfl h
def rTupOf (K : PySem.W.Frag) : List V → Hp → VK → Prop := fun xs H Q => ∃ p ys, xs = [.ref p] ∧ ((SqL K H p ys ∧ ∀ l, H l = none → Q (.ref l) (upd H l (.tup ys))) ∨ (SqT K H p ys ∧ Q (.ref p) H))
def rLstOf (K : PySem.W.Frag) : List V → Hp → VK → Prop := fun xs H Q => ∃ p ys, xs = [.ref p] ∧ (SqL K H p ys ∨ SqT K H p ys) ∧ ∀ l, H l = none → Q (.ref l) (upd H l (.lst ys))
def rBi (K : PySem.W.Frag) : Bi → List V → Hp → VK → Prop
  | .len => fun xs H Q => ∃ x n, xs = [x] ∧ LenV K x H n ∧ Q (.int n) H
  | .abs => fun xs H Q => ∃ i, xs = [.int i] ∧ Q (.int (if i < 0 then -i else i)) H
  | .int => fun xs H Q => (∃ i, xs = [.int i] ∧ Q (.int i) H) ∨ ∃ k, xs = [.bl k] ∧ Q (.int (if k then 1 else 0)) H
  | .list => rLstOf K
  | .tuple => rTupOf K
  | .max2 => fun xs H Q => ∃ i j, xs = [.int i, .int j] ∧ Q (.int (if j > i then j else i)) H
  | .min2 => fun xs H Q => ∃ i j, xs = [.int i, .int j] ∧ Q (.int (if j < i then j else i)) H
  | .min3 => fun xs H Q => ∃ i j k, xs = [.int i, .int j, .int k] ∧ Q (.int (min3I i j k)) H
  | .maxL => rMax K
  | .sumL => rSum K
/-- values of a call's arguments -/
inductive RepsB (K : PySem.W.Frag) (W : Wd) (H : Hp) : List V → List PyData → Prop
  | nil : RepsB K W H [] []
  | cons {v : V} {vs : List V} {d : PyData} {ds : List PyData} : RepB K W H v d → RepsB K W H vs ds → RepsB K W H (v :: vs) (d :: ds)
theorem RepsB.go {W W' : Wd} {H H' : Hp} {vs : List V} {ds : List PyData} (g : Go W H W' H') (h : RepsB K W H vs ds) : RepsB K W' H' vs ds := by
  induction h with
  | nil => exact .nil
  | cons r _ ih => exact .cons (r.go g) ih
theorem bi_ok {b : Bi} {vs : List V} {ds : List PyData} (ok : WOk K cl W H) (hz : biP b ds = some z) (rs : RepsB K W H vs ds) (k : PostB K cl W H z Q) : rBi K b vs H Q := by
  unfold biP at hz
  split at hz
  · cases rs with | cons rx r => cases r; cases hz; obtain ⟨a, ws, rfl, hs, r⟩ := rx.lst ok; exact ⟨_, _, rfl, .inl ⟨ws, hs, r.length.symm⟩, k.here ok (.int _)⟩
  · cases rs with | cons rx r => cases r; cases hz; obtain ⟨a, ws, rfl, hs, r⟩ := rx.tup ok; exact ⟨_, _, rfl, .inr ⟨ws, hs, r.length.symm⟩, k.here ok (.int _)⟩
  · cases rs with | cons rx r =>
      cases r; cases rx.str
      split at hz
      · rename_i hl; cases hz; exact ⟨_, _, rfl, ⟨lim_le hl, rfl⟩, k.here ok (.int _)⟩
      · cases hz
  · cases rs with | cons rx r => cases r; cases rx.int; cases hz; exact ⟨_, rfl, k.here ok (.int _)⟩
  · cases rs with | cons rx r => cases r; cases rx.int; cases hz; exact .inl ⟨_, rfl, k.here ok (.int _)⟩
  · cases rs with | cons rx r => cases r; cases rx.bl; cases hz; exact .inr ⟨_, rfl, k.here ok (.int _)⟩
  · cases rs with | cons rx r => cases r; cases hz; obtain ⟨a, ws, rfl, hs, r⟩ := rx.lst ok; exact ⟨a, ws, rfl, .inl hs, fun p hp => PostN.mk ok r k.toN p hp⟩
  · cases rs with | cons rx r => cases r; cases hz; obtain ⟨a, ws, rfl, hs, r⟩ := rx.tup ok; exact ⟨a, ws, rfl, .inr hs, fun p hp => PostN.mk ok r k.toN p hp⟩
  · cases rs with | cons rx r => cases r; cases hz; obtain ⟨a, ws, rfl, hs, r⟩ := rx.lst ok; exact ⟨a, ws, rfl, .inl ⟨hs, fun p hp => PostB.tup ok r k p hp⟩⟩
  · cases rs with | cons rx r =>
      cases r; cases hz
      obtain ⟨a, ws, rfl, hs, r⟩ := rx.tup ok
      rcases rx with rx | ⟨_, _, _, _, e, _⟩
      · exact ⟨a, ws, rfl, .inr ⟨hs, k.here ok rx⟩⟩
      · cases e
  · cases rs with | cons rx r => cases r with | cons ry r => cases r; cases rx.int; cases ry.int; cases hz; exact ⟨_, _, rfl, k.here ok (.int _)⟩
  · cases rs with | cons rx r => cases r with | cons ry r => cases r; cases rx.int; cases ry.int; cases hz; exact ⟨_, _, rfl, k.here ok (.int _)⟩
  · cases rs with | cons rx r => cases r with | cons ry r => cases r with | cons rz r => cases r; cases rx.int; cases ry.int; cases rz.int; cases hz; exact ⟨_, _, _, rfl, k.here ok (.int _)⟩
  · cases rs with | cons rx r =>
      cases r
      obtain ⟨a, ws, rfl, hs, r⟩ := rx.lst ok
      split at hz
      · rename_i i r' hi
        cases hz
        refine ⟨a, i :: r', rfl, ints_rep hi r ▸ hs, by simp, fun m hm hall => ?_⟩
        have e : m = maxI (i :: r') := Int.le_antisymm (maxI_le hm) (hall _ (maxI_mem (by simp)))
        rw [e]
        exact k.here ok (.int _)
      · cases hz
  · cases rs with | cons rx r =>
      cases r
      obtain ⟨a, ws, rfl, hs, r⟩ := rx.lst ok
      rename_i xs
      cases e : intsD xs with
      | none => rw [e] at hz; cases hz
      | some l =>
        rw [e] at hz
        cases hz
        exact ⟨a, l, rfl, ints_rep e r ▸ hs, k.here ok (.int _)⟩
  · cases hz
theorem listN_ok {vs : List V} {ds l : List PyData} (ok : WOk K cl W H) (hz : biP .list ds = some (.list l)) (rs : RepsB K W H vs ds) (k : PostN K cl W H l Q) : rBi K .list vs H Q := by
  unfold biP at hz
  split at hz
  all_goals first
    | (rename_i h; cases h; done)
    | (cases hz; done)
    | (cases rs with | cons rx r => (cases r; cases hz; obtain ⟨a, ws, rfl, hs, r⟩ := rx.lst ok; exact ⟨a, ws, rfl, .inl hs, fun p hp => PostN.mk ok r k p hp⟩))
    | (cases rs with | cons rx r => (cases r; cases hz; obtain ⟨a, ws, rfl, hs, r⟩ := rx.tup ok; exact ⟨a, ws, rfl, .inr hs, fun p hp => PostN.mk ok r k p hp⟩))

/-! ### join -/
def joinP : PyData → PyData → Option PyData
  | .str a, .list ds => match strs' ds with
    | some ys => if (ys.map (·.length)).sum + ys.length * a.length ≤ lim then some (.str (Txt.join a ys)) else none
    | none => none
  | _, _ => none
def rJoin (K : PySem.W.Frag) : V → List V → Hp → VK → Prop := fun x xs H Q => ∃ a p, ∃ ys : List Str, x = .str a ∧ xs = [.ref p] ∧ (SqL K H p (ys.map V.str) ∨ SqT K H p (ys.map V.str)) ∧ (ys.map (·.length)).sum + ys.length * a.length ≤ 16777216 ∧ Q (.str (Txt.join a ys)) H
theorem join_ok (ok : WOk K cl W H) (hz : joinP d e = some z) (rx : RepB K W H x d) (ry : RepB K W H y e) (k : PostB K cl W H z Q) : rJoin K x [y] H Q := by
  unfold joinP at hz
  split at hz
  · cases rx.str
    obtain ⟨a, ws, rfl, hs, r⟩ := ry.lst ok
    split at hz
    · rename_i ys hy
      split at hz
      · rename_i hl
        cases hz
        exact ⟨_, a, ys, rfl, rfl, .inl (strs_rep hy r ▸ hs), Nat.le_trans hl (by decide), k.here ok (.str _)⟩
      · cases hz
    · cases hz
  · cases hz
end
end PVL
end

section
set_option Elab.async false
set_option linter.all false
set_option maxRecDepth 100000
set_option maxHeartbeats 2000000
namespace PVL
open PySem PySem.Spec PyProof.Rows L2

/-! # The small language -/
/-- what a loop or a comprehension assigns to -/
inductive Tg where
  | nm (i : Nat)
  | tp (l : List Nat)
inductive E where
  | var (i : Nat)
  | bv (i : Nat)
  | cst (d : PyData)
  | bin (o : BOp) (a b : E)
  | neg (a : E)
  | cmp (o : COp) (a b : E)
  | isn (ng : Bool) (a : E)
  | chain (o o' : COp) (a b c : E)
  | and (a b : E)
  | or (a b : E)
  | not (a : E)
  | tru (a : E)
  | ite (c a b : E)
  | tup (l : List E)
  | lst (l : List E)
  | idx (a b : E)
  | slc (a lo hi : E)
  | call (f : Nat) (l : List E)
  | bi (b : Bi) (l : List E)
  | isi (T : String) (a : E)
  | join (a b : E)
  | fmt (a : E)
  | fstr (l : List E)
  | comp (it : E) (tg : Tg) (c e : E) (vs : List Nat)
  | no
  | rng1 (a : E)
  | rng2 (a b : E)
  | seqL (a : E)
  | seqT (a : E)
  | zip (a b : E)
  | enum (a : E)
  | dsp (ks : List Str) (l : List E) (b : E)

/-- an outcome: a value, an error of a class, or no word -/
inductive Rs (α : Type) where
  | ok (a : α) (μ : Store)
  | ex (c : Nat) (μ : Store)
  | stuck
def Rs.bind {α β : Type} (r : Rs α) (f : α → Store → Rs β) : Rs β :=
  match r with
  | .ok a μ => f a μ
  | .ex c μ => .ex c μ
  | .stuck => .stuck
@[simp] theorem Rs.bind_ok {α β : Type} {a : α} {μ : Store} {f : α → Store → Rs β} : (Rs.ok a μ).bind f = f a μ := rfl
@[simp] theorem Rs.bind_ex {α β : Type} {c : Nat} {μ : Store} {f : α → Store → Rs β} : (Rs.ex c μ : Rs α).bind f = .ex c μ := rfl
@[simp] theorem Rs.bind_stuck {α β : Type} {f : α → Store → Rs β} : (Rs.stuck : Rs α).bind f = .stuck := rfl
abbrev Calls := Nat → List PyData → Store → Rs PyData
def opt {α : Type} (o : Option α) (μ : Store) : Rs α := match o with
  | some a => .ok a μ
  | none => .stuck
@[simp] theorem opt_some {α : Type} {a : α} {μ : Store} : opt (some a) μ = .ok a μ := rfl
@[simp] theorem opt_none {α : Type} {μ : Store} : opt (none : Option α) μ = .stuck := rfl
/-- two ways by a truth value -/
def ifB {α : Type} (d : PyData) (a b s : α) : α := match d with
  | .bool true => a
  | .bool false => b
  | _ => s
@[simp] theorem ifB_true {α : Type} {a b s : α} : ifB (.bool true) a b s = a := rfl
@[simp] theorem ifB_false {α : Type} {a b s : α} : ifB (.bool false) a b s = b := rfl
theorem ifB_bool {α : Type} {k : Bool} {a b s : α} : ifB (.bool k) a b s = if k then a else b := by cases k <;> rfl
@[simp] theorem ifB_dec {α : Type} {p : Prop} [Decidable p] {a b s : α} : ifB (.bool (decide p)) a b s = if p then a else b := by
  by_cases h : p <;> simp [h]
@[simp] theorem ifB_int {α : Type} {x y : Int} {a b s : α} : ifB (.bool (x == y)) a b s = if x = y then a else b := by
  by_cases h : x = y
  · subst h
    simp
  · have e : (x == y) = false := by simpa using h
    rw [e, if_neg h]
    rfl
@[simp] theorem ifB_str {α : Type} {x y : Str} {a b s : α} : ifB (.bool (x == y)) a b s = if x = y then a else b := by
  by_cases h : x = y
  · subst h
    simp
  · have e : (x == y) = false := by simpa using h
    rw [e, if_neg h]
    rfl
/-- stored into slots, one after the other -/
@[simp] def putL : List Nat → List PyData → List SV → Option (List SV)
  | [], [], env => some env
  | i :: is, d :: ds, env => putL is ds (env.set i (.pv d))
  | _, _, _ => none
@[simp] def Tg.put : Tg → PyData → List SV → Option (List SV)
  | .nm i, d, env => some (env.set i (.pv d))
  | .tp l, .tuple ds, env => putL l ds env
  | .tp _, _, _ => none
@[simp] def Tg.slots : Tg → List Nat
  | .nm i => [i]
  | .tp l => l
@[simp] def wipeE (env : List SV) : List Nat → List SV
  | [] => env
  | v :: vs => (wipeE env vs).set v .un
@[simp] def E.isBv : E → Bool
  | .bv _ => true
  | _ => false
/-- a comprehension's turns -/
def cLoop (tg : Tg) (f : List SV → Store → Rs (Option PyData)) (env : List SV) : List PyData → Store → Rs (List PyData)
  | [], μ => .ok [] μ
  | d :: ds, μ => match tg.put d env with
    | none => .stuck
    | some env' => match f env' μ with
      | .ok o μ1 => match cLoop tg f env ds μ1 with
        | .ok r μ2 => .ok (o.toList ++ r) μ2
        | _ => .stuck
      | _ => .stuck
def two62 : Int := 4611686018427387904
def truP : PyData → Option Bool
  | .none => some false
  | .bool b => some b
  | .int i => some (i != 0)
  | .str x => if x.length ≤ lim then some ((x.length : Int) != 0) else none
  | .list xs => some (!xs.isEmpty)
  | .tuple xs => some (!xs.isEmpty)
  | .dict _ => none
def isiP (T : String) : PyData → Option Bool
  | .none => kitB "NoneType" T
  | .bool _ => kitB "bool" T
  | .int _ => kitB "int" T
  | .str _ => kitB "str" T
  | .list _ => kitB "list" T
  | .tuple _ => kitB "tuple" T
  | .dict _ => none
def rngD (lo : Int) (n : Nat) : List PyData := (List.range n).map fun (k : Nat) => PyData.int (lo + (k : Int))
def zipD : List PyData → List PyData → List PyData
  | x :: xs, y :: ys => .tuple [x, y] :: zipD xs ys
  | _, _ => []
def enumD (i : Nat) : List PyData → List PyData
  | [] => []
  | x :: xs => .tuple [.int (i : Int), x] :: enumD (i + 1) xs

def fmtP : PyData → Option PyData
  | .str y => if y.length ≤ lim then some (.str y) else none
  | .int i => if -big < i ∧ i < big then some (.str (toString i)) else none
  | _ => none
def asI : PyData → Option (Option Int)
  | .int i => some (some i)
  | _ => none
def asB : PyData → Option Bool
  | .bool i => some i
  | _ => none
/-- what a dict of these keys and values holds at a key -/
def lookD : List Str → List PyData → Str → Option PyData
  | k :: ks, d :: ds, w => if k = w then some d else lookD ks ds w
  | _, _, _ => none
def dspP (ks : List Str) (ds : List PyData) : PyData → Option PyData
  | .str w => lookD ks ds w
  | _ => none
mutual
def ev (C : Calls) : E → List SV → Store → Rs PyData
  | .var i, env, μ => match env[i]? with
    | some (.pv d) => .ok d μ
    | _ => .stuck
  | .bv i, env, μ => match env[i]? with
    | some (.ow l) => .ok (.list l) μ
    | some (.pv d) => .ok d μ
    | _ => .stuck
  | .cst d, _, μ => match d with
    | .list _ => .stuck
    | .tuple _ => .stuck
    | .dict _ => .stuck
    | d => .ok d μ
  | .bin o a b, env, μ => (ev C a env μ).bind fun x μ1 => (ev C b env μ1).bind fun y μ2 => opt (binP o x y) μ2
  | .neg a, env, μ => (ev C a env μ).bind fun x μ1 => match x with
    | .int i => .ok (.int (-i)) μ1
    | _ => .stuck
  | .cmp o a b, env, μ => (ev C a env μ).bind fun x μ1 => (ev C b env μ1).bind fun y μ2 => opt (cmpP o x y) μ2
  | .isn ng a, env, μ => (ev C a env μ).bind fun x μ1 => match x with
    | .none => .ok (.bool (!ng)) μ1
    | _ => .ok (.bool ng) μ1
  | .chain o o' a b c, env, μ => (ev C a env μ).bind fun x μ1 => (ev C b env μ1).bind fun y μ2 => match cmpP o x y with
    | some (.bool true) => (ev C c env μ2).bind fun z μ3 => opt (cmpP o' y z) μ3
    | some (.bool false) => .ok (.bool false) μ2
    | _ => .stuck
  | .and a b, env, μ => (ev C a env μ).bind fun x μ1 => ifB x (if b.isBv then .stuck else ev C b env μ1) (.ok (.bool false) μ1) .stuck
  | .or a b, env, μ => (ev C a env μ).bind fun x μ1 => ifB x (.ok (.bool true) μ1) (if b.isBv then .stuck else ev C b env μ1) .stuck
  | .not a, env, μ => (ev C a env μ).bind fun x μ1 => match x with
    | .bool k => .ok (.bool (!k)) μ1
    | _ => .stuck
  | .tru a, env, μ => (ev C a env μ).bind fun x μ1 => opt ((truP x).map .bool) μ1
  | .ite c a b, env, μ => (ev C c env μ).bind fun x μ1 => if a.isBv || b.isBv then .stuck else ifB x (ev C a env μ1) (ev C b env μ1) .stuck
  | .tup l, env, μ => (evL C l env μ).bind fun ds μ1 => if ds.length ≤ lim then .ok (.tuple ds) μ1 else .stuck
  | .lst l, env, μ => (evL C l env μ).bind fun ds μ1 => if ds.length ≤ lim then .ok (.list ds) μ1 else .stuck
  | .idx a b, env, μ => (ev C a env μ).bind fun x μ1 => (ev C b env μ1).bind fun y μ2 => opt (idxP x y) μ2
  | .slc a lo hi, env, μ => (ev C a env μ).bind fun x μ1 =>
    (match lo with
      | .no => (Rs.ok none μ1 : Rs (Option Int))
      | _ => (ev C lo env μ1).bind fun l μ2 => opt (asI l) μ2).bind fun l μ2 =>
    (match hi with
      | .no => (Rs.ok none μ2 : Rs (Option Int))
      | _ => (ev C hi env μ2).bind fun h μ3 => opt (asI h) μ3).bind fun h μ3 => opt (slcP x l h) μ3
  | .call f l, env, μ => (evL C l env μ).bind fun ds μ1 => C f ds μ1
  | .bi b l, env, μ => (evB C l env μ).bind fun ds μ1 => opt (biP b ds) μ1
  | .isi T a, env, μ => (ev C a env μ).bind fun x μ1 => opt ((isiP T x).map .bool) μ1
  | .join a b, env, μ => (ev C a env μ).bind fun x μ1 => match x with
    | .str s => (ev C b env μ1).bind fun y μ2 => opt (joinP (.str s) y) μ2
    | _ => .stuck
  | .comp it tg c e vs, env, μ => (evI C it env μ).bind fun ds μ1 =>
    if tg.slots.all (fun i => vs.contains i && decide (i < env.length)) && !e.isBv && decide (ds.length ≤ lim) then
      match cLoop tg (fun env' μ' => (match c with
        | .no => (Rs.ok true μ' : Rs Bool)
        | _ => (ev C c env' μ').bind fun k μ2 => opt (asB k) μ2).bind fun k μ2 => if k then (ev C e env' μ2).bind fun d μ3 => .ok (some d) μ3 else .ok none μ2) (wipeE env vs) ds μ1 with
      | .ok r μ2 => .ok (.list r) μ2
      | _ => .stuck
    else .stuck
  | .fmt a, env, μ => (ev C a env μ).bind fun x μ1 => opt (fmtP x) μ1
  | .fstr l, env, μ => (evJ C l Str.empty env μ).bind fun x μ1 => .ok (.str x) μ1
  | .dsp ks l b, env, μ => if ks.Nodup ∧ ks.length = l.length ∧ ks.length ≤ 15 then (evL C l env μ).bind fun ds μ1 => (ev C b env μ1).bind fun y μ2 => opt (dspP ks ds y) μ2 else .stuck
  | .no, _, _ => .stuck
  | .rng1 _, _, _ => .stuck
  | .rng2 _ _, _, _ => .stuck
  | .seqL _, _, _ => .stuck
  | .seqT _, _, _ => .stuck
  | .zip _ _, _, _ => .stuck
  | .enum _, _, _ => .stuck
def evL (C : Calls) : List E → List SV → Store → Rs (List PyData)
  | [], _, μ => .ok [] μ
  | e :: r, env, μ => if e.isBv then .stuck else (ev C e env μ).bind fun d μ1 => (evL C r env μ1).bind fun ds μ2 => .ok (d :: ds) μ2
def evB (C : Calls) : List E → List SV → Store → Rs (List PyData)
  | [], _, μ => .ok [] μ
  | e :: r, env, μ => (ev C e env μ).bind fun d μ1 => (evB C r env μ1).bind fun ds μ2 => .ok (d :: ds) μ2
def evJ (C : Calls) : List E → Str → List SV → Store → Rs Str
  | [], acc, _, μ => .ok acc μ
  | e :: r, acc, env, μ => (ev C e env μ).bind fun x μ1 => match x with
    | .str y => if (acc ++ y).length ≤ lim then evJ C r (acc ++ y) env μ1 else .stuck
    | _ => .stuck
def evI (C : Calls) : E → List SV → Store → Rs (List PyData)
  | .rng1 a, env, μ => (ev C a env μ).bind fun x μ1 => match x with
    | .int j => if -two62 ≤ j ∧ j < two62 then .ok (rngD 0 j.toNat) μ1 else .stuck
    | _ => .stuck
  | .rng2 a b, env, μ => (ev C a env μ).bind fun x μ1 => (ev C b env μ1).bind fun y μ2 => match x, y with
    | .int i, .int j => if -two62 ≤ i ∧ i < two62 ∧ -two62 ≤ j ∧ j < two62 then .ok (rngD i (j - i).toNat) μ2 else .stuck
    | _, _ => .stuck
  | .seqL a, env, μ => if a.isBv then .stuck else (ev C a env μ).bind fun x μ1 => match x with
    | .list ds => .ok ds μ1
    | _ => .stuck
  | .seqT a, env, μ => (ev C a env μ).bind fun x μ1 => match x with
    | .tuple ds => .ok ds μ1
    | _ => .stuck
  | .zip a b, env, μ => if a.isBv || b.isBv then .stuck else (ev C a env μ).bind fun x μ1 => (ev C b env μ1).bind fun y μ2 => match x, y with
    | .list xs, .list ys => .ok (zipD xs ys) μ2
    | _, _ => .stuck
  | .enum a, env, μ => if a.isBv then .stuck else (ev C a env μ).bind fun x μ1 => match x with
    | .list xs => .ok (enumD 0 xs) μ1
    | _ => .stuck
  | _, _, _ => .stuck
end
end PVL
end

section
set_option Elab.async false
set_option linter.all false
set_option maxRecDepth 100000
set_option maxHeartbeats 2000000
namespace PVL
open PySem PySem.Spec PyProof.Rows L2

/-! # The readings of the small language -/
def noW : WX := fun _ _ _ _ => False
/-- what a def that computes C f promises -/
def spOf (K : PySem.W.Frag) (cl : Nat → Addr) (C : Calls) (f : Nat) : Sp := fun vs H Q E => ∃ W ds, WOk K cl W H ∧ RepL K W.F W.ι vs ds ∧
  match C f ds W.μ with
  | .ok d μ' => ∀ v W' H', W'.μ = μ' → WOk K cl W' H' → Go W H W' H' → Rep K W'.F W'.ι v d → Q v H'
  | .ex c μ' => ∀ W' H', W'.μ = μ' → WOk K cl W' H' → Go W H W' H' → E (.ref (cl c)) none H'
  | .stuck => False
def vOf : PyData → V
  | .bool b => .bl b
  | .int i => .int i
  | .str x => .str x
  | _ => .non
def rIsN' : R2 := fun x y H Q => y = .non ∧ Q (.bl (decide (x = .non))) H
def rNotN' : R2 := fun x y H Q => y = .non ∧ Q (.bl (!decide (x = .non))) H
def tgL : List Nat → TGs
  | [] => gNil
  | i :: is => gCons (gName i) (tgL is)
def Tg.rd (K : PySem.W.Frag) : Tg → TG
  | .nm i => gName i
  | .tp l => gTup K l.length (tgL l)
section
variable (K : PySem.W.Frag) (cl : Nat → Addr) (C : Calls)
def rdO' (e : E) (t : TE) : TO := match e with
  | .no => tNoPart
  | _ => tPart t
def rdC' (e : E) (t : TT) : TT := match e with
  | .no => tYes
  | _ => t
mutual
/-- as a value; as a test -/
def rd2 : WX → E → TE × TT
  | _, .var i => (tVar i, tB (tVar i))
  | _, .bv i => (tVar i, tB (tVar i))
  | _, .cst d => (tC (vOf d), tB (tC (vOf d)))
  | Wx, .bin o a b => (tOp (rBin K o) (rd2 Wx a).1 (rd2 Wx b).1, tB (tOp (rBin K o) (rd2 Wx a).1 (rd2 Wx b).1))
  | Wx, .neg a => (tUn (rU fun i => .int (-i)) (rd2 Wx a).1, tB (tUn (rU fun i => .int (-i)) (rd2 Wx a).1))
  | Wx, .cmp o a b => (tOp (rCmp K o) (rd2 Wx a).1 (rd2 Wx b).1, tB (tOp (rCmp K o) (rd2 Wx a).1 (rd2 Wx b).1))
  | Wx, .isn ng a => (tOp (if ng then rNotN' else rIsN') (rd2 Wx a).1 (tC .non), tB (tOp (if ng then rNotN' else rIsN') (rd2 Wx a).1 (tC .non)))
  | Wx, .chain o o' a b c => (tChain (rCmp K o) (rCmp K o') (rd2 Wx a).1 (rd2 Wx b).1 (rd2 Wx c).1, tB (tChain (rCmp K o) (rCmp K o') (rd2 Wx a).1 (rd2 Wx b).1 (rd2 Wx c).1))
  | Wx, .and a b => (tAndV (rd2 Wx a).1 (rd2 Wx b).1, tAnd (rd2 Wx a).2 (rd2 Wx b).2)
  | Wx, .or a b => (tOrV (rd2 Wx a).1 (rd2 Wx b).1, tOr (rd2 Wx a).2 (rd2 Wx b).2)
  | Wx, .not a => (tNotV (rd2 Wx a).1, tNot (rd2 Wx a).2)
  | Wx, .tru a => (fun σ H Q => (rd2 Wx a).1 σ H fun x H' => ∃ k, TruV K x H' k ∧ Q (.bl k) H', fun σ H Q => (rd2 Wx a).1 σ H fun x H' => ∃ k, TruV K x H' k ∧ Q k H')
  | Wx, .ite c a b => (tIf (rd2 Wx c).2 (rd2 Wx a).1 (rd2 Wx b).1, tB (tIf (rd2 Wx c).2 (rd2 Wx a).1 (rd2 Wx b).1))
  | Wx, .tup l => (tTup (rdL Wx l), tB (tTup (rdL Wx l)))
  | Wx, .lst l => (tLst (rdL Wx l), tB (tLst (rdL Wx l)))
  | Wx, .idx a b => (tOp (rIx K) (rd2 Wx a).1 (rd2 Wx b).1, tB (tOp (rIx K) (rd2 Wx a).1 (rd2 Wx b).1))
  | Wx, .slc a lo hi => (tSl (rSlc K) (rd2 Wx a).1 (rdO' lo (rd2 Wx lo).1) (rdO' hi (rd2 Wx hi).1), tB (tSl (rSlc K) (rd2 Wx a).1 (rdO' lo (rd2 Wx lo).1) (rdO' hi (rd2 Wx hi).1)))
  | Wx, .call f l => (tCallS (spOf K cl C f) (WE Wx) (rdL Wx l), tB (tCallS (spOf K cl C f) (WE Wx) (rdL Wx l)))
  | Wx, .bi b l => (tCB (rBi K b) (rdL Wx l), tB (tCB (rBi K b) (rdL Wx l)))
  | Wx, .isi T a => (tCB (rIsi K) (tCons (rd2 Wx a).1 (tCons (tC (.ty T)) tNil)), tB (tCB (rIsi K) (tCons (rd2 Wx a).1 (tCons (tC (.ty T)) tNil))))
  | Wx, .join a b => (tM1 (rJoin K) (rd2 Wx a).1 (rd2 Wx b).1, tB (tM1 (rJoin K) (rd2 Wx a).1 (rd2 Wx b).1))
  | Wx, .comp it tg c e vs => (tLc (rdI Wx it) (tg.rd K) (rdC' c (rd2 noW c).2) (rd2 noW e).1 vs, tB (tLc (rdI Wx it) (tg.rd K) (rdC' c (rd2 noW c).2) (rd2 noW e).1 vs))
  | Wx, .fmt a => (tFmt (rd2 Wx a).1, tB (tFmt (rd2 Wx a).1))
  | Wx, .fstr l => (fun σ H Q => rdJ Wx l Str.empty σ H fun out H1 => Q (.str out) H1, tB (fun σ H Q => rdJ Wx l Str.empty σ H fun out H1 => Q (.str out) H1))
  | Wx, .dsp ks l b => (tDGet (tDisp (rdP Wx ks l)) (rd2 Wx b).1, tB (tDGet (tDisp (rdP Wx ks l)) (rd2 Wx b).1))
  | _, .no => (fun _ _ _ => False, fun _ _ _ => False)
  | _, .rng1 _ => (fun _ _ _ => False, fun _ _ _ => False)
  | _, .rng2 _ _ => (fun _ _ _ => False, fun _ _ _ => False)
  | _, .seqL _ => (fun _ _ _ => False, fun _ _ _ => False)
  | _, .seqT _ => (fun _ _ _ => False, fun _ _ _ => False)
  | _, .zip _ _ => (fun _ _ _ => False, fun _ _ _ => False)
  | _, .enum _ => (fun _ _ _ => False, fun _ _ _ => False)
def rdP : WX → List Str → List E → List (TE × TE)
  | _, _, [] => []
  | Wx, ks, e :: r => (tC (.str (ks.headD Str.empty)), (rd2 Wx e).1) :: rdP Wx ks.tail r
def rdL : WX → List E → TA
  | _, [] => tNil
  | Wx, e :: r => tCons (rd2 Wx e).1 (rdL Wx r)
def rdJ : WX → List E → Str → L2.St → Hp → (Str → Hp → Prop) → Prop
  | _, [], acc, _, H, Q => Q acc H
  | Wx, e :: r, acc, σ, H, Q => (rd2 Wx e).1 σ H fun x H1 => ∃ y : Str, x = .str y ∧ (acc ++ y).length ≤ sizeLine ∧ rdJ Wx r (acc ++ y) σ H1 Q
def rdI : WX → E → TI
  | Wx, .rng1 a => iRng1 (tCons (rd2 Wx a).1 tNil)
  | Wx, .rng2 a b => iRng2 (tCons (rd2 Wx a).1 (tCons (rd2 Wx b).1 tNil))
  | Wx, .seqL a => iList K (rd2 Wx a).1
  | Wx, .seqT a => iTup K (rd2 Wx a).1
  | Wx, .zip a b => iZip K (tCons (rd2 Wx a).1 (tCons (rd2 Wx b).1 tNil))
  | Wx, .enum a => iEnum K (tCons (rd2 Wx a).1 tNil)
  | _, _ => fun _ _ _ => False
end
end

/-! # The readings are what the small language computes -/
/-- what is wished behind a computed value -/
def Want (K : PySem.W.Frag) (cl : Nat → Addr) (Wx : WX) (W : Wd) (H : Hp) (σ : L2.St) (Q : VK) (bv : Bool) : Rs PyData → Prop
  | .ok d μ' => ∀ v W' H', W'.μ = μ' → WOk K cl W' H' → Go W H W' H' → RepB K W' H' v d → (bv = false → Rep K W'.F W'.ι v d) → Q v H'
  | .ex c μ' => ∀ W' H', W'.μ = μ' → WOk K cl W' H' → Go W H W' H' → Wx (.ref (cl c)) none σ H'
  | .stuck => False
def WantT (K : PySem.W.Frag) (cl : Nat → Addr) (Wx : WX) (W : Wd) (H : Hp) (σ : L2.St) (Q : Bool → Hp → Prop) : Rs PyData → Prop
  | .ok d μ' => ∃ k, d = .bool k ∧ ∀ W' H', W'.μ = μ' → WOk K cl W' H' → Go W H W' H' → Q k H'
  | .ex c μ' => ∀ W' H', W'.μ = μ' → WOk K cl W' H' → Go W H W' H' → Wx (.ref (cl c)) none σ H'
  | .stuck => False
def WantL (K : PySem.W.Frag) (cl : Nat → Addr) (Wx : WX) (W : Wd) (H : Hp) (σ : L2.St) (Q : List V → Hp → Prop) : Rs (List PyData) → Prop
  | .ok d μ' => ∀ v W' H', W'.μ = μ' → WOk K cl W' H' → Go W H W' H' → RepL K W'.F W'.ι v d → Q v H'
  | .ex c μ' => ∀ W' H', W'.μ = μ' → WOk K cl W' H' → Go W H W' H' → Wx (.ref (cl c)) none σ H'
  | .stuck => False
def WantB (K : PySem.W.Frag) (cl : Nat → Addr) (Wx : WX) (W : Wd) (H : Hp) (σ : L2.St) (Q : List V → Hp → Prop) : Rs (List PyData) → Prop
  | .ok d μ' => ∀ v W' H', W'.μ = μ' → WOk K cl W' H' → Go W H W' H' → RepsB K W' H' v d → Q v H'
  | .ex c μ' => ∀ W' H', W'.μ = μ' → WOk K cl W' H' → Go W H W' H' → Wx (.ref (cl c)) none σ H'
  | .stuck => False
/-- a walked thing yields these values -/
def ItOk (K : PySem.W.Frag) (cl : Nat → Addr) (F : Hp) (ι : List Addr) (J : It) (ds : List PyData) : Prop :=
  ∀ W H, WOk K cl W H → Sub F W.F → ι <+: W.ι → ∀ i : Nat, (∀ d, ds[i]? = some d → J.go i H ∧ ∀ x H', J.yld i H x H' → ∃ W', W'.μ = W.μ ∧ WOk K cl W' H' ∧ Go W H W' H' ∧ Rep K W'.F W'.ι x d) ∧ (ds.length ≤ i → J.stop i H)
def WantI (K : PySem.W.Frag) (cl : Nat → Addr) (Wx : WX) (W : Wd) (H : Hp) (σ : L2.St) (R : It → Hp → Prop) : Rs (List PyData) → Prop
  | .ok ds μ' => ∀ J W' H', W'.μ = μ' → WOk K cl W' H' → Go W H W' H' → ItOk K cl W'.F W'.ι J ds → R J H'
  | .ex c μ' => ∀ W' H', W'.μ = μ' → WOk K cl W' H' → Go W H W' H' → Wx (.ref (cl c)) none σ H'
  | .stuck => False
section
variable (K : PySem.W.Frag) (cl : Nat → Addr) (Wx : WX)
def Sd (t : TE) (env : List SV) (μ : Store) (bv : Bool) (r : Rs PyData) : Prop := ∀ H0 W H σ Q, W.μ = μ → WOk K cl W H → EnvOk K H0 W H env σ → Want K cl Wx W H σ Q bv r → t σ H Q
def SdT (t : TT) (env : List SV) (μ : Store) (r : Rs PyData) : Prop := ∀ H0 W H σ Q, W.μ = μ → WOk K cl W H → EnvOk K H0 W H env σ → WantT K cl Wx W H σ Q r → t σ H Q
def SdL (t : TA) (env : List SV) (μ : Store) (r : Rs (List PyData)) : Prop := ∀ H0 W H σ Q, W.μ = μ → WOk K cl W H → EnvOk K H0 W H env σ → WantL K cl Wx W H σ Q r → t σ H Q
def SdB (t : TA) (env : List SV) (μ : Store) (r : Rs (List PyData)) : Prop := ∀ H0 W H σ Q, W.μ = μ → WOk K cl W H → EnvOk K H0 W H env σ → WantB K cl Wx W H σ Q r → t σ H Q
def SdI (t : TI) (env : List SV) (μ : Store) (r : Rs (List PyData)) : Prop := ∀ H0 W H σ Q, W.μ = μ → WOk K cl W H → EnvOk K H0 W H env σ → WantI K cl Wx W H σ Q r → t σ H Q
end
section
variable {K : PySem.W.Frag} {cl : Nat → Addr} {Wx : WX} {env : List SV} {μ : Store} {ta tb tc te : TE} {ra rb : Rs PyData} {b1 b2 b3 bv : Bool}
/-- an error passes on -/
theorem exUp {W W1 : Wd} {H H1 : Hp} {σ : L2.St} {c : Nat} {μ' : Store} (g : Go W H W1 H1) (h : ∀ W' H', W'.μ = μ' → WOk K cl W' H' → Go W H W' H' → Wx (.ref (cl c)) none σ H') :
    ∀ W' H', W'.μ = μ' → WOk K cl W' H' → Go W1 H1 W' H' → Wx (.ref (cl c)) none σ H' := fun W' H' m o g' => h W' H' m o (g.trans g')
theorem postUp {W W1 : Wd} {H H1 : Hp} {σ : L2.St} {d : PyData} {Q : VK} (g : Go W H W1 H1) (h : Want K cl Wx W H σ Q bv (.ok d W1.μ)) : PostB K cl W1 H1 d Q := fun v W' H' m o g' r => h v W' H' m o (g.trans g') (.inl r) fun _ => r
theorem sd_test (h : Sd K cl Wx te env μ bv ra) : SdT K cl Wx (tB te) env μ ra := fun H0 W H σ Q m o en w => by
  refine h H0 W H σ _ m o en ?_
  cases ra with
  | ok d μ' =>
    obtain ⟨k, rfl, w⟩ := w
    exact fun v W' H' m' o' g r _ => ⟨k, r.bl, w W' H' m' o' g⟩
  | ex c μ' => exact w
  | stuck => exact w
theorem sd_op {r : R2} {f : PyData → PyData → Option PyData} {fb : Store → Rs PyData} (ha : Sd K cl Wx ta env μ b1 ra) (hb : ∀ μ1, Sd K cl Wx tb env μ1 b2 (fb μ1))
    (hop : ∀ {W : Wd} {H : Hp} {x y : V} {d e z : PyData} {Q : VK}, WOk K cl W H → f d e = some z → RepB K W H x d → RepB K W H y e → PostB K cl W H z Q → r x y H Q) :
    Sd K cl Wx (tOp r ta tb) env μ bv (ra.bind fun x μ1 => (fb μ1).bind fun y μ2 => opt (f x y) μ2) := fun H0 W H σ Q m o en w => by
  refine ha H0 W H σ _ m o en ?_
  cases ra with
  | ex c μ' => exact w
  | stuck => exact w
  | ok d μ1 =>
    intro v W1 H1 m1 o1 g1 r1 _
    refine hb μ1 H0 W1 H1 σ _ m1 o1 (en.go g1) ?_
    rw [Rs.bind_ok] at w
    cases eb : fb μ1 with
    | ex c μ' => rw [eb] at w; exact exUp g1 w
    | stuck => rw [eb] at w; exact w
    | ok e μ2 =>
      rw [eb, Rs.bind_ok] at w
      intro u W2 H2 m2 o2 g2 r2 _
      cases ef : f d e with
      | none => rw [ef] at w; exact w.elim
      | some z =>
        rw [ef, opt_some] at w
        subst m2
        exact hop o2 ef (r1.go g2) r2 (postUp (g1.trans g2) w)
theorem sd_weak (h : Sd K cl Wx te env μ false ra) : Sd K cl Wx te env μ bv ra := fun H0 W H σ Q m o en w => h H0 W H σ Q m o en (by
  cases ra with
  | ok d μ' => exact fun v W' H' m' o' g r r' => w v W' H' m' o' g r fun _ => r' rfl
  | ex c μ' => exact w
  | stuck => exact w)
theorem sdL_nil : SdL K cl Wx tNil env μ (.ok [] μ) := fun H0 W H σ Q m o en w => w [] W H m o (Go.refl _ _) .nil
theorem sdB_nil : SdB K cl Wx tNil env μ (.ok [] μ) := fun H0 W H σ Q m o en w => w [] W H m o (Go.refl _ _) .nil
theorem sdL_cons {t : TA} {fb : Store → Rs (List PyData)} (ha : Sd K cl Wx ta env μ false ra) (hb : ∀ μ1, SdL K cl Wx t env μ1 (fb μ1)) : SdL K cl Wx (tCons ta t) env μ (ra.bind fun d μ1 => (fb μ1).bind fun ds μ2 => .ok (d :: ds) μ2) := fun H0 W H σ Q m o en w => by
  refine ha H0 W H σ _ m o en ?_
  cases ra with
  | ex c μ' => exact w
  | stuck => exact w
  | ok d μ1 =>
    intro v W1 H1 m1 o1 g1 _ r1
    refine hb μ1 H0 W1 H1 σ _ m1 o1 (en.go g1) ?_
    rw [Rs.bind_ok] at w
    cases eb : fb μ1 with
    | ex c μ' => rw [eb] at w; exact exUp g1 w
    | stuck => rw [eb] at w; exact w
    | ok e μ2 =>
      rw [eb, Rs.bind_ok] at w
      intro u W2 H2 m2 o2 g2 r2
      exact w (v :: u) W2 H2 m2 o2 (g1.trans g2) (.cons (g2.rep (r1 rfl)) r2)
theorem sdB_cons {t : TA} {fb : Store → Rs (List PyData)} (ha : Sd K cl Wx ta env μ b1 ra) (hb : ∀ μ1, SdB K cl Wx t env μ1 (fb μ1)) : SdB K cl Wx (tCons ta t) env μ (ra.bind fun d μ1 => (fb μ1).bind fun ds μ2 => .ok (d :: ds) μ2) := fun H0 W H σ Q m o en w => by
  refine ha H0 W H σ _ m o en ?_
  cases ra with
  | ex c μ' => exact w
  | stuck => exact w
  | ok d μ1 =>
    intro v W1 H1 m1 o1 g1 r1 _
    refine hb μ1 H0 W1 H1 σ _ m1 o1 (en.go g1) ?_
    rw [Rs.bind_ok] at w
    cases eb : fb μ1 with
    | ex c μ' => rw [eb] at w; exact exUp g1 w
    | stuck => rw [eb] at w; exact w
    | ok e μ2 =>
      rw [eb, Rs.bind_ok] at w
      intro u W2 H2 m2 o2 g2 r2
      exact w (v :: u) W2 H2 m2 o2 (g1.trans g2) (.cons (r1.go g2) r2)
theorem sd_stuck {t : TE} : Sd K cl Wx t env μ bv .stuck := fun _ _ _ _ _ _ _ _ w => w.elim
theorem sdI_stuck {t : TI} : SdI K cl Wx t env μ .stuck := fun _ _ _ _ _ _ _ _ w => w.elim
theorem sdL_stuck {t : TA} : SdL K cl Wx t env μ .stuck := fun _ _ _ _ _ _ _ _ w => w.elim
/-- an operation on a list of values -/
theorem sd_ta {t : TA} {r : List V → Hp → VK → Prop} {f : List PyData → Option PyData} {rl : Rs (List PyData)} (h : SdB K cl Wx t env μ rl)
    (hop : ∀ {W : Wd} {H : Hp} {vs : List V} {ds : List PyData} {z : PyData} {Q : VK}, WOk K cl W H → f ds = some z → RepsB K W H vs ds → PostB K cl W H z Q → r vs H Q) :
    Sd K cl Wx (tCB r t) env μ bv (rl.bind fun ds μ1 => opt (f ds) μ1) := fun H0 W H σ Q m o en w => by
  refine h H0 W H σ _ m o en ?_
  cases rl with
  | ex c μ' => exact w
  | stuck => exact w
  | ok ds μ1 =>
    intro vs W1 H1 m1 o1 g1 r1
    rw [Rs.bind_ok] at w
    cases ef : f ds with
    | none => rw [ef] at w; exact w.elim
    | some z =>
      rw [ef, opt_some] at w
      subst m1
      exact hop o1 ef r1 (postUp g1 w)
/-- an operation on a value -/
theorem sd_1 {k : V → Hp → VK → Prop} {f : PyData → Option PyData} (h : Sd K cl Wx ta env μ b1 ra)
    (hop : ∀ {W : Wd} {H : Hp} {x : V} {d z : PyData} {Q : VK}, WOk K cl W H → f d = some z → RepB K W H x d → PostB K cl W H z Q → k x H Q) :
    Sd K cl Wx (fun σ H Q => ta σ H fun x H1 => k x H1 Q) env μ bv (ra.bind fun x μ1 => opt (f x) μ1) := fun H0 W H σ Q m o en w => by
  refine h H0 W H σ _ m o en ?_
  cases ra with
  | ex c μ' => exact w
  | stuck => exact w
  | ok d μ1 =>
    intro v W1 H1 m1 o1 g1 r1 _
    rw [Rs.bind_ok] at w
    cases ef : f d with
    | none => rw [ef] at w; exact w.elim
    | some z =>
      rw [ef, opt_some] at w
      subst m1
      exact hop o1 ef r1 (postUp g1 w)
theorem isi_ok {T : String} {W : Wd} {H : Hp} {x : V} {d z : PyData} {Q : VK} (o : WOk K cl W H) (hz : (isiP T d).map PyData.bool = some z) (rx : RepB K W H x d) (k : PostB K cl W H z Q) : rIsi K [x, .ty T] H Q := by
  cases e : isiP T d with
  | none => rw [e] at hz; cases hz
  | some b =>
    rw [e] at hz
    cases hz
    have k' := k.here o (.bl b)
    unfold isiP at e
    split at e
    · cases rx.non; exact ⟨_, _, _, _, b, rfl, .ty T, .base .non, kit_ty e, k'⟩
    · cases rx.bl; exact ⟨_, _, _, _, b, rfl, .ty T, .base (.bl _), kit_ty e, k'⟩
    · cases rx.int; exact ⟨_, _, _, _, b, rfl, .ty T, .base (.int _), kit_ty e, k'⟩
    · cases rx.str; exact ⟨_, _, _, _, b, rfl, .ty T, .base (.str _), kit_ty e, k'⟩
    · obtain ⟨a, vs, rfl, hs, r⟩ := rx.lst o
      rcases hs with (hs | ⟨ob, hs⟩) | ⟨ob, its, n, h1, h2, _⟩
      · exact ⟨_, _, _, _, b, rfl, .ty T, .base (.lst hs), kit_ty e, k'⟩
      · exact ⟨_, _, _, _, b, rfl, .ty T, .base (.frz hs), kit_ty e, k'⟩
      · exact ⟨_, _, _, _, b, rfl, .ty T, .kList h1 h2, kit_ty e, k'⟩
    · obtain ⟨a, vs, rfl, hs, r⟩ := rx.tup o
      rcases hs with (hs | ⟨ob, hs⟩) | ⟨ob, its, n, h1, h2, _⟩
      · exact ⟨_, _, _, _, b, rfl, .ty T, .base (.tup hs), kit_ty e, k'⟩
      · exact ⟨_, _, _, _, b, rfl, .ty T, .fTuple hs, kit_ty e, k'⟩
      · exact ⟨_, _, _, _, b, rfl, .ty T, .kTuple h1 h2, kit_ty e, k'⟩
    · cases e
end
end PVL
end

section
set_option Elab.async false
set_option linter.all false
set_option maxRecDepth 100000
set_option maxHeartbeats 2000000
namespace PVL
open PySem PySem.Spec PyProof.Rows L2
section
variable {K : PySem.W.Frag} {cl : Nat → Addr} {Wx : WX} {W W' : Wd} {H H' H0 : Hp} {env : List SV} {σ : L2.St}
/-! ## frames that change -/
theorem EnvOk.set {v : V} {d : PyData} (h : EnvOk K H0 W H env σ) (r : Rep K W.F W.ι v d) (i : Nat) : EnvOk K H0 W H (env.set i (.pv d)) (σ.set i (some v)) := by
  refine ⟨by simp [h.len], fun j s e => ?_, fun j k l l' hjk e1 e2 => ?_⟩
  · by_cases hj : i = j
    · subst hj
      by_cases hl : i < env.length
      · rw [List.getElem?_set_self hl] at e
        cases e
        exact ⟨v, by rw [List.getElem?_set_self (by rw [h.len]; exact hl)], r⟩
      · rw [List.getElem?_eq_none (by simp; omega)] at e; cases e
    · rw [List.getElem?_set_ne hj] at e
      rw [List.getElem?_set_ne hj]
      exact h.slots j s e
  · have nj : i ≠ j := fun z => by
      subst z
      by_cases hl : i < env.length
      · rw [List.getElem?_set_self hl] at e1; cases e1
      · rw [List.getElem?_eq_none (by simp; omega)] at e1; cases e1
    have nk : i ≠ k := fun z => by
      subst z
      by_cases hl : i < env.length
      · rw [List.getElem?_set_self hl] at e2; cases e2
      · rw [List.getElem?_eq_none (by simp; omega)] at e2; cases e2
    rw [List.getElem?_set_ne nj] at e1 ⊢
    rw [List.getElem?_set_ne nk] at e2 ⊢
    exact h.apart j k l l' hjk e1 e2
theorem EnvOk.unset (h : EnvOk K H0 W H env σ) (i : Nat) (o : Option V) : EnvOk K H0 W H (env.set i .un) (σ.set i o) := by
  refine ⟨by simp [h.len], fun j s e => ?_, fun j k l l' hjk e1 e2 => ?_⟩
  · by_cases hj : i = j
    · subst hj
      by_cases hl : i < env.length
      · rw [List.getElem?_set_self hl] at e
        cases e
        exact trivial
      · rw [List.getElem?_eq_none (by simp; omega)] at e; cases e
    · rw [List.getElem?_set_ne hj] at e
      rw [List.getElem?_set_ne hj]
      exact h.slots j s e
  · have nj : i ≠ j := fun z => by
      subst z
      by_cases hl : i < env.length
      · rw [List.getElem?_set_self hl] at e1; cases e1
      · rw [List.getElem?_eq_none (by simp; omega)] at e1; cases e1
    have nk : i ≠ k := fun z => by
      subst z
      by_cases hl : i < env.length
      · rw [List.getElem?_set_self hl] at e2; cases e2
      · rw [List.getElem?_eq_none (by simp; omega)] at e2; cases e2
    rw [List.getElem?_set_ne nj] at e1 ⊢
    rw [List.getElem?_set_ne nk] at e2 ⊢
    exact h.apart j k l l' hjk e1 e2
theorem EnvOk.wipe (h : EnvOk K H0 W H env σ) : ∀ vs : List Nat, EnvOk K H0 W H (wipeE env vs) (L2.wipe σ vs)
  | [] => h
  | v :: vs => (EnvOk.wipe h vs).unset v none
theorem wipeE_len (env : List SV) : ∀ vs : List Nat, (wipeE env vs).length = env.length
  | [] => rfl
  | v :: vs => by unfold wipeE; rw [List.length_set, wipeE_len env vs]
theorem wipe_at {σ : L2.St} {j : Nat} : ∀ {vs : List Nat}, j ∈ vs → j < σ.length → (L2.wipe σ vs)[j]? = some none
  | v :: vs, hm, hl => by
    unfold L2.wipe
    by_cases e : v = j
    · subst e
      rw [List.getElem?_set_self (by rw [wipe_length]; exact hl)]
    · rw [List.getElem?_set_ne e]
      exact wipe_at (by rcases List.mem_cons.mp hm with z | z; exact absurd z.symm e; exact z) hl
theorem wipe_eq {σ σ2 : L2.St} {vs : List Nat} (hl : σ2.length = σ.length) (h : ∀ j, j ∉ vs → σ2[j]? = σ[j]?) : L2.wipe σ2 vs = L2.wipe σ vs := by
  apply List.ext_getElem?
  intro j
  by_cases hj : j ∈ vs
  · by_cases hlt : j < σ.length
    · rw [wipe_at hj hlt, wipe_at hj (by omega)]
    · rw [List.getElem?_eq_none (by rw [wipe_length]; omega), List.getElem?_eq_none (by rw [wipe_length]; omega)]
  · rw [wipe_out hj, wipe_out hj, h j hj]
/-- the frames alike but for some slots -/
def Near (l : List Nat) (σ σ2 : L2.St) : Prop := σ2.length = σ.length ∧ ∀ j, j ∉ l → σ2[j]? = σ[j]?
theorem putL_ok {Q : L2.St → Hp → Prop} : ∀ {is : List Nat} {ds : List PyData} {vs : List V} {env env' : List SV} {σ : L2.St}, EnvOk K H0 W H env σ → RepL K W.F W.ι vs ds → putL is ds env = some env' →
    (∀ σ2, EnvOk K H0 W H env' σ2 → Near is σ σ2 → Q σ2 H) → tgL is vs σ H Q
  | [], [], _, _, _, σ, h, r, e, k => by
    cases r
    cases e
    exact ⟨rfl, k σ h ⟨rfl, fun _ _ => rfl⟩⟩
  | i :: is, d :: ds, _, _, _, σ, h, r, e, k => by
    cases r with
    | cons r1 r2 =>
      refine ⟨_, _, rfl, ?_⟩
      exact putL_ok (h.set r1 i) r2 e fun σ2 h2 n => k σ2 h2 ⟨by rw [n.1, List.length_set], fun j hj => by
        rw [n.2 j (fun z => hj (List.mem_cons_of_mem _ z)), List.getElem?_set_ne (fun z => hj (by rw [z]; exact List.mem_cons_self))]⟩
  | [], _ :: _, _, _, _, _, _, _, e, _ => by cases e
  | _ :: _, [], _, _, _, _, _, _, e, _ => by cases e
theorem putL_len : ∀ {is : List Nat} {ds : List PyData} {env env' : List SV}, putL is ds env = some env' → is.length = ds.length
  | [], [], _, _, _ => rfl
  | i :: is, d :: ds, env, _, e => by simp [putL_len (is := is) (ds := ds) (env := env.set i (.pv d)) e]
  | [], _ :: _, _, _, e => by cases e
  | _ :: _, [], _, _, e => by cases e
theorem tg_ok {Q : L2.St → Hp → Prop} {tg : Tg} {v : V} {d : PyData} {env' : List SV} (ok : WOk K cl W H) (h : EnvOk K H0 W H env σ) (r : Rep K W.F W.ι v d) (e : tg.put d env = some env')
    (k : ∀ σ2, EnvOk K H0 W H env' σ2 → Near tg.slots σ σ2 → Q σ2 H) : tg.rd K v σ H Q := by
  cases tg with
  | nm i =>
    cases e
    exact k _ (h.set r i) ⟨by simp, fun j hj => by rw [List.getElem?_set_ne (fun z => hj (by rw [z]; exact List.mem_cons_self))]⟩
  | tp l =>
    unfold Tg.put at e
    split at e
    · cases ‹Tg.tp _ = Tg.nm _›
    · rename_i l' ds _ he
      cases he
      cases r with
      | tup hs hl =>
        exact ⟨_, _, rfl, Evl.ex_t ok.fh hs, by rw [hl.length, putL_len e], putL_ok h hl e k⟩
    · cases e

/-! ## a comprehension -/
theorem Go.mut {p : Addr} {o : HO} (g : Go W H W' H') (hp : H p = none) : Go W H W' (upd H' p o) :=
  ⟨g.f, g.fn, g.i, g.inew, fun b u e m => by rw [upd_ne (ne_of_none e hp)]; exact g.keep b u e m, fun b h => by
    have n : b ≠ p := by intro z; subst z; exact h hp
    rw [upd_ne n]
    exact g.there b h⟩
theorem CellAt.updNe {F : Hp} {ι : List Addr} {a p : Addr} {o : HO} {c : Cell} (hp : a ≠ p) (h : CellAt K cl F ι H a c) : CellAt K cl F ι (L2.upd H p o) a c := by
  cases c with
  | lst l =>
    obtain ⟨vs, e, r⟩ := h
    exact ⟨vs, by rw [upd_ne hp]; exact e, r⟩
  | dct l =>
    obtain ⟨kvs, e, r⟩ := h
    exact ⟨kvs, by rw [upd_ne hp]; exact e, r⟩
  | ins c fs =>
    obtain ⟨dx, l, e, r⟩ := h
    exact ⟨dx, l, by rw [upd_ne hp]; exact e, r⟩
/-- an object that is not told of changes -/
theorem WOk.mut {p : Addr} {o : HO} (ok : WOk K cl W H) (hF : W.F p = none) (hi : p ∉ W.ι) : WOk K cl W (upd H p o) :=
  ⟨fun b u e => by rw [upd_ne (ne_of_none e hF)]; exact ok.fh b u e, ok.iu, ok.len, fun n c a e1 e2 => (ok.cells n c a e1 e2).updNe (by intro z; subst z; exact hi (List.mem_of_getElem? e2)), ok.ap⟩
/-- what is wished of a new list -/
def WantN (K : PySem.W.Frag) (cl : Nat → Addr) (Wx : WX) (W : Wd) (H : Hp) (σ : L2.St) (Q : VK) : Rs PyData → Prop
  | .ok d μ' => ∃ l, d = .list l ∧ ∀ p vs W' H', W'.μ = μ' → WOk K cl W' H' → Go W H W' H' → H p = none → W'.F p = none → p ∉ W'.ι → H' p = some (.lst vs) → RepL K W'.F W'.ι vs l → Q (.ref p) H'
  | .ex c μ' => ∀ W' H', W'.μ = μ' → WOk K cl W' H' → Go W H W' H' → Wx (.ref (cl c)) none σ H'
  | .stuck => False
def SdN (K : PySem.W.Frag) (cl : Nat → Addr) (Wx : WX) (t : TE) (env : List SV) (μ : Store) (r : Rs PyData) : Prop :=
  ∀ H0 W H σ Q, W.μ = μ → WOk K cl W H → EnvOk K H0 W H env σ → WantN K cl Wx W H σ Q r → t σ H Q
theorem sd_ofN {t : TE} {μ : Store} {r : Rs PyData} {bv : Bool} (hl : ∀ d μ', r = .ok d μ' → ∃ l, d = .list l) (h : SdN K cl Wx t env μ r) : Sd K cl Wx t env μ bv r := fun H0 W H σ Q m o en w => by
  refine h H0 W H σ Q m o en ?_
  cases r with
  | ex c μ' => exact w
  | stuck => exact w
  | ok d μ' =>
    obtain ⟨l, rfl⟩ := hl _ _ rfl
    refine ⟨l, rfl, fun p vs W' H' m' o' g hp hF hi e rr => ?_⟩
    have r2 : Rep K (W'.fix p (.lst vs)).F (W'.fix p (.lst vs)).ι (.ref p) (.list l) :=
      .lst (SqL.of (show upd W'.F p (.lst vs) p = _ from upd_same)) (RepL.mono (sub_fix hF) (List.prefix_refl _) _ _ rr)
    exact w (.ref p) (W'.fix p (.lst vs)) H' m' (o'.fix hF hi e) (g.fix hF hp) (.inl r2) fun _ => r2
variable {μ : Store}
theorem sdN_comp {wi : TI} {tt : TT} {te : TE} {tg : Tg} {vs : List Nat} {ri : Rs (List PyData)} {fc : List SV → Store → Rs Bool} {fe : List SV → Store → Rs PyData}
    (hi : SdI K cl Wx wi env μ ri) (hc : ∀ env μ, SdT K cl noW tt env μ ((fc env μ).bind fun k μ' => .ok (.bool k) μ')) (he : ∀ env μ, Sd K cl noW te env μ false (fe env μ)) (hv : ∀ i, i ∈ tg.slots → i ∈ vs) (hlen : ∀ ds μ', ri = .ok ds μ' → ds.length ≤ lim) :
    SdN K cl Wx (tLc wi (tg.rd K) tt te vs) env μ (ri.bind fun ds μ1 => match cLoop tg (fun env' μ' => (fc env' μ').bind fun k μ2 => if k then (fe env' μ2).bind fun d μ3 => .ok (some d) μ3 else .ok none μ2) (wipeE env vs) ds μ1 with
      | .ok r μ2 => .ok (.list r) μ2
      | _ => .stuck) := fun H0 W H σ Q m o en w => by
  refine hi H0 W H σ _ m o en ?_
  cases ri with
  | ex c μ' => exact w
  | stuck => exact w
  | ok ds μ1 =>
    have hlim := hlen ds μ1 rfl
    rw [Rs.bind_ok] at w
    intro J W1 H1 m1 o1 g1 it D hD
    generalize hf : (fun (env' : List SV) (μ' : Store) => (fc env' μ').bind fun k μ2 => if k then (fe env' μ2).bind fun d μ3 => .ok (some d) μ3 else .ok none μ2) = f at w
    cases el : cLoop tg f (wipeE env vs) ds μ1 with
    | ex c μ' => rw [el] at w; exact w.elim
    | stuck => rw [el] at w; exact w.elim
    | ok r μ2 =>
      rw [el] at w
      obtain ⟨l, hl, w⟩ := w
      cases hl
      have en1 := en.go g1
      have hFD := o1.fnone hD
      have hiD := o1.notIn hD
      refine ⟨fun i mm Hi => mm = ds.length - i ∧ i ≤ ds.length ∧ ∃ Wi acc done r', WOk K cl Wi Hi ∧ Go W1 H1 Wi Hi ∧ Wi.F D = none ∧ D ∉ Wi.ι ∧ Hi D = some (.lst acc) ∧ RepL K Wi.F Wi.ι acc done ∧ acc.length ≤ i ∧
        cLoop tg f (wipeE env vs) (ds.drop i) Wi.μ = .ok r' μ2 ∧ done ++ r' = r, ⟨ds.length, ?_⟩, ?_⟩
      · refine ⟨by simp, Nat.zero_le _, W1, [], [], r, o1.new hD, Go.new hD, hFD, hiD, upd_same, .nil, Nat.zero_le _, ?_, rfl⟩
        rw [List.drop_zero, m1]
        exact el
      · rintro i mm Hi ⟨rfl, hil, Wi, acc, done, r', oi, gi, hF, hn, hD2, ra, hacc, hcl, hr⟩
        have itI := it Wi Hi oi gi.f gi.i i
        by_cases hlt : i < ds.length
        · obtain ⟨hgo, hy⟩ := itI.1 ds[i] (by simp [hlt])
          have hdrop : ds.drop i = ds[i] :: ds.drop (i + 1) := List.drop_eq_getElem_cons hlt
          rw [hdrop] at hcl
          unfold cLoop at hcl
          refine .inr ⟨hgo, fun Hn => ∃ Wn accn donen rn, WOk K cl Wn Hn ∧ Go W1 H1 Wn Hn ∧ Wn.F D = none ∧ D ∉ Wn.ι ∧ Hn D = some (.lst accn) ∧ RepL K Wn.F Wn.ι accn donen ∧ accn.length ≤ i + 1 ∧
            cLoop tg f (wipeE env vs) (ds.drop (i + 1)) Wn.μ = .ok rn μ2 ∧ donen ++ rn = r, fun H' h' => ⟨ds.length - (i + 1), by omega, rfl, hlt, h'⟩, fun x H' y => ?_⟩
          obtain ⟨W', mμ, o', g', rx⟩ := hy x H' y
          have enw : EnvOk K H0 W' H' (wipeE env vs) (L2.wipe σ vs) := ((en1.wipe vs).go gi).go g'
          cases ep : tg.put ds[i] (wipeE env vs) with
          | none => rw [ep] at hcl; cases hcl
          | some env' =>
            rw [ep] at hcl
            refine tg_ok o' enw rx ep fun σ2 en2 nr => ⟨?_, ?_⟩
            · have e1 := wipe_eq (σ := L2.wipe σ vs) (σ2 := σ2) (vs := vs) nr.1 fun j hj => nr.2 j fun z => hj (hv j z)
              rw [e1]
              exact wipe_eq (wipe_length _ _) fun j hj => wipe_out hj
            · refine hc env' Wi.μ H0 W' H' σ2 _ mμ o' en2 ?_
              have hcl' := hcl
              rw [← hf] at hcl'
              simp only at hcl'
              have hk : H' D = some (.lst acc) := g'.keep D _ hD2 hn
              have hF' : W'.F D = none := g'.fn D (by rw [hD2]; simp) hF
              have hn' : D ∉ W'.ι := fun z => hn (g'.inew D z (by rw [hD2]; simp))
              cases ec : fc env' Wi.μ with
              | ex c μ' => rw [ec] at hcl'; cases hcl'
              | stuck => rw [ec] at hcl'; cases hcl'
              | ok k μ3 =>
                rw [ec, Rs.bind_ok] at hcl'
                refine ⟨k, rfl, fun W3 H3 m3 o3 g3 => ?_⟩
                have hk3 : H3 D = some (.lst acc) := g3.keep D _ hk hn'
                have hF3 : W3.F D = none := g3.fn D (by rw [hk]; simp) hF'
                have hn3 : D ∉ W3.ι := fun z => hn' (g3.inew D z (by rw [hk]; simp))
                cases k with
                | false =>
                  show (if false = true then _ else _)
                  rw [if_neg Bool.false_ne_true]
                  simp only [Bool.false_eq_true, if_false] at hcl'
                  cases ed : cLoop tg (fun (env' : List SV) (μ' : Store) => (fc env' μ').bind fun k μ2 => if k then (fe env' μ2).bind fun d μ3 => .ok (some d) μ3 else .ok none μ2) (wipeE env vs) (ds.drop (i + 1)) μ3 with
                  | ex c μ' => rw [ed] at hcl'; cases hcl'
                  | stuck => rw [ed] at hcl'; cases hcl'
                  | ok r4 μ4 =>
                    rw [ed] at hcl'
                    simp only [Option.toList_none, List.nil_append] at hcl'
                    cases hcl'
                    exact ⟨W3, acc, done, r', o3, (gi.trans g').trans g3, hF3, hn3, hk3, (g'.trans g3).repL ra, by omega, by rw [m3, ← hf]; exact ed, hr⟩
                | true =>
                  show (if true = true then _ else _)
                  rw [if_pos rfl]
                  simp only [if_true] at hcl'
                  refine he env' μ3 H0 W3 H3 σ2 _ m3 o3 (en2.go g3) ?_
                  cases ee : fe env' μ3 with
                  | ex c μ' => rw [ee] at hcl'; cases hcl'
                  | stuck => rw [ee] at hcl'; cases hcl'
                  | ok d μ4 =>
                    rw [ee, Rs.bind_ok] at hcl'
                    simp only at hcl'
                    intro v W4 H4 m4 o4 g4 _ r4
                    have hk4 : H4 D = some (.lst acc) := g4.keep D _ hk3 hn3
                    have hF4 : W4.F D = none := g4.fn D (by rw [hk3]; simp) hF3
                    have hn4 : D ∉ W4.ι := fun z => hn3 (g4.inew D z (by rw [hk3]; simp))
                    cases ed : cLoop tg (fun (env' : List SV) (μ' : Store) => (fc env' μ').bind fun k μ2 => if k then (fe env' μ2).bind fun d μ3 => .ok (some d) μ3 else .ok none μ2) (wipeE env vs) (ds.drop (i + 1)) μ4 with
                    | ex c μ' => rw [ed] at hcl'; cases hcl'
                    | stuck => rw [ed] at hcl'; cases hcl'
                    | ok r5 μ5 =>
                      rw [ed] at hcl'
                      simp only [Option.toList_some, List.cons_append, List.nil_append] at hcl'
                      cases hcl'
                      refine ⟨acc, hk4, Nat.lt_of_lt_of_le (Nat.lt_of_le_of_lt hacc hlt) (lim_le hlim), W4, acc ++ [v], done ++ [d], r5, o4.mut hF4 hn4, Go.mut (((gi.trans g').trans g3).trans g4) hD, hF4, hn4, upd_same, ?_, ?_, ?_, ?_⟩
                      · exact (((g'.trans g3).trans g4).repL ra).append (.cons (r4 rfl) .nil)
                      · rw [List.length_append]
                        simp only [List.length_cons, List.length_nil]
                        omega
                      · rw [m4, ← hf]
                        exact ed
                      · rw [List.append_assoc]
                        exact hr
        · have hi2 : i = ds.length := by omega
          refine .inl ⟨itI.2 (by omega), ?_⟩
          rw [List.drop_of_length_le (by omega)] at hcl
          unfold cLoop at hcl
          cases hcl
          rw [List.append_nil] at hr
          subst hr
          have hW : H D = none := by
            cases q : H D with
            | none => rfl
            | some u =>
              exact absurd hD (g1.there D (by rw [q]; simp))
          exact w D acc Wi Hi rfl oi (g1.trans gi) hW hF hn hD2 ra
end
end PVL
end

section
set_option Elab.async false
set_option linter.all false
set_option maxRecDepth 100000
set_option maxHeartbeats 4000000
namespace PVL
open PySem PySem.Spec PyProof.Rows L2
section
variable {K : PySem.W.Frag} {cl : Nat → Addr} {Wx : WX} {env : List SV} {μ : Store}
/-! ## what is walked -/
theorem it_list {F : Hp} {ι : List Addr} {a : Addr} {vs : List V} {ds : List PyData} (hs : SqL K F a vs) (r : RepL K F ι vs ds) : ItOk K cl F ι (Itl K a) ds := fun W H ok sf si i => by
  have hs' : SqL K H a vs := Evl.ex_l ok.fh (Evl.ex_l sf hs)
  have r' := RepL.mono sf si _ _ r
  refine ⟨fun d e => ?_, fun hl => ⟨vs, hs', by rw [r.length]; exact hl⟩⟩
  obtain ⟨v, hv, rv⟩ := r'.get e
  exact ⟨⟨vs, v, hs', hv⟩, fun x H' y => by
    obtain ⟨rfl, y2⟩ := y
    have : vs[i]? = some x := y2 vs hs'
    rw [hv] at this
    cases this
    exact ⟨W, rfl, ok, Go.refl _ _, rv⟩⟩
theorem it_tup {F : Hp} {ι : List Addr} {a : Addr} {vs : List V} {ds : List PyData} (hs : SqT K F a vs) (r : RepL K F ι vs ds) : ItOk K cl F ι (Itt K a) ds := fun W H ok sf si i => by
  have hs' : SqT K H a vs := Evl.ex_t ok.fh (Evl.ex_t sf hs)
  have r' := RepL.mono sf si _ _ r
  refine ⟨fun d e => ?_, fun hl => ⟨vs, hs', by rw [r.length]; exact hl⟩⟩
  obtain ⟨v, hv, rv⟩ := r'.get e
  exact ⟨⟨vs, v, hs', hv⟩, fun x H' y => by
    obtain ⟨rfl, y2⟩ := y
    have : vs[i]? = some x := y2 vs hs'
    rw [hv] at this
    cases this
    exact ⟨W, rfl, ok, Go.refl _ _, rv⟩⟩
theorem rngD_len (lo : Int) (n : Nat) : (rngD lo n).length = n := by simp [rngD]
theorem rngD_get {lo : Int} {n i : Nat} {d : PyData} (h : (rngD lo n)[i]? = some d) : i < n ∧ d = .int (lo + i) := by
  have hi : i < n := by
    have := (List.getElem?_eq_some_iff.mp h).1
    rw [rngD_len] at this
    exact this
  refine ⟨hi, ?_⟩
  unfold rngD at h
  rw [List.getElem?_map, List.getElem?_range hi] at h
  cases h
  rfl
theorem it_rng {F : Hp} {ι : List Addr} {lo : Int} {n : Nat} : ItOk K cl F ι (Itr lo n) (rngD lo n) := fun W H ok sf si i => by
  refine ⟨fun d e => ?_, fun hl => ?_⟩
  · obtain ⟨hi, rfl⟩ := rngD_get e
    exact ⟨hi, fun x H' y => by
      obtain ⟨rfl, rfl⟩ := y
      exact ⟨W, rfl, ok, Go.refl _ _, .int _⟩⟩
  · rw [rngD_len] at hl
    exact hl
theorem yldPair {W : Wd} {H : Hp} {x y : V} {d e : PyData} {T : Addr} (ok : WOk K cl W H) (hT : H T = none) (rx : Rep K W.F W.ι x d) (ry : Rep K W.F W.ι y e) :
    ∃ W', W'.μ = W.μ ∧ WOk K cl W' (upd H T (.tup [x, y])) ∧ Go W H W' (upd H T (.tup [x, y])) ∧ Rep K W'.F W'.ι (.ref T) (.tuple [d, e]) := by
  have hF := ok.fnone hT
  have hi := ok.notIn hT
  refine ⟨W.fix T (.tup [x, y]), rfl, (ok.new hT).fix hF hi upd_same, (Go.new hT).fix hF hT, ?_⟩
  have sb : Sub W.F (upd W.F T (.tup [x, y])) := sub_fix hF
  exact .tup (SqT.of (show upd W.F T (.tup [x, y]) T = _ from upd_same)) (.cons (Rep.mono sb (List.prefix_refl _) _ _ rx) (.cons (Rep.mono sb (List.prefix_refl _) _ _ ry) .nil))
theorem zipD_get : ∀ {xs ys : List PyData} {i : Nat} {d : PyData}, (zipD xs ys)[i]? = some d → ∃ a b, xs[i]? = some a ∧ ys[i]? = some b ∧ d = .tuple [a, b]
  | x :: xs, y :: ys, 0, d, h => by simp [zipD] at h; exact ⟨x, y, rfl, rfl, h.symm⟩
  | x :: xs, y :: ys, i + 1, d, h => by
    obtain ⟨a, b, h1, h2, h3⟩ := zipD_get (xs := xs) (ys := ys) (i := i) (d := d) (by simpa [zipD] using h)
    exact ⟨a, b, by simpa using h1, by simpa using h2, h3⟩
  | [], _, _, _, h => by simp [zipD] at h
  | _ :: _, [], _, _, h => by simp [zipD] at h
theorem zipD_len : ∀ {xs ys : List PyData} {i : Nat}, (zipD xs ys).length ≤ i → xs.length ≤ i ∨ ys.length ≤ i
  | x :: xs, y :: ys, 0, h => by simp [zipD] at h
  | x :: xs, y :: ys, i + 1, h => by
    have := zipD_len (xs := xs) (ys := ys) (i := i) (by simpa [zipD] using h)
    simpa using this
  | [], _, _, h => .inl (by simp)
  | _ :: _, [], _, h => .inr (by simp)
theorem it_zip {F : Hp} {ι : List Addr} {a b : Addr} {vs ws : List V} {xs ys : List PyData} (hs : SqL K F a vs) (r : RepL K F ι vs xs) (hs2 : SqL K F b ws) (r2 : RepL K F ι ws ys) : ItOk K cl F ι (Itz K a b) (zipD xs ys) := fun W H ok sf si i => by
  have h1 : SqL K H a vs := Evl.ex_l ok.fh (Evl.ex_l sf hs)
  have h2 : SqL K H b ws := Evl.ex_l ok.fh (Evl.ex_l sf hs2)
  have r1' := RepL.mono sf si _ _ r
  have r2' := RepL.mono sf si _ _ r2
  refine ⟨fun d e => ?_, fun hl => ?_⟩
  · obtain ⟨x, y, e1, e2, rfl⟩ := zipD_get e
    obtain ⟨v, hv, rv⟩ := r1'.get e1
    obtain ⟨w, hw, rw'⟩ := r2'.get e2
    refine ⟨⟨vs, ws, v, w, h1, h2, hv, hw⟩, fun x' H' yl => ?_⟩
    obtain ⟨T, p, q, rfl, hT, rfl, y1, y2⟩ := yl
    have e3 := y1 vs h1
    rw [hv] at e3
    cases e3
    have e4 := y2 ws h2
    rw [hw] at e4
    cases e4
    exact yldPair ok hT rv rw'
  · rcases zipD_len hl with z | z
    · exact ⟨vs, ws, h1, h2, .inl (by rw [r.length]; exact z)⟩
    · exact ⟨vs, ws, h1, h2, .inr (by rw [r2.length]; exact z)⟩
theorem enumD_get : ∀ {xs : List PyData} {k i : Nat} {d : PyData}, (enumD k xs)[i]? = some d → ∃ a, xs[i]? = some a ∧ d = .tuple [.int ((k + i : Nat) : Int), a]
  | x :: xs, k, 0, d, h => by simp [enumD] at h; exact ⟨x, rfl, h.symm⟩
  | x :: xs, k, i + 1, d, h => by
    obtain ⟨a, h1, h3⟩ := enumD_get (xs := xs) (k := k + 1) (i := i) (d := d) (by simpa [enumD] using h)
    have : k + 1 + i = k + (i + 1) := by omega
    rw [this] at h3
    exact ⟨a, by simpa using h1, h3⟩
  | [], _, _, _, h => by simp [enumD] at h
theorem enumD_len : ∀ (xs : List PyData) (k : Nat), (enumD k xs).length = xs.length
  | [], _ => rfl
  | x :: xs, k => by simp [enumD, enumD_len xs (k + 1)]
theorem it_enum {F : Hp} {ι : List Addr} {a : Addr} {vs : List V} {xs : List PyData} (hs : SqL K F a vs) (r : RepL K F ι vs xs) : ItOk K cl F ι (Ite K a) (enumD 0 xs) := fun W H ok sf si i => by
  have h1 : SqL K H a vs := Evl.ex_l ok.fh (Evl.ex_l sf hs)
  have r1' := RepL.mono sf si _ _ r
  refine ⟨fun d e => ?_, fun hl => ⟨vs, h1, by rw [r.length, ← enumD_len xs 0]; exact hl⟩⟩
  obtain ⟨x, e1, rfl⟩ := enumD_get e
  obtain ⟨v, hv, rv⟩ := r1'.get e1
  refine ⟨⟨vs, v, h1, hv⟩, fun x' H' yl => ?_⟩
  obtain ⟨T, q, rfl, hT, rfl, y1⟩ := yl
  have e3 := y1 vs h1
  rw [hv] at e3
  cases e3
  rw [Nat.zero_add]
  exact yldPair ok hT (.int _) rv

/-! ## expressions -/
variable (K cl) (C : Calls)
theorem sd_conv {t : TE} {bv : Bool} {r r' : Rs PyData} (h : Sd K cl Wx t env μ bv r) (e : r' = r) : Sd K cl Wx t env μ bv r' := e ▸ h
theorem asI_of {d : PyData} {o : Option Int} (h : asI d = some o) : ∃ i, d = .int i ∧ o = some i := by
  cases d <;> simp [asI] at h
  exact ⟨_, rfl, h.symm⟩
theorem asB_of {d : PyData} {k : Bool} (h : asB d = some k) : d = .bool k := by
  cases d <;> simp [asB] at h
  rw [h]
/-- a slice's part -/
def SdO (K : PySem.W.Frag) (cl : Nat → Addr) (Wx : WX) (t : TO) (env : List SV) (μ : Store) (r : Rs (Option Int)) : Prop := ∀ H0 W H σ Q, W.μ = μ → WOk K cl W H → EnvOk K H0 W H env σ →
  (match r with
    | .ok o μ' => ∀ W' H', W'.μ = μ' → WOk K cl W' H' → Go W H W' H' → Q o H'
    | .ex c μ' => ∀ W' H', W'.μ = μ' → WOk K cl W' H' → Go W H W' H' → Wx (.ref (cl c)) none σ H'
    | .stuck => False) → t σ H Q
variable {K cl}
theorem sdO_part {t : TE} {bv : Bool} {r : Rs PyData} (h : Sd K cl Wx t env μ bv r) : SdO K cl Wx (tPart t) env μ (r.bind fun l μ2 => opt (asI l) μ2) := fun H0 W H σ Q m o en w => by
  refine h H0 W H σ _ m o en ?_
  cases r with
  | ex c μ' => exact w
  | stuck => exact w
  | ok d μ' =>
    intro v W1 H1 m1 o1 g1 r1 _
    rw [Rs.bind_ok] at w
    cases e : asI d with
    | none => rw [e] at w; exact w.elim
    | some oo =>
      obtain ⟨i, rfl, rfl⟩ := asI_of e
      rw [e, opt_some] at w
      exact ⟨i, r1.int, w W1 H1 m1 o1 g1⟩
theorem sdO_no : SdO K cl Wx tNoPart env μ (.ok none μ) := fun H0 W H σ Q m o en w => w W H m o (Go.refl _ _)
theorem sd_slc {t : TE} {tl th : TO} {bv b1 : Bool} {r : Rs PyData} {fl fh : Store → Rs (Option Int)} (h : Sd K cl Wx t env μ b1 r) (hl : ∀ μ, SdO K cl Wx tl env μ (fl μ)) (hh : ∀ μ, SdO K cl Wx th env μ (fh μ)) :
    Sd K cl Wx (tSl (rSlc K) t tl th) env μ bv (r.bind fun x μ1 => (fl μ1).bind fun l μ2 => (fh μ2).bind fun u μ3 => opt (slcP x l u) μ3) := fun H0 W H σ Q m o en w => by
  refine h H0 W H σ _ m o en ?_
  cases r with
  | ex c μ' => exact w
  | stuck => exact w
  | ok d μ1 =>
    intro v W1 H1 m1 o1 g1 r1 _
    refine hl μ1 H0 W1 H1 σ _ m1 o1 (en.go g1) ?_
    rw [Rs.bind_ok] at w
    cases el : fl μ1 with
    | ex c μ' => rw [el] at w; exact exUp g1 w
    | stuck => rw [el] at w; exact w
    | ok l μ2 =>
      rw [el, Rs.bind_ok] at w
      intro W2 H2 m2 o2 g2
      refine hh μ2 H0 W2 H2 σ _ m2 o2 ((en.go g1).go g2) ?_
      cases eh : fh μ2 with
      | ex c μ' => rw [eh] at w; exact exUp (g1.trans g2) w
      | stuck => rw [eh] at w; exact w
      | ok u μ3 =>
        rw [eh, Rs.bind_ok] at w
        intro W3 H3 m3 o3 g3
        cases ef : slcP d l u with
        | none => rw [ef] at w; exact w.elim
        | some z =>
          rw [ef, opt_some] at w
          subst m3
          exact slc_ok o3 ef ((r1.go g2).go g3) (postUp ((g1.trans g2).trans g3) w)
theorem sd_of_bool {t : TE} {bv : Bool} {r : Rs PyData} : Sd K cl Wx t env μ false r → Sd K cl Wx t env μ bv r := sd_weak
theorem tru_okP {W : Wd} {H : Hp} {x : V} {d : PyData} {k : Bool} (ok : WOk K cl W H) (h : truP d = some k) (r : RepB K W H x d) : TruV K x H k := by
  unfold truP at h
  split at h
  · cases r.non; cases h; rfl
  · cases r.bl; cases h; rfl
  · cases r.int; cases h; rfl
  · cases r.str
    split at h
    · rename_i hl; cases h; exact ⟨lim_le hl, rfl⟩
    · cases h
  · obtain ⟨a, vs, rfl, hs, rr⟩ := r.lst ok
    cases h
    exact .inl ⟨vs, hs, by cases rr <;> rfl⟩
  · obtain ⟨a, vs, rfl, hs, rr⟩ := r.tup ok
    cases h
    exact .inr (.inl ⟨vs, hs, by cases rr <;> rfl⟩)
  · cases h
end
end PVL
end

section
set_option Elab.async false
set_option linter.all false
set_option maxRecDepth 100000
set_option maxHeartbeats 8000000
namespace PVL
open PySem PySem.Spec PyProof.Rows L2
section
variable {K : PySem.W.Frag} {cl : Nat → Addr} {env : List SV} {μ : Store} (C : Calls)
theorem sd_and {Wx : WX} {ta tb : TE} {ra : Rs PyData} {b1 bv q : Bool} {fb : Store → Rs PyData} (ha : Sd K cl Wx ta env μ b1 ra) (hb : q = false → ∀ μ, Sd K cl Wx tb env μ false (fb μ)) :
    Sd K cl Wx (tAndV ta tb) env μ bv (ra.bind fun x μ1 => match x with
      | .bool true => if q then .stuck else fb μ1
      | .bool false => .ok (.bool false) μ1
      | _ => .stuck) := fun H0 W H σ Q m o en w => by
  refine ha H0 W H σ _ m o en ?_
  cases ra with
  | ex c μ' => exact w
  | stuck => exact w
  | ok d μ1 =>
    intro v W1 H1 m1 o1 g1 r1 _
    rw [Rs.bind_ok] at w
    split at w
    · cases r1.bl
      refine ⟨true, rfl, ?_⟩
      cases q with
      | true => exact w.elim
      | false =>
        show tb σ H1 Q
        refine hb rfl μ1 H0 W1 H1 σ Q m1 o1 (en.go g1) ?_
        simp only [Bool.false_eq_true, if_false] at w
        cases e : fb μ1 with
        | ex c μ' => rw [e] at w; exact exUp g1 w
        | stuck => rw [e] at w; exact w
        | ok z μ2 =>
          rw [e] at w
          exact fun u W2 H2 m2 o2 g2 r2 r3 => w u W2 H2 m2 o2 (g1.trans g2) r2 fun _ => r3 rfl
    · cases r1.bl
      exact ⟨false, rfl, w _ W1 H1 m1 o1 g1 r1 fun _ => .bl _⟩
    · exact w.elim
theorem sd_or {Wx : WX} {ta tb : TE} {ra : Rs PyData} {b1 bv q : Bool} {fb : Store → Rs PyData} (ha : Sd K cl Wx ta env μ b1 ra) (hb : q = false → ∀ μ, Sd K cl Wx tb env μ false (fb μ)) :
    Sd K cl Wx (tOrV ta tb) env μ bv (ra.bind fun x μ1 => match x with
      | .bool true => .ok (.bool true) μ1
      | .bool false => if q then .stuck else fb μ1
      | _ => .stuck) := fun H0 W H σ Q m o en w => by
  refine ha H0 W H σ _ m o en ?_
  cases ra with
  | ex c μ' => exact w
  | stuck => exact w
  | ok d μ1 =>
    intro v W1 H1 m1 o1 g1 r1 _
    rw [Rs.bind_ok] at w
    split at w
    · cases r1.bl
      exact ⟨true, rfl, w _ W1 H1 m1 o1 g1 r1 fun _ => .bl _⟩
    · cases r1.bl
      refine ⟨false, rfl, ?_⟩
      cases q with
      | true => exact w.elim
      | false =>
        show tb σ H1 Q
        refine hb rfl μ1 H0 W1 H1 σ Q m1 o1 (en.go g1) ?_
        simp only [Bool.false_eq_true, if_false] at w
        cases e : fb μ1 with
        | ex c μ' => rw [e] at w; exact exUp g1 w
        | stuck => rw [e] at w; exact w
        | ok z μ2 =>
          rw [e] at w
          exact fun u W2 H2 m2 o2 g2 r2 r3 => w u W2 H2 m2 o2 (g1.trans g2) r2 fun _ => r3 rfl
    · exact w.elim
theorem sdT_and {Wx : WX} {ta tb : TT} {ra : Rs PyData} {q : Bool} {fb : Store → Rs PyData} (ha : SdT K cl Wx ta env μ ra) (hb : q = false → ∀ μ, SdT K cl Wx tb env μ (fb μ)) :
    SdT K cl Wx (tAnd ta tb) env μ (ra.bind fun x μ1 => match x with
      | .bool true => if q then .stuck else fb μ1
      | .bool false => .ok (.bool false) μ1
      | _ => .stuck) := fun H0 W H σ Q m o en w => by
  refine ha H0 W H σ _ m o en ?_
  cases ra with
  | ex c μ' => exact w
  | stuck => exact w
  | ok d μ1 =>
    rw [Rs.bind_ok] at w
    split at w
    · refine ⟨true, rfl, fun W1 H1 m1 o1 g1 => ?_⟩
      cases q with
      | true => exact w.elim
      | false =>
        show tb σ H1 Q
        refine hb rfl μ1 H0 W1 H1 σ Q m1 o1 (en.go g1) ?_
        simp only [Bool.false_eq_true, if_false] at w
        cases e : fb μ1 with
        | ex c μ' => rw [e] at w; exact exUp g1 w
        | stuck => rw [e] at w; exact w
        | ok z μ2 =>
          rw [e] at w
          obtain ⟨k, rfl, w⟩ := w
          exact ⟨k, rfl, fun W2 H2 m2 o2 g2 => w W2 H2 m2 o2 (g1.trans g2)⟩
    · obtain ⟨k, e, w⟩ := w
      cases e
      exact ⟨false, rfl, fun W1 H1 m1 o1 g1 => w W1 H1 m1 o1 g1⟩
    · exact w.elim
theorem sdT_or {Wx : WX} {ta tb : TT} {ra : Rs PyData} {q : Bool} {fb : Store → Rs PyData} (ha : SdT K cl Wx ta env μ ra) (hb : q = false → ∀ μ, SdT K cl Wx tb env μ (fb μ)) :
    SdT K cl Wx (tOr ta tb) env μ (ra.bind fun x μ1 => match x with
      | .bool true => .ok (.bool true) μ1
      | .bool false => if q then .stuck else fb μ1
      | _ => .stuck) := fun H0 W H σ Q m o en w => by
  refine ha H0 W H σ _ m o en ?_
  cases ra with
  | ex c μ' => exact w
  | stuck => exact w
  | ok d μ1 =>
    rw [Rs.bind_ok] at w
    split at w
    · obtain ⟨k, e, w⟩ := w
      cases e
      exact ⟨true, rfl, fun W1 H1 m1 o1 g1 => w W1 H1 m1 o1 g1⟩
    · refine ⟨false, rfl, fun W1 H1 m1 o1 g1 => ?_⟩
      cases q with
      | true => exact w.elim
      | false =>
        show tb σ H1 Q
        refine hb rfl μ1 H0 W1 H1 σ Q m1 o1 (en.go g1) ?_
        simp only [Bool.false_eq_true, if_false] at w
        cases e : fb μ1 with
        | ex c μ' => rw [e] at w; exact exUp g1 w
        | stuck => rw [e] at w; exact w
        | ok z μ2 =>
          rw [e] at w
          obtain ⟨k, rfl, w⟩ := w
          exact ⟨k, rfl, fun W2 H2 m2 o2 g2 => w W2 H2 m2 o2 (g1.trans g2)⟩
    · exact w.elim
theorem sd_not {Wx : WX} {ta : TE} {ra : Rs PyData} {b1 bv : Bool} (ha : Sd K cl Wx ta env μ b1 ra) : Sd K cl Wx (tNotV ta) env μ bv (ra.bind fun x μ1 => match x with
      | .bool k => .ok (.bool (!k)) μ1
      | _ => .stuck) := fun H0 W H σ Q m o en w => by
  refine ha H0 W H σ _ m o en ?_
  cases ra with
  | ex c μ' => exact w
  | stuck => exact w
  | ok d μ1 =>
    intro v W1 H1 m1 o1 g1 r1 _
    rw [Rs.bind_ok] at w
    split at w
    · cases r1.bl
      exact ⟨_, rfl, w _ W1 H1 m1 o1 g1 (.inl (.bl _)) fun _ => .bl _⟩
    · exact w.elim
theorem sdT_not {Wx : WX} {ta : TT} {ra : Rs PyData} (ha : SdT K cl Wx ta env μ ra) : SdT K cl Wx (tNot ta) env μ (ra.bind fun x μ1 => match x with
      | .bool k => .ok (.bool (!k)) μ1
      | _ => .stuck) := fun H0 W H σ Q m o en w => by
  refine ha H0 W H σ _ m o en ?_
  cases ra with
  | ex c μ' => exact w
  | stuck => exact w
  | ok d μ1 =>
    rw [Rs.bind_ok] at w
    split at w
    · obtain ⟨k, e, w⟩ := w
      cases e
      exact ⟨_, rfl, fun W1 H1 m1 o1 g1 => w W1 H1 m1 o1 g1⟩
    · exact w.elim
theorem sd_ite {Wx : WX} {tc : TT} {ta tb : TE} {rc : Rs PyData} {bv q : Bool} {fa fb : Store → Rs PyData} (hc : SdT K cl Wx tc env μ rc) (ha : q = false → ∀ μ, Sd K cl Wx ta env μ false (fa μ)) (hb : q = false → ∀ μ, Sd K cl Wx tb env μ false (fb μ)) :
    Sd K cl Wx (tIf tc ta tb) env μ bv (rc.bind fun x μ1 => if q then .stuck else match x with
      | .bool true => fa μ1
      | .bool false => fb μ1
      | _ => .stuck) := fun H0 W H σ Q m o en w => by
  refine hc H0 W H σ _ m o en ?_
  cases rc with
  | ex c μ' => exact w
  | stuck => exact w
  | ok d μ1 =>
    rw [Rs.bind_ok] at w
    cases q with
    | true => exact w.elim
    | false =>
      simp only [Bool.false_eq_true, if_false] at w
      split at w
      · refine ⟨true, rfl, fun W1 H1 m1 o1 g1 => ?_⟩
        show ta σ H1 Q
        refine ha rfl μ1 H0 W1 H1 σ Q m1 o1 (en.go g1) ?_
        cases e : fa μ1 with
        | ex c μ' => rw [e] at w; exact exUp g1 w
        | stuck => rw [e] at w; exact w
        | ok z μ2 =>
          rw [e] at w
          exact fun u W2 H2 m2 o2 g2 r2 r3 => w u W2 H2 m2 o2 (g1.trans g2) r2 fun _ => r3 rfl
      · refine ⟨false, rfl, fun W1 H1 m1 o1 g1 => ?_⟩
        show tb σ H1 Q
        refine hb rfl μ1 H0 W1 H1 σ Q m1 o1 (en.go g1) ?_
        cases e : fb μ1 with
        | ex c μ' => rw [e] at w; exact exUp g1 w
        | stuck => rw [e] at w; exact w
        | ok z μ2 =>
          rw [e] at w
          exact fun u W2 H2 m2 o2 g2 r2 r3 => w u W2 H2 m2 o2 (g1.trans g2) r2 fun _ => r3 rfl
      · exact w.elim
theorem sd_chain {Wx : WX} {ta tb tc : TE} {o o' : COp} {ra : Rs PyData} {b1 b2 b3 bv : Bool} {fb fc : Store → Rs PyData} (ha : Sd K cl Wx ta env μ b1 ra) (hb : ∀ μ, Sd K cl Wx tb env μ b2 (fb μ)) (hc : ∀ μ, Sd K cl Wx tc env μ b3 (fc μ)) :
    Sd K cl Wx (tChain (rCmp K o) (rCmp K o') ta tb tc) env μ bv (ra.bind fun x μ1 => (fb μ1).bind fun y μ2 => match cmpP o x y with
      | some (.bool true) => (fc μ2).bind fun z μ3 => opt (cmpP o' y z) μ3
      | some (.bool false) => .ok (.bool false) μ2
      | _ => .stuck) := fun H0 W H σ Q m ok en w => by
  refine ha H0 W H σ _ m ok en ?_
  cases ra with
  | ex c μ' => exact w
  | stuck => exact w
  | ok d μ1 =>
    intro v W1 H1 m1 o1 g1 r1 _
    refine hb μ1 H0 W1 H1 σ _ m1 o1 (en.go g1) ?_
    rw [Rs.bind_ok] at w
    cases eb : fb μ1 with
    | ex c μ' => rw [eb] at w; exact exUp g1 w
    | stuck => rw [eb] at w; exact w
    | ok e μ2 =>
      rw [eb, Rs.bind_ok] at w
      intro u W2 H2 m2 o2 g2 r2 _
      split at w
      · rename_i hq
        refine cmp_ok o2 hq (r1.go g2) r2 fun z W3 H3 m3 o3 g3 r3 => ?_
        cases r3
        refine ⟨true, rfl, ?_⟩
        show tc σ H3 _
        have m3' : W3.μ = μ2 := m3.trans m2
        refine hc μ2 H0 W3 H3 σ _ m3' o3 (((en.go g1).go g2).go g3) ?_
        cases ec : fc μ2 with
        | ex c μ' => rw [ec] at w; exact exUp ((g1.trans g2).trans g3) w
        | stuck => rw [ec] at w; exact w
        | ok f μ4 =>
          rw [ec, Rs.bind_ok] at w
          intro x4 W4 H4 m4 o4 g4 r4 _
          cases ef : cmpP o' e f with
          | none => rw [ef] at w; exact w.elim
          | some z =>
            rw [ef, opt_some] at w
            subst m4
            exact cmp_ok o4 ef ((r2.go g3).go g4) r4 (postUp (((g1.trans g2).trans g3).trans g4) w)
      · rename_i hq
        refine cmp_ok o2 hq (r1.go g2) r2 fun z W3 H3 m3 o3 g3 r3 => ?_
        cases r3
        refine ⟨false, rfl, ?_⟩
        show Q (.bl false) H3
        exact w _ W3 H3 (m3.trans m2) o3 ((g1.trans g2).trans g3) (.inl (.bl _)) fun _ => .bl _
      · exact w.elim
theorem sd_call {Wx : WX} {t : TA} {f : Nat} {rl : Rs (List PyData)} {bv : Bool} (h : SdL K cl Wx t env μ rl) : Sd K cl Wx (tCallS (spOf K cl C f) (WE Wx) t) env μ bv (rl.bind fun ds μ1 => C f ds μ1) := fun H0 W H σ Q m o en w => by
  refine h H0 W H σ _ m o en ?_
  cases rl with
  | ex c μ' => exact w
  | stuck => exact w
  | ok ds μ1 =>
    intro vs W1 H1 m1 o1 g1 r1
    rw [Rs.bind_ok] at w
    refine ⟨W1, ds, o1, r1, ?_⟩
    rw [m1]
    cases e : C f ds μ1 with
    | ex c μ' => rw [e] at w; exact exUp g1 w
    | stuck => rw [e] at w; exact w
    | ok d μ2 =>
      rw [e] at w
      exact fun v W2 H2 m2 o2 g2 r2 => w v W2 H2 m2 o2 (g1.trans g2) (.inl r2) fun _ => r2
theorem sd_tup {Wx : WX} {t : TA} {rl : Rs (List PyData)} {bv : Bool} (h : SdL K cl Wx t env μ rl) : Sd K cl Wx (tTup t) env μ bv (rl.bind fun ds μ1 => if ds.length ≤ lim then .ok (.tuple ds) μ1 else .stuck) := fun H0 W H σ Q m o en w => by
  refine h H0 W H σ _ m o en ?_
  cases rl with
  | ex c μ' => exact w
  | stuck => exact w
  | ok ds μ1 =>
    intro vs W1 H1 m1 o1 g1 r1
    rw [Rs.bind_ok] at w
    split at w
    · rename_i hl
      subst m1
      exact ⟨lim_le (by rw [r1.length]; exact hl), fun p hp => PostB.tup o1 r1 (postUp g1 w) p hp⟩
    · exact w.elim
theorem sdN_lst {Wx : WX} {t : TA} {rl : Rs (List PyData)} (h : SdL K cl Wx t env μ rl) : SdN K cl Wx (tLst t) env μ (rl.bind fun ds μ1 => if ds.length ≤ lim then .ok (.list ds) μ1 else .stuck) := fun H0 W H σ Q m o en w => by
  refine h H0 W H σ _ m o en ?_
  cases rl with
  | ex c μ' => exact w
  | stuck => exact w
  | ok ds μ1 =>
    intro vs W1 H1 m1 o1 g1 r1
    rw [Rs.bind_ok] at w
    split at w
    · rename_i hl
      obtain ⟨l, e, w⟩ := w
      cases e
      refine ⟨lim_le (by rw [r1.length]; exact hl), fun p hp => ?_⟩
      have h0 : H p = none := by
        cases q : H p with
        | none => rfl
        | some u => exact absurd hp (g1.there p (by rw [q]; simp))
      exact w p vs W1 _ m1 (o1.new hp) (g1.trans (Go.new hp)) h0 (o1.fnone hp) (o1.notIn hp) upd_same r1
    · exact w.elim
theorem isList_of_if {rl : Rs (List PyData)} {d : PyData} {μ' : Store} (h : (rl.bind fun ds μ1 => if ds.length ≤ lim then .ok (.list ds) μ1 else .stuck) = .ok d μ') : ∃ l, d = .list l := by
  cases rl with
  | ex c μ' => cases h
  | stuck => cases h
  | ok ds μ1 =>
    rw [Rs.bind_ok] at h
    split at h
    · cases h; exact ⟨_, rfl⟩
    · cases h
end
end PVL
end

section
set_option Elab.async false
set_option linter.all false
set_option maxRecDepth 100000
set_option maxHeartbeats 8000000
namespace PVL
open PySem PySem.Spec PyProof.Rows L2
section
variable {K : PySem.W.Frag} {cl : Nat → Addr} {env : List SV} {μ : Store} (C : Calls)
theorem sd_neg {Wx : WX} {ta : TE} {ra : Rs PyData} {b1 bv : Bool} (ha : Sd K cl Wx ta env μ b1 ra) : Sd K cl Wx (tUn (rU fun i => .int (-i)) ta) env μ bv (ra.bind fun x μ1 => match x with
      | .int i => .ok (.int (-i)) μ1
      | _ => .stuck) := fun H0 W H σ Q m o en w => by
  refine ha H0 W H σ _ m o en ?_
  cases ra with
  | ex c μ' => exact w
  | stuck => exact w
  | ok d μ1 =>
    intro v W1 H1 m1 o1 g1 r1 _
    rw [Rs.bind_ok] at w
    split at w
    · cases r1.int
      exact ⟨_, rfl, w _ W1 H1 m1 o1 g1 (.inl (.int _)) fun _ => .int _⟩
    · exact w.elim
theorem non_dec {W : Wd} {H : Hp} {x : V} {d : PyData} (r : RepB K W H x d) : decide (x = V.non) = (match d with | .none => true | _ => false) := by
  rcases r with r | ⟨a, vs, l, rfl, rfl, _⟩
  · cases r <;> first | rfl | exact decide_eq_false (fun q => nomatch q)
  · exact decide_eq_false (fun q => nomatch q)
theorem sd_isn {Wx : WX} {ta : TE} {ra : Rs PyData} {b1 bv ng : Bool} (ha : Sd K cl Wx ta env μ b1 ra) : Sd K cl Wx (tOp (if ng then rNotN' else rIsN') ta (tC .non)) env μ bv (ra.bind fun x μ1 => match x with
    | .none => .ok (.bool (!ng)) μ1
    | _ => .ok (.bool ng) μ1) := fun H0 W H σ Q m o en w => by
  refine ha H0 W H σ _ m o en ?_
  cases ra with
  | ex c μ' => exact w
  | stuck => exact w
  | ok d μ1 =>
    intro v W1 H1 m1 o1 g1 r1 _
    rw [Rs.bind_ok] at w
    have e := non_dec r1
    show (if ng then rNotN' else rIsN') v .non H1 Q
    cases ng with
    | true =>
      rw [if_pos rfl]
      refine ⟨rfl, ?_⟩
      rw [e]
      cases d <;> exact w _ W1 H1 m1 o1 g1 (.inl (.bl _)) fun _ => .bl _
    | false =>
      rw [if_neg Bool.false_ne_true]
      refine ⟨rfl, ?_⟩
      rw [e]
      cases d <;> exact w _ W1 H1 m1 o1 g1 (.inl (.bl _)) fun _ => .bl _
theorem sd_cst {Wx : WX} {bv : Bool} (d : PyData) : Sd K cl Wx (tC (vOf d)) env μ bv (match d with
    | .list _ => .stuck
    | .tuple _ => .stuck
    | .dict _ => .stuck
    | d => .ok d μ) := fun H0 W H σ Q m o en w => by
  cases d with
  | none => exact w _ W H m o (Go.refl _ _) (.inl .non) fun _ => .non
  | bool b => exact w _ W H m o (Go.refl _ _) (.inl (.bl _)) fun _ => .bl _
  | int b => exact w _ W H m o (Go.refl _ _) (.inl (.int _)) fun _ => .int _
  | str b => exact w _ W H m o (Go.refl _ _) (.inl (.str _)) fun _ => .str _
  | list _ => exact w.elim
  | tuple _ => exact w.elim
  | dict _ => exact w.elim
theorem sd_var {Wx : WX} {bv : Bool} (i : Nat) : Sd K cl Wx (tVar i) env μ bv (match env[i]? with
    | some (.pv d) => .ok d μ
    | _ => .stuck) := fun H0 W H σ Q m o en w => by
  split at w
  · rename_i d e
    obtain ⟨v, e2, r⟩ := en.slots i _ e
    exact ⟨v, e2, w v W H m o (Go.refl _ _) (.inl r) fun _ => r⟩
  · exact w.elim
theorem sd_bv {Wx : WX} (i : Nat) : Sd K cl Wx (tVar i) env μ true (match env[i]? with
    | some (.ow l) => .ok (.list l) μ
    | some (.pv d) => .ok d μ
    | _ => .stuck) := fun H0 W H σ Q m o en w => by
  split at w
  · rename_i l e
    obtain ⟨a, vs, e2, h0, hF, hi, hh, r⟩ := en.slots i _ e
    exact ⟨_, e2, w _ W H m o (Go.refl _ _) (.inr ⟨a, vs, l, rfl, rfl, hi, hh, r⟩) fun z => Bool.noConfusion z⟩
  · rename_i d e
    obtain ⟨v, e2, r⟩ := en.slots i _ e
    exact ⟨v, e2, w v W H m o (Go.refl _ _) (.inl r) fun _ => r⟩
  · exact w.elim
theorem sd_isi {Wx : WX} {ta : TE} {ra : Rs PyData} {b1 bv : Bool} {T : String} (ha : Sd K cl Wx ta env μ b1 ra) : Sd K cl Wx (tCB (rIsi K) (tCons ta (tCons (tC (.ty T)) tNil))) env μ bv (ra.bind fun x μ1 => opt ((isiP T x).map .bool) μ1) :=
  sd_1 (k := fun x H Q => rIsi K [x, .ty T] H Q) ha fun o hz rx k => isi_ok o hz rx k
theorem sd_tru {Wx : WX} {ta : TE} {ra : Rs PyData} {b1 bv : Bool} (ha : Sd K cl Wx ta env μ b1 ra) : Sd K cl Wx (fun σ H Q => ta σ H fun x H' => ∃ k, TruV K x H' k ∧ Q (.bl k) H') env μ bv (ra.bind fun x μ1 => opt ((truP x).map .bool) μ1) :=
  sd_1 (k := fun x H Q => ∃ k, TruV K x H k ∧ Q (.bl k) H) ha fun {W H x d z Q} o hz rx k => by
    cases e : truP d with
    | none => rw [e] at hz; cases hz
    | some b =>
      rw [e] at hz
      cases hz
      exact ⟨b, tru_okP o e rx, k.here o (.bl _)⟩
theorem sdT_tru {Wx : WX} {ta : TE} {ra : Rs PyData} {b1 : Bool} (ha : Sd K cl Wx ta env μ b1 ra) : SdT K cl Wx (fun σ H Q => ta σ H fun x H' => ∃ k, TruV K x H' k ∧ Q k H') env μ (ra.bind fun x μ1 => opt ((truP x).map .bool) μ1) := fun H0 W H σ Q m o en w => by
  refine ha H0 W H σ _ m o en ?_
  cases ra with
  | ex c μ' => exact w
  | stuck => exact w
  | ok d μ1 =>
    intro v W1 H1 m1 o1 g1 r1 _
    rw [Rs.bind_ok] at w
    cases e : truP d with
    | none => rw [e] at w; exact w.elim
    | some b =>
      rw [e] at w
      obtain ⟨k, ek, w⟩ := w
      cases ek
      exact ⟨b, tru_okP o1 e r1, w W1 H1 m1 o1 g1⟩
theorem sd_join {Wx : WX} {ta tb : TE} {ra : Rs PyData} {b1 b2 bv : Bool} {fb : Store → Rs PyData} (ha : Sd K cl Wx ta env μ b1 ra) (hb : ∀ μ, Sd K cl Wx tb env μ b2 (fb μ)) :
    Sd K cl Wx (tM1 (rJoin K) ta tb) env μ bv (ra.bind fun x μ1 => match x with
      | .str s => (fb μ1).bind fun y μ2 => opt (joinP (.str s) y) μ2
      | _ => .stuck) := fun H0 W H σ Q m o en w => by
  refine ha H0 W H σ _ m o en ?_
  cases ra with
  | ex c μ' => exact w
  | stuck => exact w
  | ok d μ1 =>
    intro v W1 H1 m1 o1 g1 r1 _
    rw [Rs.bind_ok] at w
    split at w
    · rename_i a _
      cases r1.str
      refine ⟨⟨_, rfl⟩, hb μ1 H0 W1 H1 σ _ m1 o1 (en.go g1) ?_⟩
      cases eb : fb μ1 with
      | ex c μ' => rw [eb] at w; exact exUp g1 w
      | stuck => rw [eb] at w; exact w
      | ok e μ2 =>
        rw [eb, Rs.bind_ok] at w
        intro u W2 H2 m2 o2 g2 r2 _
        cases ef : joinP (.str _) e with
        | none => rw [ef] at w; exact w.elim
        | some z =>
          rw [ef, opt_some] at w
          subst m2
          exact join_ok o2 ef (r1.go g2) r2 (postUp (g1.trans g2) w)
    · exact w.elim
/-! ## the walked things -/
theorem sdI_1 {Wx : WX} {ta : TE} {ra : Rs PyData} {b1 : Bool} (ha : Sd K cl Wx ta env μ b1 ra) : SdI K cl Wx (iRng1 (tCons ta tNil)) env μ (ra.bind fun x μ1 => match x with
    | .int j => if -two62 ≤ j ∧ j < two62 then .ok (rngD 0 j.toNat) μ1 else .stuck
    | _ => .stuck) := fun H0 W H σ R m o en w => by
  refine ha H0 W H σ _ m o en ?_
  cases ra with
  | ex c μ' => exact w
  | stuck => exact w
  | ok d μ1 =>
    intro v W1 H1 m1 o1 g1 r1 _
    rw [Rs.bind_ok] at w
    split at w
    · cases r1.int
      split at w
      · rename_i h
        have e : two62 = 2 ^ 62 := by decide
        rw [e] at h
        exact ⟨_, rfl, h.1, h.2, w _ W1 H1 m1 o1 g1 it_rng⟩
      · exact w.elim
    · exact w.elim
theorem sdI_2 {Wx : WX} {ta tb : TE} {ra : Rs PyData} {b1 b2 : Bool} {fb : Store → Rs PyData} (ha : Sd K cl Wx ta env μ b1 ra) (hb : ∀ μ, Sd K cl Wx tb env μ b2 (fb μ)) : SdI K cl Wx (iRng2 (tCons ta (tCons tb tNil))) env μ (ra.bind fun x μ1 => (fb μ1).bind fun y μ2 => match x, y with
    | .int i, .int j => if -two62 ≤ i ∧ i < two62 ∧ -two62 ≤ j ∧ j < two62 then .ok (rngD i (j - i).toNat) μ2 else .stuck
    | _, _ => .stuck) := fun H0 W H σ R m o en w => by
  refine ha H0 W H σ _ m o en ?_
  cases ra with
  | ex c μ' => exact w
  | stuck => exact w
  | ok d μ1 =>
    intro v W1 H1 m1 o1 g1 r1 _
    refine hb μ1 H0 W1 H1 σ _ m1 o1 (en.go g1) ?_
    rw [Rs.bind_ok] at w
    cases eb : fb μ1 with
    | ex c μ' => rw [eb] at w; exact exUp g1 w
    | stuck => rw [eb] at w; exact w
    | ok e μ2 =>
      rw [eb, Rs.bind_ok] at w
      intro u W2 H2 m2 o2 g2 r2 _
      split at w
      · cases r1.int; cases r2.int
        split at w
        · rename_i h
          have e : two62 = 2 ^ 62 := by decide
          rw [e] at h
          exact ⟨_, _, rfl, h, w _ W2 H2 m2 o2 (g1.trans g2) it_rng⟩
        · exact w.elim
      · exact w.elim
theorem sdI_L {Wx : WX} {ta : TE} {ra : Rs PyData} {q : Bool} (ha : q = false → Sd K cl Wx ta env μ false ra) : SdI K cl Wx (iList K ta) env μ (if q then .stuck else ra.bind fun x μ1 => match x with
    | .list ds => .ok ds μ1
    | _ => .stuck) := fun H0 W H σ R m o en w => by
  cases q with
  | true => exact w.elim
  | false =>
    refine ha rfl H0 W H σ _ m o en ?_
    simp only [Bool.false_eq_true, if_false] at w
    cases ra with
    | ex c μ' => exact w
    | stuck => exact w
    | ok d μ1 =>
      intro v W1 H1 m1 o1 g1 _ r1
      rw [Rs.bind_ok] at w
      have r1 := r1 rfl
      split at w
      · cases r1 with
        | lst hs hl => exact ⟨_, rfl, ⟨_, Evl.ex_l o1.fh hs⟩, w _ W1 H1 m1 o1 g1 (it_list hs hl)⟩
      · exact w.elim
theorem sdI_T {Wx : WX} {ta : TE} {ra : Rs PyData} {b1 : Bool} (ha : Sd K cl Wx ta env μ b1 ra) : SdI K cl Wx (iTup K ta) env μ (ra.bind fun x μ1 => match x with
    | .tuple ds => .ok ds μ1
    | _ => .stuck) := fun H0 W H σ R m o en w => by
  refine ha H0 W H σ _ m o en ?_
  cases ra with
  | ex c μ' => exact w
  | stuck => exact w
  | ok d μ1 =>
    intro v W1 H1 m1 o1 g1 r1 _
    rw [Rs.bind_ok] at w
    split at w
    · rcases r1 with r1 | ⟨_, _, _, _, e, _⟩
      · cases r1 with
        | tup hs hl => exact ⟨_, rfl, ⟨_, Evl.ex_t o1.fh hs⟩, w _ W1 H1 m1 o1 g1 (it_tup hs hl)⟩
      · cases e
    · exact w.elim
theorem sdI_zip {Wx : WX} {ta tb : TE} {ra : Rs PyData} {q : Bool} {fb : Store → Rs PyData} (ha : q = false → Sd K cl Wx ta env μ false ra) (hb : q = false → ∀ μ, Sd K cl Wx tb env μ false (fb μ)) : SdI K cl Wx (iZip K (tCons ta (tCons tb tNil))) env μ (if q then .stuck else ra.bind fun x μ1 => (fb μ1).bind fun y μ2 => match x, y with
    | .list xs, .list ys => .ok (zipD xs ys) μ2
    | _, _ => .stuck) := fun H0 W H σ R m o en w => by
  cases q with
  | true => exact w.elim
  | false =>
    refine ha rfl H0 W H σ _ m o en ?_
    simp only [Bool.false_eq_true, if_false] at w
    cases ra with
    | ex c μ' => exact w
    | stuck => exact w
    | ok d μ1 =>
      intro v W1 H1 m1 o1 g1 _ r1
      refine hb rfl μ1 H0 W1 H1 σ _ m1 o1 (en.go g1) ?_
      rw [Rs.bind_ok] at w
      cases eb : fb μ1 with
      | ex c μ' => rw [eb] at w; exact exUp g1 w
      | stuck => rw [eb] at w; exact w
      | ok e μ2 =>
        rw [eb, Rs.bind_ok] at w
        intro u W2 H2 m2 o2 g2 _ r2
        have r1 := g2.rep (r1 rfl)
        have r2 := r2 rfl
        split at w
        · cases r1 with
          | lst hs hl =>
            cases r2 with
            | lst hs2 hl2 => exact ⟨_, _, _, _, rfl, Evl.ex_l o2.fh hs, Evl.ex_l o2.fh hs2, w _ W2 H2 m2 o2 (g1.trans g2) (it_zip hs hl hs2 hl2)⟩
        · exact w.elim
theorem sdI_enum {Wx : WX} {ta : TE} {ra : Rs PyData} {q : Bool} (ha : q = false → Sd K cl Wx ta env μ false ra) : SdI K cl Wx (iEnum K (tCons ta tNil)) env μ (if q then .stuck else ra.bind fun x μ1 => match x with
    | .list xs => .ok (enumD 0 xs) μ1
    | _ => .stuck) := fun H0 W H σ R m o en w => by
  cases q with
  | true => exact w.elim
  | false =>
    refine ha rfl H0 W H σ _ m o en ?_
    simp only [Bool.false_eq_true, if_false] at w
    cases ra with
    | ex c μ' => exact w
    | stuck => exact w
    | ok d μ1 =>
      intro v W1 H1 m1 o1 g1 _ r1
      rw [Rs.bind_ok] at w
      have r1 := r1 rfl
      split at w
      · cases r1 with
        | lst hs hl => exact ⟨_, _, rfl, Evl.ex_l o1.fh hs, w _ W1 H1 m1 o1 g1 (it_enum hs hl)⟩
      · exact w.elim
theorem sdL_if {Wx : WX} {t : TA} {q : Bool} {r : Rs (List PyData)} (h : q = false → SdL K cl Wx t env μ r) : SdL K cl Wx t env μ (if q then .stuck else r) := by
  cases q with
  | true => exact sdL_stuck
  | false => exact h rfl
theorem sdO_of {Wx : WX} (e : E) {t : TE} {bv : Bool} {r : Rs PyData} (h : Sd K cl Wx t env μ bv r) : SdO K cl Wx (rdO' e t) env μ (match e with
    | .no => (Rs.ok none μ : Rs (Option Int))
    | _ => r.bind fun l μ2 => opt (asI l) μ2) := by
  cases e <;> first | exact sdO_no | exact sdO_part h
theorem sdC_of (c : E) {t : TT} {r : Rs PyData} (h : SdT K cl noW t env μ r) : SdT K cl noW (rdC' c t) env μ ((match c with
    | .no => (Rs.ok true μ : Rs Bool)
    | _ => r.bind fun k μ2 => opt (asB k) μ2).bind fun k μ' => .ok (.bool k) μ') := by
  have gen : SdT K cl noW t env μ ((r.bind fun k μ2 => opt (asB k) μ2).bind fun k μ' => .ok (.bool k) μ') := fun H0 W H σ Q m o en w => by
    refine h H0 W H σ Q m o en ?_
    cases r with
    | ex c μ' => exact w
    | stuck => exact w
    | ok d μ' =>
      rw [Rs.bind_ok] at w
      cases e : asB d with
      | none => rw [e] at w; exact w.elim
      | some k =>
        rw [e] at w
        obtain ⟨k', e', w⟩ := w
        cases e'
        exact ⟨k, asB_of e, w⟩
  have none : SdT K cl noW tYes env μ ((Rs.ok true μ : Rs Bool).bind fun k μ' => .ok (.bool k) μ') := fun H0 W H σ Q m o en w => by
    obtain ⟨k, e, w⟩ := w
    cases e
    exact w W H m o (Go.refl _ _)
  cases c <;> first | exact gen | exact none
theorem sdN_conv {Wx : WX} {t : TE} {r r' : Rs PyData} (h : SdN K cl Wx t env μ r) (e : r' = r) : SdN K cl Wx t env μ r' := e ▸ h
theorem sdN_comp2 {Wx : WX} {wi : TI} {tt : TT} {te : TE} {tg : Tg} {vs : List Nat} {ri : Rs (List PyData)} {q : Bool} {fc : List SV → Store → Rs Bool} {fe : List SV → Store → Rs PyData}
    (hi : SdI K cl Wx wi env μ ri) (hc : ∀ env μ, SdT K cl noW tt env μ ((fc env μ).bind fun k μ' => .ok (.bool k) μ')) (he : q = false → ∀ env μ, Sd K cl noW te env μ false (fe env μ)) :
    SdN K cl Wx (tLc wi (tg.rd K) tt te vs) env μ (ri.bind fun ds μ1 =>
      if tg.slots.all (fun i => vs.contains i && decide (i < env.length)) && !q && decide (ds.length ≤ lim) then
        match cLoop tg (fun env' μ' => (fc env' μ').bind fun k μ2 => if k then (fe env' μ2).bind fun d μ3 => .ok (some d) μ3 else .ok none μ2) (wipeE env vs) ds μ1 with
        | .ok r μ2 => .ok (.list r) μ2
        | _ => .stuck
      else .stuck) := by
  cases hq : (tg.slots.all (fun i => vs.contains i && decide (i < env.length)) && !q) with
  | false =>
    refine fun H0 W H σ Q m o en w => hi H0 W H σ _ m o en ?_
    cases ri with
    | ex c μ' => exact w
    | stuck => exact w
    | ok ds μ1 =>
      rw [Rs.bind_ok, Bool.false_and] at w
      exact w.elim
  | true =>
    rw [Bool.and_eq_true] at hq
    have q0 : q = false := by simpa using hq.2
    have hv : ∀ i, i ∈ tg.slots → i ∈ vs := fun i hm => by
      have := List.all_eq_true.mp hq.1 i hm
      rw [Bool.and_eq_true] at this
      simpa using this.1
    by_cases hl : ∀ ds μ', ri = .ok ds μ' → ds.length ≤ lim
    · have h := sdN_comp (te := te) (fe := fe) hi hc (he q0) hv hl
      refine sdN_conv h ?_
      cases ri with
      | ex c μ' => rfl
      | stuck => rfl
      | ok ds μ1 =>
        have := hl ds μ1 rfl
        rw [Rs.bind_ok, Rs.bind_ok, if_pos (by rw [decide_eq_true this]; rfl)]
        try rfl
    · refine fun H0 W H σ Q m o en w => hi H0 W H σ _ m o en ?_
      cases ri with
      | ex c μ' => exact w
      | stuck => exact w
      | ok ds μ1 =>
        have : ¬ ds.length ≤ lim := fun z => hl fun ds' μ' e => by cases e; exact z
        rw [Rs.bind_ok, decide_eq_false this, Bool.and_false] at w
        exact w.elim
theorem isList_comp {ri : Rs (List PyData)} {p : List PyData → Bool} {g : List PyData → Store → Rs (List PyData)} {d : PyData} {μ' : Store} (h : (ri.bind fun ds μ1 => if p ds then (match g ds μ1 with
        | .ok r μ2 => (Rs.ok (.list r) μ2 : Rs PyData)
        | _ => .stuck)
      else .stuck) = .ok d μ') : ∃ l, d = .list l := by
  cases ri with
  | ex c μ' => cases h
  | stuck => cases h
  | ok ds μ1 =>
    rw [Rs.bind_ok] at h
    split at h
    · split at h
      · cases h; exact ⟨_, rfl⟩
      · cases h
    · cases h
theorem sd_comp {Wx : WX} {wi : TI} {tt : TT} {te : TE} {tg : Tg} {vs : List Nat} {ri : Rs (List PyData)} {q bv : Bool} {fc : List SV → Store → Rs Bool} {fe : List SV → Store → Rs PyData}
    (hi : SdI K cl Wx wi env μ ri) (hc : ∀ env μ, SdT K cl noW tt env μ ((fc env μ).bind fun k μ' => .ok (.bool k) μ')) (he : q = false → ∀ env μ, Sd K cl noW te env μ false (fe env μ)) :
    Sd K cl Wx (tLc wi (tg.rd K) tt te vs) env μ bv (ri.bind fun ds μ1 =>
      if tg.slots.all (fun i => vs.contains i && decide (i < env.length)) && !q && decide (ds.length ≤ lim) then
        match cLoop tg (fun env' μ' => (fc env' μ').bind fun k μ2 => if k then (fe env' μ2).bind fun d μ3 => .ok (some d) μ3 else .ok none μ2) (wipeE env vs) ds μ1 with
        | .ok r μ2 => .ok (.list r) μ2
        | _ => .stuck
      else .stuck) := sd_ofN (fun d μ' e => isList_comp e) (sdN_comp2 hi hc he)
theorem sdN_bi {Wx : WX} {t : TA} {rl : Rs (List PyData)} (h : SdB K cl Wx t env μ rl) : SdN K cl Wx (tCB (rBi K .list) t) env μ (rl.bind fun ds μ1 => opt (biP .list ds) μ1) := fun H0 W H σ Q m o en w => by
  refine h H0 W H σ _ m o en ?_
  cases rl with
  | ex c μ' => exact w
  | stuck => exact w
  | ok ds μ1 =>
    intro vs W1 H1 m1 o1 g1 r1
    rw [Rs.bind_ok] at w
    cases ef : biP .list ds with
    | none => rw [ef] at w; exact w.elim
    | some z =>
      rw [ef, opt_some] at w
      obtain ⟨l, rfl, w⟩ := w
      refine listN_ok o1 ef r1 fun p vs' H' o' g' hp hF hi e r => ?_
      have h0 : H p = none := by
        cases q : H p with
        | none => rfl
        | some u => exact absurd hp (g1.there p (by rw [q]; simp))
      exact w p vs' W1 H' m1 o' (g1.trans g') h0 hF hi e r
theorem fmt_ok {W : Wd} {H : Hp} {x : V} {d z : PyData} {Q : VK} (o : WOk K cl W H) (hz : fmtP d = some z) (rx : RepB K W H x d) (k : PostB K cl W H z Q) :
    (∃ y : Str, x = .str y ∧ y.length ≤ sizeLine ∧ Q (.str y) H) ∨ ∃ i : Int, x = .int i ∧ i.natAbs.log2 < 1920 ∧ Q (.str (toString i)) H := by
  unfold fmtP at hz
  split at hz
  · cases rx.str
    split at hz
    · rename_i hl
      cases hz
      exact .inl ⟨_, rfl, lim_le hl, k.here o (.str _)⟩
    · cases hz
  · cases rx.int
    split at hz
    · rename_i i hl
      cases hz
      refine .inr ⟨i, rfl, ?_, k.here o (.str _)⟩
      have hb : big = 2 ^ 64 := by decide
      rw [hb] at hl
      have : i.natAbs < 2 ^ 64 := by omega
      exact Nat.lt_trans (PySem.Flt.log2_lt_of (by decide) this) (by decide)
    · cases hz
  · cases hz
/-- the parts of a text -/
def WantJ (K : PySem.W.Frag) (cl : Nat → Addr) (Wx : WX) (W : Wd) (H : Hp) (σ : L2.St) (Q : Str → Hp → Prop) : Rs Str → Prop
  | .ok o μ' => ∀ W' H', W'.μ = μ' → WOk K cl W' H' → Go W H W' H' → Q o H'
  | .ex c μ' => ∀ W' H', W'.μ = μ' → WOk K cl W' H' → Go W H W' H' → Wx (.ref (cl c)) none σ H'
  | .stuck => False
def SdJ (K : PySem.W.Frag) (cl : Nat → Addr) (Wx : WX) (t : L2.St → Hp → (Str → Hp → Prop) → Prop) (env : List SV) (μ : Store) (r : Rs Str) : Prop := ∀ H0 W H σ Q, W.μ = μ → WOk K cl W H → EnvOk K H0 W H env σ → WantJ K cl Wx W H σ Q r → t σ H Q
theorem sdJ_cons {Wx : WX} {ta : TE} {ra : Rs PyData} {b1 : Bool} {acc : Str} {t : Str → L2.St → Hp → (Str → Hp → Prop) → Prop} {fb : Str → Store → Rs Str} (ha : Sd K cl Wx ta env μ b1 ra) (hb : ∀ y μ1, SdJ K cl Wx (t y) env μ1 (fb y μ1)) :
    SdJ K cl Wx (fun σ H Q => ta σ H fun x H1 => ∃ y : Str, x = .str y ∧ (acc ++ y).length ≤ sizeLine ∧ t y σ H1 Q) env μ (ra.bind fun x μ1 => match x with
    | .str y => if (acc ++ y).length ≤ lim then fb y μ1 else .stuck
    | _ => .stuck) := fun H0 W H σ Q m o en w => by
  refine ha H0 W H σ _ m o en ?_
  cases ra with
  | ex c μ' => exact w
  | stuck => exact w
  | ok d μ1 =>
    intro v W1 H1 m1 o1 g1 r1 _
    rw [Rs.bind_ok] at w
    split at w
    · rename_i y _
      cases r1.str
      split at w
      · rename_i hl
        refine ⟨_, rfl, lim_le hl, hb _ μ1 H0 W1 H1 σ Q m1 o1 (en.go g1) ?_⟩
        cases e : fb y μ1 with
        | ok z μ2 => rw [e] at w; exact fun W2 H2 m2 o2 g2 => w W2 H2 m2 o2 (g1.trans g2)
        | ex c μ' => rw [e] at w; exact exUp g1 w
        | stuck => rw [e] at w; exact w
      · exact w.elim
    · exact w.elim
theorem sd_fstr {Wx : WX} {t : L2.St → Hp → (Str → Hp → Prop) → Prop} {r : Rs Str} {bv : Bool} (h : SdJ K cl Wx t env μ r) : Sd K cl Wx (fun σ H Q => t σ H fun out H1 => Q (.str out) H1) env μ bv (r.bind fun x μ1 => .ok (.str x) μ1) := fun H0 W H σ Q m o en w => by
  refine h H0 W H σ _ m o en ?_
  cases r with
  | ex c μ' => exact w
  | stuck => exact w
  | ok d μ1 => exact fun W1 H1 m1 o1 g1 => w _ W1 H1 m1 o1 g1 (.inl (.str _)) fun _ => .str _
/-! ## a display of texts, asked at once -/
def pairsOf : List Str → List V → List (Key × V)
  | k :: ks, v :: vs => (.inr k, v) :: pairsOf ks vs
  | _, _ => []
theorem pairsOf_le : ∀ (ks : List Str) (vs : List V), (pairsOf ks vs).length ≤ ks.length
  | [], _ => Nat.le_refl _
  | _ :: _, [] => Nat.zero_le _
  | k :: ks, v :: vs => Nat.succ_le_succ (pairsOf_le ks vs)
theorem pairsOf_none : ∀ (ks : List Str) (vs : List V) (k : Str), k ∉ ks → valV (pairsOf ks vs) (.inr k) = none
  | [], _, _, _ => rfl
  | _ :: _, [], _, _ => rfl
  | k :: ks, v :: vs, w, h => by
    show valV ((.inr k, v) :: pairsOf ks vs) (.inr w) = none
    rw [valV_neg (fun e => h (by cases e; exact List.mem_cons_self))]
    exact pairsOf_none ks vs w fun z => h (List.mem_cons_of_mem _ z)
theorem merge_fresh : ∀ (ks : List Str) (vs : List V) (acc : List (Key × V)), ks.Nodup → (∀ k ∈ ks, valV acc (.inr k) = none) → mergeK acc (pairsOf ks vs) = acc ++ pairsOf ks vs
  | [], _, acc, _, _ => (List.append_nil acc).symm
  | _ :: _, [], acc, _, _ => (List.append_nil acc).symm
  | k :: ks, v :: vs, acc, nd, h => by
    show mergeK (putK acc (.inr k) v) (pairsOf ks vs) = acc ++ (.inr k, v) :: pairsOf ks vs
    have nd' := List.nodup_cons.mp nd
    have h0 := h k List.mem_cons_self
    rw [putK_new v h0, merge_fresh ks vs _ nd'.2 fun j hj => ?_, List.append_assoc]
    · rfl
    · rw [valV_snoc _ _ _ _ h0, if_neg (fun e => nd'.1 (by cases e; exact hj))]
      exact h j (List.mem_cons_of_mem _ hj)
theorem look_val {F : Hp} {ι : List Addr} : ∀ {ks : List Str} {ds : List PyData} {vs : List V} {w : Str} {d : PyData}, RepL K F ι vs ds → lookD ks ds w = some d → ∃ v, valV (pairsOf ks vs) (.inr w) = some v ∧ Rep K F ι v d
  | [], _, _, _, _, _, h => by cases h
  | _ :: _, [], _, _, _, _, h => by cases h
  | k :: ks, d0 :: ds, _, w, d, .cons (v := v) (vs := vs) r rr, h => by
    unfold lookD at h
    by_cases e : k = w
    · rw [if_pos e] at h
      cases h
      exact ⟨v, valV_pos (by rw [e]), r⟩
    · rw [if_neg e] at h
      obtain ⟨u, h1, h2⟩ := look_val rr h
      refine ⟨u, ?_, h2⟩
      show valV ((.inr k, v) :: pairsOf ks vs) (.inr w) = some u
      rw [valV_neg (fun z => e (by cases z; rfl))]
      exact h1
def SdP (K : PySem.W.Frag) (cl : Nat → Addr) (Wx : WX) (trs : List (TE × TE)) (ks : List Str) (env : List SV) (μ : Store) (r : Rs (List PyData)) : Prop :=
  ∀ H0 W H σ (Q : List (V × V) → Hp → Prop), W.μ = μ → WOk K cl W H → EnvOk K H0 W H env σ → ks.length = trs.length →
    WantL K cl Wx W H σ (fun vs H' => Q ((pairsOf ks vs).map fun kv => (kV kv.1, kv.2)) H') r → tPairs trs σ H Q
theorem sdP_cons {ta : TE} {trs : List (TE × TE)} {ks : List Str} {ra : Rs PyData} {fb : Store → Rs (List PyData)} (ha : Sd K cl Wx ta env μ false ra) (hb : ∀ μ1, SdP K cl Wx trs ks.tail env μ1 (fb μ1)) :
    SdP K cl Wx ((tC (.str (ks.headD Str.empty)), ta) :: trs) ks env μ (ra.bind fun d μ1 => (fb μ1).bind fun ds μ2 => .ok (d :: ds) μ2) := fun H0 W H σ Q m o en hl w => by
  cases ks with
  | nil => cases hl
  | cons k ks =>
    show ta σ H fun y H2 => tPairs trs σ H2 fun ps H3 => Q ((.str k, y) :: ps) H3
    refine ha H0 W H σ _ m o en ?_
    cases ra with
    | ex c μ' => exact w
    | stuck => exact w
    | ok d μ1 =>
      intro v W1 H1 m1 o1 g1 _ r1
      refine hb μ1 H0 W1 H1 σ _ m1 o1 (en.go g1) (Nat.succ.inj hl) ?_
      rw [Rs.bind_ok] at w
      cases eb : fb μ1 with
      | ex c μ' => rw [eb] at w; exact exUp g1 w
      | stuck => rw [eb] at w; exact w
      | ok e μ2 =>
        rw [eb, Rs.bind_ok] at w
        intro u W2 H2 m2 o2 g2 r2
        exact w (v :: u) W2 H2 m2 o2 (g1.trans g2) (.cons (g2.rep (r1 rfl)) r2)
theorem sdP_if {trs : List (TE × TE)} {ks : List Str} {q : Bool} {r : Rs (List PyData)} (h : q = false → SdP K cl Wx trs ks env μ r) : SdP K cl Wx trs ks env μ (if q = true then .stuck else r) := by
  cases q with
  | true => exact fun _ _ _ _ _ _ _ _ _ w => w.elim
  | false => exact h rfl
theorem sd_dsp {trs : List (TE × TE)} {ks : List Str} {tb : TE} {rl : Rs (List PyData)} {fb : Store → Rs PyData} {b2 bv : Bool} (nd : ks.Nodup) (hl : ks.length = trs.length) (h15 : ks.length ≤ 15)
    (hP : SdP K cl Wx trs ks env μ rl) (hb : ∀ μ1, Sd K cl Wx tb env μ1 b2 (fb μ1)) : Sd K cl Wx (tDGet (tDisp trs) tb) env μ bv (rl.bind fun ds μ1 => (fb μ1).bind fun y μ2 => opt (dspP ks ds y) μ2) := fun H0 W H σ Q m o en w => by
  intro p hp
  have gp : Go W H W (upd H p (.dK [])) := Go.new hp
  have op : WOk K cl W (upd H p (.dK [])) := o.new hp
  have hF := o.fnone hp
  have hi := o.notIn hp
  refine hP H0 W (upd H p (.dK [])) σ _ m op (en.go gp) hl ?_
  cases rl with
  | ex c μ' => exact exUp gp w
  | stuck => exact w
  | ok ds μ1 =>
    rw [Rs.bind_ok] at w
    intro vs W1 H1 m1 o1 g1 r1
    have e1 : H1 p = some (.dK []) := g1.keep p _ upd_same hi
    have hF1 : W1.F p = none := g1.fn p (by rw [upd_same]; simp) hF
    have hi1 : p ∉ W1.ι := fun z => hi (g1.inew p z (by rw [upd_same]; simp))
    have em : mergeK [] (pairsOf ks vs) = pairsOf ks vs := merge_fresh ks vs [] nd fun _ _ => rfl
    have o1' : WOk K cl W1 (upd H1 p (.dK (pairsOf ks vs))) := o1.mut hF1 hi1
    have g1' : Go W H W1 (upd H1 p (.dK (pairsOf ks vs))) := Go.mut (gp.trans g1) hp
    refine ⟨e1, pairsOf ks vs, rfl, Nat.le_trans (pairsOf_le ks vs) h15, ?_⟩
    rw [em]
    refine hb μ1 H0 W1 _ σ _ m1 o1' (en.go g1') ?_
    cases eb : fb μ1 with
    | ex c μ' => rw [eb] at w; exact exUp g1' w
    | stuck => rw [eb] at w; exact w
    | ok y μ2 =>
      rw [eb, Rs.bind_ok] at w
      intro u W2 H2 m2 o2 g2 r2 _
      cases y with
      | str wd =>
        cases ed : dspP ks ds (.str wd) with
        | none => rw [ed] at w; exact w.elim
        | some z =>
          rw [ed, opt_some] at w
          obtain ⟨v, hv, rv⟩ := look_val r1 (show lookD ks ds wd = some z from ed)
          have e2 : H2 p = some (.dK (pairsOf ks vs)) := g2.keep p _ upd_same hi1
          have hu : u = .str wd := r2.str
          subst hu
          have q := DGet.k (k := .inr wd) e2
          rw [hv] at q
          exact ⟨p, v, rfl, q, w v W2 H2 m2 o2 (g1'.trans g2) (.inl (g2.rep rv)) fun _ => g2.rep rv⟩
      | none => exact w.elim
      | bool _ => exact w.elim
      | int _ => exact w.elim
      | list _ => exact w.elim
      | tuple _ => exact w.elim
      | dict _ => exact w.elim
theorem sd_dspIf {trs : List (TE × TE)} {ks : List Str} {tb : TE} {rl : Rs (List PyData)} {fb : Store → Rs PyData} {b2 bv : Bool} {n : Nat} (hn : trs.length = n)
    (hP : SdP K cl Wx trs ks env μ rl) (hb : ∀ μ1, Sd K cl Wx tb env μ1 b2 (fb μ1)) : Sd K cl Wx (tDGet (tDisp trs) tb) env μ bv (if ks.Nodup ∧ ks.length = n ∧ ks.length ≤ 15 then rl.bind fun ds μ1 => (fb μ1).bind fun y μ2 => opt (dspP ks ds y) μ2 else .stuck) := by
  by_cases h : ks.Nodup ∧ ks.length = n ∧ ks.length ≤ 15
  · rw [if_pos h]
    exact sd_dsp h.1 (h.2.1.trans hn.symm) h.2.2 hP hb
  · rw [if_neg h]
    exact sd_stuck
/-! ## all expressions -/
theorem rdP_len : ∀ (ks : List Str) (l : List E) (Wx : WX), (rdP K cl C Wx ks l).length = l.length
  | _, [], _ => rfl
  | ks, e :: r, Wx => congrArg Nat.succ (rdP_len ks.tail r Wx)
mutual
theorem snd : ∀ (e : E) (Wx : WX) (env : List SV) (μ : Store), Sd K cl Wx (rd2 K cl C Wx e).1 env μ e.isBv (ev C e env μ) ∧ SdT K cl Wx (rd2 K cl C Wx e).2 env μ (ev C e env μ)
  | .var i, Wx, env, μ => ⟨sd_var i, sd_test (bv := false) (sd_var i)⟩
  | .bv i, Wx, env, μ => ⟨sd_bv i, sd_test (sd_bv i)⟩
  | .cst d, Wx, env, μ => ⟨sd_cst d, sd_test (bv := false) (sd_cst d)⟩
  | .bin o a b, Wx, env, μ => by
    have h := fun bv => sd_op (bv := bv) (snd a Wx env μ).1 (fun μ1 => (snd b Wx env μ1).1) (r := rBin K o) (f := binP o) fun ok hz rx ry k => bin_ok ok hz rx ry k
    exact ⟨h _, sd_test (h false)⟩
  | .neg a, Wx, env, μ => ⟨sd_neg (snd a Wx env μ).1, sd_test (bv := false) (sd_neg (snd a Wx env μ).1)⟩
  | .cmp o a b, Wx, env, μ => by
    have h := fun bv => sd_op (bv := bv) (snd a Wx env μ).1 (fun μ1 => (snd b Wx env μ1).1) (r := rCmp K o) (f := cmpP o) fun ok hz rx ry k => cmp_ok ok hz rx ry k
    exact ⟨h _, sd_test (h false)⟩
  | .isn ng a, Wx, env, μ => ⟨sd_isn (snd a Wx env μ).1, sd_test (bv := false) (sd_isn (snd a Wx env μ).1)⟩
  | .chain o o' a b c, Wx, env, μ => by
    have h := fun bv => sd_chain (bv := bv) (o := o) (o' := o') (snd a Wx env μ).1 (fun μ1 => (snd b Wx env μ1).1) fun μ1 => (snd c Wx env μ1).1
    exact ⟨h _, sd_test (h false)⟩
  | .and a b, Wx, env, μ => ⟨sd_and (snd a Wx env μ).1 fun hq μ1 => hq ▸ (snd b Wx env μ1).1, sdT_and (snd a Wx env μ).2 fun _ μ1 => (snd b Wx env μ1).2⟩
  | .or a b, Wx, env, μ => ⟨sd_or (snd a Wx env μ).1 fun hq μ1 => hq ▸ (snd b Wx env μ1).1, sdT_or (snd a Wx env μ).2 fun _ μ1 => (snd b Wx env μ1).2⟩
  | .not a, Wx, env, μ => ⟨sd_not (snd a Wx env μ).1, sdT_not (snd a Wx env μ).2⟩
  | .tru a, Wx, env, μ => ⟨sd_tru (snd a Wx env μ).1, sdT_tru (snd a Wx env μ).1⟩
  | .ite c a b, Wx, env, μ => by
    have h := fun bv => sd_ite (bv := bv) (q := a.isBv || b.isBv) (snd c Wx env μ).2 (fun hq μ1 => (Bool.or_eq_false_iff.mp hq).1 ▸ (snd a Wx env μ1).1) fun hq μ1 => (Bool.or_eq_false_iff.mp hq).2 ▸ (snd b Wx env μ1).1
    exact ⟨h _, sd_test (h false)⟩
  | .tup l, Wx, env, μ => ⟨sd_tup (sndL l Wx env μ), sd_test (bv := false) (sd_tup (sndL l Wx env μ))⟩
  | .lst l, Wx, env, μ => by
    have h := fun bv => sd_ofN (bv := bv) (fun d μ' => isList_of_if) (sdN_lst (sndL l Wx env μ))
    exact ⟨h _, sd_test (h false)⟩
  | .idx a b, Wx, env, μ => by
    have h := fun bv => sd_op (bv := bv) (snd a Wx env μ).1 (fun μ1 => (snd b Wx env μ1).1) (r := rIx K) (f := idxP) fun ok hz rx ry k => idx_ok ok hz rx ry k
    exact ⟨h _, sd_test (h false)⟩
  | .slc a lo hi, Wx, env, μ => by
    have h := fun bv => sd_slc (bv := bv) (snd a Wx env μ).1 (fun μ1 => sdO_of lo (snd lo Wx env μ1).1) (fun μ1 => sdO_of hi (snd hi Wx env μ1).1)
    exact ⟨h _, sd_test (h false)⟩
  | .call f l, Wx, env, μ => ⟨sd_call C (sndL l Wx env μ), sd_test (bv := false) (sd_call C (sndL l Wx env μ))⟩
  | .bi b l, Wx, env, μ => by
    have h := fun bv => sd_ta (bv := bv) (r := rBi K b) (f := biP b) (sndB l Wx env μ) fun ok hz rs k => bi_ok ok hz rs k
    exact ⟨h _, sd_test (h false)⟩
  | .isi T a, Wx, env, μ => ⟨sd_isi (snd a Wx env μ).1, sd_test (bv := false) (sd_isi (snd a Wx env μ).1)⟩
  | .join a b, Wx, env, μ => ⟨sd_join (snd a Wx env μ).1 fun μ1 => (snd b Wx env μ1).1, sd_test (bv := false) (sd_join (snd a Wx env μ).1 fun μ1 => (snd b Wx env μ1).1)⟩
  | .comp it tg c e vs, Wx, env, μ => by
    have h := fun bv => sd_comp (bv := bv) (tg := tg) (vs := vs) (q := e.isBv) (sndI it Wx env μ) (fun env μ => sdC_of c (snd c noW env μ).2) (fun hq env μ => hq ▸ (snd e noW env μ).1)
    exact ⟨h _, sd_test (h false)⟩
  | .fmt a, Wx, env, μ => by
    have h := fun bv => sd_1 (bv := bv) (k := fun x H Q => (∃ y : Str, x = .str y ∧ y.length ≤ sizeLine ∧ Q (.str y) H) ∨ ∃ i : Int, x = .int i ∧ i.natAbs.log2 < 1920 ∧ Q (.str (toString i)) H) (snd a Wx env μ).1 fun o hz rx k => fmt_ok o hz rx k
    exact ⟨h _, sd_test (h false)⟩
  | .fstr l, Wx, env, μ => ⟨sd_fstr (sndJ l Str.empty Wx env μ), sd_test (bv := false) (sd_fstr (sndJ l Str.empty Wx env μ))⟩
  | .dsp ks l b, Wx, env, μ => by
    have h := fun bv => sd_dspIf (bv := bv) (rdP_len C ks l Wx) (sndP ks l Wx env μ) fun μ1 => (snd b Wx env μ1).1
    exact ⟨h _, sd_test (h false)⟩
  | .no, Wx, env, μ => ⟨sd_stuck, fun _ _ _ _ _ _ _ _ w => w.elim⟩
  | .rng1 _, Wx, env, μ => ⟨sd_stuck, fun _ _ _ _ _ _ _ _ w => w.elim⟩
  | .rng2 _ _, Wx, env, μ => ⟨sd_stuck, fun _ _ _ _ _ _ _ _ w => w.elim⟩
  | .seqL _, Wx, env, μ => ⟨sd_stuck, fun _ _ _ _ _ _ _ _ w => w.elim⟩
  | .seqT _, Wx, env, μ => ⟨sd_stuck, fun _ _ _ _ _ _ _ _ w => w.elim⟩
  | .zip _ _, Wx, env, μ => ⟨sd_stuck, fun _ _ _ _ _ _ _ _ w => w.elim⟩
  | .enum _, Wx, env, μ => ⟨sd_stuck, fun _ _ _ _ _ _ _ _ w => w.elim⟩
theorem sndP : ∀ (ks : List Str) (l : List E) (Wx : WX) (env : List SV) (μ : Store), SdP K cl Wx (rdP K cl C Wx ks l) ks env μ (evL C l env μ)
  | ks, [], Wx, env, μ => fun H0 W H σ Q m o en hl w => by
    have e : (pairsOf ks ([] : List V)) = [] := by cases ks <;> rfl
    have q : Q ((pairsOf ks ([] : List V)).map fun kv => (kV kv.1, kv.2)) H := w [] W H m o (Go.refl _ _) .nil
    rw [e] at q
    exact q
  | ks, e :: r, Wx, env, μ => sdP_if fun hq => sdP_cons (hq ▸ (snd e Wx env μ).1) fun μ1 => sndP ks.tail r Wx env μ1
theorem sndL : ∀ (l : List E) (Wx : WX) (env : List SV) (μ : Store), SdL K cl Wx (rdL K cl C Wx l) env μ (evL C l env μ)
  | [], Wx, env, μ => sdL_nil
  | e :: r, Wx, env, μ => sdL_if fun hq => sdL_cons (hq ▸ (snd e Wx env μ).1) fun μ1 => sndL r Wx env μ1
theorem sndB : ∀ (l : List E) (Wx : WX) (env : List SV) (μ : Store), SdB K cl Wx (rdL K cl C Wx l) env μ (evB C l env μ)
  | [], Wx, env, μ => sdB_nil
  | e :: r, Wx, env, μ => sdB_cons (snd e Wx env μ).1 fun μ1 => sndB r Wx env μ1
theorem sndJ : ∀ (l : List E) (acc : Str) (Wx : WX) (env : List SV) (μ : Store), SdJ K cl Wx (rdJ K cl C Wx l acc) env μ (evJ C l acc env μ)
  | [], acc, Wx, env, μ => fun H0 W H σ Q m o en w => w W H m o (Go.refl _ _)
  | e :: r, acc, Wx, env, μ => sdJ_cons (snd e Wx env μ).1 fun y μ1 => sndJ r (acc ++ y) Wx env μ1
theorem sndI : ∀ (e : E) (Wx : WX) (env : List SV) (μ : Store), SdI K cl Wx (rdI K cl C Wx e) env μ (evI C e env μ)
  | .rng1 a, Wx, env, μ => sdI_1 (snd a Wx env μ).1
  | .rng2 a b, Wx, env, μ => sdI_2 (snd a Wx env μ).1 fun μ1 => (snd b Wx env μ1).1
  | .seqL a, Wx, env, μ => sdI_L fun hq => hq ▸ (snd a Wx env μ).1
  | .seqT a, Wx, env, μ => sdI_T (snd a Wx env μ).1
  | .zip a b, Wx, env, μ => sdI_zip (fun hq => (Bool.or_eq_false_iff.mp hq).1 ▸ (snd a Wx env μ).1) fun hq μ1 => (Bool.or_eq_false_iff.mp hq).2 ▸ (snd b Wx env μ1).1
  | .enum a, Wx, env, μ => sdI_enum fun hq => hq ▸ (snd a Wx env μ).1
  | .var _, Wx, env, μ => sdI_stuck
  | .bv _, Wx, env, μ => sdI_stuck
  | .cst _, Wx, env, μ => sdI_stuck
  | .bin _ _ _, Wx, env, μ => sdI_stuck
  | .neg _, Wx, env, μ => sdI_stuck
  | .cmp _ _ _, Wx, env, μ => sdI_stuck
  | .isn _ _, Wx, env, μ => sdI_stuck
  | .chain _ _ _ _ _, Wx, env, μ => sdI_stuck
  | .and _ _, Wx, env, μ => sdI_stuck
  | .or _ _, Wx, env, μ => sdI_stuck
  | .not _, Wx, env, μ => sdI_stuck
  | .tru _, Wx, env, μ => sdI_stuck
  | .ite _ _ _, Wx, env, μ => sdI_stuck
  | .tup _, Wx, env, μ => sdI_stuck
  | .lst _, Wx, env, μ => sdI_stuck
  | .idx _ _, Wx, env, μ => sdI_stuck
  | .slc _ _ _, Wx, env, μ => sdI_stuck
  | .call _ _, Wx, env, μ => sdI_stuck
  | .bi _ _, Wx, env, μ => sdI_stuck
  | .isi _ _, Wx, env, μ => sdI_stuck
  | .join _ _, Wx, env, μ => sdI_stuck
  | .fmt _, Wx, env, μ => sdI_stuck
  | .fstr _, Wx, env, μ => sdI_stuck
  | .comp _ _ _ _ _, Wx, env, μ => sdI_stuck
  | .dsp _ _ _, Wx, env, μ => sdI_stuck
  | .no, Wx, env, μ => sdI_stuck
end
@[simp] def E.fresh : E → Bool
  | .lst _ => true
  | .comp _ _ _ _ _ => true
  | .bi .list _ => true
  | _ => false
theorem sndN : ∀ (e : E) (Wx : WX) (env : List SV) (μ : Store), e.fresh = true → SdN K cl Wx (rd2 K cl C Wx e).1 env μ (ev C e env μ)
  | .lst l, Wx, env, μ, _ => sdN_lst (sndL C l Wx env μ)
  | .comp it tg c e vs, Wx, env, μ, _ => sdN_comp2 (tg := tg) (vs := vs) (q := e.isBv) (sndI C it Wx env μ) (fun env μ => sdC_of c (snd C c noW env μ).2) (fun hq env μ => hq ▸ (snd C e noW env μ).1)
  | .bi .list l, Wx, env, μ, _ => sdN_bi (sndB C l Wx env μ)
end
end PVL
end

section
set_option Elab.async false
set_option linter.all false
set_option maxRecDepth 100000
set_option maxHeartbeats 4000000
namespace PVL
open PySem PySem.Spec PyProof.Rows L2

/-! # Statements -/
inductive S where
  | asg (i : Nat) (e : E)
  | asgN (i : Nat) (e : E)
  | asgT (l : List Nat) (e : E)
  | par (i j : Nat) (a b : E)
  | app (i : Nat) (e : E)
  | setI (i : Nat) (k e : E)
  | iff (c : E) (a b : List S)
  | for_ (it : E) (tg : Tg) (b : List S)
  | whil (c : E) (b : List S)
  | ret (e : E)
  | retN
  | exp (e : E)
  | raise (c : Nat) (e : E)
  | try_ (b : List S) (hs : List (Nat × List S))
  | brk
  | cnt
  | pass
  | frz (i : Nat) (s : S)
  | tryIs (b : List S) (c i : Nat)
inductive Out where
  | nx (env : List SV) (μ : Store)
  | bk (env : List SV) (μ : Store)
  | ct (env : List SV) (μ : Store)
  | rt (d : PyData) (μ : Store)
  | ex (c : Nat) (env : List SV) (μ : Store)
  | stuck
/-- an expression's outcome within a statement -/
def thenO {α : Type} (r : Rs α) (env : List SV) (f : α → Store → Out) : Out := match r with
  | .ok a μ => f a μ
  | .ex c μ => .ex c env μ
  | .stuck => .stuck
@[simp] theorem thenO_ok {α : Type} {a : α} {μ : Store} {env : List SV} {f : α → Store → Out} : thenO (.ok a μ) env f = f a μ := rfl
@[simp] theorem thenO_ex {α : Type} {c : Nat} {μ : Store} {env : List SV} {f : α → Store → Out} : thenO (.ex c μ) env f = .ex c env μ := rfl
@[simp] theorem thenO_stuck {α : Type} {env : List SV} {f : α → Store → Out} : thenO (.stuck : Rs α) env f = .stuck := rfl
def Out.then (o : Out) (f : List SV → Store → Out) : Out := match o with
  | .nx e m => f e m
  | o => o
@[simp] theorem Out.then_nx {e : List SV} {m : Store} {f : List SV → Store → Out} : (Out.nx e m).then f = f e m := rfl
@[simp] theorem Out.then_rt {d : PyData} {m : Store} {f : List SV → Store → Out} : (Out.rt d m).then f = .rt d m := rfl
@[simp] theorem Out.then_ex {c : Nat} {e : List SV} {m : Store} {f : List SV → Store → Out} : (Out.ex c e m).then f = .ex c e m := rfl
@[simp] theorem Out.then_bk {e : List SV} {m : Store} {f : List SV → Store → Out} : (Out.bk e m).then f = .bk e m := rfl
@[simp] theorem Out.then_ct {e : List SV} {m : Store} {f : List SV → Store → Out} : (Out.ct e m).then f = .ct e m := rfl
@[simp] theorem Out.then_stuck {f : List SV → Store → Out} : Out.stuck.then f = .stuck := rfl
def fLoop (tg : Tg) (f : List SV → Store → Out) : List PyData → List SV → Store → Out
  | [], env, μ => .nx env μ
  | d :: ds, env, μ => match tg.put d env with
    | none => .stuck
    | some env' => match f env' μ with
      | .nx e m => fLoop tg f ds e m
      | .ct e m => fLoop tg f ds e m
      | .bk e m => .nx e m
      | o => o
def wLoop (c : List SV → Store → Rs PyData) (f : List SV → Store → Out) : Nat → List SV → Store → Out
  | 0, _, _ => .stuck
  | n + 1, env, μ => thenO (c env μ) env fun k μ1 => match k with
    | .bool true => match f env μ1 with
      | .nx e m => wLoop c f n e m
      | .ct e m => wLoop c f n e m
      | .bk e m => .nx e m
      | o => o
    | .bool false => .nx env μ1
    | _ => .stuck
/-- which class is under which: from the text -/
abbrev Under := Nat → Nat → Option Bool
def pick (sub : Under) (c : Nat) (o : Out) : List (Nat × Out) → Out
  | [] => o
  | (c', r) :: hs => match sub c c' with
    | some true => match r with
      | .ex _ _ _ => .stuck
      | r => r
    | some false => pick sub c o hs
    | none => .stuck
def Out.caught (sub : Under) (o : Out) (g : List SV → Store → List (Nat × Out)) : Out := match o with
  | .ex c e m => pick sub c (.ex c e m) (g e m)
  | o => o
/-- try: .. except c as slot i: return isinstance(i, ValueError) -/
def Out.caughtIs (sub : Under) (c i : Nat) (o : Out) : Out := match o with
  | .ex c' e m => match sub c' c with
    | some true => if i < e.length then .rt (.bool true) m else .stuck
    | some false => .ex c' e m
    | none => .stuck
  | o => o
@[simp] def frzE (i : Nat) (env : List SV) : List SV := match env[i]? with
  | some (.ow l) => env.set i (.pv (.list l))
  | _ => env
mutual
def runS (C : Calls) (sub : Under) (L : Nat) : S → List SV → Store → Out
  | .asg i e, env, μ => if e.isBv then .stuck else thenO (ev C e env μ) env fun d μ1 => .nx (env.set i (.pv d)) μ1
  | .asgN i e, env, μ => if e.fresh then thenO (ev C e env μ) env fun d μ1 => match d with
      | .list l => .nx (env.set i (.ow l)) μ1
      | _ => .stuck
    else .stuck
  | .asgT l e, env, μ => if e.isBv then .stuck else thenO (ev C e env μ) env fun d μ1 => match (Tg.tp l).put d env with
      | some env' => .nx env' μ1
      | none => .stuck
  | .par i j a b, env, μ => thenO (evL C [a, b] env μ) env fun ds μ1 => match ds with
      | [d, e] => .nx ((env.set i (.pv d)).set j (.pv e)) μ1
      | _ => .stuck
  | .app i e, env, μ => match env[i]? with
      | some (.ow l) => if e.isBv then .stuck else thenO (ev C e env μ) env fun d μ1 => if l.length < lim then .nx (env.set i (.ow (l ++ [d]))) μ1 else .stuck
      | _ => .stuck
  | .setI i k e, env, μ => match env[i]? with
      | some (.ow l) => if e.isBv then .stuck else thenO (ev C e env μ) env fun d μ1 => thenO (ev C k env μ1) env fun kk μ2 => match kk with
        | .int n => match ixN l.length n with
          | some j => .nx (env.set i (.ow (l.set j d))) μ2
          | none => .stuck
        | _ => .stuck
      | _ => .stuck
  | .iff c a b, env, μ => thenO (ev C c env μ) env fun k μ1 => ifB k (runB C sub L a env μ1) (runB C sub L b env μ1) .stuck
  | .for_ it tg b, env, μ => thenO (evI C it env μ) env fun ds μ1 => fLoop tg (fun e m => runB C sub L b e m) ds env μ1
  | .whil c b, env, μ => wLoop (fun e m => ev C c e m) (fun e m => runB C sub L b e m) L env μ
  | .ret e, env, μ => if e.isBv then .stuck else thenO (ev C e env μ) env fun d μ1 => .rt d μ1
  | .retN, _, μ => .rt .none μ
  | .exp e, env, μ => thenO (ev C e env μ) env fun _ μ1 => .nx env μ1
  | .raise c e, env, μ => thenO (ev C e env μ) env fun _ μ1 => .ex c env μ1
  | .try_ b hs, env, μ => (runB C sub L b env μ).caught sub fun e m => runH C sub L hs e m
  | .brk, env, μ => .bk env μ
  | .cnt, env, μ => .ct env μ
  | .pass, env, μ => .nx env μ
  | .frz i s, env, μ => runS C sub L s (frzE i env) μ
  | .tryIs b c i, env, μ => (runB C sub L b env μ).caughtIs sub c i
def runB (C : Calls) (sub : Under) (L : Nat) : List S → List SV → Store → Out
  | [], env, μ => .nx env μ
  | s :: r, env, μ => (runS C sub L s env μ).then fun e m => runB C sub L r e m
def runH (C : Calls) (sub : Under) (L : Nat) : List (Nat × List S) → List SV → Store → List (Nat × Out)
  | [], _, _ => []
  | (c, b) :: r, env, μ => (c, runB C sub L b env μ) :: runH C sub L r env μ
end

/-- a class whose instances are ValueErrors -/
def IsVal (K : PySem.W.Frag) (D : Addr) : Prop := ExcC K D ∧ PySem.W.kitOne K (.ref D) (.type "ValueError") = some true
def tIsV (K : PySem.W.Frag) (i : Nat) (a : Addr) (cls : Value) (d : Option Addr) : TS := fun E σ H => ∃ D, cls = .ref D ∧ d = none ∧ IsVal K D ∧ σ[i]? = some (some (.ref a)) ∧ E.rt (.bl true) H
theorem pss_isv {X : Cx} {a : Addr} {oe : Obj} {cls : Value} {d : Option Addr} {pn : List (Addr × Obj)} {i : Nat} {st : Stmt}
    (h : ∀ D, cls = .ref D → d = none → IsVal X.K D → PS (X.suite a ((a, oe) :: pn)) st (tRet (tCB (rIsE X.K D a) (tCons (tVar i) (tCons (tC (.ty "ValueError")) tNil))))) :
    PSs (X.suite a ((a, oe) :: pn)) [st] (tIsV X.K i a cls d) := by
  refine pss_one ⟨fun pins s σ H E I w => ?_⟩
  obtain ⟨D, e1, e2, hv, hs, q⟩ := w
  refine (h D e1 e2 hv).run pins s σ H E I ?_
  exact ⟨_, hs, _, _, true, rfl, fun u hu => hu, hv.2, q⟩
section
def rdB' (t u : TS) : List S → TS
  | [] => t
  | _ :: _ => tSeq t u
variable (K : PySem.W.Frag) (cl : Nat → Addr) (C : Calls)
mutual
def rdS : WX → S → TS
  | Wx, .asg i e => tAsg (rd2 K cl C Wx e).1 (gName i)
  | Wx, .asgN i e => tAsg (rd2 K cl C Wx e).1 (gName i)
  | Wx, .asgT l e => tAsg (rd2 K cl C Wx e).1 ((Tg.tp l).rd K)
  | Wx, .par i j a b => tPar i j (rdL K cl C Wx [a, b])
  | Wx, .app i e => tDrop (tBM K "list" rAppend (tVar i) (tCons (rd2 K cl C Wx e).1 tNil))
  | Wx, .setI i k e => tAsg (rd2 K cl C Wx e).1 (gSub (tVar i) (rd2 K cl C Wx k).1 rSetL)
  | Wx, .iff c a b => tIfS (rd2 K cl C Wx c).2 (rdB Wx a) (rdB Wx b)
  | Wx, .for_ it tg b => tFor (rdI K cl C Wx it) (tg.rd K) (rdB Wx b)
  | Wx, .whil c b => tWhile (rd2 K cl C Wx c).2 (rdB Wx b)
  | Wx, .ret e => tRet (rd2 K cl C Wx e).1
  | _, .retN => tRetN
  | Wx, .exp e => tDrop (rd2 K cl C Wx e).1
  | Wx, .raise c e => fun _ σ H => (rd2 K cl C Wx e).1 σ H fun _ H1 => Wx (.ref (cl c)) none σ H1
  | Wx, .try_ b hs => fun D σ H => rdB (wMany K Wx D (rdH hs)) b D σ H
  | _, .brk => tBreak
  | _, .cnt => tCont
  | _, .pass => tNext
  | Wx, .frz _ s => rdS Wx s
  | Wx, .tryIs b c i => fun D σ H => rdB (wAs K (.ref (cl c)) i (tIsV K i) Wx D) b D σ H
def rdB : WX → List S → TS
  | _, [] => tNext
  | Wx, s :: r => rdB' (rdS Wx s) (rdB Wx r) r
def rdH : List (Nat × List S) → List (Value × (Addr → Value → Option Addr → TS))
  | [] => []
  | (c, b) :: r => (.ref (cl c), fun _ _ _ => rdB noW b) :: rdH r
end
end
end PVL
end

section
set_option Elab.async false
set_option linter.all false
set_option maxRecDepth 100000
set_option maxHeartbeats 4000000
namespace PVL
open PySem PySem.Spec PyProof.Rows L2
def WantS (K : PySem.W.Frag) (cl : Nat → Addr) (Wx : WX) (W0 : Wd) (H0 : Hp) (W : Wd) (D : Ends) : Out → Prop
  | .nx env' μ' => ∀ W' H' σ', W'.μ = μ' → WOk K cl W' H' → EnvOk K H0 W' H' env' σ' → Go W0 H0 W' H' → Sub W.F W'.F → W.ι <+: W'.ι → D.nx σ' H'
  | .bk env' μ' => ∀ W' H' σ', W'.μ = μ' → WOk K cl W' H' → EnvOk K H0 W' H' env' σ' → Go W0 H0 W' H' → Sub W.F W'.F → W.ι <+: W'.ι → D.bk σ' H'
  | .ct env' μ' => ∀ W' H' σ', W'.μ = μ' → WOk K cl W' H' → EnvOk K H0 W' H' env' σ' → Go W0 H0 W' H' → Sub W.F W'.F → W.ι <+: W'.ι → D.ct σ' H'
  | .rt d μ' => ∀ v W' H', W'.μ = μ' → WOk K cl W' H' → Go W0 H0 W' H' → Rep K W'.F W'.ι v d → D.rt v H'
  | .ex c env' μ' => ∀ W' H' σ', W'.μ = μ' → WOk K cl W' H' → EnvOk K H0 W' H' env' σ' → Go W0 H0 W' H' → Sub W.F W'.F → W.ι <+: W'.ι → Wx (.ref (cl c)) none σ' H'
  | .stuck => False
def SdS (K : PySem.W.Frag) (cl : Nat → Addr) (Wx : WX) (t : TS) (env : List SV) (μ : Store) (o : Out) : Prop :=
  ∀ W0 H0 W H σ D, W.μ = μ → WOk K cl W H → EnvOk K H0 W H env σ → Go W0 H0 W H → WantS K cl Wx W0 H0 W D o → t D σ H
section
variable {K : PySem.W.Frag} {cl : Nat → Addr} {Wx : WX} {env : List SV} {μ : Store} {H0 H H' : Hp} {W0 W W' : Wd} {σ : L2.St} {D : Ends} {o : Out}
/-- from a later start -/
theorem WantS.later {W1 : Wd} (f : Sub W.F W1.F) (i : W.ι <+: W1.ι) (w : WantS K cl Wx W0 H0 W D o) : WantS K cl Wx W0 H0 W1 D o := by
  cases o with
  | nx e m => exact fun W' H' σ' m o en g s p => w W' H' σ' m o en g (Evl.Ex.trans f s) (i.trans p)
  | bk e m => exact fun W' H' σ' m o en g s p => w W' H' σ' m o en g (Evl.Ex.trans f s) (i.trans p)
  | ct e m => exact fun W' H' σ' m o en g s p => w W' H' σ' m o en g (Evl.Ex.trans f s) (i.trans p)
  | rt d m => exact w
  | ex c e m => exact fun W' H' σ' m o en g s p => w W' H' σ' m o en g (Evl.Ex.trans f s) (i.trans p)
  | stuck => exact w
theorem sds_stuck {t : TS} : SdS K cl Wx t env μ .stuck := fun _ _ _ _ _ _ _ _ _ _ w => w.elim
theorem exS {c : Nat} {μ' : Store} (g0 : Go W0 H0 W H) (en : EnvOk K H0 W H env σ) (w : WantS K cl Wx W0 H0 W D (.ex c env μ')) :
    ∀ W' H', W'.μ = μ' → WOk K cl W' H' → Go W H W' H' → Wx (.ref (cl c)) none σ H' := fun W' H' m o g => w W' H' σ m o (en.go g) (g0.trans g) g.f g.i
/-- an expression, then what is done with its value -/
theorem sds_1 {te : TE} {k : V → L2.St → Hp → Ends → Prop} {r : Rs PyData} {bv : Bool} {f : PyData → Store → Out} (h : Sd K cl Wx te env μ bv r)
    (hk : ∀ {W1 : Wd} {H1 : Hp} {v : V} {d : PyData} {D : Ends} {W0 : Wd} {H0 : Hp} {σ : L2.St}, WOk K cl W1 H1 → EnvOk K H0 W1 H1 env σ → Go W0 H0 W1 H1 → RepB K W1 H1 v d → (bv = false → Rep K W1.F W1.ι v d) → WantS K cl Wx W0 H0 W1 D (f d W1.μ) → k v σ H1 D) :
    SdS K cl Wx (fun D σ H => te σ H fun v H1 => k v σ H1 D) env μ (thenO r env f) := fun W0 H0 W H σ D m o en g w => by
  refine h H0 W H σ _ m o en ?_
  cases r with
  | ex c μ' => exact exS g en w
  | stuck => exact w
  | ok d μ1 =>
    rw [thenO_ok] at w
    intro v W1 H1 m1 o1 g1 r1 r2
    subst m1
    exact hk o1 (en.go g1) (g.trans g1) r1 r2 (w.later g1.f g1.i)
theorem sds_if {t : TS} {q : Bool} {o : Out} (h : q = false → SdS K cl Wx t env μ o) : SdS K cl Wx t env μ (if q then .stuck else o) := by
  cases q with
  | true => exact sds_stuck
  | false => exact h rfl
theorem sds_asg {te : TE} {r : Rs PyData} {i : Nat} (h : Sd K cl Wx te env μ false r) : SdS K cl Wx (tAsg te (gName i)) env μ (thenO r env fun d μ1 => .nx (env.set i (.pv d)) μ1) :=
  sds_1 (k := fun v σ H D => D.nx (σ.set i (some v)) H) h fun {W1 H1 v d D W0 H0 σ} o en g _ r w => w W1 H1 _ rfl o (en.set (r rfl) i) g (fun _ _ h => h) (List.prefix_refl _)
theorem sds_ret {te : TE} {r : Rs PyData} (h : Sd K cl Wx te env μ false r) : SdS K cl Wx (tRet te) env μ (thenO r env fun d μ1 => .rt d μ1) :=
  sds_1 (k := fun v σ H D => D.rt v H) h fun {W1 H1 v d D W0 H0 σ} o en g _ r w => w v W1 H1 rfl o g (r rfl)
theorem sds_exp {te : TE} {r : Rs PyData} {bv : Bool} (h : Sd K cl Wx te env μ bv r) : SdS K cl Wx (tDrop te) env μ (thenO r env fun _ μ1 => .nx env μ1) :=
  sds_1 (k := fun v σ H D => D.nx σ H) h fun {W1 H1 v d D W0 H0 σ} o en g _ r w => w W1 H1 _ rfl o en g (fun _ _ h => h) (List.prefix_refl _)
theorem sds_raise {te : TE} {r : Rs PyData} {bv : Bool} {c : Nat} (h : Sd K cl Wx te env μ bv r) : SdS K cl Wx (fun _ σ H => te σ H fun _ H1 => Wx (.ref (cl c)) none σ H1) env μ (thenO r env fun _ μ1 => .ex c env μ1) :=
  sds_1 (k := fun v σ H D => Wx (.ref (cl c)) none σ H) h fun {W1 H1 v d D W0 H0 σ} o en g _ r w => w W1 H1 _ rfl o en g (fun _ _ h => h) (List.prefix_refl _)
theorem sds_asgT {te : TE} {r : Rs PyData} {l : List Nat} (h : Sd K cl Wx te env μ false r) : SdS K cl Wx (tAsg te ((Tg.tp l).rd K)) env μ (thenO r env fun d μ1 => match (Tg.tp l).put d env with
      | some env' => .nx env' μ1
      | none => .stuck) :=
  sds_1 (k := fun v σ H D => (Tg.tp l).rd K v σ H D.nx) h fun {W1 H1 v d D W0 H0 σ} o en g _ r w => by
    cases e : (Tg.tp l).put d env with
    | none => rw [e] at w; exact w.elim
    | some env' =>
      rw [e] at w
      exact tg_ok o en (r rfl) e fun σ2 en2 _ => w W1 H1 σ2 rfl o en2 g (fun _ _ h => h) (List.prefix_refl _)
theorem sds_par {ta : TA} {r : Rs (List PyData)} {i j : Nat} (h : SdL K cl Wx ta env μ r) : SdS K cl Wx (tPar i j ta) env μ (thenO r env fun ds μ1 => match ds with
      | [d, e] => .nx ((env.set i (.pv d)).set j (.pv e)) μ1
      | _ => .stuck) := fun W0 H0 W H σ D m o en g w => by
  refine h H0 W H σ _ m o en ?_
  cases r with
  | ex c μ' => exact exS g en w
  | stuck => exact w
  | ok ds μ1 =>
    rw [thenO_ok] at w
    intro vs W1 H1 m1 o1 g1 r1
    split at w
    · cases r1 with
      | cons ra r1 =>
        cases r1 with
        | cons rb r1 =>
          cases r1
          exact ⟨_, _, rfl, w W1 H1 _ m1 o1 (((en.go g1).set ra i).set rb j) (g.trans g1) g1.f g1.i⟩
    · exact w.elim
/-- an own list is changed in place -/
theorem EnvOk.mutOw {i : Nat} {l l' : List PyData} {a : Addr} {vs' : List V} (en : EnvOk K H0 W H env σ) (e : env[i]? = some (.ow l)) (es : σ[i]? = some (some (.ref a))) (h0 : H0 a = none) (hF : W.F a = none) (hi : a ∉ W.ι) (r : RepL K W.F W.ι vs' l') :
    EnvOk K H0 W (upd H a (.lst vs')) (env.set i (.ow l')) σ := by
  have hlt : i < env.length := (List.getElem?_eq_some_iff.mp e).1
  refine ⟨by simp [en.len], fun j s ej => ?_, fun j k p q hjk e1 e2 => ?_⟩
  · by_cases hj : i = j
    · subst hj
      rw [List.getElem?_set_self hlt] at ej
      cases ej
      exact ⟨a, vs', es, h0, hF, hi, upd_same, r⟩
    · rw [List.getElem?_set_ne hj] at ej
      have hs := en.slots j s ej
      cases s with
      | un => exact trivial
      | pv d => exact hs
      | ow m =>
        obtain ⟨b, ws, eb, b0, bF, bi, bh, br⟩ := hs
        have ne : b ≠ a := fun z => by
          subst z
          exact en.apart i j l m hj e ej (es.trans eb.symm)
        exact ⟨b, ws, eb, b0, bF, bi, by rw [upd_ne ne]; exact bh, br⟩
  · have get : ∀ (j : Nat) (p : List PyData), (env.set i (.ow l'))[j]? = some (.ow p) → ∃ p', env[j]? = some (.ow p') := fun j p e1 => by
      by_cases hj : i = j
      · subst hj
        exact ⟨l, e⟩
      · rw [List.getElem?_set_ne hj] at e1
        exact ⟨p, e1⟩
    obtain ⟨p', e1'⟩ := get j p e1
    obtain ⟨q', e2'⟩ := get k q e2
    exact en.apart j k p' q' hjk e1' e2'
theorem EnvOk.setOw {i : Nat} {l : List PyData} {p : Addr} {vs : List V} (en : EnvOk K H0 W H env σ) (h0 : H0 p = none) (hF : W.F p = none) (hi : p ∉ W.ι) (hh : H p = some (.lst vs)) (r : RepL K W.F W.ι vs l)
    (hd : ∀ (j : Nat) (l' : List PyData), env[j]? = some (.ow l') → σ[j]? ≠ some (some (.ref p))) : EnvOk K H0 W H (env.set i (.ow l)) (σ.set i (some (.ref p))) := by
  refine ⟨by simp [en.len], fun j s ej => ?_, fun j k q q' hjk e1 e2 => ?_⟩
  · by_cases hj : i = j
    · subst hj
      by_cases hl : i < env.length
      · rw [List.getElem?_set_self hl] at ej
        cases ej
        exact ⟨p, vs, by rw [List.getElem?_set_self (by rw [en.len]; exact hl)], h0, hF, hi, hh, r⟩
      · rw [List.getElem?_eq_none (by simp; omega)] at ej; cases ej
    · rw [List.getElem?_set_ne hj] at ej
      rw [List.getElem?_set_ne hj]
      exact en.slots j s ej
  · by_cases hj : i = j
    · subst hj
      have hk : i ≠ k := hjk
      rw [List.getElem?_set_ne hk] at e2 ⊢
      have hl : i < σ.length := by
        have := (List.getElem?_eq_some_iff.mp e1).1
        rw [List.length_set] at this
        rw [en.len]; exact this
      rw [List.getElem?_set_self hl]
      exact fun z => hd k q' e2 z.symm
    · rw [List.getElem?_set_ne hj] at e1 ⊢
      by_cases hk : i = k
      · subst hk
        have hl : i < σ.length := by
          have := (List.getElem?_eq_some_iff.mp e2).1
          rw [List.length_set] at this
          rw [en.len]; exact this
        rw [List.getElem?_set_self hl]
        exact hd j q e1
      · rw [List.getElem?_set_ne hk] at e2 ⊢
        exact en.apart j k q q' hjk e1 e2
theorem Go.none0 (g : Go W0 H0 W H) {p : Addr} (hp : H p = none) : H0 p = none := by
  cases q : H0 p with
  | none => rfl
  | some u => exact absurd hp (g.there p (by rw [q]; simp))
theorem sds_asgN {te : TE} {r : Rs PyData} {i : Nat} (h : SdN K cl Wx te env μ r) : SdS K cl Wx (tAsg te (gName i)) env μ (thenO r env fun d μ1 => match d with
      | .list l => .nx (env.set i (.ow l)) μ1
      | _ => .stuck) := fun W0 H0 W H σ D m o en g w => by
  refine h H0 W H σ _ m o en ?_
  cases r with
  | ex c μ' => exact exS g en w
  | stuck => exact w
  | ok d μ1 =>
    rw [thenO_ok] at w
    split at w
    · rename_i l
      refine ⟨l, rfl, fun p vs W1 H1 m1 o1 g1 hp hF hi hh r1 => ?_⟩
      refine w W1 H1 _ m1 o1 ((en.go g1).setOw (g.none0 hp) hF hi hh r1 fun j l' ej z => ?_) (g.trans g1) g1.f g1.i
      obtain ⟨a, ws, ea, _, _, _, ha, _⟩ := en.slots j _ ej
      rw [ea] at z
      cases z
      rw [hp] at ha
      cases ha
    · exact w.elim
theorem sds_app {te : TE} {r : Rs PyData} {i : Nat} {q : Bool} (h : q = false → Sd K cl Wx te env μ false r) : SdS K cl Wx (tDrop (tBM K "list" rAppend (tVar i) (tCons te tNil))) env μ (match env[i]? with
      | some (.ow l) => if q then .stuck else thenO r env fun d μ1 => if l.length < lim then .nx (env.set i (.ow (l ++ [d]))) μ1 else .stuck
      | _ => .stuck) := fun W0 H0 W H σ D m o en g w => by
  split at w
  · rename_i l ei
    cases q with
    | true => exact w.elim
    | false =>
      simp only [Bool.false_eq_true, if_false] at w
      obtain ⟨a, vs, es, h0, hF, hi, hh, rl⟩ := en.slots i _ ei
      refine ⟨_, es, .inl ⟨rfl, vs, SqL.of hh⟩, h rfl H0 W H σ _ m o en ?_⟩
      cases r with
      | ex c μ' => exact exS g en w
      | stuck => exact w
      | ok d μ1 =>
        rw [thenO_ok] at w
        intro v W1 H1 m1 o1 g1 _ r1
        have hh1 := g1.keep a _ hh hi
        have hF1 := g1.fn a (by rw [hh]; simp) hF
        have hi1 : a ∉ W1.ι := fun z => hi (g1.inew a z (by rw [hh]; simp))
        split at w
        · rename_i hl
          have hlen := rl.length
          refine ⟨a, vs, v, rfl, rfl, hh1, Nat.lt_of_lt_of_le (by rw [hlen]; exact hl) (lim_le (Nat.le_refl _)), ?_⟩
          exact w W1 _ σ m1 (o1.mut hF1 hi1) ((en.go g1).mutOw ei es h0 hF1 hi1 ((g1.repL rl).append (.cons (r1 rfl) .nil))) (Go.mut (g.trans g1) h0) g1.f g1.i
        · exact w.elim
  · exact w.elim
theorem sds_setI {te tk : TE} {r : Rs PyData} {fk : Store → Rs PyData} {i : Nat} {q bk : Bool} (h : q = false → Sd K cl Wx te env μ false r) (hk : ∀ μ, Sd K cl Wx tk env μ bk (fk μ)) : SdS K cl Wx (tAsg te (gSub (tVar i) tk rSetL)) env μ (match env[i]? with
      | some (.ow l) => if q then .stuck else thenO r env fun d μ1 => thenO (fk μ1) env fun kk μ2 => match kk with
        | .int n => match ixN l.length n with
          | some j => .nx (env.set i (.ow (l.set j d))) μ2
          | none => .stuck
        | _ => .stuck
      | _ => .stuck) := fun W0 H0 W H σ D m o en g w => by
  split at w
  · rename_i l ei
    cases q with
    | true => exact w.elim
    | false =>
      simp only [Bool.false_eq_true, if_false] at w
      obtain ⟨a, vs, es, h0, hF, hi, hh, rl⟩ := en.slots i _ ei
      refine h rfl H0 W H σ _ m o en ?_
      cases r with
      | ex c μ' => exact exS g en w
      | stuck => exact w
      | ok d μ1 =>
        rw [thenO_ok] at w
        intro v W1 H1 m1 o1 g1 _ r1
        refine ⟨_, es, hk μ1 H0 W1 H1 σ _ m1 o1 (en.go g1) ?_⟩
        cases ek : fk μ1 with
        | ex c μ' => rw [ek] at w; exact exS (g.trans g1) (en.go g1) (w.later g1.f g1.i)
        | stuck => rw [ek] at w; exact w
        | ok kk μ2 =>
          rw [ek, thenO_ok] at w
          intro u W2 H2 m2 o2 g2 r2 r2'
          have g12 := g1.trans g2
          have hh1 := g12.keep a _ hh hi
          have hF1 := g12.fn a (by rw [hh]; simp) hF
          have hi1 : a ∉ W2.ι := fun z => hi (g12.inew a z (by rw [hh]; simp))
          split at w
          · rename_i n
            clear r2'
            cases r2.int
            split at w
            · rename_i j hj
              refine ⟨a, vs, n, j, rfl, rfl, hh1, by rw [rl.length]; exact hj, ?_⟩
              exact w W2 _ σ m2 (o2.mut hF1 hi1) ((en.go g12).mutOw ei es h0 hF1 hi1 ((g12.repL rl).set j (g2.rep (r1 rfl)))) (Go.mut (g.trans g12) h0) g12.f g12.i
            · exact w.elim
          · exact w.elim
  · exact w.elim
theorem sds_iff {tc : TT} {ta tb : TS} {r : Rs PyData} {fa fb : Store → Out} (hc : SdT K cl Wx tc env μ r) (ha : ∀ μ, SdS K cl Wx ta env μ (fa μ)) (hb : ∀ μ, SdS K cl Wx tb env μ (fb μ)) : SdS K cl Wx (tIfS tc ta tb) env μ (thenO r env fun k μ1 => match k with
      | .bool true => fa μ1
      | .bool false => fb μ1
      | _ => .stuck) := fun W0 H0 W H σ D m o en g w => by
  refine hc H0 W H σ _ m o en ?_
  cases r with
  | ex c μ' => exact exS g en w
  | stuck => exact w
  | ok d μ1 =>
    rw [thenO_ok] at w
    split at w
    · refine ⟨true, rfl, fun W1 H1 m1 o1 g1 => ?_⟩
      exact ha μ1 W0 H0 W1 H1 σ D m1 o1 (en.go g1) (g.trans g1) (w.later g1.f g1.i)
    · refine ⟨false, rfl, fun W1 H1 m1 o1 g1 => ?_⟩
      exact hb μ1 W0 H0 W1 H1 σ D m1 o1 (en.go g1) (g.trans g1) (w.later g1.f g1.i)
    · exact w.elim
theorem sds_seq {t u : TS} {o : Out} {f : List SV → Store → Out} (h : SdS K cl Wx t env μ o) (hu : ∀ env μ, SdS K cl Wx u env μ (f env μ)) : SdS K cl Wx (tSeq t u) env μ (o.then f) := fun W0 H0 W H σ D m ok en g w => by
  refine h W0 H0 W H σ _ m ok en g ?_
  cases o with
  | nx e m' => exact fun W' H' σ' m1 o1 en1 g1 s1 p1 => hu e m' W0 H0 W' H' σ' D m1 o1 en1 g1 (w.later s1 p1)
  | bk e m' => exact w
  | ct e m' => exact w
  | rt d m' => exact w
  | ex c e m' => exact w
  | stuck => exact w
/-- the frame's own list becomes a value -/
theorem EnvOk.frz (ok : WOk K cl W H) (en : EnvOk K H0 W H env σ) (g : Go W0 H0 W H) (i : Nat) : ∃ W', W'.μ = W.μ ∧ WOk K cl W' H ∧ EnvOk K H0 W' H (frzE i env) σ ∧ Go W0 H0 W' H ∧ Sub W.F W'.F ∧ W.ι <+: W'.ι := by
  unfold frzE
  split
  · rename_i l ei
    obtain ⟨a, vs, es, h0, hF, hi, hh, rl⟩ := en.slots i _ ei
    have sb : Sub W.F (W.fix a (.lst vs)).F := sub_fix hF
    refine ⟨W.fix a (.lst vs), rfl, ok.fix hF hi hh, ⟨by simp [en.len], fun j s ej => ?_, fun j k q q' hjk e1 e2 => ?_⟩, g.fix hF h0, sb, List.prefix_refl _⟩
    · by_cases hj : i = j
      · subst hj
        rw [List.getElem?_set_self (List.getElem?_eq_some_iff.mp ei).1] at ej
        cases ej
        exact ⟨.ref a, es, .lst (SqL.of (show upd W.F a (.lst vs) a = _ from upd_same)) (RepL.mono sb (List.prefix_refl _) _ _ rl)⟩
      · rw [List.getElem?_set_ne hj] at ej
        have hs := en.slots j s ej
        cases s with
        | un => exact trivial
        | pv d =>
          obtain ⟨v, e1, r1⟩ := hs
          exact ⟨v, e1, Rep.mono sb (List.prefix_refl _) _ _ r1⟩
        | ow m =>
          obtain ⟨b, ws, eb, b0, bF, bi, bh, br⟩ := hs
          have ne : b ≠ a := fun z => by
            subst z
            exact en.apart i j l m hj ei ej (es.trans eb.symm)
          exact ⟨b, ws, eb, b0, by show upd W.F a (.lst vs) b = none; rw [upd_ne ne]; exact bF, bi, bh, RepL.mono sb (List.prefix_refl _) _ _ br⟩
    · have nj : i ≠ j := fun z => by
        subst z
        rw [List.getElem?_set_self (List.getElem?_eq_some_iff.mp ei).1] at e1
        cases e1
      have nk : i ≠ k := fun z => by
        subst z
        rw [List.getElem?_set_self (List.getElem?_eq_some_iff.mp ei).1] at e2
        cases e2
      rw [List.getElem?_set_ne nj] at e1
      rw [List.getElem?_set_ne nk] at e2
      exact en.apart j k q q' hjk e1 e2
  · exact ⟨W, rfl, ok, en, g, fun _ _ h => h, List.prefix_refl _⟩
theorem sds_frz {t : TS} {i : Nat} {o : Out} (h : SdS K cl Wx t (frzE i env) μ o) : SdS K cl Wx t env μ o := fun W0 H0 W H σ D m ok en g w => by
  obtain ⟨W', m', ok', en', g', s', p'⟩ := en.frz ok g i
  exact h W0 H0 W' H σ D (m'.trans m) ok' en' g' (w.later s' p')
/-! ## loops -/
theorem sds_for {wi : TI} {tg : Tg} {tb : TS} {r : Rs (List PyData)} {f : List SV → Store → Out} (hi : SdI K cl Wx wi env μ r) (hb : ∀ env μ, SdS K cl Wx tb env μ (f env μ)) :
    SdS K cl Wx (tFor wi (tg.rd K) tb) env μ (thenO r env fun ds μ1 => fLoop tg f ds env μ1) := fun W0 H0 W H σ D m o en g w => by
  refine hi H0 W H σ _ m o en ?_
  cases r with
  | ex c μ' => exact exS g en w
  | stuck => exact w
  | ok ds μ1 =>
    rw [thenO_ok] at w
    intro J W1 H1 m1 o1 g1 it
    generalize hF : fLoop tg f ds env μ1 = oF at w
    refine ⟨fun i mm σi Hi => mm = ds.length - i ∧ i ≤ ds.length ∧ ∃ Wi envi, WOk K cl Wi Hi ∧ EnvOk K H0 Wi Hi envi σi ∧ Go W0 H0 Wi Hi ∧ Sub W1.F Wi.F ∧ W1.ι <+: Wi.ι ∧ fLoop tg f (ds.drop i) envi Wi.μ = oF,
      ⟨ds.length, by simp, Nat.zero_le _, W1, env, o1, en.go g1, g.trans g1, fun _ _ h => h, List.prefix_refl _, by rw [List.drop_zero, m1]; exact hF⟩, ?_⟩
    rintro i mm σi Hi ⟨rfl, hil, Wi, envi, oi, eni, gi, si, pi, hl⟩
    have itI := it Wi Hi oi si pi i
    by_cases hlt : i < ds.length
    · obtain ⟨hgo, hy⟩ := itI.1 ds[i] (by simp [hlt])
      have hdrop : ds.drop i = ds[i] :: ds.drop (i + 1) := List.drop_eq_getElem_cons hlt
      rw [hdrop] at hl
      unfold fLoop at hl
      refine .inr ⟨hgo, fun σn Hn => ∃ Wn envn, WOk K cl Wn Hn ∧ EnvOk K H0 Wn Hn envn σn ∧ Go W0 H0 Wn Hn ∧ Sub W1.F Wn.F ∧ W1.ι <+: Wn.ι ∧ fLoop tg f (ds.drop (i + 1)) envn Wn.μ = oF,
        fun σ' H' h' => ⟨ds.length - (i + 1), by omega, rfl, hlt, h'⟩, fun x H' y => ?_⟩
      obtain ⟨W', mμ, o', g', rx⟩ := hy x H' y
      cases ep : tg.put ds[i] envi with
      | none =>
        rw [ep] at hl
        rw [← hl] at w
        exact w.elim
      | some env' =>
        rw [ep] at hl
        refine tg_ok o' (eni.go g') rx ep fun σ2 en2 _ => ?_
        refine hb env' Wi.μ W0 H0 W' H' σ2 _ mμ o' en2 (gi.trans g') ?_
        have sW : Sub W1.F W'.F := Evl.Ex.trans si g'.f
        have pW : W1.ι <+: W'.ι := pi.trans g'.i
        have wl := w.later (g1.f) (g1.i)
        simp only at hl
        cases ef : f env' Wi.μ with
        | nx e m' =>
          rw [ef] at hl
          exact fun W2 H2 σ3 m2 o2 en3 g2 s2 p2 => ⟨W2, e, o2, en3, g2, Evl.Ex.trans sW s2, pW.trans p2, by rw [m2]; exact hl⟩
        | ct e m' =>
          rw [ef] at hl
          exact fun W2 H2 σ3 m2 o2 en3 g2 s2 p2 => ⟨W2, e, o2, en3, g2, Evl.Ex.trans sW s2, pW.trans p2, by rw [m2]; exact hl⟩
        | bk e m' =>
          rw [ef] at hl
          rw [← hl] at wl
          exact fun W2 H2 σ3 m2 o2 en3 g2 s2 p2 => wl W2 H2 σ3 m2 o2 en3 g2 (Evl.Ex.trans sW s2) (pW.trans p2)
        | rt d m' =>
          rw [ef] at hl
          rw [← hl] at wl
          exact wl
        | ex c e m' =>
          rw [ef] at hl
          rw [← hl] at wl
          exact fun W2 H2 σ3 m2 o2 en3 g2 s2 p2 => wl W2 H2 σ3 m2 o2 en3 g2 (Evl.Ex.trans sW s2) (pW.trans p2)
        | stuck =>
          rw [ef] at hl
          rw [← hl] at wl
          exact wl
    · have hi2 : i = ds.length := by omega
      refine .inl ⟨itI.2 (by omega), ?_⟩
      rw [List.drop_of_length_le (by omega)] at hl
      unfold fLoop at hl
      rw [← hl] at w
      exact (w.later g1.f g1.i) Wi Hi σi rfl oi eni gi si pi
theorem sds_whil {tc : TT} {tb : TS} {fc : List SV → Store → Rs PyData} {f : List SV → Store → Out} {L : Nat} (hc : ∀ env μ, SdT K cl Wx tc env μ (fc env μ)) (hb : ∀ env μ, SdS K cl Wx tb env μ (f env μ)) :
    SdS K cl Wx (tWhile tc tb) env μ (wLoop fc f L env μ) := fun W0 H0 W H σ D m o en g w => by
  generalize hF : wLoop fc f L env μ = oF at w
  refine ⟨fun mm σi Hi => ∃ Wi envi, WOk K cl Wi Hi ∧ EnvOk K H0 Wi Hi envi σi ∧ Go W0 H0 Wi Hi ∧ Sub W.F Wi.F ∧ W.ι <+: Wi.ι ∧ wLoop fc f mm envi Wi.μ = oF,
    ⟨L, W, env, o, en, g, fun _ _ h => h, List.prefix_refl _, by rw [m]; exact hF⟩, ?_⟩
  rintro mm σi Hi ⟨Wi, envi, oi, eni, gi, si, pi, hl⟩
  cases mm with
  | zero =>
    unfold wLoop at hl
    rw [← hl] at w
    exact w.elim
  | succ mm =>
    unfold wLoop at hl
    refine hc envi Wi.μ H0 Wi Hi σi _ rfl oi eni ?_
    have wl := w.later si pi
    cases ec : fc envi Wi.μ with
    | ex c μ' =>
      rw [ec, thenO_ex] at hl
      rw [← hl] at wl
      exact exS gi eni wl
    | stuck =>
      rw [ec, thenO_stuck] at hl
      rw [← hl] at wl
      exact wl
    | ok k μ1 =>
      rw [ec, thenO_ok] at hl
      split at hl
      · refine ⟨true, rfl, fun W2 H2 m2 o2 g2 => ?_⟩
        show (if true = true then _ else _)
        rw [if_pos rfl]
        refine ⟨fun σn Hn => ∃ Wn envn, WOk K cl Wn Hn ∧ EnvOk K H0 Wn Hn envn σn ∧ Go W0 H0 Wn Hn ∧ Sub W.F Wn.F ∧ W.ι <+: Wn.ι ∧ wLoop fc f mm envn Wn.μ = oF, fun σ' H' h' => ⟨mm, Nat.lt_succ_self _, h'⟩, ?_⟩
        refine hb envi μ1 W0 H0 W2 H2 σi _ m2 o2 (eni.go g2) (gi.trans g2) ?_
        have sW : Sub W.F W2.F := Evl.Ex.trans si g2.f
        have pW : W.ι <+: W2.ι := pi.trans g2.i
        cases ef : f envi μ1 with
        | nx e m' =>
          rw [ef] at hl
          exact fun W3 H3 σ3 m3 o3 en3 g3 s3 p3 => ⟨W3, e, o3, en3, g3, Evl.Ex.trans sW s3, pW.trans p3, by rw [m3]; exact hl⟩
        | ct e m' =>
          rw [ef] at hl
          exact fun W3 H3 σ3 m3 o3 en3 g3 s3 p3 => ⟨W3, e, o3, en3, g3, Evl.Ex.trans sW s3, pW.trans p3, by rw [m3]; exact hl⟩
        | bk e m' =>
          rw [ef] at hl
          rw [← hl] at w
          exact fun W3 H3 σ3 m3 o3 en3 g3 s3 p3 => w W3 H3 σ3 m3 o3 en3 g3 (Evl.Ex.trans sW s3) (pW.trans p3)
        | rt d m' =>
          rw [ef] at hl
          rw [← hl] at w
          exact w
        | ex c e m' =>
          rw [ef] at hl
          rw [← hl] at w
          exact fun W3 H3 σ3 m3 o3 en3 g3 s3 p3 => w W3 H3 σ3 m3 o3 en3 g3 (Evl.Ex.trans sW s3) (pW.trans p3)
        | stuck =>
          rw [ef] at hl
          rw [← hl] at w
          exact w
      · refine ⟨false, rfl, fun W2 H2 m2 o2 g2 => ?_⟩
        show (if false = true then _ else _)
        rw [if_neg Bool.false_ne_true]
        rw [← hl] at w
        exact w W2 H2 σi m2 o2 (eni.go g2) (gi.trans g2) (Evl.Ex.trans si g2.f) (pi.trans g2.i)
      · rw [← hl] at w
        exact w.elim
/-! ## try -/
/-- the classes of the text and what except finds of them -/
structure ExOk (K : PySem.W.Frag) (cl : Nat → Addr) (sub : Under) : Prop where
  exm : ∀ c c' b, sub c c' = some b → PySem.W.exmOne K (.ref (cl c)) (.ref (cl c')) = some b
  isv : ∀ c c', sub c c' = some true → IsVal K (cl c)
inductive SdHs (K : PySem.W.Frag) (cl : Nat → Addr) : List (Value × (Addr → Value → Option Addr → TS)) → (List SV → Store → List (Nat × Out)) → Prop
  | nil : SdHs K cl [] fun _ _ => []
  | cons {c : Nat} {t : TS} {f : List SV → Store → Out} {l : List (Value × (Addr → Value → Option Addr → TS))} {g : List SV → Store → List (Nat × Out)} :
      (∀ env μ, SdS K cl noW t env μ (f env μ)) → SdHs K cl l g → SdHs K cl ((.ref (cl c), fun _ _ _ => t) :: l) fun e m => (c, f e m) :: g e m
theorem sds_hs {sub : Under} (X : ExOk K cl sub) {l : List (Value × (Addr → Value → Option Addr → TS))} {g : List SV → Store → List (Nat × Out)} (h : SdHs K cl l g) {c : Nat} {env' : List SV} {μ' : Store}
    {W2 : Wd} {H2 : Hp} {σ2 : L2.St} (m : W2.μ = μ') (o : WOk K cl W2 H2) (en : EnvOk K H0 W2 H2 env' σ2) (g0 : Go W0 H0 W2 H2)
    (w : WantS K cl Wx W0 H0 W2 D (pick sub c (.ex c env' μ') (g env' μ'))) : wMany K Wx D l (.ref (cl c)) none σ2 H2 := by
  induction h with
  | nil => exact w W2 H2 σ2 m o en g0 (fun _ _ h => h) (List.prefix_refl _)
  | @cons c' t f l g ht hr ih =>
    unfold pick at w
    cases es : sub c c' with
    | none => rw [es] at w; exact w.elim
    | some b =>
      refine ⟨b, X.exm c c' b es, fun hb a ha => ?_, fun hb => ?_⟩
      · subst hb
        rw [es] at w
        refine ht env' μ' W0 H0 W2 H2 σ2 D m o en g0 ?_
        simp only at w
        cases ef : f env' μ' with
        | nx e m' => rw [ef] at w; exact w
        | bk e m' => rw [ef] at w; exact w
        | ct e m' => rw [ef] at w; exact w
        | rt d m' => rw [ef] at w; exact w
        | ex c e m' => rw [ef] at w; exact w.elim
        | stuck => rw [ef] at w; exact w
      · subst hb
        rw [es] at w
        exact ih w
theorem sds_try {sub : Under} (X : ExOk K cl sub) {tb : WX → TS} {o : Out} {l : List (Value × (Addr → Value → Option Addr → TS))} {g : List SV → Store → List (Nat × Out)} (hb : ∀ Wx, SdS K cl Wx (tb Wx) env μ o) (hh : SdHs K cl l g) :
    SdS K cl Wx (fun D σ H => tb (wMany K Wx D l) D σ H) env μ (o.caught sub g) := fun W0 H0 W H σ D m ok en g0 w => by
  refine hb _ W0 H0 W H σ D m ok en g0 ?_
  cases o with
  | nx e m' => exact w
  | bk e m' => exact w
  | ct e m' => exact w
  | rt d m' => exact w
  | stuck => exact w
  | ex c e m' => exact fun W2 H2 σ2 m2 o2 en2 g2 s2 p2 => sds_hs X hh m2 o2 en2 g2 (w.later s2 p2)
theorem sds_tryIs {sub : Under} (X : ExOk K cl sub) {tb : WX → TS} {o : Out} {c i : Nat} (hb : ∀ Wx, SdS K cl Wx (tb Wx) env μ o) :
    SdS K cl Wx (fun D σ H => tb (wAs K (.ref (cl c)) i (tIsV K i) Wx D) D σ H) env μ (o.caughtIs sub c i) := fun W0 H0 W H σ D m ok en g0 w => by
  refine hb _ W0 H0 W H σ D m ok en g0 ?_
  cases o with
  | nx e m' => exact w
  | bk e m' => exact w
  | ct e m' => exact w
  | rt d m' => exact w
  | stuck => exact w
  | ex c' e m' =>
    intro W2 H2 σ2 m2 o2 en2 g2 s2 p2
    unfold Out.caughtIs at w
    simp only at w
    cases es : sub c' c with
    | none => rw [es] at w; exact w.elim
    | some b =>
      rw [es] at w
      refine ⟨b, X.exm c' c b es, fun hb a ha => ?_, fun hb => ?_⟩
      · subst hb
        simp only at w
        split at w
        · rename_i hi
          refine ⟨cl c', rfl, rfl, X.isv c' c es, ?_, w (.bl true) W2 H2 m2 o2 g2 (.bl true)⟩
          have : i < σ2.length := by rw [en2.1]; exact hi
          simp [this]
        · exact w.elim
      · subst hb
        exact w W2 H2 σ2 m2 o2 en2 g2 s2 p2
theorem sds_cons {t u : TS} {o : Out} {r : List S} {f : List SV → Store → Out} (h : SdS K cl Wx t env μ o) (hu : ∀ env μ, SdS K cl Wx u env μ (f env μ)) (h0 : r = [] → ∀ e m, f e m = .nx e m) : SdS K cl Wx (rdB' t u r) env μ (o.then f) := by
  cases r with
  | cons a b =>
    show SdS K cl Wx (tSeq t u) env μ (o.then f)
    exact sds_seq (t := t) (u := u) h hu
  | nil =>
    have e : o.then f = o := by
      cases o with
      | nx e m => exact h0 rfl e m
      | _ => rfl
    rw [e]
    exact h
/-! ## all statements -/
variable (C : Calls) {sub : Under} (X : ExOk K cl sub) (L : Nat)
include X
mutual
theorem sndS : ∀ (s : S) (Wx : WX) (env : List SV) (μ : Store), SdS K cl Wx (rdS K cl C Wx s) env μ (runS C sub L s env μ)
  | .asg i e, Wx, env, μ => sds_if fun hq => sds_asg (hq ▸ (snd C e Wx env μ).1)
  | .asgN i e, Wx, env, μ => by
    unfold runS
    split
    · rename_i h
      exact sds_asgN (sndN C e Wx env μ h)
    · exact sds_stuck
  | .asgT l e, Wx, env, μ => sds_if fun hq => sds_asgT (hq ▸ (snd C e Wx env μ).1)
  | .par i j a b, Wx, env, μ => sds_par (sndL C [a, b] Wx env μ)
  | .app i e, Wx, env, μ => sds_app fun hq => hq ▸ (snd C e Wx env μ).1
  | .setI i k e, Wx, env, μ => sds_setI (fun hq => hq ▸ (snd C e Wx env μ).1) fun μ1 => (snd C k Wx env μ1).1
  | .iff c a b, Wx, env, μ => sds_iff (snd C c Wx env μ).2 (fun μ1 => sndSB a Wx env μ1) fun μ1 => sndSB b Wx env μ1
  | .for_ it tg b, Wx, env, μ => sds_for (sndI C it Wx env μ) fun e m => sndSB b Wx e m
  | .whil c b, Wx, env, μ => sds_whil (fun e m => (snd C c Wx e m).2) fun e m => sndSB b Wx e m
  | .ret e, Wx, env, μ => sds_if fun hq => sds_ret (hq ▸ (snd C e Wx env μ).1)
  | .retN, Wx, env, μ => fun W0 H0 W H σ D m o en g w => w .non W H m o g .non
  | .exp e, Wx, env, μ => sds_exp (snd C e Wx env μ).1
  | .raise c e, Wx, env, μ => sds_raise (snd C e Wx env μ).1
  | .try_ b hs, Wx, env, μ => sds_try X (tb := fun Wx => rdB K cl C Wx b) (fun Wx => sndSB b Wx env μ) (sndSH hs)
  | .tryIs b c i, Wx, env, μ => sds_tryIs X (tb := fun Wx => rdB K cl C Wx b) (fun Wx => sndSB b Wx env μ)
  | .brk, Wx, env, μ => fun W0 H0 W H σ D m o en g w => w W H σ m o en g (fun _ _ h => h) (List.prefix_refl _)
  | .cnt, Wx, env, μ => fun W0 H0 W H σ D m o en g w => w W H σ m o en g (fun _ _ h => h) (List.prefix_refl _)
  | .pass, Wx, env, μ => fun W0 H0 W H σ D m o en g w => w W H σ m o en g (fun _ _ h => h) (List.prefix_refl _)
  | .frz i s, Wx, env, μ => sds_frz (sndS s Wx (frzE i env) μ)
theorem sndSB : ∀ (b : List S) (Wx : WX) (env : List SV) (μ : Store), SdS K cl Wx (rdB K cl C Wx b) env μ (runB C sub L b env μ)
  | [], Wx, env, μ => fun W0 H0 W H σ D m o en g w => w W H σ m o en g (fun _ _ h => h) (List.prefix_refl _)
  | s :: r, Wx, env, μ => sds_cons (sndS s Wx env μ) (fun e m => sndSB r Wx e m) (fun h e m => by subst h; rfl)
theorem sndSH : ∀ (hs : List (Nat × List S)), SdHs K cl (rdH K cl C hs) fun e m => runH C sub L hs e m
  | [] => .nil
  | (c, b) :: r => .cons (fun e m => sndSB b noW e m) (sndSH r)
end
end
end PVL
end

section
set_option Elab.async false
set_option linter.all false
set_option maxRecDepth 100000
set_option maxHeartbeats 4000000
namespace PVL
open PySem PySem.Spec PyProof.Rows L2

/-! # Defs, each frame one level -/
structure RoomD (n : Nat) (A : Around) : Prop where
  hd : A.handled = none
  dp : A.depth + n + 5 < recursionLimit
  un : A.units + 5 * n + 200 < cLine
theorem RoomD.deeper {n : Nat} {A : Around} (r : RoomD (n + 1) A) (env : Env) : RoomD n (A.deeper env) :=
  ⟨r.hd, by
    have h := r.dp
    show A.depth + 1 + n + 5 < _
    omega, by
    have h := r.un
    show A.units + 3 + 5 * n + 200 < _
    omega⟩
theorem RoomD.cmp {n : Nat} {A : Around} (r : RoomD n A) : A.units + 65 < cLine := by
  have h := r.un
  omega
theorem RoomD.mono {m n : Nat} {A : Around} (r : RoomD n A) (h : m ≤ n) : RoomD m A := ⟨r.hd, by have := r.dp; omega, by have := r.un; omega⟩
structure FnR (P : Program) (w : World) (K : PySem.W.Frag) (mg : Str → Option Value) (base : Heap) (CX : CXT) (n : Nat) (f : Addr) (fd : FuncData) (ps : List Str) (sp : Sp) : Prop where
  len : ∀ vs H Q E, sp vs H Q E → vs.length = ps.length
  run : ∀ (A : Around) (outer : List Env) (s : Shared) (H : Hp) (args : Args) (us : List Value) (vs : List V) (Q : VK) (E : XK),
    RoomD n A → Env0 P w K mg base A outer s H → BindsTo s fd args (ps.zip us) → Vals vs us → sp vs H Q E →
      codeAny (model P w) A (.call (.ref f) args) (CR CX outer P w H s Q E) s
theorem FnR.ok {P : Program} {w : World} {K : PySem.W.Frag} {mg : Str → Option Value} {base : Heap} {CX : CXT} {n k : Nat} {f : Addr} {fd : FuncData} {ps : List Str} {sp : Sp} (F : FnR P w K mg base CX n f fd ps sp) (h : n ≤ 3 * k) :
    FnOk P w K mg base CX k f fd ps sp :=
  ⟨F.len, fun A outer s H args us vs Q E hr => F.run A outer s H args us vs Q E ⟨hr.hd, by have := hr.dp; omega, by have := hr.un; omega⟩⟩
section
variable {P : Program} {w : World} {K : PySem.W.Frag} {mg : Str → Option Value} {base : Heap} {CX : CXT}
/-- a def by its body -/
theorem fnR_of {n : Nat} {f : Addr} {name qual : Str} {params : Arguments} {body : List Stmt} {scope : Scope} {dV kV doc pm cdv ct oc : Value} {an od : Option Addr}
    {osl : Array (Option Value)} {N ps : List Str} {sp : Sp} (lk : K.lookup f = some ⟨oc, od, .func (PySem.W.fnOf name qual params body scope dV kV doc pm an cdv ct), osl⟩)
    (hcd : PySem.W.codeIn K cdv qual = true) (S : FnScope N ps scope) (len : ∀ vs H Q E, sp vs H Q E → vs.length = ps.length)
    (hb : ∀ (A : Around) (outer : List Env) (s : Shared) (H : Hp) (vs : List V) (Q : VK) (E : XK), RoomD n (A.deeper (envOfC qual scope s.heap.objs.size f cdv)) → sp vs H Q E →
      ∃ t, PSs (cxOf CX P w K mg base N qual scope f cdv A outer s H E) body t ∧ t { nx := fun _ H' => Q .non H', rt := Q } (L2.start N vs) H) :
    FnR P w K mg base CX (n + 1) f (PySem.W.fnOf name qual params body scope dV kV doc pm an cdv ct) ps sp := by
  refine ⟨len, fun A outer s H args us vs Q E hr e0 hbind r hsp => ?_⟩
  have KX : K.In s.heap := e0.mod.kin.keeps fun b o e => (e0.bs b o e).1
  have nolim : s.heap.NoLimit := e0.mod.nolimit.keeps fun b o e => (e0.bs b o e).1
  have hkind : ∀ y ∈ ps.zip us, scope.names.lookup y.1 = some .local ∨ (scope.names.lookup y.1 = some .cell ∧ ((cellsFrom (s.heap.objs.size + 1) scope.names []).lookup y.1).isSome = true) := by
    rintro ⟨m, v⟩ hy
    rcases S.par m (List.of_mem_zip hy).1 with q | q
    · exact .inl q
    · exact .inr ⟨q, PySem.W.cellsFrom_some _ _ _ (.inl q)⟩
  have hroom : A.depth < recursionLimit := by
    have := hr.dp
    omega
  refine codeAny_call_function hroom (KX _ _ lk) rfl S.co S.gen rfl (PySem.W.codeRec_of KX hcd) (hbind _ _ _ _ ?_)
  refine wpAny_newFunctionEnv_cells S.kind hkind fun env he s1 x => ?_
  subst he
  refine ⟨nolim.keeps x.toInCall.keep, codeAny_func ?_⟩
  obtain ⟨t, ht, hq⟩ := hb A outer s H vs Q E (hr.deeper _) hsp
  have I : Inv (cxOf CX P w K mg base N qual scope f cdv A outer s H E) [] (L2.start N vs) H s1 := inv_start S hr.hd e0 (len _ _ _ _ hsp) r x
  refine wpAny_mono (ht.run [] s1 (L2.start N vs) H _ I hq) ?_ fun e s' hs => hs
  intro fl s' hs
  cases fl with
  | ret u =>
    obtain ⟨v, σ', H', J, rv, q⟩ := hs
    exact ⟨v, H', J.os, J.bare, J.base, J.hok, rv, q⟩
  | next =>
    obtain ⟨σ', H', J, q⟩ := hs
    exact ⟨V.non, H', J.os, J.bare, J.base, J.hok, rfl, q⟩
  | brk =>
    obtain ⟨_, _, _, q⟩ := hs
    exact q.elim
  | cont =>
    obtain ⟨_, _, _, q⟩ := hs
    exact q.elim
end
section
variable {X : Cx} {CX : CXT} {n : Nat} {f : Addr} {fd : FuncData} {ps : List Str} {sp : Sp} {E : L2.St → XK} {x : Str} {p pos : Pos} {e : Expr} {es : List Expr} {t : TA}
/-- the callee runs -/
theorem run_R {pins : List (Addr × Obj)} {σ : L2.St} {H : Hp} {s : Shared} {Q : VK} {us : List Value} {vs : List V} (F : FnR X.prog X.w X.K X.mg X.base CX n f fd ps sp) (hr : RoomD n X.A) (hb : Binds X.K fd ps [])
    (hx : PassesAt CX X σ (E σ)) (I : Inv X pins σ H s) (r : Vals vs us) (h : sp vs H Q (E σ)) : wpAny (model X.prog X.w) X.A (call (.ref f) us) (EP X pins σ Q) X.xe s := by
  have hl : us.length = ps.length := r.length.symm.trans (F.len _ _ _ _ h)
  have b := hb s us I.kIn (by simpa using hl)
  rw [List.append_nil] at b
  refine wpAny_call (codeAny_mono (F.run X.A X.stack s H ⟨us, []⟩ us vs Q (E σ) hr I.env0 b r h) ?_)
  intro r s' hq
  cases r with
  | error e => exact hx pins H s e s' I hq
  | ok fl =>
    cases fl with
    | ret u => exact I.after hq
    | next => exact hq.elim
    | brk => exact hq.elim
    | cont => exact hq.elim
theorem pe_R (F : FnR X.prog X.w X.K X.mg X.base CX n f fd ps sp) (hr : RoomD n X.A) (hg : Gl X x) (hm : X.mg x = some (.ref f)) (hk : PySem.W.keepIn X.K (.ref f) = true) (hb : Binds X.K fd ps []) (hx : ∀ σ, PassesAt CX X σ (E σ))
    (ha : PA X (e :: es) t) (hdb : (x == ("__debug__" : Str)) = false := by decide) (he : starEach (e :: es) X.env = (false, eval e X.env) :: starEach es X.env := by rfl) (hpl : (backTo pos (starEach es X.env)).any (·.1) = false := by rfl) :
    PE X (.Call (.Name x p) (e :: es) [] pos) (tCallS sp E t) :=
  ⟨fun pins s σ H Q I h => wpAny_Call_Name_kw (ld_glob I hg hm (PySem.W.callWith_K (h₀ := X.base) I.ok.mod.kin hk (thn (ha.run pos pins s σ H _ I h) fun us s1 ⟨vs, H1, I1, r, q⟩ => ⟨I1.kIn, run_R F hr hb (hx σ) I1 r q⟩) he hpl) hdb)⟩
theorem pe_R0 (F : FnR X.prog X.w X.K X.mg X.base CX n f fd ps sp) (hr : RoomD n X.A) (hg : Gl X x) (hm : X.mg x = some (.ref f)) (hk : PySem.W.keepIn X.K (.ref f) = true) (hb : Binds X.K fd ps []) (hx : ∀ σ, PassesAt CX X σ (E σ))
    (hdb : (x == ("__debug__" : Str)) = false := by decide) : PE X (.Call (.Name x p) [] [] pos) (tCallS sp E tNil) :=
  ⟨fun pins s σ H Q I h => wpAny_Call_Name_kw (ld_glob I hg hm (PySem.W.callWith_K0 I.kIn hk (run_R (us := []) F hr hb (hx σ) I .nil h)) hdb)⟩
theorem noPass {σ : L2.St} : PassesAt (L2.CX X.prog X.w) X σ (WE noW σ) := fun _ _ _ _ _ _ c => by
  obtain ⟨_, _, _, _, _, _, _, _, _, _, _, _, z⟩ := c
  exact z.elim
end

theorem pss_as {X : Cx} {b : List Stmt} {t t' : TS} (h : PSs X b t) (e : t = t') : PSs X b t' := e ▸ h
/-- whether 'except S' takes an error of the class at C -/
theorem exm_of2 {K : PySem.W.Frag} {C S : Addr} {b : Bool} (h1 : PySem.W.subIn K (.ref S) (.type "BaseException") = some true) (h2 : PySem.W.isClsIn K S = true) (h3 : PySem.W.typeIn K (.ref S) = some (.type "type"))
    (h4 : PySem.W.subIn K (.ref C) (.ref S) = some b) : PySem.W.exmOne K (.ref C) (.ref S) = some b := by
  have h2' : (PySem.W.clsIn K S).isSome = true := h2
  unfold PySem.W.exmOne
  rw [h1]
  show PySem.W.kitCls K (.ref C) (.ref S) = some b
  show (if ((PySem.W.clsIn K S).isSome && PySem.W.typeIn K (.ref S) == some (.type "type")) = true then PySem.W.subIn K (.ref C) (.ref S) else none) = some b
  rw [h2', h3]
  exact h4
/-! ## a text of defs -/
structure Df where
  ar : Nat
  sl : Nat
  body : List S
def toRs : Out → Rs PyData
  | .nx _ μ => .ok .none μ
  | .rt d μ => .ok d μ
  | .ex c _ μ => .ex c μ
  | _ => .stuck
@[simp] theorem toRs_nx {e : List SV} {m : Store} : toRs (.nx e m) = .ok .none m := rfl
@[simp] theorem toRs_rt {d : PyData} {m : Store} : toRs (.rt d m) = .ok d m := rfl
@[simp] theorem toRs_ex {c : Nat} {e : List SV} {m : Store} : toRs (.ex c e m) = .ex c m := rfl
@[simp] theorem toRs_stuck : toRs .stuck = .stuck := rfl
def enter (d : Df) (ds : List PyData) : List SV := ds.map SV.pv ++ List.replicate (d.sl - ds.length) .un
def runF (T : Nat → Option Df) (sub : Under) (L : Nat) : Nat → Calls
  | 0 => fun _ _ _ => .stuck
  | n + 1 => fun f ds μ => match T f with
    | none => .stuck
    | some d => if ds.length = d.ar then toRs (runB (runF T sub L n) sub L d.body (enter d ds) μ) else .stuck
theorem slots_enter {K : PySem.W.Frag} {W : Wd} {H : Hp} {d : Df} {N : List Str} {vs : List V} {ds : List PyData} (r : RepL K W.F W.ι vs ds) (hN : N.length = d.sl) (hl : ds.length ≤ d.sl) : EnvOk K H W H (enter d ds) (L2.start N vs) := by
  have hvl := r.length
  refine ⟨?_, fun i s e => ?_, fun i j l l' hij e1 e2 => ?_⟩
  · unfold enter L2.start
    simp [hvl, hN]
  · unfold enter at e
    unfold L2.start
    by_cases hi : i < ds.length
    · rw [List.getElem?_append_left (by simpa using hi), List.getElem?_map] at e
      cases ed : ds[i]? with
      | none => rw [ed] at e; cases e
      | some x =>
        rw [ed] at e
        cases e
        obtain ⟨v, hv, rv⟩ := r.get ed
        refine ⟨v, ?_, rv⟩
        rw [List.getElem?_append_left (by simp [hvl, hi]), List.getElem?_map, hv]
        rfl
    · rw [List.getElem?_append_right (by simpa using hi), List.getElem?_replicate] at e
      split at e
      · cases e; exact trivial
      · cases e
  · have no : ∀ (i : Nat) (l : List PyData), (enter d ds)[i]? ≠ some (.ow l) := fun i l e => by
      unfold enter at e
      by_cases hi : i < ds.length
      · rw [List.getElem?_append_left (by simpa using hi), List.getElem?_map] at e
        cases ed : ds[i]? with
        | none => rw [ed] at e; cases e
        | some x => rw [ed] at e; cases e
      · rw [List.getElem?_append_right (by simpa using hi), List.getElem?_replicate] at e
        split at e <;> cases e
    exact absurd e1 (no i l)
/-- a def of the text keeps to the small language -/
theorem fnR_step {P : Program} {w : World} {K : PySem.W.Frag} {mg : Str → Option Value} {base : Heap} {CX : CXT} {cl : Nat → Addr} {T : Nat → Option Df} {sub : Under} {L n fi : Nat} {d : Df} {x qual : Str} {st : Stmt} {f : Addr} {fd : FuncData} {N ps : List Str}
    (X : ExOk K cl sub) (F : Fun K x qual st f fd) (S : FnScope N ps (defScope st)) (hT : T fi = some d) (hN : N.length = d.sl) (hp : ps.length = d.ar) (hle : d.ar ≤ d.sl)
    (hb : ∀ (cdv : Value) (A : Around) (outer : List Env) (s : Shared) (H : Hp) (E : XK), RoomD n (A.deeper (envOfC qual (defScope st) s.heap.objs.size f cdv)) →
      PSs (cxOf CX P w K mg base N qual (defScope st) f cdv A outer s H E) (defBody st) (rdB K cl (runF T sub L n) (fun cls d _ H => E cls d H) d.body)) :
    FnR P w K mg base CX (n + 1) f fd ps (spOf K cl (runF T sub L (n + 1)) fi) := by
  obtain ⟨oc, od, kV, doc, pm, an, cdv, ct, osl, rfl, lk, hcd⟩ := F.ex
  have hlen : ∀ vs H Q E, spOf K cl (runF T sub L (n + 1)) fi vs H Q E → vs.length = ps.length := by
    rintro vs H Q E ⟨W, ds, o, r, h⟩
    rw [r.length, hp]
    unfold runF at h
    rw [hT] at h
    simp only at h
    by_cases e : ds.length = d.ar
    · exact e
    · rw [if_neg e] at h
      exact h.elim
  refine fnR_of lk hcd S hlen fun A outer s H vs Q E hr hsp => ⟨_, hb cdv A outer s H E hr, ?_⟩
  obtain ⟨W, ds, o, r, h⟩ := hsp
  unfold runF at h
  rw [hT] at h
  simp only at h
  by_cases e : ds.length = d.ar
  · rw [if_pos e] at h
    refine sndSB (runF T sub L n) X L d.body _ (enter d ds) W.μ W H W H (L2.start N vs) _ rfl o (slots_enter r hN (by omega)) (Go.refl _ _) ?_
    cases eo : runB (runF T sub L n) sub L d.body (enter d ds) W.μ with
    | nx e m => rw [eo] at h; exact fun W' H' σ' m o' _ g _ _ => h .non W' H' m o' g .non
    | rt e m => rw [eo] at h; exact fun v W' H' m o' g r => h v W' H' m o' g r
    | ex c e m => rw [eo] at h; exact fun W' H' σ' m o' _ g _ _ => h W' H' m o' g
    | bk e m => rw [eo] at h; exact h.elim
    | ct e m => rw [eo] at h; exact h.elim
    | stuck => rw [eo] at h; exact h.elim
  · rw [if_neg e] at h
    exact h.elim
/-- nothing is promised without a frame -/
theorem fnR_zero {P : Program} {w : World} {K : PySem.W.Frag} {mg : Str → Option Value} {base : Heap} {CX : CXT} {cl : Nat → Addr} {T : Nat → Option Df} {sub : Under} {L fi : Nat} {f : Addr} {fd : FuncData} {ps : List Str} :
    FnR P w K mg base CX 0 f fd ps (spOf K cl (runF T sub L 0) fi) :=
  ⟨fun _ _ _ _ ⟨_, _, _, _, z⟩ => z.elim, fun _ _ _ _ _ _ _ _ _ _ _ _ _ ⟨_, _, _, _, z⟩ => z.elim⟩
theorem repInts {K : PySem.W.Frag} {F : Hp} {ι : List Addr} : ∀ ns : List Int, RepL K F ι (ns.map V.int) (ns.map PyData.int)
  | [] => .nil
  | i :: r => .cons (.int i) (repInts r)
/-- the law's end -/
theorem law_sp {K : PySem.W.Frag} {cl : Nat → Addr} {C : Calls} {fi : Nat} {H : Hp} {a : Addr} {ns : List Int} (hs : SqL K H a (ns.map V.int)) (h : ∃ μ, C fi [.list (ns.map PyData.int)] [] = .ok (.bool true) μ) :
    spOf K cl C fi [.ref a] H (fun v _ => v = .bl true) fun _ _ _ => False := by
  obtain ⟨μ, h⟩ := h
  refine ⟨⟨H, [], []⟩, [.list (ns.map PyData.int)], ⟨fun _ _ h => h, List.nodup_nil, rfl, fun n c a e _ => by simp at e, fun a h => by cases h⟩, .cons (.lst hs (repInts ns)) .nil, ?_⟩
  rw [h]
  intro v W' H' _ _ _ r
  cases r
  rfl
end PVL
end

section
set_option Elab.async false
set_option linter.all false
set_option maxRecDepth 100000
set_option maxHeartbeats 2000000
/-! # Lemmas about values alone -/
namespace PVL
open PySem PySem.Spec PyProof.Rows L2
theorem atI_getD {xs : List PyData} {i : Int} (h0 : 0 ≤ i) (h : i < xs.length) (d : PyData) : atI xs i = some (xs.getD i.toNat d) := by
  unfold atI ixN
  rw [if_pos h0, if_pos h]
  show xs[i.toNat]? = _
  rw [List.getD_eq_getElem?_getD]
  have : i.toNat < xs.length := by omega
  simp [this]
theorem atI_getDn {xs : List Nat} {i : Int} (h0 : 0 ≤ i) (h : i < xs.length) (d : Nat) : atI xs i = some (xs.getD i.toNat d) := by
  unfold atI ixN
  rw [if_pos h0, if_pos h]
  show xs[i.toNat]? = _
  rw [List.getD_eq_getElem?_getD]
  have : i.toNat < xs.length := by omega
  simp [this]
/-- a comprehension whose element is a plain function of the item -/
theorem cLoop_map {tg : Tg} {f : List SV → Store → Rs (Option PyData)} {env : List SV} {μ : Store} {g : PyData → PyData} : ∀ {ds : List PyData}, (∀ d ∈ ds, ∃ e, tg.put d env = some e ∧ f e μ = .ok (some (g d)) μ) → cLoop tg f env ds μ = .ok (ds.map g) μ
  | [], _ => rfl
  | d :: ds, h => by
    obtain ⟨e, h1, h2⟩ := h d List.mem_cons_self
    unfold cLoop
    rw [h1]
    simp only
    rw [h2]
    simp only
    rw [cLoop_map (g := g) fun d' hd => h d' (List.mem_cons_of_mem _ hd)]
    rfl
theorem rngD_mem {lo : Int} {n : Nat} {d : PyData} (h : d ∈ rngD lo n) : ∃ k : Nat, k < n ∧ d = .int (lo + k) := by
  unfold rngD at h
  obtain ⟨k, hk, rfl⟩ := List.mem_map.mp h
  exact ⟨k, List.mem_range.mp hk, rfl⟩
/-! texts -/
theorem strs_map : ∀ l : List Str, strs' (l.map PyData.str) = some l
  | [] => rfl
  | x :: r => by
    show (strs' (r.map PyData.str)).map (x :: ·) = _
    rw [strs_map r]
    rfl
theorem ints_map : ∀ l : List Int, intsD (l.map PyData.int) = some l
  | [] => rfl
  | x :: r => by
    show (intsD (r.map PyData.int)).map (x :: ·) = _
    rw [ints_map r]
    rfl
theorem app_cps (x y : Str) : (x ++ y).cps.toList = x.cps.toList ++ y.cps.toList := by
  show (x.cps ++ y.cps).toList = _
  simp
theorem join_cps0 : ∀ l : List Str, (Str.join Str.empty l).cps.toList = (l.map (·.cps.toList)).flatten
  | [] => rfl
  | [x] => by
    show x.cps.toList = _
    simp
  | x :: y :: r => by
    have ih := join_cps0 (y :: r)
    show (x ++ Str.empty ++ Str.join Str.empty (y :: r)).cps.toList = _
    rw [app_cps, app_cps, ih]
    have : Str.empty.cps.toList = [] := rfl
    rw [this]
    simp
theorem join_cps (l : List Str) : (Txt.join Str.empty l).cps.toList = (l.map (·.cps.toList)).flatten := by
  rw [← join_cps0]
  exact congrArg (fun x : Str => x.cps.toList) (StrLaws.glued_eq_join _ _)
theorem strOk_of {x : Str} (h : ∀ c ∈ x.cps.toList, c < 1114112) : PyData.strOk x = true := by
  unfold PyData.strOk
  rw [Array.all_eq_true']
  intro c hc
  exact decide_eq_true (h c (by simpa using hc))
/-! ## the small language by rewriting -/
def varR (o : Option SV) (μ : Store) : Rs PyData := match o with
  | some (.pv d) => .ok d μ
  | _ => .stuck
@[simp] theorem varR_pv {d : PyData} {μ : Store} : varR (some (.pv d)) μ = .ok d μ := rfl
def bvR (o : Option SV) (μ : Store) : Rs PyData := match o with
  | some (.ow l) => .ok (.list l) μ
  | some (.pv d) => .ok d μ
  | _ => .stuck
@[simp] theorem bvR_pv {d : PyData} {μ : Store} : bvR (some (.pv d)) μ = .ok d μ := rfl
@[simp] theorem bvR_ow {l : List PyData} {μ : Store} : bvR (some (.ow l)) μ = .ok (.list l) μ := rfl
section
variable {C : Calls} {env : List SV} {μ : Store} {sub : Under} {L : Nat}
@[simp] theorem ev_var {i : Nat} : ev C (.var i) env μ = varR env[i]? μ := by
  unfold ev varR
  rfl
@[simp] theorem ev_bv {i : Nat} : ev C (.bv i) env μ = bvR env[i]? μ := by
  unfold ev bvR
  rfl
@[simp] theorem ev_int {i : Int} : ev C (.cst (.int i)) env μ = .ok (.int i) μ := rfl
@[simp] theorem ev_str {i : Str} : ev C (.cst (.str i)) env μ = .ok (.str i) μ := rfl
@[simp] theorem ev_bool {i : Bool} : ev C (.cst (.bool i)) env μ = .ok (.bool i) μ := rfl
@[simp] theorem ev_none : ev C (.cst .none) env μ = .ok .none μ := rfl
@[simp] theorem ev_bin {o : BOp} {a b : E} : ev C (.bin o a b) env μ = (ev C a env μ).bind fun x μ1 => (ev C b env μ1).bind fun y μ2 => opt (binP o x y) μ2 := rfl
def negR (x : PyData) (μ : Store) : Rs PyData := match x with
  | .int i => .ok (.int (-i)) μ
  | _ => .stuck
@[simp] theorem negR_int {i : Int} : negR (.int i) μ = .ok (.int (-i)) μ := rfl
@[simp] theorem ev_neg {a : E} : ev C (.neg a) env μ = (ev C a env μ).bind negR := rfl
@[simp] theorem ev_cmp {o : COp} {a b : E} : ev C (.cmp o a b) env μ = (ev C a env μ).bind fun x μ1 => (ev C b env μ1).bind fun y μ2 => opt (cmpP o x y) μ2 := rfl
def isnR (ng : Bool) (x : PyData) (μ : Store) : Rs PyData := match x with
  | .none => .ok (.bool (!ng)) μ
  | _ => .ok (.bool ng) μ
@[simp] theorem ev_isn {ng : Bool} {a : E} : ev C (.isn ng a) env μ = (ev C a env μ).bind (isnR ng) := rfl
@[simp] theorem isnR_none {ng : Bool} : isnR ng .none μ = .ok (.bool (!ng)) μ := rfl
@[simp] theorem isnR_int {ng : Bool} {i : Int} : isnR ng (.int i) μ = .ok (.bool ng) μ := rfl
@[simp] theorem isnR_list {ng : Bool} {i : List PyData} : isnR ng (.list i) μ = .ok (.bool ng) μ := rfl
@[simp] theorem isnR_tuple {ng : Bool} {i : List PyData} : isnR ng (.tuple i) μ = .ok (.bool ng) μ := rfl
@[simp] theorem isnR_str {ng : Bool} {i : Str} : isnR ng (.str i) μ = .ok (.bool ng) μ := rfl
@[simp] theorem isnR_bool {ng : Bool} {i : Bool} : isnR ng (.bool i) μ = .ok (.bool ng) μ := rfl
def chR (o : Option PyData) (a b : Rs PyData) : Rs PyData := match o with
  | some (.bool true) => a
  | some (.bool false) => b
  | _ => .stuck
@[simp] theorem chR_dec {p : Prop} [Decidable p] {a b : Rs PyData} : chR (some (.bool (decide p))) a b = if p then a else b := by
  by_cases h : p <;> simp [h, chR]
@[simp] theorem ev_chain {o o' : COp} {a b c : E} : ev C (.chain o o' a b c) env μ = (ev C a env μ).bind fun x μ1 => (ev C b env μ1).bind fun y μ2 => chR (cmpP o x y) ((ev C c env μ2).bind fun z μ3 => opt (cmpP o' y z) μ3) (.ok (.bool false) μ2) := rfl
@[simp] theorem ev_and {a b : E} : ev C (.and a b) env μ = (ev C a env μ).bind fun x μ1 => ifB x (if b.isBv then .stuck else ev C b env μ1) (.ok (.bool false) μ1) .stuck := rfl
@[simp] theorem ev_or {a b : E} : ev C (.or a b) env μ = (ev C a env μ).bind fun x μ1 => ifB x (.ok (.bool true) μ1) (if b.isBv then .stuck else ev C b env μ1) .stuck := rfl
def notR (x : PyData) (μ : Store) : Rs PyData := match x with
  | .bool k => .ok (.bool (!k)) μ
  | _ => .stuck
@[simp] theorem notR_bool {k : Bool} : notR (.bool k) μ = .ok (.bool (!k)) μ := rfl
@[simp] theorem ev_not {a : E} : ev C (.not a) env μ = (ev C a env μ).bind notR := rfl
@[simp] theorem ev_tru {a : E} : ev C (.tru a) env μ = (ev C a env μ).bind fun x μ1 => opt ((truP x).map .bool) μ1 := rfl
@[simp] theorem ev_ite {c a b : E} : ev C (.ite c a b) env μ = (ev C c env μ).bind fun x μ1 => if a.isBv || b.isBv then .stuck else ifB x (ev C a env μ1) (ev C b env μ1) .stuck := rfl
@[simp] theorem ev_tup {l : List E} : ev C (.tup l) env μ = (evL C l env μ).bind fun ds μ1 => if ds.length ≤ lim then .ok (.tuple ds) μ1 else .stuck := rfl
@[simp] theorem ev_lst {l : List E} : ev C (.lst l) env μ = (evL C l env μ).bind fun ds μ1 => if ds.length ≤ lim then .ok (.list ds) μ1 else .stuck := rfl
@[simp] theorem ev_idx {a b : E} : ev C (.idx a b) env μ = (ev C a env μ).bind fun x μ1 => (ev C b env μ1).bind fun y μ2 => opt (idxP x y) μ2 := rfl
def slR (r : Rs PyData) : Rs (Option Int) := r.bind fun l μ => opt (asI l) μ
@[simp] theorem slR_int {i : Int} : slR (.ok (.int i) μ) = .ok (some i) μ := rfl
@[simp] theorem ev_slc_nn {a : E} : ev C (.slc a .no .no) env μ = (ev C a env μ).bind fun x μ1 => opt (slcP x none none) μ1 := rfl
theorem ev_slc_ns {a hi : E} (h : hi ≠ .no) : ev C (.slc a .no hi) env μ = (ev C a env μ).bind fun x μ1 => (slR (ev C hi env μ1)).bind fun u μ3 => opt (slcP x none u) μ3 := by
  cases hi <;> first | rfl | exact absurd rfl h
theorem ev_slc_sn {a lo : E} (h : lo ≠ .no) : ev C (.slc a lo .no) env μ = (ev C a env μ).bind fun x μ1 => (slR (ev C lo env μ1)).bind fun u μ3 => opt (slcP x u none) μ3 := by
  cases lo <;> first | rfl | exact absurd rfl h
theorem ev_slc_ss {a lo hi : E} (h : lo ≠ .no) (h' : hi ≠ .no) : ev C (.slc a lo hi) env μ = (ev C a env μ).bind fun x μ1 => (slR (ev C lo env μ1)).bind fun l μ2 => (slR (ev C hi env μ2)).bind fun u μ3 => opt (slcP x l u) μ3 := by
  cases lo <;> first | exact absurd rfl h | (cases hi <;> first | rfl | exact absurd rfl h')
@[simp] theorem ev_call {f : Nat} {l : List E} : ev C (.call f l) env μ = (evL C l env μ).bind fun ds μ1 => C f ds μ1 := rfl
@[simp] theorem ev_bi {b : Bi} {l : List E} : ev C (.bi b l) env μ = (evB C l env μ).bind fun ds μ1 => opt (biP b ds) μ1 := rfl
@[simp] theorem ev_isi {T : String} {a : E} : ev C (.isi T a) env μ = (ev C a env μ).bind fun x μ1 => opt ((isiP T x).map .bool) μ1 := rfl
def joinR (x : PyData) (k : Str → Rs PyData) : Rs PyData := match x with
  | .str s => k s
  | _ => .stuck
@[simp] theorem joinR_str {x : Str} {k : Str → Rs PyData} : joinR (.str x) k = k x := rfl
@[simp] theorem ev_dsp {ks : List Str} {l : List E} {b : E} : ev C (.dsp ks l b) env μ = if ks.Nodup ∧ ks.length = l.length ∧ ks.length ≤ 15 then (evL C l env μ).bind fun ds μ1 => (ev C b env μ1).bind fun y μ2 => opt (dspP ks ds y) μ2 else .stuck := rfl
@[simp] theorem ev_join {a b : E} : ev C (.join a b) env μ = (ev C a env μ).bind fun x μ1 => joinR x fun s => (ev C b env μ1).bind fun y μ2 => opt (joinP (.str s) y) μ2 := rfl
@[simp] theorem ev_fmt {a : E} : ev C (.fmt a) env μ = (ev C a env μ).bind fun x μ1 => opt (fmtP x) μ1 := rfl
@[simp] theorem ev_fstr {l : List E} : ev C (.fstr l) env μ = (evJ C l Str.empty env μ).bind fun x μ1 => .ok (.str x) μ1 := rfl
@[simp] theorem evL_nil : evL C [] env μ = .ok [] μ := rfl
@[simp] theorem evL_cons {e : E} {r : List E} : evL C (e :: r) env μ = if e.isBv then .stuck else (ev C e env μ).bind fun d μ1 => (evL C r env μ1).bind fun ds μ2 => .ok (d :: ds) μ2 := rfl
@[simp] theorem evB_nil : evB C [] env μ = .ok [] μ := rfl
@[simp] theorem evB_cons {e : E} {r : List E} : evB C (e :: r) env μ = (ev C e env μ).bind fun d μ1 => (evB C r env μ1).bind fun ds μ2 => .ok (d :: ds) μ2 := rfl
@[simp] theorem evJ_nil {acc : Str} : evJ C [] acc env μ = .ok acc μ := rfl
@[simp] theorem evJ_cons {e : E} {r : List E} {acc : Str} : evJ C (e :: r) acc env μ = (ev C e env μ).bind fun x μ1 => match x with
    | .str y => if (acc ++ y).length ≤ lim then evJ C r (acc ++ y) env μ1 else .stuck
    | _ => .stuck := rfl
def rngR (lo : Int) (x : PyData) (μ : Store) : Rs (List PyData) := match x with
  | .int j => if -two62 ≤ j ∧ j < two62 then .ok (rngD 0 j.toNat) μ else .stuck
  | _ => .stuck
@[simp] theorem evI_rng1 {a : E} : evI C (.rng1 a) env μ = (ev C a env μ).bind fun x μ1 => match x with
    | .int j => if -two62 ≤ j ∧ j < two62 then .ok (rngD 0 j.toNat) μ1 else .stuck
    | _ => .stuck := rfl
@[simp] theorem evI_rng2 {a b : E} : evI C (.rng2 a b) env μ = (ev C a env μ).bind fun x μ1 => (ev C b env μ1).bind fun y μ2 => match x, y with
    | .int i, .int j => if -two62 ≤ i ∧ i < two62 ∧ -two62 ≤ j ∧ j < two62 then .ok (rngD i (j - i).toNat) μ2 else .stuck
    | _, _ => .stuck := rfl
def lstR (x : PyData) (μ : Store) : Rs (List PyData) := match x with
  | .list ds => .ok ds μ
  | _ => .stuck
def tupR (x : PyData) (μ : Store) : Rs (List PyData) := match x with
  | .tuple ds => .ok ds μ
  | _ => .stuck
@[simp] theorem lstR_list {l : List PyData} : lstR (.list l) μ = .ok l μ := rfl
@[simp] theorem tupR_tuple {l : List PyData} : tupR (.tuple l) μ = .ok l μ := rfl
@[simp] theorem evI_seqL {a : E} : evI C (.seqL a) env μ = if a.isBv then .stuck else (ev C a env μ).bind lstR := rfl
@[simp] theorem evI_seqT {a : E} : evI C (.seqT a) env μ = (ev C a env μ).bind tupR := rfl
@[simp] theorem evI_zip {a b : E} : evI C (.zip a b) env μ = if a.isBv || b.isBv then .stuck else (ev C a env μ).bind fun x μ1 => (ev C b env μ1).bind fun y μ2 => match x, y with
    | .list xs, .list ys => .ok (zipD xs ys) μ2
    | _, _ => .stuck := rfl
@[simp] theorem evI_enum {a : E} : evI C (.enum a) env μ = if a.isBv then .stuck else (ev C a env μ).bind fun x μ1 => match x with
    | .list xs => .ok (enumD 0 xs) μ1
    | _ => .stuck := rfl
/-- a comprehension of a plain function -/
theorem ev_map {it : E} {tg : Tg} {e : E} {vs : List Nat} {ds : List PyData} {g : PyData → PyData} {μ1 : Store} (hi : evI C it env μ = .ok ds μ1) (hs : tg.slots.all (fun i => vs.contains i && decide (i < env.length)) = true) (hb : e.isBv = false) (hl : ds.length ≤ lim)
    (h : ∀ d ∈ ds, ∃ e', tg.put d (wipeE env vs) = some e' ∧ ev C e e' μ1 = .ok (g d) μ1) : ev C (.comp it tg .no e vs) env μ = .ok (.list (ds.map g)) μ1 := by
  show (evI C it env μ).bind _ = _
  rw [hi, Rs.bind_ok, hs, hb, decide_eq_true hl]
  simp only [Bool.not_false, Bool.and_self, if_true]
  rw [cLoop_map (g := g) fun d hd => ?_]
  obtain ⟨e', h1, h2⟩ := h d hd
  refine ⟨e', h1, ?_⟩
  show (Rs.ok true μ1).bind _ = _
  rw [Rs.bind_ok, if_pos rfl, h2]
  rfl
/-! statements -/
@[simp] theorem runB_nil : runB C sub L [] env μ = .nx env μ := rfl
@[simp] theorem runB_cons {s : S} {r : List S} : runB C sub L (s :: r) env μ = (runS C sub L s env μ).then fun e m => runB C sub L r e m := rfl
@[simp] theorem runS_asg {i : Nat} {e : E} : runS C sub L (.asg i e) env μ = if e.isBv then .stuck else thenO (ev C e env μ) env fun d μ1 => .nx (env.set i (.pv d)) μ1 := rfl
def asgR (i : Nat) (env : List SV) (d : PyData) (μ : Store) : Out := match d with
  | .list l => .nx (env.set i (.ow l)) μ
  | _ => .stuck
@[simp] theorem asgR_list {i : Nat} {l : List PyData} : asgR i env (.list l) μ = .nx (env.set i (.ow l)) μ := rfl
@[simp] theorem runS_asgN {i : Nat} {e : E} : runS C sub L (.asgN i e) env μ = if e.fresh then thenO (ev C e env μ) env (asgR i env) else .stuck := rfl
@[simp] theorem runS_asgT {l : List Nat} {e : E} : runS C sub L (.asgT l e) env μ = if e.isBv then .stuck else thenO (ev C e env μ) env fun d μ1 => match (Tg.tp l).put d env with
      | some env' => .nx env' μ1
      | none => .stuck := rfl
def appR (o : Option SV) (k : List PyData → Out) : Out := match o with
  | some (.ow l) => k l
  | _ => .stuck
@[simp] theorem appR_ow {l : List PyData} {k : List PyData → Out} : appR (some (.ow l)) k = k l := rfl
@[simp] theorem runS_app {i : Nat} {e : E} : runS C sub L (.app i e) env μ = appR env[i]? fun l => if e.isBv then .stuck else thenO (ev C e env μ) env fun d μ1 => if l.length < lim then .nx (env.set i (.ow (l ++ [d]))) μ1 else .stuck := by
  unfold runS appR
  rfl
def setR (i : Nat) (env : List SV) (l : List PyData) (d kk : PyData) (μ : Store) : Out := match kk with
  | .int n => match ixN l.length n with
    | some j => .nx (env.set i (.ow (l.set j d))) μ
    | none => .stuck
  | _ => .stuck
@[simp] theorem runS_setI {i : Nat} {k e : E} : runS C sub L (.setI i k e) env μ = appR env[i]? fun l => if e.isBv then .stuck else thenO (ev C e env μ) env fun d μ1 => thenO (ev C k env μ1) env fun kk μ2 => setR i env l d kk μ2 := by
  unfold runS appR
  rfl
@[simp] theorem runS_iff {c : E} {a b : List S} : runS C sub L (.iff c a b) env μ = thenO (ev C c env μ) env fun k μ1 => ifB k (runB C sub L a env μ1) (runB C sub L b env μ1) .stuck := rfl
theorem runS_for {it : E} {tg : Tg} {b : List S} : runS C sub L (.for_ it tg b) env μ = thenO (evI C it env μ) env fun ds μ1 => fLoop tg (fun e m => runB C sub L b e m) ds env μ1 := rfl
@[simp] theorem runS_ret {e : E} : runS C sub L (.ret e) env μ = if e.isBv then .stuck else thenO (ev C e env μ) env fun d μ1 => .rt d μ1 := rfl
@[simp] theorem runS_retN : runS C sub L .retN env μ = .rt .none μ := rfl
@[simp] theorem runS_exp {e : E} : runS C sub L (.exp e) env μ = thenO (ev C e env μ) env fun _ μ1 => .nx env μ1 := rfl
@[simp] theorem runS_raise {c : Nat} {e : E} : runS C sub L (.raise c e) env μ = thenO (ev C e env μ) env fun _ μ1 => .ex c env μ1 := rfl
@[simp] theorem runS_try {b : List S} {hs : List (Nat × List S)} : runS C sub L (.try_ b hs) env μ = (runB C sub L b env μ).caught sub fun e m => runH C sub L hs e m := rfl
@[simp] theorem runS_frz {i : Nat} {s : S} : runS C sub L (.frz i s) env μ = runS C sub L s (frzE i env) μ := rfl
@[simp] theorem caught_nx {e : List SV} {m : Store} {g : List SV → Store → List (Nat × Out)} : (Out.nx e m).caught sub g = .nx e m := rfl
@[simp] theorem caught_rt {d : PyData} {m : Store} {g : List SV → Store → List (Nat × Out)} : (Out.rt d m).caught sub g = .rt d m := rfl
@[simp] theorem caught_ex {c : Nat} {e : List SV} {m : Store} {g : List SV → Store → List (Nat × Out)} : (Out.ex c e m).caught sub g = pick sub c (.ex c e m) (g e m) := rfl
@[simp] theorem runS_tryIs {b : List S} {c i : Nat} : runS C sub L (.tryIs b c i) env μ = (runB C sub L b env μ).caughtIs sub c i := rfl
@[simp] theorem runH_nil : runH C sub L [] env μ = [] := rfl
@[simp] theorem runH_cons {c : Nat} {b : List S} {r : List (Nat × List S)} : runH C sub L ((c, b) :: r) env μ = (c, runB C sub L b env μ) :: runH C sub L r env μ := rfl
/-! conditions that split -/
@[simp] theorem Rs.bind_if {α β : Type} {p : Prop} [Decidable p] {a b : Rs α} {f : α → Store → Rs β} : (if p then a else b).bind f = if p then a.bind f else b.bind f := by split <;> rfl
@[simp] theorem thenO_if {α : Type} {p : Prop} [Decidable p] {a b : Rs α} {f : α → Store → Out} : thenO (if p then a else b) env f = if p then thenO a env f else thenO b env f := by split <;> rfl
@[simp] theorem then_if {p : Prop} [Decidable p] {a b : Out} {f : List SV → Store → Out} : (if p then a else b).then f = if p then a.then f else b.then f := by split <;> rfl
@[simp] theorem toRs_if {p : Prop} [Decidable p] {a b : Out} : toRs (if p then a else b) = if p then toRs a else toRs b := by split <;> rfl
/-! operations -/
@[simp] theorem add_int {i j : Int} : binP .add (.int i) (.int j) = some (.int (i + j)) := rfl
@[simp] theorem sub_int {i j : Int} : binP .sub (.int i) (.int j) = some (.int (i - j)) := rfl
theorem mul_int {i j : Int} (h : (-18446744073709551616 < i ∧ i < 18446744073709551616) ∨ (-18446744073709551616 < j ∧ j < 18446744073709551616)) : binP .mul (.int i) (.int j) = some (.int (i * j)) := if_pos h
@[simp] theorem fdiv_int {i j : Int} (h : 0 < j) (h2 : j < 18446744073709551616) : binP .fdiv (.int i) (.int j) = some (.int (i / j)) := if_pos ⟨h, h2⟩
theorem fdiv_neg {i j : Int} (h : j < 0) (h2 : -18446744073709551616 < j) : binP .fdiv (.int i) (.int j) = some (.int (i.fdiv j)) := by
  show (if 0 < j ∧ j < big then _ else if j < 0 ∧ -big < j then _ else none) = _
  rw [if_neg (by omega), if_pos ⟨h, h2⟩]
@[simp] theorem mod_int {i j : Int} (h : 0 < j) : binP .mod (.int i) (.int j) = some (.int (i % j)) := if_pos h
@[simp] theorem eq_int {i j : Int} : cmpP .eq (.int i) (.int j) = some (.bool (i == j)) := rfl
@[simp] theorem eq_str {i j : Str} : cmpP .eq (.str i) (.str j) = some (.bool (i == j)) := rfl
@[simp] theorem eq_is {i : Int} {j : Str} : cmpP .eq (.int i) (.str j) = some (.bool false) := rfl
@[simp] theorem ne_int {i j : Int} : cmpP .ne (.int i) (.int j) = some (.bool (!(i == j))) := rfl
@[simp] theorem ne_str {i j : Str} : cmpP .ne (.str i) (.str j) = some (.bool (!(i == j))) := rfl
@[simp] theorem eq_bool {i j : Bool} : cmpP .eq (.bool i) (.bool j) = some (.bool (i == j)) := rfl
@[simp] theorem ne_bool {i j : Bool} : cmpP .ne (.bool i) (.bool j) = some (.bool (!(i == j))) := rfl
@[simp] theorem lt_int {i j : Int} : cmpP .lt (.int i) (.int j) = some (.bool (decide (i < j))) := rfl
@[simp] theorem le_int {i j : Int} : cmpP .le (.int i) (.int j) = some (.bool (decide (i ≤ j))) := rfl
@[simp] theorem gt_int {i j : Int} : cmpP .gt (.int i) (.int j) = some (.bool (decide (j < i))) := rfl
@[simp] theorem ge_int {i j : Int} : cmpP .ge (.int i) (.int j) = some (.bool (decide (j ≤ i))) := rfl
@[simp] theorem idx_list {l : List PyData} {i : Int} : idxP (.list l) (.int i) = atI l i := rfl
@[simp] theorem idx_tuple {l : List PyData} {i : Int} : idxP (.tuple l) (.int i) = atI l i := rfl
@[simp] theorem len_list {l : List PyData} : biP .len [.list l] = some (.int l.length) := rfl
@[simp] theorem len_tuple {l : List PyData} : biP .len [.tuple l] = some (.int l.length) := rfl
@[simp] theorem list_list {l : List PyData} : biP .list [.list l] = some (.list l) := rfl
@[simp] theorem list_tuple {l : List PyData} : biP .list [.tuple l] = some (.list l) := rfl
@[simp] theorem tuple_list {l : List PyData} : biP .tuple [.list l] = some (.tuple l) := rfl
@[simp] theorem tuple_tuple {l : List PyData} : biP .tuple [.tuple l] = some (.tuple l) := rfl
@[simp] theorem abs_int {i : Int} : biP .abs [.int i] = some (.int (if i < 0 then -i else i)) := rfl
@[simp] theorem int_int {i : Int} : biP .int [.int i] = some (.int i) := rfl
@[simp] theorem int_bool {i : Bool} : biP .int [.bool i] = some (.int (if i then 1 else 0)) := rfl
theorem slc_tuple {l : List PyData} {lo hi : Option Int} : slcP (.tuple l) lo hi = if HT.sIx l.length 0 lo = 0 ∧ HT.sIx l.length l.length hi = l.length then none else some (.tuple (cutD l lo hi)) := rfl
@[simp] theorem slc_list {l : List PyData} {lo hi : Option Int} : slcP (.list l) lo hi = some (.list (cutD l lo hi)) := rfl
end
/-- == of two such values -/
theorem eq_shaped {d e : PyData} (h : SeqAt.shaped d = true) (h' : SeqAt.shaped e = true) (hd : ∀ x, d ≠ .none ∧ d ≠ .int x) (hs : ∀ x, d ≠ .str x) (hb : ∀ x, d ≠ .bool x) : eqP d e = some (PyData.eqv d e) := by
  cases d <;> simp_all [eqP]
/-- plain data, at most m deep -/
def Sh (m : Nat) (d : PyData) : Prop := d.canLay0 = true ∧ d.depth ≤ m
theorem Sh.int {m : Nat} (i : Int) : Sh m (.int i) := ⟨rfl, Nat.zero_le _⟩
theorem Sh.none {m : Nat} : Sh m .none := ⟨rfl, Nat.zero_le _⟩
theorem Sh.bool {m : Nat} (i : Bool) : Sh m (.bool i) := ⟨rfl, Nat.zero_le _⟩
theorem Sh.str {m : Nat} {x : Str} (h : PyData.strOk x = true) : Sh m (.str x) := ⟨h, Nat.zero_le _⟩
theorem Sh.all {m : Nat} : ∀ {l : List PyData}, (∀ d ∈ l, Sh m d) → PyData.canLayAll0 l = true ∧ PyData.depthAll l ≤ m
  | [], _ => ⟨rfl, Nat.zero_le _⟩
  | d :: r, h => by
    have a := h d List.mem_cons_self
    have b := Sh.all (l := r) fun e he => h e (List.mem_cons_of_mem _ he)
    refine ⟨?_, ?_⟩
    · show (d.canLay0 && PyData.canLayAll0 r) = true
      rw [a.1, b.1]
      rfl
    · show max d.depth (PyData.depthAll r) ≤ m
      exact Nat.max_le.mpr ⟨a.2, b.2⟩
theorem Sh.list {m : Nat} {l : List PyData} (h : ∀ d ∈ l, Sh m d) : Sh (m + 1) (.list l) := ⟨(Sh.all h).1, Nat.succ_le_succ (Sh.all h).2⟩
theorem Sh.tuple {m : Nat} {l : List PyData} (h : ∀ d ∈ l, Sh m d) : Sh (m + 1) (.tuple l) := ⟨(Sh.all h).1, Nat.succ_le_succ (Sh.all h).2⟩
theorem Sh.mono {m n : Nat} {d : PyData} (h : Sh m d) (hl : m ≤ n) : Sh n d := ⟨h.1, Nat.le_trans h.2 hl⟩
theorem Sh.shaped {m : Nat} {d : PyData} (h : Sh m d) (hm : m ≤ 64) : SeqAt.shaped d = true := by
  unfold SeqAt.shaped
  rw [h.1, decide_eq_true (Nat.le_trans h.2 hm)]
  rfl
theorem eqP_list {m : Nat} {l : List PyData} (h : ∀ d ∈ l, Sh m d) (hm : m ≤ 63) : eqP (.list l) (.list l) = some true := by
  have z := (Sh.list h).shaped (Nat.succ_le_succ hm)
  show (if SeqAt.shaped (.list l) && SeqAt.shaped (.list l) then some (PyData.eqv (.list l) (.list l)) else none) = _
  rw [z, SeqAt.eqv_refl _ (Sh.list h).1]
  rfl
theorem eqP_tuple {m : Nat} {l : List PyData} (h : ∀ d ∈ l, Sh m d) (hm : m ≤ 63) : eqP (.tuple l) (.tuple l) = some true := by
  have z := (Sh.tuple h).shaped (Nat.succ_le_succ hm)
  show (if SeqAt.shaped (.tuple l) && SeqAt.shaped (.tuple l) then some (PyData.eqv (.tuple l) (.tuple l)) else none) = _
  rw [z, SeqAt.eqv_refl _ (Sh.tuple h).1]
  rfl
theorem eq_list {m : Nat} {l : List PyData} (h : ∀ d ∈ l, Sh m d) (hm : m ≤ 63) : cmpP .eq (.list l) (.list l) = some (.bool true) := by
  show (eqP _ _).map _ = _
  rw [eqP_list h hm]
  rfl
theorem ne_list {m : Nat} {l : List PyData} (h : ∀ d ∈ l, Sh m d) (hm : m ≤ 63) : cmpP .ne (.list l) (.list l) = some (.bool false) := by
  show (eqP _ _).map _ = _
  rw [eqP_list h hm]
  rfl
theorem eq_tuple {m : Nat} {l : List PyData} (h : ∀ d ∈ l, Sh m d) (hm : m ≤ 63) : cmpP .eq (.tuple l) (.tuple l) = some (.bool true) := by
  show (eqP _ _).map _ = _
  rw [eqP_tuple h hm]
  rfl
theorem ne_tuple {m : Nat} {l : List PyData} (h : ∀ d ∈ l, Sh m d) (hm : m ≤ 63) : cmpP .ne (.tuple l) (.tuple l) = some (.bool false) := by
  show (eqP _ _).map _ = _
  rw [eqP_tuple h hm]
  rfl
theorem cut_mem {α : Type} {l : List α} {lo hi : Option Int} {d : α} (h : d ∈ cutD l lo hi) : d ∈ l := List.mem_of_mem_drop (List.mem_of_mem_take h)
end PVL
end

section
set_option Elab.async false
set_option linter.all false
set_option maxRecDepth 100000
set_option maxHeartbeats 4000000
/-! # Defs that run while an error is handled -/
namespace PVL
open PySem PySem.Spec PyProof.Rows L2
/-- an own error of one argument, its context None -/
theorem pmkN {X : Cx} {C : Addr} {bmB : List Value} {B newId initId : String} {x : Str} {e : Expr} {ta : TE} {p pos : Pos}
    (F : ExcBaseFacts B newId initId bmB) (q : PySem.W.excIn X.K C bmB newId = true)
    (gC : X.mg x = some (.ref C)) (kC : PySem.W.keepIn X.K (.ref C) = true) (r : Raises X (.ref C)) (hg : Gl X x) (he : PE X e ta)
    (hs : starEach [e] X.env = (false, eval e X.env) :: starEach [] X.env := by rfl) (hdb : (x == ("__debug__" : Str)) = false := by decide) :
    L2N.PMk X (.Call (.Name x p) [e] [] pos) (fun σ H Q => ta σ H fun _ H1 => Q (.ref C) none H1) := fun pins s σ H Q I h => by
  have arg : wpAny (model X.prog X.w) X.A (eval e X.env) _ X.xe s := he.run pins s σ H _ I h
  refine wpAny_Call_Name_kw (ld_glob I hg gC (PySem.W.callWith_K (h₀ := X.base) I.ok.mod.kin kC ?_ hs (by rfl)) hdb)
  rw [hs]
  show wpAny _ _ (spliced (_ :: backTo pos (starEach [] X.env))) _ _ s
  refine Calls.spliced_cons (thn arg ?_)
  rintro u s1 ⟨v, H1, I1, r1, q1⟩
  refine Calls.spliced_nil ⟨I1.kIn, ?_⟩
  obtain ⟨_, _, _, _, _, _, _, _, _, _, _, _, _, _, _, _, _, hC, hN, hni, T⟩ := exc_obj I1.kIn q
  exact wpAny_call_exc_subT (rest := [u]) F T hC hN hni (fun h' e' hm => L2N.mk_of I1 hm r q1 (I1.hok.gone hm.new)) (by
    show 1 ≤ sizeLine
    rw [sizeLine_eq]
    omega)
theorem noPassN {X : Cx} {σ : L2.St} : PassesAt (L2N.CX X.prog X.w) X σ (WE noW σ) := fun _ _ _ _ _ _ c => by
  obtain ⟨_, _, _, _, _, _, _, _, _, _, _, _, z⟩ := c
  exact z.elim
/-- the suite of an except clause, the error's context being None, is such a place -/
theorem hot_suite {X : Cx} {a : Addr} {oe : Obj} {cls : Value} {d : Option Addr} {pn : List (Addr × Obj)} (hz : L2N.Zn cls d oe) (hf : ∃ vs, oe.data = .fields vs) : L2H.HotC (X.suite a ((a, oe) :: pn)) := by
  obtain ⟨vs, e⟩ := hf
  exact ⟨(a, oe), ⟨rfl, vs, e, hz.2.2 vs e⟩, List.mem_cons_self⟩
theorem hot_tr {X : Cx} {pn : List (Addr × Obj)} {xe : Value → Shared → Prop} (h : L2H.HotC X) (hs : ∀ q ∈ X.pn, q ∈ pn) : L2H.HotC (X.tr pn xe) := by
  obtain ⟨p, h1, h2⟩ := h
  exact ⟨p, h1, hs p h2⟩
theorem hot_cx {CX : CXT} {P : Program} {w : World} {K : PySem.W.Frag} {mg : Str → Option Value} {base : Heap} {N : List Str} {qual : Str} {scope : Scope} {f : Addr} {cd : Value} {A : Around} {outer : List Env} {s : Shared} {H : Hp} {E : XK} {p : Addr × Obj}
    (h : L2H.Hot1 A p) : L2H.HotC (L2H.cxH CX P w K mg base N qual scope f cd A outer s H E p) :=
  ⟨p, h, List.mem_singleton.mpr rfl⟩
theorem RoomD.hot {n k : Nat} {A : Around} {v : Option Value} (r : RoomD n A) (h : 3 * k ≤ n) (hu : 16 * k ≤ 5 * n) : L2H.RoomH k (A.mark v) :=
  ⟨by
    have := r.dp
    show A.depth + 3 * k + 5 < _
    omega, by
    have := r.un
    show A.units + 16 * k + 200 < _
    omega⟩
theorem hotUnits {k : Nat} {A : Around} (r : L2H.RoomH k A) : A.units + 65 < cLine := by
  have := r.un
  omega
theorem fnH_step {P : Program} {w : World} {K : PySem.W.Frag} {mg : Str → Option Value} {base : Heap} {CX : CXT} {cl : Nat → Addr} {T : Nat → Option Df} {sub : Under} {L k n fi : Nat} {d : Df} {x qual : Str} {st : Stmt} {f : Addr} {fd : FuncData} {N ps : List Str}
    (X : ExOk K cl sub) (F : Fun K x qual st f fd) (S : FnScope N ps (defScope st)) (hT : T fi = some d) (hN : N.length = d.sl) (hp : ps.length = d.ar) (hle : d.ar ≤ d.sl)
    (hb : ∀ (cdv : Value) (A : Around) (outer : List Env) (s : Shared) (H : Hp) (E : XK) (p : Addr × Obj), L2H.Hot1 A p → L2H.RoomH k (A.deeper (envOfC qual (defScope st) s.heap.objs.size f cdv)) →
      PSs (L2H.cxH CX P w K mg base N qual (defScope st) f cdv A outer s H E p) (defBody st) (rdB K cl (runF T sub L n) (fun cls d _ H => E cls d H) d.body)) :
    L2H.FnH P w K mg base CX (k + 1) f fd ps (spOf K cl (runF T sub L (n + 1)) fi) := by
  obtain ⟨oc, od, kV, doc, pm, an, cdv, ct, osl, rfl, lk, hcd⟩ := F.ex
  have hlen : ∀ vs H Q E, spOf K cl (runF T sub L (n + 1)) fi vs H Q E → vs.length = ps.length := by
    rintro vs H Q E ⟨W, ds, o, r, h⟩
    rw [r.length, hp]
    unfold runF at h
    rw [hT] at h
    simp only at h
    by_cases e : ds.length = d.ar
    · exact e
    · rw [if_neg e] at h
      exact h.elim
  refine L2H.fn_ofH lk hcd S hlen fun A outer s H vs Q E p hot hr hsp => ⟨_, hb cdv A outer s H E p hot hr, ?_⟩
  obtain ⟨W, ds, o, r, h⟩ := hsp
  unfold runF at h
  rw [hT] at h
  simp only at h
  by_cases e : ds.length = d.ar
  · rw [if_pos e] at h
    refine sndSB (runF T sub L n) X L d.body _ (enter d ds) W.μ W H W H (L2.start N vs) _ rfl o (slots_enter r hN (by omega)) (Go.refl _ _) ?_
    cases eo : runB (runF T sub L n) sub L d.body (enter d ds) W.μ with
    | nx e m => rw [eo] at h; exact fun W' H' σ' m o' _ g _ _ => h .non W' H' m o' g .non
    | rt e m => rw [eo] at h; exact fun v W' H' m o' g r => h v W' H' m o' g r
    | ex c e m => rw [eo] at h; exact fun W' H' σ' m o' _ g _ _ => h W' H' m o' g
    | bk e m => rw [eo] at h; exact h.elim
    | ct e m => rw [eo] at h; exact h.elim
    | stuck => rw [eo] at h; exact h.elim
  · rw [if_neg e] at h
    exact h.elim
theorem kitOne_val {K : PySem.W.Frag} {C : Addr} (h : PySem.W.subIn K (.ref C) (.type "ValueError") = some true) : PySem.W.kitOne K (.ref C) (.type "ValueError") = some true := by
  have e : (Value.ref C == Value.type "ValueError") = false := rfl
  have m : PySem.W.kitMeta "ValueError" = true := by decide +kernel
  unfold PySem.W.kitOne
  rw [e]
  show (if PySem.W.kitMeta "ValueError" = true then PySem.W.subIn K (.ref C) (.type "ValueError") else none) = _
  rw [if_pos m]
  exact h
theorem cmp1 {a c : Nat} (h : a + 65 < c) : a + 1 < c := by omega
theorem fnH_none {P : Program} {w : World} {K : PySem.W.Frag} {mg : Str → Option Value} {base : Heap} {CX : CXT} {k : Nat} {f : Addr} {fd : FuncData} {ps : List Str} {sp : Sp} (h : L2H.FnH P w K mg base CX 0 f fd ps sp) : L2H.FnH P w K mg base CX k f fd ps sp :=
  ⟨h.len, fun A outer s H args us vs Q E p hr => h.run A outer s H args us vs Q E p (hr.mono (Nat.zero_le _))⟩
theorem fnH_zero {P : Program} {w : World} {K : PySem.W.Frag} {mg : Str → Option Value} {base : Heap} {CX : CXT} {cl : Nat → Addr} {T : Nat → Option Df} {sub : Under} {L fi : Nat} {f : Addr} {fd : FuncData} {ps : List Str} :
    L2H.FnH P w K mg base CX 0 f fd ps (spOf K cl (runF T sub L 0) fi) :=
  ⟨fun _ _ _ _ ⟨_, _, _, _, z⟩ => z.elim, fun _ _ _ _ _ _ _ _ _ _ _ _ _ _ _ _ ⟨_, _, _, _, z⟩ => z.elim⟩
theorem call_min3 {X : Cx} (hc : X.calm = true) : CallR X (.builtin "min") (fun xs H Q => ∃ i j k, xs = [.int i, .int j, .int k] ∧ Q (.int (min3I i j k)) H) := by
  intro pins s σ H xs us Q I r h
  obtain ⟨i, j, k, rfl, q⟩ := h
  refine call_min3Nu hc pins s σ H _ us Q I r ⟨_, _, _, _, rfl, ?_, q⟩
  have e : ∀ a b : Int, nuMin2 (.int a) (.int b) = some (.int (if b < a then b else a)) := fun a b => by
    by_cases h : b < a <;> simp [nuMin2, nuLt, nuCB, h]
  show (nuMin2 (.int i) (.int j)).bind _ = _
  rw [e]
  show nuMin2 _ _ = _
  rw [e]
  rfl
end PVL
end

section
set_option Elab.async false
set_option linter.all false
set_option maxRecDepth 100000
set_option maxHeartbeats 1000000
namespace K02
open PySem PySem.Spec PyProof.Rows L2 PVL
/-! ## the defs in the small language -/
def b_within : List S := [.asg 1 (.idx (.var 0) (.cst (.int 0))), .iff (.or (.cmp .eq (.var 1) (.cst (.str "num"))) (.cmp .eq (.var 1) (.cst (.str "name")))) [.ret (.lst [])] [], .iff (.cmp .eq (.var 1) (.cst (.str "let"))) [.ret (.lst [.idx (.var 0) (.cst (.int 2)), .idx (.var 0) (.cst (.int 3))])] [], .iff (.cmp .eq (.var 1) (.cst (.str "call"))) [.ret (.bi .list [.idx (.var 0) (.cst (.int 2))])] [], .ret (.bi .list [.slc (.var 0) (.cst (.int 1)) (.no)])]
def b__law_cell_at : List S := [.iff (.cmp .lt (.var 1) (.bi .len [.var 0])) [.ret (.idx (.var 0) (.var 1))] [], .ret (.cst (.int 0))]
def b__law_name : List S := [.asg 1 (.cst (.str "abcdefghijklmnopqrstuvwxyz")), .ret (.join (.cst (.str "")) (.comp (.rng1 (.bin .add (.cst (.int 1)) (.bin .mod (.var 0) (.cst (.int 8))))) (.nm 2) (.no) (.idx (.var 1) (.bin .mod (.bin .add (.bin .fdiv (.var 0) (.cst (.int 8))) (.bin .mul (.var 2) (.bin .add (.cst (.int 1)) (.bin .mod (.bin .fdiv (.var 0) (.cst (.int 208))) (.cst (.int 25)))))) (.cst (.int 26)))) [2]))]
def b__law_part : List S := [.asg 1 (.bin .fdiv (.var 0) (.cst (.int 4))), .iff (.cmp .eq (.bin .mod (.var 0) (.cst (.int 4))) (.cst (.int 0))) [.ret (.tup [.cst (.str "name"), .call 2 [.var 1]])] [], .iff (.cmp .eq (.bin .mod (.var 0) (.cst (.int 4))) (.cst (.int 1))) [.ret (.tup [.cst (.str "times"), .tup [.cst (.str "num"), .bin .mod (.var 1) (.cst (.int 1000))], .tup [.cst (.str "name"), .call 2 [.bin .fdiv (.var 1) (.cst (.int 1000))]]])] [], .iff (.cmp .eq (.bin .mod (.var 0) (.cst (.int 4))) (.cst (.int 2))) [.ret (.tup [.cst (.str "call"), .call 2 [.var 1], .tup [.tup [.cst (.str "num"), .bin .mod (.var 1) (.cst (.int 7))]]])] [], .ret (.tup [.cst (.str "num"), .bin .sub (.bin .mod (.var 1) (.cst (.int 2000000000001))) (.cst (.int 1000000000000))])]
def b_law : List S := [.asg 1 (.lst [.cst (.str "num"), .cst (.str "name"), .cst (.str "sum"), .cst (.str "less"), .cst (.str "times"), .cst (.str "part"), .cst (.str "below"), .cst (.str "choose"), .cst (.str "let"), .cst (.str "call")]), .asg 2 (.idx (.var 1) (.bin .mod (.call 1 [.var 0, .cst (.int 0)]) (.cst (.int 10)))), .asg 3 (.call 2 [.call 1 [.var 0, .cst (.int 1)]]), .asg 4 (.comp (.rng1 (.cst (.int 6))) (.nm 8) (.no) (.call 3 [.call 1 [.var 0, .bin .add (.cst (.int 2)) (.var 8)]]) [8]), .asg 5 (.slc (.var 4) (.no) (.cst (.int 2))), .asg 6 (.tup [.var 2, .idx (.var 4) (.cst (.int 0)), .idx (.var 4) (.cst (.int 1))]), .iff (.or (.cmp .eq (.var 2) (.cst (.str "num"))) (.cmp .eq (.var 2) (.cst (.str "name")))) [.asg 5 (.lst []), .asg 6 (.tup [.var 2, .var 3]), .iff (.cmp .eq (.var 2) (.cst (.str "num"))) [.asg 6 (.tup [.var 2, .bin .sub (.bin .mod (.call 1 [.var 0, .cst (.int 1)]) (.cst (.int 2000000000001))) (.cst (.int 1000000000000))])] []] [], .iff (.cmp .eq (.var 2) (.cst (.str "choose"))) [.asg 5 (.slc (.var 4) (.no) (.cst (.int 3))), .asg 6 (.tup [.var 2, .idx (.var 4) (.cst (.int 0)), .idx (.var 4) (.cst (.int 1)), .idx (.var 4) (.cst (.int 2))])] [], .iff (.cmp .eq (.var 2) (.cst (.str "let"))) [.asg 6 (.tup [.var 2, .var 3, .idx (.var 4) (.cst (.int 0)), .idx (.var 4) (.cst (.int 1))])] [], .iff (.cmp .eq (.var 2) (.cst (.str "call"))) [.asg 5 (.slc (.var 4) (.no) (.bin .mod (.call 1 [.var 0, .cst (.int 8)]) (.cst (.int 7)))), .asg 6 (.tup [.var 2, .var 3, .bi .tuple [.var 5]])] [], .asg 7 (.call 0 [.var 6]), .iff (.or (.not (.isi "list" (.var 7))) (.cmp .ne (.var 7) (.var 5))) [.ret (.cst (.bool false))] [], .ret (.and (.cmp .eq (.call 0 [.var 6]) (.var 5)) (.cmp .eq (.idx (.var 6) (.cst (.int 0))) (.var 2)))]
def d_within : Df := ⟨1, 2, b_within⟩
def d__law_cell_at : Df := ⟨2, 2, b__law_cell_at⟩
def d__law_name : Df := ⟨1, 3, b__law_name⟩
def d__law_part : Df := ⟨1, 2, b__law_part⟩
def d_law : Df := ⟨1, 9, b_law⟩
def tab : Nat → Option Df
  | 0 => some d_within
  | 1 => some d__law_cell_at
  | 2 => some d__law_name
  | 3 => some d__law_part
  | 4 => some d_law
  | _ => none
def sub : Under
  | _, _ => none
/-! ## the text -/
def topAt (i : Nat) : Stmt := PySem.Challenge.pw_callsmith_k02_trees_within.main.body.getD i (.Pass ⟨0, 0, 0, 0⟩)
abbrev st_within : Stmt := topAt 1
abbrev nm_within : List Str := ["tree", "word"]
abbrev ps_within : List Str := ["tree"]
theorem sc_within : FnScope nm_within ps_within (defScope st_within) := ⟨rfl, rfl, rfl, by decide +kernel, rfl, by decide +kernel, by decide +kernel⟩
abbrev st__law_cell_at : Stmt := topAt 3
abbrev nm__law_cell_at : List Str := ["_law_script", "_law_k"]
abbrev ps__law_cell_at : List Str := ["_law_script", "_law_k"]
theorem sc__law_cell_at : FnScope nm__law_cell_at ps__law_cell_at (defScope st__law_cell_at) := ⟨rfl, rfl, rfl, by decide +kernel, rfl, by decide +kernel, by decide +kernel⟩
abbrev st__law_name : Stmt := topAt 4
abbrev nm__law_name : List Str := ["_law_cell", "_law_some", "_law_k"]
abbrev ps__law_name : List Str := ["_law_cell"]
theorem sc__law_name : FnScope nm__law_name ps__law_name (defScope st__law_name) := ⟨rfl, rfl, rfl, by decide +kernel, rfl, by decide +kernel, by decide +kernel⟩
abbrev st__law_part : Stmt := topAt 5
abbrev nm__law_part : List Str := ["_law_cell", "_law_rest"]
abbrev ps__law_part : List Str := ["_law_cell"]
theorem sc__law_part : FnScope nm__law_part ps__law_part (defScope st__law_part) := ⟨rfl, rfl, rfl, by decide +kernel, rfl, by decide +kernel, by decide +kernel⟩
abbrev st_law : Stmt := topAt 6
abbrev nm_law : List Str := ["_law_script", "_law_words", "_law_word", "_law_name_here", "_law_parts", "_law_due", "_law_tree", "_law_found", "_law_k"]
abbrev ps_law : List Str := ["_law_script"]
theorem sc_law : FnScope nm_law ps_law (defScope st_law) := ⟨rfl, rfl, rfl, by decide +kernel, rfl, by decide +kernel, by decide +kernel⟩
/-- an error class of the text -/
structure Xc (K : PySem.W.Frag) (mg : Str → Option Value) (x : Str) (C : Addr) (bm : List Value) : Prop where
  ex : PySem.W.excIn K C bm "ValueError.__new__" = true
  mg : mg x = some (.ref C)
  kp : PySem.W.keepIn K (.ref C) = true
  bs : PySem.W.subIn K (.ref C) (.type "BaseException") = some true
  ty : PySem.W.typeIn K (.ref C) = some (.type "type")
/-- what the top has written -/
structure Txt (K : PySem.W.Frag) (mg : Str → Option Value) (fs : Nat → Addr) (fd : Nat → FuncData) (cs : List Addr) : Prop where
  F0 : Fun K "within" "within" st_within (fs 0) (fd 0)
  g0 : mg "within" = some (.ref (fs 0))
  b0 : Binds K (fd 0) ps_within []
  F1 : Fun K "_law_cell_at" "_law_cell_at" st__law_cell_at (fs 1) (fd 1)
  g1 : mg "_law_cell_at" = some (.ref (fs 1))
  b1 : Binds K (fd 1) ps__law_cell_at []
  F2 : Fun K "_law_name" "_law_name" st__law_name (fs 2) (fd 2)
  g2 : mg "_law_name" = some (.ref (fs 2))
  b2 : Binds K (fd 2) ps__law_name []
  F3 : Fun K "_law_part" "_law_part" st__law_part (fs 3) (fd 3)
  g3 : mg "_law_part" = some (.ref (fs 3))
  b3 : Binds K (fd 3) ps__law_part []
  F4 : Fun K "law" "law" st_law (fs 4) (fd 4)
  g4 : mg "law" = some (.ref (fs 4))
  b4 : Binds K (fd 4) ps_law []
  b_isinstance : mg "isinstance" = none
  b_len : mg "len" = none
  b_list : mg "list" = none
  b_range : mg "range" = none
  b_tuple : mg "tuple" = none
/-- every def, n frames deep -/
structure Ih (P : Program) (w : World) (K : PySem.W.Frag) (mg : Str → Option Value) (base : Heap) (fs : Nat → Addr) (fd : Nat → FuncData) (cs : List Addr) (L n : Nat) : Prop where
  f0 : FnR P w K mg base (L2.CX P w) n (fs 0) (fd 0) ps_within (spOf K (fun c => cs.getD c 0) (runF tab sub L n) 0)
  f1 : FnR P w K mg base (L2.CX P w) n (fs 1) (fd 1) ps__law_cell_at (spOf K (fun c => cs.getD c 0) (runF tab sub L n) 1)
  f2 : FnR P w K mg base (L2.CX P w) n (fs 2) (fd 2) ps__law_name (spOf K (fun c => cs.getD c 0) (runF tab sub L n) 2)
  f3 : FnR P w K mg base (L2.CX P w) n (fs 3) (fd 3) ps__law_part (spOf K (fun c => cs.getD c 0) (runF tab sub L n) 3)
  f4 : FnR P w K mg base (L2.CX P w) n (fs 4) (fd 4) ps_law (spOf K (fun c => cs.getD c 0) (runF tab sub L n) 4)
section
variable {P : Program} {w : World} {K : PySem.W.Frag} {mg : Str → Option Value} {base : Heap} {fs : Nat → Addr} {fd : Nat → FuncData} {cs : List Addr} {L n : Nat}
theorem exOk (T : Txt K mg fs fd cs) : ExOk K (fun c => cs.getD c 0) sub := ⟨fun c c' b h => by simp [sub] at h, fun c c' h => by simp [sub] at h⟩
theorem ok_within (T : Txt K mg fs fd cs) (I : Ih P w K mg base fs fd cs L n) : FnR P w K mg base (L2.CX P w) (n + 1) (fs 0) (fd 0) ps_within (spOf K (fun c => cs.getD c 0) (runF tab sub L (n + 1)) 0) := by
  refine fnR_step (exOk T) T.F0 sc_within (d := d_within) rfl rfl rfl (by decide) fun cdv A outer s H E hr => ?_
  have sc := sc_within
  have hu := hr.cmp
  have tk0 : Takes (cxOf (L2.CX P w) P w K mg base nm_within "within" (defScope st_within) (fs 0) cdv A outer s H E) (fun cls d _ H => E cls d H) := takes_of rfl rfl rfl rfl
  have hp : PassesOwn (model P w) (A.deeper (envOfC "within" (defScope st_within) s.heap.objs.size (fs 0) cdv)) (envOfC "within" (defScope st_within) s.heap.objs.size (fs 0) cdv) (cxOf (L2.CX P w) P w K mg base nm_within "within" (defScope st_within) (fs 0) cdv A outer s H E).xe := passes_of (X := cxOf (L2.CX P w) P w K mg base nm_within "within" (defScope st_within) (fs 0) cdv A outer s H E) rfl
  exact pss_as ((pss_cons (ps_set (i := 1) sc.nd rfl (by first | exact Or.inl rfl | exact Or.inr rfl) (pe_ix ix_seq (pv 0) pe_int (fun _ _ => rfl)))
  (pss_cons (ps_if (PW.pt (pw_or (pt_cmpR (op_cmp hu .eq) (pv 1) pe_str (nomark _)) (pw_or1 (pt_cmpR (op_cmp hu .eq) (pv 1) pe_str (nomark _))))) (pss_one (ps_ret (pe_lst pa_nil))) pss_nil)
  (pss_cons (ps_if (pt_cmpR (op_cmp hu .eq) (pv 1) pe_str (nomark _)) (pss_one (ps_ret (pe_lst (pa_cons (pe_ix ix_seq (pv 0) pe_int (fun _ _ => rfl)) (pa_cons (pe_ix ix_seq (pv 0) pe_int (fun _ _ => rfl)) pa_nil))))) pss_nil)
  (pss_cons (ps_if (pt_cmpR (op_cmp hu .eq) (pv 1) pe_str (nomark _)) (pss_one (ps_ret (pe_callTy call_list_of (by rfl) T.b_list (by decide +kernel) (pa_cons (pe_ix ix_seq (pv 0) pe_int (fun _ _ => rfl)) pa_nil)))) pss_nil)
  (pss_one (ps_ret (pe_callTy call_list_of (by rfl) T.b_list (by decide +kernel) (pa_cons (pe_slice sl_slc (pv 0) (po_some pe_int) po_none) pa_nil))))))))) rfl
theorem ok__law_cell_at (T : Txt K mg fs fd cs) (I : Ih P w K mg base fs fd cs L n) : FnR P w K mg base (L2.CX P w) (n + 1) (fs 1) (fd 1) ps__law_cell_at (spOf K (fun c => cs.getD c 0) (runF tab sub L (n + 1)) 1) := by
  refine fnR_step (exOk T) T.F1 sc__law_cell_at (d := d__law_cell_at) rfl rfl rfl (by decide) fun cdv A outer s H E hr => ?_
  have sc := sc__law_cell_at
  have hu := hr.cmp
  have tk0 : Takes (cxOf (L2.CX P w) P w K mg base nm__law_cell_at "_law_cell_at" (defScope st__law_cell_at) (fs 1) cdv A outer s H E) (fun cls d _ H => E cls d H) := takes_of rfl rfl rfl rfl
  have hp : PassesOwn (model P w) (A.deeper (envOfC "_law_cell_at" (defScope st__law_cell_at) s.heap.objs.size (fs 1) cdv)) (envOfC "_law_cell_at" (defScope st__law_cell_at) s.heap.objs.size (fs 1) cdv) (cxOf (L2.CX P w) P w K mg base nm__law_cell_at "_law_cell_at" (defScope st__law_cell_at) (fs 1) cdv A outer s H E).xe := passes_of (X := cxOf (L2.CX P w) P w K mg base nm__law_cell_at "_law_cell_at" (defScope st__law_cell_at) (fs 1) cdv A outer s H E) rfl
  exact pss_as ((pss_cons (ps_if (pt_cmpR (op_cmp hu .lt) (pv 1) (pe_callB call_len (by rfl) T.b_len (by decide +kernel) (pa_cons (pv 0) pa_nil)) (nomark _)) (pss_one (ps_ret (pe_ix ix_seq (pv 0) (pv 1) (fun _ _ => rfl)))) pss_nil)
  (pss_one (ps_ret pe_int)))) rfl
theorem ok__law_name (T : Txt K mg fs fd cs) (I : Ih P w K mg base fs fd cs L n) : FnR P w K mg base (L2.CX P w) (n + 1) (fs 2) (fd 2) ps__law_name (spOf K (fun c => cs.getD c 0) (runF tab sub L (n + 1)) 2) := by
  refine fnR_step (exOk T) T.F2 sc__law_name (d := d__law_name) rfl rfl rfl (by decide) fun cdv A outer s H E hr => ?_
  have sc := sc__law_name
  have hu := hr.cmp
  have tk0 : Takes (cxOf (L2.CX P w) P w K mg base nm__law_name "_law_name" (defScope st__law_name) (fs 2) cdv A outer s H E) (fun cls d _ H => E cls d H) := takes_of rfl rfl rfl rfl
  have hp : PassesOwn (model P w) (A.deeper (envOfC "_law_name" (defScope st__law_name) s.heap.objs.size (fs 2) cdv)) (envOfC "_law_name" (defScope st__law_name) s.heap.objs.size (fs 2) cdv) (cxOf (L2.CX P w) P w K mg base nm__law_name "_law_name" (defScope st__law_name) (fs 2) cdv A outer s H E).xe := passes_of (X := cxOf (L2.CX P w) P w K mg base nm__law_name "_law_name" (defScope st__law_name) (fs 2) cdv A outer s H E) rfl
  exact pss_as ((pss_cons (ps_set (i := 1) sc.nd rfl (by first | exact Or.inl rfl | exact Or.inr rfl) pe_str)
  (pss_one (ps_ret (pe_join pe_str (pe_lc (own := [("_law_k", 2)]) (g := (gName 2)) rfl sc.nd (pi_range1 (by rfl) T.b_range (pa_cons (pe_op (op_bin .add) pe_int (pe_op (op_bin .mod) (pv 0) pe_int)) pa_nil)) (blkOk_by (own := [("_law_k", 2)]) (N := nm__law_name) (sc := defScope st__law_name) (by decide +kernel)) (fun _ _ _ _ _ => (pg_name (i := 2) sc.nd rfl (by first | exact Or.inl rfl | exact Or.inr rfl))) (fun _ _ _ _ _ => pts_nil) (fun _ _ _ _ _ => (pe_ix ix_seq (pv 1) (pe_op (op_bin .mod) (pe_op (op_bin .add) (pe_op (op_bin .fdiv) (pv 0) pe_int) (pe_op (op_bin .mul) (pv 2) (pe_op (op_bin .add) pe_int (pe_op (op_bin .mod) (pe_op (op_bin .fdiv) (pv 0) pe_int) pe_int)))) pe_int) (fun _ _ => rfl))))))))) rfl
theorem ok__law_part (T : Txt K mg fs fd cs) (I : Ih P w K mg base fs fd cs L n) : FnR P w K mg base (L2.CX P w) (n + 1) (fs 3) (fd 3) ps__law_part (spOf K (fun c => cs.getD c 0) (runF tab sub L (n + 1)) 3) := by
  refine fnR_step (exOk T) T.F3 sc__law_part (d := d__law_part) rfl rfl rfl (by decide) fun cdv A outer s H E hr => ?_
  have sc := sc__law_part
  have hu := hr.cmp
  have tk0 : Takes (cxOf (L2.CX P w) P w K mg base nm__law_part "_law_part" (defScope st__law_part) (fs 3) cdv A outer s H E) (fun cls d _ H => E cls d H) := takes_of rfl rfl rfl rfl
  have hp : PassesOwn (model P w) (A.deeper (envOfC "_law_part" (defScope st__law_part) s.heap.objs.size (fs 3) cdv)) (envOfC "_law_part" (defScope st__law_part) s.heap.objs.size (fs 3) cdv) (cxOf (L2.CX P w) P w K mg base nm__law_part "_law_part" (defScope st__law_part) (fs 3) cdv A outer s H E).xe := passes_of (X := cxOf (L2.CX P w) P w K mg base nm__law_part "_law_part" (defScope st__law_part) (fs 3) cdv A outer s H E) rfl
  exact pss_as ((pss_cons (ps_set (i := 1) sc.nd rfl (by first | exact Or.inl rfl | exact Or.inr rfl) (pe_op (op_bin .fdiv) (pv 0) pe_int))
  (pss_cons (ps_if (pt_cmpR (op_cmp hu .eq) (pe_op (op_bin .mod) (pv 0) pe_int) pe_int (nomark _)) (pss_one (ps_ret (pe_tup (pa_cons pe_str (pa_cons (pe_R I.f2 hr rfl T.g2 T.F2.kp T.b2 (fun σ => passAt tk0 σ) (pa_cons (pv 1) pa_nil)) pa_nil))))) pss_nil)
  (pss_cons (ps_if (pt_cmpR (op_cmp hu .eq) (pe_op (op_bin .mod) (pv 0) pe_int) pe_int (nomark _)) (pss_one (ps_ret (pe_tup (pa_cons pe_str (pa_cons (pe_tup (pa_cons pe_str (pa_cons (pe_op (op_bin .mod) (pv 1) pe_int) pa_nil))) (pa_cons (pe_tup (pa_cons pe_str (pa_cons (pe_R I.f2 hr rfl T.g2 T.F2.kp T.b2 (fun σ => passAt tk0 σ) (pa_cons (pe_op (op_bin .fdiv) (pv 1) pe_int) pa_nil)) pa_nil))) pa_nil)))))) pss_nil)
  (pss_cons (ps_if (pt_cmpR (op_cmp hu .eq) (pe_op (op_bin .mod) (pv 0) pe_int) pe_int (nomark _)) (pss_one (ps_ret (pe_tup (pa_cons pe_str (pa_cons (pe_R I.f2 hr rfl T.g2 T.F2.kp T.b2 (fun σ => passAt tk0 σ) (pa_cons (pv 1) pa_nil)) (pa_cons (pe_tup (pa_cons (pe_tup (pa_cons pe_str (pa_cons (pe_op (op_bin .mod) (pv 1) pe_int) pa_nil))) pa_nil)) pa_nil)))))) pss_nil)
  (pss_one (ps_ret (pe_tup (pa_cons pe_str (pa_cons (pe_op (op_bin .sub) (pe_op (op_bin .mod) (pv 1) pe_int) pe_int) pa_nil)))))))))) rfl
theorem ok_law (T : Txt K mg fs fd cs) (I : Ih P w K mg base fs fd cs L n) : FnR P w K mg base (L2.CX P w) (n + 1) (fs 4) (fd 4) ps_law (spOf K (fun c => cs.getD c 0) (runF tab sub L (n + 1)) 4) := by
  refine fnR_step (exOk T) T.F4 sc_law (d := d_law) rfl rfl rfl (by decide) fun cdv A outer s H E hr => ?_
  have sc := sc_law
  have hu := hr.cmp
  have tk0 : Takes (cxOf (L2.CX P w) P w K mg base nm_law "law" (defScope st_law) (fs 4) cdv A outer s H E) (fun cls d _ H => E cls d H) := takes_of rfl rfl rfl rfl
  have hp : PassesOwn (model P w) (A.deeper (envOfC "law" (defScope st_law) s.heap.objs.size (fs 4) cdv)) (envOfC "law" (defScope st_law) s.heap.objs.size (fs 4) cdv) (cxOf (L2.CX P w) P w K mg base nm_law "law" (defScope st_law) (fs 4) cdv A outer s H E).xe := passes_of (X := cxOf (L2.CX P w) P w K mg base nm_law "law" (defScope st_law) (fs 4) cdv A outer s H E) rfl
  exact pss_as ((pss_cons (ps_set (i := 1) sc.nd rfl (by first | exact Or.inl rfl | exact Or.inr rfl) (pe_lst (pa_cons pe_str (pa_cons pe_str (pa_cons pe_str (pa_cons pe_str (pa_cons pe_str (pa_cons pe_str (pa_cons pe_str (pa_cons pe_str (pa_cons pe_str (pa_cons pe_str pa_nil))))))))))))
  (pss_cons (ps_set (i := 2) sc.nd rfl (by first | exact Or.inl rfl | exact Or.inr rfl) (pe_ix ix_seq (pv 1) (pe_op (op_bin .mod) (pe_R I.f1 hr rfl T.g1 T.F1.kp T.b1 (fun σ => passAt tk0 σ) (pa_cons (pv 0) (pa_cons pe_int pa_nil))) pe_int) (fun _ _ => rfl)))
  (pss_cons (ps_set (i := 3) sc.nd rfl (by first | exact Or.inl rfl | exact Or.inr rfl) (pe_R I.f2 hr rfl T.g2 T.F2.kp T.b2 (fun σ => passAt tk0 σ) (pa_cons (pe_R I.f1 hr rfl T.g1 T.F1.kp T.b1 (fun σ => passAt tk0 σ) (pa_cons (pv 0) (pa_cons pe_int pa_nil))) pa_nil)))
  (pss_cons (ps_setLc (i := 4) (own := [("_law_k", 8)]) (g := (gName 8)) rfl sc.nd rfl rfl (sw_true rfl rfl rfl (by decide +kernel)) (pi_range1 (by rfl) T.b_range (pa_cons pe_int pa_nil)) (blkOk_by (own := [("_law_k", 8)]) (N := nm_law) (sc := defScope st_law) (by decide +kernel)) (fun _ _ _ _ _ => (pg_name (i := 8) sc.nd rfl (by first | exact Or.inl rfl | exact Or.inr rfl))) (fun _ _ _ _ _ => pts_nil) (fun _ _ _ _ _ => (pe_R I.f3 hr rfl T.g3 T.F3.kp T.b3 (fun _ => noPass) (pa_cons (pe_R I.f1 hr rfl T.g1 T.F1.kp T.b1 (fun _ => noPass) (pa_cons (pv 0) (pa_cons (pe_op (op_bin .add) pe_int (pv 8)) pa_nil))) pa_nil))))
  (pss_cons (ps_set (i := 5) sc.nd rfl (by first | exact Or.inl rfl | exact Or.inr rfl) (pe_slice sl_slc (pv 4) po_none (po_some pe_int)))
  (pss_cons (ps_set (i := 6) sc.nd rfl (by first | exact Or.inl rfl | exact Or.inr rfl) (pe_tup (pa_cons (pv 2) (pa_cons (pe_ix ix_seq (pv 4) pe_int (fun _ _ => rfl)) (pa_cons (pe_ix ix_seq (pv 4) pe_int (fun _ _ => rfl)) pa_nil)))))
  (pss_cons (ps_if (PW.pt (pw_or (pt_cmpR (op_cmp hu .eq) (pv 2) pe_str (nomark _)) (pw_or1 (pt_cmpR (op_cmp hu .eq) (pv 2) pe_str (nomark _))))) (pss_cons (ps_set (i := 5) sc.nd rfl (by first | exact Or.inl rfl | exact Or.inr rfl) (pe_lst pa_nil))
  (pss_cons (ps_set (i := 6) sc.nd rfl (by first | exact Or.inl rfl | exact Or.inr rfl) (pe_tup (pa_cons (pv 2) (pa_cons (pv 3) pa_nil))))
  (pss_one (ps_if (pt_cmpR (op_cmp hu .eq) (pv 2) pe_str (nomark _)) (pss_one (ps_set (i := 6) sc.nd rfl (by first | exact Or.inl rfl | exact Or.inr rfl) (pe_tup (pa_cons (pv 2) (pa_cons (pe_op (op_bin .sub) (pe_op (op_bin .mod) (pe_R I.f1 hr rfl T.g1 T.F1.kp T.b1 (fun σ => passAt tk0 σ) (pa_cons (pv 0) (pa_cons pe_int pa_nil))) pe_int) pe_int) pa_nil))))) pss_nil)))) pss_nil)
  (pss_cons (ps_if (pt_cmpR (op_cmp hu .eq) (pv 2) pe_str (nomark _)) (pss_cons (ps_set (i := 5) sc.nd rfl (by first | exact Or.inl rfl | exact Or.inr rfl) (pe_slice sl_slc (pv 4) po_none (po_some pe_int)))
  (pss_one (ps_set (i := 6) sc.nd rfl (by first | exact Or.inl rfl | exact Or.inr rfl) (pe_tup (pa_cons (pv 2) (pa_cons (pe_ix ix_seq (pv 4) pe_int (fun _ _ => rfl)) (pa_cons (pe_ix ix_seq (pv 4) pe_int (fun _ _ => rfl)) (pa_cons (pe_ix ix_seq (pv 4) pe_int (fun _ _ => rfl)) pa_nil)))))))) pss_nil)
  (pss_cons (ps_if (pt_cmpR (op_cmp hu .eq) (pv 2) pe_str (nomark _)) (pss_one (ps_set (i := 6) sc.nd rfl (by first | exact Or.inl rfl | exact Or.inr rfl) (pe_tup (pa_cons (pv 2) (pa_cons (pv 3) (pa_cons (pe_ix ix_seq (pv 4) pe_int (fun _ _ => rfl)) (pa_cons (pe_ix ix_seq (pv 4) pe_int (fun _ _ => rfl)) pa_nil))))))) pss_nil)
  (pss_cons (ps_if (pt_cmpR (op_cmp hu .eq) (pv 2) pe_str (nomark _)) (pss_cons (ps_set (i := 5) sc.nd rfl (by first | exact Or.inl rfl | exact Or.inr rfl) (pe_slice sl_slc (pv 4) po_none (po_some (pe_op (op_bin .mod) (pe_R I.f1 hr rfl T.g1 T.F1.kp T.b1 (fun σ => passAt tk0 σ) (pa_cons (pv 0) (pa_cons pe_int pa_nil))) pe_int))))
  (pss_one (ps_set (i := 6) sc.nd rfl (by first | exact Or.inl rfl | exact Or.inr rfl) (pe_tup (pa_cons (pv 2) (pa_cons (pv 3) (pa_cons (pe_callTy call_tuple_of (by rfl) T.b_tuple (by decide +kernel) (pa_cons (pv 5) pa_nil)) pa_nil))))))) pss_nil)
  (pss_cons (ps_set (i := 7) sc.nd rfl (by first | exact Or.inl rfl | exact Or.inr rfl) (pe_R I.f0 hr rfl T.g0 T.F0.kp T.b0 (fun σ => passAt tk0 σ) (pa_cons (pv 6) pa_nil)))
  (pss_cons (ps_if (PW.pt (pw_or (pt_not (pt_val (pe_callB call_isi (by rfl) T.b_isinstance (by decide +kernel) (pa_cons (pv 7) (pa_cons (pe_bltn (v := .ty "list") (by rfl) T.b_list (by decide +kernel) rfl) pa_nil))))) (pw_or1 (pt_cmpR (op_cmp hu .ne) (pv 7) (pv 5) (nomark _))))) (pss_one (ps_ret pe_bl)) pss_nil)
  (pss_one (ps_ret (pe_and (pe_cmpR (op_cmp hu .eq) (pe_R I.f0 hr rfl T.g0 T.F0.kp T.b0 (fun σ => passAt tk0 σ) (pa_cons (pv 6) pa_nil)) (pv 5) (nomark _)) (pe_one (pe_cmpR (op_cmp hu .eq) (pe_ix ix_seq (pv 6) pe_int (fun _ _ => rfl)) (pv 2) (nomark _))))))))))))))))))) rfl
theorem ih_all (T : Txt K mg fs fd cs) : ∀ n, Ih P w K mg base fs fd cs L n
  | 0 => ⟨fnR_zero, fnR_zero, fnR_zero, fnR_zero, fnR_zero⟩
  | n + 1 => ⟨ok_within T (ih_all T n), ok__law_cell_at T (ih_all T n), ok__law_name T (ih_all T n), ok__law_part T (ih_all T n), ok_law T (ih_all T n)⟩
end
end K02
end

section
set_option Elab.async false
set_option linter.all false
set_option maxRecDepth 100000
set_option maxHeartbeats 400000
namespace K02
open PySem PySem.Spec PyProof.Rows L2 PVL
def cell (ns : List Int) (k : Nat) : Int := ns.getD k 0
theorem cell_at_eq (L n : Nat) (ns : List Int) (k : Nat) (μ : Store) : runF tab sub L (n+1) 1 [.list (ns.map PyData.int), .int k] μ = .ok (.int (cell ns k)) μ := by
  unfold runF
  simp only [tab, d__law_cell_at, b__law_cell_at]
  simp -implicitDefEqProofs [enter]
  by_cases h : k < ns.length
  · simp -implicitDefEqProofs [h, atI_nat, cell]
  · simp -implicitDefEqProofs [h, cell]
def abc : Str := "abcdefghijklmnopqrstuvwxyz"
theorem abc_def : Str.ofString "abcdefghijklmnopqrstuvwxyz" = abc := rfl
def letter (c : Int) (k : Nat) : Str := ⟨#[abc.cps.toList.getD ((c / 8 + k * (1 + c / 208 % 25)) % 26).toNat 0]⟩
def nm (c : Int) : Str := Txt.join Str.empty ((List.range (1 + c % 8).toNat).map fun k => letter c k)
theorem abc_len : abc.cps.toList.length = 26 := by decide +kernel
theorem abc_lim : abc.length ≤ lim := by decide +kernel
theorem abc_at {i : Int} (h0 : 0 ≤ i) (h : i < 26) : atI abc.cps.toList i = some (abc.cps.toList.getD i.toNat 0) := atI_getDn h0 (by rw [abc_len]; exact h) 0
theorem abc_idx {i : Int} (h0 : 0 ≤ i) (h : i < 26) : idxP (.str abc) (.int i) = some (.str ⟨#[abc.cps.toList.getD i.toNat 0]⟩) := by
  show (if abc.length ≤ lim then (atI abc.cps.toList i).map fun c => PyData.str ⟨#[c]⟩ else none) = _
  rw [if_pos abc_lim, abc_at h0 h]
  rfl
def asgx (d : PyData) : Int := match d with
  | .int k => k
  | _ => 0
theorem sum_ones (c : Int) : ∀ l : List Nat, (l.map fun k => (letter c k).length).sum = l.length
  | [] => rfl
  | x :: r => by
    have : (letter c x).length = 1 := rfl
    simp only [List.map_cons, List.sum_cons, List.length_cons, sum_ones c r, this]
    omega
theorem join_nm (c : Int) (hl : (1 + c % 8).toNat ≤ lim) : joinP (.str "") (.list (((List.range (1 + c % 8).toNat).map fun k => letter c k).map PyData.str)) = some (.str (nm c)) := by
  have h := sum_ones c (List.range (1 + c % 8).toNat)
  rw [List.length_range] at h
  unfold joinP
  simp only [PVL.strs_map]
  have e : ((List.range (1 + c % 8).toNat).map fun k => letter c k).map (·.length) = (List.range (1 + c % 8).toNat).map fun k => (letter c k).length := by simp
  have e0 : ("" : Str).length = 0 := rfl
  simp only [e, h, e0, Nat.mul_zero, Nat.add_zero]
  rw [if_pos hl]
  rfl
theorem name_eq (L n : Nat) (c : Int) (μ : Store) : runF tab sub L (n+1) 2 [.int c] μ = .ok (.str (nm c)) μ := by
  unfold runF
  simp only [tab, d__law_name, b__law_name, abc_def]
  simp -implicitDefEqProofs [enter]
  have hb : (-two62 ≤ 1 + c % 8 ∧ 1 + c % 8 < two62) := by unfold two62; omega
  have hl : (1 + c % 8).toNat ≤ lim := by unfold lim; omega
  rw [ev_map (ds := rngD 0 (1 + c % 8).toNat) (g := fun d => .str (letter c (asgx d).toNat)) (μ1 := μ)]
  · have e : (rngD 0 (1 + c % 8).toNat).map (fun d => PyData.str (letter c (asgx d).toNat)) = ((List.range (1 + c % 8).toNat).map fun k => letter c k).map PyData.str := by
      simp -implicitDefEqProofs [rngD, asgx]
    rw [e, Rs.bind_ok, join_nm c hl]
    rfl
  · simp
    exact hb
  · simp
  · rfl
  · rw [PVL.rngD_len]; exact hl
  · intro d hd
    obtain ⟨k, hk, rfl⟩ := rngD_mem hd
    refine ⟨_, rfl, ?_⟩
    simp -implicitDefEqProofs [asgx]
    rw [PVL.mul_int (Or.inr (by omega))]
    simp -implicitDefEqProofs
    rw [abc_idx (by omega) (by omega)]
    simp -implicitDefEqProofs [letter]
theorem abc_ok : ∀ x ∈ abc.cps.toList, x < 1114112 := by decide +kernel
theorem letter_lt (i : Nat) : abc.cps[i]?.getD 0 < 1114112 := by
  cases e : abc.cps[i]? with
  | none => exact Nat.zero_lt_succ _
  | some x => exact abc_ok x (by simpa using Array.mem_of_getElem? e)
theorem nm_ok (c : Int) : PyData.strOk (nm c) = true := by
  apply strOk_of
  intro x hx
  unfold nm at hx
  rw [join_cps] at hx
  simp [letter] at hx
  obtain ⟨k, ⟨a, _, rfl⟩, hx⟩ := hx
  rw [List.mem_singleton] at hx
  subst hx
  exact letter_lt _
def part (c : Int) : PyData := if c % 4 = 0 then .tuple [.str "name", .str (nm (c / 4))] else if c % 4 = 1 then .tuple [.str "times", .tuple [.str "num", .int (c / 4 % 1000)], .tuple [.str "name", .str (nm (c / 4 / 1000))]] else if c % 4 = 2 then .tuple [.str "call", .str (nm (c / 4)), .tuple [.tuple [.str "num", .int (c / 4 % 7)]]] else .tuple [.str "num", .int (c / 4 % 2000000000001 - 1000000000000)]
theorem part_eq (L n : Nat) (c : Int) (μ : Store) : runF tab sub L (n+2) 3 [.int c] μ = .ok (part c) μ := by
  unfold runF
  simp only [tab, d__law_part, b__law_part]
  simp -implicitDefEqProofs [enter, name_eq, lim]
  unfold part
  split
  · rfl
  · split
    · rfl
    · split <;> rfl
theorem part_sh (c : Int) : Sh 3 (part c) := by
  have i (m : Nat) (i : Int) : Sh m (.int i) := Sh.int i
  have a (m : Nat) : Sh m (.str "name") := Sh.str (by decide +kernel)
  have b (m : Nat) : Sh m (.str "times") := Sh.str (by decide +kernel)
  have d (m : Nat) : Sh m (.str "num") := Sh.str (by decide +kernel)
  have e (m : Nat) : Sh m (.str "call") := Sh.str (by decide +kernel)
  have f (m : Nat) (z : Int) : Sh m (.str (nm z)) := Sh.str (nm_ok z)
  unfold part
  split
  · exact Sh.tuple (by simp [a, f])
  · split
    · refine Sh.tuple ?_
      simp only [List.forall_mem_cons, List.not_mem_nil, false_implies, implies_true, and_true]
      exact ⟨b _, Sh.tuple (by simp [d, i]), Sh.tuple (by simp [a, f])⟩
    · split
      · refine Sh.tuple ?_
        simp only [List.forall_mem_cons, List.not_mem_nil, false_implies, implies_true, and_true]
        exact ⟨e _, f _ _, Sh.tuple (by
          simp only [List.forall_mem_cons, List.not_mem_nil, false_implies, implies_true, and_true]
          exact Sh.tuple (m := 0) (by simp [d, i]))⟩
      · exact Sh.tuple (by simp [d, i])
theorem ws : (Str.ofString "name" == Str.ofString "num") = false ∧ (Str.ofString "sum" == Str.ofString "num") = false ∧ (Str.ofString "less" == Str.ofString "num") = false ∧ (Str.ofString "times" == Str.ofString "num") = false ∧ (Str.ofString "part" == Str.ofString "num") = false ∧ (Str.ofString "below" == Str.ofString "num") = false ∧ (Str.ofString "choose" == Str.ofString "num") = false ∧ (Str.ofString "let" == Str.ofString "num") = false ∧ (Str.ofString "call" == Str.ofString "num") = false
    ∧ (Str.ofString "num" == Str.ofString "name") = false ∧ (Str.ofString "sum" == Str.ofString "name") = false ∧ (Str.ofString "less" == Str.ofString "name") = false ∧ (Str.ofString "times" == Str.ofString "name") = false ∧ (Str.ofString "part" == Str.ofString "name") = false ∧ (Str.ofString "below" == Str.ofString "name") = false ∧ (Str.ofString "choose" == Str.ofString "name") = false ∧ (Str.ofString "let" == Str.ofString "name") = false ∧ (Str.ofString "call" == Str.ofString "name") = false
    ∧ (Str.ofString "num" == Str.ofString "choose") = false ∧ (Str.ofString "name" == Str.ofString "choose") = false ∧ (Str.ofString "sum" == Str.ofString "choose") = false ∧ (Str.ofString "less" == Str.ofString "choose") = false ∧ (Str.ofString "times" == Str.ofString "choose") = false ∧ (Str.ofString "part" == Str.ofString "choose") = false ∧ (Str.ofString "below" == Str.ofString "choose") = false ∧ (Str.ofString "let" == Str.ofString "choose") = false ∧ (Str.ofString "call" == Str.ofString "choose") = false
    ∧ (Str.ofString "num" == Str.ofString "let") = false ∧ (Str.ofString "name" == Str.ofString "let") = false ∧ (Str.ofString "sum" == Str.ofString "let") = false ∧ (Str.ofString "less" == Str.ofString "let") = false ∧ (Str.ofString "times" == Str.ofString "let") = false ∧ (Str.ofString "part" == Str.ofString "let") = false ∧ (Str.ofString "below" == Str.ofString "let") = false ∧ (Str.ofString "choose" == Str.ofString "let") = false ∧ (Str.ofString "call" == Str.ofString "let") = false
    ∧ (Str.ofString "num" == Str.ofString "call") = false ∧ (Str.ofString "name" == Str.ofString "call") = false ∧ (Str.ofString "sum" == Str.ofString "call") = false ∧ (Str.ofString "less" == Str.ofString "call") = false ∧ (Str.ofString "times" == Str.ofString "call") = false ∧ (Str.ofString "part" == Str.ofString "call") = false ∧ (Str.ofString "below" == Str.ofString "call") = false ∧ (Str.ofString "choose" == Str.ofString "call") = false ∧ (Str.ofString "let" == Str.ofString "call") = false := by decide +kernel
abbrev depth : Nat := 4
abbrev loops : Nat := 0
def prt (ns : List Int) (k : Nat) : PyData := part (cell ns (2 + k))
theorem prt_sh (ns : List Int) (k : Nat) : Sh 3 (prt ns k) := part_sh _
theorem parts_eq {C : Calls} {ns : List Int} (hc : ∀ k : Nat, C 1 [.list (ns.map PyData.int), .int (k : Int)] [] = .ok (.int (cell ns k)) []) (hp : ∀ c : Int, C 3 [.int c] [] = .ok (part c) []) (x1 x2 x3 x4 x5 x6 x7 x8 : SV) :
    ev C ((E.cst (PyData.int 6)).rng1.comp (Tg.nm 8) E.no (E.call 3 [E.call 1 [E.var 0, E.bin BOp.add (E.cst (PyData.int 2)) (E.var 8)]]) [8]) [.pv (.list (ns.map PyData.int)), x1, x2, x3, x4, x5, x6, x7, x8] [] = .ok (.list [prt ns 0, prt ns 1, prt ns 2, prt ns 3, prt ns 4, prt ns 5]) [] := by
  rw [ev_map (ds := rngD 0 6) (g := fun d => prt ns (asgx d).toNat) (μ1 := [])]
  · rfl
  · simp -implicitDefEqProofs [two62]
  · simp -implicitDefEqProofs
  · rfl
  · rw [PVL.rngD_len]; decide
  · intro d hd
    obtain ⟨k, hk, rfl⟩ := rngD_mem hd
    refine ⟨_, rfl, ?_⟩
    have := hc (2 + k)
    have e : ((2 + k : Nat) : Int) = 2 + (0 + (k : Int)) := by omega
    rw [e] at this
    simp -implicitDefEqProofs [asgx] at this ⊢
    rw [this]
    simp -implicitDefEqProofs [hp, prt]
theorem law_true (ns : List Int) (hl : ns.length ≤ 63) : ∃ μ, runF tab sub loops (3 * depth) 4 [.list (ns.map PyData.int)] [] = .ok (.bool true) μ := by
  refine ⟨[], ?_⟩
  show runF tab sub 0 (11 + 1) 4 _ _ = _
  unfold runF
  simp only [tab, d_law, b_law]
  have hc : ∀ k : Nat, runF tab sub 0 11 1 [.list (ns.map PyData.int), .int (k : Int)] [] = .ok (.int (cell ns k)) [] := fun k => cell_at_eq 0 10 ns k []
  have hc0 : runF tab sub 0 11 1 [.list (ns.map PyData.int), .int 0] [] = .ok (.int (cell ns 0)) [] := hc 0
  have hc1 : runF tab sub 0 11 1 [.list (ns.map PyData.int), .int 1] [] = .ok (.int (cell ns 1)) [] := hc 1
  have hc8 : runF tab sub 0 11 1 [.list (ns.map PyData.int), .int 8] [] = .ok (.int (cell ns 8)) [] := hc 8
  have hn : ∀ c : Int, runF tab sub 0 11 2 [.int c] [] = .ok (.str (nm c)) [] := fun c => name_eq 0 10 c []
  have hp : ∀ c : Int, runF tab sub 0 11 3 [.int c] [] = .ok (part c) [] := fun c => part_eq 0 9 c []
  have hw : ∀ t : PyData, runF tab sub 0 11 0 [t] [] = toRs (runB (runF tab sub 0 10) sub 0 b_within [.pv t, .un] []) := fun t => rfl
  have hP := parts_eq hc hp
  generalize runF tab sub 0 11 = C at *
  generalize runF tab sub 0 10 = C' at *
  unfold b_within at hw
  have h6 (l : List PyData) (h : ∀ d ∈ l, Sh 3 d) := eq_list h (by decide)
  have h7 (l : List PyData) (h : ∀ d ∈ l, Sh 3 d) := ne_list h (by decide)
  have hs := prt_sh ns
  have hkl : kitB "list" "list" = some true := by decide +kernel
  generalize prt ns = P at *
  have hm : cell ns 0 % 10 = 0 ∨ cell ns 0 % 10 = 1 ∨ cell ns 0 % 10 = 2 ∨ cell ns 0 % 10 = 3 ∨ cell ns 0 % 10 = 4 ∨ cell ns 0 % 10 = 5 ∨ cell ns 0 % 10 = 6 ∨ cell ns 0 % 10 = 7 ∨ cell ns 0 % 10 = 8 ∨ cell ns 0 % 10 = 9 := by omega
  obtain hm | hm | hm | hm | hm | hm | hm | hm | hm | hm := hm
  rotate_right
  · have hD : ∀ d ∈ PVL.cutD [P 0, P 1, P 2, P 3, P 4, P 5] none (some (cell ns 8 % 7)), Sh 3 d := by
      intro d h
      have := cut_mem h
      simp at this
      obtain rfl | rfl | rfl | rfl | rfl | rfl := this <;> exact hs _
    have hd6 := h6 _ hD
    have hd7 := h7 _ hD
    simp -implicitDefEqProofs [enter, hc0, hc1, hc8, hm, lim, atI, ixN, hP, hn, ws, ev_slc_ns, hw, isiP, hkl, hd6, hd7]
  all_goals simp -implicitDefEqProofs [enter, hc0, hc1, hc8, hm, lim, atI, ixN, hP, hn, ws, ev_slc_ns, PVL.cutD, HT.sIx, hw, ev_slc_sn, PVL.slc_tuple, isiP, hkl, h6, h7, hs]
end K02
end

section
namespace K02
open PySem PySem.Spec PyProof.Rows L2 PVL
/-! ## the end -/
theorem all_mk {l : PySem.W.OpenLaw} {w : World} {K : PySem.W.Frag} {h : Heap} {mg : Str → Option Value} {fa : Addr} (X : K.In h) (G : h.Ns mainGlobals mg) (hfa : mg "law" = some (.ref fa))
    {f0 : Addr} {od0 an0 : Option Addr} {sl0 : Array (Option Value)} {oc0 kV0 dc0 pm0 cd0 ct0 : Value}
    {f1 : Addr} {od1 an1 : Option Addr} {sl1 : Array (Option Value)} {oc1 kV1 dc1 pm1 cd1 ct1 : Value}
    {f2 : Addr} {od2 an2 : Option Addr} {sl2 : Array (Option Value)} {oc2 kV2 dc2 pm2 cd2 ct2 : Value}
    {f3 : Addr} {od3 an3 : Option Addr} {sl3 : Array (Option Value)} {oc3 kV3 dc3 pm3 cd3 ct3 : Value}
    {f4 : Addr} {od4 an4 : Option Addr} {sl4 : Array (Option Value)} {oc4 kV4 dc4 pm4 cd4 ct4 : Value}
    (a0 : PySem.W.nsIn K mainGlobals "within" = some (some (.ref f0)))
    (l0 : K.lookup f0 = some ⟨oc0, od0, .func (PySem.W.fnOf "within" "within" (defArgs st_within) (defBody st_within) (defScope st_within) .none kV0 dc0 pm0 an0 cd0 ct0), sl0⟩)
    (c0 : PySem.W.codeIn K cd0 "within" = true) (k0 : PySem.W.keepIn K (.ref f0) = true)
    (a1 : PySem.W.nsIn K mainGlobals "_law_cell_at" = some (some (.ref f1)))
    (l1 : K.lookup f1 = some ⟨oc1, od1, .func (PySem.W.fnOf "_law_cell_at" "_law_cell_at" (defArgs st__law_cell_at) (defBody st__law_cell_at) (defScope st__law_cell_at) .none kV1 dc1 pm1 an1 cd1 ct1), sl1⟩)
    (c1 : PySem.W.codeIn K cd1 "_law_cell_at" = true) (k1 : PySem.W.keepIn K (.ref f1) = true)
    (a2 : PySem.W.nsIn K mainGlobals "_law_name" = some (some (.ref f2)))
    (l2 : K.lookup f2 = some ⟨oc2, od2, .func (PySem.W.fnOf "_law_name" "_law_name" (defArgs st__law_name) (defBody st__law_name) (defScope st__law_name) .none kV2 dc2 pm2 an2 cd2 ct2), sl2⟩)
    (c2 : PySem.W.codeIn K cd2 "_law_name" = true) (k2 : PySem.W.keepIn K (.ref f2) = true)
    (a3 : PySem.W.nsIn K mainGlobals "_law_part" = some (some (.ref f3)))
    (l3 : K.lookup f3 = some ⟨oc3, od3, .func (PySem.W.fnOf "_law_part" "_law_part" (defArgs st__law_part) (defBody st__law_part) (defScope st__law_part) .none kV3 dc3 pm3 an3 cd3 ct3), sl3⟩)
    (c3 : PySem.W.codeIn K cd3 "_law_part" = true) (k3 : PySem.W.keepIn K (.ref f3) = true)
    (a4 : PySem.W.nsIn K mainGlobals "law" = some (some (.ref f4)))
    (l4 : K.lookup f4 = some ⟨oc4, od4, .func (PySem.W.fnOf "law" "law" (defArgs st_law) (defBody st_law) (defScope st_law) .none kV4 dc4 pm4 an4 cd4 ct4), sl4⟩)
    (c4 : PySem.W.codeIn K cd4 "law" = true) (k4 : PySem.W.keepIn K (.ref f4) = true)
    (z_isinstance : PySem.W.nsIn K mainGlobals "isinstance" = some none)
    (z_len : PySem.W.nsIn K mainGlobals "len" = some none)
    (z_list : PySem.W.nsIn K mainGlobals "list" = some none)
    (z_range : PySem.W.nsIn K mainGlobals "range" = some none)
    (z_tuple : PySem.W.nsIn K mainGlobals "tuple" = some none)
    (k : Nat) (L : Nat) : ∃ fd : FuncData, (∀ (s : Shared) (v : Value), BindsTo s fd ⟨[v], []⟩ [("_law_script", v)]) ∧ ∀ base : Heap, K.In base → base.Ns mainGlobals mg →
      FnOk l.prog w K mg base (L2.CX l.prog w) k fa fd ["_law_script"] (spOf K (fun c => [].getD c 0) (runF tab sub L (3 * k)) 4) := by
  have e := hfa.symm.trans (PySem.W.mg_of X G a4)
  cases e
  have F0 := fun_mk (st := st_within) l0 c0 k0
  have b0 := F0.binds (ps := ps_within) fun _ _ _ _ _ _ us hl => match us, hl with | [_], _ => rfl
  have F1 := fun_mk (st := st__law_cell_at) l1 c1 k1
  have b1 := F1.binds (ps := ps__law_cell_at) fun _ _ _ _ _ _ us hl => match us, hl with | [_, _], _ => rfl
  have F2 := fun_mk (st := st__law_name) l2 c2 k2
  have b2 := F2.binds (ps := ps__law_name) fun _ _ _ _ _ _ us hl => match us, hl with | [_], _ => rfl
  have F3 := fun_mk (st := st__law_part) l3 c3 k3
  have b3 := F3.binds (ps := ps__law_part) fun _ _ _ _ _ _ us hl => match us, hl with | [_], _ => rfl
  have F4 := fun_mk (st := st_law) l4 c4 k4
  have b4 := F4.binds (ps := ps_law) fun _ _ _ _ _ _ us hl => match us, hl with | [_], _ => rfl
  have T : Txt K mg (fun i => [f0, f1, f2, f3, fa].getD i 0) (fun i => [PySem.W.fnOf "within" "within" (defArgs st_within) (defBody st_within) (defScope st_within) .none kV0 dc0 pm0 an0 cd0 ct0, PySem.W.fnOf "_law_cell_at" "_law_cell_at" (defArgs st__law_cell_at) (defBody st__law_cell_at) (defScope st__law_cell_at) .none kV1 dc1 pm1 an1 cd1 ct1, PySem.W.fnOf "_law_name" "_law_name" (defArgs st__law_name) (defBody st__law_name) (defScope st__law_name) .none kV2 dc2 pm2 an2 cd2 ct2, PySem.W.fnOf "_law_part" "_law_part" (defArgs st__law_part) (defBody st__law_part) (defScope st__law_part) .none kV3 dc3 pm3 an3 cd3 ct3, PySem.W.fnOf "law" "law" (defArgs st_law) (defBody st_law) (defScope st_law) .none kV4 dc4 pm4 an4 cd4 ct4].getD i (PySem.W.fnOf "law" "law" (defArgs st_law) (defBody st_law) (defScope st_law) .none kV4 dc4 pm4 an4 cd4 ct4)) [] :=
    { F0 := F0
      g0 := PySem.W.mg_of X G a0
      b0 := b0
      F1 := F1
      g1 := PySem.W.mg_of X G a1
      b1 := b1
      F2 := F2
      g2 := PySem.W.mg_of X G a2
      b2 := b2
      F3 := F3
      g3 := PySem.W.mg_of X G a3
      b3 := b3
      F4 := F4
      g4 := PySem.W.mg_of X G a4
      b4 := b4
      b_isinstance := PySem.W.mg_none_of X G z_isinstance
      b_len := PySem.W.mg_none_of X G z_len
      b_list := PySem.W.mg_none_of X G z_list
      b_range := PySem.W.mg_none_of X G z_range
      b_tuple := PySem.W.mg_none_of X G z_tuple }
  exact ⟨_, fun s v => .of_eq rfl, fun base _ _ => ((ih_all T (3 * k)).f4).ok (Nat.le_refl _)⟩
end K02
open PySem PySem.W PyProof.Rows
set_option maxRecDepth 100000 in
set_option maxHeartbeats 0 in
theorem PySem.Challenge.cw_callsmith_k02_trees_within_holds : PySem.Challenge.rw_callsmith_k02_trees_within.Holds := by
  w_on; o_law; k_head; (case hw => w_witness2)
  k_fill
  refine L2.walk_of (l := PySem.Challenge.rw_callsmith_k02_trees_within) (n := 63) (k := K02.depth) (x := "_law_script") (CX := fun w => L2.CX PySem.Challenge.rw_callsmith_k02_trees_within.prog w) (sp := ?sp) rfl (by decide) rfl ⟨rfl, by decide, by decide⟩ (fun w h Y => PySem.W.kIn_of Y) ?F ?S ?X
  case F =>
    intro w mg fa h KX G hmg
    refine' K02.all_mk KX G hmg ?a0 ?l0 ?c0 ?k0 ?a1 ?l1 ?c1 ?k1 ?a2 ?l2 ?c2 ?k2 ?a3 ?l3 ?c3 ?k3 ?a4 ?l4 ?c4 ?k4 ?z_isinstance ?z_len ?z_list ?z_range ?z_tuple K02.depth K02.loops
    (case a0 => k_is)
    (case l0 => k_is)
    (case c0 => k_is)
    (case k0 => k_is)
    (case a1 => k_is)
    (case l1 => k_is)
    (case c1 => k_is)
    (case k1 => k_is)
    (case a2 => k_is)
    (case l2 => k_is)
    (case c2 => k_is)
    (case k2 => k_is)
    (case a3 => k_is)
    (case l3 => k_is)
    (case c3 => k_is)
    (case k3 => k_is)
    (case a4 => k_is)
    (case l4 => k_is)
    (case c4 => k_is)
    (case k4 => k_is)
    (case z_isinstance => k_is)
    (case z_len => k_is)
    (case z_list => k_is)
    (case z_range => k_is)
    (case z_tuple => k_is)
  case S =>
    intro w H a ns hl _ hs
    exact PVL.law_sp hs (K02.law_true ns hl)
  case X =>
    intro w H s e s' h
    obtain ⟨_, _, _, _, _, _, _, _, _, _, _, _, z⟩ := h
    exact z
end
