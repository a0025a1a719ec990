import PyProof.Rows.All
import Wide.All
import OpenK.AllK
import Wide.FinOn
import HandS.ForMost
import HandS.ForExc
import HandS.TryMany
import HandS.Deep
import HandS.Wide
import HandS.Evl
import HandS.IsInst
import HandS.FStr
import HandS.Dict
import HandS.DictComp
import HandS.Star
import HandS.ListItems
import HandS.Conv
import HandS.More
import HandS.WordsDict
import HandS.Codes
import HandS.ExcIs
import HandS.TryOnly
import HandS.RaiseMore
import HandS.ExcCtx
import HandS.HotCalls
import HandS.Flt
import HandS.Rev
import HandS.Strs
import HandS.Zip
import KE.DataMinMax
import HandS.SortKw
import HandS.Style
import HandS.Comp
import PySem.Challenge.RW_callsmith_k05_rows_made
section
set_option Elab.async false
set_option linter.all false
set_option maxRecDepth 100000
set_option maxHeartbeats 2000000
/-! # Values without a heap: what a def of the text computes, told by a small language of our own -/
namespace PVL
open PySem L2

/-- a cell of the shared store: a list, a dict, an instance; one that has become a value -/
inductive Cell where
  | lst (l : List PyData)
  | dct (l : List (PyData × PyData))
  | ins (c : Nat) (fs : List (Nat × PyData))
  | dead
abbrev Store := List Cell
/-- a slot of a frame: not known, a value, a list or a dict that this frame alone holds -/
inductive SV where
  | un
  | pv (d : PyData)
  | ow (l : List PyData)
  | od (l : List (PyData × PyData))
def SV.own : SV → Bool
  | .ow _ => true
  | .od _ => true
  | _ => false
abbrev loc (n : Nat) : PyData := .dict [(.int n, .none)]
/-- a dict as a value; an instance as a value -/
abbrev dD (l : List (PyData × PyData)) : PyData := .dict ((.none, .bool false) :: l)
abbrev dI (c : Nat) (l : List (PyData × PyData)) : PyData := .dict ((.none, .int c) :: l)
/-! names of fields and methods, of classes: by numbers -/
def fnames : List Str := ["rows", "starts", "start", "fuel", "made", "at", "stack", "going", "functions", "name", "numbers", "finish", "call", "step", "later", "settle", "settle_choose", "settle_let"]
def fnm (i : Nat) : Str := fnames.getD i Str.empty
def cnames : List Str := ["SmithError", "NameTwice", "NoSuchName", "NoSuchFunction", "WrongCount", "TooTall", "ByNought", "TooGreat", "TooDeep", "Dry", "Machine", "Code", "Telling"]
def cnm (i : Nat) : Str := cnames.getD i Str.empty
/-- where the text's class stands -/
def clK (K : PySem.W.Frag) (c : Nat) : Addr := match PySem.W.nsIn K mainGlobals (cnm c) with
  | some (some (.ref C)) => C
  | _ => 0
def fieldsOf : Nat → List Nat
  | 10 => [0, 2, 3, 4, 5, 6, 7]
  | 11 => [0, 1]
  | 12 => [8, 9, 3, 4, 10, 7]
  | _ => []
theorem fields_lt : ∀ c f, f ∈ fieldsOf c → f < 18 := by
  intro c f h
  unfold fieldsOf at h
  split at h <;> simp at h <;> omega
structure InsOk (K : PySem.W.Frag) (c : Nat) : Prop where
  cls : Cls K (clK K c)
  no : ∀ f ∈ fieldsOf c, NoAttr K (clK K c) (fnm f)
theorem fnm_all : ∀ i < 18, ∀ j < 18, fnm i = fnm j → i = j := by decide +kernel
theorem fnm_inj {i j : Nat} (hi : i < 18) (hj : j < 18) (h : fnm i = fnm j) : i = j := fnm_all i hi j hj h
def keyD : Key → PyData
  | .inl i => .int i
  | .inr x => .str x

/-! ## what a value of the layer stands for -/
mutual
inductive Rep (K : PySem.W.Frag) (F : Hp) (ι : List Addr) : V → PyData → Prop
  | non : Rep K F ι .non .none
  | bl (b : Bool) : Rep K F ι (.bl b) (.bool b)
  | int (i : Int) : Rep K F ι (.int i) (.int i)
  | str (x : Str) : Rep K F ι (.str x) (.str x)
  | lst {a : Addr} {xs : List V} {ds : List PyData} : SqL K F a xs → RepL K F ι xs ds → Rep K F ι (.ref a) (.list ds)
  | tup {a : Addr} {xs : List V} {ds : List PyData} : SqT K F a xs → RepL K F ι xs ds → Rep K F ι (.ref a) (.tuple ds)
  | loc {a : Addr} {n : Nat} : ι[n]? = some a → Rep K F ι (.ref a) (.dict [(.int n, .none)])
  | dct {a : Addr} {kvs : List (Key × V)} {l : List (PyData × PyData)} : F a = some (.dK kvs) → kvs.map (fun p => keyD p.1) = l.map (·.1) → RepL K F ι (kvs.map (·.2)) (l.map (·.2)) → Rep K F ι (.ref a) (.dict ((.none, .bool false) :: l))
  | ins {a dx : Addr} {c : Nat} {fl : List (Str × V)} {ids : List Nat} {l : List (PyData × PyData)} : InsOk K c → F a = some (.ins (clK K c) dx fl) → (∀ i ∈ ids, i ∈ fieldsOf c) → fl.map (·.1) = ids.map fnm → l.map (·.1) = ids.map (fun (i : Nat) => PyData.int i) →
      RepL K F ι (fl.map (·.2)) (l.map (·.2)) → Rep K F ι (.ref a) (.dict ((.none, .int c) :: l))
inductive RepL (K : PySem.W.Frag) (F : Hp) (ι : List Addr) : List V → List PyData → Prop
  | nil : RepL K F ι [] []
  | cons {v : V} {vs : List V} {d : PyData} {ds : List PyData} : Rep K F ι v d → RepL K F ι vs ds → RepL K F ι (v :: vs) (d :: ds)
end
abbrev Sub (F H : Hp) : Prop := Evl.Ex F H
theorem Sub.rfl' {F : Hp} : Sub F F := fun _ _ h => h
theorem pre_get {ι ι' : List Addr} (p : ι <+: ι') {n : Nat} {a : Addr} (h : ι[n]? = some a) : ι'[n]? = some a := by
  obtain ⟨t, rfl⟩ := p
  obtain ⟨hn, _⟩ := List.getElem?_eq_some_iff.mp h
  rw [List.getElem?_append_left hn]
  exact h
section
variable {K : PySem.W.Frag} {F F' : Hp} {ι ι' : List Addr}
theorem mono_both (e : Sub F F') (p : ι <+: ι') : (∀ v d, Rep K F ι v d → Rep K F' ι' v d) ∧ ∀ vs ds, RepL K F ι vs ds → RepL K F' ι' vs ds := by
  refine ⟨fun v d h => Rep.rec (motive_1 := fun v d _ => Rep K F' ι' v d) (motive_2 := fun vs ds _ => RepL K F' ι' vs ds) .non (fun b => .bl b) (fun i => .int i) (fun x => .str x)
      (fun hs _ ih => .lst (Evl.ex_l e hs) ih) (fun hs _ ih => .tup (Evl.ex_t e hs) ih) (fun hn => .loc (pre_get p hn)) (fun ha hk _ ih => .dct (e _ _ ha) hk ih) (fun io ha hi hn hk _ ih => .ins io (e _ _ ha) hi hn hk ih) .nil (fun _ _ h1 h2 => .cons h1 h2) h,
    fun vs ds h => RepL.rec (motive_1 := fun v d _ => Rep K F' ι' v d) (motive_2 := fun vs ds _ => RepL K F' ι' vs ds) .non (fun b => .bl b) (fun i => .int i) (fun x => .str x)
      (fun hs _ ih => .lst (Evl.ex_l e hs) ih) (fun hs _ ih => .tup (Evl.ex_t e hs) ih) (fun hn => .loc (pre_get p hn)) (fun ha hk _ ih => .dct (e _ _ ha) hk ih) (fun io ha hi hn hk _ ih => .ins io (e _ _ ha) hi hn hk ih) .nil (fun _ _ h1 h2 => .cons h1 h2) h⟩
theorem Rep.mono (e : Sub F F') (p : ι <+: ι') (d : PyData) (v : V) (h : Rep K F ι v d) : Rep K F' ι' v d := (mono_both e p).1 v d h
theorem RepL.mono (e : Sub F F') (p : ι <+: ι') (ds : List PyData) (vs : List V) (h : RepL K F ι vs ds) : RepL K F' ι' vs ds := (mono_both e p).2 vs ds h
mutual
theorem Rep.dp : ∀ (d : PyData) (v : V), d.canLay0 = true → Rep K F ι v d → Dp K F v d
  | .none, _, _, h => by cases h; exact .non
  | .bool _, _, _, h => by cases h; exact .bl _
  | .int _, _, _, h => by cases h; exact .int _
  | .str _, _, _, h => by cases h; exact .str _
  | .list ds, _, c, h => by
    cases h with
    | lst hs hl => exact .lst hs (RepL.dp ds _ (by simpa [PyData.canLay0] using c) hl)
  | .tuple ds, _, c, h => by
    cases h with
    | tup hs hl => exact .tup hs (RepL.dp ds _ (by simpa [PyData.canLay0] using c) hl)
  | .dict _, _, c, h => by simp [PyData.canLay0] at c
theorem RepL.dp : ∀ (ds : List PyData) (vs : List V), PyData.canLayAll0 ds = true → RepL K F ι vs ds → DpAll K F vs ds
  | [], _, _, h => by cases h; exact .nil
  | d :: ds, _, c, h => by
    cases h with
    | cons h1 h2 =>
      simp only [PyData.canLayAll0, Bool.and_eq_true] at c
      exact .cons (Rep.dp d _ c.1 h1) (RepL.dp ds _ c.2 h2)
end
mutual
theorem dp_mono (e : Sub F F') : ∀ (d : PyData) (v : V), Dp K F v d → Dp K F' v d
  | .none, _, h => by cases h; exact .non
  | .bool _, _, h => by cases h; exact .bl _
  | .int _, _, h => by cases h; exact .int _
  | .str _, _, h => by cases h; exact .str _
  | .list ds, _, h => by
    cases h with
    | lst hs hl => exact .lst (Evl.ex_l e hs) (dpAll_mono e ds _ hl)
  | .tuple ds, _, h => by
    cases h with
    | tup hs hl => exact .tup (Evl.ex_t e hs) (dpAll_mono e ds _ hl)
  | .dict _, _, h => by cases h
theorem dpAll_mono (e : Sub F F') : ∀ (ds : List PyData) (vs : List V), DpAll K F vs ds → DpAll K F' vs ds
  | [], _, h => by cases h; exact .nil
  | d :: ds, _, h => by
    cases h with
    | cons h1 h2 => exact .cons (dp_mono e d _ h1) (dpAll_mono e ds _ h2)
end
theorem RepL.length : ∀ {vs : List V} {ds : List PyData}, RepL K F ι vs ds → vs.length = ds.length
  | [], [], _ => rfl
  | _ :: _, _ :: _, h => by
    cases h with
    | cons _ h2 => simp [RepL.length h2]
  | [], _ :: _, h => by cases h
  | _ :: _, [], h => by cases h
theorem RepL.get : ∀ {vs : List V} {ds : List PyData} {i : Nat} {d : PyData}, RepL K F ι vs ds → ds[i]? = some d → ∃ v, vs[i]? = some v ∧ Rep K F ι v d
  | _ :: _, _ :: _, 0, d, h, e => by
    cases h with
    | cons h1 h2 =>
      simp at e
      subst e
      exact ⟨_, by simp, h1⟩
  | v :: vs, _ :: ds, i + 1, d, h, e => by
    cases h with
    | cons h1 h2 =>
      obtain ⟨u, a, b⟩ := RepL.get (i := i) (d := d) h2 (by simpa using e)
      exact ⟨u, by simpa using a, b⟩
  | [], [], _, _, _, e => by simp at e
  | [], _ :: _, _, _, h, _ => by cases h
  | _ :: _, [], _, _, h, _ => by cases h
theorem RepL.append : ∀ {vs ws : List V} {ds es : List PyData}, RepL K F ι vs ds → RepL K F ι ws es → RepL K F ι (vs ++ ws) (ds ++ es)
  | [], _, [], _, _, h => h
  | _ :: _, _, _ :: _, _, h, h' => by
    cases h with
    | cons h1 h2 => exact .cons h1 (RepL.append h2 h')
  | [], _, _ :: _, _, h, _ => by cases h
  | _ :: _, _, [], _, h, _ => by cases h
theorem RepL.drop : ∀ {vs : List V} {ds : List PyData} (n : Nat), RepL K F ι vs ds → RepL K F ι (vs.drop n) (ds.drop n)
  | _, _, 0, h => h
  | [], [], _ + 1, h => h
  | _ :: _, _ :: _, n + 1, h => by
    cases h with
    | cons _ h2 => exact RepL.drop n h2
  | [], _ :: _, _ + 1, h => by cases h
  | _ :: _, [], _ + 1, h => by cases h
theorem RepL.take : ∀ {vs : List V} {ds : List PyData} (n : Nat), RepL K F ι vs ds → RepL K F ι (vs.take n) (ds.take n)
  | _, _, 0, h => .nil
  | [], [], _ + 1, h => h
  | _ :: _, _ :: _, n + 1, h => by
    cases h with
    | cons h1 h2 => exact .cons h1 (RepL.take n h2)
  | [], _ :: _, _ + 1, h => by cases h
  | _ :: _, [], _ + 1, h => by cases h
theorem RepL.set : ∀ {vs : List V} {ds : List PyData} {v : V} {d : PyData} (n : Nat), RepL K F ι vs ds → Rep K F ι v d → RepL K F ι (vs.set n v) (ds.set n d)
  | [], [], _, _, _, h, _ => h
  | _ :: _, _ :: _, _, _, 0, h, r => by
    cases h with
    | cons _ h2 => exact .cons r h2
  | _ :: _, _ :: _, _, _, n + 1, h, r => by
    cases h with
    | cons h1 h2 => exact .cons h1 (RepL.set n h2 r)
  | [], _ :: _, _, _, _, h, _ => by cases h
  | _ :: _, [], _, _, _, h, _ => by cases h
end

/-! ## worlds -/
/-- F: what never changes; ι: where the store's cells stand; μ: the store -/
structure Wd where
  F : Hp
  ι : List Addr
  μ : Store
/-- a dict's entries -/
def DL (K : PySem.W.Frag) (F : Hp) (ι : List Addr) (kvs : List (Key × V)) (l : List (PyData × PyData)) : Prop := kvs.map (fun p => keyD p.1) = l.map (·.1) ∧ RepL K F ι (kvs.map (·.2)) (l.map (·.2))
def CellAt (K : PySem.W.Frag) (F : Hp) (ι : List Addr) (H : Hp) (a : Addr) : Cell → Prop
  | .lst l => ∃ vs, H a = some (.lst vs) ∧ RepL K F ι vs l
  | .dct l => ∃ kvs, H a = some (.dK kvs) ∧ DL K F ι kvs l
  | .ins c fs => InsOk K c ∧ (∀ p ∈ fs, p.1 ∈ fieldsOf c) ∧ ∃ dx l, H a = some (.ins (clK K c) dx l) ∧ l.map (·.1) = fs.map (fun p => fnm p.1) ∧ RepL K F ι (l.map (·.2)) (fs.map (·.2))
  | .dead => H a ≠ none
structure WOk (K : PySem.W.Frag) (cl : Nat → Addr) (W : Wd) (H : Hp) : Prop where
  fh : Sub W.F H
  iu : W.ι.Nodup
  len : W.ι.length = W.μ.length
  cells : ∀ (n : Nat) (c : Cell) (a : Addr), W.μ[n]? = some c → W.ι[n]? = some a → CellAt K W.F W.ι H a c
  ap : ∀ (n : Nat) (c : Cell) (a : Addr), W.μ[n]? = some c → c ≠ .dead → W.ι[n]? = some a → W.F a = none
/-- from one state to a later one -/
structure Go (W : Wd) (H : Hp) (W' : Wd) (H' : Hp) : Prop where
  f : Sub W.F W'.F
  fn : ∀ b, H b ≠ none → W.F b = none → b ∉ W.ι → W'.F b = none
  i : W.ι <+: W'.ι
  inew : ∀ a, a ∈ W'.ι → H a ≠ none → a ∈ W.ι
  keep : ∀ b o, H b = some o → b ∉ W.ι → H' b = some o
  there : ∀ b, H b ≠ none → H' b ≠ none
theorem Go.refl (W : Wd) (H : Hp) : Go W H W H := ⟨fun _ _ h => h, fun _ _ h _ => h, List.prefix_refl _, fun _ h _ => h, fun _ _ h _ => h, fun _ h => h⟩
theorem Go.trans {W W1 W2 : Wd} {H H1 H2 : Hp} (a : Go W H W1 H1) (b : Go W1 H1 W2 H2) : Go W H W2 H2 where
  f := Evl.Ex.trans a.f b.f
  fn := fun c h n m => b.fn c (a.there c h) (a.fn c h n m) (fun z => m (a.inew c z h))
  i := a.i.trans b.i
  inew := fun c m h => a.inew c (b.inew c m (a.there c h)) h
  keep := fun c o h m => b.keep c o (a.keep c o h m) (fun z => m (a.inew c z (by rw [h]; simp)))
  there := fun c h => b.there c (a.there c h)
theorem Go.rep {K : PySem.W.Frag} {W W' : Wd} {H H' : Hp} {v : V} {d : PyData} (g : Go W H W' H') (r : Rep K W.F W.ι v d) : Rep K W'.F W'.ι v d := Rep.mono g.f g.i d v r
theorem Go.repL {K : PySem.W.Frag} {W W' : Wd} {H H' : Hp} {v : List V} {d : List PyData} (g : Go W H W' H') (r : RepL K W.F W.ι v d) : RepL K W'.F W'.ι v d := RepL.mono g.f g.i d v r

/-! ## frames -/
def SlotAt (K : PySem.W.Frag) (H0 : Hp) (W : Wd) (H : Hp) (o : Option (Option V)) : SV → Prop
  | .un => True
  | .pv d => ∃ v, o = some (some v) ∧ Rep K W.F W.ι v d
  | .ow l => ∃ a vs, o = some (some (.ref a)) ∧ H0 a = none ∧ W.F a = none ∧ a ∉ W.ι ∧ H a = some (.lst vs) ∧ RepL K W.F W.ι vs l
  | .od l => ∃ a kvs, o = some (some (.ref a)) ∧ H0 a = none ∧ W.F a = none ∧ a ∉ W.ι ∧ H a = some (.dK kvs) ∧ DL K W.F W.ι kvs l
structure EnvOk (K : PySem.W.Frag) (H0 : Hp) (W : Wd) (H : Hp) (env : List SV) (σ : L2.St) : Prop where
  len : σ.length = env.length
  slots : ∀ (i : Nat) (s : SV), env[i]? = some s → SlotAt K H0 W H σ[i]? s
  apart : ∀ (i j : Nat) (s s' : SV), i ≠ j → env[i]? = some s → env[j]? = some s' → s.own = true → s'.own = true → σ[i]? ≠ σ[j]?
theorem SlotAt.go {K : PySem.W.Frag} {H0 H H' : Hp} {W W' : Wd} {o : Option (Option V)} (g : Go W H W' H') : ∀ {s : SV}, SlotAt K H0 W H o s → SlotAt K H0 W' H' o s
  | .un, _ => trivial
  | .pv d, ⟨v, e, r⟩ => ⟨v, e, g.rep r⟩
  | .ow l, ⟨a, vs, e, h0, hf, hi, hh, r⟩ => ⟨a, vs, e, h0, g.fn a (by rw [hh]; simp) hf hi, fun z => hi (g.inew a z (by rw [hh]; simp)), g.keep a _ hh hi, g.repL r⟩
  | .od l, ⟨a, vs, e, h0, hf, hi, hh, r⟩ => ⟨a, vs, e, h0, g.fn a (by rw [hh]; simp) hf hi, fun z => hi (g.inew a z (by rw [hh]; simp)), g.keep a _ hh hi, r.1, g.repL r.2⟩
theorem EnvOk.go {K : PySem.W.Frag} {H0 H H' : Hp} {W W' : Wd} {env : List SV} {σ : L2.St} (g : Go W H W' H') (h : EnvOk K H0 W H env σ) : EnvOk K H0 W' H' env σ :=
  ⟨h.len, fun i s e => (h.slots i s e).go g, h.apart⟩
end PVL
end

section
set_option Elab.async false
set_option linter.all false
set_option maxRecDepth 100000
set_option maxHeartbeats 2000000
namespace PVL
open PySem PySem.Spec PyProof.Rows L2

/-! ## operations on values -/
inductive BOp where | add | sub | mul | fdiv | mod | pow
inductive COp where | eq | ne | lt | le | gt | ge | isin | notin
def big : Int := 18446744073709551616
def lim : Nat := 1000000
theorem lim_le {n : Nat} (h : n ≤ lim) : n ≤ sizeLine := Nat.le_trans h (by rw [sizeLine_eq]; decide)
def binP : BOp → PyData → PyData → Option PyData
  | .add, .int i, .int j => some (.int (i + j))
  | .add, .str x, .str y => if x.length + y.length ≤ lim then some (.str (x ++ y)) else none
  | .add, .list x, .list y => if x.length + y.length ≤ lim then some (.list (x ++ y)) else none
  | .add, .tuple (a :: x), .tuple y => if x.length + 1 + y.length ≤ lim then some (.tuple (a :: x ++ y)) else none
  | .sub, .int i, .int j => some (.int (i - j))
  | .mul, .int i, .int j => if (-big < i ∧ i < big) ∨ (-big < j ∧ j < big) then some (.int (i * j)) else none
  | .fdiv, .int i, .int j => if 0 < j ∧ j < big then some (.int (i / j)) else if j < 0 ∧ -big < j then some (.int (i.fdiv j)) else none
  | .mod, .int i, .int j => if 0 < j then some (.int (i % j)) else none
  | .pow, .int i, .int j => if 0 ≤ j ∧ j ≤ 64 ∧ i.natAbs < 1000 then some (.int (i ^ j.toNat)) else none
  | _, _, _ => none
def eqP : PyData → PyData → Option Bool
  | .int i, .int j => some (i == j)
  | .str x, .str y => some (x == y)
  | .int _, .str _ => some false
  | .str _, .int _ => some false
  | .none, .none => some true
  | .none, .int _ => some false
  | .int _, .none => some false
  | .none, .str _ => some false
  | .str _, .none => some false
  | .none, .bool _ => some false
  | .bool _, .none => some false
  | .bool a, .bool b => some (a == b)
  | .bool _, .str _ => some false
  | .str _, .bool _ => some false
  | d, e => if SeqAt.shaped d && SeqAt.shaped e then some (PyData.eqv d e) else none
def flatD : PyData → Bool
  | .str _ => true
  | .int _ => true
  | _ => false
def eqFD : PyData → PyData → Bool
  | .str x, .str y => x == y
  | .int x, .int y => x == y
  | _, _ => false
def cmpP : COp → PyData → PyData → Option PyData
  | .eq, d, e => (eqP d e).map .bool
  | .ne, d, e => (eqP d e).map fun b => .bool (!b)
  | .lt, .int i, .int j => some (.bool (decide (i < j)))
  | .le, .int i, .int j => some (.bool (decide (i ≤ j)))
  | .gt, .int i, .int j => some (.bool (decide (j < i)))
  | .ge, .int i, .int j => some (.bool (decide (j ≤ i)))
  | .isin, d, .tuple ds => if flatD d && ds.all flatD then some (.bool (ds.any fun z => eqFD z d)) else none
  | .notin, d, .tuple ds => if flatD d && ds.all flatD then some (.bool (!ds.any fun z => eqFD z d)) else none
  | .isin, d, .list ds => if SeqAt.shaped d && SeqAt.shaped (.list ds) then some (.bool (ds.any fun z => PyData.eqv z d)) else none
  | .notin, d, .list ds => if SeqAt.shaped d && SeqAt.shaped (.list ds) then some (.bool (!ds.any fun z => PyData.eqv z d)) else none
  | _, _, _ => none

section
variable {K : PySem.W.Frag} {cl : Nat → Addr}
/-- a value that may be a frame's own list or dict -/
def RepB (K : PySem.W.Frag) (W : Wd) (H : Hp) (v : V) (d : PyData) : Prop :=
  Rep K W.F W.ι v d ∨ (∃ a vs l, v = .ref a ∧ d = .list l ∧ a ∉ W.ι ∧ H a = some (.lst vs) ∧ RepL K W.F W.ι vs l) ∨
    ∃ a kvs l, v = .ref a ∧ d = dD l ∧ a ∉ W.ι ∧ H a = some (.dK kvs) ∧ DL K W.F W.ι kvs l
theorem DL.go {W W' : Wd} {H H' : Hp} {kvs : List (Key × V)} {l : List (PyData × PyData)} (g : Go W H W' H') (h : DL K W.F W.ι kvs l) : DL K W'.F W'.ι kvs l := ⟨h.1, g.repL h.2⟩
theorem RepB.go {W W' : Wd} {H H' : Hp} {v : V} {d : PyData} (g : Go W H W' H') : RepB K W H v d → RepB K W' H' v d
  | .inl r => .inl (g.rep r)
  | .inr (.inl ⟨a, vs, l, e1, e2, h1, h2, r⟩) => .inr (.inl ⟨a, vs, l, e1, e2, fun z => h1 (g.inew a z (by rw [h2]; simp)), g.keep a _ h2 h1, g.repL r⟩)
  | .inr (.inr ⟨a, vs, l, e1, e2, h1, h2, r⟩) => .inr (.inr ⟨a, vs, l, e1, e2, fun z => h1 (g.inew a z (by rw [h2]; simp)), g.keep a _ h2 h1, r.go g⟩)
variable {W : Wd} {H : Hp} {v : V}
theorem RepB.int (h : RepB K W H v (.int i)) : v = .int i := by
  rcases h with h | ⟨_, _, _, _, e, _⟩ | ⟨_, _, _, _, e, _⟩
  · cases h; rfl
  · cases e
  · cases e
theorem RepB.str (h : RepB K W H v (.str i)) : v = .str i := by
  rcases h with h | ⟨_, _, _, _, e, _⟩ | ⟨_, _, _, _, e, _⟩
  · cases h; rfl
  · cases e
  · cases e
theorem RepB.bl (h : RepB K W H v (.bool i)) : v = .bl i := by
  rcases h with h | ⟨_, _, _, _, e, _⟩ | ⟨_, _, _, _, e, _⟩
  · cases h; rfl
  · cases e
  · cases e
theorem RepB.non (h : RepB K W H v .none) : v = .non := by
  rcases h with h | ⟨_, _, _, _, e, _⟩ | ⟨_, _, _, _, e, _⟩
  · cases h; rfl
  · cases e
  · cases e
theorem RepB.lst {ds : List PyData} (ok : WOk K cl W H) (h : RepB K W H v (.list ds)) : ∃ a vs, v = .ref a ∧ SqL K H a vs ∧ RepL K W.F W.ι vs ds := by
  rcases h with h | ⟨a, vs, l, e1, e2, _, h2, r⟩ | ⟨_, _, _, _, e, _⟩
  · cases h with
    | lst hs hl => exact ⟨_, _, rfl, Evl.ex_l ok.fh hs, hl⟩
  · cases e2
    exact ⟨a, vs, e1, SqL.of h2, r⟩
  · cases e
theorem RepB.repTup {ds : List PyData} (h : RepB K W H v (.tuple ds)) : Rep K W.F W.ι v (.tuple ds) := by
  rcases h with h | ⟨_, _, _, _, e, _⟩ | ⟨_, _, _, _, e, _⟩
  · exact h
  · cases e
  · cases e
theorem RepB.tup {ds : List PyData} (ok : WOk K cl W H) (h : RepB K W H v (.tuple ds)) : ∃ a vs, v = .ref a ∧ SqT K H a vs ∧ RepL K W.F W.ι vs ds := by
  cases h.repTup with
  | tup hs hl => exact ⟨_, _, rfl, Evl.ex_t ok.fh hs, hl⟩
/-- a dict that is a value or the frame's own -/
theorem RepB.dct {l : List (PyData × PyData)} (ok : WOk K cl W H) (h : RepB K W H v (dD l)) : ∃ a kvs, v = .ref a ∧ H a = some (.dK kvs) ∧ DL K W.F W.ι kvs l := by
  rcases h with h | ⟨_, _, _, _, e, _⟩ | ⟨a, kvs, l', e1, e2, _, h2, r⟩
  · cases h with
    | dct ha hk hl => exact ⟨_, _, rfl, ok.fh _ _ ha, hk, hl⟩
  · cases e
  · cases e2
    exact ⟨a, kvs, e1, h2, r⟩
theorem RepB.loc {n : Nat} (h : RepB K W H v (loc n)) : ∃ a, v = .ref a ∧ W.ι[n]? = some a := by
  rcases h with h | ⟨_, _, _, _, e, _⟩ | ⟨a, kvs, l', e1, e2, _, h2, r⟩
  · cases h with
    | loc h => exact ⟨_, rfl, h⟩
  · cases e
  · cases e2
theorem RepB.dp {d : PyData} (ok : WOk K cl W H) (c : d.canLay0 = true) (h : RepB K W H v d) : Dp K H v d := by
  rcases h with h | ⟨a, vs, l, e1, e2, _, h2, r⟩ | ⟨a, kvs, l', e1, e2, _, h2, r⟩
  · exact dp_mono ok.fh d v (Rep.dp d v c h)
  · subst e1 e2
    exact .lst (SqL.of h2) (dpAll_mono ok.fh _ _ (RepL.dp _ _ (by simpa [PyData.canLay0] using c) r))
  · subst e2
    simp [PyData.canLay0] at c
end

/-- the end of an operation: the store stays, a value comes -/
def PostB (K : PySem.W.Frag) (cl : Nat → Addr) (W : Wd) (H : Hp) (d : PyData) (Q : VK) : Prop :=
  ∀ v W' H', W'.μ = W.μ → WOk K cl W' H' → Go W H W' H' → Rep K W'.F W'.ι v d → Q v H'
/-- a new list -/
def PostN (K : PySem.W.Frag) (cl : Nat → Addr) (W : Wd) (H : Hp) (l : List PyData) (Q : VK) : Prop :=
  ∀ p vs H', WOk K cl W H' → Go W H W H' → H p = none → W.F p = none → p ∉ W.ι → H' p = some (.lst vs) → RepL K W.F W.ι vs l → Q (.ref p) H'

section
variable {K : PySem.W.Frag} {cl : Nat → Addr} {W : Wd} {H : Hp}
theorem CellAt.upd {F : Hp} {ι : List Addr} {a p : Addr} {o : HO} {c : Cell} (hp : H p = none) (h : CellAt K F ι H a c) : CellAt K F ι (upd H p o) a c := by
  cases c with
  | lst l =>
    obtain ⟨vs, e, r⟩ := h
    exact ⟨vs, by rw [upd_ne (ne_of_none e hp)]; exact e, r⟩
  | dct l =>
    obtain ⟨kvs, e, r⟩ := h
    exact ⟨kvs, by rw [upd_ne (ne_of_none e hp)]; exact e, r⟩
  | ins c fs =>
    obtain ⟨io, hf, dx, l, e, r⟩ := h
    exact ⟨io, hf, dx, l, by rw [upd_ne (ne_of_none e hp)]; exact e, r⟩
  | dead =>
    have n : a ≠ p := fun z => by subst z; exact h hp
    show L2.upd H p o a ≠ none
    rw [upd_ne n]
    exact h
theorem CellAt.there {F : Hp} {ι : List Addr} {a : Addr} {c : Cell} (h : CellAt K F ι H a c) : H a ≠ none := by
  cases c with
  | lst l => obtain ⟨vs, e, r⟩ := h; rw [e]; simp
  | dct l => obtain ⟨vs, e, r⟩ := h; rw [e]; simp
  | ins c fs => obtain ⟨_, _, dx, l, e, r⟩ := h; rw [e]; simp
  | dead => exact h
theorem WOk.there (ok : WOk K cl W H) {a : Addr} (h : a ∈ W.ι) : H a ≠ none := by
  obtain ⟨n, hn, e⟩ := List.getElem_of_mem h
  have h2 : n < W.μ.length := by rw [← ok.len]; exact hn
  exact (ok.cells n W.μ[n] a (by simp [h2]) (by rw [List.getElem?_eq_getElem hn, e])).there
theorem WOk.fnone (ok : WOk K cl W H) {p : Addr} (hp : H p = none) : W.F p = none := by
  cases e : W.F p with
  | none => rfl
  | some o => rw [ok.fh p o e] at hp; cases hp
theorem WOk.notIn (ok : WOk K cl W H) {p : Addr} (hp : H p = none) : p ∉ W.ι := fun h => ok.there h hp
/-- a new object, not told of -/
theorem WOk.new (ok : WOk K cl W H) {p : Addr} {o : HO} (hp : H p = none) : WOk K cl W (upd H p o) :=
  ⟨fun b u e => by rw [upd_ne (ne_of_none (ok.fh b u e) hp)]; exact ok.fh b u e, ok.iu, ok.len, fun n c a e1 e2 => (ok.cells n c a e1 e2).upd hp, ok.ap⟩
theorem Go.new {p : Addr} {o : HO} (hp : H p = none) : Go W H W (upd H p o) :=
  ⟨fun _ _ h => h, fun _ _ h _ => h, List.prefix_refl _, fun _ h _ => h, fun b u e _ => by rw [upd_ne (ne_of_none e hp)]; exact e, fun b h => by
    cases e : H b with
    | none => exact absurd e h
    | some u => rw [upd_ne (ne_of_none e hp), e]; simp⟩
theorem CellAt.sub {F F' : Hp} {ι ι' : List Addr} {a : Addr} {c : Cell} (s : Sub F F') (p : ι <+: ι') (h : CellAt K F ι H a c) : CellAt K F' ι' H a c := by
  cases c with
  | lst l =>
    obtain ⟨vs, e, r⟩ := h
    exact ⟨vs, e, RepL.mono s p _ _ r⟩
  | dct l =>
    obtain ⟨kvs, e, e2, r⟩ := h
    exact ⟨kvs, e, e2, RepL.mono s p _ _ r⟩
  | ins c fs =>
    obtain ⟨io, hf, dx, l, e, e2, r⟩ := h
    exact ⟨io, hf, dx, l, e, e2, RepL.mono s p _ _ r⟩
  | dead => exact h
/-- an object of the heap, not a cell, is told never to change -/
abbrev Wd.fix (W : Wd) (p : Addr) (o : HO) : Wd := ⟨L2.upd W.F p o, W.ι, W.μ⟩
theorem sub_fix {p : Addr} {o : HO} (hF : W.F p = none) : Sub W.F (upd W.F p o) := fun b u e => by
  rw [upd_ne (ne_of_none e hF)]
  exact e
theorem WOk.fix (ok : WOk K cl W H) {p : Addr} {o : HO} (hF : W.F p = none) (hi : p ∉ W.ι) (hp : H p = some o) : WOk K cl (W.fix p o) H :=
  ⟨fun b u e => by
    by_cases hb : b = p
    · subst hb
      have e' : some o = some u := by rw [← upd_same (H := W.F) (a := b) (o := o)]; exact e
      rw [hp]; exact e'
    · have e' : W.F b = some u := by rw [← upd_ne (H := W.F) (a := p) (o := o) hb]; exact e
      exact ok.fh b u e', ok.iu, ok.len, fun n c a e1 e2 => (ok.cells n c a e1 e2).sub (sub_fix hF) (List.prefix_refl _), fun n c a e1 hc e2 => by
    show upd W.F p o a = none
    have ne : a ≠ p := fun z => hi (by rw [← z]; exact List.mem_of_getElem? e2)
    rw [upd_ne ne]
    exact ok.ap n c a e1 hc e2⟩
theorem Go.fix {H0 : Hp} {W0 : Wd} {p : Addr} {o : HO} (g : Go W0 H0 W H) (hF : W.F p = none) (h0 : H0 p = none) : Go W0 H0 (W.fix p o) H :=
  ⟨fun b u e => sub_fix hF b u (g.f b u e), fun b hb n hn => by
    show upd W.F p o b = none
    have : b ≠ p := fun z => by subst z; exact hb h0
    rw [upd_ne this]
    exact g.fn b hb n hn, g.i, g.inew, g.keep, g.there⟩
/-- a new list as a value -/
theorem PostB.toN {l : List PyData} {Q : VK} (h : PostB K cl W H (.list l) Q) : PostN K cl W H l Q := fun p vs H' ok g hp hF hi e r => by
  refine h (.ref p) (W.fix p (.lst vs)) H' rfl (ok.fix hF hi e) (g.fix hF hp) ?_
  exact .lst (SqL.of (show upd W.F p (.lst vs) p = _ from upd_same)) (RepL.mono (sub_fix hF) (List.prefix_refl _) _ _ r)
theorem PostB.tup {l : List PyData} {vs : List V} {Q : VK} (ok : WOk K cl W H) (r : RepL K W.F W.ι vs l) (h : PostB K cl W H (.tuple l) Q) (p : Addr) (hp : H p = none) : Q (.ref p) (upd H p (.tup vs)) := by
  have hF := ok.fnone hp
  have hi := ok.notIn hp
  refine h (.ref p) (W.fix p (.tup vs)) (upd H p (.tup vs)) rfl ((ok.new hp).fix hF hi upd_same) ((Go.new hp).fix hF hp) ?_
  exact .tup (SqT.of (show upd W.F p (.tup vs) p = _ from upd_same)) (RepL.mono (sub_fix hF) (List.prefix_refl _) _ _ r)
theorem PostN.mk {l : List PyData} {vs : List V} {Q : VK} (ok : WOk K cl W H) (r : RepL K W.F W.ι vs l) (h : PostN K cl W H l Q) (p : Addr) (hp : H p = none) : Q (.ref p) (upd H p (.lst vs)) :=
  h p vs _ (ok.new hp) (Go.new hp) hp (ok.fnone hp) (ok.notIn hp) upd_same r
theorem PostB.here {d : PyData} {v : V} {Q : VK} (ok : WOk K cl W H) (r : Rep K W.F W.ι v d) (h : PostB K cl W H d Q) : Q v H := h v W H rfl ok (Go.refl _ _) r
end

/-! ## the rules' sums -/
def rCatL (K : PySem.W.Frag) : R2 := fun x y H Q => ∃ l b xs zs, x = .ref l ∧ y = .ref b ∧ SqL K H l xs ∧ SqL K H b zs ∧ xs.length + zs.length ≤ sizeLine ∧ ∀ p, H p = none → Q (.ref p) (upd H p (.lst (xs ++ zs)))
section
variable {X : Cx}
theorem op_catL : OpR X (binaryOp .Add) (rCatL X.K) := by
  intro pins s σ H x y v u Q I rx ry h
  obtain ⟨l, b, xs, zs, rfl, rfl, hH, hB, hz, q⟩ := h
  cases rx
  cases ry
  obtain ⟨its, r, ⟨⟨c1, d1, dt1, s1⟩, n, e, hc, hd, hdt⟩, _⟩ := I.list hH
  obtain ⟨its2, r2, ⟨⟨c2, d2, dt2, s2⟩, n2, e2, hc2, hd2, hdt2⟩, _⟩ := I.list hB
  simp only at hc hdt hc2 hdt2
  subst hc hdt hc2 hdt2
  have hl := r.length
  have hl2 := r2.length
  have ea : its.toArray ++ its2.toArray = (its ++ its2).toArray := by simp
  refine concat_meets ⟨_, e, rfl⟩ ⟨_, e2, rfl⟩ noFill_list_add seq_list_add PySem.F.slot_list_add PySem.F.entry_list_add (PySem.F.args_list_add_2 _ _)
    (list_addW l b its.toArray its2.toArray n n2 d1 d2 s1 s2 (by simp only [List.size_toArray]; omega)) ⟨e, e2, ?_⟩
  rw [ea]
  exact ⟨.ref _, _, I.lnew (t' := s.toks) (r.append r2) (by rw [List.length_append]; omega), rfl, q _ I.fresh⟩
def CDivZ (_ j : Int) : Prop := j ≠ 0 ∧ -big < j ∧ j < big
theorem op_fdivZ : OpR X (binaryOp .FloorDiv) (rI CDivZ fun i j => .int (i.fdiv j)) := opI fun _ j _ _ _ _ _ hc q => by
  refine floordiv_int hc.1 q (.inl (PyProof.noPylong_of_log2 ?_))
  have h1 := hc.2.1
  have h2 := hc.2.2
  have hb : big = 2 ^ 64 := by decide
  rw [hb] at h1 h2
  have : j.natAbs < 2 ^ 64 := by omega
  exact Nat.lt_trans (PySem.Flt.log2_lt_of (by decide) this) (by decide)
def rAddG (K : PySem.W.Frag) : R2 := fun x y H Q => (∃ i j, x = .int i ∧ y = .int j ∧ Q (.int (i + j)) H) ∨
  (∃ i j, x = .str i ∧ y = .str j ∧ i.length + j.length ≤ sizeLine ∧ Q (.str (i ++ j)) H) ∨ rCatL K x y H Q ∨ rCatT K x y H Q
theorem op_addG : OpR X (binaryOp .Add) (rAddG X.K) := op_add.or (op_add_str.or (op_catL.or op_catT))
def rBin (K : PySem.W.Frag) : BOp → R2
  | .add => rAddG K
  | .sub => rI0 fun i j => .int (i - j)
  | .mul => rI CMul fun i j => .int (i * j)
  | .fdiv => rI CDivZ fun i j => .int (i.fdiv j)
  | .mod => rI (fun _ j => 0 < j) fun i j => .int (i % j)
  | .pow => rI CPow fun i j => .int (i ^ j.toNat)
def bop : BOp → Operator
  | .add => .Add
  | .sub => .Sub
  | .mul => .Mult
  | .fdiv => .FloorDiv
  | .mod => .Mod
  | .pow => .Pow
theorem op_bin : ∀ o : BOp, OpR X (binaryOp (bop o)) (rBin X.K o)
  | .add => op_addG
  | .sub => op_sub
  | .mul => op_mul
  | .fdiv => op_fdivZ
  | .mod => op_mod
  | .pow => op_pow
def rEqG (K : PySem.W.Frag) : R2 := fun x y H Q => rEq x y H Q ∨ rEqD K x y H Q
def rNeG (K : PySem.W.Frag) : R2 := fun x y H Q => rNe x y H Q ∨ rNeD K x y H Q
def rCmp (K : PySem.W.Frag) : COp → R2
  | .eq => rEqG K
  | .ne => rNeG K
  | .lt => rI0 fun i j => .bl (decide (i < j))
  | .le => rI0 fun i j => .bl (decide (i ≤ j))
  | .gt => rI0 fun i j => .bl (decide (j < i))
  | .ge => rI0 fun i j => .bl (decide (j ≤ i))
  | .isin => fun x y H Q => rInD K x y H Q ∨ rIn K false x y H Q
  | .notin => fun x y H Q => rNotInD K x y H Q ∨ rIn K true x y H Q
def cop : COp → CmpOp
  | .eq => .Eq
  | .ne => .NotEq
  | .lt => .Lt
  | .le => .LtE
  | .gt => .Gt
  | .ge => .GtE
  | .isin => .In
  | .notin => .NotIn
theorem op_cmp (hu : X.A.units + 65 < cLine) : ∀ o : COp, OpR X (compareOp (cop o)) (rCmp X.K o)
  | .eq => op_eq.or (op_eqD (Nat.lt_trans (Nat.add_lt_add_left (by decide) _) hu))
  | .ne => op_ne.or (op_neD (Nat.lt_trans (Nat.add_lt_add_left (by decide) _) hu))
  | .lt => op_lt
  | .le => op_le
  | .gt => op_gt
  | .ge => op_ge
  | .isin => (op_inD hu).or op_in_seq
  | .notin => (op_notInD hu).or op_notIn_seq
end

/-! ## the operations keep to their rules -/
section
variable {K : PySem.W.Frag} {cl : Nat → Addr} {W : Wd} {H : Hp} {x y : V} {d e z : PyData} {Q : VK}
theorem bin_ok (ok : WOk K cl W H) : ∀ {o : BOp}, binP o d e = some z → RepB K W H x d → RepB K W H y e → PostB K cl W H z Q → rBin K o x y H Q := by
  intro o hz rx ry k
  have hb : big = 2 ^ 64 := by decide
  unfold binP at hz
  split at hz
  · cases rx.int; cases ry.int; cases hz
    exact .inl ⟨_, _, rfl, rfl, k.here ok (.int _)⟩
  · cases rx.str; cases ry.str
    split at hz
    · rename_i hl
      cases hz
      exact .inr (.inl ⟨_, _, rfl, rfl, lim_le hl, k.here ok (.str _)⟩)
    · cases hz
  · obtain ⟨a, vs, rfl, hs, r⟩ := rx.lst ok
    obtain ⟨b, ws, rfl, hs', r'⟩ := ry.lst ok
    split at hz
    · rename_i hl
      cases hz
      refine .inr (.inr (.inl ⟨a, b, vs, ws, rfl, rfl, hs, hs', lim_le (by rw [r.length, r'.length]; exact hl), fun p hp => ?_⟩))
      exact PostN.mk ok (r.append r') k.toN p hp
    · cases hz
  · obtain ⟨a, vs, rfl, hs, r⟩ := rx.tup ok
    obtain ⟨b, ws, rfl, hs', r'⟩ := ry.tup ok
    split at hz
    · rename_i hl
      cases hz
      have l1 := r.length
      have l2 := r'.length
      simp only [List.length_cons] at l1
      refine .inr (.inr (.inr ⟨a, b, vs, ws, rfl, rfl, hs, hs', (by intro z; subst z; simp at l1), lim_le (by rw [l1, l2]; exact hl), fun hw => ?_, fun _ p hp => ?_⟩))
      · subst hw
        cases r'
        exact k.here ok (by simpa using rx.repTup)
      · exact PostB.tup ok (r.append r') k p hp
    · cases hz
  · cases rx.int; cases ry.int; cases hz
    exact ⟨_, _, rfl, rfl, k.here ok (.int _)⟩
  · cases rx.int; cases ry.int
    split at hz
    · rename_i hl
      cases hz
      exact ⟨_, _, rfl, rfl, by rw [hb] at hl; exact hl, k.here ok (.int _)⟩
    · cases hz
  · cases rx.int; cases ry.int
    rename_i i j
    split at hz
    · rename_i hl
      cases hz
      refine ⟨_, _, rfl, rfl, ⟨by omega, by omega, hl.2⟩, ?_⟩
      have e : i.fdiv j = i / j := Int.fdiv_eq_ediv_of_nonneg i (by omega)
      show Q (.int (i.fdiv j)) H
      rw [e]
      exact k.here ok (.int _)
    · split at hz
      · rename_i hl
        cases hz
        exact ⟨_, _, rfl, rfl, ⟨by omega, hl.2, by omega⟩, k.here ok (.int _)⟩
      · cases hz
  · cases rx.int; cases ry.int
    split at hz
    · rename_i hl
      cases hz
      exact ⟨_, _, rfl, rfl, hl, k.here ok (.int _)⟩
    · cases hz
  · cases rx.int; cases ry.int
    split at hz
    · rename_i hl
      cases hz
      exact ⟨_, _, rfl, rfl, ⟨hl.1, by omega, by omega⟩, k.here ok (.int _)⟩
    · cases hz
  · cases hz
end
end PVL
end

section
set_option Elab.async false
set_option linter.all false
set_option maxRecDepth 100000
set_option maxHeartbeats 2000000
namespace PVL
open PySem PySem.Spec PyProof.Rows L2
section
variable {K : PySem.W.Frag} {cl : Nat → Addr} {W : Wd} {H : Hp} {x y : V} {d e z : PyData} {Q : VK} {b : Bool}
theorem rEq_int {i j : Int} {Q : VK} (h : Q (.bl (i == j)) H) : rEq (.int i) (.int j) H Q := ⟨rfl, by rw [dec_int]; exact h⟩
theorem eq_ok (ok : WOk K cl W H) (hz : eqP d e = some b) (rx : RepB K W H x d) (ry : RepB K W H y e) : (∃ c, c = b ∧ scal x y = true ∧ decide (x = y) = c) ∨ (∃ d e, Dp K H x d ∧ Dp K H y e ∧ SeqAt.shaped d = true ∧ SeqAt.shaped e = true ∧ PyData.eqv d e = b) := by
  unfold eqP at hz
  split at hz
  all_goals first
    | (cases rx.int; cases ry.int; cases hz; exact .inl ⟨_, rfl, rfl, dec_int⟩)
    | (cases rx.str; cases ry.str; cases hz; exact .inl ⟨_, rfl, rfl, by rw [dec_str]⟩)
    | (cases rx.int; cases ry.str; cases hz; exact .inl ⟨_, rfl, rfl, decide_eq_false (fun q => nomatch q)⟩)
    | (cases rx.str; cases ry.int; cases hz; exact .inl ⟨_, rfl, rfl, decide_eq_false (fun q => nomatch q)⟩)
    | (cases rx.non; cases ry.non; cases hz; exact .inl ⟨_, rfl, rfl, decide_eq_false (fun q => nomatch q)⟩)
    | (cases rx.non; cases ry.int; cases hz; exact .inl ⟨_, rfl, rfl, decide_eq_false (fun q => nomatch q)⟩)
    | (cases rx.int; cases ry.non; cases hz; exact .inl ⟨_, rfl, rfl, decide_eq_false (fun q => nomatch q)⟩)
    | (cases rx.non; cases ry.str; cases hz; exact .inl ⟨_, rfl, rfl, decide_eq_false (fun q => nomatch q)⟩)
    | (cases rx.str; cases ry.non; cases hz; exact .inl ⟨_, rfl, rfl, decide_eq_false (fun q => nomatch q)⟩)
    | (cases rx.non; cases ry.bl; cases hz; exact .inl ⟨_, rfl, rfl, decide_eq_false (fun q => nomatch q)⟩)
    | (cases rx.bl; cases ry.non; cases hz; exact .inl ⟨_, rfl, rfl, decide_eq_false (fun q => nomatch q)⟩)
    | (cases rx.bl; cases ry.bl; cases hz; exact .inl ⟨_, rfl, rfl, dec_bl⟩)
    | (cases rx.bl; cases ry.str; cases hz; exact .inl ⟨_, rfl, rfl, decide_eq_false (fun q => nomatch q)⟩)
    | (cases rx.str; cases ry.bl; cases hz; exact .inl ⟨_, rfl, rfl, decide_eq_false (fun q => nomatch q)⟩)
    | (cases rx.non; cases ry.non; cases hz; exact .inl ⟨_, rfl, rfl, decide_eq_true rfl⟩)
    | (split at hz
       · rename_i hs
         rw [Bool.and_eq_true] at hs
         exact .inr ⟨_, _, rx.dp ok (SeqAt.canLay_of_shaped hs.1), ry.dp ok (SeqAt.canLay_of_shaped hs.2), hs.1, hs.2, Option.some.inj hz⟩
       · cases hz)
theorem flat_rep (h : flatD d = true) (r : RepB K W H x d) : flatV x = true := by
  cases d <;> simp [flatD] at h
  · rw [r.int]; rfl
  · rw [r.str]; rfl
theorem eqF_rep {u : V} {F : Hp} {ι : List Addr} (h : flatD d = true) (h2 : flatD e = true) (r : RepB K W H x d) (r2 : Rep K F ι u e) : flatV u = true ∧ eqV u x = eqFD e d := by
  cases e <;> simp [flatD] at h2
  · cases r2
    cases d <;> simp [flatD] at h
    · rw [r.int]; exact ⟨rfl, rfl⟩
    · rw [r.str]; exact ⟨rfl, rfl⟩
  · cases r2
    cases d <;> simp [flatD] at h
    · rw [r.int]; exact ⟨rfl, rfl⟩
    · rw [r.str]; exact ⟨rfl, rfl⟩
theorem flats_rep {F : Hp} {ι : List Addr} (h : flatD d = true) (r : RepB K W H x d) : ∀ {ds : List PyData} {vs : List V}, RepL K F ι vs ds → ds.all flatD = true → vs.all flatV = true ∧ inV x vs = ds.any fun z => eqFD z d
  | [], _, r2, _ => by cases r2; exact ⟨rfl, rfl⟩
  | e :: ds, _, r2, h2 => by
    cases r2 with
    | cons ra rb =>
      simp only [List.all_cons, Bool.and_eq_true] at h2 ⊢
      have f := eqF_rep h h2.1 r ra
      have g := flats_rep h r rb h2.2
      refine ⟨⟨f.1, g.1⟩, ?_⟩
      show (eqV _ x || inV x _) = (eqFD e d || _)
      rw [f.2, g.2]
theorem cmp_ok (ok : WOk K cl W H) : ∀ {o : COp}, cmpP o d e = some z → RepB K W H x d → RepB K W H y e → PostB K cl W H z Q → rCmp K o x y H Q := by
  intro o hz rx ry k
  unfold cmpP at hz
  split at hz
  · cases h : eqP d e with
    | none => rw [h] at hz; cases hz
    | some b =>
      rw [h] at hz
      cases hz
      rcases eq_ok ok h rx ry with ⟨c, rfl, hs, hc⟩ | ⟨d', e', h1, h2, h3, h4, h5⟩
      · exact .inl ⟨hs, by rw [hc]; exact k.here ok (.bl _)⟩
      · exact .inr ⟨d', e', h1, h2, h3, h4, by rw [h5]; exact k.here ok (.bl _)⟩
  · cases h : eqP d e with
    | none => rw [h] at hz; cases hz
    | some b =>
      rw [h] at hz
      cases hz
      rcases eq_ok ok h rx ry with ⟨c, rfl, hs, hc⟩ | ⟨d', e', h1, h2, h3, h4, h5⟩
      · exact .inl ⟨hs, by rw [hc]; exact k.here ok (.bl _)⟩
      · exact .inr ⟨d', e', h1, h2, h3, h4, by rw [h5]; exact k.here ok (.bl _)⟩
  · cases rx.int; cases ry.int; cases hz
    exact ⟨_, _, rfl, rfl, k.here ok (.bl _)⟩
  · cases rx.int; cases ry.int; cases hz
    exact ⟨_, _, rfl, rfl, k.here ok (.bl _)⟩
  · cases rx.int; cases ry.int; cases hz
    exact ⟨_, _, rfl, rfl, k.here ok (.bl _)⟩
  · cases rx.int; cases ry.int; cases hz
    exact ⟨_, _, rfl, rfl, k.here ok (.bl _)⟩
  · split at hz
    · rename_i ds hs
      rw [Bool.and_eq_true] at hs
      cases hz
      obtain ⟨a, vs, rfl, hT, r⟩ := ry.tup ok
      have f1 := flat_rep hs.1 rx
      have f2 := flats_rep (x := x) (d := d) hs.1 rx r hs.2
      exact .inr ⟨a, vs, rfl, .inr hT, f1, f2.1, by show Q (.bl (inV x vs)) H; rw [f2.2]; exact k.here ok (.bl _)⟩
    · cases hz
  · split at hz
    · rename_i ds hs
      rw [Bool.and_eq_true] at hs
      cases hz
      obtain ⟨a, vs, rfl, hT, r⟩ := ry.tup ok
      have f1 := flat_rep hs.1 rx
      have f2 := flats_rep (x := x) (d := d) hs.1 rx r hs.2
      exact .inr ⟨a, vs, rfl, .inr hT, f1, f2.1, by show Q (.bl (!inV x vs)) H; rw [f2.2]; exact k.here ok (.bl _)⟩
    · cases hz
  · split at hz
    · rename_i hs
      rw [Bool.and_eq_true] at hs
      cases hz
      exact .inl ⟨d, _, rx.dp ok (SeqAt.canLay_of_shaped hs.1), ry.dp ok (SeqAt.canLay_of_shaped hs.2), hs.1, hs.2, k.here ok (.bl _)⟩
    · cases hz
  · split at hz
    · rename_i hs
      rw [Bool.and_eq_true] at hs
      cases hz
      exact .inl ⟨d, _, rx.dp ok (SeqAt.canLay_of_shaped hs.1), ry.dp ok (SeqAt.canLay_of_shaped hs.2), hs.1, hs.2, k.here ok (.bl _)⟩
    · cases hz
  · cases hz

/-! ### items and slices -/
def idxP : PyData → PyData → Option PyData
  | .list xs, .int i => atI xs i
  | .tuple xs, .int i => atI xs i
  | .str x, .int i => if x.length ≤ lim then (atI x.cps.toList i).map fun c => .str ⟨#[c]⟩ else none
  | _, _ => none
theorem atI_rep {F : Hp} {ι : List Addr} {vs : List V} {ds : List PyData} {i : Int} (r : RepL K F ι vs ds) (h : atI ds i = some d) : ∃ v, atI vs i = some v ∧ Rep K F ι v d := by
  unfold atI at h ⊢
  rw [r.length]
  cases e : ixN ds.length i with
  | none => rw [e] at h; cases h
  | some j =>
    rw [e] at h
    exact r.get h
theorem idx_ok (ok : WOk K cl W H) (hz : idxP d e = some z) (rx : RepB K W H x d) (ry : RepB K W H y e) (k : PostB K cl W H z Q) : rIx K x y H Q := by
  unfold idxP at hz
  split at hz
  · obtain ⟨a, vs, rfl, hs, r⟩ := rx.lst ok
    cases ry.int
    obtain ⟨v, e1, r1⟩ := atI_rep r hz
    exact .inl ⟨a, vs, _, v, rfl, rfl, hs, e1, k.here ok r1⟩
  · obtain ⟨a, vs, rfl, hs, r⟩ := rx.tup ok
    cases ry.int
    obtain ⟨v, e1, r1⟩ := atI_rep r hz
    exact .inr (.inl ⟨a, vs, _, v, rfl, rfl, hs, e1, k.here ok r1⟩)
  · cases rx.str; cases ry.int
    split at hz
    · rename_i hl
      rename_i xx i
      cases h : atI xx.cps.toList i with
      | none => rw [h] at hz; cases hz
      | some c =>
        rw [h] at hz
        cases hz
        exact .inr (.inr ⟨xx, i, c, rfl, rfl, lim_le hl, h, k.here ok (.str _)⟩)
    · cases hz
  · cases hz
def cutD {α : Type} (xs : List α) (lo hi : Option Int) : List α := (xs.drop (HT.sIx xs.length 0 lo)).take (HT.sIx xs.length xs.length hi - HT.sIx xs.length 0 lo)
def slcP : PyData → Option Int → Option Int → Option PyData
  | .list xs, lo, hi => some (.list (cutD xs lo hi))
  | .tuple xs, lo, hi => if HT.sIx xs.length 0 lo = 0 ∧ HT.sIx xs.length xs.length hi = xs.length then none else some (.tuple (cutD xs lo hi))
  | .str x, lo, hi => if x.length ≤ lim then some (.str (cutS x lo hi)) else none
  | _, _, _ => none
theorem cut_rep {F : Hp} {ι : List Addr} {vs : List V} {ds : List PyData} {lo hi : Option Int} (r : RepL K F ι vs ds) : RepL K F ι (cutV vs lo hi) (cutD ds lo hi) := by
  unfold cutV cutD
  rw [r.length]
  exact (r.drop _).take _
def rSlc (K : PySem.W.Frag) : V → Option Int → Option Int → Hp → VK → Prop := fun x lo hi H Q => rSlL K x lo hi H Q ∨ rSlT K x lo hi H Q ∨ rSlS x lo hi H Q
theorem sl_slc {X : Cx} : SlR X (rSlc X.K) := sl_list.or (sl_tup.or sl_str)
theorem slc_ok {lo hi : Option Int} (ok : WOk K cl W H) (hz : slcP d lo hi = some z) (rx : RepB K W H x d) (k : PostB K cl W H z Q) : rSlc K x lo hi H Q := by
  unfold slcP at hz
  split at hz
  · obtain ⟨a, vs, rfl, hs, r⟩ := rx.lst ok
    cases hz
    exact .inl ⟨a, vs, rfl, hs, fun p hp => PostN.mk ok (cut_rep r) k.toN p hp⟩
  · obtain ⟨a, vs, rfl, hs, r⟩ := rx.tup ok
    split at hz
    · cases hz
    · rename_i hn
      cases hz
      refine .inr (.inl ⟨a, vs, rfl, hs, by rw [r.length]; exact hn, fun p hp => PostB.tup ok (cut_rep r) k p hp⟩)
  · cases rx.str
    split at hz
    · rename_i hl
      cases hz
      exact .inr (.inr ⟨_, rfl, lim_le hl, k.here ok (.str _)⟩)
    · cases hz
  · cases hz
/-- the fresh lists among them -/
theorem slcN_ok {l : List PyData} {lo hi : Option Int} (ok : WOk K cl W H) (hz : slcP d lo hi = some (.list l)) (rx : RepB K W H x d) (k : PostN K cl W H l Q) : rSlc K x lo hi H Q := by
  unfold slcP at hz
  split at hz
  · obtain ⟨a, vs, rfl, hs, r⟩ := rx.lst ok
    cases hz
    exact .inl ⟨a, vs, rfl, hs, fun p hp => PostN.mk ok (cut_rep r) k p hp⟩
  · split at hz <;> cases hz
  · split at hz <;> cases hz
  · cases hz
theorem catN_ok {l : List PyData} (ok : WOk K cl W H) (hz : binP .add d e = some (.list l)) (rx : RepB K W H x d) (ry : RepB K W H y e) (k : PostN K cl W H l Q) : rBin K .add x y H Q := by
  unfold binP at hz
  split at hz
  all_goals first
    | (rename_i h; cases h; done)
    | (cases hz; done)
    | (obtain ⟨a, vs, rfl, hs, r⟩ := rx.lst ok
       obtain ⟨b, ws, rfl, hs', r'⟩ := ry.lst ok
       split at hz
       · rename_i hl
         cases hz
         exact .inr (.inr (.inl ⟨a, b, vs, ws, rfl, rfl, hs, hs', lim_le (by rw [r.length, r'.length]; exact hl), fun p hp => PostN.mk ok (r.append r') k p hp⟩))
       · cases hz)
    | (split at hz <;> cases hz; done)
    | (split at hz <;> first | (cases hz; done) | (split at hz <;> cases hz))

/-! ### built-in calls -/
def min3I (i j k : Int) : Int := if k < (if j < i then j else i) then k else if j < i then j else i
inductive Bi where | len | abs | int | list | tuple | max2 | min2 | min3 | maxL | sumL
def intsD : List PyData → Option (List Int)
  | [] => some []
  | .int i :: r => (intsD r).map (i :: ·)
  | _ => none
def strs' : List PyData → Option (List Str)
  | [] => some []
  | .str i :: r => (strs' r).map (i :: ·)
  | _ => none
def maxI : List Int → Int
  | [] => 0
  | [i] => i
  | i :: r => if i < maxI r then maxI r else i
def biP : Bi → List PyData → Option PyData
  | .len, [.list xs] => some (.int xs.length)
  | .len, [.tuple xs] => some (.int xs.length)
  | .len, [.str x] => if x.length ≤ lim then some (.int x.length) else none
  | .abs, [.int i] => some (.int (if i < 0 then -i else i))
  | .int, [.int i] => some (.int i)
  | .int, [.bool b] => some (.int (if b then 1 else 0))
  | .list, [.list xs] => some (.list xs)
  | .list, [.tuple xs] => some (.list xs)
  | .tuple, [.list xs] => some (.tuple xs)
  | .tuple, [.tuple xs] => some (.tuple xs)
  | .max2, [.int i, .int j] => some (.int (if j > i then j else i))
  | .min2, [.int i, .int j] => some (.int (if j < i then j else i))
  | .min3, [.int i, .int j, .int k] => some (.int (min3I i j k))
  | .maxL, [.list xs] => match intsD xs with
    | some (i :: r) => some (.int (maxI (i :: r)))
    | _ => none
  | .sumL, [.list xs] => (intsD xs).map fun l => .int l.sum
  | _, _ => none
theorem ints_rep {F : Hp} {ι : List Addr} : ∀ {ds : List PyData} {vs : List V} {ns : List Int}, intsD ds = some ns → RepL K F ι vs ds → vs = ns.map V.int
  | [], _, _, h, r => by cases r; cases h; rfl
  | .int i :: ds, _, _, h, r => by
    cases r with
    | cons r1 r2 =>
      cases r1
      unfold intsD at h
      cases e : intsD ds with
      | none => rw [e] at h; cases h
      | some l =>
        rw [e] at h
        cases h
        rw [ints_rep e r2]
        rfl
  | .none :: _, _, _, h, _ => by simp [intsD] at h
  | .bool _ :: _, _, _, h, _ => by simp [intsD] at h
  | .str _ :: _, _, _, h, _ => by simp [intsD] at h
  | .list _ :: _, _, _, h, _ => by simp [intsD] at h
  | .tuple _ :: _, _, _, h, _ => by simp [intsD] at h
  | .dict _ :: _, _, _, h, _ => by simp [intsD] at h
theorem strs_rep {F : Hp} {ι : List Addr} : ∀ {ds : List PyData} {vs : List V} {ns : List Str}, strs' ds = some ns → RepL K F ι vs ds → vs = ns.map V.str
  | [], _, _, h, r => by cases r; cases h; rfl
  | .str i :: ds, _, _, h, r => by
    cases r with
    | cons r1 r2 =>
      cases r1
      unfold strs' at h
      cases e : strs' ds with
      | none => rw [e] at h; cases h
      | some l =>
        rw [e] at h
        cases h
        rw [strs_rep e r2]
        rfl
  | .none :: _, _, _, h, _ => by simp [strs'] at h
  | .bool _ :: _, _, _, h, _ => by simp [strs'] at h
  | .int _ :: _, _, _, h, _ => by simp [strs'] at h
  | .list _ :: _, _, _, h, _ => by simp [strs'] at h
  | .tuple _ :: _, _, _, h, _ => by simp [strs'] at h
  | .dict _ :: _, _, _, h, _ => by simp [strs'] at h
theorem maxI_le : ∀ {l : List Int} {y : Int}, y ∈ l → y ≤ maxI l
  | [i], y, h => by simp at h; subst h; exact Int.le_refl _
  | i :: j :: r, y, h => by
    have ih := fun z (hz : z ∈ j :: r) => maxI_le (l := j :: r) hz
    have e : maxI (i :: j :: r) = if i < maxI (j :: r) then maxI (j :: r) else i := rfl
    rw [e]
    rcases List.mem_cons.mp h with rfl | h
    · split <;> omega
    · have := ih y h
      split <;> omega
theorem maxI_mem : ∀ {l : List Int}, l ≠ [] → maxI l ∈ l
  | [i], _ => by simp [maxI]
  | i :: j :: r, _ => by
    have e : maxI (i :: j :: r) = if i < maxI (j :: r) then maxI (j :: r) else i := rfl
    rw [e]
    split
    · exact List.mem_cons_of_mem _ (maxI_mem (by simp))
    · exact List.mem_cons_self
  | [], h => absurd rfl h
def rTupOf (K : PySem.W.Frag) : List V → Hp → VK → Prop := fun xs H Q => ∃ p ys, xs = [.ref p] ∧ ((SqL K H p ys ∧ ∀ l, H l = none → Q (.ref l) (upd H l (.tup ys))) ∨ (SqT K H p ys ∧ Q (.ref p) H))
def rLstOf (K : PySem.W.Frag) : List V → Hp → VK → Prop := fun xs H Q => ∃ p ys, xs = [.ref p] ∧ (SqL K H p ys ∨ SqT K H p ys) ∧ ∀ l, H l = none → Q (.ref l) (upd H l (.lst ys))
def rBi (K : PySem.W.Frag) : Bi → List V → Hp → VK → Prop
  | .len => fun xs H Q => ∃ x n, xs = [x] ∧ LenV K x H n ∧ Q (.int n) H
  | .abs => fun xs H Q => ∃ i, xs = [.int i] ∧ Q (.int (if i < 0 then -i else i)) H
  | .int => fun xs H Q => (∃ i, xs = [.int i] ∧ Q (.int i) H) ∨ ∃ k, xs = [.bl k] ∧ Q (.int (if k then 1 else 0)) H
  | .list => rLstOf K
  | .tuple => rTupOf K
  | .max2 => fun xs H Q => ∃ i j, xs = [.int i, .int j] ∧ Q (.int (if j > i then j else i)) H
  | .min2 => fun xs H Q => ∃ i j, xs = [.int i, .int j] ∧ Q (.int (if j < i then j else i)) H
  | .min3 => fun xs H Q => ∃ i j k, xs = [.int i, .int j, .int k] ∧ Q (.int (min3I i j k)) H
  | .maxL => rMax K
  | .sumL => rSum K
/-- values of a call's arguments -/
inductive RepsB (K : PySem.W.Frag) (W : Wd) (H : Hp) : List V → List PyData → Prop
  | nil : RepsB K W H [] []
  | cons {v : V} {vs : List V} {d : PyData} {ds : List PyData} : RepB K W H v d → RepsB K W H vs ds → RepsB K W H (v :: vs) (d :: ds)
theorem RepsB.go {W W' : Wd} {H H' : Hp} {vs : List V} {ds : List PyData} (g : Go W H W' H') (h : RepsB K W H vs ds) : RepsB K W' H' vs ds := by
  induction h with
  | nil => exact .nil
  | cons r _ ih => exact .cons (r.go g) ih
theorem bi_ok {b : Bi} {vs : List V} {ds : List PyData} (ok : WOk K cl W H) (hz : biP b ds = some z) (rs : RepsB K W H vs ds) (k : PostB K cl W H z Q) : rBi K b vs H Q := by
  unfold biP at hz
  split at hz
  · cases rs with | cons rx r => cases r; cases hz; obtain ⟨a, ws, rfl, hs, r⟩ := rx.lst ok; exact ⟨_, _, rfl, .inl ⟨ws, hs, r.length.symm⟩, k.here ok (.int _)⟩
  · cases rs with | cons rx r => cases r; cases hz; obtain ⟨a, ws, rfl, hs, r⟩ := rx.tup ok; exact ⟨_, _, rfl, .inr ⟨ws, hs, r.length.symm⟩, k.here ok (.int _)⟩
  · cases rs with | cons rx r =>
      cases r; cases rx.str
      split at hz
      · rename_i hl; cases hz; exact ⟨_, _, rfl, ⟨lim_le hl, rfl⟩, k.here ok (.int _)⟩
      · cases hz
  · cases rs with | cons rx r => cases r; cases rx.int; cases hz; exact ⟨_, rfl, k.here ok (.int _)⟩
  · cases rs with | cons rx r => cases r; cases rx.int; cases hz; exact .inl ⟨_, rfl, k.here ok (.int _)⟩
  · cases rs with | cons rx r => cases r; cases rx.bl; cases hz; exact .inr ⟨_, rfl, k.here ok (.int _)⟩
  · cases rs with | cons rx r => cases r; cases hz; obtain ⟨a, ws, rfl, hs, r⟩ := rx.lst ok; exact ⟨a, ws, rfl, .inl hs, fun p hp => PostN.mk ok r k.toN p hp⟩
  · cases rs with | cons rx r => cases r; cases hz; obtain ⟨a, ws, rfl, hs, r⟩ := rx.tup ok; exact ⟨a, ws, rfl, .inr hs, fun p hp => PostN.mk ok r k.toN p hp⟩
  · cases rs with | cons rx r => cases r; cases hz; obtain ⟨a, ws, rfl, hs, r⟩ := rx.lst ok; exact ⟨a, ws, rfl, .inl ⟨hs, fun p hp => PostB.tup ok r k p hp⟩⟩
  · cases rs with | cons rx r =>
      cases r; cases hz
      obtain ⟨a, ws, rfl, hs, r⟩ := rx.tup ok
      exact ⟨a, ws, rfl, .inr ⟨hs, k.here ok rx.repTup⟩⟩
  · cases rs with | cons rx r => cases r with | cons ry r => cases r; cases rx.int; cases ry.int; cases hz; exact ⟨_, _, rfl, k.here ok (.int _)⟩
  · cases rs with | cons rx r => cases r with | cons ry r => cases r; cases rx.int; cases ry.int; cases hz; exact ⟨_, _, rfl, k.here ok (.int _)⟩
  · cases rs with | cons rx r => cases r with | cons ry r => cases r with | cons rz r => cases r; cases rx.int; cases ry.int; cases rz.int; cases hz; exact ⟨_, _, _, rfl, k.here ok (.int _)⟩
  · cases rs with | cons rx r =>
      cases r
      obtain ⟨a, ws, rfl, hs, r⟩ := rx.lst ok
      split at hz
      · rename_i i r' hi
        cases hz
        refine ⟨a, i :: r', rfl, ints_rep hi r ▸ hs, by simp, fun m hm hall => ?_⟩
        have e : m = maxI (i :: r') := Int.le_antisymm (maxI_le hm) (hall _ (maxI_mem (by simp)))
        rw [e]
        exact k.here ok (.int _)
      · cases hz
  · cases rs with | cons rx r =>
      cases r
      obtain ⟨a, ws, rfl, hs, r⟩ := rx.lst ok
      rename_i xs
      cases e : intsD xs with
      | none => rw [e] at hz; cases hz
      | some l =>
        rw [e] at hz
        cases hz
        exact ⟨a, l, rfl, ints_rep e r ▸ hs, k.here ok (.int _)⟩
  · cases hz
theorem listN_ok {vs : List V} {ds l : List PyData} (ok : WOk K cl W H) (hz : biP .list ds = some (.list l)) (rs : RepsB K W H vs ds) (k : PostN K cl W H l Q) : rBi K .list vs H Q := by
  unfold biP at hz
  split at hz
  all_goals first
    | (rename_i h; cases h; done)
    | (cases hz; done)
    | (cases rs with | cons rx r => (cases r; cases hz; obtain ⟨a, ws, rfl, hs, r⟩ := rx.lst ok; exact ⟨a, ws, rfl, .inl hs, fun p hp => PostN.mk ok r k p hp⟩))
    | (cases rs with | cons rx r => (cases r; cases hz; obtain ⟨a, ws, rfl, hs, r⟩ := rx.tup ok; exact ⟨a, ws, rfl, .inr hs, fun p hp => PostN.mk ok r k p hp⟩))

/-! ### join -/
def joinP : PyData → PyData → Option PyData
  | .str a, .list ds => match strs' ds with
    | some ys => if (ys.map (·.length)).sum + ys.length * a.length ≤ lim then some (.str (Txt.join a ys)) else none
    | none => none
  | _, _ => none
def rJoin (K : PySem.W.Frag) : V → List V → Hp → VK → Prop := fun x xs H Q => ∃ a p, ∃ ys : List Str, x = .str a ∧ xs = [.ref p] ∧ (SqL K H p (ys.map V.str) ∨ SqT K H p (ys.map V.str)) ∧ (ys.map (·.length)).sum + ys.length * a.length ≤ 16777216 ∧ Q (.str (Txt.join a ys)) H
theorem join_ok (ok : WOk K cl W H) (hz : joinP d e = some z) (rx : RepB K W H x d) (ry : RepB K W H y e) (k : PostB K cl W H z Q) : rJoin K x [y] H Q := by
  unfold joinP at hz
  split at hz
  · cases rx.str
    obtain ⟨a, ws, rfl, hs, r⟩ := ry.lst ok
    split at hz
    · rename_i ys hy
      split at hz
      · rename_i hl
        cases hz
        exact ⟨_, a, ys, rfl, rfl, .inl (strs_rep hy r ▸ hs), Nat.le_trans hl (by decide), k.here ok (.str _)⟩
      · cases hz
    · cases hz
  · cases hz
end
end PVL
end

section
set_option Elab.async false
set_option linter.all false
set_option maxRecDepth 100000
set_option maxHeartbeats 2000000
namespace PVL
open PySem PySem.Spec PyProof.Rows L2

/-! # The small language -/
/-- what a loop or a comprehension assigns to -/
inductive Tg where
  | nm (i : Nat)
  | tp (l : List Nat)
/-- operations that look at the store -/
inductive O1 where
  | attr (f : Nat)
  | clen
  | ctru
  | cpop
  | ccopy
  | lenset
  | maxD (k : Int)
  | revT
  | copyD
  | litems
  | lkeys
  | isD
  | isC (c : Nat)
  | mkE (c : Nat)
  | isE (c : Nat)
  | lenD
inductive O2 where
  | dget
  | din (ng : Bool)
  | cidx
  | cslc
  | lindex
  | dzip
  | lzip
inductive E where
  | var (i : Nat)
  | bv (i : Nat)
  | cst (d : PyData)
  | bin (o : BOp) (a b : E)
  | neg (a : E)
  | cmp (o : COp) (a b : E)
  | isn (ng : Bool) (a : E)
  | chain (o o' : COp) (a b c : E)
  | and (a b : E)
  | or (a b : E)
  | not (a : E)
  | tru (a : E)
  | ite (c a b : E)
  | tup (l : List E)
  | lst (l : List E)
  | idx (a b : E)
  | slc (a lo hi : E)
  | call (f : Nat) (l : List E)
  | bi (b : Bi) (l : List E)
  | isi (T : String) (a : E)
  | join (a b : E)
  | fmt (a : E)
  | fstr (l : List E)
  | comp (it : E) (tg : Tg) (c e : E) (vs : List Nat)
  | no
  | rng1 (a : E)
  | rng2 (a b : E)
  | seqL (a : E)
  | seqT (a : E)
  | zip (a b : E)
  | enum (a : E)
  | dsp (ks : List Str) (l : List E) (b : E)
  | callP (f : Nat) (l : List E)
  | make (c f : Nat) (l : List E)
  | mkF (c f : Nat) (l : List E)
  | meth (ms : List (Nat × Nat)) (m : Nat) (a : E) (l : List E)
  | op1 (o : O1) (a : E)
  | op2 (o : O2) (a b : E)
  | star (a b : E)
  | ridx (a b : E)
  | repN (a b : E)
  | box (a : E)
  | boxD (a : E)
  | dispD (ks : List Str) (l : List E)
  | dcomp (it : E) (tg : Tg) (k e : E) (vs : List Nat)
  | revI (a : E)
  | zip3 (a b c : E)
  | enumT (a : E)
  | zipM (a b : E)

/-- an outcome: a value, an error of a class, or no word -/
inductive Rs (α : Type) where
  | ok (a : α) (μ : Store)
  | ex (c : Nat) (μ : Store)
  | stuck
def Rs.bind {α β : Type} (r : Rs α) (f : α → Store → Rs β) : Rs β :=
  match r with
  | .ok a μ => f a μ
  | .ex c μ => .ex c μ
  | .stuck => .stuck
@[simp] theorem Rs.bind_ok {α β : Type} {a : α} {μ : Store} {f : α → Store → Rs β} : (Rs.ok a μ).bind f = f a μ := rfl
@[simp] theorem Rs.bind_ex {α β : Type} {c : Nat} {μ : Store} {f : α → Store → Rs β} : (Rs.ex c μ : Rs α).bind f = .ex c μ := rfl
@[simp] theorem Rs.bind_stuck {α β : Type} {f : α → Store → Rs β} : (Rs.stuck : Rs α).bind f = .stuck := rfl
abbrev Calls := Nat → List PyData → Store → Rs PyData
def opt {α : Type} (o : Option α) (μ : Store) : Rs α := match o with
  | some a => .ok a μ
  | none => .stuck
@[simp] theorem opt_some {α : Type} {a : α} {μ : Store} : opt (some a) μ = .ok a μ := rfl
@[simp] theorem opt_none {α : Type} {μ : Store} : opt (none : Option α) μ = .stuck := rfl
/-- two ways by a truth value -/
def ifB {α : Type} (d : PyData) (a b s : α) : α := match d with
  | .bool true => a
  | .bool false => b
  | _ => s
@[simp] theorem ifB_true {α : Type} {a b s : α} : ifB (.bool true) a b s = a := rfl
@[simp] theorem ifB_false {α : Type} {a b s : α} : ifB (.bool false) a b s = b := rfl
theorem ifB_bool {α : Type} {k : Bool} {a b s : α} : ifB (.bool k) a b s = if k then a else b := by cases k <;> rfl
@[simp] theorem ifB_dec {α : Type} {p : Prop} [Decidable p] {a b s : α} : ifB (.bool (decide p)) a b s = if p then a else b := by
  by_cases h : p <;> simp [h]
@[simp] theorem ifB_int {α : Type} {x y : Int} {a b s : α} : ifB (.bool (x == y)) a b s = if x = y then a else b := by
  by_cases h : x = y
  · subst h
    simp
  · have e : (x == y) = false := by simpa using h
    rw [e, if_neg h]
    rfl
@[simp] theorem ifB_str {α : Type} {x y : Str} {a b s : α} : ifB (.bool (x == y)) a b s = if x = y then a else b := by
  by_cases h : x = y
  · subst h
    simp
  · have e : (x == y) = false := by simpa using h
    rw [e, if_neg h]
    rfl
/-- stored into slots, one after the other -/
@[simp] def putL : List Nat → List PyData → List SV → Option (List SV)
  | [], [], env => some env
  | i :: is, d :: ds, env => putL is ds (env.set i (.pv d))
  | _, _, _ => none
@[simp] def Tg.put : Tg → PyData → List SV → Option (List SV)
  | .nm i, d, env => some (env.set i (.pv d))
  | .tp l, .tuple ds, env => putL l ds env
  | .tp _, _, _ => none
@[simp] def Tg.slots : Tg → List Nat
  | .nm i => [i]
  | .tp l => l
@[simp] def wipeE (env : List SV) : List Nat → List SV
  | [] => env
  | v :: vs => (wipeE env vs).set v .un
@[simp] def E.isBv : E → Bool
  | .bv _ => true
  | _ => false
/-- a comprehension's turns -/
def cLoop (tg : Tg) (f : List SV → Store → Rs (Option PyData)) (env : List SV) : List PyData → Store → Rs (List PyData)
  | [], μ => .ok [] μ
  | d :: ds, μ => match tg.put d env with
    | none => .stuck
    | some env' => match f env' μ with
      | .ok o μ1 => match cLoop tg f env ds μ1 with
        | .ok r μ2 => .ok (o.toList ++ r) μ2
        | _ => .stuck
      | _ => .stuck
def two62 : Int := 4611686018427387904
def truP : PyData → Option Bool
  | .none => some false
  | .bool b => some b
  | .int i => some (i != 0)
  | .str x => if x.length ≤ lim then some ((x.length : Int) != 0) else none
  | .list xs => some (!xs.isEmpty)
  | .tuple xs => some (!xs.isEmpty)
  | .dict _ => none
def isiP (T : String) : PyData → Option Bool
  | .none => kitB "NoneType" T
  | .bool _ => kitB "bool" T
  | .int _ => kitB "int" T
  | .str _ => kitB "str" T
  | .list _ => kitB "list" T
  | .tuple _ => kitB "tuple" T
  | .dict _ => none
def rngD (lo : Int) (n : Nat) : List PyData := (List.range n).map fun (k : Nat) => PyData.int (lo + (k : Int))
def zip3D : List PyData → List PyData → List PyData → List PyData
  | x :: xs, y :: ys, z :: zs => .tuple [x, y, z] :: zip3D xs ys zs
  | _, _, _ => []
def zipD : List PyData → List PyData → List PyData
  | x :: xs, y :: ys => .tuple [x, y] :: zipD xs ys
  | _, _ => []
def enumD (i : Nat) : List PyData → List PyData
  | [] => []
  | x :: xs => .tuple [.int (i : Int), x] :: enumD (i + 1) xs

def fmtP : PyData → Option PyData
  | .str y => if y.length ≤ lim then some (.str y) else none
  | .int i => if -big < i ∧ i < big then some (.str (toString i)) else none
  | _ => none
def asI : PyData → Option (Option Int)
  | .int i => some (some i)
  | _ => none
def asB : PyData → Option Bool
  | .bool i => some i
  | _ => none
/-- what a dict of these keys and values holds at a key -/
def lookD : List Str → List PyData → Str → Option PyData
  | k :: ks, d :: ds, w => if k = w then some d else lookD ks ds w
  | _, _, _ => none
def dspP (ks : List Str) (ds : List PyData) : PyData → Option PyData
  | .str w => lookD ks ds w
  | _ => none
/-- what makes a new list, a new dict -/
@[simp] def E.fresh : E → Bool
  | .lst _ => true
  | .comp _ _ _ _ _ => true
  | .bi .list _ => true
  | .bin .add _ _ => true
  | .repN a _ => a.fresh
  | _ => false
@[simp] def E.freshD : E → Bool
  | .dispD _ _ => true
  | .dcomp _ _ _ _ _ => true
  | .op1 .copyD _ => true
  | _ => false
/-! ## the store -/
def asLoc : PyData → Option Nat
  | .dict [(.int (.ofNat n), .none)] => some n
  | _ => none
@[simp] theorem asLoc_loc (n : Nat) : asLoc (loc n) = some n := rfl
theorem asLoc_of {d : PyData} {n : Nat} (h : asLoc d = some n) : d = loc n := by
  unfold asLoc at h
  split at h
  · cases h; rfl
  · cases h
mutual
/-- a value without cells -/
def noLoc : PyData → Bool
  | .dict [(.int _, .none)] => false
  | .dict l => noLocD l
  | .list l => noLocs l
  | .tuple l => noLocs l
  | _ => true
def noLocs : List PyData → Bool
  | [] => true
  | d :: l => noLoc d && noLocs l
def noLocD : List (PyData × PyData) → Bool
  | [] => true
  | p :: l => noLocP p && noLocD l
def noLocP : PyData × PyData → Bool
  | (_, d) => noLoc d
end
theorem noLocs_all : ∀ l : List PyData, noLocs l = l.all noLoc
  | [] => rfl
  | d :: l => by rw [noLocs, List.all_cons, noLocs_all l]
def keyEq : PyData → PyData → Bool
  | .str x, .str y => decide (x = y)
  | .int x, .int y => decide (x = y)
  | _, _ => false
def dlook : List (PyData × PyData) → PyData → Option PyData
  | [], _ => none
  | (k, d) :: l, w => if keyEq k w then some d else dlook l w
def dput (l : List (PyData × PyData)) (w v : PyData) : List (PyData × PyData) :=
  if l.any (fun p => keyEq p.1 w) then l.map (fun p => if keyEq p.1 w then (p.1, v) else p) else l ++ [(w, v)]
def isKey : PyData → Bool
  | .str _ => true
  | .int _ => true
  | _ => false
def flook : List (Nat × PyData) → Nat → Option PyData
  | [], _ => none
  | (k, d) :: l, w => if k = w then some d else flook l w
def fput : List (Nat × PyData) → Nat → PyData → List (Nat × PyData)
  | [], w, v => [(w, v)]
  | (k, d) :: l, w, v => if k = w then (k, v) :: l else (k, d) :: fput l w v
/-- the content of a dict: of a value, a frame's own, a cell -/
def dOf : PyData → Store → Option (List (PyData × PyData))
  | .dict ((.none, .bool false) :: l), _ => some l
  | .dict [(.int (.ofNat n), .none)], μ => match μ[n]? with
    | some (.dct l) => some l
    | _ => none
  | _, _ => none
def lOf (d : PyData) (μ : Store) : Option (List PyData) := match asLoc d with
  | some n => match μ[n]? with
    | some (.lst l) => some l
    | _ => none
  | none => none
/-- how many unlike ones -/
def dcount : List Str → Nat
  | [] => 0
  | x :: r => if x ∈ r then dcount r else dcount r + 1
def attrP (f : Nat) (μ : Store) : PyData → Option PyData
  | .dict ((.none, .int (.ofNat c)) :: l) => if f ∈ fieldsOf c then dlook l (.int f) else none
  | d => match asLoc d with
    | some n => match μ[n]? with
      | some (.ins c fs) => if f ∈ fieldsOf c then flook fs f else none
      | _ => none
    | none => none
def popP (d : PyData) (μ : Store) : Option (PyData × Store) := match asLoc d with
  | some n => match μ[n]? with
    | some (.lst l) => match l.getLast? with
      | some x => some (x, μ.set n (.lst l.dropLast))
      | none => none
    | _ => none
  | none => none
def lensetP : PyData → Option PyData
  | .tuple ds => match strs' ds with
    | some l => if l.length ≤ 1000 then some (.int (dcount l)) else none
    | none => none
  | _ => none
def maxDP (k : Int) : PyData → Option PyData
  | .list ds => match intsD ds with
    | some l => some (.int (if l.isEmpty then k else maxI l))
    | none => none
  | _ => none
def revTP : PyData → Option PyData
  | .tuple ds => if ds.isEmpty then none else some (.tuple ds.reverse)
  | _ => none
def isDP : PyData → Option PyData
  | .dict ((.none, .bool false) :: _) => some (.bool true)
  | _ => none
def isCP (c' : Nat) : PyData → Option PyData
  | .dict ((.none, .int (.ofNat c)) :: _) => if c = c' then some (.bool true) else none
  | _ => none
def op1P (o : O1) (d : PyData) (μ : Store) : Option (PyData × Store) := match o with
  | .attr f => (attrP f μ d).map fun z => (z, μ)
  | .clen => (lOf d μ).map fun l => (.int l.length, μ)
  | .ctru => (lOf d μ).map fun l => (.bool (!l.isEmpty), μ)
  | .cpop => popP d μ
  | .ccopy => (lOf d μ).map fun l => (.list l, μ)
  | .lenset => (lensetP d).map fun z => (z, μ)
  | .maxD k => (maxDP k d).map fun z => (z, μ)
  | .revT => (revTP d).map fun z => (z, μ)
  | .copyD => (dOf d μ).map fun l => (dD l, μ)
  | .litems => (dOf d μ).map fun l => (.list (l.map fun p => .tuple [p.1, p.2]), μ)
  | .lkeys => (dOf d μ).map fun l => (.list (l.map (·.1)), μ)
  | .lenD => (dOf d μ).map fun l => (.int l.length, μ)
  | .isD => (isDP d).map fun z => (z, μ)
  | .isC c => (isCP c d).map fun z => (z, μ)
  | .mkE _ => none
  | .isE _ => none
def dgetP (d k : PyData) (μ : Store) : Option PyData := if isKey k then (match dOf d μ with
  | some l => dlook l k
  | none => none) else none
def dinP (ng : Bool) (k d : PyData) (μ : Store) : Option PyData := if isKey k then (dOf d μ).map fun l => .bool ((dlook l k).isSome != ng) else none
def cidxP (d k : PyData) (μ : Store) : Option PyData := match k with
  | .int i => match lOf d μ with
    | some l => atI l i
    | none => none
  | _ => none
def cslcP (d k : PyData) (μ : Store) : Option PyData := match k with
  | .int i => (lOf d μ).map fun l => .list (cutD l (some i) none)
  | _ => none
def indexP (xs : List PyData) (y : PyData) : Option PyData := match y with
  | .str x => match strs' xs with
    | some l => if l.idxOf x < l.length then some (.int (l.idxOf x)) else none
    | none => none
  | _ => none
def lindexP (d y : PyData) : Option PyData := match d with
  | .list xs => indexP xs y
  | _ => none
def dzipP : PyData → PyData → Option PyData
  | .tuple xs, .list ys => match strs' xs with
    | some l => if l.Nodup ∧ l.length = ys.length ∧ l.length ≤ 1000 then some (dD (List.zip xs ys)) else none
    | none => none
  | _, _ => none
def lzipP : PyData → PyData → Option PyData
  | .tuple xs, .list ys => if xs.length = ys.length ∧ xs.length ≤ 1000 then some (.list (zipD xs ys)) else none
  | _, _ => none
def op2P (o : O2) (d e : PyData) (μ : Store) : Option PyData := match o with
  | .dget => dgetP d e μ
  | .din ng => dinP ng d e μ
  | .cidx => cidxP d e μ
  | .cslc => cslcP d e μ
  | .lindex => lindexP d e
  | .dzip => dzipP d e
  | .lzip => lzipP d e
/-- what the first operand must be -/
def op2Q (o : O2) (d : PyData) : Bool := match o with
  | .lindex => match d with
    | .list _ => true
    | _ => false
  | _ => true
/-- an instance's __init__ has run: what it is then -/
def madeP (c : Nat) (n : Nat) : Rs PyData → Rs PyData
  | .ok .none μ => .ok (loc n) μ
  | _ => .stuck
def madeF (c : Nat) (μ : Store) : Rs PyData → Rs PyData
  | .ok .none [.ins c' fs] => if c = c' ∧ fs.all (fun p => noLoc p.2) then .ok (dI c (fs.map fun p => (.int p.1, p.2))) μ else .stuck
  | _ => .stuck
/-- a call that sees no cell -/
def pureP (μ : Store) : Rs PyData → Rs PyData
  | .ok d _ => if noLoc d then .ok d μ else .stuck
  | .ex c _ => .ex c μ
  | .stuck => .stuck
def insC (d : PyData) (μ : Store) : Option (Nat × List (Nat × PyData)) := match asLoc d with
  | some n => match μ[n]? with
    | some (.ins c fs) => some (c, fs)
    | _ => none
  | none => none
/-- a dict comprehension's turns -/
def dLoop (tg : Tg) (f : List SV → Store → Rs (PyData × PyData)) (env : List SV) : List PyData → List (PyData × PyData) → Store → Rs (List (PyData × PyData))
  | [], acc, μ => .ok acc μ
  | d :: ds, acc, μ => match tg.put d env with
    | none => .stuck
    | some env' => match f env' μ with
      | .ok p μ1 => if isKey p.1 ∧ acc.length < lim then dLoop tg f env ds (dput acc p.1 p.2) μ1 else .stuck
      | _ => .stuck
mutual
def ev (C : Calls) : E → List SV → Store → Rs PyData
  | .var i, env, μ => match env[i]? with
    | some (.pv d) => .ok d μ
    | _ => .stuck
  | .bv i, env, μ => match env[i]? with
    | some (.ow l) => .ok (.list l) μ
    | some (.od l) => .ok (dD l) μ
    | some (.pv d) => .ok d μ
    | _ => .stuck
  | .cst d, _, μ => match d with
    | .list _ => .stuck
    | .tuple _ => .stuck
    | .dict _ => .stuck
    | d => .ok d μ
  | .bin o a b, env, μ => (ev C a env μ).bind fun x μ1 => (ev C b env μ1).bind fun y μ2 => opt (binP o x y) μ2
  | .neg a, env, μ => (ev C a env μ).bind fun x μ1 => match x with
    | .int i => .ok (.int (-i)) μ1
    | _ => .stuck
  | .cmp o a b, env, μ => (ev C a env μ).bind fun x μ1 => (ev C b env μ1).bind fun y μ2 => opt (cmpP o x y) μ2
  | .isn ng a, env, μ => (ev C a env μ).bind fun x μ1 => match x with
    | .none => .ok (.bool (!ng)) μ1
    | _ => .ok (.bool ng) μ1
  | .chain o o' a b c, env, μ => (ev C a env μ).bind fun x μ1 => (ev C b env μ1).bind fun y μ2 => match cmpP o x y with
    | some (.bool true) => (ev C c env μ2).bind fun z μ3 => opt (cmpP o' y z) μ3
    | some (.bool false) => .ok (.bool false) μ2
    | _ => .stuck
  | .and a b, env, μ => (ev C a env μ).bind fun x μ1 => ifB x (if b.isBv then .stuck else ev C b env μ1) (.ok (.bool false) μ1) .stuck
  | .or a b, env, μ => (ev C a env μ).bind fun x μ1 => ifB x (.ok (.bool true) μ1) (if b.isBv then .stuck else ev C b env μ1) .stuck
  | .not a, env, μ => (ev C a env μ).bind fun x μ1 => match x with
    | .bool k => .ok (.bool (!k)) μ1
    | _ => .stuck
  | .tru a, env, μ => (ev C a env μ).bind fun x μ1 => opt ((truP x).map .bool) μ1
  | .ite c a b, env, μ => (ev C c env μ).bind fun x μ1 => if a.isBv || b.isBv then .stuck else ifB x (ev C a env μ1) (ev C b env μ1) .stuck
  | .tup l, env, μ => (evL C l env μ).bind fun ds μ1 => if ds.length ≤ lim then .ok (.tuple ds) μ1 else .stuck
  | .lst l, env, μ => (evL C l env μ).bind fun ds μ1 => if ds.length ≤ lim then .ok (.list ds) μ1 else .stuck
  | .idx a b, env, μ => (ev C a env μ).bind fun x μ1 => (ev C b env μ1).bind fun y μ2 => opt (idxP x y) μ2
  | .slc a lo hi, env, μ => (ev C a env μ).bind fun x μ1 =>
    (match lo with
      | .no => (Rs.ok none μ1 : Rs (Option Int))
      | _ => (ev C lo env μ1).bind fun l μ2 => opt (asI l) μ2).bind fun l μ2 =>
    (match hi with
      | .no => (Rs.ok none μ2 : Rs (Option Int))
      | _ => (ev C hi env μ2).bind fun h μ3 => opt (asI h) μ3).bind fun h μ3 => opt (slcP x l h) μ3
  | .call f l, env, μ => (evL C l env μ).bind fun ds μ1 => C f ds μ1
  | .bi b l, env, μ => (evB C l env μ).bind fun ds μ1 => opt (biP b ds) μ1
  | .isi T a, env, μ => (ev C a env μ).bind fun x μ1 => opt ((isiP T x).map .bool) μ1
  | .join a b, env, μ => (ev C a env μ).bind fun x μ1 => match x with
    | .str s => (ev C b env μ1).bind fun y μ2 => opt (joinP (.str s) y) μ2
    | _ => .stuck
  | .comp it tg c e vs, env, μ => (evI C it env μ).bind fun ds μ1 =>
    if tg.slots.all (fun i => vs.contains i && decide (i < env.length)) && !e.isBv && decide (ds.length ≤ lim) then
      match cLoop tg (fun env' μ' => (match c with
        | .no => (Rs.ok true μ' : Rs Bool)
        | _ => (ev C c env' μ').bind fun k μ2 => opt (asB k) μ2).bind fun k μ2 => if k then (ev C e env' μ2).bind fun d μ3 => .ok (some d) μ3 else .ok none μ2) (wipeE env vs) ds μ1 with
      | .ok r μ2 => .ok (.list r) μ2
      | _ => .stuck
    else .stuck
  | .fmt a, env, μ => (ev C a env μ).bind fun x μ1 => opt (fmtP x) μ1
  | .fstr l, env, μ => (evJ C l Str.empty env μ).bind fun x μ1 => .ok (.str x) μ1
  | .dsp ks l b, env, μ => if ks.Nodup ∧ ks.length = l.length ∧ ks.length ≤ 15 then (evL C l env μ).bind fun ds μ1 => (ev C b env μ1).bind fun y μ2 => opt (dspP ks ds y) μ2 else .stuck
  | .callP f l, env, μ => (evL C l env μ).bind fun ds μ1 => if noLocs ds then pureP μ1 (C f ds []) else .stuck
  | .make c f l, env, μ => (evL C l env μ).bind fun ds μ1 => madeP c μ1.length (C f (loc μ1.length :: ds) (μ1 ++ [.ins c []]))
  | .mkF c f l, env, μ => (evL C l env μ).bind fun ds μ1 => if noLocs ds then madeF c μ1 (C f (loc 0 :: ds) [.ins c []]) else .stuck
  | .meth ms m a l, env, μ => if ms.isEmpty then .stuck else (ev C a env μ).bind fun x μ1 => match insC x μ1 with
    | some (c, _) => match ms.lookup c with
      | some f => if decide (m < 18) && !(fieldsOf c).contains m then (evL C l env μ1).bind fun ds μ2 => C f (x :: ds) μ2 else .stuck
      | none => .stuck
    | none => .stuck
  | .op1 o a, env, μ => (ev C a env μ).bind fun x μ1 => match op1P o x μ1 with
    | some (d, μ2) => .ok d μ2
    | none => .stuck
  | .op2 o a b, env, μ => (ev C a env μ).bind fun x μ1 => if op2Q o x then (ev C b env μ1).bind fun y μ2 => opt (op2P o x y μ2) μ2 else .stuck
  | .star a b, env, μ => (ev C a env μ).bind fun x μ1 => match x with
    | .tuple xs => if b.isBv then .stuck else (ev C b env μ1).bind fun y μ2 => if xs.length + 1 ≤ lim then .ok (.tuple (xs ++ [y])) μ2 else .stuck
    | _ => .stuck
  | .ridx a b, env, μ => (ev C a env μ).bind fun x μ1 => match x with
    | .tuple (d :: ds) => match strs' (d :: ds) with
      | some ks => (ev C b env μ1).bind fun y μ2 => match y with
        | .str z => if ks.reverse.idxOf z < ks.length then .ok (.int (ks.reverse.idxOf z)) μ2 else .stuck
        | _ => .stuck
      | none => .stuck
    | _ => .stuck
  | .repN a b, env, μ => if !a.fresh then .stuck else (ev C a env μ).bind fun x μ1 => match x with
    | .list l => (ev C b env μ1).bind fun y μ2 => match y with
      | .int k => if -two62 ≤ k ∧ k < two62 ∧ l.length * k.toNat ≤ lim then .ok (.list (List.replicate k.toNat l).flatten) μ2 else .stuck
      | _ => .stuck
    | _ => .stuck
  | .box a, env, μ => if !a.fresh then .stuck else (ev C a env μ).bind fun x μ1 => match x with
    | .list l => .ok (loc μ1.length) (μ1 ++ [.lst l])
    | _ => .stuck
  | .boxD a, env, μ => if !a.freshD then .stuck else (ev C a env μ).bind fun x μ1 => match x with
    | .dict ((.none, .bool false) :: l) => .ok (loc μ1.length) (μ1 ++ [.dct l])
    | _ => .stuck
  | .dispD ks l, env, μ => if ks.Nodup ∧ ks.length = l.length ∧ ks.length ≤ 15 then (evL C l env μ).bind fun ds μ1 => .ok (dD (List.zip (ks.map .str) ds)) μ1 else .stuck
  | .dcomp it tg k e vs, env, μ => (evI C it env μ).bind fun ds μ1 =>
    if tg.slots.all (fun i => vs.contains i && decide (i < env.length)) && !k.isBv && !e.isBv then
      match dLoop tg (fun env' μ' => (ev C k env' μ').bind fun x μ2 => (ev C e env' μ2).bind fun y μ3 => .ok (x, y) μ3) (wipeE env vs) ds [] μ1 with
      | .ok r μ2 => .ok (dD r) μ2
      | _ => .stuck
    else .stuck
  | .revI _, _, _ => .stuck
  | .zip3 _ _ _, _, _ => .stuck
  | .enumT _, _, _ => .stuck
  | .zipM _ _, _, _ => .stuck
  | .no, _, _ => .stuck
  | .rng1 _, _, _ => .stuck
  | .rng2 _ _, _, _ => .stuck
  | .seqL _, _, _ => .stuck
  | .seqT _, _, _ => .stuck
  | .zip _ _, _, _ => .stuck
  | .enum _, _, _ => .stuck
def evL (C : Calls) : List E → List SV → Store → Rs (List PyData)
  | [], _, μ => .ok [] μ
  | e :: r, env, μ => if e.isBv then .stuck else (ev C e env μ).bind fun d μ1 => (evL C r env μ1).bind fun ds μ2 => .ok (d :: ds) μ2
def evB (C : Calls) : List E → List SV → Store → Rs (List PyData)
  | [], _, μ => .ok [] μ
  | e :: r, env, μ => (ev C e env μ).bind fun d μ1 => (evB C r env μ1).bind fun ds μ2 => .ok (d :: ds) μ2
def evJ (C : Calls) : List E → Str → List SV → Store → Rs Str
  | [], acc, _, μ => .ok acc μ
  | e :: r, acc, env, μ => (ev C e env μ).bind fun x μ1 => match x with
    | .str y => if (acc ++ y).length ≤ lim then evJ C r (acc ++ y) env μ1 else .stuck
    | _ => .stuck
def evI (C : Calls) : E → List SV → Store → Rs (List PyData)
  | .rng1 a, env, μ => (ev C a env μ).bind fun x μ1 => match x with
    | .int j => if -two62 ≤ j ∧ j < two62 then .ok (rngD 0 j.toNat) μ1 else .stuck
    | _ => .stuck
  | .rng2 a b, env, μ => (ev C a env μ).bind fun x μ1 => (ev C b env μ1).bind fun y μ2 => match x, y with
    | .int i, .int j => if -two62 ≤ i ∧ i < two62 ∧ -two62 ≤ j ∧ j < two62 then .ok (rngD i (j - i).toNat) μ2 else .stuck
    | _, _ => .stuck
  | .seqL a, env, μ => if a.isBv then .stuck else (ev C a env μ).bind fun x μ1 => match x with
    | .list ds => .ok ds μ1
    | _ => .stuck
  | .seqT a, env, μ => (ev C a env μ).bind fun x μ1 => match x with
    | .tuple ds => .ok ds μ1
    | _ => .stuck
  | .zip a b, env, μ => if a.isBv || b.isBv then .stuck else (ev C a env μ).bind fun x μ1 => (ev C b env μ1).bind fun y μ2 => match x, y with
    | .list xs, .list ys => .ok (zipD xs ys) μ2
    | _, _ => .stuck
  | .enum a, env, μ => if a.isBv then .stuck else (ev C a env μ).bind fun x μ1 => match x with
    | .list xs => .ok (enumD 0 xs) μ1
    | _ => .stuck
  | .enumT a, env, μ => (ev C a env μ).bind fun x μ1 => match x with
    | .tuple xs => .ok (enumD 0 xs) μ1
    | _ => .stuck
  | .revI a, env, μ => if a.isBv then .stuck else (ev C a env μ).bind fun x μ1 => match x with
    | .list xs => .ok xs.reverse μ1
    | _ => .stuck
  | .zip3 a b c, env, μ => if a.isBv || b.isBv || c.isBv then .stuck else (ev C a env μ).bind fun x μ1 => (ev C b env μ1).bind fun y μ2 => (ev C c env μ2).bind fun z μ3 => match x, y, z with
    | .list xs, .list ys, .list zs => if xs.length = ys.length ∧ ys.length = zs.length then .ok (zip3D xs ys zs) μ3 else .stuck
    | _, _, _ => .stuck
  | _, _, _ => .stuck
end
end PVL
end

section
set_option Elab.async false
set_option linter.all false
set_option maxRecDepth 100000
set_option maxHeartbeats 2000000
namespace PVL
open PySem PySem.Spec PyProof.Rows L2

/-! # The readings of the small language -/
def noW : WX := fun _ _ _ _ => False
/-- what a def that computes C f promises -/
def spOf (K : PySem.W.Frag) (cl : Nat → Addr) (C : Calls) (f : Nat) : Sp := fun vs H Q E => ∃ W ds, WOk K cl W H ∧ RepL K W.F W.ι vs ds ∧
  match C f ds W.μ with
  | .ok d μ' => ∀ v W' H', W'.μ = μ' → WOk K cl W' H' → Go W H W' H' → Rep K W'.F W'.ι v d → Q v H'
  | .ex c μ' => ∀ W' H', W'.μ = μ' → WOk K cl W' H' → Go W H W' H' → E (.ref (cl c)) none H'
  | .stuck => False
def vOf : PyData → V
  | .bool b => .bl b
  | .int i => .int i
  | .str x => .str x
  | _ => .non
def rIsN' : R2 := fun x y H Q => y = .non ∧ Q (.bl (decide (x = .non))) H
def rNotN' : R2 := fun x y H Q => y = .non ∧ Q (.bl (!decide (x = .non))) H
def tgL : List Nat → TGs
  | [] => gNil
  | i :: is => gCons (gName i) (tgL is)
def Tg.rd (K : PySem.W.Frag) : Tg → TG
  | .nm i => gName i
  | .tp l => gTup K l.length (tgL l)
/-! ## readings of our own -/
def rLenSet (K : PySem.W.Frag) : V → Hp → VK → Prop := fun x H Q => ∃ (l : Addr) (xs : List Str), x = .ref l ∧ SqT K H l (xs.map V.str) ∧ xs.length ≤ 1000 ∧ Q (.int (dcount xs : Nat)) H
def rMaxK (K : PySem.W.Frag) : List V → List V → Hp → VK → Prop := fun xs zs H Q => ∃ (l : Addr) (ns : List Int) (k : Int), xs = [.ref l] ∧ zs = [.int k] ∧ SqL K H l (ns.map V.int) ∧ ∀ m, (ns = [] → m = k) → (ns ≠ [] → m ∈ ns ∧ ∀ y ∈ ns, y ≤ m) → Q (.int m) H
def rRevT (K : PySem.W.Frag) : V → Hp → VK → Prop := fun x H Q => ∃ (l : Addr) (xs : List V), x = .ref l ∧ SqT K H l xs ∧ xs ≠ [] ∧ ∀ p, H p = none → Q (.ref p) (upd H p (.tup xs.reverse))
def rDictD : List V → Hp → VK → Prop := fun xs H Q => ∃ (a : Addr) (kvs : List (Key × V)), xs = [.ref a] ∧ Rd H a (.dK kvs) ∧ ∀ p, H p = none → Q (.ref p) (upd H p (.dK kvs))
def rLenD : List V → Hp → VK → Prop := fun xs H Q => ∃ a kvs, xs = [V.ref a] ∧ H a = some (.dK kvs) ∧ Q (.int kvs.length) H
def tRIdx (K : PySem.W.Frag) (te t2 : TE) : TE := fun σ H Q => te σ H fun x H1 => ∃ (l : Addr) (ks : List Str), x = .ref l ∧ SqT K H1 l (ks.map V.str) ∧ ks ≠ [] ∧ t2 σ H1 fun y H2 => ∃ (z : Str) (j : Nat), y = .str z ∧ ks.reverse[j]? = some z ∧ (∀ m, m < j → ks.reverse[m]? ≠ some z) ∧ Q (.int (j : Nat)) H2
def rDZip (K : PySem.W.Frag) : R2 := fun x y H Q => ∃ (a b : Addr) (ks : List Str) (vs : List V), x = .ref a ∧ y = .ref b ∧ SqT K H a (ks.map V.str) ∧ SqL K H b vs ∧ ks.length = vs.length ∧ ks.length ≤ 1000 ∧ ks.Nodup ∧
  ∀ p H', H p = none → (∀ b o, H b = some o → H' b = some o) → H' p = some (.dK (List.zip (ks.map Sum.inr) vs)) → Q (.ref p) H'
def rLZip (K : PySem.W.Frag) : R2 := fun x y H Q => ∃ (a b : Addr) (xs ys : List V), x = .ref a ∧ y = .ref b ∧ SqT K H a xs ∧ SqL K H b ys ∧ xs.length = ys.length ∧ xs.length ≤ 1000 ∧
  ∀ p ts H', H p = none → (∀ b o, H b = some o → H' b = some o) → (∀ t ∈ ts, H t = none) → p ∉ ts → H' p = some (.lst (ts.map V.ref)) → Paired (fun t q => H' t = some (.tup [q.1, q.2])) ts (List.zip xs ys) → Q (.ref p) H'
def rO1 (K : PySem.W.Frag) : O1 → V → Hp → VK → Prop
  | .attr f => fun x H Q => ∃ a C dx fs v, x = .ref a ∧ H a = some (.ins C dx fs) ∧ Cls K C ∧ NoAttr K C (fnm f) ∧ fs.lookup (fnm f) = some v ∧ Q v H
  | .clen => fun x H Q => rBi K .len [x] H Q
  | .ctru => fun x H Q => ∃ k, TruV K x H k ∧ Q (.bl k) H
  | .cpop => fun x H Q => tyV K "list" x H ∧ rPop x [] H Q
  | .ccopy => fun x H Q => rBi K .list [x] H Q
  | .lenset => rLenSet K
  | .maxD k => fun x H Q => rMaxK K [x] [.int k] H Q
  | .revT => rRevT K
  | .copyD => fun x H Q => rDictD [x] H Q
  | .litems => LiI.rItemsL
  | .lkeys => fun x H Q => rListD [x] H Q
  | .lenD => fun x H Q => rLenD [x] H Q
  | .isD => fun x H Q => rIsi K [x, .ty "dict"] H Q
  | .isC c => fun x H Q => ∃ a dx fs, [x, .ref (clK K c)] = [.ref a, .ref (clK K c)] ∧ H a = some (.ins (clK K c) dx fs) ∧ Q (.bl true) H
  | .mkE _ => fun _ _ _ => False
  | .isE _ => fun _ _ _ => False
def rO2 (K : PySem.W.Frag) : O2 → R2
  | .dget => fun x y H Q => ∃ a v, x = .ref a ∧ DGet H a y (some v) ∧ Q v H
  | .din false => fun y x H Q => ∃ a o, x = .ref a ∧ DGet H a y o ∧ Q (.bl o.isSome) H
  | .din true => fun y x H Q => ∃ a o, x = .ref a ∧ DGet H a y o ∧ Q (.bl (!o.isSome)) H
  | .cidx => rIx K
  | .cslc => fun x v H Q => ∃ i, v = .int i ∧ rSlc K x (some i) none H Q
  | .lindex => fun x y H Q => rIndex K x [y] H Q
  | .dzip => rDZip K
  | .lzip => rLZip K
/-- what is asked of the first operand as soon as it is there -/
def rP2 (K : PySem.W.Frag) : O2 → V → Hp → Prop → Prop
  | .lindex => fun x H P => tyV K "list" x H ∧ P
  | _ => fun _ _ P => P
def tMethS (C : Addr) (m : Str) (sp : Sp) (E : L2.St → XK) (ta : TE) (t : TA) : TE := fun σ H Q => ta σ H fun x H1 => ∃ a dx fs, x = .ref a ∧ H1 a = some (.ins C dx fs) ∧ fs.lookup m = none ∧ t σ H1 fun vs H2 => sp (x :: vs) H2 Q (E σ)
def tMakeS (C : Addr) (sp : Sp) (E : L2.St → XK) (t : TA) : TE := fun σ H Q => t σ H fun vs H1 => ∀ x dx, H1 x = none → H1 dx = none → dx ≠ x →
  sp (.ref x :: vs) (upd (upd H1 dx (.own x)) x (.ins C dx [])) (fun v H2 => v = .non ∧ Q (.ref x) H2) (E σ)
def tMakeI (K : PySem.W.Frag) (c : Nat) (sp : Sp) (E : L2.St → XK) (t : TA) : TE := fun σ H Q => InsOk K c → tMakeS (clK K c) sp E t σ H Q
def tMs (K : PySem.W.Frag) (cl : Nat → Addr) (C : Calls) (Wx : WX) (m : Nat) (ta : TE) (t : TA) : List (Nat × Nat) → TE
  | [] => fun _ _ _ => False
  | (c, f) :: r => fun σ H Q => tMethS (clK K c) (fnm m) (spOf K cl C f) (WE Wx) ta t σ H Q ∨ tMs K cl C Wx m ta t r σ H Q
/-- enumerate of a tuple; zip of three lists -/
def YTup (l : List V) (H : Hp) (x : V) (H' : Hp) : Prop := ∃ T, x = .ref T ∧ H T = none ∧ H' = upd H T (.tup l)
def IteT (n : Nat) (xs : List V) : It := ⟨fun i _ => i < n, fun i H x H' => ∃ y, xs[i]? = some y ∧ YTup [.int (i : Nat), y] H x H', fun i _ => n ≤ i⟩
def iEnumT (K : PySem.W.Frag) (ta : TA) : TI := fun σ H R => ta σ H fun vs H1 => ∃ a xs, vs = [.ref a] ∧ SqT K H1 a xs ∧ R (IteT xs.length xs) H1
def Itz3 (n : Nat) (xs ys zs : List V) : It := ⟨fun i _ => i < n, fun i H x H' => ∃ p q r, xs[i]? = some p ∧ ys[i]? = some q ∧ zs[i]? = some r ∧ YTup [p, q, r] H x H', fun i _ => n ≤ i⟩
def iZip3 (K : PySem.W.Frag) (ta : TA) : TI := fun σ H R => ta σ H fun vs H1 => ∃ a b c xs ys zs, vs = [.ref a, .ref b, .ref c] ∧ SqL K H1 a xs ∧ SqL K H1 b ys ∧ SqL K H1 c zs ∧ xs.length = ys.length ∧ ys.length = zs.length ∧ R (Itz3 xs.length xs ys zs) H1
section
variable (K : PySem.W.Frag) (cl : Nat → Addr) (C : Calls)
def rdO' (e : E) (t : TE) : TO := match e with
  | .no => tNoPart
  | _ => tPart t
def rdC' (e : E) (t : TT) : TT := match e with
  | .no => tYes
  | _ => t
mutual
/-- as a value; as a test -/
def rd2 : WX → E → TE × TT
  | _, .var i => (tVar i, tB (tVar i))
  | _, .bv i => (tVar i, tB (tVar i))
  | _, .cst d => (tC (vOf d), tB (tC (vOf d)))
  | Wx, .bin o a b => (tOp (rBin K o) (rd2 Wx a).1 (rd2 Wx b).1, tB (tOp (rBin K o) (rd2 Wx a).1 (rd2 Wx b).1))
  | Wx, .neg a => (tUn (rU fun i => .int (-i)) (rd2 Wx a).1, tB (tUn (rU fun i => .int (-i)) (rd2 Wx a).1))
  | Wx, .cmp o a b => (tOp (rCmp K o) (rd2 Wx a).1 (rd2 Wx b).1, tB (tOp (rCmp K o) (rd2 Wx a).1 (rd2 Wx b).1))
  | Wx, .isn ng a => (tOp (if ng then rNotN' else rIsN') (rd2 Wx a).1 (tC .non), tB (tOp (if ng then rNotN' else rIsN') (rd2 Wx a).1 (tC .non)))
  | Wx, .chain o o' a b c => (tChain (rCmp K o) (rCmp K o') (rd2 Wx a).1 (rd2 Wx b).1 (rd2 Wx c).1, tB (tChain (rCmp K o) (rCmp K o') (rd2 Wx a).1 (rd2 Wx b).1 (rd2 Wx c).1))
  | Wx, .and a b => (tAndV (rd2 Wx a).1 (rd2 Wx b).1, tAnd (rd2 Wx a).2 (rd2 Wx b).2)
  | Wx, .or a b => (tOrV (rd2 Wx a).1 (rd2 Wx b).1, tOr (rd2 Wx a).2 (rd2 Wx b).2)
  | Wx, .not a => (tNotV (rd2 Wx a).1, tNot (rd2 Wx a).2)
  | Wx, .tru a => (fun σ H Q => (rd2 Wx a).1 σ H fun x H' => ∃ k, TruV K x H' k ∧ Q (.bl k) H', fun σ H Q => (rd2 Wx a).1 σ H fun x H' => ∃ k, TruV K x H' k ∧ Q k H')
  | Wx, .ite c a b => (tIf (rd2 Wx c).2 (rd2 Wx a).1 (rd2 Wx b).1, tB (tIf (rd2 Wx c).2 (rd2 Wx a).1 (rd2 Wx b).1))
  | Wx, .tup l => (tTup (rdL Wx l), tB (tTup (rdL Wx l)))
  | Wx, .lst l => (tLst (rdL Wx l), tB (tLst (rdL Wx l)))
  | Wx, .idx a b => (tOp (rIx K) (rd2 Wx a).1 (rd2 Wx b).1, tB (tOp (rIx K) (rd2 Wx a).1 (rd2 Wx b).1))
  | Wx, .slc a lo hi => (tSl (rSlc K) (rd2 Wx a).1 (rdO' lo (rd2 Wx lo).1) (rdO' hi (rd2 Wx hi).1), tB (tSl (rSlc K) (rd2 Wx a).1 (rdO' lo (rd2 Wx lo).1) (rdO' hi (rd2 Wx hi).1)))
  | Wx, .call f l => (tCallS (spOf K cl C f) (WE Wx) (rdL Wx l), tB (tCallS (spOf K cl C f) (WE Wx) (rdL Wx l)))
  | Wx, .bi b l => (tCB (rBi K b) (rdL Wx l), tB (tCB (rBi K b) (rdL Wx l)))
  | Wx, .isi T a => (tCB (rIsi K) (tCons (rd2 Wx a).1 (tCons (tC (.ty T)) tNil)), tB (tCB (rIsi K) (tCons (rd2 Wx a).1 (tCons (tC (.ty T)) tNil))))
  | Wx, .join a b => (tM1 (rJoin K) (rd2 Wx a).1 (rd2 Wx b).1, tB (tM1 (rJoin K) (rd2 Wx a).1 (rd2 Wx b).1))
  | Wx, .comp it tg c e vs => (tLc (rdI Wx it) (tg.rd K) (rdC' c (rd2 noW c).2) (rd2 noW e).1 vs, tB (tLc (rdI Wx it) (tg.rd K) (rdC' c (rd2 noW c).2) (rd2 noW e).1 vs))
  | Wx, .fmt a => (tFmt (rd2 Wx a).1, tB (tFmt (rd2 Wx a).1))
  | Wx, .fstr l => (fun σ H Q => rdJ Wx l Str.empty σ H fun out H1 => Q (.str out) H1, tB (fun σ H Q => rdJ Wx l Str.empty σ H fun out H1 => Q (.str out) H1))
  | Wx, .dsp ks l b => (tDGet (tDisp (rdP Wx ks l)) (rd2 Wx b).1, tB (tDGet (tDisp (rdP Wx ks l)) (rd2 Wx b).1))
  | Wx, .callP f l => (tCallS (spOf K cl C f) (WE Wx) (rdL Wx l), tB (tCallS (spOf K cl C f) (WE Wx) (rdL Wx l)))
  | Wx, .make c f l => (tMakeI K c (spOf K cl C f) (WE Wx) (rdL Wx l), tB (tMakeI K c (spOf K cl C f) (WE Wx) (rdL Wx l)))
  | Wx, .mkF c f l => (tMakeI K c (spOf K cl C f) (WE Wx) (rdL Wx l), tB (tMakeI K c (spOf K cl C f) (WE Wx) (rdL Wx l)))
  | Wx, .meth ms m a l => (tMs K cl C Wx m (rd2 Wx a).1 (rdL Wx l) ms, tB (tMs K cl C Wx m (rd2 Wx a).1 (rdL Wx l) ms))
  | Wx, .op1 .ctru a => (fun σ H Q => (rd2 Wx a).1 σ H fun x H' => ∃ k, TruV K x H' k ∧ Q (.bl k) H', fun σ H Q => (rd2 Wx a).1 σ H fun x H' => ∃ k, TruV K x H' k ∧ Q k H')
  | Wx, .op1 o a => (fun σ H Q => (rd2 Wx a).1 σ H fun x H1 => rO1 K o x H1 Q, tB fun σ H Q => (rd2 Wx a).1 σ H fun x H1 => rO1 K o x H1 Q)
  | Wx, .op2 o a b => (fun σ H Q => (rd2 Wx a).1 σ H fun x H1 => rP2 K o x H1 ((rd2 Wx b).1 σ H1 fun y H2 => rO2 K o x y H2 Q), tB fun σ H Q => (rd2 Wx a).1 σ H fun x H1 => rP2 K o x H1 ((rd2 Wx b).1 σ H1 fun y H2 => rO2 K o x y H2 Q))
  | Wx, .star a b => (tTup (StX.tStar K (rd2 Wx a).1 (tCons (rd2 Wx b).1 tNil)), tB (tTup (StX.tStar K (rd2 Wx a).1 (tCons (rd2 Wx b).1 tNil))))
  | Wx, .ridx a b => (tRIdx K (rd2 Wx a).1 (rd2 Wx b).1, tB (tRIdx K (rd2 Wx a).1 (rd2 Wx b).1))
  | Wx, .repN a b => (tOp rRep (rd2 Wx a).1 (rd2 Wx b).1, tB (tOp rRep (rd2 Wx a).1 (rd2 Wx b).1))
  | Wx, .box a => ((rd2 Wx a).1, tB (rd2 Wx a).1)
  | Wx, .boxD a => ((rd2 Wx a).1, tB (rd2 Wx a).1)
  | _, .dispD [] [] => (tDNewK, tB tDNewK)
  | Wx, .dispD ks l => (tDisp (rdP Wx ks l), tB (tDisp (rdP Wx ks l)))
  | Wx, .dcomp it tg k e vs => (tDc (rdI Wx it) (tg.rd K) tYes (rd2 noW k).1 (rd2 noW e).1 vs, tB (tDc (rdI Wx it) (tg.rd K) tYes (rd2 noW k).1 (rd2 noW e).1 vs))
  | _, .revI _ => (fun _ _ _ => False, fun _ _ _ => False)
  | _, .zip3 _ _ _ => (fun _ _ _ => False, fun _ _ _ => False)
  | _, .enumT _ => (fun _ _ _ => False, fun _ _ _ => False)
  | _, .zipM _ _ => (fun _ _ _ => False, fun _ _ _ => False)
  | _, .no => (fun _ _ _ => False, fun _ _ _ => False)
  | _, .rng1 _ => (fun _ _ _ => False, fun _ _ _ => False)
  | _, .rng2 _ _ => (fun _ _ _ => False, fun _ _ _ => False)
  | _, .seqL _ => (fun _ _ _ => False, fun _ _ _ => False)
  | _, .seqT _ => (fun _ _ _ => False, fun _ _ _ => False)
  | _, .zip _ _ => (fun _ _ _ => False, fun _ _ _ => False)
  | _, .enum _ => (fun _ _ _ => False, fun _ _ _ => False)
def rdP : WX → List Str → List E → List (TE × TE)
  | _, _, [] => []
  | Wx, ks, e :: r => (tC (.str (ks.headD Str.empty)), (rd2 Wx e).1) :: rdP Wx ks.tail r
def rdL : WX → List E → TA
  | _, [] => tNil
  | Wx, e :: r => tCons (rd2 Wx e).1 (rdL Wx r)
def rdJ : WX → List E → Str → L2.St → Hp → (Str → Hp → Prop) → Prop
  | _, [], acc, _, H, Q => Q acc H
  | Wx, e :: r, acc, σ, H, Q => (rd2 Wx e).1 σ H fun x H1 => ∃ y : Str, x = .str y ∧ (acc ++ y).length ≤ sizeLine ∧ rdJ Wx r (acc ++ y) σ H1 Q
def rdI : WX → E → TI
  | Wx, .rng1 a => iRng1 (tCons (rd2 Wx a).1 tNil)
  | Wx, .rng2 a b => iRng2 (tCons (rd2 Wx a).1 (tCons (rd2 Wx b).1 tNil))
  | Wx, .seqL a => iList K (rd2 Wx a).1
  | Wx, .seqT a => iTup K (rd2 Wx a).1
  | Wx, .zip a b => iZip K (tCons (rd2 Wx a).1 (tCons (rd2 Wx b).1 tNil))
  | Wx, .enum a => iEnum K (tCons (rd2 Wx a).1 tNil)
  | Wx, .enumT a => iEnumT K (tCons (rd2 Wx a).1 tNil)
  | Wx, .revI a => iRev K (tCons (rd2 Wx a).1 tNil)
  | Wx, .zip3 a b c => iZip3 K (tCons (rd2 Wx a).1 (tCons (rd2 Wx b).1 (tCons (rd2 Wx c).1 tNil)))
  | _, _ => fun _ _ _ => False
end
end

/-! # The readings are what the small language computes -/
/-- what is wished behind a computed value -/
def Want (K : PySem.W.Frag) (cl : Nat → Addr) (Wx : WX) (W : Wd) (H : Hp) (σ : L2.St) (Q : VK) (bv : Bool) : Rs PyData → Prop
  | .ok d μ' => ∀ v W' H', W'.μ = μ' → WOk K cl W' H' → Go W H W' H' → RepB K W' H' v d → (bv = false → Rep K W'.F W'.ι v d) → Q v H'
  | .ex c μ' => ∀ W' H', W'.μ = μ' → WOk K cl W' H' → Go W H W' H' → Wx (.ref (cl c)) none σ H'
  | .stuck => False
def WantT (K : PySem.W.Frag) (cl : Nat → Addr) (Wx : WX) (W : Wd) (H : Hp) (σ : L2.St) (Q : Bool → Hp → Prop) : Rs PyData → Prop
  | .ok d μ' => ∃ k, d = .bool k ∧ ∀ W' H', W'.μ = μ' → WOk K cl W' H' → Go W H W' H' → Q k H'
  | .ex c μ' => ∀ W' H', W'.μ = μ' → WOk K cl W' H' → Go W H W' H' → Wx (.ref (cl c)) none σ H'
  | .stuck => False
def WantL (K : PySem.W.Frag) (cl : Nat → Addr) (Wx : WX) (W : Wd) (H : Hp) (σ : L2.St) (Q : List V → Hp → Prop) : Rs (List PyData) → Prop
  | .ok d μ' => ∀ v W' H', W'.μ = μ' → WOk K cl W' H' → Go W H W' H' → RepL K W'.F W'.ι v d → Q v H'
  | .ex c μ' => ∀ W' H', W'.μ = μ' → WOk K cl W' H' → Go W H W' H' → Wx (.ref (cl c)) none σ H'
  | .stuck => False
def WantB (K : PySem.W.Frag) (cl : Nat → Addr) (Wx : WX) (W : Wd) (H : Hp) (σ : L2.St) (Q : List V → Hp → Prop) : Rs (List PyData) → Prop
  | .ok d μ' => ∀ v W' H', W'.μ = μ' → WOk K cl W' H' → Go W H W' H' → RepsB K W' H' v d → Q v H'
  | .ex c μ' => ∀ W' H', W'.μ = μ' → WOk K cl W' H' → Go W H W' H' → Wx (.ref (cl c)) none σ H'
  | .stuck => False
/-- a walked thing yields these values -/
def ItOk (K : PySem.W.Frag) (cl : Nat → Addr) (F : Hp) (ι : List Addr) (J : It) (ds : List PyData) : Prop :=
  ∀ W H, WOk K cl W H → Sub F W.F → ι <+: W.ι → ∀ i : Nat, (∀ d, ds[i]? = some d → J.go i H ∧ ∀ x H', J.yld i H x H' → ∃ W', W'.μ = W.μ ∧ WOk K cl W' H' ∧ Go W H W' H' ∧ Rep K W'.F W'.ι x d) ∧ (ds.length ≤ i → J.stop i H)
def WantI (K : PySem.W.Frag) (cl : Nat → Addr) (Wx : WX) (W : Wd) (H : Hp) (σ : L2.St) (R : It → Hp → Prop) : Rs (List PyData) → Prop
  | .ok ds μ' => ∀ J W' H', W'.μ = μ' → WOk K cl W' H' → Go W H W' H' → ItOk K cl W'.F W'.ι J ds → R J H'
  | .ex c μ' => ∀ W' H', W'.μ = μ' → WOk K cl W' H' → Go W H W' H' → Wx (.ref (cl c)) none σ H'
  | .stuck => False
section
variable (K : PySem.W.Frag) (cl : Nat → Addr) (Wx : WX)
def Sd (t : TE) (env : List SV) (μ : Store) (bv : Bool) (r : Rs PyData) : Prop := ∀ H0 W H σ Q, W.μ = μ → WOk K cl W H → EnvOk K H0 W H env σ → Want K cl Wx W H σ Q bv r → t σ H Q
def SdT (t : TT) (env : List SV) (μ : Store) (r : Rs PyData) : Prop := ∀ H0 W H σ Q, W.μ = μ → WOk K cl W H → EnvOk K H0 W H env σ → WantT K cl Wx W H σ Q r → t σ H Q
def SdL (t : TA) (env : List SV) (μ : Store) (r : Rs (List PyData)) : Prop := ∀ H0 W H σ Q, W.μ = μ → WOk K cl W H → EnvOk K H0 W H env σ → WantL K cl Wx W H σ Q r → t σ H Q
def SdB (t : TA) (env : List SV) (μ : Store) (r : Rs (List PyData)) : Prop := ∀ H0 W H σ Q, W.μ = μ → WOk K cl W H → EnvOk K H0 W H env σ → WantB K cl Wx W H σ Q r → t σ H Q
def SdI (t : TI) (env : List SV) (μ : Store) (r : Rs (List PyData)) : Prop := ∀ H0 W H σ Q, W.μ = μ → WOk K cl W H → EnvOk K H0 W H env σ → WantI K cl Wx W H σ Q r → t σ H Q
end
section
variable {K : PySem.W.Frag} {cl : Nat → Addr} {Wx : WX} {env : List SV} {μ : Store} {ta tb tc te : TE} {ra rb : Rs PyData} {b1 b2 b3 bv : Bool}
/-- an error passes on -/
theorem exUp {W W1 : Wd} {H H1 : Hp} {σ : L2.St} {c : Nat} {μ' : Store} (g : Go W H W1 H1) (h : ∀ W' H', W'.μ = μ' → WOk K cl W' H' → Go W H W' H' → Wx (.ref (cl c)) none σ H') :
    ∀ W' H', W'.μ = μ' → WOk K cl W' H' → Go W1 H1 W' H' → Wx (.ref (cl c)) none σ H' := fun W' H' m o g' => h W' H' m o (g.trans g')
theorem postUp {W W1 : Wd} {H H1 : Hp} {σ : L2.St} {d : PyData} {Q : VK} (g : Go W H W1 H1) (h : Want K cl Wx W H σ Q bv (.ok d W1.μ)) : PostB K cl W1 H1 d Q := fun v W' H' m o g' r => h v W' H' m o (g.trans g') (.inl r) fun _ => r
theorem sd_test (h : Sd K cl Wx te env μ bv ra) : SdT K cl Wx (tB te) env μ ra := fun H0 W H σ Q m o en w => by
  refine h H0 W H σ _ m o en ?_
  cases ra with
  | ok d μ' =>
    obtain ⟨k, rfl, w⟩ := w
    exact fun v W' H' m' o' g r _ => ⟨k, r.bl, w W' H' m' o' g⟩
  | ex c μ' => exact w
  | stuck => exact w
theorem sd_op {r : R2} {f : PyData → PyData → Option PyData} {fb : Store → Rs PyData} (ha : Sd K cl Wx ta env μ b1 ra) (hb : ∀ μ1, Sd K cl Wx tb env μ1 b2 (fb μ1))
    (hop : ∀ {W : Wd} {H : Hp} {x y : V} {d e z : PyData} {Q : VK}, WOk K cl W H → f d e = some z → RepB K W H x d → RepB K W H y e → PostB K cl W H z Q → r x y H Q) :
    Sd K cl Wx (tOp r ta tb) env μ bv (ra.bind fun x μ1 => (fb μ1).bind fun y μ2 => opt (f x y) μ2) := fun H0 W H σ Q m o en w => by
  refine ha H0 W H σ _ m o en ?_
  cases ra with
  | ex c μ' => exact w
  | stuck => exact w
  | ok d μ1 =>
    intro v W1 H1 m1 o1 g1 r1 _
    refine hb μ1 H0 W1 H1 σ _ m1 o1 (en.go g1) ?_
    rw [Rs.bind_ok] at w
    cases eb : fb μ1 with
    | ex c μ' => rw [eb] at w; exact exUp g1 w
    | stuck => rw [eb] at w; exact w
    | ok e μ2 =>
      rw [eb, Rs.bind_ok] at w
      intro u W2 H2 m2 o2 g2 r2 _
      cases ef : f d e with
      | none => rw [ef] at w; exact w.elim
      | some z =>
        rw [ef, opt_some] at w
        subst m2
        exact hop o2 ef (r1.go g2) r2 (postUp (g1.trans g2) w)
theorem sd_weak (h : Sd K cl Wx te env μ false ra) : Sd K cl Wx te env μ bv ra := fun H0 W H σ Q m o en w => h H0 W H σ Q m o en (by
  cases ra with
  | ok d μ' => exact fun v W' H' m' o' g r r' => w v W' H' m' o' g r fun _ => r' rfl
  | ex c μ' => exact w
  | stuck => exact w)
theorem sdL_nil : SdL K cl Wx tNil env μ (.ok [] μ) := fun H0 W H σ Q m o en w => w [] W H m o (Go.refl _ _) .nil
theorem sdB_nil : SdB K cl Wx tNil env μ (.ok [] μ) := fun H0 W H σ Q m o en w => w [] W H m o (Go.refl _ _) .nil
theorem sdL_cons {t : TA} {fb : Store → Rs (List PyData)} (ha : Sd K cl Wx ta env μ false ra) (hb : ∀ μ1, SdL K cl Wx t env μ1 (fb μ1)) : SdL K cl Wx (tCons ta t) env μ (ra.bind fun d μ1 => (fb μ1).bind fun ds μ2 => .ok (d :: ds) μ2) := fun H0 W H σ Q m o en w => by
  refine ha H0 W H σ _ m o en ?_
  cases ra with
  | ex c μ' => exact w
  | stuck => exact w
  | ok d μ1 =>
    intro v W1 H1 m1 o1 g1 _ r1
    refine hb μ1 H0 W1 H1 σ _ m1 o1 (en.go g1) ?_
    rw [Rs.bind_ok] at w
    cases eb : fb μ1 with
    | ex c μ' => rw [eb] at w; exact exUp g1 w
    | stuck => rw [eb] at w; exact w
    | ok e μ2 =>
      rw [eb, Rs.bind_ok] at w
      intro u W2 H2 m2 o2 g2 r2
      exact w (v :: u) W2 H2 m2 o2 (g1.trans g2) (.cons (g2.rep (r1 rfl)) r2)
theorem sdB_cons {t : TA} {fb : Store → Rs (List PyData)} (ha : Sd K cl Wx ta env μ b1 ra) (hb : ∀ μ1, SdB K cl Wx t env μ1 (fb μ1)) : SdB K cl Wx (tCons ta t) env μ (ra.bind fun d μ1 => (fb μ1).bind fun ds μ2 => .ok (d :: ds) μ2) := fun H0 W H σ Q m o en w => by
  refine ha H0 W H σ _ m o en ?_
  cases ra with
  | ex c μ' => exact w
  | stuck => exact w
  | ok d μ1 =>
    intro v W1 H1 m1 o1 g1 r1 _
    refine hb μ1 H0 W1 H1 σ _ m1 o1 (en.go g1) ?_
    rw [Rs.bind_ok] at w
    cases eb : fb μ1 with
    | ex c μ' => rw [eb] at w; exact exUp g1 w
    | stuck => rw [eb] at w; exact w
    | ok e μ2 =>
      rw [eb, Rs.bind_ok] at w
      intro u W2 H2 m2 o2 g2 r2
      exact w (v :: u) W2 H2 m2 o2 (g1.trans g2) (.cons (r1.go g2) r2)
theorem sd_stuck {t : TE} : Sd K cl Wx t env μ bv .stuck := fun _ _ _ _ _ _ _ _ w => w.elim
theorem sdI_stuck {t : TI} : SdI K cl Wx t env μ .stuck := fun _ _ _ _ _ _ _ _ w => w.elim
theorem sdL_stuck {t : TA} : SdL K cl Wx t env μ .stuck := fun _ _ _ _ _ _ _ _ w => w.elim
/-- an operation on a list of values -/
theorem sd_ta {t : TA} {r : List V → Hp → VK → Prop} {f : List PyData → Option PyData} {rl : Rs (List PyData)} (h : SdB K cl Wx t env μ rl)
    (hop : ∀ {W : Wd} {H : Hp} {vs : List V} {ds : List PyData} {z : PyData} {Q : VK}, WOk K cl W H → f ds = some z → RepsB K W H vs ds → PostB K cl W H z Q → r vs H Q) :
    Sd K cl Wx (tCB r t) env μ bv (rl.bind fun ds μ1 => opt (f ds) μ1) := fun H0 W H σ Q m o en w => by
  refine h H0 W H σ _ m o en ?_
  cases rl with
  | ex c μ' => exact w
  | stuck => exact w
  | ok ds μ1 =>
    intro vs W1 H1 m1 o1 g1 r1
    rw [Rs.bind_ok] at w
    cases ef : f ds with
    | none => rw [ef] at w; exact w.elim
    | some z =>
      rw [ef, opt_some] at w
      subst m1
      exact hop o1 ef r1 (postUp g1 w)
/-- an operation on a value -/
theorem sd_1 {k : V → Hp → VK → Prop} {f : PyData → Option PyData} (h : Sd K cl Wx ta env μ b1 ra)
    (hop : ∀ {W : Wd} {H : Hp} {x : V} {d z : PyData} {Q : VK}, WOk K cl W H → f d = some z → RepB K W H x d → PostB K cl W H z Q → k x H Q) :
    Sd K cl Wx (fun σ H Q => ta σ H fun x H1 => k x H1 Q) env μ bv (ra.bind fun x μ1 => opt (f x) μ1) := fun H0 W H σ Q m o en w => by
  refine h H0 W H σ _ m o en ?_
  cases ra with
  | ex c μ' => exact w
  | stuck => exact w
  | ok d μ1 =>
    intro v W1 H1 m1 o1 g1 r1 _
    rw [Rs.bind_ok] at w
    cases ef : f d with
    | none => rw [ef] at w; exact w.elim
    | some z =>
      rw [ef, opt_some] at w
      subst m1
      exact hop o1 ef r1 (postUp g1 w)
theorem isi_ok {T : String} {W : Wd} {H : Hp} {x : V} {d z : PyData} {Q : VK} (o : WOk K cl W H) (hz : (isiP T d).map PyData.bool = some z) (rx : RepB K W H x d) (k : PostB K cl W H z Q) : rIsi K [x, .ty T] H Q := by
  cases e : isiP T d with
  | none => rw [e] at hz; cases hz
  | some b =>
    rw [e] at hz
    cases hz
    have k' := k.here o (.bl b)
    unfold isiP at e
    split at e
    · cases rx.non; exact ⟨_, _, _, _, b, rfl, .ty T, .base .non, kit_ty e, k'⟩
    · cases rx.bl; exact ⟨_, _, _, _, b, rfl, .ty T, .base (.bl _), kit_ty e, k'⟩
    · cases rx.int; exact ⟨_, _, _, _, b, rfl, .ty T, .base (.int _), kit_ty e, k'⟩
    · cases rx.str; exact ⟨_, _, _, _, b, rfl, .ty T, .base (.str _), kit_ty e, k'⟩
    · obtain ⟨a, vs, rfl, hs, r⟩ := rx.lst o
      rcases hs with (hs | ⟨ob, hs⟩) | ⟨ob, its, n, h1, h2, _⟩
      · exact ⟨_, _, _, _, b, rfl, .ty T, .base (.lst hs), kit_ty e, k'⟩
      · exact ⟨_, _, _, _, b, rfl, .ty T, .base (.frz hs), kit_ty e, k'⟩
      · exact ⟨_, _, _, _, b, rfl, .ty T, .kList h1 h2, kit_ty e, k'⟩
    · obtain ⟨a, vs, rfl, hs, r⟩ := rx.tup o
      rcases hs with (hs | ⟨ob, hs⟩) | ⟨ob, its, n, h1, h2, _⟩
      · exact ⟨_, _, _, _, b, rfl, .ty T, .base (.tup hs), kit_ty e, k'⟩
      · exact ⟨_, _, _, _, b, rfl, .ty T, .fTuple hs, kit_ty e, k'⟩
      · exact ⟨_, _, _, _, b, rfl, .ty T, .kTuple h1 h2, kit_ty e, k'⟩
    · cases e
end
end PVL
end

section
set_option Elab.async false
set_option linter.all false
set_option maxRecDepth 100000
set_option maxHeartbeats 2000000
namespace PVL
open PySem PySem.Spec PyProof.Rows L2
section
variable {K : PySem.W.Frag} {cl : Nat → Addr} {Wx : WX} {W W' : Wd} {H H' H0 : Hp} {env : List SV} {σ : L2.St}
/-! ## frames that change -/
theorem EnvOk.set {v : V} {d : PyData} (h : EnvOk K H0 W H env σ) (r : Rep K W.F W.ι v d) (i : Nat) : EnvOk K H0 W H (env.set i (.pv d)) (σ.set i (some v)) := by
  refine ⟨by simp [h.len], fun j s e => ?_, fun j k s s' hjk e1 e2 o1 o2 => ?_⟩
  · by_cases hj : i = j
    · subst hj
      by_cases hl : i < env.length
      · rw [List.getElem?_set_self hl] at e
        cases e
        exact ⟨v, by rw [List.getElem?_set_self (by rw [h.len]; exact hl)], r⟩
      · rw [List.getElem?_eq_none (by simp; omega)] at e; cases e
    · rw [List.getElem?_set_ne hj] at e
      rw [List.getElem?_set_ne hj]
      exact h.slots j s e
  · have nj : i ≠ j := fun z => by
      subst z
      by_cases hl : i < env.length
      · rw [List.getElem?_set_self hl] at e1; cases e1; cases o1
      · rw [List.getElem?_eq_none (by simp; omega)] at e1; cases e1
    have nk : i ≠ k := fun z => by
      subst z
      by_cases hl : i < env.length
      · rw [List.getElem?_set_self hl] at e2; cases e2; cases o2
      · rw [List.getElem?_eq_none (by simp; omega)] at e2; cases e2
    rw [List.getElem?_set_ne nj] at e1 ⊢
    rw [List.getElem?_set_ne nk] at e2 ⊢
    exact h.apart j k s s' hjk e1 e2 o1 o2
theorem EnvOk.unset (h : EnvOk K H0 W H env σ) (i : Nat) (o : Option V) : EnvOk K H0 W H (env.set i .un) (σ.set i o) := by
  refine ⟨by simp [h.len], fun j s e => ?_, fun j k s s' hjk e1 e2 o1 o2 => ?_⟩
  · by_cases hj : i = j
    · subst hj
      by_cases hl : i < env.length
      · rw [List.getElem?_set_self hl] at e
        cases e
        exact trivial
      · rw [List.getElem?_eq_none (by simp; omega)] at e; cases e
    · rw [List.getElem?_set_ne hj] at e
      rw [List.getElem?_set_ne hj]
      exact h.slots j s e
  · have nj : i ≠ j := fun z => by
      subst z
      by_cases hl : i < env.length
      · rw [List.getElem?_set_self hl] at e1; cases e1; cases o1
      · rw [List.getElem?_eq_none (by simp; omega)] at e1; cases e1
    have nk : i ≠ k := fun z => by
      subst z
      by_cases hl : i < env.length
      · rw [List.getElem?_set_self hl] at e2; cases e2; cases o2
      · rw [List.getElem?_eq_none (by simp; omega)] at e2; cases e2
    rw [List.getElem?_set_ne nj] at e1 ⊢
    rw [List.getElem?_set_ne nk] at e2 ⊢
    exact h.apart j k s s' hjk e1 e2 o1 o2
theorem EnvOk.wipe (h : EnvOk K H0 W H env σ) : ∀ vs : List Nat, EnvOk K H0 W H (wipeE env vs) (L2.wipe σ vs)
  | [] => h
  | v :: vs => (EnvOk.wipe h vs).unset v none
theorem wipeE_len (env : List SV) : ∀ vs : List Nat, (wipeE env vs).length = env.length
  | [] => rfl
  | v :: vs => by unfold wipeE; rw [List.length_set, wipeE_len env vs]
theorem wipe_at {σ : L2.St} {j : Nat} : ∀ {vs : List Nat}, j ∈ vs → j < σ.length → (L2.wipe σ vs)[j]? = some none
  | v :: vs, hm, hl => by
    unfold L2.wipe
    by_cases e : v = j
    · subst e
      rw [List.getElem?_set_self (by rw [wipe_length]; exact hl)]
    · rw [List.getElem?_set_ne e]
      exact wipe_at (by rcases List.mem_cons.mp hm with z | z; exact absurd z.symm e; exact z) hl
theorem wipe_eq {σ σ2 : L2.St} {vs : List Nat} (hl : σ2.length = σ.length) (h : ∀ j, j ∉ vs → σ2[j]? = σ[j]?) : L2.wipe σ2 vs = L2.wipe σ vs := by
  apply List.ext_getElem?
  intro j
  by_cases hj : j ∈ vs
  · by_cases hlt : j < σ.length
    · rw [wipe_at hj hlt, wipe_at hj (by omega)]
    · rw [List.getElem?_eq_none (by rw [wipe_length]; omega), List.getElem?_eq_none (by rw [wipe_length]; omega)]
  · rw [wipe_out hj, wipe_out hj, h j hj]
/-- the frames alike but for some slots -/
def Near (l : List Nat) (σ σ2 : L2.St) : Prop := σ2.length = σ.length ∧ ∀ j, j ∉ l → σ2[j]? = σ[j]?
theorem putL_ok {Q : L2.St → Hp → Prop} : ∀ {is : List Nat} {ds : List PyData} {vs : List V} {env env' : List SV} {σ : L2.St}, EnvOk K H0 W H env σ → RepL K W.F W.ι vs ds → putL is ds env = some env' →
    (∀ σ2, EnvOk K H0 W H env' σ2 → Near is σ σ2 → Q σ2 H) → tgL is vs σ H Q
  | [], [], _, _, _, σ, h, r, e, k => by
    cases r
    cases e
    exact ⟨rfl, k σ h ⟨rfl, fun _ _ => rfl⟩⟩
  | i :: is, d :: ds, _, _, _, σ, h, r, e, k => by
    cases r with
    | cons r1 r2 =>
      refine ⟨_, _, rfl, ?_⟩
      exact putL_ok (h.set r1 i) r2 e fun σ2 h2 n => k σ2 h2 ⟨by rw [n.1, List.length_set], fun j hj => by
        rw [n.2 j (fun z => hj (List.mem_cons_of_mem _ z)), List.getElem?_set_ne (fun z => hj (by rw [z]; exact List.mem_cons_self))]⟩
  | [], _ :: _, _, _, _, _, _, _, e, _ => by cases e
  | _ :: _, [], _, _, _, _, _, _, e, _ => by cases e
theorem putL_len : ∀ {is : List Nat} {ds : List PyData} {env env' : List SV}, putL is ds env = some env' → is.length = ds.length
  | [], [], _, _, _ => rfl
  | i :: is, d :: ds, env, _, e => by simp [putL_len (is := is) (ds := ds) (env := env.set i (.pv d)) e]
  | [], _ :: _, _, _, e => by cases e
  | _ :: _, [], _, _, e => by cases e
theorem tg_ok {Q : L2.St → Hp → Prop} {tg : Tg} {v : V} {d : PyData} {env' : List SV} (ok : WOk K cl W H) (h : EnvOk K H0 W H env σ) (r : Rep K W.F W.ι v d) (e : tg.put d env = some env')
    (k : ∀ σ2, EnvOk K H0 W H env' σ2 → Near tg.slots σ σ2 → Q σ2 H) : tg.rd K v σ H Q := by
  cases tg with
  | nm i =>
    cases e
    exact k _ (h.set r i) ⟨by simp, fun j hj => by rw [List.getElem?_set_ne (fun z => hj (by rw [z]; exact List.mem_cons_self))]⟩
  | tp l =>
    unfold Tg.put at e
    split at e
    · cases ‹Tg.tp _ = Tg.nm _›
    · rename_i l' ds _ he
      cases he
      cases r with
      | tup hs hl =>
        exact ⟨_, _, rfl, Evl.ex_t ok.fh hs, by rw [hl.length, putL_len e], putL_ok h hl e k⟩
    · cases e

/-! ## a comprehension -/
theorem Go.mut {p : Addr} {o : HO} (g : Go W H W' H') (hp : H p = none) : Go W H W' (upd H' p o) :=
  ⟨g.f, g.fn, g.i, g.inew, fun b u e m => by rw [upd_ne (ne_of_none e hp)]; exact g.keep b u e m, fun b h => by
    have n : b ≠ p := by intro z; subst z; exact h hp
    rw [upd_ne n]
    exact g.there b h⟩
theorem CellAt.updNe {F : Hp} {ι : List Addr} {a p : Addr} {o : HO} {c : Cell} (hp : a ≠ p) (h : CellAt K F ι H a c) : CellAt K F ι (L2.upd H p o) a c := by
  cases c with
  | lst l =>
    obtain ⟨vs, e, r⟩ := h
    exact ⟨vs, by rw [upd_ne hp]; exact e, r⟩
  | dct l =>
    obtain ⟨kvs, e, r⟩ := h
    exact ⟨kvs, by rw [upd_ne hp]; exact e, r⟩
  | ins c fs =>
    obtain ⟨io, hf, dx, l, e, r⟩ := h
    exact ⟨io, hf, dx, l, by rw [upd_ne hp]; exact e, r⟩
  | dead =>
    show L2.upd H p o a ≠ none
    rw [upd_ne hp]
    exact h
/-- an object that is not told of changes -/
theorem WOk.mut {p : Addr} {o : HO} (ok : WOk K cl W H) (hF : W.F p = none) (hi : p ∉ W.ι) : WOk K cl W (upd H p o) :=
  ⟨fun b u e => by rw [upd_ne (ne_of_none e hF)]; exact ok.fh b u e, ok.iu, ok.len, fun n c a e1 e2 => (ok.cells n c a e1 e2).updNe (by intro z; subst z; exact hi (List.mem_of_getElem? e2)), ok.ap⟩
/-- what is wished of a new list -/
def WantN (K : PySem.W.Frag) (cl : Nat → Addr) (Wx : WX) (W : Wd) (H : Hp) (σ : L2.St) (Q : VK) : Rs PyData → Prop
  | .ok d μ' => ∃ l, d = .list l ∧ ∀ p vs W' H', W'.μ = μ' → WOk K cl W' H' → Go W H W' H' → H p = none → W'.F p = none → p ∉ W'.ι → H' p = some (.lst vs) → RepL K W'.F W'.ι vs l → Q (.ref p) H'
  | .ex c μ' => ∀ W' H', W'.μ = μ' → WOk K cl W' H' → Go W H W' H' → Wx (.ref (cl c)) none σ H'
  | .stuck => False
def SdN (K : PySem.W.Frag) (cl : Nat → Addr) (Wx : WX) (t : TE) (env : List SV) (μ : Store) (r : Rs PyData) : Prop :=
  ∀ H0 W H σ Q, W.μ = μ → WOk K cl W H → EnvOk K H0 W H env σ → WantN K cl Wx W H σ Q r → t σ H Q
theorem sd_ofN {t : TE} {μ : Store} {r : Rs PyData} {bv : Bool} (hl : ∀ d μ', r = .ok d μ' → ∃ l, d = .list l) (h : SdN K cl Wx t env μ r) : Sd K cl Wx t env μ bv r := fun H0 W H σ Q m o en w => by
  refine h H0 W H σ Q m o en ?_
  cases r with
  | ex c μ' => exact w
  | stuck => exact w
  | ok d μ' =>
    obtain ⟨l, rfl⟩ := hl _ _ rfl
    refine ⟨l, rfl, fun p vs W' H' m' o' g hp hF hi e rr => ?_⟩
    have r2 : Rep K (W'.fix p (.lst vs)).F (W'.fix p (.lst vs)).ι (.ref p) (.list l) :=
      .lst (SqL.of (show upd W'.F p (.lst vs) p = _ from upd_same)) (RepL.mono (sub_fix hF) (List.prefix_refl _) _ _ rr)
    exact w (.ref p) (W'.fix p (.lst vs)) H' m' (o'.fix hF hi e) (g.fix hF hp) (.inl r2) fun _ => r2
variable {μ : Store}
theorem sdN_comp {wi : TI} {tt : TT} {te : TE} {tg : Tg} {vs : List Nat} {ri : Rs (List PyData)} {fc : List SV → Store → Rs Bool} {fe : List SV → Store → Rs PyData}
    (hi : SdI K cl Wx wi env μ ri) (hc : ∀ env μ, SdT K cl noW tt env μ ((fc env μ).bind fun k μ' => .ok (.bool k) μ')) (he : ∀ env μ, Sd K cl noW te env μ false (fe env μ)) (hv : ∀ i, i ∈ tg.slots → i ∈ vs) (hlen : ∀ ds μ', ri = .ok ds μ' → ds.length ≤ lim) :
    SdN K cl Wx (tLc wi (tg.rd K) tt te vs) env μ (ri.bind fun ds μ1 => match cLoop tg (fun env' μ' => (fc env' μ').bind fun k μ2 => if k then (fe env' μ2).bind fun d μ3 => .ok (some d) μ3 else .ok none μ2) (wipeE env vs) ds μ1 with
      | .ok r μ2 => .ok (.list r) μ2
      | _ => .stuck) := fun H0 W H σ Q m o en w => by
  refine hi H0 W H σ _ m o en ?_
  cases ri with
  | ex c μ' => exact w
  | stuck => exact w
  | ok ds μ1 =>
    have hlim := hlen ds μ1 rfl
    rw [Rs.bind_ok] at w
    intro J W1 H1 m1 o1 g1 it D hD
    generalize hf : (fun (env' : List SV) (μ' : Store) => (fc env' μ').bind fun k μ2 => if k then (fe env' μ2).bind fun d μ3 => .ok (some d) μ3 else .ok none μ2) = f at w
    cases el : cLoop tg f (wipeE env vs) ds μ1 with
    | ex c μ' => rw [el] at w; exact w.elim
    | stuck => rw [el] at w; exact w.elim
    | ok r μ2 =>
      rw [el] at w
      obtain ⟨l, hl, w⟩ := w
      cases hl
      have en1 := en.go g1
      have hFD := o1.fnone hD
      have hiD := o1.notIn hD
      refine ⟨fun i mm Hi => mm = ds.length - i ∧ i ≤ ds.length ∧ ∃ Wi acc done r', WOk K cl Wi Hi ∧ Go W1 H1 Wi Hi ∧ Wi.F D = none ∧ D ∉ Wi.ι ∧ Hi D = some (.lst acc) ∧ RepL K Wi.F Wi.ι acc done ∧ acc.length ≤ i ∧
        cLoop tg f (wipeE env vs) (ds.drop i) Wi.μ = .ok r' μ2 ∧ done ++ r' = r, ⟨ds.length, ?_⟩, ?_⟩
      · refine ⟨by simp, Nat.zero_le _, W1, [], [], r, o1.new hD, Go.new hD, hFD, hiD, upd_same, .nil, Nat.zero_le _, ?_, rfl⟩
        rw [List.drop_zero, m1]
        exact el
      · rintro i mm Hi ⟨rfl, hil, Wi, acc, done, r', oi, gi, hF, hn, hD2, ra, hacc, hcl, hr⟩
        have itI := it Wi Hi oi gi.f gi.i i
        by_cases hlt : i < ds.length
        · obtain ⟨hgo, hy⟩ := itI.1 ds[i] (by simp [hlt])
          have hdrop : ds.drop i = ds[i] :: ds.drop (i + 1) := List.drop_eq_getElem_cons hlt
          rw [hdrop] at hcl
          unfold cLoop at hcl
          refine .inr ⟨hgo, fun Hn => ∃ Wn accn donen rn, WOk K cl Wn Hn ∧ Go W1 H1 Wn Hn ∧ Wn.F D = none ∧ D ∉ Wn.ι ∧ Hn D = some (.lst accn) ∧ RepL K Wn.F Wn.ι accn donen ∧ accn.length ≤ i + 1 ∧
            cLoop tg f (wipeE env vs) (ds.drop (i + 1)) Wn.μ = .ok rn μ2 ∧ donen ++ rn = r, fun H' h' => ⟨ds.length - (i + 1), by omega, rfl, hlt, h'⟩, fun x H' y => ?_⟩
          obtain ⟨W', mμ, o', g', rx⟩ := hy x H' y
          have enw : EnvOk K H0 W' H' (wipeE env vs) (L2.wipe σ vs) := ((en1.wipe vs).go gi).go g'
          cases ep : tg.put ds[i] (wipeE env vs) with
          | none => rw [ep] at hcl; cases hcl
          | some env' =>
            rw [ep] at hcl
            refine tg_ok o' enw rx ep fun σ2 en2 nr => ⟨?_, ?_⟩
            · have e1 := wipe_eq (σ := L2.wipe σ vs) (σ2 := σ2) (vs := vs) nr.1 fun j hj => nr.2 j fun z => hj (hv j z)
              rw [e1]
              exact wipe_eq (wipe_length _ _) fun j hj => wipe_out hj
            · refine hc env' Wi.μ H0 W' H' σ2 _ mμ o' en2 ?_
              have hcl' := hcl
              rw [← hf] at hcl'
              simp only at hcl'
              have hk : H' D = some (.lst acc) := g'.keep D _ hD2 hn
              have hF' : W'.F D = none := g'.fn D (by rw [hD2]; simp) hF hn
              have hn' : D ∉ W'.ι := fun z => hn (g'.inew D z (by rw [hD2]; simp))
              cases ec : fc env' Wi.μ with
              | ex c μ' => rw [ec] at hcl'; cases hcl'
              | stuck => rw [ec] at hcl'; cases hcl'
              | ok k μ3 =>
                rw [ec, Rs.bind_ok] at hcl'
                refine ⟨k, rfl, fun W3 H3 m3 o3 g3 => ?_⟩
                have hk3 : H3 D = some (.lst acc) := g3.keep D _ hk hn'
                have hF3 : W3.F D = none := g3.fn D (by rw [hk]; simp) hF' hn'
                have hn3 : D ∉ W3.ι := fun z => hn' (g3.inew D z (by rw [hk]; simp))
                cases k with
                | false =>
                  show (if false = true then _ else _)
                  rw [if_neg Bool.false_ne_true]
                  simp only [Bool.false_eq_true, if_false] at hcl'
                  cases ed : cLoop tg (fun (env' : List SV) (μ' : Store) => (fc env' μ').bind fun k μ2 => if k then (fe env' μ2).bind fun d μ3 => .ok (some d) μ3 else .ok none μ2) (wipeE env vs) (ds.drop (i + 1)) μ3 with
                  | ex c μ' => rw [ed] at hcl'; cases hcl'
                  | stuck => rw [ed] at hcl'; cases hcl'
                  | ok r4 μ4 =>
                    rw [ed] at hcl'
                    simp only [Option.toList_none, List.nil_append] at hcl'
                    cases hcl'
                    exact ⟨W3, acc, done, r', o3, (gi.trans g').trans g3, hF3, hn3, hk3, (g'.trans g3).repL ra, by omega, by rw [m3, ← hf]; exact ed, hr⟩
                | true =>
                  show (if true = true then _ else _)
                  rw [if_pos rfl]
                  simp only [if_true] at hcl'
                  refine he env' μ3 H0 W3 H3 σ2 _ m3 o3 (en2.go g3) ?_
                  cases ee : fe env' μ3 with
                  | ex c μ' => rw [ee] at hcl'; cases hcl'
                  | stuck => rw [ee] at hcl'; cases hcl'
                  | ok d μ4 =>
                    rw [ee, Rs.bind_ok] at hcl'
                    simp only at hcl'
                    intro v W4 H4 m4 o4 g4 _ r4
                    have hk4 : H4 D = some (.lst acc) := g4.keep D _ hk3 hn3
                    have hF4 : W4.F D = none := g4.fn D (by rw [hk3]; simp) hF3 hn3
                    have hn4 : D ∉ W4.ι := fun z => hn3 (g4.inew D z (by rw [hk3]; simp))
                    cases ed : cLoop tg (fun (env' : List SV) (μ' : Store) => (fc env' μ').bind fun k μ2 => if k then (fe env' μ2).bind fun d μ3 => .ok (some d) μ3 else .ok none μ2) (wipeE env vs) (ds.drop (i + 1)) μ4 with
                    | ex c μ' => rw [ed] at hcl'; cases hcl'
                    | stuck => rw [ed] at hcl'; cases hcl'
                    | ok r5 μ5 =>
                      rw [ed] at hcl'
                      simp only [Option.toList_some, List.cons_append, List.nil_append] at hcl'
                      cases hcl'
                      refine ⟨acc, hk4, Nat.lt_of_lt_of_le (Nat.lt_of_le_of_lt hacc hlt) (lim_le hlim), W4, acc ++ [v], done ++ [d], r5, o4.mut hF4 hn4, Go.mut (((gi.trans g').trans g3).trans g4) hD, hF4, hn4, upd_same, ?_, ?_, ?_, ?_⟩
                      · exact (((g'.trans g3).trans g4).repL ra).append (.cons (r4 rfl) .nil)
                      · rw [List.length_append]
                        simp only [List.length_cons, List.length_nil]
                        omega
                      · rw [m4, ← hf]
                        exact ed
                      · rw [List.append_assoc]
                        exact hr
        · have hi2 : i = ds.length := by omega
          refine .inl ⟨itI.2 (by omega), ?_⟩
          rw [List.drop_of_length_le (by omega)] at hcl
          unfold cLoop at hcl
          cases hcl
          rw [List.append_nil] at hr
          subst hr
          have hW : H D = none := by
            cases q : H D with
            | none => rfl
            | some u =>
              exact absurd hD (g1.there D (by rw [q]; simp))
          exact w D acc Wi Hi rfl oi (g1.trans gi) hW hF hn hD2 ra
end
end PVL
end

section
set_option Elab.async false
set_option linter.all false
set_option maxRecDepth 100000
set_option maxHeartbeats 4000000
namespace PVL
open PySem PySem.Spec PyProof.Rows L2
section
variable {K : PySem.W.Frag} {cl : Nat → Addr} {Wx : WX} {env : List SV} {μ : Store}
/-! ## what is walked -/
theorem it_list {F : Hp} {ι : List Addr} {a : Addr} {vs : List V} {ds : List PyData} (hs : SqL K F a vs) (r : RepL K F ι vs ds) : ItOk K cl F ι (Itl K a) ds := fun W H ok sf si i => by
  have hs' : SqL K H a vs := Evl.ex_l ok.fh (Evl.ex_l sf hs)
  have r' := RepL.mono sf si _ _ r
  refine ⟨fun d e => ?_, fun hl => ⟨vs, hs', by rw [r.length]; exact hl⟩⟩
  obtain ⟨v, hv, rv⟩ := r'.get e
  exact ⟨⟨vs, v, hs', hv⟩, fun x H' y => by
    obtain ⟨rfl, y2⟩ := y
    have : vs[i]? = some x := y2 vs hs'
    rw [hv] at this
    cases this
    exact ⟨W, rfl, ok, Go.refl _ _, rv⟩⟩
theorem it_tup {F : Hp} {ι : List Addr} {a : Addr} {vs : List V} {ds : List PyData} (hs : SqT K F a vs) (r : RepL K F ι vs ds) : ItOk K cl F ι (Itt K a) ds := fun W H ok sf si i => by
  have hs' : SqT K H a vs := Evl.ex_t ok.fh (Evl.ex_t sf hs)
  have r' := RepL.mono sf si _ _ r
  refine ⟨fun d e => ?_, fun hl => ⟨vs, hs', by rw [r.length]; exact hl⟩⟩
  obtain ⟨v, hv, rv⟩ := r'.get e
  exact ⟨⟨vs, v, hs', hv⟩, fun x H' y => by
    obtain ⟨rfl, y2⟩ := y
    have : vs[i]? = some x := y2 vs hs'
    rw [hv] at this
    cases this
    exact ⟨W, rfl, ok, Go.refl _ _, rv⟩⟩
theorem rngD_len (lo : Int) (n : Nat) : (rngD lo n).length = n := by simp [rngD]
theorem rngD_get {lo : Int} {n i : Nat} {d : PyData} (h : (rngD lo n)[i]? = some d) : i < n ∧ d = .int (lo + i) := by
  have hi : i < n := by
    have := (List.getElem?_eq_some_iff.mp h).1
    rw [rngD_len] at this
    exact this
  refine ⟨hi, ?_⟩
  unfold rngD at h
  rw [List.getElem?_map, List.getElem?_range hi] at h
  cases h
  rfl
theorem it_rng {F : Hp} {ι : List Addr} {lo : Int} {n : Nat} : ItOk K cl F ι (Itr lo n) (rngD lo n) := fun W H ok sf si i => by
  refine ⟨fun d e => ?_, fun hl => ?_⟩
  · obtain ⟨hi, rfl⟩ := rngD_get e
    exact ⟨hi, fun x H' y => by
      obtain ⟨rfl, rfl⟩ := y
      exact ⟨W, rfl, ok, Go.refl _ _, .int _⟩⟩
  · rw [rngD_len] at hl
    exact hl
theorem yldPair {W : Wd} {H : Hp} {x y : V} {d e : PyData} {T : Addr} (ok : WOk K cl W H) (hT : H T = none) (rx : Rep K W.F W.ι x d) (ry : Rep K W.F W.ι y e) :
    ∃ W', W'.μ = W.μ ∧ WOk K cl W' (upd H T (.tup [x, y])) ∧ Go W H W' (upd H T (.tup [x, y])) ∧ Rep K W'.F W'.ι (.ref T) (.tuple [d, e]) := by
  have hF := ok.fnone hT
  have hi := ok.notIn hT
  refine ⟨W.fix T (.tup [x, y]), rfl, (ok.new hT).fix hF hi upd_same, (Go.new hT).fix hF hT, ?_⟩
  have sb : Sub W.F (upd W.F T (.tup [x, y])) := sub_fix hF
  exact .tup (SqT.of (show upd W.F T (.tup [x, y]) T = _ from upd_same)) (.cons (Rep.mono sb (List.prefix_refl _) _ _ rx) (.cons (Rep.mono sb (List.prefix_refl _) _ _ ry) .nil))
theorem zipD_get : ∀ {xs ys : List PyData} {i : Nat} {d : PyData}, (zipD xs ys)[i]? = some d → ∃ a b, xs[i]? = some a ∧ ys[i]? = some b ∧ d = .tuple [a, b]
  | x :: xs, y :: ys, 0, d, h => by simp [zipD] at h; exact ⟨x, y, rfl, rfl, h.symm⟩
  | x :: xs, y :: ys, i + 1, d, h => by
    obtain ⟨a, b, h1, h2, h3⟩ := zipD_get (xs := xs) (ys := ys) (i := i) (d := d) (by simpa [zipD] using h)
    exact ⟨a, b, by simpa using h1, by simpa using h2, h3⟩
  | [], _, _, _, h => by simp [zipD] at h
  | _ :: _, [], _, _, h => by simp [zipD] at h
theorem zipD_len : ∀ {xs ys : List PyData} {i : Nat}, (zipD xs ys).length ≤ i → xs.length ≤ i ∨ ys.length ≤ i
  | x :: xs, y :: ys, 0, h => by simp [zipD] at h
  | x :: xs, y :: ys, i + 1, h => by
    have := zipD_len (xs := xs) (ys := ys) (i := i) (by simpa [zipD] using h)
    simpa using this
  | [], _, _, h => .inl (by simp)
  | _ :: _, [], _, h => .inr (by simp)
theorem it_zip {F : Hp} {ι : List Addr} {a b : Addr} {vs ws : List V} {xs ys : List PyData} (hs : SqL K F a vs) (r : RepL K F ι vs xs) (hs2 : SqL K F b ws) (r2 : RepL K F ι ws ys) : ItOk K cl F ι (Itz K a b) (zipD xs ys) := fun W H ok sf si i => by
  have h1 : SqL K H a vs := Evl.ex_l ok.fh (Evl.ex_l sf hs)
  have h2 : SqL K H b ws := Evl.ex_l ok.fh (Evl.ex_l sf hs2)
  have r1' := RepL.mono sf si _ _ r
  have r2' := RepL.mono sf si _ _ r2
  refine ⟨fun d e => ?_, fun hl => ?_⟩
  · obtain ⟨x, y, e1, e2, rfl⟩ := zipD_get e
    obtain ⟨v, hv, rv⟩ := r1'.get e1
    obtain ⟨w, hw, rw'⟩ := r2'.get e2
    refine ⟨⟨vs, ws, v, w, h1, h2, hv, hw⟩, fun x' H' yl => ?_⟩
    obtain ⟨T, p, q, rfl, hT, rfl, y1, y2⟩ := yl
    have e3 := y1 vs h1
    rw [hv] at e3
    cases e3
    have e4 := y2 ws h2
    rw [hw] at e4
    cases e4
    exact yldPair ok hT rv rw'
  · rcases zipD_len hl with z | z
    · exact ⟨vs, ws, h1, h2, .inl (by rw [r.length]; exact z)⟩
    · exact ⟨vs, ws, h1, h2, .inr (by rw [r2.length]; exact z)⟩
theorem enumD_get : ∀ {xs : List PyData} {k i : Nat} {d : PyData}, (enumD k xs)[i]? = some d → ∃ a, xs[i]? = some a ∧ d = .tuple [.int ((k + i : Nat) : Int), a]
  | x :: xs, k, 0, d, h => by simp [enumD] at h; exact ⟨x, rfl, h.symm⟩
  | x :: xs, k, i + 1, d, h => by
    obtain ⟨a, h1, h3⟩ := enumD_get (xs := xs) (k := k + 1) (i := i) (d := d) (by simpa [enumD] using h)
    have : k + 1 + i = k + (i + 1) := by omega
    rw [this] at h3
    exact ⟨a, by simpa using h1, h3⟩
  | [], _, _, _, h => by simp [enumD] at h
theorem enumD_len : ∀ (xs : List PyData) (k : Nat), (enumD k xs).length = xs.length
  | [], _ => rfl
  | x :: xs, k => by simp [enumD, enumD_len xs (k + 1)]
theorem it_enum {F : Hp} {ι : List Addr} {a : Addr} {vs : List V} {xs : List PyData} (hs : SqL K F a vs) (r : RepL K F ι vs xs) : ItOk K cl F ι (Ite K a) (enumD 0 xs) := fun W H ok sf si i => by
  have h1 : SqL K H a vs := Evl.ex_l ok.fh (Evl.ex_l sf hs)
  have r1' := RepL.mono sf si _ _ r
  refine ⟨fun d e => ?_, fun hl => ⟨vs, h1, by rw [r.length, ← enumD_len xs 0]; exact hl⟩⟩
  obtain ⟨x, e1, rfl⟩ := enumD_get e
  obtain ⟨v, hv, rv⟩ := r1'.get e1
  refine ⟨⟨vs, v, h1, hv⟩, fun x' H' yl => ?_⟩
  obtain ⟨T, q, rfl, hT, rfl, y1⟩ := yl
  have e3 := y1 vs h1
  rw [hv] at e3
  cases e3
  rw [Nat.zero_add]
  exact yldPair ok hT (.int _) rv

/-! ## expressions -/
variable (K cl) (C : Calls)
theorem sd_conv {t : TE} {bv : Bool} {r r' : Rs PyData} (h : Sd K cl Wx t env μ bv r) (e : r' = r) : Sd K cl Wx t env μ bv r' := e ▸ h
theorem asI_of {d : PyData} {o : Option Int} (h : asI d = some o) : ∃ i, d = .int i ∧ o = some i := by
  cases d <;> simp [asI] at h
  exact ⟨_, rfl, h.symm⟩
theorem asB_of {d : PyData} {k : Bool} (h : asB d = some k) : d = .bool k := by
  cases d <;> simp [asB] at h
  rw [h]
/-- a slice's part -/
def SdO (K : PySem.W.Frag) (cl : Nat → Addr) (Wx : WX) (t : TO) (env : List SV) (μ : Store) (r : Rs (Option Int)) : Prop := ∀ H0 W H σ Q, W.μ = μ → WOk K cl W H → EnvOk K H0 W H env σ →
  (match r with
    | .ok o μ' => ∀ W' H', W'.μ = μ' → WOk K cl W' H' → Go W H W' H' → Q o H'
    | .ex c μ' => ∀ W' H', W'.μ = μ' → WOk K cl W' H' → Go W H W' H' → Wx (.ref (cl c)) none σ H'
    | .stuck => False) → t σ H Q
variable {K cl}
theorem sdO_part {t : TE} {bv : Bool} {r : Rs PyData} (h : Sd K cl Wx t env μ bv r) : SdO K cl Wx (tPart t) env μ (r.bind fun l μ2 => opt (asI l) μ2) := fun H0 W H σ Q m o en w => by
  refine h H0 W H σ _ m o en ?_
  cases r with
  | ex c μ' => exact w
  | stuck => exact w
  | ok d μ' =>
    intro v W1 H1 m1 o1 g1 r1 _
    rw [Rs.bind_ok] at w
    cases e : asI d with
    | none => rw [e] at w; exact w.elim
    | some oo =>
      obtain ⟨i, rfl, rfl⟩ := asI_of e
      rw [e, opt_some] at w
      exact ⟨i, r1.int, w W1 H1 m1 o1 g1⟩
theorem sdO_no : SdO K cl Wx tNoPart env μ (.ok none μ) := fun H0 W H σ Q m o en w => w W H m o (Go.refl _ _)
theorem sd_slc {t : TE} {tl th : TO} {bv b1 : Bool} {r : Rs PyData} {fl fh : Store → Rs (Option Int)} (h : Sd K cl Wx t env μ b1 r) (hl : ∀ μ, SdO K cl Wx tl env μ (fl μ)) (hh : ∀ μ, SdO K cl Wx th env μ (fh μ)) :
    Sd K cl Wx (tSl (rSlc K) t tl th) env μ bv (r.bind fun x μ1 => (fl μ1).bind fun l μ2 => (fh μ2).bind fun u μ3 => opt (slcP x l u) μ3) := fun H0 W H σ Q m o en w => by
  refine h H0 W H σ _ m o en ?_
  cases r with
  | ex c μ' => exact w
  | stuck => exact w
  | ok d μ1 =>
    intro v W1 H1 m1 o1 g1 r1 _
    refine hl μ1 H0 W1 H1 σ _ m1 o1 (en.go g1) ?_
    rw [Rs.bind_ok] at w
    cases el : fl μ1 with
    | ex c μ' => rw [el] at w; exact exUp g1 w
    | stuck => rw [el] at w; exact w
    | ok l μ2 =>
      rw [el, Rs.bind_ok] at w
      intro W2 H2 m2 o2 g2
      refine hh μ2 H0 W2 H2 σ _ m2 o2 ((en.go g1).go g2) ?_
      cases eh : fh μ2 with
      | ex c μ' => rw [eh] at w; exact exUp (g1.trans g2) w
      | stuck => rw [eh] at w; exact w
      | ok u μ3 =>
        rw [eh, Rs.bind_ok] at w
        intro W3 H3 m3 o3 g3
        cases ef : slcP d l u with
        | none => rw [ef] at w; exact w.elim
        | some z =>
          rw [ef, opt_some] at w
          subst m3
          exact slc_ok o3 ef ((r1.go g2).go g3) (postUp ((g1.trans g2).trans g3) w)
theorem sd_of_bool {t : TE} {bv : Bool} {r : Rs PyData} : Sd K cl Wx t env μ false r → Sd K cl Wx t env μ bv r := sd_weak
theorem tru_okP {W : Wd} {H : Hp} {x : V} {d : PyData} {k : Bool} (ok : WOk K cl W H) (h : truP d = some k) (r : RepB K W H x d) : TruV K x H k := by
  unfold truP at h
  split at h
  · cases r.non; cases h; rfl
  · cases r.bl; cases h; rfl
  · cases r.int; cases h; rfl
  · cases r.str
    split at h
    · rename_i hl; cases h; exact ⟨lim_le hl, rfl⟩
    · cases h
  · obtain ⟨a, vs, rfl, hs, rr⟩ := r.lst ok
    cases h
    exact .inl ⟨vs, hs, by cases rr <;> rfl⟩
  · obtain ⟨a, vs, rfl, hs, rr⟩ := r.tup ok
    cases h
    exact .inr (.inl ⟨vs, hs, by cases rr <;> rfl⟩)
  · cases h
end
end PVL
end

section
set_option Elab.async false
set_option linter.all false
set_option maxRecDepth 100000
set_option maxHeartbeats 8000000
namespace PVL
open PySem PySem.Spec PyProof.Rows L2
section
variable {K : PySem.W.Frag} {cl : Nat → Addr} {env : List SV} {μ : Store} (C : Calls)
theorem sd_and {Wx : WX} {ta tb : TE} {ra : Rs PyData} {b1 bv q : Bool} {fb : Store → Rs PyData} (ha : Sd K cl Wx ta env μ b1 ra) (hb : q = false → ∀ μ, Sd K cl Wx tb env μ false (fb μ)) :
    Sd K cl Wx (tAndV ta tb) env μ bv (ra.bind fun x μ1 => match x with
      | .bool true => if q then .stuck else fb μ1
      | .bool false => .ok (.bool false) μ1
      | _ => .stuck) := fun H0 W H σ Q m o en w => by
  refine ha H0 W H σ _ m o en ?_
  cases ra with
  | ex c μ' => exact w
  | stuck => exact w
  | ok d μ1 =>
    intro v W1 H1 m1 o1 g1 r1 _
    rw [Rs.bind_ok] at w
    split at w
    · cases r1.bl
      refine ⟨true, rfl, ?_⟩
      cases q with
      | true => exact w.elim
      | false =>
        show tb σ H1 Q
        refine hb rfl μ1 H0 W1 H1 σ Q m1 o1 (en.go g1) ?_
        simp only [Bool.false_eq_true, if_false] at w
        cases e : fb μ1 with
        | ex c μ' => rw [e] at w; exact exUp g1 w
        | stuck => rw [e] at w; exact w
        | ok z μ2 =>
          rw [e] at w
          exact fun u W2 H2 m2 o2 g2 r2 r3 => w u W2 H2 m2 o2 (g1.trans g2) r2 fun _ => r3 rfl
    · cases r1.bl
      exact ⟨false, rfl, w _ W1 H1 m1 o1 g1 r1 fun _ => .bl _⟩
    · exact w.elim
theorem sd_or {Wx : WX} {ta tb : TE} {ra : Rs PyData} {b1 bv q : Bool} {fb : Store → Rs PyData} (ha : Sd K cl Wx ta env μ b1 ra) (hb : q = false → ∀ μ, Sd K cl Wx tb env μ false (fb μ)) :
    Sd K cl Wx (tOrV ta tb) env μ bv (ra.bind fun x μ1 => match x with
      | .bool true => .ok (.bool true) μ1
      | .bool false => if q then .stuck else fb μ1
      | _ => .stuck) := fun H0 W H σ Q m o en w => by
  refine ha H0 W H σ _ m o en ?_
  cases ra with
  | ex c μ' => exact w
  | stuck => exact w
  | ok d μ1 =>
    intro v W1 H1 m1 o1 g1 r1 _
    rw [Rs.bind_ok] at w
    split at w
    · cases r1.bl
      exact ⟨true, rfl, w _ W1 H1 m1 o1 g1 r1 fun _ => .bl _⟩
    · cases r1.bl
      refine ⟨false, rfl, ?_⟩
      cases q with
      | true => exact w.elim
      | false =>
        show tb σ H1 Q
        refine hb rfl μ1 H0 W1 H1 σ Q m1 o1 (en.go g1) ?_
        simp only [Bool.false_eq_true, if_false] at w
        cases e : fb μ1 with
        | ex c μ' => rw [e] at w; exact exUp g1 w
        | stuck => rw [e] at w; exact w
        | ok z μ2 =>
          rw [e] at w
          exact fun u W2 H2 m2 o2 g2 r2 r3 => w u W2 H2 m2 o2 (g1.trans g2) r2 fun _ => r3 rfl
    · exact w.elim
theorem sdT_and {Wx : WX} {ta tb : TT} {ra : Rs PyData} {q : Bool} {fb : Store → Rs PyData} (ha : SdT K cl Wx ta env μ ra) (hb : q = false → ∀ μ, SdT K cl Wx tb env μ (fb μ)) :
    SdT K cl Wx (tAnd ta tb) env μ (ra.bind fun x μ1 => match x with
      | .bool true => if q then .stuck else fb μ1
      | .bool false => .ok (.bool false) μ1
      | _ => .stuck) := fun H0 W H σ Q m o en w => by
  refine ha H0 W H σ _ m o en ?_
  cases ra with
  | ex c μ' => exact w
  | stuck => exact w
  | ok d μ1 =>
    rw [Rs.bind_ok] at w
    split at w
    · refine ⟨true, rfl, fun W1 H1 m1 o1 g1 => ?_⟩
      cases q with
      | true => exact w.elim
      | false =>
        show tb σ H1 Q
        refine hb rfl μ1 H0 W1 H1 σ Q m1 o1 (en.go g1) ?_
        simp only [Bool.false_eq_true, if_false] at w
        cases e : fb μ1 with
        | ex c μ' => rw [e] at w; exact exUp g1 w
        | stuck => rw [e] at w; exact w
        | ok z μ2 =>
          rw [e] at w
          obtain ⟨k, rfl, w⟩ := w
          exact ⟨k, rfl, fun W2 H2 m2 o2 g2 => w W2 H2 m2 o2 (g1.trans g2)⟩
    · obtain ⟨k, e, w⟩ := w
      cases e
      exact ⟨false, rfl, fun W1 H1 m1 o1 g1 => w W1 H1 m1 o1 g1⟩
    · exact w.elim
theorem sdT_or {Wx : WX} {ta tb : TT} {ra : Rs PyData} {q : Bool} {fb : Store → Rs PyData} (ha : SdT K cl Wx ta env μ ra) (hb : q = false → ∀ μ, SdT K cl Wx tb env μ (fb μ)) :
    SdT K cl Wx (tOr ta tb) env μ (ra.bind fun x μ1 => match x with
      | .bool true => .ok (.bool true) μ1
      | .bool false => if q then .stuck else fb μ1
      | _ => .stuck) := fun H0 W H σ Q m o en w => by
  refine ha H0 W H σ _ m o en ?_
  cases ra with
  | ex c μ' => exact w
  | stuck => exact w
  | ok d μ1 =>
    rw [Rs.bind_ok] at w
    split at w
    · obtain ⟨k, e, w⟩ := w
      cases e
      exact ⟨true, rfl, fun W1 H1 m1 o1 g1 => w W1 H1 m1 o1 g1⟩
    · refine ⟨false, rfl, fun W1 H1 m1 o1 g1 => ?_⟩
      cases q with
      | true => exact w.elim
      | false =>
        show tb σ H1 Q
        refine hb rfl μ1 H0 W1 H1 σ Q m1 o1 (en.go g1) ?_
        simp only [Bool.false_eq_true, if_false] at w
        cases e : fb μ1 with
        | ex c μ' => rw [e] at w; exact exUp g1 w
        | stuck => rw [e] at w; exact w
        | ok z μ2 =>
          rw [e] at w
          obtain ⟨k, rfl, w⟩ := w
          exact ⟨k, rfl, fun W2 H2 m2 o2 g2 => w W2 H2 m2 o2 (g1.trans g2)⟩
    · exact w.elim
theorem sd_not {Wx : WX} {ta : TE} {ra : Rs PyData} {b1 bv : Bool} (ha : Sd K cl Wx ta env μ b1 ra) : Sd K cl Wx (tNotV ta) env μ bv (ra.bind fun x μ1 => match x with
      | .bool k => .ok (.bool (!k)) μ1
      | _ => .stuck) := fun H0 W H σ Q m o en w => by
  refine ha H0 W H σ _ m o en ?_
  cases ra with
  | ex c μ' => exact w
  | stuck => exact w
  | ok d μ1 =>
    intro v W1 H1 m1 o1 g1 r1 _
    rw [Rs.bind_ok] at w
    split at w
    · cases r1.bl
      exact ⟨_, rfl, w _ W1 H1 m1 o1 g1 (.inl (.bl _)) fun _ => .bl _⟩
    · exact w.elim
theorem sdT_not {Wx : WX} {ta : TT} {ra : Rs PyData} (ha : SdT K cl Wx ta env μ ra) : SdT K cl Wx (tNot ta) env μ (ra.bind fun x μ1 => match x with
      | .bool k => .ok (.bool (!k)) μ1
      | _ => .stuck) := fun H0 W H σ Q m o en w => by
  refine ha H0 W H σ _ m o en ?_
  cases ra with
  | ex c μ' => exact w
  | stuck => exact w
  | ok d μ1 =>
    rw [Rs.bind_ok] at w
    split at w
    · obtain ⟨k, e, w⟩ := w
      cases e
      exact ⟨_, rfl, fun W1 H1 m1 o1 g1 => w W1 H1 m1 o1 g1⟩
    · exact w.elim
theorem sd_ite {Wx : WX} {tc : TT} {ta tb : TE} {rc : Rs PyData} {bv q : Bool} {fa fb : Store → Rs PyData} (hc : SdT K cl Wx tc env μ rc) (ha : q = false → ∀ μ, Sd K cl Wx ta env μ false (fa μ)) (hb : q = false → ∀ μ, Sd K cl Wx tb env μ false (fb μ)) :
    Sd K cl Wx (tIf tc ta tb) env μ bv (rc.bind fun x μ1 => if q then .stuck else match x with
      | .bool true => fa μ1
      | .bool false => fb μ1
      | _ => .stuck) := fun H0 W H σ Q m o en w => by
  refine hc H0 W H σ _ m o en ?_
  cases rc with
  | ex c μ' => exact w
  | stuck => exact w
  | ok d μ1 =>
    rw [Rs.bind_ok] at w
    cases q with
    | true => exact w.elim
    | false =>
      simp only [Bool.false_eq_true, if_false] at w
      split at w
      · refine ⟨true, rfl, fun W1 H1 m1 o1 g1 => ?_⟩
        show ta σ H1 Q
        refine ha rfl μ1 H0 W1 H1 σ Q m1 o1 (en.go g1) ?_
        cases e : fa μ1 with
        | ex c μ' => rw [e] at w; exact exUp g1 w
        | stuck => rw [e] at w; exact w
        | ok z μ2 =>
          rw [e] at w
          exact fun u W2 H2 m2 o2 g2 r2 r3 => w u W2 H2 m2 o2 (g1.trans g2) r2 fun _ => r3 rfl
      · refine ⟨false, rfl, fun W1 H1 m1 o1 g1 => ?_⟩
        show tb σ H1 Q
        refine hb rfl μ1 H0 W1 H1 σ Q m1 o1 (en.go g1) ?_
        cases e : fb μ1 with
        | ex c μ' => rw [e] at w; exact exUp g1 w
        | stuck => rw [e] at w; exact w
        | ok z μ2 =>
          rw [e] at w
          exact fun u W2 H2 m2 o2 g2 r2 r3 => w u W2 H2 m2 o2 (g1.trans g2) r2 fun _ => r3 rfl
      · exact w.elim
theorem sd_chain {Wx : WX} {ta tb tc : TE} {o o' : COp} {ra : Rs PyData} {b1 b2 b3 bv : Bool} {fb fc : Store → Rs PyData} (ha : Sd K cl Wx ta env μ b1 ra) (hb : ∀ μ, Sd K cl Wx tb env μ b2 (fb μ)) (hc : ∀ μ, Sd K cl Wx tc env μ b3 (fc μ)) :
    Sd K cl Wx (tChain (rCmp K o) (rCmp K o') ta tb tc) env μ bv (ra.bind fun x μ1 => (fb μ1).bind fun y μ2 => match cmpP o x y with
      | some (.bool true) => (fc μ2).bind fun z μ3 => opt (cmpP o' y z) μ3
      | some (.bool false) => .ok (.bool false) μ2
      | _ => .stuck) := fun H0 W H σ Q m ok en w => by
  refine ha H0 W H σ _ m ok en ?_
  cases ra with
  | ex c μ' => exact w
  | stuck => exact w
  | ok d μ1 =>
    intro v W1 H1 m1 o1 g1 r1 _
    refine hb μ1 H0 W1 H1 σ _ m1 o1 (en.go g1) ?_
    rw [Rs.bind_ok] at w
    cases eb : fb μ1 with
    | ex c μ' => rw [eb] at w; exact exUp g1 w
    | stuck => rw [eb] at w; exact w
    | ok e μ2 =>
      rw [eb, Rs.bind_ok] at w
      intro u W2 H2 m2 o2 g2 r2 _
      split at w
      · rename_i hq
        refine cmp_ok o2 hq (r1.go g2) r2 fun z W3 H3 m3 o3 g3 r3 => ?_
        cases r3
        refine ⟨true, rfl, ?_⟩
        show tc σ H3 _
        have m3' : W3.μ = μ2 := m3.trans m2
        refine hc μ2 H0 W3 H3 σ _ m3' o3 (((en.go g1).go g2).go g3) ?_
        cases ec : fc μ2 with
        | ex c μ' => rw [ec] at w; exact exUp ((g1.trans g2).trans g3) w
        | stuck => rw [ec] at w; exact w
        | ok f μ4 =>
          rw [ec, Rs.bind_ok] at w
          intro x4 W4 H4 m4 o4 g4 r4 _
          cases ef : cmpP o' e f with
          | none => rw [ef] at w; exact w.elim
          | some z =>
            rw [ef, opt_some] at w
            subst m4
            exact cmp_ok o4 ef ((r2.go g3).go g4) r4 (postUp (((g1.trans g2).trans g3).trans g4) w)
      · rename_i hq
        refine cmp_ok o2 hq (r1.go g2) r2 fun z W3 H3 m3 o3 g3 r3 => ?_
        cases r3
        refine ⟨false, rfl, ?_⟩
        show Q (.bl false) H3
        exact w _ W3 H3 (m3.trans m2) o3 ((g1.trans g2).trans g3) (.inl (.bl _)) fun _ => .bl _
      · exact w.elim
theorem sd_call {Wx : WX} {t : TA} {f : Nat} {rl : Rs (List PyData)} {bv : Bool} (h : SdL K cl Wx t env μ rl) : Sd K cl Wx (tCallS (spOf K cl C f) (WE Wx) t) env μ bv (rl.bind fun ds μ1 => C f ds μ1) := fun H0 W H σ Q m o en w => by
  refine h H0 W H σ _ m o en ?_
  cases rl with
  | ex c μ' => exact w
  | stuck => exact w
  | ok ds μ1 =>
    intro vs W1 H1 m1 o1 g1 r1
    rw [Rs.bind_ok] at w
    refine ⟨W1, ds, o1, r1, ?_⟩
    rw [m1]
    cases e : C f ds μ1 with
    | ex c μ' => rw [e] at w; exact exUp g1 w
    | stuck => rw [e] at w; exact w
    | ok d μ2 =>
      rw [e] at w
      exact fun v W2 H2 m2 o2 g2 r2 => w v W2 H2 m2 o2 (g1.trans g2) (.inl r2) fun _ => r2
theorem sd_tup {Wx : WX} {t : TA} {rl : Rs (List PyData)} {bv : Bool} (h : SdL K cl Wx t env μ rl) : Sd K cl Wx (tTup t) env μ bv (rl.bind fun ds μ1 => if ds.length ≤ lim then .ok (.tuple ds) μ1 else .stuck) := fun H0 W H σ Q m o en w => by
  refine h H0 W H σ _ m o en ?_
  cases rl with
  | ex c μ' => exact w
  | stuck => exact w
  | ok ds μ1 =>
    intro vs W1 H1 m1 o1 g1 r1
    rw [Rs.bind_ok] at w
    split at w
    · rename_i hl
      subst m1
      exact ⟨lim_le (by rw [r1.length]; exact hl), fun p hp => PostB.tup o1 r1 (postUp g1 w) p hp⟩
    · exact w.elim
theorem sdN_lst {Wx : WX} {t : TA} {rl : Rs (List PyData)} (h : SdL K cl Wx t env μ rl) : SdN K cl Wx (tLst t) env μ (rl.bind fun ds μ1 => if ds.length ≤ lim then .ok (.list ds) μ1 else .stuck) := fun H0 W H σ Q m o en w => by
  refine h H0 W H σ _ m o en ?_
  cases rl with
  | ex c μ' => exact w
  | stuck => exact w
  | ok ds μ1 =>
    intro vs W1 H1 m1 o1 g1 r1
    rw [Rs.bind_ok] at w
    split at w
    · rename_i hl
      obtain ⟨l, e, w⟩ := w
      cases e
      refine ⟨lim_le (by rw [r1.length]; exact hl), fun p hp => ?_⟩
      have h0 : H p = none := by
        cases q : H p with
        | none => rfl
        | some u => exact absurd hp (g1.there p (by rw [q]; simp))
      exact w p vs W1 _ m1 (o1.new hp) (g1.trans (Go.new hp)) h0 (o1.fnone hp) (o1.notIn hp) upd_same r1
    · exact w.elim
theorem isList_of_if {rl : Rs (List PyData)} {d : PyData} {μ' : Store} (h : (rl.bind fun ds μ1 => if ds.length ≤ lim then .ok (.list ds) μ1 else .stuck) = .ok d μ') : ∃ l, d = .list l := by
  cases rl with
  | ex c μ' => cases h
  | stuck => cases h
  | ok ds μ1 =>
    rw [Rs.bind_ok] at h
    split at h
    · cases h; exact ⟨_, rfl⟩
    · cases h
end
end PVL
end

section
set_option Elab.async false
set_option linter.all false
set_option maxRecDepth 100000
set_option maxHeartbeats 4000000
namespace PVL
open PySem PySem.Spec PyProof.Rows L2
/-! # Cells and dicts: the world changes -/
theorem keyEq_key (k w : Key) : keyEq (keyD k) (keyD w) = decide (k = w) := by
  cases k <;> cases w <;> simp [keyD, keyEq]
theorem isKey_of {d : PyData} (h : isKey d = true) : ∃ k : Key, d = keyD k := by
  cases d <;> simp [isKey] at h
  · exact ⟨.inl _, rfl⟩
  · exact ⟨.inr _, rfl⟩
section
variable {K : PySem.W.Frag} {cl : Nat → Addr} {W W' W0 : Wd} {H H' H0 : Hp} {F : Hp} {ι : List Addr}
theorem RepB.key {v : V} {k : Key} (h : RepB K W H v (keyD k)) : v = kV k := by
  cases k with
  | inl i => exact h.int
  | inr x => exact h.str
theorem rep_key (k : Key) : Rep K F ι (kV k) (keyD k) := by
  cases k with
  | inl i => exact .int i
  | inr x => exact .str x
theorem DL.nil : DL K F ι [] [] := ⟨rfl, .nil⟩
theorem DL.cons_inv {k : Key} {v : V} {kvs : List (Key × V)} {p : PyData × PyData} {l : List (PyData × PyData)} (h : DL K F ι ((k, v) :: kvs) (p :: l)) : p.1 = keyD k ∧ Rep K F ι v p.2 ∧ DL K F ι kvs l := by
  obtain ⟨h1, h2⟩ := h
  simp only [List.map_cons, List.cons.injEq] at h1
  cases h2 with
  | cons ra rb => exact ⟨h1.1.symm, ra, h1.2, rb⟩
theorem DL.cons {k : Key} {v : V} {d : PyData} {kvs : List (Key × V)} {l : List (PyData × PyData)} (r : Rep K F ι v d) (h : DL K F ι kvs l) : DL K F ι ((k, v) :: kvs) ((keyD k, d) :: l) :=
  ⟨by simp [h.1], .cons r h.2⟩
theorem DL.length : ∀ {kvs : List (Key × V)} {l : List (PyData × PyData)}, DL K F ι kvs l → kvs.length = l.length
  | [], [], _ => rfl
  | _ :: _, _ :: _, h => congrArg Nat.succ (DL.length h.cons_inv.2.2)
  | [], _ :: _, h => by have := h.1; simp at this
  | _ :: _, [], h => by have := h.1; simp at this
theorem DL.look : ∀ {kvs : List (Key × V)} {l : List (PyData × PyData)} {k : Key} {d : PyData}, DL K F ι kvs l → dlook l (keyD k) = some d → ∃ v, valV kvs k = some v ∧ Rep K F ι v d
  | [], [], _, _, _, e => by cases e
  | (j, v) :: kvs, (p1, p2) :: l, k, d, h, e => by
    obtain ⟨e1, r, h'⟩ := h.cons_inv
    simp only at e1
    subst e1
    unfold dlook at e
    rw [keyEq_key] at e
    by_cases hk : j = k
    · rw [decide_eq_true hk, if_pos rfl] at e
      cases e
      exact ⟨v, valV_pos hk, r⟩
    · rw [decide_eq_false hk, if_neg Bool.false_ne_true] at e
      obtain ⟨u, h1, h2⟩ := DL.look h' e
      exact ⟨u, by rw [valV_neg hk]; exact h1, h2⟩
  | [], _ :: _, _, _, h, _ => by have := h.1; simp at this
  | _ :: _, [], _, _, h, _ => by have := h.1; simp at this
theorem DL.lookN : ∀ {kvs : List (Key × V)} {l : List (PyData × PyData)} {k : Key}, DL K F ι kvs l → dlook l (keyD k) = none → valV kvs k = none
  | [], [], _, _, _ => rfl
  | (j, v) :: kvs, (p1, p2) :: l, k, h, e => by
    obtain ⟨e1, r, h'⟩ := h.cons_inv
    simp only at e1
    subst e1
    unfold dlook at e
    rw [keyEq_key] at e
    by_cases hk : j = k
    · rw [decide_eq_true hk, if_pos rfl] at e
      cases e
    · rw [decide_eq_false hk, if_neg Bool.false_ne_true] at e
      rw [valV_neg hk]
      exact DL.lookN h' e
  | [], _ :: _, _, h, _ => by have := h.1; simp at this
  | _ :: _, [], _, h, _ => by have := h.1; simp at this
theorem DL.any : ∀ {kvs : List (Key × V)} {l : List (PyData × PyData)} {k : Key}, DL K F ι kvs l → (kvs.any fun kv => decide (kv.1 = k)) = l.any fun p => keyEq p.1 (keyD k)
  | [], [], _, _ => rfl
  | (j, v) :: kvs, (p1, p2) :: l, k, h => by
    obtain ⟨e1, r, h'⟩ := h.cons_inv
    simp only at e1
    subst e1
    simp only [List.any_cons, keyEq_key, DL.any h']
  | [], _ :: _, _, h => by have := h.1; simp at this
  | _ :: _, [], _, h => by have := h.1; simp at this
theorem DL.mapPut {k : Key} {v : V} {d : PyData} (r : Rep K F ι v d) : ∀ {kvs : List (Key × V)} {l : List (PyData × PyData)}, DL K F ι kvs l →
    DL K F ι (kvs.map fun kv => if kv.1 = k then (kv.1, v) else kv) (l.map fun p => if keyEq p.1 (keyD k) then (p.1, d) else p)
  | [], [], h => h
  | (j, u) :: kvs, (p1, p2) :: l, h => by
    obtain ⟨e1, ru, h'⟩ := h.cons_inv
    simp only at e1
    subst e1
    have ih := DL.mapPut (k := k) r h'
    simp only [List.map_cons, keyEq_key]
    by_cases hk : j = k
    · rw [if_pos hk, decide_eq_true hk, if_pos rfl]
      exact DL.cons r ih
    · rw [if_neg hk, decide_eq_false hk, if_neg Bool.false_ne_true]
      exact DL.cons ru ih
  | [], _ :: _, h => by have := h.1; simp at this
  | _ :: _, [], h => by have := h.1; simp at this
theorem DL.put {k : Key} {v : V} {d : PyData} {kvs : List (Key × V)} {l : List (PyData × PyData)} (r : Rep K F ι v d) (h : DL K F ι kvs l) : DL K F ι (putK kvs k v) (dput l (keyD k) d) := by
  unfold putK dput
  rw [h.any]
  split
  · exact h.mapPut r
  · refine ⟨by simp [h.1], ?_⟩
    simp only [List.map_append]
    exact h.2.append (.cons r .nil)
theorem DL.mono {F' : Hp} {ι' : List Addr} {kvs : List (Key × V)} {l : List (PyData × PyData)} (s : Sub F F') (p : ι <+: ι') (h : DL K F ι kvs l) : DL K F' ι' kvs l := ⟨h.1, RepL.mono s p _ _ h.2⟩
/-- the dict that a value tells of -/
theorem dOf_rep {x : V} {d : PyData} {l : List (PyData × PyData)} (ok : WOk K cl W H) (e : dOf d W.μ = some l) (r : RepB K W H x d) : ∃ a kvs, x = .ref a ∧ H a = some (.dK kvs) ∧ DL K W.F W.ι kvs l := by
  unfold dOf at e
  split at e
  · cases e
    exact r.dct ok
  · rename_i n
    obtain ⟨a, rfl, hn⟩ := r.loc (n := n)
    split at e
    · rename_i l' hc
      cases e
      obtain ⟨kvs, h1, h2⟩ := ok.cells n _ a hc hn
      exact ⟨a, kvs, rfl, h1, h2⟩
    · cases e
  · cases e
/-- the list of a cell -/
theorem lOf_rep {x : V} {d : PyData} {l : List PyData} (ok : WOk K cl W H) (e : lOf d W.μ = some l) (r : RepB K W H x d) : ∃ n a vs, asLoc d = some n ∧ W.μ[n]? = some (.lst l) ∧ W.ι[n]? = some a ∧ x = .ref a ∧ H a = some (.lst vs) ∧ RepL K W.F W.ι vs l := by
  unfold lOf at e
  split at e
  · rename_i n hn
    have hd := asLoc_of hn
    subst hd
    obtain ⟨a, rfl, hi⟩ := r.loc
    split at e
    · rename_i l' hc
      cases e
      obtain ⟨vs, h1, h2⟩ := ok.cells n _ a hc hi
      exact ⟨n, a, vs, hn, hc, hi, rfl, h1, h2⟩
    · cases e
  · cases e
/-! ## a new cell, a changed one -/
abbrev Wd.add (W : Wd) (p : Addr) (c : Cell) : Wd := ⟨W.F, W.ι ++ [p], W.μ ++ [c]⟩
theorem WOk.add {p : Addr} {c : Cell} (ok : WOk K cl W H) (hi : p ∉ W.ι) (hF : W.F p = none) (hc : CellAt K W.F (W.ι ++ [p]) H p c) : WOk K cl (W.add p c) H := by
  refine ⟨ok.fh, ?_, by simp [ok.len], fun n c' a e1 e2 => ?_, fun n c' a e1 hn e2 => ?_⟩
  · show (W.ι ++ [p]).Nodup
    rw [List.nodup_append]
    exact ⟨ok.iu, List.pairwise_singleton _ _, fun a ha b hb => by
      simp only [List.mem_singleton] at hb
      subst hb
      exact fun z => hi (z ▸ ha)⟩
  · by_cases h : n < W.ι.length
    · have e1' : W.μ[n]? = some c' := by
        rw [← List.getElem?_append_left (l₂ := [c]) (by rw [← ok.len]; exact h)]
        exact e1
      have e2' : W.ι[n]? = some a := by
        rw [← List.getElem?_append_left (l₂ := [p]) h]
        exact e2
      exact (ok.cells n c' a e1' e2').sub (fun _ _ h => h) (List.prefix_append _ _)
    · have hl : n < (W.ι ++ [p]).length := (List.getElem?_eq_some_iff.mp e2).1
      have hn : n = W.ι.length := by simp at hl; omega
      subst hn
      have e2' : (W.ι ++ [p])[W.ι.length]? = some a := e2
      have e1' : (W.μ ++ [c])[W.ι.length]? = some c' := e1
      rw [List.getElem?_append_right (Nat.le_refl _)] at e2'
      rw [ok.len, List.getElem?_append_right (Nat.le_refl _)] at e1'
      simp at e1' e2'
      subst e1' e2'
      exact hc
  · by_cases h : n < W.ι.length
    · have e1' : W.μ[n]? = some c' := by
        rw [← List.getElem?_append_left (l₂ := [c]) (by rw [← ok.len]; exact h)]
        exact e1
      have e2' : W.ι[n]? = some a := by
        rw [← List.getElem?_append_left (l₂ := [p]) h]
        exact e2
      exact ok.ap n c' a e1' hn e2'
    · have hl : n < (W.ι ++ [p]).length := (List.getElem?_eq_some_iff.mp e2).1
      have hn : n = W.ι.length := by simp at hl; omega
      subst hn
      have e2' : (W.ι ++ [p])[W.ι.length]? = some a := e2
      rw [List.getElem?_append_right (Nat.le_refl _)] at e2'
      simp at e2'
      subst e2'
      exact hF
theorem Go.add {p : Addr} {c : Cell} (g : Go W0 H0 W H) (h0 : H0 p = none) : Go W0 H0 (W.add p c) H :=
  ⟨g.f, g.fn, g.i.trans (List.prefix_append _ _), fun a ha h => by
    rcases List.mem_append.mp ha with z | z
    · exact g.inew a z h
    · simp only [List.mem_singleton] at z
      subst z
      exact absurd h0 h, g.keep, g.there⟩
theorem rep_new (ok : WOk K cl W H) {p : Addr} {c : Cell} : Rep K (W.add p c).F (W.add p c).ι (.ref p) (loc W.μ.length) :=
  .loc (by
    show (W.ι ++ [p])[W.μ.length]? = some p
    rw [← ok.len]
    simp)
/-- the n-th cell is changed -/
abbrev Wd.put (W : Wd) (n : Nat) (c : Cell) : Wd := ⟨W.F, W.ι, W.μ.set n c⟩
theorem WOk.put {n : Nat} {a : Addr} {o : HO} {c0 c : Cell} (ok : WOk K cl W H) (hm : W.μ[n]? = some c0) (h0 : c0 ≠ .dead) (hn : W.ι[n]? = some a) (hc : CellAt K W.F W.ι (upd H a o) a c) : WOk K cl (W.put n c) (upd H a o) := by
  have hF := ok.ap n c0 a hm h0 hn
  have hne : ∀ (m : Nat) (b : Addr), m ≠ n → W.ι[m]? = some b → b ≠ a := fun m b hmn hb z => by
    subst z
    obtain ⟨h1, e1⟩ := List.getElem?_eq_some_iff.mp hb
    obtain ⟨h2, e2⟩ := List.getElem?_eq_some_iff.mp hn
    have q := List.pairwise_iff_getElem.mp ok.iu
    rcases Nat.lt_trichotomy m n with z | z | z
    · exact q m n h1 h2 z (e1.trans e2.symm)
    · exact hmn z
    · exact q n m h2 h1 z (e2.trans e1.symm)
  refine ⟨fun b u e => ?_, ok.iu, by simp [ok.len], fun m c' b e1 e2 => ?_, fun m c' b e1 hd e2 => ?_⟩
  · have nb : b ≠ a := fun z => by
      subst z
      have e' : W.F b = some u := e
      rw [hF] at e'
      cases e'
    rw [upd_ne nb]
    exact ok.fh b u e
  · have e1' : (W.μ.set n c)[m]? = some c' := e1
    by_cases h : n = m
    · subst h
      rw [List.getElem?_set_self (List.getElem?_eq_some_iff.mp hm).1] at e1'
      cases e1'
      have e2' : W.ι[n]? = some b := e2
      rw [hn] at e2'
      cases e2'
      exact hc
    · rw [List.getElem?_set_ne h] at e1'
      exact (ok.cells m c' b e1' e2).updNe (hne m b (fun z => h z.symm) e2)
  · have e1' : (W.μ.set n c)[m]? = some c' := e1
    by_cases h : n = m
    · subst h
      have e2' : W.ι[n]? = some b := e2
      rw [hn] at e2'
      cases e2'
      exact hF
    · rw [List.getElem?_set_ne h] at e1'
      exact ok.ap m c' b e1' hd e2
theorem Go.put {n : Nat} {a : Addr} {o : HO} {c : Cell} (g : Go W0 H0 W H) (hn : W.ι[n]? = some a) : Go W0 H0 (W.put n c) (upd H a o) :=
  ⟨g.f, g.fn, g.i, g.inew, fun b u e m => by
    have nb : b ≠ a := fun z => by
      subst z
      exact m (g.inew b (List.mem_of_getElem? hn) (by rw [e]; simp))
    rw [upd_ne nb]
    exact g.keep b u e m, fun b h => by
    by_cases z : b = a
    · subst z
      rw [upd_same]
      simp
    · rw [upd_ne z]
      exact g.there b h⟩
/-- all that is new is told never to change -/
theorem WOk.grow (ok : WOk K cl W H) (ex : ∀ b o, H b = some o → H' b = some o) : ∃ W', W'.μ = W.μ ∧ W'.ι = W.ι ∧ WOk K cl W' H' ∧ Go W H W' H' ∧ Sub W.F W'.F ∧ ∀ b o, H b = none → H' b = some o → W'.F b = some o := by
  have hsome : ∀ b o, H b = some o → (match H b with | none => H' b | some _ => W.F b) = W.F b := fun b o e => by rw [e]
  have hnone : ∀ b, H b = none → (match H b with | none => H' b | some _ => W.F b) = H' b := fun b e => by rw [e]
  have sub : Sub W.F (fun b => match H b with | none => H' b | some _ => W.F b) := fun b o e => by
    show (match H b with | none => H' b | some _ => W.F b) = some o
    rw [hsome b o (ok.fh b o e)]
    exact e
  refine ⟨⟨fun b => match H b with | none => H' b | some _ => W.F b, W.ι, W.μ⟩, rfl, rfl, ⟨fun b o e => ?_, ok.iu, ok.len, fun n c a e1 e2 => ?_, fun n c a e1 hd e2 => ?_⟩, ⟨sub, fun b hb n _ => ?_, List.prefix_refl _, fun _ h _ => h, fun b o e _ => ex b o e, fun b h => ?_⟩, sub, fun b o e e' => ?_⟩
  · have e' : (match H b with | none => H' b | some _ => W.F b) = some o := e
    cases q : H b with
    | none => rw [hnone b q] at e'; exact e'
    | some u => rw [hsome b u q] at e'; exact ex b o (ok.fh b o e')
  · have hc := ok.cells n c a e1 e2
    have hc2 := hc.sub sub (List.prefix_refl _)
    cases c with
    | lst l => obtain ⟨vs, h, r⟩ := hc2; exact ⟨vs, ex _ _ h, r⟩
    | dct l => obtain ⟨vs, h, r⟩ := hc2; exact ⟨vs, ex _ _ h, r⟩
    | ins c fs => obtain ⟨io, hf, dx, l, h, r⟩ := hc2; exact ⟨io, hf, dx, l, ex _ _ h, r⟩
    | dead =>
      cases q : H a with
      | none => exact absurd q hc
      | some u => intro z; rw [ex a u q] at z; cases z
  · show (match H a with | none => H' a | some _ => W.F a) = none
    cases q : H a with
    | none => exact absurd q (ok.cells n c a e1 e2).there
    | some u => exact ok.ap n c a e1 hd e2
  · show (match H b with | none => H' b | some _ => W.F b) = none
    cases q : H b with
    | none => exact absurd q hb
    | some u => exact n
  · cases q : H b with
    | none => exact absurd q h
    | some u => rw [ex b u q]; simp
  · show (match H b with | none => H' b | some _ => W.F b) = some o
    rw [e]
    exact e'
/-! ## values without cells -/
theorem noLoc_rep : (∀ v d, Rep K F ι v d → noLoc d = true → ∀ ι', Rep K F ι' v d) ∧ ∀ vs ds, RepL K F ι vs ds → noLocs ds = true → ∀ ι', RepL K F ι' vs ds := by
  have dl : ∀ l : List (PyData × PyData), noLocD l = true → noLocs (l.map (·.2)) = true := by
    intro l
    induction l with
    | nil => intro _; rfl
    | cons p l ih =>
      obtain ⟨k, d⟩ := p
      intro h
      simp only [noLocD, noLocP, Bool.and_eq_true] at h
      simp only [List.map_cons, noLocs, Bool.and_eq_true]
      exact ⟨h.1, ih h.2⟩
  constructor
  · intro v d h
    refine Rep.rec (motive_1 := fun v d _ => noLoc d = true → ∀ ι', Rep K F ι' v d) (motive_2 := fun vs ds _ => noLocs ds = true → ∀ ι', RepL K F ι' vs ds) (fun _ _ => .non) (fun b _ _ => .bl b) (fun i _ _ => .int i) (fun x _ _ => .str x)
      (fun hs _ ih n ι' => .lst hs (ih (by simpa [noLoc] using n) ι')) (fun hs _ ih n ι' => .tup hs (ih (by simpa [noLoc] using n) ι')) (fun _ n => by simp [noLoc] at n)
      (fun {a kvs l} ha hk _ ih n ι' => .dct ha hk (ih (dl l (by simpa [noLoc, noLocD, noLocP] using n)) ι')) (fun {a dx c fl ids l} io ha hi hn hk _ ih n ι' => .ins io ha hi hn hk (ih (dl l (by simpa [noLoc, noLocD, noLocP] using n)) ι')) (fun _ _ => .nil)
      (fun _ _ h1 h2 n ι' => by
        simp only [noLocs, Bool.and_eq_true] at n
        exact .cons (h1 n.1 ι') (h2 n.2 ι')) h
  · intro vs ds h
    refine RepL.rec (motive_1 := fun v d _ => noLoc d = true → ∀ ι', Rep K F ι' v d) (motive_2 := fun vs ds _ => noLocs ds = true → ∀ ι', RepL K F ι' vs ds) (fun _ _ => .non) (fun b _ _ => .bl b) (fun i _ _ => .int i) (fun x _ _ => .str x)
      (fun hs _ ih n ι' => .lst hs (ih (by simpa [noLoc] using n) ι')) (fun hs _ ih n ι' => .tup hs (ih (by simpa [noLoc] using n) ι')) (fun _ n => by simp [noLoc] at n)
      (fun {a kvs l} ha hk _ ih n ι' => .dct ha hk (ih (dl l (by simpa [noLoc, noLocD, noLocP] using n)) ι')) (fun {a dx c fl ids l} io ha hi hn hk _ ih n ι' => .ins io ha hi hn hk (ih (dl l (by simpa [noLoc, noLocD, noLocP] using n)) ι')) (fun _ _ => .nil)
      (fun _ _ h1 h2 n ι' => by
        simp only [noLocs, Bool.and_eq_true] at n
        exact .cons (h1 n.1 ι') (h2 n.2 ι')) h
end
end PVL
end

section
set_option Elab.async false
set_option linter.all false
set_option maxRecDepth 100000
set_option maxHeartbeats 4000000
namespace PVL
open PySem PySem.Spec PyProof.Rows L2
/-! # Operations that look at the store keep to their rules -/
def PostS (K : PySem.W.Frag) (cl : Nat → Addr) (W : Wd) (H : Hp) (μ' : Store) (d : PyData) (Q : VK) : Prop :=
  ∀ v W' H', W'.μ = μ' → WOk K cl W' H' → Go W H W' H' → Rep K W'.F W'.ι v d → Q v H'
section
variable {K : PySem.W.Frag} {cl : Nat → Addr} {W : Wd} {H : Hp} {x y : V} {d e z : PyData} {Q : VK} {F : Hp} {ι : List Addr} {μ' : Store}
theorem PostS.toB (k : PostS K cl W H W.μ d Q) : PostB K cl W H d Q := k
theorem getLast_rep : ∀ {vs : List V} {l : List PyData} {x : PyData}, RepL K F ι vs l → l.getLast? = some x → ∃ y, vs[vs.length - 1]? = some y ∧ Rep K F ι y x := fun {vs l x} r h => by
  rw [List.getLast?_eq_getElem?] at h
  rw [r.length]
  exact r.get h
theorem dropLast_rep {vs : List V} {l : List PyData} (r : RepL K F ι vs l) : RepL K F ι vs.dropLast l.dropLast := by
  rw [List.dropLast_eq_take, List.dropLast_eq_take, r.length]
  exact r.take _
theorem fld_rep {f : Nat} (hf : f < 18) : ∀ {ids : List Nat} {fl : List (Str × V)} {l : List (PyData × PyData)}, (∀ i ∈ ids, i < 18) → fl.map (·.1) = ids.map fnm → l.map (·.1) = ids.map (fun (i : Nat) => PyData.int i) → RepL K F ι (fl.map (·.2)) (l.map (·.2)) →
    dlook l (.int f) = some d → ∃ v, fl.lookup (fnm f) = some v ∧ Rep K F ι v d
  | [], fl, [], _, h1, _, _, e => by cases e
  | i :: ids, (n, v) :: fl, (k, u) :: l, hi, h1, h2, r, e => by
    simp only [List.map_cons, List.cons.injEq] at h1 h2
    cases r with
    | cons ra rb =>
      have hk := h2.1
      subst hk
      have hn := h1.1
      subst hn
      unfold dlook at e
      have ek : keyEq (PyData.int (i : Nat)) (.int (f : Nat)) = decide (i = f) := by
        show decide (((i : Nat) : Int) = ((f : Nat) : Int)) = decide (i = f)
        exact decide_eq_decide.mpr Int.ofNat_inj
      rw [ek] at e
      by_cases hif : i = f
      · subst hif
        rw [decide_eq_true rfl, if_pos rfl] at e
        cases e
        exact ⟨v, by simp [List.lookup], ra⟩
      · rw [decide_eq_false hif, if_neg Bool.false_ne_true] at e
        obtain ⟨w, hw, rw'⟩ := fld_rep hf (fun j hj => hi j (List.mem_cons_of_mem _ hj)) h1.2 h2.2 rb e
        have nq : (fnm f == fnm i) = false := beq_eq_false_iff_ne.mpr fun z => hif (fnm_inj hf (hi i List.mem_cons_self) z).symm
        exact ⟨w, by simp only [List.lookup, nq]; exact hw, rw'⟩
  | [], _, _ :: _, _, _, h2, _, _ => by simp at h2
  | _ :: _, [], _, _, h1, _, _, _ => by simp at h1
  | _ :: _, _ :: _, [], _, _, h2, _, _ => by simp at h2
theorem cfl_rep {f : Nat} (hf : f < 18) : ∀ {fl : List (Str × V)} {fs : List (Nat × PyData)}, (∀ p ∈ fs, p.1 < 18) → fl.map (·.1) = fs.map (fun p => fnm p.1) → RepL K F ι (fl.map (·.2)) (fs.map (·.2)) →
    flook fs f = some d → ∃ v, fl.lookup (fnm f) = some v ∧ Rep K F ι v d
  | [], [], _, _, _, e => by cases e
  | (n, v) :: fl, (i, u) :: fs, hi, h1, r, e => by
    simp only [List.map_cons, List.cons.injEq] at h1
    cases r with
    | cons ra rb =>
      have hn := h1.1
      subst hn
      unfold flook at e
      by_cases hif : i = f
      · subst hif
        rw [if_pos rfl] at e
        cases e
        exact ⟨v, by simp [List.lookup], ra⟩
      · rw [if_neg hif] at e
        obtain ⟨w, hw, rw'⟩ := cfl_rep hf (fun j hj => hi j (List.mem_cons_of_mem _ hj)) h1.2 rb e
        have nq : (fnm f == fnm i) = false := beq_eq_false_iff_ne.mpr fun z => hif (fnm_inj hf (hi _ List.mem_cons_self) z).symm
        exact ⟨w, by simp only [List.lookup, nq]; exact hw, rw'⟩
  | [], _ :: _, _, h1, _, _ => by simp at h1
  | _ :: _, [], _, h1, _, _ => by simp at h1
theorem strsT_rep {ds : List PyData} {l : List Str} (ok : WOk K cl W H) (h : strs' ds = some l) (r : RepB K W H x (.tuple ds)) : ∃ a, x = .ref a ∧ SqT K H a (l.map V.str) := by
  obtain ⟨a, vs, rfl, hs, rr⟩ := r.tup ok
  exact ⟨a, rfl, strs_rep h rr ▸ hs⟩
theorem keys_rep : ∀ {kvs : List (Key × V)} {l : List (PyData × PyData)}, kvs.map (fun p => keyD p.1) = l.map (·.1) → RepL K F ι (kvs.map fun kv => kV kv.1) (l.map (·.1))
  | [], [], _ => .nil
  | (k, v) :: kvs, (p, d) :: l, h => by
    simp only [List.map_cons, List.cons.injEq] at h
    have e := h.1
    subst e
    exact .cons (rep_key k) (keys_rep h.2)
  | [], _ :: _, h => by simp at h
  | _ :: _, [], h => by simp at h
theorem pairs_rep {F' : Hp} {G : Hp} (sub : Sub F F') : ∀ {ts : List Addr} {kvs : List (Key × V)} {l : List (PyData × PyData)}, DL K F ι kvs l → Paired (fun (t : Addr) (q : Key × V) => G t = some (.tup [kV q.1, q.2])) ts kvs → (∀ t ∈ ts, ∀ o, G t = some o → F' t = some o) →
    RepL K F' ι (ts.map V.ref) (l.map fun p => .tuple [p.1, p.2])
  | [], [], [], _, _, _ => .nil
  | t :: ts, (k, v) :: kvs, (p, d) :: l, h, .cons h1 h2, hF => by
    obtain ⟨e1, ra, rb⟩ := h.cons_inv
    simp only at e1
    subst e1
    refine .cons (.tup (SqT.of (hF t List.mem_cons_self _ h1)) (.cons (rep_key k) (.cons (Rep.mono sub (List.prefix_refl _) _ _ ra) .nil))) ?_
    exact pairs_rep sub rb h2 fun u hu => hF u (List.mem_cons_of_mem _ hu)
  | [], [], _ :: _, h, _, _ => by have := h.1; simp at this
  | _ :: _, _ :: _, [], h, _, _ => by have := h.1; simp at this
/-- a new dict as a value -/
theorem PostB.dct {l : List (PyData × PyData)} {kvs : List (Key × V)} {Q : VK} (ok : WOk K cl W H) (r : DL K W.F W.ι kvs l) (h : PostB K cl W H (dD l) Q) (p : Addr) (hp : H p = none) : Q (.ref p) (upd H p (.dK kvs)) := by
  have hF := ok.fnone hp
  have hi := ok.notIn hp
  refine h (.ref p) (W.fix p (.dK kvs)) (upd H p (.dK kvs)) rfl ((ok.new hp).fix hF hi upd_same) ((Go.new hp).fix hF hp) ?_
  exact .dct (show upd W.F p (.dK kvs) p = _ from upd_same) r.1 (RepL.mono (sub_fix hF) (List.prefix_refl _) _ _ r.2)
theorem attr_ok {f : Nat} (ok : WOk K cl W H) (hz : attrP f W.μ d = some z) (rx : RepB K W H x d) : ∃ a C dx fs v, x = .ref a ∧ H a = some (.ins C dx fs) ∧ Cls K C ∧ NoAttr K C (fnm f) ∧ fs.lookup (fnm f) = some v ∧ Rep K W.F W.ι v z := by
  unfold attrP at hz
  split at hz
  · split at hz
    · rename_i hf
      rcases rx with rx | ⟨_, _, _, _, q, _⟩ | ⟨_, _, _, _, q, _⟩
      · cases rx with
        | @ins a dx c fl ids l io ha hi hn hk hr =>
          obtain ⟨v, h1, h2⟩ := fld_rep (fields_lt _ f hf) (fun i h => fields_lt _ i (hi i h)) hn hk hr hz
          exact ⟨a, _, dx, fl, v, rfl, ok.fh _ _ ha, io.cls, io.no f hf, h1, h2⟩
      · cases q
      · cases q
    · cases hz
  · split at hz
    · rename_i n hn
      have hd := asLoc_of hn
      subst hd
      obtain ⟨a, rfl, hi⟩ := rx.loc
      split at hz
      · rename_i c fs hc
        obtain ⟨io, hfs, dx, fl, ha, h1, h2⟩ := ok.cells n _ a hc hi
        split at hz
        · rename_i hf
          obtain ⟨v, h3, h4⟩ := cfl_rep (fields_lt c f hf) (fun p hp => fields_lt c _ (hfs p hp)) h1 h2 hz
          exact ⟨a, _, dx, fl, v, rfl, ha, io.cls, io.no f hf, h3, h4⟩
        · cases hz
      · cases hz
    · cases hz
theorem map_of {α β : Type} {o : Option α} {f : α → β} {b : β} (h : o.map f = some b) : ∃ a, o = some a ∧ f a = b := by
  cases o with
  | none => cases h
  | some a => exact ⟨a, rfl, Option.some.inj h⟩
theorem rev_rep : ∀ {ds : List PyData} {vs : List V}, RepL K F ι vs ds → RepL K F ι vs.reverse ds.reverse := by
  intro ds
  induction ds with
  | nil => intro vs r; cases r; exact .nil
  | cons d ds ih =>
    intro vs r
    cases r with
    | cons ra rb =>
      rw [List.reverse_cons, List.reverse_cons]
      exact (ih rb).append (.cons ra .nil)
theorem op1_ok {o : O1} (ok : WOk K cl W H) (hz : op1P o d W.μ = some (z, μ')) (rx : RepB K W H x d) (k : PostS K cl W H μ' z Q) : rO1 K o x H Q := by
  cases o with
  | attr f =>
    obtain ⟨u, h1, h2⟩ := map_of hz
    cases h2
    obtain ⟨a, C, dx, fs, v, e, h3, h4, h5, h6, h7⟩ := attr_ok ok h1 rx
    exact ⟨a, C, dx, fs, v, e, h3, h4, h5, h6, k.toB.here ok h7⟩
  | clen =>
    obtain ⟨l, hl, h2⟩ := map_of hz
    cases h2
    obtain ⟨n, a, vs, _, _, _, rfl, ha, r⟩ := lOf_rep ok hl rx
    exact ⟨_, l.length, rfl, .inl ⟨vs, SqL.of ha, r.length.symm⟩, k.toB.here ok (.int _)⟩
  | ctru =>
    obtain ⟨l, hl, h2⟩ := map_of hz
    cases h2
    obtain ⟨n, a, vs, _, _, _, rfl, ha, r⟩ := lOf_rep ok hl rx
    exact ⟨!l.isEmpty, .inl ⟨vs, SqL.of ha, by cases r <;> rfl⟩, k.toB.here ok (.bl _)⟩
  | cpop =>
    have hz' : popP d W.μ = some (z, μ') := hz
    unfold popP at hz'
    split at hz'
    · rename_i n hn
      have hd := asLoc_of hn
      subst hd
      obtain ⟨a, rfl, hi⟩ := rx.loc
      split at hz'
      · rename_i l hc
        obtain ⟨vs, ha, r⟩ := ok.cells n _ a hc hi
        split at hz'
        · rename_i u hu
          cases hz'
          obtain ⟨w, h1, h2⟩ := getLast_rep r hu
          refine ⟨.inl ⟨rfl, vs, SqL.of ha⟩, a, vs, w, rfl, rfl, ha, h1, ?_⟩
          exact k w (W.put n (.lst l.dropLast)) _ rfl (ok.put hc (by intro z; cases z) hi ⟨vs.dropLast, upd_same, dropLast_rep r⟩) ((Go.refl W H).put hi) h2
        · cases hz'
      · cases hz'
    · cases hz'
  | ccopy =>
    obtain ⟨l, hl, h2⟩ := map_of hz
    cases h2
    obtain ⟨n, a, vs, _, _, _, rfl, ha, r⟩ := lOf_rep ok hl rx
    exact ⟨a, vs, rfl, .inl (SqL.of ha), fun p hp => PostN.mk ok r k.toB.toN p hp⟩
  | lenset =>
    obtain ⟨u, hl, h2⟩ := map_of hz
    cases h2
    unfold lensetP at hl
    split at hl
    · split at hl
      · rename_i l hs
        split at hl
        · rename_i h1000
          cases hl
          obtain ⟨a, rfl, hq⟩ := strsT_rep ok hs rx
          exact ⟨a, l, rfl, hq, h1000, k.toB.here ok (.int _)⟩
        · cases hl
      · cases hl
    · cases hl
  | maxD kk =>
    obtain ⟨u, hl, h2⟩ := map_of hz
    cases h2
    unfold maxDP at hl
    split at hl
    · obtain ⟨a, vs, rfl, hs, r⟩ := rx.lst ok
      split at hl
      · rename_i l hi
        cases hl
        have e := ints_rep hi r
        subst e
        refine ⟨a, l, kk, rfl, rfl, hs, fun m h1 h2 => ?_⟩
        cases l with
        | nil => rw [h1 rfl]; exact k.toB.here ok (.int _)
        | cons i r' =>
          have hn : i :: r' ≠ [] := by simp
          have e : m = maxI (i :: r') := Int.le_antisymm (maxI_le (h2 hn).1) ((h2 hn).2 _ (maxI_mem hn))
          rw [e]
          exact k.toB.here ok (.int _)
      · cases hl
    · cases hl
  | revT =>
    obtain ⟨u, hl, h2⟩ := map_of hz
    cases h2
    unfold revTP at hl
    split at hl
    · split at hl
      · cases hl
      · rename_i hne
        cases hl
        obtain ⟨a, vs, rfl, hs, r⟩ := rx.tup ok
        refine ⟨a, vs, rfl, hs, fun z => ?_, fun p hp => PostB.tup ok (rev_rep r) k.toB p hp⟩
        subst z
        cases r
        exact hne rfl
    · cases hl
  | copyD =>
    obtain ⟨l, hl, h2⟩ := map_of hz
    cases h2
    obtain ⟨a, kvs, rfl, ha, r⟩ := dOf_rep ok hl rx
    exact ⟨a, kvs, rfl, .inl ha, fun p hp => PostB.dct ok r k.toB p hp⟩
  | litems =>
    obtain ⟨l, hl, h2⟩ := map_of hz
    cases h2
    obtain ⟨a, kvs, rfl, ha, r⟩ := dOf_rep ok hl rx
    refine ⟨a, kvs, rfl, ha, fun H' p ts ex hp hts hn hp' hpr => ?_⟩
    obtain ⟨W', m', i', ok', g', s', fx⟩ := ok.grow ex
    refine k (.ref p) W' H' m' ok' g' ?_
    rw [i']
    refine .lst (SqL.of (fx p _ hp hp')) ?_
    exact pairs_rep s' r hpr fun t ht o e => fx t o (hts t ht) e
  | lkeys =>
    obtain ⟨l, hl, h2⟩ := map_of hz
    cases h2
    obtain ⟨a, kvs, rfl, ha, r⟩ := dOf_rep ok hl rx
    exact ⟨a, kvs, rfl, ha, fun p hp => PostN.mk ok (keys_rep r.1) k.toB.toN p hp⟩
  | lenD =>
    obtain ⟨l, hl, h2⟩ := map_of hz
    cases h2
    obtain ⟨a, kvs, rfl, ha, r⟩ := dOf_rep ok hl rx
    exact ⟨a, kvs, rfl, ha, by rw [r.length]; exact k.toB.here ok (.int _)⟩
  | isD =>
    obtain ⟨u, hl, h2⟩ := map_of hz
    cases h2
    unfold isDP at hl
    split at hl
    · cases hl
      obtain ⟨a, kvs, rfl, ha, r⟩ := rx.dct ok
      exact ⟨_, _, _, _, true, rfl, .ty _, .base (.dK ha), kit_ty (by decide +kernel), k.toB.here ok (.bl _)⟩
    · cases hl
  | isC c =>
    obtain ⟨u, hl, h2⟩ := map_of hz
    cases h2
    unfold isCP at hl
    split at hl
    · split at hl
      · rename_i e
        cases hl
        subst e
        rcases rx with rx | ⟨_, _, _, _, q, _⟩ | ⟨_, _, _, _, q, _⟩
        · cases rx with
          | @ins a dx c fl ids l io ha hi hn hk hr => exact ⟨a, dx, fl, rfl, ok.fh _ _ ha, k.toB.here ok (.bl _)⟩
        · cases q
        · cases q
      · cases hl
    · cases hl
  | mkE _ => cases hz
  | isE _ => cases hz
theorem idxOf_spec {x : Str} {l : List Str} (h : l.idxOf x < l.length) : l[l.idxOf x]? = some x ∧ ∀ m, m < l.idxOf x → l[m]? ≠ some x := by
  refine ⟨?_, fun m hm e => ?_⟩
  · rw [List.getElem?_eq_getElem h]
    exact congrArg some (List.getElem_idxOf h)
  · have h1 : m < l.length := by omega
    rw [List.getElem?_eq_getElem h1] at e
    have := List.not_of_lt_findIdx (p := (· == x)) (xs := l) (by rw [List.idxOf] at hm; exact hm)
    rw [Option.some.inj e] at this
    simp at this
theorem zipK_rep : ∀ {ks : List Str} {xs ys : List PyData} {vs : List V}, strs' xs = some ks → RepL K F ι vs ys → DL K F ι (List.zip (ks.map Sum.inr) vs) (List.zip xs ys)
  | [], [], _, _, _, _ => by simpa using DL.nil
  | k :: ks, .str x :: xs, [], _, h, r => by cases r; simpa using DL.nil
  | k :: ks, .str x :: xs, y :: ys, _, h, r => by
    cases r with
    | cons ra rb =>
      unfold strs' at h
      cases e : strs' xs with
      | none => rw [e] at h; cases h
      | some l =>
        rw [e] at h
        simp only [Option.map_some, Option.some.injEq, List.cons.injEq] at h
        obtain ⟨rfl, rfl⟩ := h
        exact DL.cons (k := .inr x) ra (zipK_rep e rb)
  | [], .str _ :: xs, _, _, h, _ => by
    unfold strs' at h
    cases e : strs' xs with
    | none => rw [e] at h; cases h
    | some l => rw [e] at h; simp at h
  | k :: ks, [], _, _, h, _ => by cases h
  | _, .none :: _, _, _, h, _ => by simp [strs'] at h
  | _, .bool _ :: _, _, _, h, _ => by simp [strs'] at h
  | _, .int _ :: _, _, _, h, _ => by simp [strs'] at h
  | _, .list _ :: _, _, _, h, _ => by simp [strs'] at h
  | _, .tuple _ :: _, _, _, h, _ => by simp [strs'] at h
  | _, .dict _ :: _, _, _, h, _ => by simp [strs'] at h
theorem zipT_rep {F' G : Hp} (sub : Sub F F') : ∀ {ts : List Addr} {xs ys : List PyData} {us vs : List V}, RepL K F ι us xs → RepL K F ι vs ys → Paired (fun (t : Addr) (q : V × V) => G t = some (.tup [q.1, q.2])) ts (List.zip us vs) →
    (∀ t ∈ ts, ∀ o, G t = some o → F' t = some o) → RepL K F' ι (ts.map V.ref) (zipD xs ys)
  | ts, [], ys, us, vs, r1, r2, p, _ => by
    cases r1
    simp only [List.zip_nil_left] at p
    cases p
    exact .nil
  | ts, x :: xs, [], us, vs, r1, r2, p, _ => by
    cases r2
    simp only [List.zip_nil_right] at p
    cases p
    exact .nil
  | ts, x :: xs, y :: ys, _, _, .cons (v := u) ra rb, .cons (v := v) rc rd, p, hF => by
    simp only [List.zip_cons_cons] at p
    cases p with
    | @cons t _ ts' _ h1 h2 =>
      refine .cons (.tup (SqT.of (hF t List.mem_cons_self _ h1)) (.cons (Rep.mono sub (List.prefix_refl _) _ _ ra) (.cons (Rep.mono sub (List.prefix_refl _) _ _ rc) .nil))) ?_
      exact zipT_rep sub rb rd h2 fun w hw => hF w (List.mem_cons_of_mem _ hw)
theorem strsL_len : ∀ {xs : List PyData} {ks : List Str}, strs' xs = some ks → ks.length = xs.length
  | [], _, h => by cases h; rfl
  | .str x :: xs, _, h => by
    unfold strs' at h
    cases e : strs' xs with
    | none => rw [e] at h; cases h
    | some l => rw [e] at h; cases h; simp [strsL_len e]
  | .none :: _, _, h => by simp [strs'] at h
  | .bool _ :: _, _, h => by simp [strs'] at h
  | .int _ :: _, _, h => by simp [strs'] at h
  | .list _ :: _, _, h => by simp [strs'] at h
  | .tuple _ :: _, _, h => by simp [strs'] at h
  | .dict _ :: _, _, h => by simp [strs'] at h
theorem index_ok {xs : List PyData} (h : indexP xs e = some z) : ∃ (l : List Str) (w : Str), strs' xs = some l ∧ e = .str w ∧ l.idxOf w < l.length ∧ z = .int (l.idxOf w) := by
  unfold indexP at h
  split at h
  · split at h
    · rename_i l hl
      split at h
      · rename_i hlt
        cases h
        exact ⟨l, _, hl, rfl, hlt, rfl⟩
      · cases h
    · cases h
  · cases h
theorem op2_ok {o : O2} (ok : WOk K cl W H) (hz : op2P o d e W.μ = some z) (rx : RepB K W H x d) (ry : RepB K W H y e) (k : PostB K cl W H z Q) : rO2 K o x y H Q := by
  cases o with
  | dget =>
    have hz' : dgetP d e W.μ = some z := hz
    unfold dgetP at hz'
    split at hz'
    · rename_i hk
      obtain ⟨w, rfl⟩ := isKey_of hk
      have hy := ry.key
      subst hy
      split at hz'
      · rename_i l hl
        obtain ⟨a, kvs, rfl, ha, r⟩ := dOf_rep ok hl rx
        obtain ⟨v, h1, h2⟩ := r.look hz'
        have q := DGet.k (k := w) ha
        rw [h1] at q
        exact ⟨a, v, rfl, q, k.here ok h2⟩
      · cases hz'
    · cases hz'
  | din ng =>
    have hz' : dinP ng d e W.μ = some z := hz
    unfold dinP at hz'
    split at hz'
    · rename_i hk
      obtain ⟨w, rfl⟩ := isKey_of hk
      have hx := rx.key
      subst hx
      obtain ⟨l, hl, h2⟩ := map_of hz'
      cases h2
      obtain ⟨a, kvs, rfl, ha, r⟩ := dOf_rep ok hl ry
      have e : (valV kvs w).isSome = (dlook l (keyD w)).isSome := by
        cases hd : dlook l (keyD w) with
        | none => rw [r.lookN hd]; rfl
        | some u =>
          obtain ⟨v, h1, _⟩ := r.look hd
          rw [h1]
          rfl
      have q := DGet.k (k := w) ha
      cases ng with
      | false =>
        refine ⟨a, _, rfl, q, ?_⟩
        rw [e]
        have h := k.here ok (.bl _)
        simpa using h
      | true =>
        refine ⟨a, _, rfl, q, ?_⟩
        rw [e]
        have h := k.here ok (.bl _)
        simpa using h
    · cases hz'
  | cidx =>
    have hz' : cidxP d e W.μ = some z := hz
    unfold cidxP at hz'
    split at hz'
    · split at hz'
      · rename_i l hl
        obtain ⟨n, a, vs, _, _, _, rfl, ha, r⟩ := lOf_rep ok hl rx
        cases ry.int
        obtain ⟨v, e1, r1⟩ := atI_rep r hz'
        exact .inl ⟨a, vs, _, v, rfl, rfl, SqL.of ha, e1, k.here ok r1⟩
      · cases hz'
    · cases hz'
  | cslc =>
    have hz' : cslcP d e W.μ = some z := hz
    unfold cslcP at hz'
    split at hz'
    · obtain ⟨l, hl, h2⟩ := map_of hz'
      cases h2
      obtain ⟨n, a, vs, _, _, _, rfl, ha, r⟩ := lOf_rep ok hl rx
      cases ry.int
      exact ⟨_, rfl, .inl ⟨a, vs, rfl, SqL.of ha, fun p hp => PostN.mk ok (cut_rep r) k.toN p hp⟩⟩
    · cases hz'
  | lindex =>
    have hz' : lindexP d e = some z := hz
    unfold lindexP at hz'
    split at hz'
    · obtain ⟨l, w, hl, rfl, hlt, rfl⟩ := index_ok hz'
      obtain ⟨a, vs, rfl, hs, r⟩ := rx.lst ok
      have e := strs_rep hl r
      subst e
      cases ry.str
      have sp := idxOf_spec hlt
      refine ⟨a, _, .str w, l.idxOf w, .str w, rfl, rfl, hs, rfl, ?_, ?_, ?_, ?_, k.here ok (.int _)⟩
      · rw [List.all_map]
        exact List.all_eq_true.mpr fun _ _ => rfl
      · rw [List.getElem?_map, sp.1]
        rfl
      · show (w == w) = true
        exact beq_self_eq_true w
      · intro m z' hm e
        rw [List.getElem?_map] at e
        cases em : l[m]? with
        | none => rw [em] at e; cases e
        | some u =>
          rw [em] at e
          cases e
          show (u == w) = false
          exact beq_eq_false_iff_ne.mpr fun q => sp.2 m hm (by rw [em, q])
    · cases hz'
  | dzip =>
    have hz' : dzipP d e = some z := hz
    unfold dzipP at hz'
    split at hz'
    · split at hz'
      · rename_i l hl
        split at hz'
        · rename_i hlt
          cases hz'
          obtain ⟨a, rfl, hs⟩ := strsT_rep ok hl rx
          obtain ⟨b, ws, rfl, hs2, r⟩ := ry.lst ok
          refine ⟨a, b, l, ws, rfl, rfl, hs, hs2, by rw [hlt.2.1, r.length], hlt.2.2, hlt.1, fun p H' hp ex hp' => ?_⟩
          obtain ⟨W', m', i', ok', g', s', fx⟩ := ok.grow ex
          refine k (.ref p) W' H' m' ok' g' ?_
          rw [i']
          have dl := (zipK_rep hl r).mono s' (List.prefix_refl _)
          exact .dct (fx p _ hp hp') dl.1 dl.2
        · cases hz'
      · cases hz'
    · cases hz'
  | lzip =>
    have hz' : lzipP d e = some z := hz
    unfold lzipP at hz'
    split at hz'
    · split at hz'
      · rename_i hlt
        cases hz'
        obtain ⟨a, us, rfl, hs, r1⟩ := rx.tup ok
        obtain ⟨b, ws, rfl, hs2, r2⟩ := ry.lst ok
        refine ⟨a, b, us, ws, rfl, rfl, hs, hs2, by rw [r1.length, r2.length]; exact hlt.1, by rw [r1.length]; exact hlt.2, fun p ts H' hp ex hts hn hp' hpr => ?_⟩
        obtain ⟨W', m', i', ok', g', s', fx⟩ := ok.grow ex
        refine k (.ref p) W' H' m' ok' g' ?_
        rw [i']
        exact .lst (SqL.of (fx p _ hp hp')) (zipT_rep s' r1 r2 hpr fun t ht o e => fx t o (hts t ht) e)
      · cases hz'
    · cases hz'
/-- what is asked of the first operand ahead -/
theorem p2_ok {o : O2} {P : Prop} (ok : WOk K cl W H) (hz : op2Q o d = true) (rx : RepB K W H x d) (hP : P) : rP2 K o x H P := by
  cases o with
  | lindex =>
    cases d <;> first | (cases hz; done) | skip
    obtain ⟨a, vs, rfl, hs, r⟩ := rx.lst ok
    exact ⟨.inl ⟨rfl, vs, hs⟩, hP⟩
  | _ => exact hP
end
end PVL
end

section
set_option Elab.async false
set_option linter.all false
set_option maxRecDepth 100000
set_option maxHeartbeats 4000000
namespace PVL
open PySem PySem.Spec PyProof.Rows L2
section
variable {K : PySem.W.Frag} {cl : Nat → Addr} {env : List SV} {μ : Store} {Wx : WX} (C : Calls)
theorem wantUp {W W1 : Wd} {H H1 : Hp} {σ : L2.St} {d : PyData} {μ' : Store} {Q : VK} {bv : Bool} (g : Go W H W1 H1) (h : Want K cl Wx W H σ Q bv (.ok d μ')) : PostS K cl W1 H1 μ' d Q := fun v W' H' m o g' r => h v W' H' m o (g.trans g') (.inl r) fun _ => r
theorem sd_op1 {o : O1} {ta : TE} {ra : Rs PyData} {b1 bv : Bool} (ha : Sd K cl Wx ta env μ b1 ra) :
    Sd K cl Wx (fun σ H Q => ta σ H fun x H1 => rO1 K o x H1 Q) env μ bv (ra.bind fun x μ1 => match op1P o x μ1 with
      | some (d, μ2) => .ok d μ2
      | none => .stuck) := fun H0 W H σ Q m o' en w => by
  refine ha H0 W H σ _ m o' en ?_
  cases ra with
  | ex c μ' => exact w
  | stuck => exact w
  | ok d μ1 =>
    intro v W1 H1 m1 o1 g1 r1 _
    rw [Rs.bind_ok] at w
    subst m1
    split at w
    · rename_i z μ2 hz
      exact op1_ok o1 hz r1 (wantUp g1 w)
    · exact w.elim
theorem sdT_ctru {ta : TE} {ra : Rs PyData} {b1 : Bool} (ha : Sd K cl Wx ta env μ b1 ra) :
    SdT K cl Wx (fun σ H Q => ta σ H fun x H' => ∃ k, TruV K x H' k ∧ Q k H') env μ (ra.bind fun x μ1 => match op1P .ctru x μ1 with
      | some (d, μ2) => .ok d μ2
      | none => .stuck) := fun H0 W H σ Q m o' en w => by
  refine ha H0 W H σ _ m o' en ?_
  cases ra with
  | ex c μ' => exact w
  | stuck => exact w
  | ok d μ1 =>
    intro v W1 H1 m1 o1 g1 r1 _
    rw [Rs.bind_ok] at w
    subst m1
    split at w
    · rename_i z μ2 hz
      obtain ⟨l, hl, h2⟩ := map_of hz
      cases h2
      obtain ⟨n, a, vs, _, _, _, rfl, ha', r⟩ := lOf_rep o1 hl r1
      obtain ⟨k, e, w⟩ := w
      cases e
      exact ⟨!l.isEmpty, .inl ⟨vs, SqL.of ha', by cases r <;> rfl⟩, w W1 H1 rfl o1 g1⟩
    · exact w.elim
theorem sd_op2 {o : O2} {ta tb : TE} {ra : Rs PyData} {b1 b2 bv : Bool} {fb : Store → Rs PyData} (ha : Sd K cl Wx ta env μ b1 ra) (hb : ∀ μ, Sd K cl Wx tb env μ b2 (fb μ)) :
    Sd K cl Wx (fun σ H Q => ta σ H fun x H1 => rP2 K o x H1 (tb σ H1 fun y H2 => rO2 K o x y H2 Q)) env μ bv (ra.bind fun x μ1 => if op2Q o x then (fb μ1).bind fun y μ2 => opt (op2P o x y μ2) μ2 else .stuck) := fun H0 W H σ Q m o' en w => by
  refine ha H0 W H σ _ m o' en ?_
  cases ra with
  | ex c μ' => exact w
  | stuck => exact w
  | ok d μ1 =>
    intro v W1 H1 m1 o1 g1 r1 _
    rw [Rs.bind_ok] at w
    split at w
    · rename_i hq
      refine p2_ok o1 hq r1 (hb μ1 H0 W1 H1 σ _ m1 o1 (en.go g1) ?_)
      cases eb : fb μ1 with
      | ex c μ' => rw [eb] at w; exact exUp g1 w
      | stuck => rw [eb] at w; exact w
      | ok e μ2 =>
        rw [eb, Rs.bind_ok] at w
        intro u W2 H2 m2 o2 g2 r2 _
        subst m2
        cases ef : op2P o d e W2.μ with
        | none => rw [ef] at w; exact w.elim
        | some z =>
          rw [ef, opt_some] at w
          exact op2_ok o2 ef (r1.go g2) r2 (postUp (g1.trans g2) w)
    · exact w.elim
theorem sd_star {ta tb : TE} {ra : Rs PyData} {b1 bv q : Bool} {fb : Store → Rs PyData} (ha : Sd K cl Wx ta env μ b1 ra) (hb : q = false → ∀ μ, Sd K cl Wx tb env μ false (fb μ)) :
    Sd K cl Wx (tTup (StX.tStar K ta (tCons tb tNil))) env μ bv (ra.bind fun x μ1 => match x with
      | .tuple xs => if q then .stuck else (fb μ1).bind fun y μ2 => if xs.length + 1 ≤ lim then .ok (.tuple (xs ++ [y])) μ2 else .stuck
      | _ => .stuck) := fun H0 W H σ Q m o' en w => by
  refine ha H0 W H σ _ m o' en ?_
  cases ra with
  | ex c μ' => exact w
  | stuck => exact w
  | ok d μ1 =>
    intro v W1 H1 m1 o1 g1 r1 _
    rw [Rs.bind_ok] at w
    split at w
    · rename_i xs
      cases q with
      | true => exact w.elim
      | false =>
        simp only [Bool.false_eq_true, if_false] at w
        cases r1.repTup with
        | @tup a vs _ hs hl =>
          refine ⟨a, vs, rfl, .inl (Evl.ex_t o1.fh hs), ?_⟩
          refine hb rfl μ1 H0 W1 H1 σ _ m1 o1 (en.go g1) ?_
          cases eb : fb μ1 with
          | ex c μ' => rw [eb] at w; exact exUp g1 w
          | stuck => rw [eb] at w; exact w
          | ok e μ2 =>
            rw [eb, Rs.bind_ok] at w
            intro u W2 H2 m2 o2 g2 _ r2
            split at w
            · rename_i hle
              subst m2
              have rr := (g2.repL hl).append (.cons (r2 rfl) .nil)
              exact ⟨lim_le (by rw [rr.length]; simpa using hle), fun p hp => PostB.tup o2 rr (postUp (g1.trans g2) w) p hp⟩
            · exact w.elim
    · exact w.elim
theorem sd_ridx {ta tb : TE} {ra : Rs PyData} {b1 b2 bv : Bool} {fb : Store → Rs PyData} (ha : Sd K cl Wx ta env μ b1 ra) (hb : ∀ μ, Sd K cl Wx tb env μ b2 (fb μ)) :
    Sd K cl Wx (tRIdx K ta tb) env μ bv (ra.bind fun x μ1 => match x with
      | .tuple (d :: ds) => match strs' (d :: ds) with
        | some ks => (fb μ1).bind fun y μ2 => match y with
          | .str z => if ks.reverse.idxOf z < ks.length then .ok (.int (ks.reverse.idxOf z)) μ2 else .stuck
          | _ => .stuck
        | none => .stuck
      | _ => .stuck) := fun H0 W H σ Q m o' en w => by
  refine ha H0 W H σ _ m o' en ?_
  cases ra with
  | ex c μ' => exact w
  | stuck => exact w
  | ok d μ1 =>
    intro v W1 H1 m1 o1 g1 r1 _
    rw [Rs.bind_ok] at w
    split at w
    · rename_i d0 ds
      split at w
      · rename_i ks hks
        obtain ⟨a, rfl, hs⟩ := strsT_rep o1 hks r1
        have hlen := strsL_len hks
        refine ⟨a, ks, rfl, hs, by intro z; subst z; simp at hlen, hb μ1 H0 W1 H1 σ _ m1 o1 (en.go g1) ?_⟩
        cases eb : fb μ1 with
        | ex c μ' => rw [eb] at w; exact exUp g1 w
        | stuck => rw [eb] at w; exact w
        | ok e μ2 =>
          rw [eb, Rs.bind_ok] at w
          intro u W2 H2 m2 o2 g2 r2 _
          cases e with
          | str z =>
            simp only at w
            split at w
            · rename_i hlt
              cases r2.str
              have sp := idxOf_spec (x := z) (l := ks.reverse) (by rw [List.length_reverse]; exact hlt)
              exact ⟨z, _, rfl, sp.1, sp.2, w _ W2 H2 m2 o2 (g1.trans g2) (.inl (.int _)) fun _ => .int _⟩
            · exact w.elim
          | _ => exact w.elim
      · exact w.elim
    · exact w.elim
/-! ## calls that see no cell -/
/-- the world without cells -/
abbrev Wd.bare (W : Wd) : Wd := ⟨W.F, [], []⟩
theorem WOk.bare {W : Wd} {H : Hp} (ok : WOk K cl W H) : WOk K cl W.bare H :=
  ⟨ok.fh, List.nodup_nil, rfl, fun n c a e _ => by simp at e, fun n c a e _ _ => by simp at e⟩
theorem CellAt.keep {F F' : Hp} {ι : List Addr} {H H' : Hp} {a : Addr} {c : Cell} (s : Sub F F') (k : ∀ b o, H b = some o → H' b = some o) (h : CellAt K F ι H a c) : CellAt K F' ι H' a c := by
  have h2 := h.sub s (List.prefix_refl _)
  cases c with
  | lst l => obtain ⟨vs, e, r⟩ := h2; exact ⟨vs, k _ _ e, r⟩
  | dct l => obtain ⟨vs, e, r⟩ := h2; exact ⟨vs, k _ _ e, r⟩
  | ins c fs => obtain ⟨io, hf, dx, l, e, r⟩ := h2; exact ⟨io, hf, dx, l, k _ _ e, r⟩
  | dead =>
    cases q : H a with
    | none => exact absurd q h
    | some u => intro z; rw [k a u q] at z; cases z
theorem unbare {W W' : Wd} {H H' : Hp} (ok : WOk K cl W H) (ok' : WOk K cl W' H') (g : Go W.bare H W' H') : WOk K cl ⟨W'.F, W.ι, W.μ⟩ H' ∧ Go W H ⟨W'.F, W.ι, W.μ⟩ H' := by
  have kp : ∀ b o, H b = some o → H' b = some o := fun b o e => g.keep b o e (by simp)
  refine ⟨⟨ok'.fh, ok.iu, ok.len, fun n c a e1 e2 => (ok.cells n c a e1 e2).keep g.f kp, fun n c a e1 hd e2 => g.fn a (ok.cells n c a e1 e2).there (ok.ap n c a e1 hd e2) (by simp)⟩, ?_⟩
  exact ⟨g.f, fun b hb n _ => g.fn b hb n (by simp), List.prefix_refl _, fun _ h _ => h, fun b o e _ => kp b o e, g.there⟩
theorem sdL_noLoc {t : TA} {f : Nat} {rl : Rs (List PyData)} {bv : Bool} (h : SdL K cl Wx t env μ rl) :
    Sd K cl Wx (tCallS (spOf K cl C f) (WE Wx) t) env μ bv (rl.bind fun ds μ1 => if noLocs ds then pureP μ1 (C f ds []) else .stuck) := fun H0 W H σ Q m o en w => by
  refine h H0 W H σ _ m o en ?_
  cases rl with
  | ex c μ' => exact w
  | stuck => exact w
  | ok ds μ1 =>
    intro vs W1 H1 m1 o1 g1 r1
    rw [Rs.bind_ok] at w
    split at w
    · rename_i hn
      refine ⟨W1.bare, ds, o1.bare, noLoc_rep.2 _ _ r1 hn _, ?_⟩
      show (match C f ds [] with | .ok d μ' => _ | .ex c μ' => _ | .stuck => _)
      cases e : C f ds [] with
      | stuck => rw [e] at w; exact w
      | ex c μ2 =>
        rw [e] at w
        intro W' H' m' o' g'
        have u := unbare o1 o' g'
        exact w ⟨W'.F, W1.ι, W1.μ⟩ H' m1 u.1 (g1.trans u.2)
      | ok d μ2 =>
        rw [e] at w
        unfold pureP at w
        simp only at w
        split at w
        · rename_i hd
          intro v W' H' m' o' g' r'
          have u := unbare o1 o' g'
          have r2 := noLoc_rep.1 _ _ r' hd W1.ι
          exact w v ⟨W'.F, W1.ι, W1.μ⟩ H' m1 u.1 (g1.trans u.2) (.inl r2) fun _ => r2
        · exact w.elim
    · exact w.elim
/-! ## instances -/
theorem sd_make {t : TA} {c f : Nat} {rl : Rs (List PyData)} {bv : Bool} (h : SdL K cl Wx t env μ rl) :
    Sd K cl Wx (tMakeI K c (spOf K cl C f) (WE Wx) t) env μ bv (rl.bind fun ds μ1 => madeP c μ1.length (C f (loc μ1.length :: ds) (μ1 ++ [.ins c []]))) := fun H0 W H σ Q m o en w io => by
  refine h H0 W H σ _ m o en ?_
  cases rl with
  | ex c μ' => exact w
  | stuck => exact w
  | ok ds μ1 =>
    intro vs W1 H1 m1 o1 g1 r1 x dx hx hdx hne
    rw [Rs.bind_ok] at w
    subst m1
    have hx2 : (upd H1 dx (.own x)) x = none := by rw [upd_ne (fun z => hne z.symm)]; exact hx
    have o2 := (o1.new (o := .own x) hdx).new (o := .ins (clK K c) dx []) hx2
    have g2 : Go W1 H1 W1 (upd (upd H1 dx (.own x)) x (.ins (clK K c) dx [])) := (Go.new hdx).trans (Go.new hx2)
    have hF := o1.fnone hx
    have hi := o1.notIn hx
    have o3 : WOk K cl (W1.add x (.ins c [])) (upd (upd H1 dx (.own x)) x (.ins (clK K c) dx [])) :=
      o2.add hi hF ⟨io, fun p hp => by simp at hp, dx, [], upd_same, rfl, .nil⟩
    have g3 : Go W1 H1 (W1.add x (.ins c [])) (upd (upd H1 dx (.own x)) x (.ins (clK K c) dx [])) := g2.add hx
    refine ⟨W1.add x (.ins c []), loc W1.μ.length :: ds, o3, .cons (rep_new o1) (g3.repL r1), ?_⟩
    show (match C f (loc W1.μ.length :: ds) (W1.μ ++ [.ins c []]) with | .ok d μ' => _ | .ex c μ' => _ | .stuck => _)
    cases e : C f (loc W1.μ.length :: ds) (W1.μ ++ [.ins c []]) with
    | stuck => rw [e] at w; exact w
    | ex c' μ2 => rw [e] at w; exact w.elim
    | ok d μ2 =>
      rw [e] at w
      unfold madeP at w
      cases d with
      | none =>
        simp only at w
        intro v W' H' m' o' g' r'
        cases r'
        have r2 : Rep K W'.F W'.ι (.ref x) (loc W1.μ.length) := g'.rep (rep_new o1)
        exact ⟨rfl, w (.ref x) W' H' m' o' ((g1.trans g3).trans g') (.inl r2) fun _ => r2⟩
      | _ => exact w.elim
theorem insVals_noLoc : ∀ {fs : List (Nat × PyData)}, fs.all (fun p => noLoc p.2) = true → noLocs (fs.map (·.2)) = true
  | [], _ => rfl
  | p :: fs, h => by
    simp only [List.all_cons, Bool.and_eq_true] at h
    simp only [List.map_cons, noLocs, Bool.and_eq_true]
    exact ⟨h.1, insVals_noLoc h.2⟩
theorem sd_mkF {t : TA} {c f : Nat} {rl : Rs (List PyData)} {bv : Bool} (h : SdL K cl Wx t env μ rl) :
    Sd K cl Wx (tMakeI K c (spOf K cl C f) (WE Wx) t) env μ bv (rl.bind fun ds μ1 => if noLocs ds then madeF c μ1 (C f (loc 0 :: ds) [.ins c []]) else .stuck) := fun H0 W H σ Q m o en w io => by
  refine h H0 W H σ _ m o en ?_
  cases rl with
  | ex c μ' => exact w
  | stuck => exact w
  | ok ds μ1 =>
    intro vs W1 H1 m1 o1 g1 r1 x dx hx hdx hne
    rw [Rs.bind_ok] at w
    split at w
    · rename_i hn
      have hx2 : (upd H1 dx (.own x)) x = none := by rw [upd_ne (fun z => hne z.symm)]; exact hx
      have o2 := (o1.new (o := .own x) hdx).new (o := .ins (clK K c) dx []) hx2
      have g2 : Go W1 H1 W1 (upd (upd H1 dx (.own x)) x (.ins (clK K c) dx [])) := (Go.new hdx).trans (Go.new hx2)
      have hF := o1.fnone hx
      generalize hH2 : upd (upd H1 dx (.own x)) x (.ins (clK K c) dx []) = H2 at o2 g2
      have hx3 : H2 x = some (.ins (clK K c) dx []) := by rw [← hH2]; exact upd_same
      have o3 : WOk K cl (W1.bare.add x (.ins c [])) H2 := o2.bare.add (by simp) hF ⟨io, fun p hp => by simp at hp, dx, [], hx3, rfl, .nil⟩
      refine ⟨W1.bare.add x (.ins c []), loc 0 :: ds, o3, .cons (.loc rfl) (noLoc_rep.2 _ _ r1 hn _), ?_⟩
      show (match C f (loc 0 :: ds) [.ins c []] with | .ok d μ' => _ | .ex c μ' => _ | .stuck => _)
      cases e : C f (loc 0 :: ds) [.ins c []] with
      | stuck => rw [e] at w; exact w
      | ex c' μ2 => rw [e] at w; exact w.elim
      | ok d μ2 =>
        rw [e] at w
        unfold madeF at w
        split at w
        · rename_i c' fs eq
          cases eq
          split at w
          · rename_i hc
            obtain ⟨rfl, hfs⟩ := hc
            intro v W' H' m' o' g' r'
            cases r'
            refine ⟨rfl, ?_⟩
            have gi : W'.ι = [x] := by
              have := g'.i
              have l := o'.len
              rw [m'] at l
              obtain ⟨t, ht⟩ := this
              have ht : ([] ++ [x]) ++ t = W'.ι := ht
              rw [← ht] at l
              simp at l
              subst l
              simpa using ht.symm
            obtain ⟨_, hff, dx', fl, hh, hn1, hr⟩ := o'.cells 0 _ x (by rw [m']; rfl) (by rw [gi]; rfl)
            have hF' : W'.F x = none := o'.ap 0 (.ins c fs) x (by rw [m']; rfl) (by intro z; cases z) (by rw [gi]; rfl)
            -- the caller's cells stand as before
            have kp : ∀ b o, H2 b = some o → b ≠ x → H' b = some o := fun b o e nb => g'.keep b o e (by simpa using nb)
            have h1x : ∀ b o, H1 b = some o → H' b = some o := fun b o e => by
              have nb : b ≠ x := ne_of_none e hx
              exact kp b o (g2.keep b o e |> fun q => by
                have nd : b ≠ dx := ne_of_none e hdx
                rw [← hH2, upd_ne nb, upd_ne nd]
                exact e) nb
            have ok4 : WOk K cl ⟨W'.F, W1.ι, W1.μ⟩ H' := by
              refine ⟨o'.fh, o1.iu, o1.len, fun n c a e1 e2 => (o1.cells n c a e1 e2).keep g'.f h1x, fun n c a e1 hd e2 => ?_⟩
              have ha := o1.ap n c a e1 hd e2
              have hai : H1 a ≠ none := (o1.cells n c a e1 e2).there
              have nax : a ≠ x := fun z => hai (z ▸ hx)
              exact g'.fn a (by rw [← hH2, upd_ne nax]; exact (Go.new (W := W1) hdx).there a hai) ha (by simpa using nax)
            have go4 : Go W1 H1 ⟨W'.F, W1.ι, W1.μ⟩ H' := by
              refine ⟨g'.f, fun b hb n hi => ?_, List.prefix_refl _, fun _ h _ => h, fun b o e _ => h1x b o e, fun b hb => ?_⟩
              · have nbx : b ≠ x := fun z => hb (z ▸ hx)
                exact g'.fn b (by rw [← hH2, upd_ne nbx]; exact (Go.new (W := W1) hdx).there b hb) n (by simpa using nbx)
              · cases q : H1 b with
                | none => exact absurd q hb
                | some u => rw [h1x b u q]; simp
            have hi1 : x ∉ W1.ι := o1.notIn hx
            have ok5 := ok4.fix (p := x) (o := .ins (clK K c) dx' fl) hF' hi1 hh
            have go5 : Go W1 H1 (Wd.fix ⟨W'.F, W1.ι, W1.μ⟩ x (.ins (clK K c) dx' fl)) H' := go4.fix hF' hx
            have rr := noLoc_rep.2 _ _ hr (insVals_noLoc hfs) W1.ι
            have r5 : Rep K (Wd.fix ⟨W'.F, W1.ι, W1.μ⟩ x (.ins (clK K c) dx' fl)).F W1.ι (.ref x) (dI c (fs.map fun p => (.int p.1, p.2))) := by
              refine .ins (ids := fs.map (·.1)) io (show upd W'.F x _ x = _ from upd_same) (fun i hi => ?_) ?_ ?_ ?_
              · obtain ⟨p, hp, rfl⟩ := List.mem_map.mp hi
                exact hff p hp
              · rw [hn1, List.map_map]
                rfl
              · rw [List.map_map, List.map_map]
                rfl
              · rw [List.map_map]
                exact RepL.mono (sub_fix hF') (List.prefix_refl _) _ _ rr
            exact w (.ref x) (Wd.fix ⟨W'.F, W1.ι, W1.μ⟩ x (.ins (clK K c) dx' fl)) H' m1 ok5 (g1.trans go5) (.inl r5) fun _ => r5
          · exact w.elim
        · exact w.elim
    · exact w.elim
theorem lookup_none {fl : List (Str × V)} {fs : List (Nat × PyData)} {c m : Nat} (hm : m < 18) (hc : (fieldsOf c).contains m = false) (h : fl.map (·.1) = fs.map (fun p => fnm p.1)) (hf : ∀ p ∈ fs, p.1 ∈ fieldsOf c) : fl.lookup (fnm m) = none := by
  cases e : fl.lookup (fnm m) with
  | none => rfl
  | some v =>
    exfalso
    have : ∃ p ∈ fl, p.1 = fnm m := by
      clear h
      induction fl with
      | nil => cases e
      | cons p fl ih =>
        obtain ⟨n, u⟩ := p
        unfold List.lookup at e
        split at e
        · rename_i h
          exact ⟨_, List.mem_cons_self, (beq_iff_eq.mp h).symm⟩
        · obtain ⟨q, hq, e2⟩ := ih e
          exact ⟨q, List.mem_cons_of_mem _ hq, e2⟩
    obtain ⟨p, hp, ep⟩ := this
    have : fnm m ∈ fl.map (·.1) := List.mem_map.mpr ⟨p, hp, ep⟩
    rw [h] at this
    obtain ⟨q, hq, eq⟩ := List.mem_map.mp this
    have hq2 := hf q hq
    have := fnm_inj (fields_lt c _ hq2) hm eq
    rw [this] at hq2
    have hc2 : (fieldsOf c).contains m = true := List.contains_iff_mem.mpr hq2
    rw [hc] at hc2
    cases hc2
theorem tMs_of {Wx : WX} {m c f : Nat} {ta : TE} {t : TA} {σ : L2.St} {H : Hp} {Q : VK} : ∀ {ms : List (Nat × Nat)}, ms.lookup c = some f → tMethS (clK K c) (fnm m) (spOf K cl C f) (WE Wx) ta t σ H Q → tMs K cl C Wx m ta t ms σ H Q
  | [], h, _ => by cases h
  | (c', f') :: ms, h, q => by
    unfold List.lookup at h
    split at h
    · rename_i e
      cases h
      have := beq_iff_eq.mp e
      subst this
      exact .inl q
    · exact .inr (tMs_of h q)
/-- the method of the instance's class: the operand is evaluated alike for all -/
theorem sd_meth {Wx : WX} {ms : List (Nat × Nat)} {m : Nat} {ta : TE} {t : TA} {ra : Rs PyData} {b1 bv : Bool} {fl : Store → Rs (List PyData)} (ha : Sd K cl Wx ta env μ b1 ra) (hl : ∀ μ, SdL K cl Wx t env μ (fl μ)) :
    Sd K cl Wx (tMs K cl C Wx m ta t ms) env μ bv (if ms.isEmpty then .stuck else ra.bind fun x μ1 => match insC x μ1 with
      | some (c, _) => match ms.lookup c with
        | some f => if decide (m < 18) && !(fieldsOf c).contains m then (fl μ1).bind fun ds μ2 => C f (x :: ds) μ2 else .stuck
        | none => .stuck
      | none => .stuck) := fun H0 W H σ Q mm o en w => by
  have hne : ms.isEmpty = false := by
    cases h : ms.isEmpty with
    | false => rfl
    | true => rw [h] at w; exact w.elim
  rw [hne] at w
  simp only [Bool.false_eq_true, if_false] at w
  cases ra with
  | stuck => exact w.elim
  | ex c μ' =>
    cases ms with
    | nil => cases hne
    | cons p ms => exact .inl (ha H0 W H σ _ mm o en w)
  | ok d μ1 =>
    rw [Rs.bind_ok] at w
    split at w
    · rename_i c fs hi
      split at w
      · rename_i f hf
        split at w
        · rename_i hc
          rw [Bool.and_eq_true] at hc
          refine tMs_of C hf (ha H0 W H σ _ mm o en ?_)
          intro v W1 H1 m1 o1 g1 r1 _
          unfold insC at hi
          split at hi
          · rename_i n hn
            have hd := asLoc_of hn
            subst hd
            obtain ⟨a, rfl, hia⟩ := r1.loc
            split at hi
            · rename_i c' fs' hc'
              cases hi
              obtain ⟨io, hff, dx, l, hh, h1, h2⟩ := o1.cells n _ a (by rw [m1]; exact hc') hia
              refine ⟨a, dx, l, rfl, hh, lookup_none (by simpa using hc.1) (by simpa using hc.2) h1 hff, ?_⟩
              refine hl μ1 H0 W1 H1 σ _ m1 o1 (en.go g1) ?_
              cases el : fl μ1 with
              | ex c μ' => rw [el] at w; exact exUp g1 w
              | stuck => rw [el] at w; exact w
              | ok ds μ2 =>
                rw [el, Rs.bind_ok] at w
                intro vs W2 H2 m2 o2 g2 r2
                refine ⟨W2, loc n :: ds, o2, .cons (.loc (pre_get g2.i hia)) r2, ?_⟩
                rw [m2]
                cases e : C f (loc n :: ds) μ2 with
                | ex c μ' => rw [e] at w; exact exUp (g1.trans g2) w
                | stuck => rw [e] at w; exact w
                | ok d μ3 =>
                  rw [e] at w
                  exact fun v W3 H3 m3 o3 g3 r3 => w v W3 H3 m3 o3 ((g1.trans g2).trans g3) (.inl r3) fun _ => r3
            · cases hi
          · cases hi
        · exact w.elim
      · exact w.elim
    · exact w.elim
end
end PVL
end

section
set_option Elab.async false
set_option linter.all false
set_option maxRecDepth 100000
set_option maxHeartbeats 4000000
namespace PVL
open PySem PySem.Spec PyProof.Rows L2
section
variable {K : PySem.W.Frag} {cl : Nat → Addr} {env : List SV} {μ : Store} {Wx : WX} (C : Calls)
theorem back0 {W W1 : Wd} {H H1 : Hp} (g : Go W H W1 H1) {p : Addr} (hp : H1 p = none) : H p = none := by
  cases q : H p with
  | none => rfl
  | some u => exact absurd hp (g.there p (by rw [q]; simp))
theorem sdN_cat {ta tb : TE} {ra : Rs PyData} {b1 b2 : Bool} {fb : Store → Rs PyData} (ha : Sd K cl Wx ta env μ b1 ra) (hb : ∀ μ, Sd K cl Wx tb env μ b2 (fb μ)) :
    SdN K cl Wx (tOp (rBin K .add) ta tb) env μ (ra.bind fun x μ1 => (fb μ1).bind fun y μ2 => opt (binP .add x y) μ2) := fun H0 W H σ Q m o en w => by
  refine ha H0 W H σ _ m o en ?_
  cases ra with
  | ex c μ' => exact w
  | stuck => exact w
  | ok d μ1 =>
    intro v W1 H1 m1 o1 g1 r1 _
    refine hb μ1 H0 W1 H1 σ _ m1 o1 (en.go g1) ?_
    rw [Rs.bind_ok] at w
    cases eb : fb μ1 with
    | ex c μ' => rw [eb] at w; exact exUp g1 w
    | stuck => rw [eb] at w; exact w
    | ok e μ2 =>
      rw [eb, Rs.bind_ok] at w
      intro u W2 H2 m2 o2 g2 r2 _
      cases ef : binP .add d e with
      | none => rw [ef] at w; exact w.elim
      | some z =>
        rw [ef, opt_some] at w
        obtain ⟨l, rfl, w⟩ := w
        refine catN_ok o2 ef (r1.go g2) r2 fun p vs H' o' g' hp hF hi e r => ?_
        exact w p vs W2 H' m2 o' ((g1.trans g2).trans g') (back0 (g1.trans g2) hp) hF hi e r
theorem rep_list {F : Hp} {ι : List Addr} {vs : List V} {l : List PyData} (r : RepL K F ι vs l) : ∀ n : Nat, RepL K F ι (List.replicate n vs).flatten (List.replicate n l).flatten
  | 0 => .nil
  | n + 1 => by
    rw [List.replicate_succ, List.replicate_succ, List.flatten_cons, List.flatten_cons]
    exact r.append (rep_list r n)
theorem sdN_rep {ta tb : TE} {ra : Rs PyData} {b2 : Bool} {fb : Store → Rs PyData} (ha : SdN K cl Wx ta env μ ra) (hb : ∀ μ, Sd K cl Wx tb env μ b2 (fb μ)) :
    SdN K cl Wx (tOp rRep ta tb) env μ (ra.bind fun x μ1 => match x with
    | .list l => (fb μ1).bind fun y μ2 => match y with
      | .int k => if -two62 ≤ k ∧ k < two62 ∧ l.length * k.toNat ≤ lim then .ok (.list (List.replicate k.toNat l).flatten) μ2 else .stuck
      | _ => .stuck
    | _ => .stuck) := fun H0 W H σ Q m o en w => by
  refine ha H0 W H σ _ m o en ?_
  cases ra with
  | ex c μ' => exact w
  | stuck => exact w
  | ok d μ1 =>
    rw [Rs.bind_ok] at w
    cases d with
    | list l =>
      refine ⟨l, rfl, fun p vs W1 H1 m1 o1 g1 hp hF hi hh r1 => ?_⟩
      refine hb μ1 H0 W1 H1 σ _ m1 o1 (en.go g1) ?_
      simp only at w
      cases eb : fb μ1 with
      | ex c μ' => rw [eb] at w; exact exUp g1 w
      | stuck => rw [eb] at w; exact w
      | ok e μ2 =>
        rw [eb, Rs.bind_ok] at w
        intro u W2 H2 m2 o2 g2 r2 _
        cases e with
        | int k =>
          simp only at w
          split at w
          · rename_i hk
            cases r2.int
            obtain ⟨l2, e2, w⟩ := w
            cases e2
            have h2 : H2 p = some (.lst vs) := g2.keep p _ hh hi
            have e62 : two62 = 2 ^ 62 := by decide
            rw [e62] at hk
            have rr := rep_list (g2.repL r1) k.toNat
            refine ⟨p, k, vs, rfl, rfl, h2, by omega, by omega, lim_le (by rw [r1.length]; exact hk.2.2), fun q hq => ?_⟩
            exact w q _ W2 _ m2 (o2.new hq) ((g1.trans g2).trans (Go.new hq)) (back0 (g1.trans g2) hq) (o2.fnone hq) (o2.notIn hq) upd_same rr
          · exact w.elim
        | _ => exact w.elim
    | _ => exact w.elim
/-! ## a new list, a new dict becomes a cell -/
theorem sd_box {te : TE} {r : Rs PyData} {bv : Bool} (h : SdN K cl Wx te env μ r) : Sd K cl Wx te env μ bv (r.bind fun x μ1 => match x with
    | .list l => .ok (loc μ1.length) (μ1 ++ [.lst l])
    | _ => .stuck) := fun H0 W H σ Q m o en w => by
  refine h H0 W H σ Q m o en ?_
  cases r with
  | ex c μ' => exact w
  | stuck => exact w
  | ok d μ1 =>
    rw [Rs.bind_ok] at w
    split at w
    · rename_i l
      refine ⟨l, rfl, fun p vs W1 H1 m1 o1 g1 hp hF hi hh r1 => ?_⟩
      subst m1
      have o2 : WOk K cl (W1.add p (.lst l)) H1 := o1.add hi hF ⟨vs, hh, RepL.mono (fun _ _ h => h) (List.prefix_append _ _) _ _ r1⟩
      have r2 : Rep K (W1.add p (.lst l)).F (W1.add p (.lst l)).ι (.ref p) (loc W1.μ.length) := rep_new o1
      exact w (.ref p) (W1.add p (.lst l)) H1 rfl o2 (g1.add hp) (.inl r2) fun _ => r2
    · exact w.elim
/-- what is wished of a new dict -/
def WantD (K : PySem.W.Frag) (cl : Nat → Addr) (Wx : WX) (W : Wd) (H : Hp) (σ : L2.St) (Q : VK) : Rs PyData → Prop
  | .ok d μ' => ∃ l, d = dD l ∧ ∀ p kvs W' H', W'.μ = μ' → WOk K cl W' H' → Go W H W' H' → H p = none → W'.F p = none → p ∉ W'.ι → H' p = some (.dK kvs) → DL K W'.F W'.ι kvs l → Q (.ref p) H'
  | .ex c μ' => ∀ W' H', W'.μ = μ' → WOk K cl W' H' → Go W H W' H' → Wx (.ref (cl c)) none σ H'
  | .stuck => False
def SdD (K : PySem.W.Frag) (cl : Nat → Addr) (Wx : WX) (t : TE) (env : List SV) (μ : Store) (r : Rs PyData) : Prop :=
  ∀ H0 W H σ Q, W.μ = μ → WOk K cl W H → EnvOk K H0 W H env σ → WantD K cl Wx W H σ Q r → t σ H Q
theorem sd_ofD {t : TE} {r : Rs PyData} {bv : Bool} (hl : ∀ d μ', r = .ok d μ' → ∃ l, d = dD l) (h : SdD K cl Wx t env μ r) : Sd K cl Wx t env μ bv r := fun H0 W H σ Q m o en w => by
  refine h H0 W H σ Q m o en ?_
  cases r with
  | ex c μ' => exact w
  | stuck => exact w
  | ok d μ' =>
    obtain ⟨l, rfl⟩ := hl _ _ rfl
    refine ⟨l, rfl, fun p kvs W' H' m' o' g hp hF hi e rr => ?_⟩
    have dl := rr.mono (sub_fix (o := .dK kvs) hF) (List.prefix_refl _)
    have r2 : Rep K (W'.fix p (.dK kvs)).F (W'.fix p (.dK kvs)).ι (.ref p) (dD l) := .dct (show upd W'.F p (.dK kvs) p = _ from upd_same) dl.1 dl.2
    exact w (.ref p) (W'.fix p (.dK kvs)) H' m' (o'.fix hF hi e) (g.fix hF hp) (.inl r2) fun _ => r2
theorem sd_boxD {te : TE} {r : Rs PyData} {bv : Bool} (h : SdD K cl Wx te env μ r) : Sd K cl Wx te env μ bv (r.bind fun x μ1 => match x with
    | .dict ((.none, .bool false) :: l) => .ok (loc μ1.length) (μ1 ++ [.dct l])
    | _ => .stuck) := fun H0 W H σ Q m o en w => by
  refine h H0 W H σ Q m o en ?_
  cases r with
  | ex c μ' => exact w
  | stuck => exact w
  | ok d μ1 =>
    rw [Rs.bind_ok] at w
    split at w
    · rename_i l
      refine ⟨l, rfl, fun p vs W1 H1 m1 o1 g1 hp hF hi hh r1 => ?_⟩
      subst m1
      have o2 : WOk K cl (W1.add p (.dct l)) H1 := o1.add hi hF ⟨vs, hh, r1.mono (fun _ _ h => h) (List.prefix_append _ _)⟩
      have r2 : Rep K (W1.add p (.dct l)).F (W1.add p (.dct l)).ι (.ref p) (loc W1.μ.length) := rep_new o1
      exact w (.ref p) (W1.add p (.dct l)) H1 rfl o2 (g1.add hp) (.inl r2) fun _ => r2
    · exact w.elim
theorem sdD_new : SdD K cl Wx tDNewK env μ (.ok (dD []) μ) := fun H0 W H σ Q m o en w => by
  obtain ⟨l, e, w⟩ := w
  cases e
  exact fun p hp => w p [] W _ m (o.new hp) (Go.new hp) hp (o.fnone hp) (o.notIn hp) upd_same DL.nil
theorem sdD_copy {ta : TE} {ra : Rs PyData} {b1 : Bool} (ha : Sd K cl Wx ta env μ b1 ra) :
    SdD K cl Wx (fun σ H Q => ta σ H fun x H1 => rO1 K .copyD x H1 Q) env μ (ra.bind fun x μ1 => match op1P .copyD x μ1 with
      | some (d, μ2) => .ok d μ2
      | none => .stuck) := fun H0 W H σ Q m o' en w => by
  refine ha H0 W H σ _ m o' en ?_
  cases ra with
  | ex c μ' => exact w
  | stuck => exact w
  | ok d μ1 =>
    intro v W1 H1 m1 o1 g1 r1 _
    rw [Rs.bind_ok] at w
    subst m1
    split at w
    · rename_i z μ2 hz
      obtain ⟨l, hl, h2⟩ := map_of hz
      cases h2
      obtain ⟨a, kvs, rfl, ha', r⟩ := dOf_rep o1 hl r1
      obtain ⟨l', e, w⟩ := w
      cases e
      exact ⟨a, kvs, rfl, .inl ha', fun p hp => w p kvs W1 _ rfl (o1.new hp) (g1.trans (Go.new hp)) (back0 g1 hp) (o1.fnone hp) (o1.notIn hp) upd_same r⟩
    · exact w.elim
/-! ## a dict comprehension -/
theorem sdD_dcomp {wi : TI} {tk te : TE} {tg : Tg} {vs : List Nat} {ri : Rs (List PyData)} {fk fe : List SV → Store → Rs PyData}
    (hi : SdI K cl Wx wi env μ ri) (hk : ∀ env μ, Sd K cl noW tk env μ false (fk env μ)) (he : ∀ env μ, Sd K cl noW te env μ false (fe env μ)) (hv : ∀ i, i ∈ tg.slots → i ∈ vs) :
    SdD K cl Wx (tDc wi (tg.rd K) tYes tk te vs) env μ (ri.bind fun ds μ1 => match dLoop tg (fun env' μ' => (fk env' μ').bind fun x μ2 => (fe env' μ2).bind fun y μ3 => .ok (x, y) μ3) (wipeE env vs) ds [] μ1 with
      | .ok r μ2 => .ok (dD r) μ2
      | _ => .stuck) := fun H0 W H σ Q m o en w => by
  refine hi H0 W H σ _ m o en ?_
  cases ri with
  | ex c μ' => exact w
  | stuck => exact w
  | ok ds μ1 =>
    rw [Rs.bind_ok] at w
    intro J W1 H1 m1 o1 g1 it D hD
    generalize hf : (fun (env' : List SV) (μ' : Store) => (fk env' μ').bind fun x μ2 => (fe env' μ2).bind fun y μ3 => Rs.ok (x, y) μ3) = f at w
    cases el : dLoop tg f (wipeE env vs) ds [] μ1 with
    | ex c μ' => rw [el] at w; exact w.elim
    | stuck => rw [el] at w; exact w.elim
    | ok r μ2 =>
      rw [el] at w
      obtain ⟨l, hl, w⟩ := w
      cases hl
      have en1 := en.go g1
      have hFD := o1.fnone hD
      have hiD := o1.notIn hD
      refine ⟨fun i mm Hi => mm = ds.length - i ∧ i ≤ ds.length ∧ ∃ Wi kvs acc, WOk K cl Wi Hi ∧ Go W1 H1 Wi Hi ∧ Wi.F D = none ∧ D ∉ Wi.ι ∧ Hi D = some (.dK kvs) ∧ DL K Wi.F Wi.ι kvs acc ∧
        dLoop tg f (wipeE env vs) (ds.drop i) acc Wi.μ = .ok r μ2, ⟨ds.length, ?_⟩, ?_⟩
      · refine ⟨by simp, Nat.zero_le _, W1, [], [], o1.new hD, Go.new hD, hFD, hiD, upd_same, DL.nil, ?_⟩
        rw [List.drop_zero, m1]
        exact el
      · rintro i mm Hi ⟨rfl, hil, Wi, kvs, acc, oi, gi, hF, hn, hD2, ra, hcl⟩
        have itI := it Wi Hi oi gi.f gi.i i
        by_cases hlt : i < ds.length
        · obtain ⟨hgo, hy⟩ := itI.1 ds[i] (by simp [hlt])
          have hdrop : ds.drop i = ds[i] :: ds.drop (i + 1) := List.drop_eq_getElem_cons hlt
          rw [hdrop] at hcl
          unfold dLoop at hcl
          refine .inr ⟨hgo, fun Hn => ∃ Wn kvsn accn, WOk K cl Wn Hn ∧ Go W1 H1 Wn Hn ∧ Wn.F D = none ∧ D ∉ Wn.ι ∧ Hn D = some (.dK kvsn) ∧ DL K Wn.F Wn.ι kvsn accn ∧
            dLoop tg f (wipeE env vs) (ds.drop (i + 1)) accn Wn.μ = .ok r μ2, fun H' h' => ⟨ds.length - (i + 1), by omega, rfl, hlt, h'⟩, fun x H' y => ?_⟩
          obtain ⟨W', mμ, o', g', rx⟩ := hy x H' y
          have enw : EnvOk K H0 W' H' (wipeE env vs) (L2.wipe σ vs) := ((en1.wipe vs).go gi).go g'
          cases ep : tg.put ds[i] (wipeE env vs) with
          | none => rw [ep] at hcl; cases hcl
          | some env' =>
            rw [ep] at hcl
            refine tg_ok o' enw rx ep fun σ2 en2 nr => ⟨?_, ?_⟩
            · have e1 := wipe_eq (σ := L2.wipe σ vs) (σ2 := σ2) (vs := vs) nr.1 fun j hj => nr.2 j fun z => hj (hv j z)
              rw [e1]
              exact wipe_eq (wipe_length _ _) fun j hj => wipe_out hj
            · show tk σ2 H' _
              refine hk env' Wi.μ H0 W' H' σ2 _ mμ o' en2 ?_
              have hcl' := hcl
              rw [← hf] at hcl'
              simp only at hcl'
              have hk1 : H' D = some (.dK kvs) := g'.keep D _ hD2 hn
              have hF' : W'.F D = none := g'.fn D (by rw [hD2]; simp) hF hn
              have hn' : D ∉ W'.ι := fun z => hn (g'.inew D z (by rw [hD2]; simp))
              cases ec : fk env' Wi.μ with
              | ex c μ' => rw [ec] at hcl'; cases hcl'
              | stuck => rw [ec] at hcl'; cases hcl'
              | ok kd μ3 =>
                rw [ec, Rs.bind_ok] at hcl'
                intro u W3 H3 m3 o3 g3 _ r3
                have hk3 : H3 D = some (.dK kvs) := g3.keep D _ hk1 hn'
                have hF3 : W3.F D = none := g3.fn D (by rw [hk1]; simp) hF' hn'
                have hn3 : D ∉ W3.ι := fun z => hn' (g3.inew D z (by rw [hk1]; simp))
                refine he env' μ3 H0 W3 H3 σ2 _ m3 o3 (en2.go g3) ?_
                cases ee : fe env' μ3 with
                | ex c μ' => rw [ee] at hcl'; cases hcl'
                | stuck => rw [ee] at hcl'; cases hcl'
                | ok d μ4 =>
                  rw [ee, Rs.bind_ok] at hcl'
                  simp only at hcl'
                  intro v W4 H4 m4 o4 g4 _ r4
                  have hk4 : H4 D = some (.dK kvs) := g4.keep D _ hk3 hn3
                  have hF4 : W4.F D = none := g4.fn D (by rw [hk3]; simp) hF3 hn3
                  have hn4 : D ∉ W4.ι := fun z => hn3 (g4.inew D z (by rw [hk3]; simp))
                  split at hcl'
                  · rename_i hkey
                    obtain ⟨wk, rfl⟩ := isKey_of hkey.1
                    have hu : u = kV wk := RepB.key (K := K) (W := W3) (H := H3) (.inl (r3 rfl))
                    subst hu
                    have dl4 : DL K W4.F W4.ι kvs acc := ⟨ra.1, ((g'.trans g3).trans g4).repL ra.2⟩
                    refine ⟨kvs, wk, rfl, hk4, Nat.lt_of_lt_of_le (by rw [ra.length]; exact hkey.2) (lim_le (Nat.le_refl _)), W4, putK kvs wk v, dput acc (keyD wk) d, o4.mut hF4 hn4, Go.mut (((gi.trans g').trans g3).trans g4) hD, hF4, hn4, upd_same, dl4.put (r4 rfl), ?_⟩
                    rw [m4, ← hf]
                    exact hcl'
                  · cases hcl'
        · have hi2 : i = ds.length := by omega
          refine .inl ⟨itI.2 (by omega), ?_⟩
          rw [List.drop_of_length_le (by omega)] at hcl
          unfold dLoop at hcl
          cases hcl
          exact w D kvs Wi Hi rfl oi (g1.trans gi) (back0 g1 hD) hF hn hD2 ra
theorem dD_dcomp {ri : Rs (List PyData)} {g : List PyData → Store → Rs (List (PyData × PyData))} {d : PyData} {μ' : Store} {q : Bool} (h : (ri.bind fun ds μ1 => if q then (match g ds μ1 with
        | .ok r μ2 => (Rs.ok (dD r) μ2 : Rs PyData)
        | _ => .stuck) else .stuck) = .ok d μ') : ∃ l, d = dD l := by
  cases ri with
  | ex c μ' => cases h
  | stuck => cases h
  | ok ds μ1 =>
    rw [Rs.bind_ok] at h
    split at h
    · split at h
      · cases h; exact ⟨_, rfl⟩
      · cases h
    · cases h
theorem sdD_dcomp2 {wi : TI} {tk te : TE} {tg : Tg} {vs : List Nat} {ri : Rs (List PyData)} {q1 q2 : Bool} {fk fe : List SV → Store → Rs PyData}
    (hi : SdI K cl Wx wi env μ ri) (hk : q1 = false → ∀ env μ, Sd K cl noW tk env μ false (fk env μ)) (he : q2 = false → ∀ env μ, Sd K cl noW te env μ false (fe env μ)) :
    SdD K cl Wx (tDc wi (tg.rd K) tYes tk te vs) env μ (ri.bind fun ds μ1 => if tg.slots.all (fun i => vs.contains i && decide (i < env.length)) && !q1 && !q2 then
      match dLoop tg (fun env' μ' => (fk env' μ').bind fun x μ2 => (fe env' μ2).bind fun y μ3 => .ok (x, y) μ3) (wipeE env vs) ds [] μ1 with
      | .ok r μ2 => .ok (dD r) μ2
      | _ => .stuck
    else .stuck) := by
  cases hq : (tg.slots.all (fun i => vs.contains i && decide (i < env.length)) && !q1 && !q2) with
  | false =>
    refine fun H0 W H σ Q m o en w => hi H0 W H σ _ m o en ?_
    cases ri with
    | ex c μ' => exact w
    | stuck => exact w
    | ok ds μ1 => exact w.elim
  | true =>
    rw [Bool.and_eq_true, Bool.and_eq_true] at hq
    have q10 : q1 = false := by simpa using hq.1.2
    have q20 : q2 = false := by simpa using hq.2
    have hv : ∀ i, i ∈ tg.slots → i ∈ vs := fun i hm => by
      have := List.all_eq_true.mp hq.1.1 i hm
      rw [Bool.and_eq_true] at this
      simpa using this.1
    exact sdD_dcomp hi (hk q10) (he q20) hv
/-! ## what is walked -/
theorem it_rev {F : Hp} {ι : List Addr} {a : Addr} {vs : List V} {ds : List PyData} (hs : SqL K F a vs) (r : RepL K F ι vs ds) : ItOk K cl F ι (Itv K a vs.length) ds.reverse := fun W H ok sf si i => by
  have hs' : SqL K H a vs := Evl.ex_l ok.fh (Evl.ex_l sf hs)
  have r' := RepL.mono sf si _ _ r
  refine ⟨fun d e => ?_, fun hl => by rw [List.length_reverse] at hl; show vs.length ≤ i; rw [r.length]; exact hl⟩
  have hlt : i < ds.length := by
    have := (List.getElem?_eq_some_iff.mp e).1
    simpa using this
  rw [List.getElem?_reverse hlt] at e
  have e' : ds[vs.length - 1 - i]? = some d := by rw [r.length]; exact e
  obtain ⟨v, hv, rv⟩ := r'.get e'
  exact ⟨⟨by rw [r.length]; exact hlt, vs, v, hs', hv⟩, fun x H' y => by
    obtain ⟨rfl, y2⟩ := y
    have : vs[vs.length - 1 - i]? = some x := y2 vs hs'
    rw [hv] at this
    cases this
    exact ⟨W, rfl, ok, Go.refl _ _, rv⟩⟩
theorem yldTup {W : Wd} {H : Hp} {l : List V} {ds : List PyData} {x : V} {H' : Hp} (ok : WOk K cl W H) (r : RepL K W.F W.ι l ds) (y : YTup l H x H') :
    ∃ W', W'.μ = W.μ ∧ WOk K cl W' H' ∧ Go W H W' H' ∧ Rep K W'.F W'.ι x (.tuple ds) := by
  obtain ⟨T, rfl, hT, rfl⟩ := y
  have hF := ok.fnone hT
  have hi := ok.notIn hT
  refine ⟨W.fix T (.tup l), rfl, (ok.new hT).fix hF hi upd_same, (Go.new hT).fix hF hT, ?_⟩
  exact .tup (SqT.of (show upd W.F T (.tup l) T = _ from upd_same)) (RepL.mono (sub_fix hF) (List.prefix_refl _) _ _ r)
theorem it_enumT {F : Hp} {ι : List Addr} {vs : List V} {xs : List PyData} (r : RepL K F ι vs xs) : ItOk K cl F ι (IteT vs.length vs) (enumD 0 xs) := fun W H ok sf si i => by
  have r1' := RepL.mono sf si _ _ r
  refine ⟨fun d e => ?_, fun hl => by rw [enumD_len] at hl; show vs.length ≤ i; rw [r.length]; exact hl⟩
  obtain ⟨x, e1, rfl⟩ := enumD_get e
  obtain ⟨v, hv, rv⟩ := r1'.get e1
  refine ⟨(List.getElem?_eq_some_iff.mp hv).1, fun x' H' yl => ?_⟩
  obtain ⟨y, hy, q⟩ := yl
  rw [hv] at hy
  cases hy
  rw [Nat.zero_add]
  exact yldTup ok (.cons (.int _) (.cons rv .nil)) q
theorem zip3D_get : ∀ {xs ys zs : List PyData} {i : Nat} {d : PyData}, (zip3D xs ys zs)[i]? = some d → ∃ a b c, xs[i]? = some a ∧ ys[i]? = some b ∧ zs[i]? = some c ∧ d = .tuple [a, b, c]
  | x :: xs, y :: ys, z :: zs, 0, d, h => by simp [zip3D] at h; exact ⟨x, y, z, rfl, rfl, rfl, h.symm⟩
  | x :: xs, y :: ys, z :: zs, i + 1, d, h => by
    obtain ⟨a, b, c, h1, h2, h3, h4⟩ := zip3D_get (xs := xs) (ys := ys) (zs := zs) (i := i) (d := d) (by simpa [zip3D] using h)
    exact ⟨a, b, c, by simpa using h1, by simpa using h2, by simpa using h3, h4⟩
  | [], _, _, _, _, h => by simp [zip3D] at h
  | _ :: _, [], _, _, _, h => by simp [zip3D] at h
  | _ :: _, _ :: _, [], _, _, h => by simp [zip3D] at h
theorem zip3D_len : ∀ {xs ys zs : List PyData}, xs.length = ys.length → ys.length = zs.length → (zip3D xs ys zs).length = xs.length
  | x :: xs, y :: ys, z :: zs, h1, h2 => by simp [zip3D, zip3D_len (xs := xs) (ys := ys) (zs := zs) (by simpa using h1) (by simpa using h2)]
  | [], [], [], _, _ => rfl
  | [], _ :: _, _, h, _ => by simp at h
  | _ :: _, [], _, h, _ => by simp at h
  | _, [], _ :: _, _, h => by simp at h
  | _, _ :: _, [], _, h => by simp at h
theorem it_zip3 {F : Hp} {ι : List Addr} {us vs ws : List V} {xs ys zs : List PyData} (r1 : RepL K F ι us xs) (r2 : RepL K F ι vs ys) (r3 : RepL K F ι ws zs) (h1 : xs.length = ys.length) (h2 : ys.length = zs.length) : ItOk K cl F ι (Itz3 us.length us vs ws) (zip3D xs ys zs) := fun W H ok sf si i => by
  have r1' := RepL.mono sf si _ _ r1
  have r2' := RepL.mono sf si _ _ r2
  have r3' := RepL.mono sf si _ _ r3
  refine ⟨fun d e => ?_, fun hl => by rw [zip3D_len h1 h2] at hl; show us.length ≤ i; rw [r1.length]; exact hl⟩
  obtain ⟨a, b, c, e1, e2, e3, rfl⟩ := zip3D_get e
  obtain ⟨u, hu, ru⟩ := r1'.get e1
  obtain ⟨v, hv, rv⟩ := r2'.get e2
  obtain ⟨w, hw, rw'⟩ := r3'.get e3
  refine ⟨(List.getElem?_eq_some_iff.mp hu).1, fun x' H' yl => ?_⟩
  obtain ⟨p, q, s, hp, hq, hs, y⟩ := yl
  rw [hu] at hp
  rw [hv] at hq
  rw [hw] at hs
  cases hp; cases hq; cases hs
  exact yldTup ok (.cons ru (.cons rv (.cons rw' .nil))) y
theorem sdI_rev {ta : TE} {ra : Rs PyData} {q : Bool} (ha : q = false → Sd K cl Wx ta env μ false ra) : SdI K cl Wx (iRev K (tCons ta tNil)) env μ (if q then .stuck else ra.bind fun x μ1 => match x with
    | .list xs => .ok xs.reverse μ1
    | _ => .stuck) := fun H0 W H σ R m o en w => by
  cases q with
  | true => exact w.elim
  | false =>
    refine ha rfl H0 W H σ _ m o en ?_
    simp only [Bool.false_eq_true, if_false] at w
    cases ra with
    | ex c μ' => exact w
    | stuck => exact w
    | ok d μ1 =>
      intro v W1 H1 m1 o1 g1 _ r1
      rw [Rs.bind_ok] at w
      have r1 := r1 rfl
      split at w
      · cases r1 with
        | lst hs hl => exact ⟨_, _, rfl, Evl.ex_l o1.fh hs, w _ W1 H1 m1 o1 g1 (it_rev hs hl)⟩
      · exact w.elim
theorem sdI_enumT {ta : TE} {ra : Rs PyData} {b1 : Bool} (ha : Sd K cl Wx ta env μ b1 ra) : SdI K cl Wx (iEnumT K (tCons ta tNil)) env μ (ra.bind fun x μ1 => match x with
    | .tuple xs => .ok (enumD 0 xs) μ1
    | _ => .stuck) := fun H0 W H σ R m o en w => by
  refine ha H0 W H σ _ m o en ?_
  cases ra with
  | ex c μ' => exact w
  | stuck => exact w
  | ok d μ1 =>
    intro v W1 H1 m1 o1 g1 r1 _
    rw [Rs.bind_ok] at w
    split at w
    · cases r1.repTup with
      | tup hs hl => exact ⟨_, _, rfl, Evl.ex_t o1.fh hs, w _ W1 H1 m1 o1 g1 (it_enumT hl)⟩
    · exact w.elim
theorem sdI_zip3 {ta tb tc : TE} {ra : Rs PyData} {q : Bool} {fb fc : Store → Rs PyData} (ha : q = false → Sd K cl Wx ta env μ false ra) (hb : q = false → ∀ μ, Sd K cl Wx tb env μ false (fb μ)) (hc : q = false → ∀ μ, Sd K cl Wx tc env μ false (fc μ)) :
    SdI K cl Wx (iZip3 K (tCons ta (tCons tb (tCons tc tNil)))) env μ (if q then .stuck else ra.bind fun x μ1 => (fb μ1).bind fun y μ2 => (fc μ2).bind fun z μ3 => match x, y, z with
    | .list xs, .list ys, .list zs => if xs.length = ys.length ∧ ys.length = zs.length then .ok (zip3D xs ys zs) μ3 else .stuck
    | _, _, _ => .stuck) := fun H0 W H σ R m o en w => by
  cases q with
  | true => exact w.elim
  | false =>
    refine ha rfl H0 W H σ _ m o en ?_
    simp only [Bool.false_eq_true, if_false] at w
    cases ra with
    | ex c μ' => exact w
    | stuck => exact w
    | ok d μ1 =>
      intro v W1 H1 m1 o1 g1 _ r1
      refine hb rfl μ1 H0 W1 H1 σ _ m1 o1 (en.go g1) ?_
      rw [Rs.bind_ok] at w
      cases eb : fb μ1 with
      | ex c μ' => rw [eb] at w; exact exUp g1 w
      | stuck => rw [eb] at w; exact w
      | ok e μ2 =>
        rw [eb, Rs.bind_ok] at w
        intro u W2 H2 m2 o2 g2 _ r2
        refine hc rfl μ2 H0 W2 H2 σ _ m2 o2 ((en.go g1).go g2) ?_
        cases ec : fc μ2 with
        | ex c μ' => rw [ec] at w; exact exUp (g1.trans g2) w
        | stuck => rw [ec] at w; exact w
        | ok f μ3 =>
          rw [ec, Rs.bind_ok] at w
          intro t W3 H3 m3 o3 g3 _ r3
          have r1 := g3.rep (g2.rep (r1 rfl))
          have r2 := g3.rep (r2 rfl)
          have r3 := r3 rfl
          split at w
          · split at w
            · rename_i hlen
              cases r1 with
              | lst hs hl =>
                cases r2 with
                | lst hs2 hl2 =>
                  cases r3 with
                  | lst hs3 hl3 =>
                    exact ⟨_, _, _, _, _, _, rfl, Evl.ex_l o3.fh hs, Evl.ex_l o3.fh hs2, Evl.ex_l o3.fh hs3, by rw [hl.length, hl2.length]; exact hlen.1, by rw [hl2.length, hl3.length]; exact hlen.2, w _ W3 H3 m3 o3 ((g1.trans g2).trans g3) (it_zip3 hl hl2 hl3 hlen.1 hlen.2)⟩
            · exact w.elim
          · exact w.elim
end
end PVL
end

section
set_option Elab.async false
set_option linter.all false
set_option maxRecDepth 100000
set_option maxHeartbeats 8000000
namespace PVL
open PySem PySem.Spec PyProof.Rows L2
section
variable {K : PySem.W.Frag} {cl : Nat → Addr} {env : List SV} {μ : Store} (C : Calls)
theorem sd_neg {Wx : WX} {ta : TE} {ra : Rs PyData} {b1 bv : Bool} (ha : Sd K cl Wx ta env μ b1 ra) : Sd K cl Wx (tUn (rU fun i => .int (-i)) ta) env μ bv (ra.bind fun x μ1 => match x with
      | .int i => .ok (.int (-i)) μ1
      | _ => .stuck) := fun H0 W H σ Q m o en w => by
  refine ha H0 W H σ _ m o en ?_
  cases ra with
  | ex c μ' => exact w
  | stuck => exact w
  | ok d μ1 =>
    intro v W1 H1 m1 o1 g1 r1 _
    rw [Rs.bind_ok] at w
    split at w
    · cases r1.int
      exact ⟨_, rfl, w _ W1 H1 m1 o1 g1 (.inl (.int _)) fun _ => .int _⟩
    · exact w.elim
theorem non_dec {W : Wd} {H : Hp} {x : V} {d : PyData} (r : RepB K W H x d) : decide (x = V.non) = (match d with | .none => true | _ => false) := by
  rcases r with r | ⟨a, vs, l, rfl, rfl, _⟩ | ⟨a, vs, l, rfl, rfl, _⟩
  · cases r <;> first | rfl | exact decide_eq_false (fun q => nomatch q)
  · exact decide_eq_false (fun q => nomatch q)
  · exact decide_eq_false (fun q => nomatch q)
theorem sd_isn {Wx : WX} {ta : TE} {ra : Rs PyData} {b1 bv ng : Bool} (ha : Sd K cl Wx ta env μ b1 ra) : Sd K cl Wx (tOp (if ng then rNotN' else rIsN') ta (tC .non)) env μ bv (ra.bind fun x μ1 => match x with
    | .none => .ok (.bool (!ng)) μ1
    | _ => .ok (.bool ng) μ1) := fun H0 W H σ Q m o en w => by
  refine ha H0 W H σ _ m o en ?_
  cases ra with
  | ex c μ' => exact w
  | stuck => exact w
  | ok d μ1 =>
    intro v W1 H1 m1 o1 g1 r1 _
    rw [Rs.bind_ok] at w
    have e := non_dec r1
    show (if ng then rNotN' else rIsN') v .non H1 Q
    cases ng with
    | true =>
      rw [if_pos rfl]
      refine ⟨rfl, ?_⟩
      rw [e]
      cases d <;> exact w _ W1 H1 m1 o1 g1 (.inl (.bl _)) fun _ => .bl _
    | false =>
      rw [if_neg Bool.false_ne_true]
      refine ⟨rfl, ?_⟩
      rw [e]
      cases d <;> exact w _ W1 H1 m1 o1 g1 (.inl (.bl _)) fun _ => .bl _
theorem sd_cst {Wx : WX} {bv : Bool} (d : PyData) : Sd K cl Wx (tC (vOf d)) env μ bv (match d with
    | .list _ => .stuck
    | .tuple _ => .stuck
    | .dict _ => .stuck
    | d => .ok d μ) := fun H0 W H σ Q m o en w => by
  cases d with
  | none => exact w _ W H m o (Go.refl _ _) (.inl .non) fun _ => .non
  | bool b => exact w _ W H m o (Go.refl _ _) (.inl (.bl _)) fun _ => .bl _
  | int b => exact w _ W H m o (Go.refl _ _) (.inl (.int _)) fun _ => .int _
  | str b => exact w _ W H m o (Go.refl _ _) (.inl (.str _)) fun _ => .str _
  | list _ => exact w.elim
  | tuple _ => exact w.elim
  | dict _ => exact w.elim
theorem sd_var {Wx : WX} {bv : Bool} (i : Nat) : Sd K cl Wx (tVar i) env μ bv (match env[i]? with
    | some (.pv d) => .ok d μ
    | _ => .stuck) := fun H0 W H σ Q m o en w => by
  split at w
  · rename_i d e
    obtain ⟨v, e2, r⟩ := en.slots i _ e
    exact ⟨v, e2, w v W H m o (Go.refl _ _) (.inl r) fun _ => r⟩
  · exact w.elim
theorem sd_bv {Wx : WX} (i : Nat) : Sd K cl Wx (tVar i) env μ true (match env[i]? with
    | some (.ow l) => .ok (.list l) μ
    | some (.od l) => .ok (dD l) μ
    | some (.pv d) => .ok d μ
    | _ => .stuck) := fun H0 W H σ Q m o en w => by
  split at w
  · rename_i l e
    obtain ⟨a, vs, e2, h0, hF, hi, hh, r⟩ := en.slots i _ e
    exact ⟨_, e2, w _ W H m o (Go.refl _ _) (.inr (.inl ⟨a, vs, l, rfl, rfl, hi, hh, r⟩)) fun z => Bool.noConfusion z⟩
  · rename_i l e
    obtain ⟨a, vs, e2, h0, hF, hi, hh, r⟩ := en.slots i _ e
    exact ⟨_, e2, w _ W H m o (Go.refl _ _) (.inr (.inr ⟨a, vs, l, rfl, rfl, hi, hh, r⟩)) fun z => Bool.noConfusion z⟩
  · rename_i d e
    obtain ⟨v, e2, r⟩ := en.slots i _ e
    exact ⟨v, e2, w v W H m o (Go.refl _ _) (.inl r) fun _ => r⟩
  · exact w.elim
theorem sd_isi {Wx : WX} {ta : TE} {ra : Rs PyData} {b1 bv : Bool} {T : String} (ha : Sd K cl Wx ta env μ b1 ra) : Sd K cl Wx (tCB (rIsi K) (tCons ta (tCons (tC (.ty T)) tNil))) env μ bv (ra.bind fun x μ1 => opt ((isiP T x).map .bool) μ1) :=
  sd_1 (k := fun x H Q => rIsi K [x, .ty T] H Q) ha fun o hz rx k => isi_ok o hz rx k
theorem sd_tru {Wx : WX} {ta : TE} {ra : Rs PyData} {b1 bv : Bool} (ha : Sd K cl Wx ta env μ b1 ra) : Sd K cl Wx (fun σ H Q => ta σ H fun x H' => ∃ k, TruV K x H' k ∧ Q (.bl k) H') env μ bv (ra.bind fun x μ1 => opt ((truP x).map .bool) μ1) :=
  sd_1 (k := fun x H Q => ∃ k, TruV K x H k ∧ Q (.bl k) H) ha fun {W H x d z Q} o hz rx k => by
    cases e : truP d with
    | none => rw [e] at hz; cases hz
    | some b =>
      rw [e] at hz
      cases hz
      exact ⟨b, tru_okP o e rx, k.here o (.bl _)⟩
theorem sdT_tru {Wx : WX} {ta : TE} {ra : Rs PyData} {b1 : Bool} (ha : Sd K cl Wx ta env μ b1 ra) : SdT K cl Wx (fun σ H Q => ta σ H fun x H' => ∃ k, TruV K x H' k ∧ Q k H') env μ (ra.bind fun x μ1 => opt ((truP x).map .bool) μ1) := fun H0 W H σ Q m o en w => by
  refine ha H0 W H σ _ m o en ?_
  cases ra with
  | ex c μ' => exact w
  | stuck => exact w
  | ok d μ1 =>
    intro v W1 H1 m1 o1 g1 r1 _
    rw [Rs.bind_ok] at w
    cases e : truP d with
    | none => rw [e] at w; exact w.elim
    | some b =>
      rw [e] at w
      obtain ⟨k, ek, w⟩ := w
      cases ek
      exact ⟨b, tru_okP o1 e r1, w W1 H1 m1 o1 g1⟩
theorem sd_join {Wx : WX} {ta tb : TE} {ra : Rs PyData} {b1 b2 bv : Bool} {fb : Store → Rs PyData} (ha : Sd K cl Wx ta env μ b1 ra) (hb : ∀ μ, Sd K cl Wx tb env μ b2 (fb μ)) :
    Sd K cl Wx (tM1 (rJoin K) ta tb) env μ bv (ra.bind fun x μ1 => match x with
      | .str s => (fb μ1).bind fun y μ2 => opt (joinP (.str s) y) μ2
      | _ => .stuck) := fun H0 W H σ Q m o en w => by
  refine ha H0 W H σ _ m o en ?_
  cases ra with
  | ex c μ' => exact w
  | stuck => exact w
  | ok d μ1 =>
    intro v W1 H1 m1 o1 g1 r1 _
    rw [Rs.bind_ok] at w
    split at w
    · rename_i a _
      cases r1.str
      refine ⟨⟨_, rfl⟩, hb μ1 H0 W1 H1 σ _ m1 o1 (en.go g1) ?_⟩
      cases eb : fb μ1 with
      | ex c μ' => rw [eb] at w; exact exUp g1 w
      | stuck => rw [eb] at w; exact w
      | ok e μ2 =>
        rw [eb, Rs.bind_ok] at w
        intro u W2 H2 m2 o2 g2 r2 _
        cases ef : joinP (.str _) e with
        | none => rw [ef] at w; exact w.elim
        | some z =>
          rw [ef, opt_some] at w
          subst m2
          exact join_ok o2 ef (r1.go g2) r2 (postUp (g1.trans g2) w)
    · exact w.elim
/-! ## the walked things -/
theorem sdI_1 {Wx : WX} {ta : TE} {ra : Rs PyData} {b1 : Bool} (ha : Sd K cl Wx ta env μ b1 ra) : SdI K cl Wx (iRng1 (tCons ta tNil)) env μ (ra.bind fun x μ1 => match x with
    | .int j => if -two62 ≤ j ∧ j < two62 then .ok (rngD 0 j.toNat) μ1 else .stuck
    | _ => .stuck) := fun H0 W H σ R m o en w => by
  refine ha H0 W H σ _ m o en ?_
  cases ra with
  | ex c μ' => exact w
  | stuck => exact w
  | ok d μ1 =>
    intro v W1 H1 m1 o1 g1 r1 _
    rw [Rs.bind_ok] at w
    split at w
    · cases r1.int
      split at w
      · rename_i h
        have e : two62 = 2 ^ 62 := by decide
        rw [e] at h
        exact ⟨_, rfl, h.1, h.2, w _ W1 H1 m1 o1 g1 it_rng⟩
      · exact w.elim
    · exact w.elim
theorem sdI_2 {Wx : WX} {ta tb : TE} {ra : Rs PyData} {b1 b2 : Bool} {fb : Store → Rs PyData} (ha : Sd K cl Wx ta env μ b1 ra) (hb : ∀ μ, Sd K cl Wx tb env μ b2 (fb μ)) : SdI K cl Wx (iRng2 (tCons ta (tCons tb tNil))) env μ (ra.bind fun x μ1 => (fb μ1).bind fun y μ2 => match x, y with
    | .int i, .int j => if -two62 ≤ i ∧ i < two62 ∧ -two62 ≤ j ∧ j < two62 then .ok (rngD i (j - i).toNat) μ2 else .stuck
    | _, _ => .stuck) := fun H0 W H σ R m o en w => by
  refine ha H0 W H σ _ m o en ?_
  cases ra with
  | ex c μ' => exact w
  | stuck => exact w
  | ok d μ1 =>
    intro v W1 H1 m1 o1 g1 r1 _
    refine hb μ1 H0 W1 H1 σ _ m1 o1 (en.go g1) ?_
    rw [Rs.bind_ok] at w
    cases eb : fb μ1 with
    | ex c μ' => rw [eb] at w; exact exUp g1 w
    | stuck => rw [eb] at w; exact w
    | ok e μ2 =>
      rw [eb, Rs.bind_ok] at w
      intro u W2 H2 m2 o2 g2 r2 _
      split at w
      · cases r1.int; cases r2.int
        split at w
        · rename_i h
          have e : two62 = 2 ^ 62 := by decide
          rw [e] at h
          exact ⟨_, _, rfl, h, w _ W2 H2 m2 o2 (g1.trans g2) it_rng⟩
        · exact w.elim
      · exact w.elim
theorem sdI_L {Wx : WX} {ta : TE} {ra : Rs PyData} {q : Bool} (ha : q = false → Sd K cl Wx ta env μ false ra) : SdI K cl Wx (iList K ta) env μ (if q then .stuck else ra.bind fun x μ1 => match x with
    | .list ds => .ok ds μ1
    | _ => .stuck) := fun H0 W H σ R m o en w => by
  cases q with
  | true => exact w.elim
  | false =>
    refine ha rfl H0 W H σ _ m o en ?_
    simp only [Bool.false_eq_true, if_false] at w
    cases ra with
    | ex c μ' => exact w
    | stuck => exact w
    | ok d μ1 =>
      intro v W1 H1 m1 o1 g1 _ r1
      rw [Rs.bind_ok] at w
      have r1 := r1 rfl
      split at w
      · cases r1 with
        | lst hs hl => exact ⟨_, rfl, ⟨_, Evl.ex_l o1.fh hs⟩, w _ W1 H1 m1 o1 g1 (it_list hs hl)⟩
      · exact w.elim
theorem sdI_T {Wx : WX} {ta : TE} {ra : Rs PyData} {b1 : Bool} (ha : Sd K cl Wx ta env μ b1 ra) : SdI K cl Wx (iTup K ta) env μ (ra.bind fun x μ1 => match x with
    | .tuple ds => .ok ds μ1
    | _ => .stuck) := fun H0 W H σ R m o en w => by
  refine ha H0 W H σ _ m o en ?_
  cases ra with
  | ex c μ' => exact w
  | stuck => exact w
  | ok d μ1 =>
    intro v W1 H1 m1 o1 g1 r1 _
    rw [Rs.bind_ok] at w
    split at w
    · cases r1.repTup with
      | tup hs hl => exact ⟨_, rfl, ⟨_, Evl.ex_t o1.fh hs⟩, w _ W1 H1 m1 o1 g1 (it_tup hs hl)⟩
    · exact w.elim
theorem sdI_zip {Wx : WX} {ta tb : TE} {ra : Rs PyData} {q : Bool} {fb : Store → Rs PyData} (ha : q = false → Sd K cl Wx ta env μ false ra) (hb : q = false → ∀ μ, Sd K cl Wx tb env μ false (fb μ)) : SdI K cl Wx (iZip K (tCons ta (tCons tb tNil))) env μ (if q then .stuck else ra.bind fun x μ1 => (fb μ1).bind fun y μ2 => match x, y with
    | .list xs, .list ys => .ok (zipD xs ys) μ2
    | _, _ => .stuck) := fun H0 W H σ R m o en w => by
  cases q with
  | true => exact w.elim
  | false =>
    refine ha rfl H0 W H σ _ m o en ?_
    simp only [Bool.false_eq_true, if_false] at w
    cases ra with
    | ex c μ' => exact w
    | stuck => exact w
    | ok d μ1 =>
      intro v W1 H1 m1 o1 g1 _ r1
      refine hb rfl μ1 H0 W1 H1 σ _ m1 o1 (en.go g1) ?_
      rw [Rs.bind_ok] at w
      cases eb : fb μ1 with
      | ex c μ' => rw [eb] at w; exact exUp g1 w
      | stuck => rw [eb] at w; exact w
      | ok e μ2 =>
        rw [eb, Rs.bind_ok] at w
        intro u W2 H2 m2 o2 g2 _ r2
        have r1 := g2.rep (r1 rfl)
        have r2 := r2 rfl
        split at w
        · cases r1 with
          | lst hs hl =>
            cases r2 with
            | lst hs2 hl2 => exact ⟨_, _, _, _, rfl, Evl.ex_l o2.fh hs, Evl.ex_l o2.fh hs2, w _ W2 H2 m2 o2 (g1.trans g2) (it_zip hs hl hs2 hl2)⟩
        · exact w.elim
theorem sdI_enum {Wx : WX} {ta : TE} {ra : Rs PyData} {q : Bool} (ha : q = false → Sd K cl Wx ta env μ false ra) : SdI K cl Wx (iEnum K (tCons ta tNil)) env μ (if q then .stuck else ra.bind fun x μ1 => match x with
    | .list xs => .ok (enumD 0 xs) μ1
    | _ => .stuck) := fun H0 W H σ R m o en w => by
  cases q with
  | true => exact w.elim
  | false =>
    refine ha rfl H0 W H σ _ m o en ?_
    simp only [Bool.false_eq_true, if_false] at w
    cases ra with
    | ex c μ' => exact w
    | stuck => exact w
    | ok d μ1 =>
      intro v W1 H1 m1 o1 g1 _ r1
      rw [Rs.bind_ok] at w
      have r1 := r1 rfl
      split at w
      · cases r1 with
        | lst hs hl => exact ⟨_, _, rfl, Evl.ex_l o1.fh hs, w _ W1 H1 m1 o1 g1 (it_enum hs hl)⟩
      · exact w.elim
theorem sdL_if {Wx : WX} {t : TA} {q : Bool} {r : Rs (List PyData)} (h : q = false → SdL K cl Wx t env μ r) : SdL K cl Wx t env μ (if q then .stuck else r) := by
  cases q with
  | true => exact sdL_stuck
  | false => exact h rfl
theorem sdO_of {Wx : WX} (e : E) {t : TE} {bv : Bool} {r : Rs PyData} (h : Sd K cl Wx t env μ bv r) : SdO K cl Wx (rdO' e t) env μ (match e with
    | .no => (Rs.ok none μ : Rs (Option Int))
    | _ => r.bind fun l μ2 => opt (asI l) μ2) := by
  cases e <;> first | exact sdO_no | exact sdO_part h
theorem sdC_of (c : E) {t : TT} {r : Rs PyData} (h : SdT K cl noW t env μ r) : SdT K cl noW (rdC' c t) env μ ((match c with
    | .no => (Rs.ok true μ : Rs Bool)
    | _ => r.bind fun k μ2 => opt (asB k) μ2).bind fun k μ' => .ok (.bool k) μ') := by
  have gen : SdT K cl noW t env μ ((r.bind fun k μ2 => opt (asB k) μ2).bind fun k μ' => .ok (.bool k) μ') := fun H0 W H σ Q m o en w => by
    refine h H0 W H σ Q m o en ?_
    cases r with
    | ex c μ' => exact w
    | stuck => exact w
    | ok d μ' =>
      rw [Rs.bind_ok] at w
      cases e : asB d with
      | none => rw [e] at w; exact w.elim
      | some k =>
        rw [e] at w
        obtain ⟨k', e', w⟩ := w
        cases e'
        exact ⟨k, asB_of e, w⟩
  have none : SdT K cl noW tYes env μ ((Rs.ok true μ : Rs Bool).bind fun k μ' => .ok (.bool k) μ') := fun H0 W H σ Q m o en w => by
    obtain ⟨k, e, w⟩ := w
    cases e
    exact w W H m o (Go.refl _ _)
  cases c <;> first | exact gen | exact none
theorem sdN_conv {Wx : WX} {t : TE} {r r' : Rs PyData} (h : SdN K cl Wx t env μ r) (e : r' = r) : SdN K cl Wx t env μ r' := e ▸ h
theorem sdN_comp2 {Wx : WX} {wi : TI} {tt : TT} {te : TE} {tg : Tg} {vs : List Nat} {ri : Rs (List PyData)} {q : Bool} {fc : List SV → Store → Rs Bool} {fe : List SV → Store → Rs PyData}
    (hi : SdI K cl Wx wi env μ ri) (hc : ∀ env μ, SdT K cl noW tt env μ ((fc env μ).bind fun k μ' => .ok (.bool k) μ')) (he : q = false → ∀ env μ, Sd K cl noW te env μ false (fe env μ)) :
    SdN K cl Wx (tLc wi (tg.rd K) tt te vs) env μ (ri.bind fun ds μ1 =>
      if tg.slots.all (fun i => vs.contains i && decide (i < env.length)) && !q && decide (ds.length ≤ lim) then
        match cLoop tg (fun env' μ' => (fc env' μ').bind fun k μ2 => if k then (fe env' μ2).bind fun d μ3 => .ok (some d) μ3 else .ok none μ2) (wipeE env vs) ds μ1 with
        | .ok r μ2 => .ok (.list r) μ2
        | _ => .stuck
      else .stuck) := by
  cases hq : (tg.slots.all (fun i => vs.contains i && decide (i < env.length)) && !q) with
  | false =>
    refine fun H0 W H σ Q m o en w => hi H0 W H σ _ m o en ?_
    cases ri with
    | ex c μ' => exact w
    | stuck => exact w
    | ok ds μ1 =>
      rw [Rs.bind_ok, Bool.false_and] at w
      exact w.elim
  | true =>
    rw [Bool.and_eq_true] at hq
    have q0 : q = false := by simpa using hq.2
    have hv : ∀ i, i ∈ tg.slots → i ∈ vs := fun i hm => by
      have := List.all_eq_true.mp hq.1 i hm
      rw [Bool.and_eq_true] at this
      simpa using this.1
    by_cases hl : ∀ ds μ', ri = .ok ds μ' → ds.length ≤ lim
    · have h := sdN_comp (te := te) (fe := fe) hi hc (he q0) hv hl
      refine sdN_conv h ?_
      cases ri with
      | ex c μ' => rfl
      | stuck => rfl
      | ok ds μ1 =>
        have := hl ds μ1 rfl
        rw [Rs.bind_ok, Rs.bind_ok, if_pos (by rw [decide_eq_true this]; rfl)]
        try rfl
    · refine fun H0 W H σ Q m o en w => hi H0 W H σ _ m o en ?_
      cases ri with
      | ex c μ' => exact w
      | stuck => exact w
      | ok ds μ1 =>
        have : ¬ ds.length ≤ lim := fun z => hl fun ds' μ' e => by cases e; exact z
        rw [Rs.bind_ok, decide_eq_false this, Bool.and_false] at w
        exact w.elim
theorem isList_comp {ri : Rs (List PyData)} {p : List PyData → Bool} {g : List PyData → Store → Rs (List PyData)} {d : PyData} {μ' : Store} (h : (ri.bind fun ds μ1 => if p ds then (match g ds μ1 with
        | .ok r μ2 => (Rs.ok (.list r) μ2 : Rs PyData)
        | _ => .stuck)
      else .stuck) = .ok d μ') : ∃ l, d = .list l := by
  cases ri with
  | ex c μ' => cases h
  | stuck => cases h
  | ok ds μ1 =>
    rw [Rs.bind_ok] at h
    split at h
    · split at h
      · cases h; exact ⟨_, rfl⟩
      · cases h
    · cases h
theorem sd_comp {Wx : WX} {wi : TI} {tt : TT} {te : TE} {tg : Tg} {vs : List Nat} {ri : Rs (List PyData)} {q bv : Bool} {fc : List SV → Store → Rs Bool} {fe : List SV → Store → Rs PyData}
    (hi : SdI K cl Wx wi env μ ri) (hc : ∀ env μ, SdT K cl noW tt env μ ((fc env μ).bind fun k μ' => .ok (.bool k) μ')) (he : q = false → ∀ env μ, Sd K cl noW te env μ false (fe env μ)) :
    Sd K cl Wx (tLc wi (tg.rd K) tt te vs) env μ bv (ri.bind fun ds μ1 =>
      if tg.slots.all (fun i => vs.contains i && decide (i < env.length)) && !q && decide (ds.length ≤ lim) then
        match cLoop tg (fun env' μ' => (fc env' μ').bind fun k μ2 => if k then (fe env' μ2).bind fun d μ3 => .ok (some d) μ3 else .ok none μ2) (wipeE env vs) ds μ1 with
        | .ok r μ2 => .ok (.list r) μ2
        | _ => .stuck
      else .stuck) := sd_ofN (fun d μ' e => isList_comp e) (sdN_comp2 hi hc he)
theorem sdN_bi {Wx : WX} {t : TA} {rl : Rs (List PyData)} (h : SdB K cl Wx t env μ rl) : SdN K cl Wx (tCB (rBi K .list) t) env μ (rl.bind fun ds μ1 => opt (biP .list ds) μ1) := fun H0 W H σ Q m o en w => by
  refine h H0 W H σ _ m o en ?_
  cases rl with
  | ex c μ' => exact w
  | stuck => exact w
  | ok ds μ1 =>
    intro vs W1 H1 m1 o1 g1 r1
    rw [Rs.bind_ok] at w
    cases ef : biP .list ds with
    | none => rw [ef] at w; exact w.elim
    | some z =>
      rw [ef, opt_some] at w
      obtain ⟨l, rfl, w⟩ := w
      refine listN_ok o1 ef r1 fun p vs' H' o' g' hp hF hi e r => ?_
      have h0 : H p = none := by
        cases q : H p with
        | none => rfl
        | some u => exact absurd hp (g1.there p (by rw [q]; simp))
      exact w p vs' W1 H' m1 o' (g1.trans g') h0 hF hi e r
theorem fmt_ok {W : Wd} {H : Hp} {x : V} {d z : PyData} {Q : VK} (o : WOk K cl W H) (hz : fmtP d = some z) (rx : RepB K W H x d) (k : PostB K cl W H z Q) :
    (∃ y : Str, x = .str y ∧ y.length ≤ sizeLine ∧ Q (.str y) H) ∨ ∃ i : Int, x = .int i ∧ i.natAbs.log2 < 1920 ∧ Q (.str (toString i)) H := by
  unfold fmtP at hz
  split at hz
  · cases rx.str
    split at hz
    · rename_i hl
      cases hz
      exact .inl ⟨_, rfl, lim_le hl, k.here o (.str _)⟩
    · cases hz
  · cases rx.int
    split at hz
    · rename_i i hl
      cases hz
      refine .inr ⟨i, rfl, ?_, k.here o (.str _)⟩
      have hb : big = 2 ^ 64 := by decide
      rw [hb] at hl
      have : i.natAbs < 2 ^ 64 := by omega
      exact Nat.lt_trans (PySem.Flt.log2_lt_of (by decide) this) (by decide)
    · cases hz
  · cases hz
/-- the parts of a text -/
def WantJ (K : PySem.W.Frag) (cl : Nat → Addr) (Wx : WX) (W : Wd) (H : Hp) (σ : L2.St) (Q : Str → Hp → Prop) : Rs Str → Prop
  | .ok o μ' => ∀ W' H', W'.μ = μ' → WOk K cl W' H' → Go W H W' H' → Q o H'
  | .ex c μ' => ∀ W' H', W'.μ = μ' → WOk K cl W' H' → Go W H W' H' → Wx (.ref (cl c)) none σ H'
  | .stuck => False
def SdJ (K : PySem.W.Frag) (cl : Nat → Addr) (Wx : WX) (t : L2.St → Hp → (Str → Hp → Prop) → Prop) (env : List SV) (μ : Store) (r : Rs Str) : Prop := ∀ H0 W H σ Q, W.μ = μ → WOk K cl W H → EnvOk K H0 W H env σ → WantJ K cl Wx W H σ Q r → t σ H Q
theorem sdJ_cons {Wx : WX} {ta : TE} {ra : Rs PyData} {b1 : Bool} {acc : Str} {t : Str → L2.St → Hp → (Str → Hp → Prop) → Prop} {fb : Str → Store → Rs Str} (ha : Sd K cl Wx ta env μ b1 ra) (hb : ∀ y μ1, SdJ K cl Wx (t y) env μ1 (fb y μ1)) :
    SdJ K cl Wx (fun σ H Q => ta σ H fun x H1 => ∃ y : Str, x = .str y ∧ (acc ++ y).length ≤ sizeLine ∧ t y σ H1 Q) env μ (ra.bind fun x μ1 => match x with
    | .str y => if (acc ++ y).length ≤ lim then fb y μ1 else .stuck
    | _ => .stuck) := fun H0 W H σ Q m o en w => by
  refine ha H0 W H σ _ m o en ?_
  cases ra with
  | ex c μ' => exact w
  | stuck => exact w
  | ok d μ1 =>
    intro v W1 H1 m1 o1 g1 r1 _
    rw [Rs.bind_ok] at w
    split at w
    · rename_i y _
      cases r1.str
      split at w
      · rename_i hl
        refine ⟨_, rfl, lim_le hl, hb _ μ1 H0 W1 H1 σ Q m1 o1 (en.go g1) ?_⟩
        cases e : fb y μ1 with
        | ok z μ2 => rw [e] at w; exact fun W2 H2 m2 o2 g2 => w W2 H2 m2 o2 (g1.trans g2)
        | ex c μ' => rw [e] at w; exact exUp g1 w
        | stuck => rw [e] at w; exact w
      · exact w.elim
    · exact w.elim
theorem sd_fstr {Wx : WX} {t : L2.St → Hp → (Str → Hp → Prop) → Prop} {r : Rs Str} {bv : Bool} (h : SdJ K cl Wx t env μ r) : Sd K cl Wx (fun σ H Q => t σ H fun out H1 => Q (.str out) H1) env μ bv (r.bind fun x μ1 => .ok (.str x) μ1) := fun H0 W H σ Q m o en w => by
  refine h H0 W H σ _ m o en ?_
  cases r with
  | ex c μ' => exact w
  | stuck => exact w
  | ok d μ1 => exact fun W1 H1 m1 o1 g1 => w _ W1 H1 m1 o1 g1 (.inl (.str _)) fun _ => .str _
/-! ## a display of texts, asked at once -/
def pairsOf : List Str → List V → List (Key × V)
  | k :: ks, v :: vs => (.inr k, v) :: pairsOf ks vs
  | _, _ => []
theorem pairsOf_le : ∀ (ks : List Str) (vs : List V), (pairsOf ks vs).length ≤ ks.length
  | [], _ => Nat.le_refl _
  | _ :: _, [] => Nat.zero_le _
  | k :: ks, v :: vs => Nat.succ_le_succ (pairsOf_le ks vs)
theorem pairsOf_none : ∀ (ks : List Str) (vs : List V) (k : Str), k ∉ ks → valV (pairsOf ks vs) (.inr k) = none
  | [], _, _, _ => rfl
  | _ :: _, [], _, _ => rfl
  | k :: ks, v :: vs, w, h => by
    show valV ((.inr k, v) :: pairsOf ks vs) (.inr w) = none
    rw [valV_neg (fun e => h (by cases e; exact List.mem_cons_self))]
    exact pairsOf_none ks vs w fun z => h (List.mem_cons_of_mem _ z)
theorem merge_fresh : ∀ (ks : List Str) (vs : List V) (acc : List (Key × V)), ks.Nodup → (∀ k ∈ ks, valV acc (.inr k) = none) → mergeK acc (pairsOf ks vs) = acc ++ pairsOf ks vs
  | [], _, acc, _, _ => (List.append_nil acc).symm
  | _ :: _, [], acc, _, _ => (List.append_nil acc).symm
  | k :: ks, v :: vs, acc, nd, h => by
    show mergeK (putK acc (.inr k) v) (pairsOf ks vs) = acc ++ (.inr k, v) :: pairsOf ks vs
    have nd' := List.nodup_cons.mp nd
    have h0 := h k List.mem_cons_self
    rw [putK_new v h0, merge_fresh ks vs _ nd'.2 fun j hj => ?_, List.append_assoc]
    · rfl
    · rw [valV_snoc _ _ _ _ h0, if_neg (fun e => nd'.1 (by cases e; exact hj))]
      exact h j (List.mem_cons_of_mem _ hj)
theorem look_val {F : Hp} {ι : List Addr} : ∀ {ks : List Str} {ds : List PyData} {vs : List V} {w : Str} {d : PyData}, RepL K F ι vs ds → lookD ks ds w = some d → ∃ v, valV (pairsOf ks vs) (.inr w) = some v ∧ Rep K F ι v d
  | [], _, _, _, _, _, h => by cases h
  | _ :: _, [], _, _, _, _, h => by cases h
  | k :: ks, d0 :: ds, _, w, d, .cons (v := v) (vs := vs) r rr, h => by
    unfold lookD at h
    by_cases e : k = w
    · rw [if_pos e] at h
      cases h
      exact ⟨v, valV_pos (by rw [e]), r⟩
    · rw [if_neg e] at h
      obtain ⟨u, h1, h2⟩ := look_val rr h
      refine ⟨u, ?_, h2⟩
      show valV ((.inr k, v) :: pairsOf ks vs) (.inr w) = some u
      rw [valV_neg (fun z => e (by cases z; rfl))]
      exact h1
def SdP (K : PySem.W.Frag) (cl : Nat → Addr) (Wx : WX) (trs : List (TE × TE)) (ks : List Str) (env : List SV) (μ : Store) (r : Rs (List PyData)) : Prop :=
  ∀ H0 W H σ (Q : List (V × V) → Hp → Prop), W.μ = μ → WOk K cl W H → EnvOk K H0 W H env σ → ks.length = trs.length →
    WantL K cl Wx W H σ (fun vs H' => Q ((pairsOf ks vs).map fun kv => (kV kv.1, kv.2)) H') r → tPairs trs σ H Q
theorem sdP_cons {ta : TE} {trs : List (TE × TE)} {ks : List Str} {ra : Rs PyData} {fb : Store → Rs (List PyData)} (ha : Sd K cl Wx ta env μ false ra) (hb : ∀ μ1, SdP K cl Wx trs ks.tail env μ1 (fb μ1)) :
    SdP K cl Wx ((tC (.str (ks.headD Str.empty)), ta) :: trs) ks env μ (ra.bind fun d μ1 => (fb μ1).bind fun ds μ2 => .ok (d :: ds) μ2) := fun H0 W H σ Q m o en hl w => by
  cases ks with
  | nil => cases hl
  | cons k ks =>
    show ta σ H fun y H2 => tPairs trs σ H2 fun ps H3 => Q ((.str k, y) :: ps) H3
    refine ha H0 W H σ _ m o en ?_
    cases ra with
    | ex c μ' => exact w
    | stuck => exact w
    | ok d μ1 =>
      intro v W1 H1 m1 o1 g1 _ r1
      refine hb μ1 H0 W1 H1 σ _ m1 o1 (en.go g1) (Nat.succ.inj hl) ?_
      rw [Rs.bind_ok] at w
      cases eb : fb μ1 with
      | ex c μ' => rw [eb] at w; exact exUp g1 w
      | stuck => rw [eb] at w; exact w
      | ok e μ2 =>
        rw [eb, Rs.bind_ok] at w
        intro u W2 H2 m2 o2 g2 r2
        exact w (v :: u) W2 H2 m2 o2 (g1.trans g2) (.cons (g2.rep (r1 rfl)) r2)
theorem sdP_if {trs : List (TE × TE)} {ks : List Str} {q : Bool} {r : Rs (List PyData)} (h : q = false → SdP K cl Wx trs ks env μ r) : SdP K cl Wx trs ks env μ (if q = true then .stuck else r) := by
  cases q with
  | true => exact fun _ _ _ _ _ _ _ _ _ w => w.elim
  | false => exact h rfl
theorem sd_dsp {trs : List (TE × TE)} {ks : List Str} {tb : TE} {rl : Rs (List PyData)} {fb : Store → Rs PyData} {b2 bv : Bool} (nd : ks.Nodup) (hl : ks.length = trs.length) (h15 : ks.length ≤ 15)
    (hP : SdP K cl Wx trs ks env μ rl) (hb : ∀ μ1, Sd K cl Wx tb env μ1 b2 (fb μ1)) : Sd K cl Wx (tDGet (tDisp trs) tb) env μ bv (rl.bind fun ds μ1 => (fb μ1).bind fun y μ2 => opt (dspP ks ds y) μ2) := fun H0 W H σ Q m o en w => by
  intro p hp
  have gp : Go W H W (upd H p (.dK [])) := Go.new hp
  have op : WOk K cl W (upd H p (.dK [])) := o.new hp
  have hF := o.fnone hp
  have hi := o.notIn hp
  refine hP H0 W (upd H p (.dK [])) σ _ m op (en.go gp) hl ?_
  cases rl with
  | ex c μ' => exact exUp gp w
  | stuck => exact w
  | ok ds μ1 =>
    rw [Rs.bind_ok] at w
    intro vs W1 H1 m1 o1 g1 r1
    have e1 : H1 p = some (.dK []) := g1.keep p _ upd_same hi
    have hF1 : W1.F p = none := g1.fn p (by rw [upd_same]; simp) hF hi
    have hi1 : p ∉ W1.ι := fun z => hi (g1.inew p z (by rw [upd_same]; simp))
    have em : mergeK [] (pairsOf ks vs) = pairsOf ks vs := merge_fresh ks vs [] nd fun _ _ => rfl
    have o1' : WOk K cl W1 (upd H1 p (.dK (pairsOf ks vs))) := o1.mut hF1 hi1
    have g1' : Go W H W1 (upd H1 p (.dK (pairsOf ks vs))) := Go.mut (gp.trans g1) hp
    refine ⟨e1, pairsOf ks vs, rfl, Nat.le_trans (pairsOf_le ks vs) h15, ?_⟩
    rw [em]
    refine hb μ1 H0 W1 _ σ _ m1 o1' (en.go g1') ?_
    cases eb : fb μ1 with
    | ex c μ' => rw [eb] at w; exact exUp g1' w
    | stuck => rw [eb] at w; exact w
    | ok y μ2 =>
      rw [eb, Rs.bind_ok] at w
      intro u W2 H2 m2 o2 g2 r2 _
      cases y with
      | str wd =>
        cases ed : dspP ks ds (.str wd) with
        | none => rw [ed] at w; exact w.elim
        | some z =>
          rw [ed, opt_some] at w
          obtain ⟨v, hv, rv⟩ := look_val r1 (show lookD ks ds wd = some z from ed)
          have e2 : H2 p = some (.dK (pairsOf ks vs)) := g2.keep p _ upd_same hi1
          have hu : u = .str wd := r2.str
          subst hu
          have q := DGet.k (k := .inr wd) e2
          rw [hv] at q
          exact ⟨p, v, rfl, q, w v W2 H2 m2 o2 (g1'.trans g2) (.inl (g2.rep rv)) fun _ => g2.rep rv⟩
      | none => exact w.elim
      | bool _ => exact w.elim
      | int _ => exact w.elim
      | list _ => exact w.elim
      | tuple _ => exact w.elim
      | dict _ => exact w.elim
theorem sd_dspIf {trs : List (TE × TE)} {ks : List Str} {tb : TE} {rl : Rs (List PyData)} {fb : Store → Rs PyData} {b2 bv : Bool} {n : Nat} (hn : trs.length = n)
    (hP : SdP K cl Wx trs ks env μ rl) (hb : ∀ μ1, Sd K cl Wx tb env μ1 b2 (fb μ1)) : Sd K cl Wx (tDGet (tDisp trs) tb) env μ bv (if ks.Nodup ∧ ks.length = n ∧ ks.length ≤ 15 then rl.bind fun ds μ1 => (fb μ1).bind fun y μ2 => opt (dspP ks ds y) μ2 else .stuck) := by
  by_cases h : ks.Nodup ∧ ks.length = n ∧ ks.length ≤ 15
  · rw [if_pos h]
    exact sd_dsp h.1 (h.2.1.trans hn.symm) h.2.2 hP hb
  · rw [if_neg h]
    exact sd_stuck
theorem pairs_dl {F : Hp} {ι : List Addr} : ∀ {ks : List Str} {vs : List V} {ds : List PyData}, RepL K F ι vs ds → DL K F ι (pairsOf ks vs) (List.zip (ks.map .str) ds)
  | [], _, _, _ => by simpa [pairsOf] using DL.nil
  | k :: ks, _, _, .nil => by simpa [pairsOf] using DL.nil
  | k :: ks, _, _, .cons ra rb => DL.cons (k := .inr k) ra (pairs_dl rb)
theorem sdD_disp {trs : List (TE × TE)} {ks : List Str} {rl : Rs (List PyData)} (nd : ks.Nodup) (hl : ks.length = trs.length) (h15 : ks.length ≤ 15) (hP : SdP K cl Wx trs ks env μ rl) :
    SdD K cl Wx (tDisp trs) env μ (rl.bind fun ds μ1 => .ok (dD (List.zip (ks.map .str) ds)) μ1) := fun H0 W H σ Q m o en w => by
  intro p hp
  have gp : Go W H W (upd H p (.dK [])) := Go.new hp
  have op : WOk K cl W (upd H p (.dK [])) := o.new hp
  have hF := o.fnone hp
  have hi := o.notIn hp
  refine hP H0 W (upd H p (.dK [])) σ _ m op (en.go gp) hl ?_
  cases rl with
  | ex c μ' => exact exUp gp w
  | stuck => exact w
  | ok ds μ1 =>
    rw [Rs.bind_ok] at w
    intro vs W1 H1 m1 o1 g1 r1
    have e1 : H1 p = some (.dK []) := g1.keep p _ upd_same hi
    have hF1 : W1.F p = none := g1.fn p (by rw [upd_same]; simp) hF hi
    have hi1 : p ∉ W1.ι := fun z => hi (g1.inew p z (by rw [upd_same]; simp))
    have em : mergeK [] (pairsOf ks vs) = pairsOf ks vs := merge_fresh ks vs [] nd fun _ _ => rfl
    have o1' : WOk K cl W1 (upd H1 p (.dK (pairsOf ks vs))) := o1.mut hF1 hi1
    have g1' : Go W H W1 (upd H1 p (.dK (pairsOf ks vs))) := Go.mut (gp.trans g1) hp
    refine ⟨e1, pairsOf ks vs, rfl, Nat.le_trans (pairsOf_le ks vs) h15, ?_⟩
    rw [em]
    obtain ⟨l, e, w⟩ := w
    cases e
    exact w p _ W1 _ m1 o1' g1' hp hF1 hi1 upd_same (pairs_dl r1)
theorem dD_of {rl : Rs (List PyData)} {ks : List Str} {d : PyData} {μ' : Store} (h : (rl.bind fun ds μ1 => (Rs.ok (dD (List.zip (ks.map .str) ds)) μ1 : Rs PyData)) = .ok d μ') : ∃ l, d = dD l := by
  cases rl with
  | ex c μ' => cases h
  | stuck => cases h
  | ok ds μ1 => cases h; exact ⟨_, rfl⟩
theorem sdN_if {Wx : WX} {t : TE} {q : Bool} {r : Rs PyData} (h : q = true → SdN K cl Wx t env μ r) : SdN K cl Wx t env μ (if !q then .stuck else r) := by
  cases q with
  | true => exact h rfl
  | false => exact fun _ _ _ _ _ _ _ _ w => w.elim
theorem sd_ifq {Wx : WX} {t : TE} {q bv : Bool} {r : Rs PyData} (h : q = true → Sd K cl Wx t env μ bv r) : Sd K cl Wx t env μ bv (if !q then .stuck else r) := by
  cases q with
  | true => exact h rfl
  | false => exact sd_stuck
theorem isList_if {q : Bool} {r : Rs PyData} {d : PyData} {μ' : Store} (h : (if q then .stuck else r) = .ok d μ') (k : r = .ok d μ' → ∃ l, d = .list l) : ∃ l, d = .list l := by
  cases q with
  | true => cases h
  | false => exact k h
theorem isD_copy {ra : Rs PyData} {d : PyData} {μ' : Store} (h : (ra.bind fun x μ1 => match op1P .copyD x μ1 with
      | some (d, μ2) => (Rs.ok d μ2 : Rs PyData)
      | none => .stuck) = .ok d μ') : ∃ l, d = dD l := by
  cases ra with
  | ex c μ' => cases h
  | stuck => cases h
  | ok x μ1 =>
    rw [Rs.bind_ok] at h
    split at h
    · rename_i z μ2 hz
      obtain ⟨l, hl, h2⟩ := map_of hz
      cases h2
      cases h
      exact ⟨_, rfl⟩
    · cases h
theorem isList_rep {ra : Rs PyData} {fb : Store → Rs PyData} {d : PyData} {μ' : Store} (h : (ra.bind fun x μ1 => match x with
    | .list l => (fb μ1).bind fun y μ2 => match y with
      | .int k => if -two62 ≤ k ∧ k < two62 ∧ l.length * k.toNat ≤ lim then (Rs.ok (.list (List.replicate k.toNat l).flatten) μ2 : Rs PyData) else .stuck
      | _ => .stuck
    | _ => .stuck) = .ok d μ') : ∃ l, d = .list l := by
  cases ra with
  | ex c μ' => cases h
  | stuck => cases h
  | ok x μ1 =>
    rw [Rs.bind_ok] at h
    cases x with
    | list l =>
      simp only at h
      cases e : fb μ1 with
      | ex c μ' => rw [e] at h; cases h
      | stuck => rw [e] at h; cases h
      | ok y μ2 =>
        rw [e, Rs.bind_ok] at h
        split at h
        · split at h
          · cases h; exact ⟨_, rfl⟩
          · cases h
        · cases h
    | _ => cases h
theorem disp_all (ks : List Str) (l : List E) (Wx : WX) (env : List SV) (μ : Store) (hP : SdP K cl Wx (rdP K cl C Wx ks l) ks env μ (evL C l env μ)) (hn : (rdP K cl C Wx ks l).length = l.length) :
    SdD K cl Wx (rd2 K cl C Wx (.dispD ks l)).1 env μ (ev C (.dispD ks l) env μ) ∧ ∀ d μ', ev C (.dispD ks l) env μ = .ok d μ' → ∃ l, d = dD l := by
  cases ks with
  | nil =>
    cases l with
    | nil => exact ⟨sdD_new, fun d μ' h => by cases h; exact ⟨_, rfl⟩⟩
    | cons e l =>
      have q : ev C (.dispD [] (e :: l)) env μ = .stuck := if_neg (by simp)
      rw [q]
      exact ⟨fun _ _ _ _ _ _ _ _ w => w.elim, fun d μ' h => by cases h⟩
  | cons k ks =>
    by_cases h : (k :: ks).Nodup ∧ (k :: ks).length = l.length ∧ (k :: ks).length ≤ 15
    · have e : ev C (.dispD (k :: ks) l) env μ = (evL C l env μ).bind fun ds μ1 => .ok (dD (List.zip ((k :: ks).map .str) ds)) μ1 := if_pos h
      rw [e]
      exact ⟨sdD_disp h.1 (h.2.1.trans hn.symm) h.2.2 hP, fun d μ' q => dD_of q⟩
    · have e : ev C (.dispD (k :: ks) l) env μ = .stuck := if_neg h
      rw [e]
      exact ⟨fun _ _ _ _ _ _ _ _ w => w.elim, fun d μ' h => by cases h⟩
/-! ## all expressions -/
theorem rdP_len : ∀ (ks : List Str) (l : List E) (Wx : WX), (rdP K cl C Wx ks l).length = l.length
  | _, [], _ => rfl
  | ks, e :: r, Wx => congrArg Nat.succ (rdP_len ks.tail r Wx)
mutual
theorem snd : ∀ (e : E) (Wx : WX) (env : List SV) (μ : Store), Sd K cl Wx (rd2 K cl C Wx e).1 env μ e.isBv (ev C e env μ) ∧ SdT K cl Wx (rd2 K cl C Wx e).2 env μ (ev C e env μ)
  | .var i, Wx, env, μ => ⟨sd_var i, sd_test (bv := false) (sd_var i)⟩
  | .bv i, Wx, env, μ => ⟨sd_bv i, sd_test (sd_bv i)⟩
  | .cst d, Wx, env, μ => ⟨sd_cst d, sd_test (bv := false) (sd_cst d)⟩
  | .bin o a b, Wx, env, μ => by
    have h := fun bv => sd_op (bv := bv) (snd a Wx env μ).1 (fun μ1 => (snd b Wx env μ1).1) (r := rBin K o) (f := binP o) fun ok hz rx ry k => bin_ok ok hz rx ry k
    exact ⟨h _, sd_test (h false)⟩
  | .neg a, Wx, env, μ => ⟨sd_neg (snd a Wx env μ).1, sd_test (bv := false) (sd_neg (snd a Wx env μ).1)⟩
  | .cmp o a b, Wx, env, μ => by
    have h := fun bv => sd_op (bv := bv) (snd a Wx env μ).1 (fun μ1 => (snd b Wx env μ1).1) (r := rCmp K o) (f := cmpP o) fun ok hz rx ry k => cmp_ok ok hz rx ry k
    exact ⟨h _, sd_test (h false)⟩
  | .isn ng a, Wx, env, μ => ⟨sd_isn (snd a Wx env μ).1, sd_test (bv := false) (sd_isn (snd a Wx env μ).1)⟩
  | .chain o o' a b c, Wx, env, μ => by
    have h := fun bv => sd_chain (bv := bv) (o := o) (o' := o') (snd a Wx env μ).1 (fun μ1 => (snd b Wx env μ1).1) fun μ1 => (snd c Wx env μ1).1
    exact ⟨h _, sd_test (h false)⟩
  | .and a b, Wx, env, μ => ⟨sd_and (snd a Wx env μ).1 fun hq μ1 => hq ▸ (snd b Wx env μ1).1, sdT_and (snd a Wx env μ).2 fun _ μ1 => (snd b Wx env μ1).2⟩
  | .or a b, Wx, env, μ => ⟨sd_or (snd a Wx env μ).1 fun hq μ1 => hq ▸ (snd b Wx env μ1).1, sdT_or (snd a Wx env μ).2 fun _ μ1 => (snd b Wx env μ1).2⟩
  | .not a, Wx, env, μ => ⟨sd_not (snd a Wx env μ).1, sdT_not (snd a Wx env μ).2⟩
  | .tru a, Wx, env, μ => ⟨sd_tru (snd a Wx env μ).1, sdT_tru (snd a Wx env μ).1⟩
  | .ite c a b, Wx, env, μ => by
    have h := fun bv => sd_ite (bv := bv) (q := a.isBv || b.isBv) (snd c Wx env μ).2 (fun hq μ1 => (Bool.or_eq_false_iff.mp hq).1 ▸ (snd a Wx env μ1).1) fun hq μ1 => (Bool.or_eq_false_iff.mp hq).2 ▸ (snd b Wx env μ1).1
    exact ⟨h _, sd_test (h false)⟩
  | .tup l, Wx, env, μ => ⟨sd_tup (sndL l Wx env μ), sd_test (bv := false) (sd_tup (sndL l Wx env μ))⟩
  | .lst l, Wx, env, μ => by
    have h := fun bv => sd_ofN (bv := bv) (fun d μ' => isList_of_if) (sdN_lst (sndL l Wx env μ))
    exact ⟨h _, sd_test (h false)⟩
  | .idx a b, Wx, env, μ => by
    have h := fun bv => sd_op (bv := bv) (snd a Wx env μ).1 (fun μ1 => (snd b Wx env μ1).1) (r := rIx K) (f := idxP) fun ok hz rx ry k => idx_ok ok hz rx ry k
    exact ⟨h _, sd_test (h false)⟩
  | .slc a lo hi, Wx, env, μ => by
    have h := fun bv => sd_slc (bv := bv) (snd a Wx env μ).1 (fun μ1 => sdO_of lo (snd lo Wx env μ1).1) (fun μ1 => sdO_of hi (snd hi Wx env μ1).1)
    exact ⟨h _, sd_test (h false)⟩
  | .call f l, Wx, env, μ => ⟨sd_call C (sndL l Wx env μ), sd_test (bv := false) (sd_call C (sndL l Wx env μ))⟩
  | .bi b l, Wx, env, μ => by
    have h := fun bv => sd_ta (bv := bv) (r := rBi K b) (f := biP b) (sndB l Wx env μ) fun ok hz rs k => bi_ok ok hz rs k
    exact ⟨h _, sd_test (h false)⟩
  | .isi T a, Wx, env, μ => ⟨sd_isi (snd a Wx env μ).1, sd_test (bv := false) (sd_isi (snd a Wx env μ).1)⟩
  | .join a b, Wx, env, μ => ⟨sd_join (snd a Wx env μ).1 fun μ1 => (snd b Wx env μ1).1, sd_test (bv := false) (sd_join (snd a Wx env μ).1 fun μ1 => (snd b Wx env μ1).1)⟩
  | .comp it tg c e vs, Wx, env, μ => by
    have h := fun bv => sd_comp (bv := bv) (tg := tg) (vs := vs) (q := e.isBv) (sndI it Wx env μ) (fun env μ => sdC_of c (snd c noW env μ).2) (fun hq env μ => hq ▸ (snd e noW env μ).1)
    exact ⟨h _, sd_test (h false)⟩
  | .fmt a, Wx, env, μ => by
    have h := fun bv => sd_1 (bv := bv) (k := fun x H Q => (∃ y : Str, x = .str y ∧ y.length ≤ sizeLine ∧ Q (.str y) H) ∨ ∃ i : Int, x = .int i ∧ i.natAbs.log2 < 1920 ∧ Q (.str (toString i)) H) (snd a Wx env μ).1 fun o hz rx k => fmt_ok o hz rx k
    exact ⟨h _, sd_test (h false)⟩
  | .fstr l, Wx, env, μ => ⟨sd_fstr (sndJ l Str.empty Wx env μ), sd_test (bv := false) (sd_fstr (sndJ l Str.empty Wx env μ))⟩
  | .dsp ks l b, Wx, env, μ => by
    have h := fun bv => sd_dspIf (bv := bv) (rdP_len C ks l Wx) (sndP ks l Wx env μ) fun μ1 => (snd b Wx env μ1).1
    exact ⟨h _, sd_test (h false)⟩
  | .callP f l, Wx, env, μ => ⟨sdL_noLoc C (sndL l Wx env μ), sd_test (bv := false) (sdL_noLoc C (sndL l Wx env μ))⟩
  | .make c f l, Wx, env, μ => ⟨sd_make C (sndL l Wx env μ), sd_test (bv := false) (sd_make C (sndL l Wx env μ))⟩
  | .mkF c f l, Wx, env, μ => ⟨sd_mkF C (sndL l Wx env μ), sd_test (bv := false) (sd_mkF C (sndL l Wx env μ))⟩
  | .meth ms m a l, Wx, env, μ => ⟨sd_meth C (snd a Wx env μ).1 fun μ1 => sndL l Wx env μ1, sd_test (bv := false) (sd_meth C (snd a Wx env μ).1 fun μ1 => sndL l Wx env μ1)⟩
  | .op1 o a, Wx, env, μ => by
    have h := fun bv => sd_op1 (bv := bv) (o := o) (snd a Wx env μ).1
    cases o with
    | ctru => exact ⟨h _, sdT_ctru (snd a Wx env μ).1⟩
    | _ => exact ⟨h _, sd_test (h false)⟩
  | .op2 o a b, Wx, env, μ => by
    have h := fun bv => sd_op2 (bv := bv) (o := o) (snd a Wx env μ).1 fun μ1 => (snd b Wx env μ1).1
    exact ⟨h _, sd_test (h false)⟩
  | .star a b, Wx, env, μ => by
    have h := fun bv => sd_star (bv := bv) (q := b.isBv) (snd a Wx env μ).1 fun hq μ1 => hq ▸ (snd b Wx env μ1).1
    exact ⟨h _, sd_test (h false)⟩
  | .ridx a b, Wx, env, μ => by
    have h := fun bv => sd_ridx (bv := bv) (snd a Wx env μ).1 fun μ1 => (snd b Wx env μ1).1
    exact ⟨h _, sd_test (h false)⟩
  | .repN a b, Wx, env, μ => by
    have h := fun bv => sd_ifq (bv := bv) (q := a.fresh) fun hq => sd_ofN (fun d μ' => isList_rep) (sdN_rep (sndN a Wx env μ hq) fun μ1 => (snd b Wx env μ1).1)
    exact ⟨h _, sd_test (h false)⟩
  | .box a, Wx, env, μ => by
    have h := fun bv => sd_ifq (bv := bv) (q := a.fresh) fun hq => sd_box (sndN a Wx env μ hq)
    exact ⟨h _, sd_test (h false)⟩
  | .boxD a, Wx, env, μ => by
    have h := fun bv => sd_ifq (bv := bv) (q := a.freshD) fun hq => sd_boxD (sndD a Wx env μ hq).1
    exact ⟨h _, sd_test (h false)⟩
  | .dispD ks l, Wx, env, μ => by
    have q := disp_all C ks l Wx env μ (sndP ks l Wx env μ) (rdP_len C ks l Wx)
    have h := fun bv => sd_ofD (bv := bv) q.2 q.1
    cases ks with
    | nil => cases l with
      | nil => exact ⟨h _, sd_test (h false)⟩
      | cons a b => exact ⟨h _, sd_test (h false)⟩
    | cons k ks => exact ⟨h _, sd_test (h false)⟩
  | .dcomp it tg k e vs, Wx, env, μ => by
    have h := fun bv => sd_ofD (bv := bv) (fun d μ' => dD_dcomp) (sdD_dcomp2 (tg := tg) (vs := vs) (q1 := k.isBv) (q2 := e.isBv) (sndI it Wx env μ) (fun hq env μ => hq ▸ (snd k noW env μ).1) (fun hq env μ => hq ▸ (snd e noW env μ).1))
    exact ⟨h _, sd_test (h false)⟩
  | .revI _, Wx, env, μ => ⟨sd_stuck, fun _ _ _ _ _ _ _ _ w => w.elim⟩
  | .zip3 _ _ _, Wx, env, μ => ⟨sd_stuck, fun _ _ _ _ _ _ _ _ w => w.elim⟩
  | .enumT _, Wx, env, μ => ⟨sd_stuck, fun _ _ _ _ _ _ _ _ w => w.elim⟩
  | .zipM _ _, Wx, env, μ => ⟨sd_stuck, fun _ _ _ _ _ _ _ _ w => w.elim⟩
  | .no, Wx, env, μ => ⟨sd_stuck, fun _ _ _ _ _ _ _ _ w => w.elim⟩
  | .rng1 _, Wx, env, μ => ⟨sd_stuck, fun _ _ _ _ _ _ _ _ w => w.elim⟩
  | .rng2 _ _, Wx, env, μ => ⟨sd_stuck, fun _ _ _ _ _ _ _ _ w => w.elim⟩
  | .seqL _, Wx, env, μ => ⟨sd_stuck, fun _ _ _ _ _ _ _ _ w => w.elim⟩
  | .seqT _, Wx, env, μ => ⟨sd_stuck, fun _ _ _ _ _ _ _ _ w => w.elim⟩
  | .zip _ _, Wx, env, μ => ⟨sd_stuck, fun _ _ _ _ _ _ _ _ w => w.elim⟩
  | .enum _, Wx, env, μ => ⟨sd_stuck, fun _ _ _ _ _ _ _ _ w => w.elim⟩
theorem sndP : ∀ (ks : List Str) (l : List E) (Wx : WX) (env : List SV) (μ : Store), SdP K cl Wx (rdP K cl C Wx ks l) ks env μ (evL C l env μ)
  | ks, [], Wx, env, μ => fun H0 W H σ Q m o en hl w => by
    have e : (pairsOf ks ([] : List V)) = [] := by cases ks <;> rfl
    have q : Q ((pairsOf ks ([] : List V)).map fun kv => (kV kv.1, kv.2)) H := w [] W H m o (Go.refl _ _) .nil
    rw [e] at q
    exact q
  | ks, e :: r, Wx, env, μ => sdP_if fun hq => sdP_cons (hq ▸ (snd e Wx env μ).1) fun μ1 => sndP ks.tail r Wx env μ1
theorem sndL : ∀ (l : List E) (Wx : WX) (env : List SV) (μ : Store), SdL K cl Wx (rdL K cl C Wx l) env μ (evL C l env μ)
  | [], Wx, env, μ => sdL_nil
  | e :: r, Wx, env, μ => sdL_if fun hq => sdL_cons (hq ▸ (snd e Wx env μ).1) fun μ1 => sndL r Wx env μ1
theorem sndB : ∀ (l : List E) (Wx : WX) (env : List SV) (μ : Store), SdB K cl Wx (rdL K cl C Wx l) env μ (evB C l env μ)
  | [], Wx, env, μ => sdB_nil
  | e :: r, Wx, env, μ => sdB_cons (snd e Wx env μ).1 fun μ1 => sndB r Wx env μ1
theorem sndJ : ∀ (l : List E) (acc : Str) (Wx : WX) (env : List SV) (μ : Store), SdJ K cl Wx (rdJ K cl C Wx l acc) env μ (evJ C l acc env μ)
  | [], acc, Wx, env, μ => fun H0 W H σ Q m o en w => w W H m o (Go.refl _ _)
  | e :: r, acc, Wx, env, μ => sdJ_cons (snd e Wx env μ).1 fun y μ1 => sndJ r (acc ++ y) Wx env μ1
theorem sndI : ∀ (e : E) (Wx : WX) (env : List SV) (μ : Store), SdI K cl Wx (rdI K cl C Wx e) env μ (evI C e env μ)
  | .rng1 a, Wx, env, μ => sdI_1 (snd a Wx env μ).1
  | .rng2 a b, Wx, env, μ => sdI_2 (snd a Wx env μ).1 fun μ1 => (snd b Wx env μ1).1
  | .seqL a, Wx, env, μ => sdI_L fun hq => hq ▸ (snd a Wx env μ).1
  | .seqT a, Wx, env, μ => sdI_T (snd a Wx env μ).1
  | .zip a b, Wx, env, μ => sdI_zip (fun hq => (Bool.or_eq_false_iff.mp hq).1 ▸ (snd a Wx env μ).1) fun hq μ1 => (Bool.or_eq_false_iff.mp hq).2 ▸ (snd b Wx env μ1).1
  | .enum a, Wx, env, μ => sdI_enum fun hq => hq ▸ (snd a Wx env μ).1
  | .enumT a, Wx, env, μ => sdI_enumT (snd a Wx env μ).1
  | .revI a, Wx, env, μ => sdI_rev fun hq => hq ▸ (snd a Wx env μ).1
  | .zip3 a b c, Wx, env, μ => sdI_zip3 (q := a.isBv || b.isBv || c.isBv) (fun hq => (Bool.or_eq_false_iff.mp (Bool.or_eq_false_iff.mp hq).1).1 ▸ (snd a Wx env μ).1) (fun hq μ1 => (Bool.or_eq_false_iff.mp (Bool.or_eq_false_iff.mp hq).1).2 ▸ (snd b Wx env μ1).1) fun hq μ1 => (Bool.or_eq_false_iff.mp hq).2 ▸ (snd c Wx env μ1).1
  | .zipM _ _, Wx, env, μ => sdI_stuck
  | .callP _ _, Wx, env, μ => sdI_stuck
  | .make _ _ _, Wx, env, μ => sdI_stuck
  | .mkF _ _ _, Wx, env, μ => sdI_stuck
  | .meth _ _ _ _, Wx, env, μ => sdI_stuck
  | .op1 _ _, Wx, env, μ => sdI_stuck
  | .op2 _ _ _, Wx, env, μ => sdI_stuck
  | .star _ _, Wx, env, μ => sdI_stuck
  | .ridx _ _, Wx, env, μ => sdI_stuck
  | .repN _ _, Wx, env, μ => sdI_stuck
  | .box _, Wx, env, μ => sdI_stuck
  | .boxD _, Wx, env, μ => sdI_stuck
  | .dispD _ _, Wx, env, μ => sdI_stuck
  | .dcomp _ _ _ _ _, Wx, env, μ => sdI_stuck
  | .var _, Wx, env, μ => sdI_stuck
  | .bv _, Wx, env, μ => sdI_stuck
  | .cst _, Wx, env, μ => sdI_stuck
  | .bin _ _ _, Wx, env, μ => sdI_stuck
  | .neg _, Wx, env, μ => sdI_stuck
  | .cmp _ _ _, Wx, env, μ => sdI_stuck
  | .isn _ _, Wx, env, μ => sdI_stuck
  | .chain _ _ _ _ _, Wx, env, μ => sdI_stuck
  | .and _ _, Wx, env, μ => sdI_stuck
  | .or _ _, Wx, env, μ => sdI_stuck
  | .not _, Wx, env, μ => sdI_stuck
  | .tru _, Wx, env, μ => sdI_stuck
  | .ite _ _ _, Wx, env, μ => sdI_stuck
  | .tup _, Wx, env, μ => sdI_stuck
  | .lst _, Wx, env, μ => sdI_stuck
  | .idx _ _, Wx, env, μ => sdI_stuck
  | .slc _ _ _, Wx, env, μ => sdI_stuck
  | .call _ _, Wx, env, μ => sdI_stuck
  | .bi _ _, Wx, env, μ => sdI_stuck
  | .isi _ _, Wx, env, μ => sdI_stuck
  | .join _ _, Wx, env, μ => sdI_stuck
  | .fmt _, Wx, env, μ => sdI_stuck
  | .fstr _, Wx, env, μ => sdI_stuck
  | .comp _ _ _ _ _, Wx, env, μ => sdI_stuck
  | .dsp _ _ _, Wx, env, μ => sdI_stuck
  | .no, Wx, env, μ => sdI_stuck
theorem sndN : ∀ (e : E) (Wx : WX) (env : List SV) (μ : Store), e.fresh = true → SdN K cl Wx (rd2 K cl C Wx e).1 env μ (ev C e env μ)
  | .lst l, Wx, env, μ, _ => sdN_lst (sndL l Wx env μ)
  | .comp it tg c e vs, Wx, env, μ, _ => sdN_comp2 (tg := tg) (vs := vs) (q := e.isBv) (sndI it Wx env μ) (fun env μ => sdC_of c (snd c noW env μ).2) (fun hq env μ => hq ▸ (snd e noW env μ).1)
  | .bi .list l, Wx, env, μ, _ => sdN_bi (sndB l Wx env μ)
  | .bin .add a b, Wx, env, μ, _ => sdN_cat (snd a Wx env μ).1 fun μ1 => (snd b Wx env μ1).1
  | .repN a b, Wx, env, μ, _ => sdN_if (q := a.fresh) fun hq => sdN_rep (sndN a Wx env μ hq) fun μ1 => (snd b Wx env μ1).1
theorem sndD : ∀ (e : E) (Wx : WX) (env : List SV) (μ : Store), e.freshD = true → SdD K cl Wx (rd2 K cl C Wx e).1 env μ (ev C e env μ) ∧ ∀ d μ', ev C e env μ = .ok d μ' → ∃ l, d = dD l
  | .dispD ks l, Wx, env, μ, _ => disp_all C ks l Wx env μ (sndP ks l Wx env μ) (rdP_len C ks l Wx)
  | .dcomp it tg k e vs, Wx, env, μ, _ => ⟨sdD_dcomp2 (tg := tg) (vs := vs) (q1 := k.isBv) (q2 := e.isBv) (sndI it Wx env μ) (fun hq env μ => hq ▸ (snd k noW env μ).1) (fun hq env μ => hq ▸ (snd e noW env μ).1), fun d μ' h => dD_dcomp h⟩
  | .op1 .copyD a, Wx, env, μ, _ => ⟨sdD_copy (snd a Wx env μ).1, fun d μ' h => isD_copy h⟩
end
end
end PVL
end

section
set_option Elab.async false
set_option linter.all false
set_option maxRecDepth 100000
set_option maxHeartbeats 4000000
namespace PVL
open PySem PySem.Spec PyProof.Rows L2

/-! # Statements -/
/-- what is assigned to: a slot, a field of the instance in a slot, the parts of a tuple or a list -/
inductive Tx where
  | nm (i : Nat)
  | at (i f : Nat)
  | tp (l : List Tx)
  | ls (l : List Tx)
/-- a field of a cell is set -/
def attrSet (f : Nat) (o d : PyData) (μ : Store) : Option Store := match asLoc o with
  | some n => match μ[n]? with
    | some (.ins c fs) => if f ∈ fieldsOf c ∧ fs.length < 900 then some (μ.set n (.ins c (fput fs f d))) else none
    | _ => none
  | none => none
mutual
def Tx.put : Tx → PyData → List SV → Store → Option (List SV × Store)
  | .nm i, d, env, μ => some (env.set i (.pv d), μ)
  | .at i f, d, env, μ => match env[i]? with
    | some (.pv o) => (attrSet f o d μ).map fun μ' => (env, μ')
    | _ => none
  | .tp l, .tuple ds, env, μ => putX l ds env μ
  | .ls l, .list ds, env, μ => putX l ds env μ
  | _, _, _, _ => none
def putX : List Tx → List PyData → List SV → Store → Option (List SV × Store)
  | [], [], env, μ => some (env, μ)
  | t :: ts, d :: ds, env, μ => match t.put d env μ with
    | some (env', μ') => putX ts ds env' μ'
    | none => none
  | _, _, _, _ => none
end
inductive S where
  | asgX (t : Tx) (e : E)
  | asgD (i : Nat) (e : E)
  | dset (i : Nat) (k e : E)
  | capp (a e : E)
  | csetL (a k e : E)
  | csetD (a k e : E)
  | cdel (a lo : E)
  | sattr (a : E) (f : Nat) (e : E)
  | saug (a : E) (f : Nat) (e : E)
  | frzC (i : Nat) (s : S)
  | augN (i : Nat) (e : E)
  | asg (i : Nat) (e : E)
  | asgN (i : Nat) (e : E)
  | asgT (l : List Nat) (e : E)
  | par (i j : Nat) (a b : E)
  | app (i : Nat) (e : E)
  | setI (i : Nat) (k e : E)
  | iff (c : E) (a b : List S)
  | for_ (it : E) (tg : Tg) (b : List S)
  | whil (c : E) (b : List S)
  | ret (e : E)
  | retN
  | exp (e : E)
  | raise (c : Nat) (e : E)
  | try_ (b : List S) (hs : List (Nat × List S))
  | brk
  | cnt
  | pass
  | frz (i : Nat) (s : S)
  | tryIs (b : List S) (c i : Nat)
inductive Out where
  | nx (env : List SV) (μ : Store)
  | bk (env : List SV) (μ : Store)
  | ct (env : List SV) (μ : Store)
  | rt (d : PyData) (μ : Store)
  | ex (c : Nat) (env : List SV) (μ : Store)
  | stuck
/-- an expression's outcome within a statement -/
def thenO {α : Type} (r : Rs α) (env : List SV) (f : α → Store → Out) : Out := match r with
  | .ok a μ => f a μ
  | .ex c μ => .ex c env μ
  | .stuck => .stuck
@[simp] theorem thenO_ok {α : Type} {a : α} {μ : Store} {env : List SV} {f : α → Store → Out} : thenO (.ok a μ) env f = f a μ := rfl
@[simp] theorem thenO_ex {α : Type} {c : Nat} {μ : Store} {env : List SV} {f : α → Store → Out} : thenO (.ex c μ) env f = .ex c env μ := rfl
@[simp] theorem thenO_stuck {α : Type} {env : List SV} {f : α → Store → Out} : thenO (.stuck : Rs α) env f = .stuck := rfl
def Out.then (o : Out) (f : List SV → Store → Out) : Out := match o with
  | .nx e m => f e m
  | o => o
@[simp] theorem Out.then_nx {e : List SV} {m : Store} {f : List SV → Store → Out} : (Out.nx e m).then f = f e m := rfl
@[simp] theorem Out.then_rt {d : PyData} {m : Store} {f : List SV → Store → Out} : (Out.rt d m).then f = .rt d m := rfl
@[simp] theorem Out.then_ex {c : Nat} {e : List SV} {m : Store} {f : List SV → Store → Out} : (Out.ex c e m).then f = .ex c e m := rfl
@[simp] theorem Out.then_bk {e : List SV} {m : Store} {f : List SV → Store → Out} : (Out.bk e m).then f = .bk e m := rfl
@[simp] theorem Out.then_ct {e : List SV} {m : Store} {f : List SV → Store → Out} : (Out.ct e m).then f = .ct e m := rfl
@[simp] theorem Out.then_stuck {f : List SV → Store → Out} : Out.stuck.then f = .stuck := rfl
def fLoop (tg : Tg) (f : List SV → Store → Out) : List PyData → List SV → Store → Out
  | [], env, μ => .nx env μ
  | d :: ds, env, μ => match tg.put d env with
    | none => .stuck
    | some env' => match f env' μ with
      | .nx e m => fLoop tg f ds e m
      | .ct e m => fLoop tg f ds e m
      | .bk e m => .nx e m
      | o => o
def wLoop (c : List SV → Store → Rs PyData) (f : List SV → Store → Out) : Nat → List SV → Store → Out
  | 0, _, _ => .stuck
  | n + 1, env, μ => thenO (c env μ) env fun k μ1 => match k with
    | .bool true => match f env μ1 with
      | .nx e m => wLoop c f n e m
      | .ct e m => wLoop c f n e m
      | .bk e m => .nx e m
      | o => o
    | .bool false => .nx env μ1
    | _ => .stuck
/-- which class is under which: from the text -/
abbrev Under := Nat → Nat → Option Bool
def pick (sub : Under) (c : Nat) (o : Out) : List (Nat × Out) → Out
  | [] => o
  | (c', r) :: hs => match sub c c' with
    | some true => match r with
      | .ex _ _ _ => .stuck
      | r => r
    | some false => pick sub c o hs
    | none => .stuck
def Out.caught (sub : Under) (o : Out) (g : List SV → Store → List (Nat × Out)) : Out := match o with
  | .ex c e m => pick sub c (.ex c e m) (g e m)
  | o => o
/-- try: .. except c as slot i: return isinstance(i, ValueError) -/
def Out.caughtIs (sub : Under) (c i : Nat) (o : Out) : Out := match o with
  | .ex c' e m => match sub c' c with
    | some true => if i < e.length then .rt (.bool true) m else .stuck
    | some false => .ex c' e m
    | none => .stuck
  | o => o
@[simp] def frzE (i : Nat) (env : List SV) : List SV := match env[i]? with
  | some (.ow l) => env.set i (.pv (.list l))
  | some (.od l) => env.set i (.pv (dD l))
  | _ => env
/-- a cell becomes a value -/
def frzCP (i : Nat) (env : List SV) (μ : Store) : Option (List SV × Store) := match env[i]? with
  | some (.pv o) => match asLoc o with
    | some n => match μ[n]? with
      | some (.lst l) => some (env.set i (.pv (.list l)), μ.set n .dead)
      | some (.dct l) => some (env.set i (.pv (dD l)), μ.set n .dead)
      | _ => none
    | none => none
  | _ => none
mutual
def runS (C : Calls) (sub : Under) (L : Nat) : S → List SV → Store → Out
  | .asgX t e, env, μ => if e.isBv then .stuck else thenO (ev C e env μ) env fun d μ1 => match t.put d env μ1 with
      | some (env', μ2) => .nx env' μ2
      | none => .stuck
  | .asgD i e, env, μ => if e.freshD then thenO (ev C e env μ) env fun d μ1 => match d with
      | .dict ((.none, .bool false) :: l) => .nx (env.set i (.od l)) μ1
      | _ => .stuck
    else .stuck
  | .dset i k e, env, μ => match env[i]? with
      | some (.od l) => if e.isBv then .stuck else thenO (ev C e env μ) env fun d μ1 => thenO (ev C k env μ1) env fun kk μ2 => if isKey kk ∧ l.length < lim then .nx (env.set i (.od (dput l kk d))) μ2 else .stuck
      | _ => .stuck
  | .capp a e, env, μ => thenO (ev C a env μ) env fun o μ1 => match lOf o μ1 with
      | some _ => if e.isBv then .stuck else thenO (ev C e env μ1) env fun d μ2 => match asLoc o with
        | some n => match μ2[n]? with
          | some (.lst l) => if l.length < lim then .nx env (μ2.set n (.lst (l ++ [d]))) else .stuck
          | _ => .stuck
        | none => .stuck
      | none => .stuck
  | .csetL a k e, env, μ => if e.isBv then .stuck else thenO (ev C e env μ) env fun d μ1 => thenO (ev C a env μ1) env fun o μ2 => thenO (ev C k env μ2) env fun kk μ3 => match asLoc o, kk with
      | some n, .int i => match μ3[n]? with
        | some (.lst l) => match ixN l.length i with
          | some j => .nx env (μ3.set n (.lst (l.set j d)))
          | none => .stuck
        | _ => .stuck
      | _, _ => .stuck
  | .csetD a k e, env, μ => if e.isBv then .stuck else thenO (ev C e env μ) env fun d μ1 => thenO (ev C a env μ1) env fun o μ2 => thenO (ev C k env μ2) env fun kk μ3 => match asLoc o with
      | some n => match μ3[n]? with
        | some (.dct l) => if isKey kk ∧ l.length < lim then .nx env (μ3.set n (.dct (dput l kk d))) else .stuck
        | _ => .stuck
      | _ => .stuck
  | .cdel a lo, env, μ => thenO (ev C a env μ) env fun o μ1 => thenO (ev C lo env μ1) env fun kk μ2 => match asLoc o, kk with
      | some n, .int i => match μ2[n]? with
        | some (.lst l) => if 0 ≤ i ∧ i ≤ l.length then .nx env (μ2.set n (.lst (l.take i.toNat))) else .stuck
        | _ => .stuck
      | _, _ => .stuck
  | .sattr a f e, env, μ => if e.isBv then .stuck else thenO (ev C e env μ) env fun d μ1 => thenO (ev C a env μ1) env fun o μ2 => match attrSet f o d μ2 with
      | some μ3 => .nx env μ3
      | none => .stuck
  | .saug a f e, env, μ => thenO (ev C a env μ) env fun o μ1 => match insC o μ1 with
      | some (c, fs) => match flook fs f with
        | some (.int i) => if f ∈ fieldsOf c then thenO (ev C e env μ1) env fun d μ2 => match d with
          | .int j => match insC o μ2 with
            | some (c', _) => if c = c' then (match attrSet f o (.int (i + j)) μ2 with
              | some μ3 => .nx env μ3
              | none => .stuck) else .stuck
            | none => .stuck
          | _ => .stuck else .stuck
        | _ => .stuck
      | none => .stuck
  | .frzC i s, env, μ => match frzCP i env μ with
      | some (env', μ') => runS C sub L s env' μ'
      | none => .stuck
  | .augN i e, env, μ => match env[i]? with
      | some (.pv (.int x)) => thenO (ev C e env μ) env fun d μ1 => match d with
        | .int y => .nx (env.set i (.pv (.int (x + y)))) μ1
        | _ => .stuck
      | _ => .stuck
  | .asg i e, env, μ => if e.isBv then .stuck else thenO (ev C e env μ) env fun d μ1 => .nx (env.set i (.pv d)) μ1
  | .asgN i e, env, μ => if e.fresh then thenO (ev C e env μ) env fun d μ1 => match d with
      | .list l => .nx (env.set i (.ow l)) μ1
      | _ => .stuck
    else .stuck
  | .asgT l e, env, μ => if e.isBv then .stuck else thenO (ev C e env μ) env fun d μ1 => match (Tg.tp l).put d env with
      | some env' => .nx env' μ1
      | none => .stuck
  | .par i j a b, env, μ => thenO (evL C [a, b] env μ) env fun ds μ1 => match ds with
      | [d, e] => .nx ((env.set i (.pv d)).set j (.pv e)) μ1
      | _ => .stuck
  | .app i e, env, μ => match env[i]? with
      | some (.ow l) => if e.isBv then .stuck else thenO (ev C e env μ) env fun d μ1 => if l.length < lim then .nx (env.set i (.ow (l ++ [d]))) μ1 else .stuck
      | _ => .stuck
  | .setI i k e, env, μ => match env[i]? with
      | some (.ow l) => if e.isBv then .stuck else thenO (ev C e env μ) env fun d μ1 => thenO (ev C k env μ1) env fun kk μ2 => match kk with
        | .int n => match ixN l.length n with
          | some j => .nx (env.set i (.ow (l.set j d))) μ2
          | none => .stuck
        | _ => .stuck
      | _ => .stuck
  | .iff c a b, env, μ => thenO (ev C c env μ) env fun k μ1 => ifB k (runB C sub L a env μ1) (runB C sub L b env μ1) .stuck
  | .for_ it tg b, env, μ => thenO (evI C it env μ) env fun ds μ1 => fLoop tg (fun e m => runB C sub L b e m) ds env μ1
  | .whil c b, env, μ => wLoop (fun e m => ev C c e m) (fun e m => runB C sub L b e m) L env μ
  | .ret e, env, μ => if e.isBv then .stuck else thenO (ev C e env μ) env fun d μ1 => .rt d μ1
  | .retN, _, μ => .rt .none μ
  | .exp e, env, μ => thenO (ev C e env μ) env fun _ μ1 => .nx env μ1
  | .raise c e, env, μ => thenO (ev C e env μ) env fun _ μ1 => .ex c env μ1
  | .try_ b hs, env, μ => (runB C sub L b env μ).caught sub fun e m => runH C sub L hs e m
  | .brk, env, μ => .bk env μ
  | .cnt, env, μ => .ct env μ
  | .pass, env, μ => .nx env μ
  | .frz i s, env, μ => runS C sub L s (frzE i env) μ
  | .tryIs b c i, env, μ => (runB C sub L b env μ).caughtIs sub c i
def runB (C : Calls) (sub : Under) (L : Nat) : List S → List SV → Store → Out
  | [], env, μ => .nx env μ
  | s :: r, env, μ => (runS C sub L s env μ).then fun e m => runB C sub L r e m
def runH (C : Calls) (sub : Under) (L : Nat) : List (Nat × List S) → List SV → Store → List (Nat × Out)
  | [], _, _ => []
  | (c, b) :: r, env, μ => (c, runB C sub L b env μ) :: runH C sub L r env μ
end

/-- a class whose instances are ValueErrors -/
def IsVal (K : PySem.W.Frag) (D : Addr) : Prop := ExcC K D ∧ PySem.W.kitOne K (.ref D) (.type "ValueError") = some true
def tIsV (K : PySem.W.Frag) (i : Nat) (a : Addr) (cls : Value) (d : Option Addr) : TS := fun E σ H => ∃ D, cls = .ref D ∧ d = none ∧ IsVal K D ∧ σ[i]? = some (some (.ref a)) ∧ E.rt (.bl true) H
theorem pss_isv {X : Cx} {a : Addr} {oe : Obj} {cls : Value} {d : Option Addr} {pn : List (Addr × Obj)} {i : Nat} {st : Stmt}
    (h : ∀ D, cls = .ref D → d = none → IsVal X.K D → PS (X.suite a ((a, oe) :: pn)) st (tRet (tCB (rIsE X.K D a) (tCons (tVar i) (tCons (tC (.ty "ValueError")) tNil))))) :
    PSs (X.suite a ((a, oe) :: pn)) [st] (tIsV X.K i a cls d) := by
  refine pss_one ⟨fun pins s σ H E I w => ?_⟩
  obtain ⟨D, e1, e2, hv, hs, q⟩ := w
  refine (h D e1 e2 hv).run pins s σ H E I ?_
  exact ⟨_, hs, _, _, true, rfl, fun u hu => hu, hv.2, q⟩
def gAt (K : PySem.W.Frag) (i f : Nat) : TG := fun v σ H Q => tVar i σ H fun x H1 => ∃ a C dx fs, x = .ref a ∧ H1 a = some (.ins C dx fs) ∧ Cls K C ∧ NoAttr K C (fnm f) ∧ fs.length < 1000 ∧ Q σ (upd H1 a (.ins C dx (putF (fnm f) v fs)))
mutual
def Tx.rd (K : PySem.W.Frag) : Tx → TG
  | .nm i => gName i
  | .at i f => gAt K i f
  | .tp l => gTup K l.length (rdX K l)
  | .ls l => gLst K l.length (rdX K l)
def rdX (K : PySem.W.Frag) : List Tx → TGs
  | [] => gNil
  | t :: ts => gCons (t.rd K) (rdX K ts)
end
/-- del a[lo:] -/
def tDelS (ta tl : TE) : TS := fun D σ H => ta σ H fun x H1 => tPart tl σ H1 fun o H2 => ∃ (l : Addr) (xs : List V) (i : Int), x = .ref l ∧ o = some i ∧ H2 l = some (.lst xs) ∧ 0 ≤ i ∧ i ≤ xs.length ∧ D.nx σ (upd H2 l (.lst (xs.take i.toNat)))
section
def rdB' (t u : TS) : List S → TS
  | [] => t
  | _ :: _ => tSeq t u
variable (K : PySem.W.Frag) (cl : Nat → Addr) (C : Calls)
mutual
def rdS : WX → S → TS
  | Wx, .asgX t e => tAsg (rd2 K cl C Wx e).1 (t.rd K)
  | Wx, .asgD i e => tAsg (rd2 K cl C Wx e).1 (gName i)
  | Wx, .dset i k e => sDPut (tVar i) (rd2 K cl C Wx k).1 (rd2 K cl C Wx e).1
  | Wx, .capp a e => tDrop (tBM K "list" rAppend (rd2 K cl C Wx a).1 (tCons (rd2 K cl C Wx e).1 tNil))
  | Wx, .csetL a k e => tAsg (rd2 K cl C Wx e).1 (gSub (rd2 K cl C Wx a).1 (rd2 K cl C Wx k).1 rSetL)
  | Wx, .csetD a k e => sDPut (rd2 K cl C Wx a).1 (rd2 K cl C Wx k).1 (rd2 K cl C Wx e).1
  | Wx, .cdel a lo => tDelS (rd2 K cl C Wx a).1 (rd2 K cl C Wx lo).1
  | Wx, .sattr a f e => sFld K (rd2 K cl C Wx a).1 (rd2 K cl C Wx e).1 (fnm f)
  | Wx, .saug a f e => sFldAug K (rd2 K cl C Wx a).1 (rd2 K cl C Wx e).1 rAdd (fnm f)
  | Wx, .frzC _ s => rdS Wx s
  | Wx, .augN i e => tAug i (rd2 K cl C Wx e).1 (ipI fun i j => i + j)
  | Wx, .asg i e => tAsg (rd2 K cl C Wx e).1 (gName i)
  | Wx, .asgN i e => tAsg (rd2 K cl C Wx e).1 (gName i)
  | Wx, .asgT l e => tAsg (rd2 K cl C Wx e).1 ((Tg.tp l).rd K)
  | Wx, .par i j a b => tPar i j (rdL K cl C Wx [a, b])
  | Wx, .app i e => tDrop (tBM K "list" rAppend (tVar i) (tCons (rd2 K cl C Wx e).1 tNil))
  | Wx, .setI i k e => tAsg (rd2 K cl C Wx e).1 (gSub (tVar i) (rd2 K cl C Wx k).1 rSetL)
  | Wx, .iff c a b => tIfS (rd2 K cl C Wx c).2 (rdB Wx a) (rdB Wx b)
  | Wx, .for_ it tg b => tFor (rdI K cl C Wx it) (tg.rd K) (rdB Wx b)
  | Wx, .whil c b => tWhile (rd2 K cl C Wx c).2 (rdB Wx b)
  | Wx, .ret e => tRet (rd2 K cl C Wx e).1
  | _, .retN => tRetN
  | Wx, .exp e => tDrop (rd2 K cl C Wx e).1
  | Wx, .raise c e => fun _ σ H => (rd2 K cl C Wx e).1 σ H fun _ H1 => Wx (.ref (cl c)) none σ H1
  | Wx, .try_ b hs => fun D σ H => rdB (wMany K Wx D (rdH hs)) b D σ H
  | _, .brk => tBreak
  | _, .cnt => tCont
  | _, .pass => tNext
  | Wx, .frz _ s => rdS Wx s
  | Wx, .tryIs b c i => fun D σ H => rdB (wAs K (.ref (cl c)) i (tIsV K i) Wx D) b D σ H
def rdB : WX → List S → TS
  | _, [] => tNext
  | Wx, s :: r => rdB' (rdS Wx s) (rdB Wx r) r
def rdH : List (Nat × List S) → List (Value × (Addr → Value → Option Addr → TS))
  | [] => []
  | (c, b) :: r => (.ref (cl c), fun _ _ _ => rdB noW b) :: rdH r
end
end
end PVL
end

section
set_option Elab.async false
set_option linter.all false
set_option maxRecDepth 100000
set_option maxHeartbeats 4000000
namespace PVL
open PySem PySem.Spec PyProof.Rows L2
def WantS (K : PySem.W.Frag) (cl : Nat → Addr) (Wx : WX) (W0 : Wd) (H0 : Hp) (W : Wd) (D : Ends) : Out → Prop
  | .nx env' μ' => ∀ W' H' σ', W'.μ = μ' → WOk K cl W' H' → EnvOk K H0 W' H' env' σ' → Go W0 H0 W' H' → Sub W.F W'.F → W.ι <+: W'.ι → D.nx σ' H'
  | .bk env' μ' => ∀ W' H' σ', W'.μ = μ' → WOk K cl W' H' → EnvOk K H0 W' H' env' σ' → Go W0 H0 W' H' → Sub W.F W'.F → W.ι <+: W'.ι → D.bk σ' H'
  | .ct env' μ' => ∀ W' H' σ', W'.μ = μ' → WOk K cl W' H' → EnvOk K H0 W' H' env' σ' → Go W0 H0 W' H' → Sub W.F W'.F → W.ι <+: W'.ι → D.ct σ' H'
  | .rt d μ' => ∀ v W' H', W'.μ = μ' → WOk K cl W' H' → Go W0 H0 W' H' → Rep K W'.F W'.ι v d → D.rt v H'
  | .ex c env' μ' => ∀ W' H' σ', W'.μ = μ' → WOk K cl W' H' → EnvOk K H0 W' H' env' σ' → Go W0 H0 W' H' → Sub W.F W'.F → W.ι <+: W'.ι → Wx (.ref (cl c)) none σ' H'
  | .stuck => False
def SdS (K : PySem.W.Frag) (cl : Nat → Addr) (Wx : WX) (t : TS) (env : List SV) (μ : Store) (o : Out) : Prop :=
  ∀ W0 H0 W H σ D, W.μ = μ → WOk K cl W H → EnvOk K H0 W H env σ → Go W0 H0 W H → WantS K cl Wx W0 H0 W D o → t D σ H
section
variable {K : PySem.W.Frag} {cl : Nat → Addr} {Wx : WX} {env : List SV} {μ : Store} {H0 H H' : Hp} {W0 W W' : Wd} {σ : L2.St} {D : Ends} {o : Out}
/-- from a later start -/
theorem WantS.later {W1 : Wd} (f : Sub W.F W1.F) (i : W.ι <+: W1.ι) (w : WantS K cl Wx W0 H0 W D o) : WantS K cl Wx W0 H0 W1 D o := by
  cases o with
  | nx e m => exact fun W' H' σ' m o en g s p => w W' H' σ' m o en g (Evl.Ex.trans f s) (i.trans p)
  | bk e m => exact fun W' H' σ' m o en g s p => w W' H' σ' m o en g (Evl.Ex.trans f s) (i.trans p)
  | ct e m => exact fun W' H' σ' m o en g s p => w W' H' σ' m o en g (Evl.Ex.trans f s) (i.trans p)
  | rt d m => exact w
  | ex c e m => exact fun W' H' σ' m o en g s p => w W' H' σ' m o en g (Evl.Ex.trans f s) (i.trans p)
  | stuck => exact w
theorem sds_stuck {t : TS} : SdS K cl Wx t env μ .stuck := fun _ _ _ _ _ _ _ _ _ _ w => w.elim
theorem exS {c : Nat} {μ' : Store} (g0 : Go W0 H0 W H) (en : EnvOk K H0 W H env σ) (w : WantS K cl Wx W0 H0 W D (.ex c env μ')) :
    ∀ W' H', W'.μ = μ' → WOk K cl W' H' → Go W H W' H' → Wx (.ref (cl c)) none σ H' := fun W' H' m o g => w W' H' σ m o (en.go g) (g0.trans g) g.f g.i
/-- an expression, then what is done with its value -/
theorem sds_1 {te : TE} {k : V → L2.St → Hp → Ends → Prop} {r : Rs PyData} {bv : Bool} {f : PyData → Store → Out} (h : Sd K cl Wx te env μ bv r)
    (hk : ∀ {W1 : Wd} {H1 : Hp} {v : V} {d : PyData} {D : Ends} {W0 : Wd} {H0 : Hp} {σ : L2.St}, WOk K cl W1 H1 → EnvOk K H0 W1 H1 env σ → Go W0 H0 W1 H1 → RepB K W1 H1 v d → (bv = false → Rep K W1.F W1.ι v d) → WantS K cl Wx W0 H0 W1 D (f d W1.μ) → k v σ H1 D) :
    SdS K cl Wx (fun D σ H => te σ H fun v H1 => k v σ H1 D) env μ (thenO r env f) := fun W0 H0 W H σ D m o en g w => by
  refine h H0 W H σ _ m o en ?_
  cases r with
  | ex c μ' => exact exS g en w
  | stuck => exact w
  | ok d μ1 =>
    rw [thenO_ok] at w
    intro v W1 H1 m1 o1 g1 r1 r2
    subst m1
    exact hk o1 (en.go g1) (g.trans g1) r1 r2 (w.later g1.f g1.i)
theorem sds_if {t : TS} {q : Bool} {o : Out} (h : q = false → SdS K cl Wx t env μ o) : SdS K cl Wx t env μ (if q then .stuck else o) := by
  cases q with
  | true => exact sds_stuck
  | false => exact h rfl
theorem sds_asg {te : TE} {r : Rs PyData} {i : Nat} (h : Sd K cl Wx te env μ false r) : SdS K cl Wx (tAsg te (gName i)) env μ (thenO r env fun d μ1 => .nx (env.set i (.pv d)) μ1) :=
  sds_1 (k := fun v σ H D => D.nx (σ.set i (some v)) H) h fun {W1 H1 v d D W0 H0 σ} o en g _ r w => w W1 H1 _ rfl o (en.set (r rfl) i) g (fun _ _ h => h) (List.prefix_refl _)
theorem sds_ret {te : TE} {r : Rs PyData} (h : Sd K cl Wx te env μ false r) : SdS K cl Wx (tRet te) env μ (thenO r env fun d μ1 => .rt d μ1) :=
  sds_1 (k := fun v σ H D => D.rt v H) h fun {W1 H1 v d D W0 H0 σ} o en g _ r w => w v W1 H1 rfl o g (r rfl)
theorem sds_exp {te : TE} {r : Rs PyData} {bv : Bool} (h : Sd K cl Wx te env μ bv r) : SdS K cl Wx (tDrop te) env μ (thenO r env fun _ μ1 => .nx env μ1) :=
  sds_1 (k := fun v σ H D => D.nx σ H) h fun {W1 H1 v d D W0 H0 σ} o en g _ r w => w W1 H1 _ rfl o en g (fun _ _ h => h) (List.prefix_refl _)
theorem sds_raise {te : TE} {r : Rs PyData} {bv : Bool} {c : Nat} (h : Sd K cl Wx te env μ bv r) : SdS K cl Wx (fun _ σ H => te σ H fun _ H1 => Wx (.ref (cl c)) none σ H1) env μ (thenO r env fun _ μ1 => .ex c env μ1) :=
  sds_1 (k := fun v σ H D => Wx (.ref (cl c)) none σ H) h fun {W1 H1 v d D W0 H0 σ} o en g _ r w => w W1 H1 _ rfl o en g (fun _ _ h => h) (List.prefix_refl _)
theorem sds_asgT {te : TE} {r : Rs PyData} {l : List Nat} (h : Sd K cl Wx te env μ false r) : SdS K cl Wx (tAsg te ((Tg.tp l).rd K)) env μ (thenO r env fun d μ1 => match (Tg.tp l).put d env with
      | some env' => .nx env' μ1
      | none => .stuck) :=
  sds_1 (k := fun v σ H D => (Tg.tp l).rd K v σ H D.nx) h fun {W1 H1 v d D W0 H0 σ} o en g _ r w => by
    cases e : (Tg.tp l).put d env with
    | none => rw [e] at w; exact w.elim
    | some env' =>
      rw [e] at w
      exact tg_ok o en (r rfl) e fun σ2 en2 _ => w W1 H1 σ2 rfl o en2 g (fun _ _ h => h) (List.prefix_refl _)
theorem sds_par {ta : TA} {r : Rs (List PyData)} {i j : Nat} (h : SdL K cl Wx ta env μ r) : SdS K cl Wx (tPar i j ta) env μ (thenO r env fun ds μ1 => match ds with
      | [d, e] => .nx ((env.set i (.pv d)).set j (.pv e)) μ1
      | _ => .stuck) := fun W0 H0 W H σ D m o en g w => by
  refine h H0 W H σ _ m o en ?_
  cases r with
  | ex c μ' => exact exS g en w
  | stuck => exact w
  | ok ds μ1 =>
    rw [thenO_ok] at w
    intro vs W1 H1 m1 o1 g1 r1
    split at w
    · cases r1 with
      | cons ra r1 =>
        cases r1 with
        | cons rb r1 =>
          cases r1
          exact ⟨_, _, rfl, w W1 H1 _ m1 o1 (((en.go g1).set ra i).set rb j) (g.trans g1) g1.f g1.i⟩
    · exact w.elim
/-- an own list, an own dict is changed in place -/
theorem EnvOk.mutOwn {i : Nat} {s0 s1 : SV} {a : Addr} {o : HO} (en : EnvOk K H0 W H env σ) (e : env[i]? = some s0) (w0 : s0.own = true) (es : σ[i]? = some (some (.ref a))) (hs : SlotAt K H0 W (upd H a o) σ[i]? s1) (w1 : s1.own = true) :
    EnvOk K H0 W (upd H a o) (env.set i s1) σ := by
  have hlt : i < env.length := (List.getElem?_eq_some_iff.mp e).1
  refine ⟨by simp [en.len], fun j s ej => ?_, fun j k p q hjk e1 e2 o1 o2 => ?_⟩
  · by_cases hj : i = j
    · subst hj
      rw [List.getElem?_set_self hlt] at ej
      cases ej
      exact hs
    · rw [List.getElem?_set_ne hj] at ej
      have hs' := en.slots j s ej
      cases s with
      | un => exact trivial
      | pv d => exact hs'
      | ow m =>
        obtain ⟨b, ws, eb, b0, bF, bi, bh, br⟩ := hs'
        have ne : b ≠ a := fun z => by
          subst z
          exact en.apart i j s0 (.ow m) hj e ej w0 rfl (es.trans eb.symm)
        exact ⟨b, ws, eb, b0, bF, bi, by rw [upd_ne ne]; exact bh, br⟩
      | od m =>
        obtain ⟨b, ws, eb, b0, bF, bi, bh, br⟩ := hs'
        have ne : b ≠ a := fun z => by
          subst z
          exact en.apart i j s0 (.od m) hj e ej w0 rfl (es.trans eb.symm)
        exact ⟨b, ws, eb, b0, bF, bi, by rw [upd_ne ne]; exact bh, br⟩
  · have get : ∀ (j : Nat) (p : SV), (env.set i s1)[j]? = some p → p.own = true → ∃ p', env[j]? = some p' ∧ p'.own = true := fun j p e1 op => by
      by_cases hj : i = j
      · subst hj
        exact ⟨s0, e, w0⟩
      · rw [List.getElem?_set_ne hj] at e1
        exact ⟨p, e1, op⟩
    obtain ⟨p', e1', w1'⟩ := get j p e1 o1
    obtain ⟨q', e2', w2'⟩ := get k q e2 o2
    exact en.apart j k p' q' hjk e1' e2' w1' w2'
theorem EnvOk.setOwn {i : Nat} {s : SV} {p : Addr} (en : EnvOk K H0 W H env σ) (hs : SlotAt K H0 W H (some (some (.ref p))) s)
    (hd : ∀ (j : Nat) (s' : SV), env[j]? = some s' → s'.own = true → σ[j]? ≠ some (some (.ref p))) : EnvOk K H0 W H (env.set i s) (σ.set i (some (.ref p))) := by
  refine ⟨by simp [en.len], fun j s2 ej => ?_, fun j k q q' hjk e1 e2 o1 o2 => ?_⟩
  · by_cases hj : i = j
    · subst hj
      by_cases hl : i < env.length
      · rw [List.getElem?_set_self hl] at ej
        cases ej
        rw [List.getElem?_set_self (by rw [en.len]; exact hl)]
        exact hs
      · rw [List.getElem?_eq_none (by simp; omega)] at ej; cases ej
    · rw [List.getElem?_set_ne hj] at ej
      rw [List.getElem?_set_ne hj]
      exact en.slots j s2 ej
  · by_cases hj : i = j
    · subst hj
      have hk : i ≠ k := hjk
      rw [List.getElem?_set_ne hk] at e2 ⊢
      have hl : i < σ.length := by
        have := (List.getElem?_eq_some_iff.mp e1).1
        rw [List.length_set] at this
        rw [en.len]; exact this
      rw [List.getElem?_set_self hl]
      exact fun z => hd k q' e2 o2 z.symm
    · rw [List.getElem?_set_ne hj] at e1 ⊢
      by_cases hk : i = k
      · subst hk
        have hl : i < σ.length := by
          have := (List.getElem?_eq_some_iff.mp e2).1
          rw [List.length_set] at this
          rw [en.len]; exact this
        rw [List.getElem?_set_self hl]
        exact hd j q e1 o1
      · rw [List.getElem?_set_ne hk] at e2 ⊢
        exact en.apart j k q q' hjk e1 e2 o1 o2
/-- a new object stands in no slot -/
theorem EnvOk.newOwn {H1 : Hp} {p : Addr} (en : EnvOk K H0 W H env σ) (hp : H p = none) : ∀ (j : Nat) (s' : SV), env[j]? = some s' → s'.own = true → σ[j]? ≠ some (some (.ref p)) := fun j s' ej oj z => by
  have hs := en.slots j s' ej
  cases s' with
  | un => cases oj
  | pv d => cases oj
  | ow l =>
    obtain ⟨a, ws, ea, _, _, _, ha, _⟩ := hs
    rw [ea] at z
    cases z
    rw [hp] at ha
    cases ha
  | od l =>
    obtain ⟨a, ws, ea, _, _, _, ha, _⟩ := hs
    rw [ea] at z
    cases z
    rw [hp] at ha
    cases ha
theorem Go.none0 (g : Go W0 H0 W H) {p : Addr} (hp : H p = none) : H0 p = none := by
  cases q : H0 p with
  | none => rfl
  | some u => exact absurd hp (g.there p (by rw [q]; simp))
theorem sds_asgN {te : TE} {r : Rs PyData} {i : Nat} (h : SdN K cl Wx te env μ r) : SdS K cl Wx (tAsg te (gName i)) env μ (thenO r env fun d μ1 => match d with
      | .list l => .nx (env.set i (.ow l)) μ1
      | _ => .stuck) := fun W0 H0 W H σ D m o en g w => by
  refine h H0 W H σ _ m o en ?_
  cases r with
  | ex c μ' => exact exS g en w
  | stuck => exact w
  | ok d μ1 =>
    rw [thenO_ok] at w
    split at w
    · rename_i l
      refine ⟨l, rfl, fun p vs W1 H1 m1 o1 g1 hp hF hi hh r1 => ?_⟩
      exact w W1 H1 _ m1 o1 ((en.go g1).setOwn (s := .ow l) ⟨p, vs, rfl, g.none0 hp, hF, hi, hh, r1⟩ (en.newOwn (H1 := H1) hp)) (g.trans g1) g1.f g1.i
    · exact w.elim
theorem sds_app {te : TE} {r : Rs PyData} {i : Nat} {q : Bool} (h : q = false → Sd K cl Wx te env μ false r) : SdS K cl Wx (tDrop (tBM K "list" rAppend (tVar i) (tCons te tNil))) env μ (match env[i]? with
      | some (.ow l) => if q then .stuck else thenO r env fun d μ1 => if l.length < lim then .nx (env.set i (.ow (l ++ [d]))) μ1 else .stuck
      | _ => .stuck) := fun W0 H0 W H σ D m o en g w => by
  split at w
  · rename_i l ei
    cases q with
    | true => exact w.elim
    | false =>
      simp only [Bool.false_eq_true, if_false] at w
      obtain ⟨a, vs, es, h0, hF, hi, hh, rl⟩ := en.slots i _ ei
      refine ⟨_, es, .inl ⟨rfl, vs, SqL.of hh⟩, h rfl H0 W H σ _ m o en ?_⟩
      cases r with
      | ex c μ' => exact exS g en w
      | stuck => exact w
      | ok d μ1 =>
        rw [thenO_ok] at w
        intro v W1 H1 m1 o1 g1 _ r1
        have hh1 := g1.keep a _ hh hi
        have hF1 := g1.fn a (by rw [hh]; simp) hF hi
        have hi1 : a ∉ W1.ι := fun z => hi (g1.inew a z (by rw [hh]; simp))
        split at w
        · rename_i hl
          have hlen := rl.length
          refine ⟨a, vs, v, rfl, rfl, hh1, Nat.lt_of_lt_of_le (by rw [hlen]; exact hl) (lim_le (Nat.le_refl _)), ?_⟩
          exact w W1 _ σ m1 (o1.mut hF1 hi1) ((en.go g1).mutOwn ei rfl es (s1 := .ow (l ++ [d])) ⟨a, _, es, h0, hF1, hi1, upd_same, (g1.repL rl).append (.cons (r1 rfl) .nil)⟩ rfl) (Go.mut (g.trans g1) h0) g1.f g1.i
        · exact w.elim
  · exact w.elim
theorem sds_setI {te tk : TE} {r : Rs PyData} {fk : Store → Rs PyData} {i : Nat} {q bk : Bool} (h : q = false → Sd K cl Wx te env μ false r) (hk : ∀ μ, Sd K cl Wx tk env μ bk (fk μ)) : SdS K cl Wx (tAsg te (gSub (tVar i) tk rSetL)) env μ (match env[i]? with
      | some (.ow l) => if q then .stuck else thenO r env fun d μ1 => thenO (fk μ1) env fun kk μ2 => match kk with
        | .int n => match ixN l.length n with
          | some j => .nx (env.set i (.ow (l.set j d))) μ2
          | none => .stuck
        | _ => .stuck
      | _ => .stuck) := fun W0 H0 W H σ D m o en g w => by
  split at w
  · rename_i l ei
    cases q with
    | true => exact w.elim
    | false =>
      simp only [Bool.false_eq_true, if_false] at w
      obtain ⟨a, vs, es, h0, hF, hi, hh, rl⟩ := en.slots i _ ei
      refine h rfl H0 W H σ _ m o en ?_
      cases r with
      | ex c μ' => exact exS g en w
      | stuck => exact w
      | ok d μ1 =>
        rw [thenO_ok] at w
        intro v W1 H1 m1 o1 g1 _ r1
        refine ⟨_, es, hk μ1 H0 W1 H1 σ _ m1 o1 (en.go g1) ?_⟩
        cases ek : fk μ1 with
        | ex c μ' => rw [ek] at w; exact exS (g.trans g1) (en.go g1) (w.later g1.f g1.i)
        | stuck => rw [ek] at w; exact w
        | ok kk μ2 =>
          rw [ek, thenO_ok] at w
          intro u W2 H2 m2 o2 g2 r2 r2'
          have g12 := g1.trans g2
          have hh1 := g12.keep a _ hh hi
          have hF1 := g12.fn a (by rw [hh]; simp) hF hi
          have hi1 : a ∉ W2.ι := fun z => hi (g12.inew a z (by rw [hh]; simp))
          split at w
          · rename_i n
            clear r2'
            cases r2.int
            split at w
            · rename_i j hj
              refine ⟨a, vs, n, j, rfl, rfl, hh1, by rw [rl.length]; exact hj, ?_⟩
              exact w W2 _ σ m2 (o2.mut hF1 hi1) ((en.go g12).mutOwn ei rfl es (s1 := .ow (l.set j d)) ⟨a, _, es, h0, hF1, hi1, upd_same, (g12.repL rl).set j (g2.rep (r1 rfl))⟩ rfl) (Go.mut (g.trans g12) h0) g12.f g12.i
            · exact w.elim
          · exact w.elim
  · exact w.elim
theorem sds_iff {tc : TT} {ta tb : TS} {r : Rs PyData} {fa fb : Store → Out} (hc : SdT K cl Wx tc env μ r) (ha : ∀ μ, SdS K cl Wx ta env μ (fa μ)) (hb : ∀ μ, SdS K cl Wx tb env μ (fb μ)) : SdS K cl Wx (tIfS tc ta tb) env μ (thenO r env fun k μ1 => match k with
      | .bool true => fa μ1
      | .bool false => fb μ1
      | _ => .stuck) := fun W0 H0 W H σ D m o en g w => by
  refine hc H0 W H σ _ m o en ?_
  cases r with
  | ex c μ' => exact exS g en w
  | stuck => exact w
  | ok d μ1 =>
    rw [thenO_ok] at w
    split at w
    · refine ⟨true, rfl, fun W1 H1 m1 o1 g1 => ?_⟩
      exact ha μ1 W0 H0 W1 H1 σ D m1 o1 (en.go g1) (g.trans g1) (w.later g1.f g1.i)
    · refine ⟨false, rfl, fun W1 H1 m1 o1 g1 => ?_⟩
      exact hb μ1 W0 H0 W1 H1 σ D m1 o1 (en.go g1) (g.trans g1) (w.later g1.f g1.i)
    · exact w.elim
theorem sds_seq {t u : TS} {o : Out} {f : List SV → Store → Out} (h : SdS K cl Wx t env μ o) (hu : ∀ env μ, SdS K cl Wx u env μ (f env μ)) : SdS K cl Wx (tSeq t u) env μ (o.then f) := fun W0 H0 W H σ D m ok en g w => by
  refine h W0 H0 W H σ _ m ok en g ?_
  cases o with
  | nx e m' => exact fun W' H' σ' m1 o1 en1 g1 s1 p1 => hu e m' W0 H0 W' H' σ' D m1 o1 en1 g1 (w.later s1 p1)
  | bk e m' => exact w
  | ct e m' => exact w
  | rt d m' => exact w
  | ex c e m' => exact w
  | stuck => exact w
theorem EnvOk.fixOwn {i : Nat} {s0 : SV} {d : PyData} {a : Addr} {o : HO} (en : EnvOk K H0 W H env σ) (e : env[i]? = some s0) (w0 : s0.own = true) (es : σ[i]? = some (some (.ref a))) (hF : W.F a = none) (hr : Rep K (W.fix a o).F W.ι (.ref a) d) :
    EnvOk K H0 (W.fix a o) H (env.set i (.pv d)) σ := by
  have sb : Sub W.F (W.fix a o).F := sub_fix hF
  have hlt : i < env.length := (List.getElem?_eq_some_iff.mp e).1
  refine ⟨by simp [en.len], fun j s ej => ?_, fun j k q q' hjk e1 e2 o1 o2 => ?_⟩
  · by_cases hj : i = j
    · subst hj
      rw [List.getElem?_set_self hlt] at ej
      cases ej
      exact ⟨.ref a, es, hr⟩
    · rw [List.getElem?_set_ne hj] at ej
      have hs := en.slots j s ej
      cases s with
      | un => exact trivial
      | pv d =>
        obtain ⟨v, e1, r1⟩ := hs
        exact ⟨v, e1, Rep.mono sb (List.prefix_refl _) _ _ r1⟩
      | ow m =>
        obtain ⟨b, ws, eb, b0, bF, bi, bh, br⟩ := hs
        have ne : b ≠ a := fun z => by
          subst z
          exact en.apart i j s0 (.ow m) hj e ej w0 rfl (es.trans eb.symm)
        exact ⟨b, ws, eb, b0, by show upd W.F a o b = none; rw [upd_ne ne]; exact bF, bi, bh, RepL.mono sb (List.prefix_refl _) _ _ br⟩
      | od m =>
        obtain ⟨b, ws, eb, b0, bF, bi, bh, br⟩ := hs
        have ne : b ≠ a := fun z => by
          subst z
          exact en.apart i j s0 (.od m) hj e ej w0 rfl (es.trans eb.symm)
        exact ⟨b, ws, eb, b0, by show upd W.F a o b = none; rw [upd_ne ne]; exact bF, bi, bh, br.mono sb (List.prefix_refl _)⟩
  · have nj : i ≠ j := fun z => by
      subst z
      rw [List.getElem?_set_self hlt] at e1
      cases e1
      cases o1
    have nk : i ≠ k := fun z => by
      subst z
      rw [List.getElem?_set_self hlt] at e2
      cases e2
      cases o2
    rw [List.getElem?_set_ne nj] at e1
    rw [List.getElem?_set_ne nk] at e2
    exact en.apart j k q q' hjk e1 e2 o1 o2
/-- the frame's own list or dict becomes a value -/
theorem EnvOk.frz (ok : WOk K cl W H) (en : EnvOk K H0 W H env σ) (g : Go W0 H0 W H) (i : Nat) : ∃ W', W'.μ = W.μ ∧ WOk K cl W' H ∧ EnvOk K H0 W' H (frzE i env) σ ∧ Go W0 H0 W' H ∧ Sub W.F W'.F ∧ W.ι <+: W'.ι := by
  unfold frzE
  split
  · rename_i l ei
    obtain ⟨a, vs, es, h0, hF, hi, hh, rl⟩ := en.slots i _ ei
    have sb : Sub W.F (W.fix a (.lst vs)).F := sub_fix hF
    exact ⟨W.fix a (.lst vs), rfl, ok.fix hF hi hh, en.fixOwn ei rfl es hF (.lst (SqL.of (show upd W.F a (.lst vs) a = _ from upd_same)) (RepL.mono sb (List.prefix_refl _) _ _ rl)), g.fix hF h0, sb, List.prefix_refl _⟩
  · rename_i l ei
    obtain ⟨a, kvs, es, h0, hF, hi, hh, rl⟩ := en.slots i _ ei
    have sb : Sub W.F (W.fix a (.dK kvs)).F := sub_fix hF
    have dl := rl.mono sb (List.prefix_refl _)
    exact ⟨W.fix a (.dK kvs), rfl, ok.fix hF hi hh, en.fixOwn ei rfl es hF (.dct (show upd W.F a (.dK kvs) a = _ from upd_same) dl.1 dl.2), g.fix hF h0, sb, List.prefix_refl _⟩
  · exact ⟨W, rfl, ok, en, g, fun _ _ h => h, List.prefix_refl _⟩
theorem sds_frz {t : TS} {i : Nat} {o : Out} (h : SdS K cl Wx t (frzE i env) μ o) : SdS K cl Wx t env μ o := fun W0 H0 W H σ D m ok en g w => by
  obtain ⟨W', m', ok', en', g', s', p'⟩ := en.frz ok g i
  exact h W0 H0 W' H σ D (m'.trans m) ok' en' g' (w.later s' p')
/-! ## cells that change -/
/-- a cell's content is changed: the world goes on -/
theorem cellUp {n : Nat} {a : Addr} {o : HO} {c0 c : Cell} (ok : WOk K cl W H) (en : EnvOk K H0 W H env σ) (g : Go W0 H0 W H) (hm : W.μ[n]? = some c0) (h0 : c0 ≠ .dead) (hn : W.ι[n]? = some a) (hc : CellAt K W.F W.ι (upd H a o) a c) :
    WOk K cl (W.put n c) (upd H a o) ∧ EnvOk K H0 (W.put n c) (upd H a o) env σ ∧ Go W0 H0 (W.put n c) (upd H a o) := by
  have g1 : Go W H (W.put n c) (upd H a o) := (Go.refl W H).put hn
  exact ⟨ok.put hm h0 hn hc, en.go g1, g.trans g1⟩
theorem map_fput {f : Nat} {d : PyData} (hf : f < 18) : ∀ {fl : List (Str × V)} {fs : List (Nat × PyData)} {v : V} {F : Hp} {ι : List Addr}, (∀ p ∈ fs, p.1 < 18) → fl.map (·.1) = fs.map (fun p => fnm p.1) → RepL K F ι (fl.map (·.2)) (fs.map (·.2)) → Rep K F ι v d →
    (putF (fnm f) v fl).map (·.1) = (fput fs f d).map (fun p => fnm p.1) ∧ RepL K F ι ((putF (fnm f) v fl).map (·.2)) ((fput fs f d).map (·.2))
  | [], [], v, F, ι, _, _, _, rd => ⟨rfl, .cons rd .nil⟩
  | (n, u) :: fl, (i, e) :: fs, v, F, ι, hi, h1, r, rd => by
    simp only [List.map_cons, List.cons.injEq] at h1
    cases r with
    | cons ra rb =>
      have hn := h1.1
      subst hn
      by_cases hif : i = f
      · subst hif
        have e1 : putF (fnm i) v ((fnm i, u) :: fl) = (fnm i, v) :: fl := by unfold putF; rw [if_pos rfl]
        have e2 : fput ((i, e) :: fs) i d = (i, d) :: fs := by unfold fput; rw [if_pos rfl]
        rw [e1, e2]
        exact ⟨by simp [h1.2], .cons rd rb⟩
      · have nq : ¬ fnm i = fnm f := fun z => hif (fnm_inj (hi _ List.mem_cons_self) hf z)
        have e1 : putF (fnm f) v ((fnm i, u) :: fl) = (fnm i, u) :: putF (fnm f) v fl := by
          show (if fnm i = fnm f then _ else _) = _
          rw [if_neg nq]
        have e2 : fput ((i, e) :: fs) f d = (i, e) :: fput fs f d := by
          show (if i = f then _ else _) = _
          rw [if_neg hif]
        have ih := map_fput hf (fun j hj => hi j (List.mem_cons_of_mem _ hj)) h1.2 rb rd
        rw [e1, e2]
        exact ⟨by simp only [List.map_cons, ih.1], .cons ra ih.2⟩
  | [], _ :: _, _, _, _, _, h1, _, _ => by simp at h1
  | _ :: _, [], _, _, _, _, h1, _, _ => by simp at h1
theorem mem_fput {f : Nat} {d : PyData} : ∀ {fs : List (Nat × PyData)} {p : Nat × PyData}, p ∈ fput fs f d → p.1 = f ∨ ∃ q ∈ fs, q.1 = p.1
  | [], p, h => by
    have h' : p ∈ [(f, d)] := h
    simp at h'
    exact .inl (by rw [h'])
  | (i, e) :: fs, p, h => by
    have h' : p ∈ (if i = f then (i, d) :: fs else (i, e) :: fput fs f d) := h
    split at h'
    · rcases List.mem_cons.mp h' with z | z
      · exact .inl (by rw [z]; assumption)
      · exact .inr ⟨p, List.mem_cons_of_mem _ z, rfl⟩
    · rcases List.mem_cons.mp h' with z | z
      · exact .inr ⟨(i, e), List.mem_cons_self, by rw [z]⟩
      · rcases mem_fput z with y | ⟨q, hq, y⟩
        · exact .inl y
        · exact .inr ⟨q, List.mem_cons_of_mem _ hq, y⟩
/-- a field is set -/
theorem attrSet_ok {f : Nat} {o d : PyData} {x v : V} {μ' : Store} (ok : WOk K cl W H) (hz : attrSet f o d W.μ = some μ') (rx : RepB K W H x o) (rv : Rep K W.F W.ι v d) :
    ∃ n a c fs dx fl, x = .ref a ∧ H a = some (.ins (clK K c) dx fl) ∧ Cls K (clK K c) ∧ NoAttr K (clK K c) (fnm f) ∧ fl.length < 1000 ∧ W.μ[n]? = some (.ins c fs) ∧ W.ι[n]? = some a ∧ μ' = W.μ.set n (.ins c (fput fs f d)) ∧
      CellAt K W.F W.ι (upd H a (.ins (clK K c) dx (putF (fnm f) v fl))) a (.ins c (fput fs f d)) := by
  unfold attrSet at hz
  split at hz
  · rename_i n hn
    have hd := asLoc_of hn
    subst hd
    obtain ⟨a, rfl, hi⟩ := rx.loc
    split at hz
    · rename_i c fs hc
      split at hz
      · rename_i hf
        cases hz
        obtain ⟨io, hff, dx, fl, hh, h1, h2⟩ := ok.cells n _ a hc hi
        have hl : fl.length < 1000 := by
          have := congrArg List.length h1
          simp at this
          omega
        have hp := map_fput (fields_lt c f hf.1) (fun p hp => fields_lt c _ (hff p hp)) h1 h2 rv
        exact ⟨n, a, c, fs, dx, fl, rfl, hh, io.cls, io.no f hf.1, hl, hc, hi, rfl, io, fun p hp => by
          rcases mem_fput hp with z | ⟨q, hq, z⟩
          · rw [z]; exact hf.1
          · rw [← z]; exact hff q hq, dx, _, upd_same, hp.1, hp.2⟩
      · cases hz
    · cases hz
  · cases hz
mutual
theorem tx_ok : ∀ {t : Tx} {d : PyData} {v : V} {W : Wd} {H : Hp} {env env' : List SV} {σ : L2.St} {μ' : Store} {Q : L2.St → Hp → Prop}, WOk K cl W H → EnvOk K H0 W H env σ → Rep K W.F W.ι v d → t.put d env W.μ = some (env', μ') →
    (∀ σ2 W2 H2, W2.μ = μ' → WOk K cl W2 H2 → EnvOk K H0 W2 H2 env' σ2 → Go W H W2 H2 → Q σ2 H2) → t.rd K v σ H Q
  | .nm i, d, v, W, H, env, env', σ, μ', Q, ok, en, r, e, k => by
    have e' : some (env.set i (.pv d), W.μ) = some (env', μ') := e
    cases e'
    exact k _ W H rfl ok (en.set r i) (Go.refl _ _)
  | .at i f, d, v, W, H, env, env', σ, μ', Q, ok, en, r, e, k => by
    have e' : (match env[i]? with
      | some (.pv o) => (attrSet f o d W.μ).map fun μ' => (env, μ')
      | _ => none) = some (env', μ') := e
    split at e'
    · rename_i o ei
      obtain ⟨μ2, h1, h2⟩ := map_of e'
      cases h2
      obtain ⟨u, eu, ru⟩ := en.slots i _ ei
      obtain ⟨n, a, c, fs, dx, fl, rfl, hh, h3, h4, hl, hm, hi, hμ, hc⟩ := attrSet_ok ok h1 (.inl ru) r
      refine ⟨_, eu, a, _, dx, fl, rfl, hh, h3, h4, hl, ?_⟩
      have g1 : Go W H (W.put n (.ins c (fput fs f d))) (upd H a (.ins (clK K c) dx (putF (fnm f) v fl))) := (Go.refl W H).put hi
      exact k σ (W.put n (.ins c (fput fs f d))) _ hμ.symm (ok.put hm (by intro z; cases z) hi hc) (en.go g1) g1
    · cases e'
  | .tp l, d, v, W, H, env, env', σ, μ', Q, ok, en, r, e, k => by
    cases d with
    | tuple ds =>
      cases r with
      | tup hs hl =>
        have e' : putX l ds env W.μ = some (env', μ') := e
        exact ⟨_, _, rfl, Evl.ex_t ok.fh hs, by rw [hl.length, putX_len e'], txs_ok ok en hl e' k⟩
    | _ => cases e
  | .ls l, d, v, W, H, env, env', σ, μ', Q, ok, en, r, e, k => by
    cases d with
    | list ds =>
      cases r with
      | lst hs hl =>
        have e' : putX l ds env W.μ = some (env', μ') := e
        exact ⟨_, _, rfl, Evl.ex_l ok.fh hs, by rw [hl.length, putX_len e'], txs_ok ok en hl e' k⟩
    | _ => cases e
theorem txs_ok : ∀ {ts : List Tx} {ds : List PyData} {vs : List V} {W : Wd} {H : Hp} {env env' : List SV} {σ : L2.St} {μ' : Store} {Q : L2.St → Hp → Prop}, WOk K cl W H → EnvOk K H0 W H env σ → RepL K W.F W.ι vs ds → putX ts ds env W.μ = some (env', μ') →
    (∀ σ2 W2 H2, W2.μ = μ' → WOk K cl W2 H2 → EnvOk K H0 W2 H2 env' σ2 → Go W H W2 H2 → Q σ2 H2) → rdX K ts vs σ H Q
  | [], [], vs, W, H, env, env', σ, μ', Q, ok, en, r, e, k => by
    cases r
    cases e
    exact ⟨rfl, k σ W H rfl ok en (Go.refl _ _)⟩
  | t :: ts, d :: ds, vs, W, H, env, env', σ, μ', Q, ok, en, r, e, k => by
    cases r with
    | cons ra rb =>
      have e' : (match t.put d env W.μ with
        | some (env', μ') => putX ts ds env' μ'
        | none => none) = some (env', μ') := e
      split at e'
      · rename_i env1 μ1 he
        refine ⟨_, _, rfl, tx_ok ok en ra he fun σ2 W2 H2 m2 o2 en2 g2 => ?_⟩
        refine txs_ok o2 en2 (g2.repL rb) (by rw [m2]; exact e') fun σ3 W3 H3 m3 o3 en3 g3 => k σ3 W3 H3 m3 o3 en3 (g2.trans g3)
      · cases e'
  | [], _ :: _, _, _, _, _, _, _, _, _, _, _, _, e, _ => by cases e
  | _ :: _, [], _, _, _, _, _, _, _, _, _, _, _, e, _ => by cases e
theorem putX_len : ∀ {ts : List Tx} {ds : List PyData} {env env' : List SV} {μ μ' : Store}, putX ts ds env μ = some (env', μ') → ts.length = ds.length
  | [], [], _, _, _, _, _ => rfl
  | t :: ts, d :: ds, env, env', μ, μ', e => by
    have e' : (match t.put d env μ with
      | some (env', μ') => putX ts ds env' μ'
      | none => none) = some (env', μ') := e
    split at e'
    · simp [putX_len e']
    · cases e'
  | [], _ :: _, _, _, _, _, e => by cases e
  | _ :: _, [], _, _, _, _, e => by cases e
end
theorem sds_asgX {te : TE} {r : Rs PyData} {t : Tx} (h : Sd K cl Wx te env μ false r) : SdS K cl Wx (tAsg te (t.rd K)) env μ (thenO r env fun d μ1 => match t.put d env μ1 with
      | some (env', μ2) => .nx env' μ2
      | none => .stuck) :=
  sds_1 (k := fun v σ H D => t.rd K v σ H D.nx) h fun {W1 H1 v d D W0 H0 σ} o en g _ r w => by
    cases e : t.put d env W1.μ with
    | none => rw [e] at w; exact w.elim
    | some p =>
      obtain ⟨env', μ2⟩ := p
      rw [e] at w
      exact tx_ok o en (r rfl) e fun σ2 W2 H2 m2 o2 en2 g2 => w W2 H2 σ2 m2 o2 en2 (g.trans g2) g2.f g2.i
theorem sds_asgD {te : TE} {r : Rs PyData} {i : Nat} (h : SdD K cl Wx te env μ r) : SdS K cl Wx (tAsg te (gName i)) env μ (thenO r env fun d μ1 => match d with
      | .dict ((.none, .bool false) :: l) => .nx (env.set i (.od l)) μ1
      | _ => .stuck) := fun W0 H0 W H σ D m o en g w => by
  refine h H0 W H σ _ m o en ?_
  cases r with
  | ex c μ' => exact exS g en w
  | stuck => exact w
  | ok d μ1 =>
    rw [thenO_ok] at w
    split at w
    · rename_i l
      refine ⟨l, rfl, fun p vs W1 H1 m1 o1 g1 hp hF hi hh r1 => ?_⟩
      exact w W1 H1 _ m1 o1 ((en.go g1).setOwn (s := .od l) ⟨p, vs, rfl, g.none0 hp, hF, hi, hh, r1⟩ (en.newOwn (H1 := H1) hp)) (g.trans g1) g1.f g1.i
    · exact w.elim
theorem sds_dset {te tk : TE} {r : Rs PyData} {fk : Store → Rs PyData} {i : Nat} {q bk : Bool} (h : q = false → Sd K cl Wx te env μ false r) (hk : ∀ μ, Sd K cl Wx tk env μ bk (fk μ)) : SdS K cl Wx (sDPut (tVar i) tk te) env μ (match env[i]? with
      | some (.od l) => if q then .stuck else thenO r env fun d μ1 => thenO (fk μ1) env fun kk μ2 => if isKey kk ∧ l.length < lim then .nx (env.set i (.od (dput l kk d))) μ2 else .stuck
      | _ => .stuck) := fun W0 H0 W H σ D m o en g w => by
  split at w
  · rename_i l ei
    cases q with
    | true => exact w.elim
    | false =>
      simp only [Bool.false_eq_true, if_false] at w
      obtain ⟨a, kvs, es, h0, hF, hi, hh, rl⟩ := en.slots i _ ei
      refine h rfl H0 W H σ _ m o en ?_
      cases r with
      | ex c μ' => exact exS g en w
      | stuck => exact w
      | ok d μ1 =>
        rw [thenO_ok] at w
        intro v W1 H1 m1 o1 g1 _ r1
        refine ⟨_, es, hk μ1 H0 W1 H1 σ _ m1 o1 (en.go g1) ?_⟩
        cases ek : fk μ1 with
        | ex c μ' => rw [ek] at w; exact exS (g.trans g1) (en.go g1) (w.later g1.f g1.i)
        | stuck => rw [ek] at w; exact w
        | ok kk μ2 =>
          rw [ek, thenO_ok] at w
          intro u W2 H2 m2 o2 g2 r2 _
          have g12 := g1.trans g2
          have hh1 := g12.keep a _ hh hi
          have hF1 := g12.fn a (by rw [hh]; simp) hF hi
          have hi1 : a ∉ W2.ι := fun z => hi (g12.inew a z (by rw [hh]; simp))
          split at w
          · rename_i hc
            obtain ⟨wk, rfl⟩ := isKey_of hc.1
            have hu := r2.key
            subst hu
            refine ⟨a, _, rfl, DPut.k hh1 (Nat.lt_of_lt_of_le (by rw [rl.length]; exact hc.2) (lim_le (Nat.le_refl _))), ?_⟩
            have dl : DL K W2.F W2.ι kvs l := rl.go g12
            exact w W2 _ σ m2 (o2.mut hF1 hi1) ((en.go g12).mutOwn ei rfl es (s1 := .od (dput l (keyD wk) d)) ⟨a, _, es, h0, hF1, hi1, upd_same, dl.put (g2.rep (r1 rfl))⟩ rfl) (Go.mut (g.trans g12) h0) g12.f g12.i
          · exact w.elim
  · exact w.elim
theorem sds_capp {ta te : TE} {r : Rs PyData} {fe : Store → Rs PyData} {ba q : Bool} (h : Sd K cl Wx ta env μ ba r) (he : q = false → ∀ μ, Sd K cl Wx te env μ false (fe μ)) : SdS K cl Wx (tDrop (tBM K "list" rAppend ta (tCons te tNil))) env μ (thenO r env fun o μ1 => match lOf o μ1 with
      | some _ => if q then .stuck else thenO (fe μ1) env fun d μ2 => match asLoc o with
        | some n => match μ2[n]? with
          | some (.lst l) => if l.length < lim then .nx env (μ2.set n (.lst (l ++ [d]))) else .stuck
          | _ => .stuck
        | none => .stuck
      | none => .stuck) := fun W0 H0 W H σ D m ok en g w => by
  refine h H0 W H σ _ m ok en ?_
  cases r with
  | ex c μ' => exact exS g en w
  | stuck => exact w
  | ok o μ1 =>
    rw [thenO_ok] at w
    intro v W1 H1 m1 o1 g1 r1 _
    split at w
    · rename_i l0 hl
      rw [← m1] at hl
      obtain ⟨n, a, vs, hn, hm, hi, rfl, hh, rl⟩ := lOf_rep o1 hl r1
      cases q with
      | true => exact w.elim
      | false =>
        simp only [Bool.false_eq_true, if_false] at w
        refine ⟨.inl ⟨rfl, vs, SqL.of hh⟩, he rfl μ1 H0 W1 H1 σ _ m1 o1 (en.go g1) ?_⟩
        cases ee : fe μ1 with
        | ex c μ' => rw [ee] at w; exact exS (g.trans g1) (en.go g1) (w.later g1.f g1.i)
        | stuck => rw [ee] at w; exact w
        | ok d μ2 =>
          rw [ee, thenO_ok] at w
          intro u W2 H2 m2 o2 g2 _ r2
          rw [hn] at w
          simp only at w
          split at w
          · rename_i l hc
            rw [← m2] at hc
            have hi2 := pre_get g2.i hi
            obtain ⟨ws, hh2, rl2⟩ := o2.cells n _ a hc hi2
            split at w
            · rename_i hlt
              refine ⟨a, ws, u, rfl, rfl, hh2, Nat.lt_of_lt_of_le (by rw [rl2.length]; exact hlt) (lim_le (Nat.le_refl _)), ?_⟩
              have up := cellUp o2 ((en.go g1).go g2) ((g.trans g1).trans g2) hc (by intro z; cases z) hi2 (c := .lst (l ++ [d])) (o := .lst (ws ++ [u])) ⟨_, upd_same, rl2.append (.cons (r2 rfl) .nil)⟩
              exact w (W2.put n (.lst (l ++ [d]))) _ σ (by show W2.μ.set n _ = _; rw [m2]) up.1 up.2.1 up.2.2 (Evl.Ex.trans g1.f g2.f) (g1.i.trans g2.i)
            · exact w.elim
          · exact w.elim
    · exact w.elim
theorem sds_csetL {ta tk te : TE} {r : Rs PyData} {fa fk : Store → Rs PyData} {q ba bk : Bool} (he : q = false → Sd K cl Wx te env μ false r) (ha : ∀ μ, Sd K cl Wx ta env μ ba (fa μ)) (hk : ∀ μ, Sd K cl Wx tk env μ bk (fk μ)) :
    SdS K cl Wx (tAsg te (gSub ta tk rSetL)) env μ (if q then .stuck else thenO r env fun d μ1 => thenO (fa μ1) env fun o μ2 => thenO (fk μ2) env fun kk μ3 => match asLoc o, kk with
      | some n, .int i => match μ3[n]? with
        | some (.lst l) => match ixN l.length i with
          | some j => .nx env (μ3.set n (.lst (l.set j d)))
          | none => .stuck
        | _ => .stuck
      | _, _ => .stuck) := fun W0 H0 W H σ D m ok en g w => by
  cases q with
  | true => exact w.elim
  | false =>
    simp only [Bool.false_eq_true, if_false] at w
    refine he rfl H0 W H σ _ m ok en ?_
    cases r with
    | ex c μ' => exact exS g en w
    | stuck => exact w
    | ok d μ1 =>
      rw [thenO_ok] at w
      intro v W1 H1 m1 o1 g1 _ r1
      refine ha μ1 H0 W1 H1 σ _ m1 o1 (en.go g1) ?_
      cases ea : fa μ1 with
      | ex c μ' => rw [ea] at w; exact exS (g.trans g1) (en.go g1) (w.later g1.f g1.i)
      | stuck => rw [ea] at w; exact w
      | ok o μ2 =>
        rw [ea, thenO_ok] at w
        intro u W2 H2 m2 o2 g2 r2 _
        refine hk μ2 H0 W2 H2 σ _ m2 o2 ((en.go g1).go g2) ?_
        cases ek : fk μ2 with
        | ex c μ' => rw [ek] at w; exact exS ((g.trans g1).trans g2) ((en.go g1).go g2) (w.later (Evl.Ex.trans g1.f g2.f) (g1.i.trans g2.i))
        | stuck => rw [ek] at w; exact w
        | ok kk μ3 =>
          rw [ek, thenO_ok] at w
          intro t W3 H3 m3 o3 g3 r3 _
          cases hn : asLoc o with
          | none => rw [hn] at w; exact w.elim
          | some n =>
          cases kk with
          | int i =>
            rw [hn] at w
            simp only at w
            have hd := asLoc_of hn
            subst hd
            obtain ⟨a, rfl, hi⟩ := (r2.go g3).loc
            cases r3.int
            split at w
            · rename_i l hc
              rw [← m3] at hc
              obtain ⟨ws, hh, rl⟩ := o3.cells n _ a hc hi
              split at w
              · rename_i j hj
                refine ⟨a, ws, i, j, rfl, rfl, hh, by rw [rl.length]; exact hj, ?_⟩
                have up := cellUp o3 (((en.go g1).go g2).go g3) (((g.trans g1).trans g2).trans g3) hc (by intro z; cases z) hi (c := .lst (l.set j d)) (o := .lst (ws.set j v)) ⟨_, upd_same, rl.set j (g3.rep (g2.rep (r1 rfl)))⟩
                exact w (W3.put n (.lst (l.set j d))) _ σ (by show W3.μ.set n _ = _; rw [m3]) up.1 up.2.1 up.2.2 (Evl.Ex.trans (Evl.Ex.trans g1.f g2.f) g3.f) ((g1.i.trans g2.i).trans g3.i)
              · exact w.elim
            · exact w.elim
          | _ => rw [hn] at w; exact w.elim
theorem sds_csetD {ta tk te : TE} {r : Rs PyData} {fa fk : Store → Rs PyData} {q ba bk : Bool} (he : q = false → Sd K cl Wx te env μ false r) (ha : ∀ μ, Sd K cl Wx ta env μ ba (fa μ)) (hk : ∀ μ, Sd K cl Wx tk env μ bk (fk μ)) :
    SdS K cl Wx (sDPut ta tk te) env μ (if q then .stuck else thenO r env fun d μ1 => thenO (fa μ1) env fun o μ2 => thenO (fk μ2) env fun kk μ3 => match asLoc o with
      | some n => match μ3[n]? with
        | some (.dct l) => if isKey kk ∧ l.length < lim then .nx env (μ3.set n (.dct (dput l kk d))) else .stuck
        | _ => .stuck
      | _ => .stuck) := fun W0 H0 W H σ D m ok en g w => by
  cases q with
  | true => exact w.elim
  | false =>
    simp only [Bool.false_eq_true, if_false] at w
    refine he rfl H0 W H σ _ m ok en ?_
    cases r with
    | ex c μ' => exact exS g en w
    | stuck => exact w
    | ok d μ1 =>
      rw [thenO_ok] at w
      intro v W1 H1 m1 o1 g1 _ r1
      refine ha μ1 H0 W1 H1 σ _ m1 o1 (en.go g1) ?_
      cases ea : fa μ1 with
      | ex c μ' => rw [ea] at w; exact exS (g.trans g1) (en.go g1) (w.later g1.f g1.i)
      | stuck => rw [ea] at w; exact w
      | ok o μ2 =>
        rw [ea, thenO_ok] at w
        intro u W2 H2 m2 o2 g2 r2 _
        refine hk μ2 H0 W2 H2 σ _ m2 o2 ((en.go g1).go g2) ?_
        cases ek : fk μ2 with
        | ex c μ' => rw [ek] at w; exact exS ((g.trans g1).trans g2) ((en.go g1).go g2) (w.later (Evl.Ex.trans g1.f g2.f) (g1.i.trans g2.i))
        | stuck => rw [ek] at w; exact w
        | ok kk μ3 =>
          rw [ek, thenO_ok] at w
          intro t W3 H3 m3 o3 g3 r3 _
          split at w
          · rename_i n hn
            have hd := asLoc_of hn
            subst hd
            obtain ⟨a, rfl, hi⟩ := (r2.go g3).loc
            split at w
            · rename_i l hc
              rw [← m3] at hc
              obtain ⟨kvs, hh, rl⟩ := o3.cells n _ a hc hi
              split at w
              · rename_i hcc
                obtain ⟨wk, rfl⟩ := isKey_of hcc.1
                have hu := r3.key
                subst hu
                have dl : DL K W3.F W3.ι kvs l := rl
                refine ⟨a, _, rfl, DPut.k hh (Nat.lt_of_lt_of_le (by rw [dl.length]; exact hcc.2) (lim_le (Nat.le_refl _))), ?_⟩
                have up := cellUp o3 (((en.go g1).go g2).go g3) (((g.trans g1).trans g2).trans g3) hc (by intro z; cases z) hi (c := .dct (dput l (keyD wk) d)) (o := .dK (putK kvs wk v)) ⟨_, upd_same, dl.put (g3.rep (g2.rep (r1 rfl)))⟩
                exact w (W3.put n (.dct (dput l (keyD wk) d))) _ σ (by show W3.μ.set n _ = _; rw [m3]) up.1 up.2.1 up.2.2 (Evl.Ex.trans (Evl.Ex.trans g1.f g2.f) g3.f) ((g1.i.trans g2.i).trans g3.i)
              · exact w.elim
            · exact w.elim
          · exact w.elim
theorem sds_cdel {ta tl : TE} {r : Rs PyData} {fl : Store → Rs PyData} {ba bl : Bool} (ha : Sd K cl Wx ta env μ ba r) (hl : ∀ μ, Sd K cl Wx tl env μ bl (fl μ)) :
    SdS K cl Wx (tDelS ta tl) env μ (thenO r env fun o μ1 => thenO (fl μ1) env fun kk μ2 => match asLoc o, kk with
      | some n, .int i => match μ2[n]? with
        | some (.lst l) => if 0 ≤ i ∧ i ≤ l.length then .nx env (μ2.set n (.lst (l.take i.toNat))) else .stuck
        | _ => .stuck
      | _, _ => .stuck) := fun W0 H0 W H σ D m ok en g w => by
  refine ha H0 W H σ _ m ok en ?_
  cases r with
  | ex c μ' => exact exS g en w
  | stuck => exact w
  | ok o μ1 =>
    rw [thenO_ok] at w
    intro v W1 H1 m1 o1 g1 r1 _
    refine hl μ1 H0 W1 H1 σ _ m1 o1 (en.go g1) ?_
    cases ek : fl μ1 with
    | ex c μ' => rw [ek] at w; exact exS (g.trans g1) (en.go g1) (w.later g1.f g1.i)
    | stuck => rw [ek] at w; exact w
    | ok kk μ2 =>
      rw [ek, thenO_ok] at w
      intro t W2 H2 m2 o2 g2 r2 _
      cases hn : asLoc o with
      | none => rw [hn] at w; exact w.elim
      | some n =>
      cases kk with
      | int i =>
        rw [hn] at w
        simp only at w
        have hd := asLoc_of hn
        subst hd
        obtain ⟨a, rfl, hi⟩ := (r1.go g2).loc
        cases r2.int
        split at w
        · rename_i l hc
          rw [← m2] at hc
          obtain ⟨ws, hh, rl⟩ := o2.cells n _ a hc hi
          split at w
          · rename_i hlt
            refine ⟨i, rfl, a, ws, i, rfl, rfl, hh, hlt.1, by rw [rl.length]; exact hlt.2, ?_⟩
            have up := cellUp o2 ((en.go g1).go g2) ((g.trans g1).trans g2) hc (by intro z; cases z) hi (c := .lst (l.take i.toNat)) (o := .lst (ws.take i.toNat)) ⟨_, upd_same, rl.take _⟩
            exact w (W2.put n (.lst (l.take i.toNat))) _ σ (by show W2.μ.set n _ = _; rw [m2]) up.1 up.2.1 up.2.2 (Evl.Ex.trans g1.f g2.f) (g1.i.trans g2.i)
          · exact w.elim
        · exact w.elim
      | _ => rw [hn] at w; exact w.elim
theorem sds_sattr {ta te : TE} {r : Rs PyData} {fa : Store → Rs PyData} {q ba : Bool} {f : Nat} (he : q = false → Sd K cl Wx te env μ false r) (ha : ∀ μ, Sd K cl Wx ta env μ ba (fa μ)) :
    SdS K cl Wx (sFld K ta te (fnm f)) env μ (if q then .stuck else thenO r env fun d μ1 => thenO (fa μ1) env fun o μ2 => match attrSet f o d μ2 with
      | some μ3 => .nx env μ3
      | none => .stuck) := fun W0 H0 W H σ D m ok en g w => by
  cases q with
  | true => exact w.elim
  | false =>
    simp only [Bool.false_eq_true, if_false] at w
    refine he rfl H0 W H σ _ m ok en ?_
    cases r with
    | ex c μ' => exact exS g en w
    | stuck => exact w
    | ok d μ1 =>
      rw [thenO_ok] at w
      intro v W1 H1 m1 o1 g1 _ r1
      refine ha μ1 H0 W1 H1 σ _ m1 o1 (en.go g1) ?_
      cases ea : fa μ1 with
      | ex c μ' => rw [ea] at w; exact exS (g.trans g1) (en.go g1) (w.later g1.f g1.i)
      | stuck => rw [ea] at w; exact w
      | ok o μ2 =>
        rw [ea, thenO_ok] at w
        intro u W2 H2 m2 o2 g2 r2 _
        split at w
        · rename_i μ3 hz
          rw [← m2] at hz
          obtain ⟨n, a, c, fs, dx, fl, rfl, hh, h3, h4, hl, hm, hi, hμ, hc⟩ := attrSet_ok o2 hz r2 (g2.rep (r1 rfl))
          refine ⟨a, _, dx, fl, rfl, hh, h3, h4, hl, ?_⟩
          have up := cellUp o2 ((en.go g1).go g2) ((g.trans g1).trans g2) hm (by intro z; cases z) hi hc
          exact w (W2.put n (.ins c (fput fs f d))) _ σ hμ.symm up.1 up.2.1 up.2.2 (Evl.Ex.trans g1.f g2.f) (g1.i.trans g2.i)
        · exact w.elim
theorem insC_of {o : PyData} {μ' : Store} {c : Nat} {fs : List (Nat × PyData)} (h : insC o μ' = some (c, fs)) : ∃ n, o = loc n ∧ asLoc o = some n ∧ μ'[n]? = some (.ins c fs) := by
  unfold insC at h
  split at h
  · rename_i n hn
    split at h
    · rename_i c' fs' hc
      cases h
      exact ⟨n, asLoc_of hn, hn, hc⟩
    · cases h
  · cases h
theorem sds_saug {ta te : TE} {r : Rs PyData} {fe : Store → Rs PyData} {ba be : Bool} {f : Nat} (ha : Sd K cl Wx ta env μ ba r) (he : ∀ μ, Sd K cl Wx te env μ be (fe μ)) :
    SdS K cl Wx (sFldAug K ta te rAdd (fnm f)) env μ (thenO r env fun o μ1 => match insC o μ1 with
      | some (c, fs) => match flook fs f with
        | some (.int i) => if f ∈ fieldsOf c then thenO (fe μ1) env fun d μ2 => match d with
          | .int j => match insC o μ2 with
            | some (c', _) => if c = c' then (match attrSet f o (.int (i + j)) μ2 with
              | some μ3 => .nx env μ3
              | none => .stuck) else .stuck
            | none => .stuck
          | _ => .stuck else .stuck
        | _ => .stuck
      | none => .stuck) := fun W0 H0 W H σ D m ok en g w => by
  refine ha H0 W H σ _ m ok en ?_
  cases r with
  | ex c μ' => exact exS g en w
  | stuck => exact w
  | ok o μ1 =>
    rw [thenO_ok] at w
    intro v W1 H1 m1 o1 g1 r1 _
    cases hin : insC o μ1 with
    | none => rw [hin] at w; exact w.elim
    | some cf =>
      obtain ⟨c, fs⟩ := cf
      rw [hin] at w
      simp only at w
      obtain ⟨n, hd, hn, hc⟩ := insC_of hin
      subst hd
      obtain ⟨a, rfl, hi⟩ := r1.loc
      rw [← m1] at hc
      obtain ⟨io, hff, dx, fl, hh, h1, h2⟩ := o1.cells n _ a hc hi
      cases hl : flook fs f with
      | none => rw [hl] at w; exact w.elim
      | some u =>
        rw [hl] at w
        cases u with
        | int i =>
          simp only at w
          split at w
          · rename_i hf
            obtain ⟨x, hx, rx⟩ := cfl_rep (fields_lt c f hf) (fun p hp => fields_lt c _ (hff p hp)) h1 h2 hl
            cases rx
            refine ⟨a, _, dx, fl, _, rfl, hh, io.cls, io.no f hf, hx, he μ1 H0 W1 H1 σ _ m1 o1 (en.go g1) ?_⟩
            cases ee : fe μ1 with
            | ex c μ' => rw [ee] at w; exact exS (g.trans g1) (en.go g1) (w.later g1.f g1.i)
            | stuck => rw [ee] at w; exact w
            | ok d μ2 =>
              rw [ee, thenO_ok] at w
              intro t W2 H2 m2 o2 g2 r2 _
              cases d with
              | int j =>
                simp only at w
                cases hin2 : insC (loc n) μ2 with
                | none => rw [hin2] at w; exact w.elim
                | some cf2 =>
                  obtain ⟨c2, fs2⟩ := cf2
                  rw [hin2] at w
                  simp only at w
                  split at w
                  · rename_i hcc
                    subst hcc
                    cases r2.int
                    obtain ⟨n2, hd2, hn2, hc2⟩ := insC_of hin2
                    split at w
                    · rename_i μ3 hy
                      rw [← m2] at hy
                      obtain ⟨n3, a', c3, fs3, dx', fl', e', hh', h3', h4', hl', hm, hi', hμ, hcell⟩ := attrSet_ok o2 hy (r1.go g2) (.int (i + j))
                      cases e'
                      have hi2 := pre_get g2.i hi
                      have hc2' : W2.μ[n]? = some (.ins c fs2) := by
                        rw [m2]
                        have e := hn2
                        rw [asLoc_loc] at e
                        cases e
                        exact hc2
                      obtain ⟨_, _, dx4, fl4, hh4, _, _⟩ := o2.cells n _ a hc2' hi2
                      rw [hh'] at hh4
                      simp only [Option.some.injEq, HO.ins.injEq] at hh4
                      refine ⟨i, j, rfl, rfl, dx', fl', by rw [← hh4.1]; exact hh', hl', ?_⟩
                      have up := cellUp o2 ((en.go g1).go g2) ((g.trans g1).trans g2) hm (by intro z; cases z) hi' hcell
                      rw [← hh4.1]
                      exact w (W2.put n3 _) _ σ hμ.symm up.1 up.2.1 up.2.2 (Evl.Ex.trans g1.f g2.f) (g1.i.trans g2.i)
                    · exact w.elim
                  · exact w.elim
              | _ => exact w.elim
          · exact w.elim
        | _ => exact w.elim
theorem sds_augN {te : TE} {r : Rs PyData} {i : Nat} {b : Bool} (h : Sd K cl Wx te env μ b r) : SdS K cl Wx (tAug i te (ipI fun i j => i + j)) env μ (match env[i]? with
      | some (.pv (.int x)) => thenO r env fun d μ1 => match d with
        | .int y => .nx (env.set i (.pv (.int (x + y)))) μ1
        | _ => .stuck
      | _ => .stuck) := fun W0 H0 W H σ D m ok en g w => by
  split at w
  · rename_i x ei
    obtain ⟨v, ev, rv⟩ := en.slots i _ ei
    cases rv
    refine ⟨_, ev, h H0 W H σ _ m ok en ?_⟩
    cases r with
    | ex c μ' => exact exS g en w
    | stuck => exact w
    | ok d μ1 =>
      rw [thenO_ok] at w
      intro t W1 H1 m1 o1 g1 r1 _
      cases d with
      | int y =>
        cases r1.int
        exact ⟨x, y, rfl, rfl, w W1 H1 _ m1 o1 ((en.go g1).set (.int (x + y)) i) (g.trans g1) g1.f g1.i⟩
      | _ => exact w.elim
  · exact w.elim
/-- a cell becomes a value -/
theorem frzC_ok {i : Nat} {env' : List SV} {μ' : Store} (ok : WOk K cl W H) (en : EnvOk K H0 W H env σ) (g : Go W0 H0 W H) (hz : frzCP i env W.μ = some (env', μ')) :
    ∃ W', W'.μ = μ' ∧ WOk K cl W' H ∧ EnvOk K H0 W' H env' σ ∧ Go W0 H0 W' H ∧ Sub W.F W'.F ∧ W.ι <+: W'.ι := by
  have gen : ∀ (n : Nat) (a : Addr) (c : Cell) (o : HO) (d : PyData), env[i]? = some (.pv (loc n)) → σ[i]? = some (some (.ref a)) → W.μ[n]? = some c → c ≠ .dead → W.ι[n]? = some a → H a = some o → Rep K (L2.upd W.F a o) W.ι (.ref a) d →
      ∃ W' : Wd, W'.μ = W.μ.set n .dead ∧ WOk K cl W' H ∧ EnvOk K H0 W' H (env.set i (.pv d)) σ ∧ Go W0 H0 W' H ∧ Sub W.F W'.F ∧ W.ι <+: W'.ι := by
    intro n a c o d ei es hm hc hi hh hr
    have hF := ok.ap n c a hm hc hi
    have sb : Sub W.F (L2.upd W.F a o) := sub_fix hF
    refine ⟨⟨L2.upd W.F a o, W.ι, W.μ.set n .dead⟩, rfl, ⟨fun b u e => ?_, ok.iu, by simp [ok.len], fun k c' b e1 e2 => ?_, fun k c' b e1 hd e2 => ?_⟩, ⟨by simp [en.len], fun j s ej => ?_, fun j k q q' hjk e1 e2 o1 o2 => ?_⟩, ⟨Evl.Ex.trans g.f sb, fun b hb hn hi0 => ?_, g.i, g.inew, g.keep, g.there⟩, sb, List.prefix_refl _⟩
    · by_cases z : b = a
      · subst z
        have e' : L2.upd W.F b o b = some u := e
        rw [upd_same] at e'
        cases e'
        exact hh
      · have e' : L2.upd W.F a o b = some u := e
        rw [upd_ne z] at e'
        exact ok.fh b u e'
    · have e1' : (W.μ.set n .dead)[k]? = some c' := e1
      by_cases h : n = k
      · subst h
        rw [List.getElem?_set_self (List.getElem?_eq_some_iff.mp hm).1] at e1'
        cases e1'
        have e2' : W.ι[n]? = some b := e2
        rw [hi] at e2'
        cases e2'
        show H a ≠ none
        rw [hh]
        simp
      · rw [List.getElem?_set_ne h] at e1'
        exact (ok.cells k c' b e1' e2).sub sb (List.prefix_refl _)
    · have e1' : (W.μ.set n .dead)[k]? = some c' := e1
      by_cases h : n = k
      · subst h
        rw [List.getElem?_set_self (List.getElem?_eq_some_iff.mp hm).1] at e1'
        cases e1'
        exact absurd rfl hd
      · rw [List.getElem?_set_ne h] at e1'
        have nb : b ≠ a := fun z => by
          subst z
          have e2' : W.ι[k]? = some b := e2
          have q := List.pairwise_iff_getElem.mp ok.iu
          obtain ⟨h1, x1⟩ := List.getElem?_eq_some_iff.mp e2'
          obtain ⟨h2, x2⟩ := List.getElem?_eq_some_iff.mp hi
          rcases Nat.lt_trichotomy k n with z | z | z
          · exact q k n h1 h2 z (x1.trans x2.symm)
          · exact h z.symm
          · exact q n k h2 h1 z (x2.trans x1.symm)
        show L2.upd W.F a o b = none
        rw [upd_ne nb]
        exact ok.ap k c' b e1' hd e2
    · by_cases hj : i = j
      · subst hj
        have hlt : i < env.length := (List.getElem?_eq_some_iff.mp ei).1
        rw [List.getElem?_set_self hlt] at ej
        cases ej
        exact ⟨.ref a, es, hr⟩
      · rw [List.getElem?_set_ne hj] at ej
        have hs := en.slots j s ej
        cases s with
        | un => exact trivial
        | pv d =>
          obtain ⟨v, e1, r1⟩ := hs
          exact ⟨v, e1, Rep.mono sb (List.prefix_refl _) _ _ r1⟩
        | ow m =>
          obtain ⟨b, ws, eb, b0, bF, bi, bh, br⟩ := hs
          have ne : b ≠ a := fun z => bi (z ▸ List.mem_of_getElem? hi)
          exact ⟨b, ws, eb, b0, by show L2.upd W.F a o b = none; rw [upd_ne ne]; exact bF, bi, bh, RepL.mono sb (List.prefix_refl _) _ _ br⟩
        | od m =>
          obtain ⟨b, ws, eb, b0, bF, bi, bh, br⟩ := hs
          have ne : b ≠ a := fun z => bi (z ▸ List.mem_of_getElem? hi)
          exact ⟨b, ws, eb, b0, by show L2.upd W.F a o b = none; rw [upd_ne ne]; exact bF, bi, bh, br.mono sb (List.prefix_refl _)⟩
    · have hlt : i < env.length := (List.getElem?_eq_some_iff.mp ei).1
      have nj : i ≠ j := fun z => by
        subst z
        rw [List.getElem?_set_self hlt] at e1
        cases e1
        cases o1
      have nk : i ≠ k := fun z => by
        subst z
        rw [List.getElem?_set_self hlt] at e2
        cases e2
        cases o2
      rw [List.getElem?_set_ne nj] at e1
      rw [List.getElem?_set_ne nk] at e2
      exact en.apart j k q q' hjk e1 e2 o1 o2
    · have nb : b ≠ a := fun z => by
        subst z
        exact hi0 (g.inew b (List.mem_of_getElem? hi) hb)
      show L2.upd W.F a o b = none
      rw [upd_ne nb]
      exact g.fn b hb hn hi0
  unfold frzCP at hz
  split at hz
  · rename_i o ei
    split at hz
    · rename_i n hn
      have hd := asLoc_of hn
      subst hd
      obtain ⟨v, ev, rv⟩ := en.slots i _ ei
      cases rv with
      | @loc a _ hi =>
        split at hz
        · rename_i l hc
          cases hz
          obtain ⟨vs, hh, rl⟩ := ok.cells n _ a hc hi
          have hF := ok.ap n _ a hc (by intro z; cases z) hi
          exact gen n a _ _ _ ei ev hc (by intro z; cases z) hi hh (.lst (SqL.of upd_same) (RepL.mono (sub_fix hF) (List.prefix_refl _) _ _ rl))
        · rename_i l hc
          cases hz
          obtain ⟨kvs, hh, rl⟩ := ok.cells n _ a hc hi
          have hF := ok.ap n _ a hc (by intro z; cases z) hi
          have dl := DL.mono (sub_fix (o := .dK kvs) hF) (List.prefix_refl _) rl
          exact gen n a _ _ _ ei ev hc (by intro z; cases z) hi hh (.dct upd_same dl.1 dl.2)
        · cases hz
    · cases hz
  · cases hz
theorem sds_frzC {t : TS} {i : Nat} {f : List SV → Store → Out} (h : ∀ env μ, SdS K cl Wx t env μ (f env μ)) : SdS K cl Wx t env μ (match frzCP i env μ with
      | some (env', μ') => f env' μ'
      | none => .stuck) := fun W0 H0 W H σ D m ok en g w => by
  split at w
  · rename_i env' μ' hz
    rw [← m] at hz
    obtain ⟨W', m', ok', en', g', s', p'⟩ := frzC_ok ok en g hz
    exact h env' μ' W0 H0 W' H σ D m' ok' en' g' (w.later s' p')
  · exact w.elim
/-! ## loops -/
theorem sds_for {wi : TI} {tg : Tg} {tb : TS} {r : Rs (List PyData)} {f : List SV → Store → Out} (hi : SdI K cl Wx wi env μ r) (hb : ∀ env μ, SdS K cl Wx tb env μ (f env μ)) :
    SdS K cl Wx (tFor wi (tg.rd K) tb) env μ (thenO r env fun ds μ1 => fLoop tg f ds env μ1) := fun W0 H0 W H σ D m o en g w => by
  refine hi H0 W H σ _ m o en ?_
  cases r with
  | ex c μ' => exact exS g en w
  | stuck => exact w
  | ok ds μ1 =>
    rw [thenO_ok] at w
    intro J W1 H1 m1 o1 g1 it
    generalize hF : fLoop tg f ds env μ1 = oF at w
    refine ⟨fun i mm σi Hi => mm = ds.length - i ∧ i ≤ ds.length ∧ ∃ Wi envi, WOk K cl Wi Hi ∧ EnvOk K H0 Wi Hi envi σi ∧ Go W0 H0 Wi Hi ∧ Sub W1.F Wi.F ∧ W1.ι <+: Wi.ι ∧ fLoop tg f (ds.drop i) envi Wi.μ = oF,
      ⟨ds.length, by simp, Nat.zero_le _, W1, env, o1, en.go g1, g.trans g1, fun _ _ h => h, List.prefix_refl _, by rw [List.drop_zero, m1]; exact hF⟩, ?_⟩
    rintro i mm σi Hi ⟨rfl, hil, Wi, envi, oi, eni, gi, si, pi, hl⟩
    have itI := it Wi Hi oi si pi i
    by_cases hlt : i < ds.length
    · obtain ⟨hgo, hy⟩ := itI.1 ds[i] (by simp [hlt])
      have hdrop : ds.drop i = ds[i] :: ds.drop (i + 1) := List.drop_eq_getElem_cons hlt
      rw [hdrop] at hl
      unfold fLoop at hl
      refine .inr ⟨hgo, fun σn Hn => ∃ Wn envn, WOk K cl Wn Hn ∧ EnvOk K H0 Wn Hn envn σn ∧ Go W0 H0 Wn Hn ∧ Sub W1.F Wn.F ∧ W1.ι <+: Wn.ι ∧ fLoop tg f (ds.drop (i + 1)) envn Wn.μ = oF,
        fun σ' H' h' => ⟨ds.length - (i + 1), by omega, rfl, hlt, h'⟩, fun x H' y => ?_⟩
      obtain ⟨W', mμ, o', g', rx⟩ := hy x H' y
      cases ep : tg.put ds[i] envi with
      | none =>
        rw [ep] at hl
        rw [← hl] at w
        exact w.elim
      | some env' =>
        rw [ep] at hl
        refine tg_ok o' (eni.go g') rx ep fun σ2 en2 _ => ?_
        refine hb env' Wi.μ W0 H0 W' H' σ2 _ mμ o' en2 (gi.trans g') ?_
        have sW : Sub W1.F W'.F := Evl.Ex.trans si g'.f
        have pW : W1.ι <+: W'.ι := pi.trans g'.i
        have wl := w.later (g1.f) (g1.i)
        simp only at hl
        cases ef : f env' Wi.μ with
        | nx e m' =>
          rw [ef] at hl
          exact fun W2 H2 σ3 m2 o2 en3 g2 s2 p2 => ⟨W2, e, o2, en3, g2, Evl.Ex.trans sW s2, pW.trans p2, by rw [m2]; exact hl⟩
        | ct e m' =>
          rw [ef] at hl
          exact fun W2 H2 σ3 m2 o2 en3 g2 s2 p2 => ⟨W2, e, o2, en3, g2, Evl.Ex.trans sW s2, pW.trans p2, by rw [m2]; exact hl⟩
        | bk e m' =>
          rw [ef] at hl
          rw [← hl] at wl
          exact fun W2 H2 σ3 m2 o2 en3 g2 s2 p2 => wl W2 H2 σ3 m2 o2 en3 g2 (Evl.Ex.trans sW s2) (pW.trans p2)
        | rt d m' =>
          rw [ef] at hl
          rw [← hl] at wl
          exact wl
        | ex c e m' =>
          rw [ef] at hl
          rw [← hl] at wl
          exact fun W2 H2 σ3 m2 o2 en3 g2 s2 p2 => wl W2 H2 σ3 m2 o2 en3 g2 (Evl.Ex.trans sW s2) (pW.trans p2)
        | stuck =>
          rw [ef] at hl
          rw [← hl] at wl
          exact wl
    · have hi2 : i = ds.length := by omega
      refine .inl ⟨itI.2 (by omega), ?_⟩
      rw [List.drop_of_length_le (by omega)] at hl
      unfold fLoop at hl
      rw [← hl] at w
      exact (w.later g1.f g1.i) Wi Hi σi rfl oi eni gi si pi
theorem sds_whil {tc : TT} {tb : TS} {fc : List SV → Store → Rs PyData} {f : List SV → Store → Out} {L : Nat} (hc : ∀ env μ, SdT K cl Wx tc env μ (fc env μ)) (hb : ∀ env μ, SdS K cl Wx tb env μ (f env μ)) :
    SdS K cl Wx (tWhile tc tb) env μ (wLoop fc f L env μ) := fun W0 H0 W H σ D m o en g w => by
  generalize hF : wLoop fc f L env μ = oF at w
  refine ⟨fun mm σi Hi => ∃ Wi envi, WOk K cl Wi Hi ∧ EnvOk K H0 Wi Hi envi σi ∧ Go W0 H0 Wi Hi ∧ Sub W.F Wi.F ∧ W.ι <+: Wi.ι ∧ wLoop fc f mm envi Wi.μ = oF,
    ⟨L, W, env, o, en, g, fun _ _ h => h, List.prefix_refl _, by rw [m]; exact hF⟩, ?_⟩
  rintro mm σi Hi ⟨Wi, envi, oi, eni, gi, si, pi, hl⟩
  cases mm with
  | zero =>
    unfold wLoop at hl
    rw [← hl] at w
    exact w.elim
  | succ mm =>
    unfold wLoop at hl
    refine hc envi Wi.μ H0 Wi Hi σi _ rfl oi eni ?_
    have wl := w.later si pi
    cases ec : fc envi Wi.μ with
    | ex c μ' =>
      rw [ec, thenO_ex] at hl
      rw [← hl] at wl
      exact exS gi eni wl
    | stuck =>
      rw [ec, thenO_stuck] at hl
      rw [← hl] at wl
      exact wl
    | ok k μ1 =>
      rw [ec, thenO_ok] at hl
      split at hl
      · refine ⟨true, rfl, fun W2 H2 m2 o2 g2 => ?_⟩
        show (if true = true then _ else _)
        rw [if_pos rfl]
        refine ⟨fun σn Hn => ∃ Wn envn, WOk K cl Wn Hn ∧ EnvOk K H0 Wn Hn envn σn ∧ Go W0 H0 Wn Hn ∧ Sub W.F Wn.F ∧ W.ι <+: Wn.ι ∧ wLoop fc f mm envn Wn.μ = oF, fun σ' H' h' => ⟨mm, Nat.lt_succ_self _, h'⟩, ?_⟩
        refine hb envi μ1 W0 H0 W2 H2 σi _ m2 o2 (eni.go g2) (gi.trans g2) ?_
        have sW : Sub W.F W2.F := Evl.Ex.trans si g2.f
        have pW : W.ι <+: W2.ι := pi.trans g2.i
        cases ef : f envi μ1 with
        | nx e m' =>
          rw [ef] at hl
          exact fun W3 H3 σ3 m3 o3 en3 g3 s3 p3 => ⟨W3, e, o3, en3, g3, Evl.Ex.trans sW s3, pW.trans p3, by rw [m3]; exact hl⟩
        | ct e m' =>
          rw [ef] at hl
          exact fun W3 H3 σ3 m3 o3 en3 g3 s3 p3 => ⟨W3, e, o3, en3, g3, Evl.Ex.trans sW s3, pW.trans p3, by rw [m3]; exact hl⟩
        | bk e m' =>
          rw [ef] at hl
          rw [← hl] at w
          exact fun W3 H3 σ3 m3 o3 en3 g3 s3 p3 => w W3 H3 σ3 m3 o3 en3 g3 (Evl.Ex.trans sW s3) (pW.trans p3)
        | rt d m' =>
          rw [ef] at hl
          rw [← hl] at w
          exact w
        | ex c e m' =>
          rw [ef] at hl
          rw [← hl] at w
          exact fun W3 H3 σ3 m3 o3 en3 g3 s3 p3 => w W3 H3 σ3 m3 o3 en3 g3 (Evl.Ex.trans sW s3) (pW.trans p3)
        | stuck =>
          rw [ef] at hl
          rw [← hl] at w
          exact w
      · refine ⟨false, rfl, fun W2 H2 m2 o2 g2 => ?_⟩
        show (if false = true then _ else _)
        rw [if_neg Bool.false_ne_true]
        rw [← hl] at w
        exact w W2 H2 σi m2 o2 (eni.go g2) (gi.trans g2) (Evl.Ex.trans si g2.f) (pi.trans g2.i)
      · rw [← hl] at w
        exact w.elim
/-! ## try -/
/-- the classes of the text and what except finds of them -/
structure ExOk (K : PySem.W.Frag) (cl : Nat → Addr) (sub : Under) : Prop where
  exm : ∀ c c' b, sub c c' = some b → PySem.W.exmOne K (.ref (cl c)) (.ref (cl c')) = some b
  isv : ∀ c c', sub c c' = some true → IsVal K (cl c)
inductive SdHs (K : PySem.W.Frag) (cl : Nat → Addr) : List (Value × (Addr → Value → Option Addr → TS)) → (List SV → Store → List (Nat × Out)) → Prop
  | nil : SdHs K cl [] fun _ _ => []
  | cons {c : Nat} {t : TS} {f : List SV → Store → Out} {l : List (Value × (Addr → Value → Option Addr → TS))} {g : List SV → Store → List (Nat × Out)} :
      (∀ env μ, SdS K cl noW t env μ (f env μ)) → SdHs K cl l g → SdHs K cl ((.ref (cl c), fun _ _ _ => t) :: l) fun e m => (c, f e m) :: g e m
theorem sds_hs {sub : Under} (X : ExOk K cl sub) {l : List (Value × (Addr → Value → Option Addr → TS))} {g : List SV → Store → List (Nat × Out)} (h : SdHs K cl l g) {c : Nat} {env' : List SV} {μ' : Store}
    {W2 : Wd} {H2 : Hp} {σ2 : L2.St} (m : W2.μ = μ') (o : WOk K cl W2 H2) (en : EnvOk K H0 W2 H2 env' σ2) (g0 : Go W0 H0 W2 H2)
    (w : WantS K cl Wx W0 H0 W2 D (pick sub c (.ex c env' μ') (g env' μ'))) : wMany K Wx D l (.ref (cl c)) none σ2 H2 := by
  induction h with
  | nil => exact w W2 H2 σ2 m o en g0 (fun _ _ h => h) (List.prefix_refl _)
  | @cons c' t f l g ht hr ih =>
    unfold pick at w
    cases es : sub c c' with
    | none => rw [es] at w; exact w.elim
    | some b =>
      refine ⟨b, X.exm c c' b es, fun hb a ha => ?_, fun hb => ?_⟩
      · subst hb
        rw [es] at w
        refine ht env' μ' W0 H0 W2 H2 σ2 D m o en g0 ?_
        simp only at w
        cases ef : f env' μ' with
        | nx e m' => rw [ef] at w; exact w
        | bk e m' => rw [ef] at w; exact w
        | ct e m' => rw [ef] at w; exact w
        | rt d m' => rw [ef] at w; exact w
        | ex c e m' => rw [ef] at w; exact w.elim
        | stuck => rw [ef] at w; exact w
      · subst hb
        rw [es] at w
        exact ih w
theorem sds_try {sub : Under} (X : ExOk K cl sub) {tb : WX → TS} {o : Out} {l : List (Value × (Addr → Value → Option Addr → TS))} {g : List SV → Store → List (Nat × Out)} (hb : ∀ Wx, SdS K cl Wx (tb Wx) env μ o) (hh : SdHs K cl l g) :
    SdS K cl Wx (fun D σ H => tb (wMany K Wx D l) D σ H) env μ (o.caught sub g) := fun W0 H0 W H σ D m ok en g0 w => by
  refine hb _ W0 H0 W H σ D m ok en g0 ?_
  cases o with
  | nx e m' => exact w
  | bk e m' => exact w
  | ct e m' => exact w
  | rt d m' => exact w
  | stuck => exact w
  | ex c e m' => exact fun W2 H2 σ2 m2 o2 en2 g2 s2 p2 => sds_hs X hh m2 o2 en2 g2 (w.later s2 p2)
theorem sds_tryIs {sub : Under} (X : ExOk K cl sub) {tb : WX → TS} {o : Out} {c i : Nat} (hb : ∀ Wx, SdS K cl Wx (tb Wx) env μ o) :
    SdS K cl Wx (fun D σ H => tb (wAs K (.ref (cl c)) i (tIsV K i) Wx D) D σ H) env μ (o.caughtIs sub c i) := fun W0 H0 W H σ D m ok en g0 w => by
  refine hb _ W0 H0 W H σ D m ok en g0 ?_
  cases o with
  | nx e m' => exact w
  | bk e m' => exact w
  | ct e m' => exact w
  | rt d m' => exact w
  | stuck => exact w
  | ex c' e m' =>
    intro W2 H2 σ2 m2 o2 en2 g2 s2 p2
    unfold Out.caughtIs at w
    simp only at w
    cases es : sub c' c with
    | none => rw [es] at w; exact w.elim
    | some b =>
      rw [es] at w
      refine ⟨b, X.exm c' c b es, fun hb a ha => ?_, fun hb => ?_⟩
      · subst hb
        simp only at w
        split at w
        · rename_i hi
          refine ⟨cl c', rfl, rfl, X.isv c' c es, ?_, w (.bl true) W2 H2 m2 o2 g2 (.bl true)⟩
          have : i < σ2.length := by rw [en2.1]; exact hi
          simp [this]
        · exact w.elim
      · subst hb
        exact w W2 H2 σ2 m2 o2 en2 g2 s2 p2
theorem sds_cons {t u : TS} {o : Out} {r : List S} {f : List SV → Store → Out} (h : SdS K cl Wx t env μ o) (hu : ∀ env μ, SdS K cl Wx u env μ (f env μ)) (h0 : r = [] → ∀ e m, f e m = .nx e m) : SdS K cl Wx (rdB' t u r) env μ (o.then f) := by
  cases r with
  | cons a b =>
    show SdS K cl Wx (tSeq t u) env μ (o.then f)
    exact sds_seq (t := t) (u := u) h hu
  | nil =>
    have e : o.then f = o := by
      cases o with
      | nx e m => exact h0 rfl e m
      | _ => rfl
    rw [e]
    exact h
/-! ## all statements -/
variable (C : Calls) {sub : Under} (X : ExOk K cl sub) (L : Nat)
include X
mutual
theorem sndS : ∀ (s : S) (Wx : WX) (env : List SV) (μ : Store), SdS K cl Wx (rdS K cl C Wx s) env μ (runS C sub L s env μ)
  | .asgX t e, Wx, env, μ => sds_if fun hq => sds_asgX (hq ▸ (snd C e Wx env μ).1)
  | .asgD i e, Wx, env, μ => by
    unfold runS
    split
    · rename_i h
      exact sds_asgD (sndD C e Wx env μ h).1
    · exact sds_stuck
  | .dset i k e, Wx, env, μ => sds_dset (fun hq => hq ▸ (snd C e Wx env μ).1) fun μ1 => (snd C k Wx env μ1).1
  | .capp a e, Wx, env, μ => sds_capp (snd C a Wx env μ).1 fun hq μ1 => hq ▸ (snd C e Wx env μ1).1
  | .csetL a k e, Wx, env, μ => sds_csetL (fun hq => hq ▸ (snd C e Wx env μ).1) (fun μ1 => (snd C a Wx env μ1).1) fun μ1 => (snd C k Wx env μ1).1
  | .csetD a k e, Wx, env, μ => sds_csetD (fun hq => hq ▸ (snd C e Wx env μ).1) (fun μ1 => (snd C a Wx env μ1).1) fun μ1 => (snd C k Wx env μ1).1
  | .cdel a lo, Wx, env, μ => sds_cdel (snd C a Wx env μ).1 fun μ1 => (snd C lo Wx env μ1).1
  | .sattr a f e, Wx, env, μ => sds_sattr (fun hq => hq ▸ (snd C e Wx env μ).1) fun μ1 => (snd C a Wx env μ1).1
  | .saug a f e, Wx, env, μ => sds_saug (snd C a Wx env μ).1 fun μ1 => (snd C e Wx env μ1).1
  | .frzC i s, Wx, env, μ => sds_frzC (f := fun e m => runS C sub L s e m) fun e m => sndS s Wx e m
  | .augN i e, Wx, env, μ => sds_augN (snd C e Wx env μ).1
  | .asg i e, Wx, env, μ => sds_if fun hq => sds_asg (hq ▸ (snd C e Wx env μ).1)
  | .asgN i e, Wx, env, μ => by
    unfold runS
    split
    · rename_i h
      exact sds_asgN (sndN C e Wx env μ h)
    · exact sds_stuck
  | .asgT l e, Wx, env, μ => sds_if fun hq => sds_asgT (hq ▸ (snd C e Wx env μ).1)
  | .par i j a b, Wx, env, μ => sds_par (sndL C [a, b] Wx env μ)
  | .app i e, Wx, env, μ => sds_app fun hq => hq ▸ (snd C e Wx env μ).1
  | .setI i k e, Wx, env, μ => sds_setI (fun hq => hq ▸ (snd C e Wx env μ).1) fun μ1 => (snd C k Wx env μ1).1
  | .iff c a b, Wx, env, μ => sds_iff (snd C c Wx env μ).2 (fun μ1 => sndSB a Wx env μ1) fun μ1 => sndSB b Wx env μ1
  | .for_ it tg b, Wx, env, μ => sds_for (sndI C it Wx env μ) fun e m => sndSB b Wx e m
  | .whil c b, Wx, env, μ => sds_whil (fun e m => (snd C c Wx e m).2) fun e m => sndSB b Wx e m
  | .ret e, Wx, env, μ => sds_if fun hq => sds_ret (hq ▸ (snd C e Wx env μ).1)
  | .retN, Wx, env, μ => fun W0 H0 W H σ D m o en g w => w .non W H m o g .non
  | .exp e, Wx, env, μ => sds_exp (snd C e Wx env μ).1
  | .raise c e, Wx, env, μ => sds_raise (snd C e Wx env μ).1
  | .try_ b hs, Wx, env, μ => sds_try X (tb := fun Wx => rdB K cl C Wx b) (fun Wx => sndSB b Wx env μ) (sndSH hs)
  | .tryIs b c i, Wx, env, μ => sds_tryIs X (tb := fun Wx => rdB K cl C Wx b) (fun Wx => sndSB b Wx env μ)
  | .brk, Wx, env, μ => fun W0 H0 W H σ D m o en g w => w W H σ m o en g (fun _ _ h => h) (List.prefix_refl _)
  | .cnt, Wx, env, μ => fun W0 H0 W H σ D m o en g w => w W H σ m o en g (fun _ _ h => h) (List.prefix_refl _)
  | .pass, Wx, env, μ => fun W0 H0 W H σ D m o en g w => w W H σ m o en g (fun _ _ h => h) (List.prefix_refl _)
  | .frz i s, Wx, env, μ => sds_frz (sndS s Wx (frzE i env) μ)
theorem sndSB : ∀ (b : List S) (Wx : WX) (env : List SV) (μ : Store), SdS K cl Wx (rdB K cl C Wx b) env μ (runB C sub L b env μ)
  | [], Wx, env, μ => fun W0 H0 W H σ D m o en g w => w W H σ m o en g (fun _ _ h => h) (List.prefix_refl _)
  | s :: r, Wx, env, μ => sds_cons (sndS s Wx env μ) (fun e m => sndSB r Wx e m) (fun h e m => by subst h; rfl)
theorem sndSH : ∀ (hs : List (Nat × List S)), SdHs K cl (rdH K cl C hs) fun e m => runH C sub L hs e m
  | [] => .nil
  | (c, b) :: r => .cons (fun e m => sndSB b noW e m) (sndSH r)
end
end
end PVL
end

section
set_option Elab.async false
set_option linter.all false
set_option maxRecDepth 100000
set_option maxHeartbeats 4000000
namespace PVL
open PySem PySem.Spec PyProof.Rows L2

/-! # Defs, each frame one level -/
structure RoomD (n : Nat) (A : Around) : Prop where
  hd : A.handled = none
  dp : A.depth + n + 5 < recursionLimit
  un : A.units + 5 * n + 200 < cLine
theorem RoomD.deeper {n : Nat} {A : Around} (r : RoomD (n + 1) A) (env : Env) : RoomD n (A.deeper env) :=
  ⟨r.hd, by
    have h := r.dp
    show A.depth + 1 + n + 5 < _
    omega, by
    have h := r.un
    show A.units + 3 + 5 * n + 200 < _
    omega⟩
theorem RoomD.cmp {n : Nat} {A : Around} (r : RoomD n A) : A.units + 65 < cLine := by
  have h := r.un
  omega
theorem RoomD.mono {m n : Nat} {A : Around} (r : RoomD n A) (h : m ≤ n) : RoomD m A := ⟨r.hd, by have := r.dp; omega, by have := r.un; omega⟩
/-- a def keeps its promise where there is the room ρ -/
structure FnG (P : Program) (w : World) (K : PySem.W.Frag) (mg : Str → Option Value) (base : Heap) (CX : CXT) (ρ : Around → Prop) (f : Addr) (fd : FuncData) (ps : List Str) (sp : Sp) : Prop where
  len : ∀ vs H Q E, sp vs H Q E → vs.length = ps.length
  run : ∀ (A : Around) (outer : List Env) (s : Shared) (H : Hp) (args : Args) (us : List Value) (vs : List V) (Q : VK) (E : XK),
    ρ A → Env0 P w K mg base A outer s H → BindsTo s fd args (ps.zip us) → Vals vs us → sp vs H Q E →
      codeAny (model P w) A (.call (.ref f) args) (CR CX outer P w H s Q E) s
abbrev FnR (P : Program) (w : World) (K : PySem.W.Frag) (mg : Str → Option Value) (base : Heap) (CX : CXT) (n : Nat) (f : Addr) (fd : FuncData) (ps : List Str) (sp : Sp) : Prop := FnG P w K mg base CX (RoomD n) f fd ps sp
/-- room for a def that calls none, made under a class's call -/
structure RoomI (A : Around) : Prop where
  hd : A.handled = none
  dp : A.depth + 3 < recursionLimit
  un : A.units + 120 < cLine
theorem RoomI.cmp {A : Around} (r : RoomI A) (env : Env) : (A.deeper env).units + 65 < cLine := by
  have h := r.un
  show A.units + 3 + 65 < _
  omega
theorem RoomD.make {n : Nat} {A : Around} (r : RoomD n A) (C : Addr) (us : List Value) : RoomI (A.under (.builtin "type.__call__" ⟨.ref C :: us, []⟩)) :=
  ⟨r.hd, by have := r.dp; rw [make_depth]; omega, by have := r.un; rw [make_units]; omega⟩
theorem FnG.ok {P : Program} {w : World} {K : PySem.W.Frag} {mg : Str → Option Value} {base : Heap} {CX : CXT} {n k : Nat} {f : Addr} {fd : FuncData} {ps : List Str} {sp : Sp} (F : FnR P w K mg base CX n f fd ps sp) (h : n ≤ 3 * k) :
    FnOk P w K mg base CX k f fd ps sp :=
  ⟨F.len, fun A outer s H args us vs Q E hr => F.run A outer s H args us vs Q E ⟨hr.hd, by have := hr.dp; omega, by have := hr.un; omega⟩⟩
section
variable {P : Program} {w : World} {K : PySem.W.Frag} {mg : Str → Option Value} {base : Heap} {CX : CXT}
/-- a def by its body -/
theorem fnG_of {ρ : Around → Prop} (hρ : ∀ A, ρ A → A.handled = none ∧ A.depth < recursionLimit) {f : Addr} {name qual : Str} {params : Arguments} {body : List Stmt} {scope : Scope} {dV kV doc pm cdv ct oc : Value} {an od : Option Addr}
    {osl : Array (Option Value)} {N ps : List Str} {sp : Sp} (lk : K.lookup f = some ⟨oc, od, .func (PySem.W.fnOf name qual params body scope dV kV doc pm an cdv ct), osl⟩)
    (hcd : PySem.W.codeIn K cdv qual = true) (S : FnScope N ps scope) (len : ∀ vs H Q E, sp vs H Q E → vs.length = ps.length)
    (hb : ∀ (A : Around) (outer : List Env) (s : Shared) (H : Hp) (vs : List V) (Q : VK) (E : XK), ρ A → sp vs H Q E →
      ∃ t, PSs (cxOf CX P w K mg base N qual scope f cdv A outer s H E) body t ∧ t { nx := fun _ H' => Q .non H', rt := Q } (L2.start N vs) H) :
    FnG P w K mg base CX ρ f (PySem.W.fnOf name qual params body scope dV kV doc pm an cdv ct) ps sp := by
  refine ⟨len, fun A outer s H args us vs Q E hr e0 hbind r hsp => ?_⟩
  have KX : K.In s.heap := e0.mod.kin.keeps fun b o e => (e0.bs b o e).1
  have nolim : s.heap.NoLimit := e0.mod.nolimit.keeps fun b o e => (e0.bs b o e).1
  have hkind : ∀ y ∈ ps.zip us, scope.names.lookup y.1 = some .local ∨ (scope.names.lookup y.1 = some .cell ∧ ((cellsFrom (s.heap.objs.size + 1) scope.names []).lookup y.1).isSome = true) := by
    rintro ⟨m, v⟩ hy
    rcases S.par m (List.of_mem_zip hy).1 with q | q
    · exact .inl q
    · exact .inr ⟨q, PySem.W.cellsFrom_some _ _ _ (.inl q)⟩
  have hroom : A.depth < recursionLimit := (hρ A hr).2
  refine codeAny_call_function hroom (KX _ _ lk) rfl S.co S.gen rfl (PySem.W.codeRec_of KX hcd) (hbind _ _ _ _ ?_)
  refine wpAny_newFunctionEnv_cells S.kind hkind fun env he s1 x => ?_
  subst he
  refine ⟨nolim.keeps x.toInCall.keep, codeAny_func ?_⟩
  obtain ⟨t, ht, hq⟩ := hb A outer s H vs Q E hr hsp
  have I : Inv (cxOf CX P w K mg base N qual scope f cdv A outer s H E) [] (L2.start N vs) H s1 := inv_start S (hρ A hr).1 e0 (len _ _ _ _ hsp) r x
  refine wpAny_mono (ht.run [] s1 (L2.start N vs) H _ I hq) ?_ fun e s' hs => hs
  intro fl s' hs
  cases fl with
  | ret u =>
    obtain ⟨v, σ', H', J, rv, q⟩ := hs
    exact ⟨v, H', J.os, J.bare, J.base, J.hok, rv, q⟩
  | next =>
    obtain ⟨σ', H', J, q⟩ := hs
    exact ⟨V.non, H', J.os, J.bare, J.base, J.hok, rfl, q⟩
  | brk =>
    obtain ⟨_, _, _, q⟩ := hs
    exact q.elim
  | cont =>
    obtain ⟨_, _, _, q⟩ := hs
    exact q.elim
end
section
variable {X : Cx} {CX : CXT} {n : Nat} {f : Addr} {fd : FuncData} {ps : List Str} {sp : Sp} {E : L2.St → XK} {x : Str} {p pos : Pos} {e : Expr} {es : List Expr} {t : TA}
/-- the callee runs -/
theorem run_R {ρ : Around → Prop} {pins : List (Addr × Obj)} {σ : L2.St} {H : Hp} {s : Shared} {Q : VK} {us : List Value} {vs : List V} (F : FnG X.prog X.w X.K X.mg X.base CX ρ f fd ps sp) (hr : ρ X.A) (hb : Binds X.K fd ps [])
    (hx : PassesAt CX X σ (E σ)) (I : Inv X pins σ H s) (r : Vals vs us) (h : sp vs H Q (E σ)) : wpAny (model X.prog X.w) X.A (call (.ref f) us) (EP X pins σ Q) X.xe s := by
  have hl : us.length = ps.length := r.length.symm.trans (F.len _ _ _ _ h)
  have b := hb s us I.kIn (by simpa using hl)
  rw [List.append_nil] at b
  refine wpAny_call (codeAny_mono (F.run X.A X.stack s H ⟨us, []⟩ us vs Q (E σ) hr I.env0 b r h) ?_)
  intro r s' hq
  cases r with
  | error e => exact hx pins H s e s' I hq
  | ok fl =>
    cases fl with
    | ret u => exact I.after hq
    | next => exact hq.elim
    | brk => exact hq.elim
    | cont => exact hq.elim
theorem pe_R (F : FnR X.prog X.w X.K X.mg X.base CX n f fd ps sp) (hr : RoomD n X.A) (hg : Gl X x) (hm : X.mg x = some (.ref f)) (hk : PySem.W.keepIn X.K (.ref f) = true) (hb : Binds X.K fd ps []) (hx : ∀ σ, PassesAt CX X σ (E σ))
    (ha : PA X (e :: es) t) (hdb : (x == ("__debug__" : Str)) = false := by decide) (he : starEach (e :: es) X.env = (false, eval e X.env) :: starEach es X.env := by rfl) (hpl : (backTo pos (starEach es X.env)).any (·.1) = false := by rfl) :
    PE X (.Call (.Name x p) (e :: es) [] pos) (tCallS sp E t) :=
  ⟨fun pins s σ H Q I h => wpAny_Call_Name_kw (ld_glob I hg hm (PySem.W.callWith_K (h₀ := X.base) I.ok.mod.kin hk (thn (ha.run pos pins s σ H _ I h) fun us s1 ⟨vs, H1, I1, r, q⟩ => ⟨I1.kIn, run_R F hr hb (hx σ) I1 r q⟩) he hpl) hdb)⟩
theorem pe_R0 (F : FnR X.prog X.w X.K X.mg X.base CX n f fd ps sp) (hr : RoomD n X.A) (hg : Gl X x) (hm : X.mg x = some (.ref f)) (hk : PySem.W.keepIn X.K (.ref f) = true) (hb : Binds X.K fd ps []) (hx : ∀ σ, PassesAt CX X σ (E σ))
    (hdb : (x == ("__debug__" : Str)) = false := by decide) : PE X (.Call (.Name x p) [] [] pos) (tCallS sp E tNil) :=
  ⟨fun pins s σ H Q I h => wpAny_Call_Name_kw (ld_glob I hg hm (PySem.W.callWith_K0 I.kIn hk (run_R (us := []) F hr hb (hx σ) I .nil h)) hdb)⟩
/-- o.m(e, ..) -/
theorem pe_methR {pl : Sem Bool} {o : Expr} {m : Str} {apos : Pos} {C : Addr} {ta : TE} (he : PE X o ta) (c : Cls X.K C) (hm : Meth X.K C m f) (F : FnR X.prog X.w X.K X.mg X.base CX n f fd ps sp) (hr : RoomD n X.A) (hb : Binds X.K fd ps []) (hx : ∀ σ, PassesAt CX X σ (E σ)) (ha : PA X (e :: es) t)
    (he2 : starEach (e :: es) X.env = (false, eval e X.env) :: starEach es X.env := by rfl) (hp2 : (backTo pos (starEach es X.env)).any (·.1) = false := by rfl)
    (ht : eval (.Call (.Attribute o m apos) (e :: es) [] pos) X.env = (eval o X.env >>= fun ov => standAt apos.atName >>= fun _ => holding [ov] (getMethod ov m pl) >>= fun q =>
      callWith pos q.1 q.2 (backTo pos (starEach (e :: es) X.env)) (backToKw pos (keywordEach [] X.env))) := by rfl) :
    PE X (.Call (.Attribute o m apos) (e :: es) [] pos) (tMethS C m sp E ta t) :=
  ⟨fun pins s σ H Q I h => PySem.W.methodCall_KW (pl := pl) (thn (he.run pins s σ H _ I h) fun u s1 ⟨x, H1, I1, rx, a, dx, fs, ex, ea, l, q⟩ => by
    subst ex
    cases (show u = Value.ref a from rx)
    exact getmeth_ok I1 ea c hm l (PySem.W.callWith_K (first := [.ref a]) (h₀ := X.base) I1.ok.mod.kin hm.kp (thn (ha.run pos pins s1 σ H1 _ I1 q) fun us s2 ⟨vs, H2, I2, r, q2⟩ =>
      ⟨I2.kIn, run_R (us := .ref a :: us) (vs := .ref a :: vs) F hr hb (hx σ) I2 (.cons rfl r) q2⟩) he2 hp2)) ht⟩
/-- o.m() -/
theorem pe_methR0 {pl : Sem Bool} {o : Expr} {m : Str} {apos : Pos} {C : Addr} {ta : TE} (he : PE X o ta) (c : Cls X.K C) (hm : Meth X.K C m f) (F : FnR X.prog X.w X.K X.mg X.base CX n f fd ps sp) (hr : RoomD n X.A) (hb : Binds X.K fd ps []) (hx : ∀ σ, PassesAt CX X σ (E σ))
    (ht : eval (.Call (.Attribute o m apos) [] [] pos) X.env = (eval o X.env >>= fun ov => standAt apos.atName >>= fun _ => holding [ov] (getMethod ov m pl) >>= fun q =>
      callWith pos q.1 q.2 (backTo pos (starEach [] X.env)) (backToKw pos (keywordEach [] X.env))) := by rfl) :
    PE X (.Call (.Attribute o m apos) [] [] pos) (tMethS C m sp E ta tNil) :=
  ⟨fun pins s σ H Q I h => PySem.W.methodCall_KW (pl := pl) (thn (he.run pins s σ H _ I h) fun u s1 ⟨x, H1, I1, rx, a, dx, fs, ex, ea, l, q⟩ => by
    subst ex
    cases (show u = Value.ref a from rx)
    exact getmeth_ok I1 ea c hm l (PySem.W.callWith_K0 (first := [.ref a]) I1.kIn hm.kp (run_R (us := [.ref a]) (vs := [.ref a]) F hr hb (hx σ) I1 (.cons rfl .nil) q))) ht⟩
/-- C(e, ..) by an __init__ that calls none -/
theorem pe_makeI {c : Nat} (io : InsOk X.K c) (M : Mk X.K (clK X.K c) f) (F : FnG X.prog X.w X.K X.mg X.base CX RoomI f fd ps sp) (hr : RoomD n X.A) (hg : Gl X x) (hm : X.mg x = some (.ref (clK X.K c))) (hb : Binds X.K fd ps [])
    (hx : ∀ (H : Hp) (s : Shared) (e : Value) (s' : Shared) (pins : List (Addr × Obj)) (σ : L2.St), Inv X pins σ H s → CX X.stack H s (E σ) e s' → X.xe e s') (ha : PA X (e :: es) t)
    (hdb : (x == ("__debug__" : Str)) = false := by decide) (he : starEach (e :: es) X.env = (false, eval e X.env) :: starEach es X.env := by rfl) (hpl : (backTo pos (starEach es X.env)).any (·.1) = false := by rfl) :
    PE X (.Call (.Name x p) (e :: es) [] pos) (tMakeI X.K c sp E t) := by
  refine ⟨fun pins s σ H Q I h => wpAny_Call_Name_kw (ld_glob I hg hm ?_ hdb)⟩
  refine PySem.W.callWith_K (h₀ := X.base) I.ok.mod.kin M.kp (thn (ha.run pos pins s σ H _ I (h io)) fun us s1 ⟨vs, H1, I1, r, q⟩ => ⟨I1.kIn, ?_⟩) he hpl
  have nd := s1.heap.objs.size
  have qq := q (s1.heap.objs.size + 1) s1.heap.objs.size (I1.hok.fresh (Nat.le_succ _)) (I1.hok.fresh (Nat.le_refl _)) (Nat.ne_of_lt (Nat.lt_succ_self _))
  have I2 := Inv.made (C := clK X.K c) I1
  have r2 : Vals (V.ref (s1.heap.objs.size + 1) :: vs) (Value.ref (s1.heap.objs.size + 1) :: us) := .cons rfl r
  have hl : (Value.ref (s1.heap.objs.size + 1) :: us).length = ps.length := r2.length.symm.trans (F.len _ _ _ _ qq)
  have b := hb _ (Value.ref (s1.heap.objs.size + 1) :: us) I2.kIn (by simpa using hl)
  rw [List.append_nil] at b
  refine wpAny_call (make_map (f := f) I1.kIn M.makes M.init (beq_iff_eq.mp M.fn) (codeAny_mono (F.run _ X.stack _ _ ⟨Value.ref (s1.heap.objs.size + 1) :: us, []⟩ (Value.ref (s1.heap.objs.size + 1) :: us) _ _ (E σ) (hr.make _ us) (I2.env0.make _ us []) b r2 qq) ?_))
  intro r' s' hq
  cases r' with
  | error e => exact hx _ _ _ _ pins σ I2 hq
  | ok fl =>
    cases fl with
    | ret u =>
      obtain ⟨v, H', I3, rv, ev, q3⟩ := I2.after hq
      cases ev
      exact ⟨rv, V.ref _, H', I3, rfl, q3⟩
    | next => exact hq.elim
    | brk => exact hq.elim
    | cont => exact hq.elim
theorem PE.or {e : Expr} {t u : TE} (h : PE X e t) (k : PE X e u) : PE X e (fun σ H Q => t σ H Q ∨ u σ H Q) :=
  ⟨fun pins s σ H Q I q => q.elim (fun q => h.run pins s σ H Q I q) fun q => k.run pins s σ H Q I q⟩
theorem PE.no {e : Expr} : PE X e (fun _ _ _ => False) := ⟨fun pins s σ H Q I q => q.elim⟩
theorem noPass {σ : L2.St} : PassesAt (L2.CX X.prog X.w) X σ (WE noW σ) := fun _ _ _ _ _ _ c => by
  obtain ⟨_, _, _, _, _, _, _, _, _, _, _, _, z⟩ := c
  exact z.elim
end

theorem pss_as {X : Cx} {b : List Stmt} {t t' : TS} (h : PSs X b t) (e : t = t') : PSs X b t' := e ▸ h
/-- whether 'except S' takes an error of the class at C -/
theorem exm_of2 {K : PySem.W.Frag} {C S : Addr} {b : Bool} (h1 : PySem.W.subIn K (.ref S) (.type "BaseException") = some true) (h2 : PySem.W.isClsIn K S = true) (h3 : PySem.W.typeIn K (.ref S) = some (.type "type"))
    (h4 : PySem.W.subIn K (.ref C) (.ref S) = some b) : PySem.W.exmOne K (.ref C) (.ref S) = some b := by
  have h2' : (PySem.W.clsIn K S).isSome = true := h2
  unfold PySem.W.exmOne
  rw [h1]
  show PySem.W.kitCls K (.ref C) (.ref S) = some b
  show (if ((PySem.W.clsIn K S).isSome && PySem.W.typeIn K (.ref S) == some (.type "type")) = true then PySem.W.subIn K (.ref C) (.ref S) else none) = some b
  rw [h2', h3]
  exact h4
/-! ## a text of defs -/
structure Df where
  ar : Nat
  sl : Nat
  body : List S
def toRs : Out → Rs PyData
  | .nx _ μ => .ok .none μ
  | .rt d μ => .ok d μ
  | .ex c _ μ => .ex c μ
  | _ => .stuck
@[simp] theorem toRs_nx {e : List SV} {m : Store} : toRs (.nx e m) = .ok .none m := rfl
@[simp] theorem toRs_rt {d : PyData} {m : Store} : toRs (.rt d m) = .ok d m := rfl
@[simp] theorem toRs_ex {c : Nat} {e : List SV} {m : Store} : toRs (.ex c e m) = .ex c m := rfl
@[simp] theorem toRs_stuck : toRs .stuck = .stuck := rfl
def enter (d : Df) (ds : List PyData) : List SV := ds.map SV.pv ++ List.replicate (d.sl - ds.length) .un
def runF (T : Nat → Option Df) (sub : Under) (L : Nat) : Nat → Calls
  | 0 => fun _ _ _ => .stuck
  | n + 1 => fun f ds μ => match T f with
    | none => .stuck
    | some d => if ds.length = d.ar then toRs (runB (runF T sub L n) sub L d.body (enter d ds) μ) else .stuck
theorem slots_enter {K : PySem.W.Frag} {W : Wd} {H : Hp} {d : Df} {N : List Str} {vs : List V} {ds : List PyData} (r : RepL K W.F W.ι vs ds) (hN : N.length = d.sl) (hl : ds.length ≤ d.sl) : EnvOk K H W H (enter d ds) (L2.start N vs) := by
  have hvl := r.length
  refine ⟨?_, fun i s e => ?_, fun i j l l' hij e1 e2 o1 o2 => ?_⟩
  · unfold enter L2.start
    simp [hvl, hN]
  · unfold enter at e
    unfold L2.start
    by_cases hi : i < ds.length
    · rw [List.getElem?_append_left (by simpa using hi), List.getElem?_map] at e
      cases ed : ds[i]? with
      | none => rw [ed] at e; cases e
      | some x =>
        rw [ed] at e
        cases e
        obtain ⟨v, hv, rv⟩ := r.get ed
        refine ⟨v, ?_, rv⟩
        rw [List.getElem?_append_left (by simp [hvl, hi]), List.getElem?_map, hv]
        rfl
    · rw [List.getElem?_append_right (by simpa using hi), List.getElem?_replicate] at e
      split at e
      · cases e; exact trivial
      · cases e
  · have no : ∀ (i : Nat) (s : SV), (enter d ds)[i]? = some s → s.own = true → False := fun i s e ow => by
      unfold enter at e
      by_cases hi : i < ds.length
      · rw [List.getElem?_append_left (by simpa using hi), List.getElem?_map] at e
        cases ed : ds[i]? with
        | none => rw [ed] at e; cases e
        | some x => rw [ed] at e; cases e; cases ow
      · rw [List.getElem?_append_right (by simpa using hi), List.getElem?_replicate] at e
        split at e
        · cases e; cases ow
        · cases e
    exact (no i l e1 o1).elim
/-- a def of the text keeps to the small language -/
theorem fnG_step {P : Program} {w : World} {K : PySem.W.Frag} {mg : Str → Option Value} {base : Heap} {CX : CXT} {cl : Nat → Addr} {T : Nat → Option Df} {sub : Under} {L n fi : Nat} {d : Df} {x qual : Str} {st : Stmt} {f : Addr} {fd : FuncData} {N ps : List Str}
    {ρ : Around → Prop} (hρ : ∀ A, ρ A → A.handled = none ∧ A.depth < recursionLimit) (X : ExOk K cl sub) (F : Fun K x qual st f fd) (S : FnScope N ps (defScope st)) (hT : T fi = some d) (hN : N.length = d.sl) (hp : ps.length = d.ar) (hle : d.ar ≤ d.sl)
    (hb : ∀ (cdv : Value) (A : Around) (outer : List Env) (s : Shared) (H : Hp) (E : XK), ρ A →
      PSs (cxOf CX P w K mg base N qual (defScope st) f cdv A outer s H E) (defBody st) (rdB K cl (runF T sub L n) (fun cls d _ H => E cls d H) d.body)) :
    FnG P w K mg base CX ρ f fd ps (spOf K cl (runF T sub L (n + 1)) fi) := by
  obtain ⟨oc, od, kV, doc, pm, an, cdv, ct, osl, rfl, lk, hcd⟩ := F.ex
  have hlen : ∀ vs H Q E, spOf K cl (runF T sub L (n + 1)) fi vs H Q E → vs.length = ps.length := by
    rintro vs H Q E ⟨W, ds, o, r, h⟩
    rw [r.length, hp]
    unfold runF at h
    rw [hT] at h
    simp only at h
    by_cases e : ds.length = d.ar
    · exact e
    · rw [if_neg e] at h
      exact h.elim
  refine fnG_of hρ lk hcd S hlen fun A outer s H vs Q E hr hsp => ⟨_, hb cdv A outer s H E hr, ?_⟩
  obtain ⟨W, ds, o, r, h⟩ := hsp
  unfold runF at h
  rw [hT] at h
  simp only at h
  by_cases e : ds.length = d.ar
  · rw [if_pos e] at h
    refine sndSB (runF T sub L n) X L d.body _ (enter d ds) W.μ W H W H (L2.start N vs) _ rfl o (slots_enter r hN (by omega)) (Go.refl _ _) ?_
    cases eo : runB (runF T sub L n) sub L d.body (enter d ds) W.μ with
    | nx e m => rw [eo] at h; exact fun W' H' σ' m o' _ g _ _ => h .non W' H' m o' g .non
    | rt e m => rw [eo] at h; exact fun v W' H' m o' g r => h v W' H' m o' g r
    | ex c e m => rw [eo] at h; exact fun W' H' σ' m o' _ g _ _ => h W' H' m o' g
    | bk e m => rw [eo] at h; exact h.elim
    | ct e m => rw [eo] at h; exact h.elim
    | stuck => rw [eo] at h; exact h.elim
  · rw [if_neg e] at h
    exact h.elim
theorem fnR_step {P : Program} {w : World} {K : PySem.W.Frag} {mg : Str → Option Value} {base : Heap} {CX : CXT} {cl : Nat → Addr} {T : Nat → Option Df} {sub : Under} {L n fi : Nat} {d : Df} {x qual : Str} {st : Stmt} {f : Addr} {fd : FuncData} {N ps : List Str}
    (X : ExOk K cl sub) (F : Fun K x qual st f fd) (S : FnScope N ps (defScope st)) (hT : T fi = some d) (hN : N.length = d.sl) (hp : ps.length = d.ar) (hle : d.ar ≤ d.sl)
    (hb : ∀ (cdv : Value) (A : Around) (outer : List Env) (s : Shared) (H : Hp) (E : XK), RoomD n (A.deeper (envOfC qual (defScope st) s.heap.objs.size f cdv)) →
      PSs (cxOf CX P w K mg base N qual (defScope st) f cdv A outer s H E) (defBody st) (rdB K cl (runF T sub L n) (fun cls d _ H => E cls d H) d.body)) :
    FnR P w K mg base CX (n + 1) f fd ps (spOf K cl (runF T sub L (n + 1)) fi) :=
  fnG_step (fun A r => ⟨r.hd, by have := r.dp; omega⟩) X F S hT hN hp hle fun cdv A outer s H E r => hb cdv A outer s H E (r.deeper _)
/-- an __init__ that calls none -/
theorem fnI_step {P : Program} {w : World} {K : PySem.W.Frag} {mg : Str → Option Value} {base : Heap} {CX : CXT} {cl : Nat → Addr} {T : Nat → Option Df} {sub : Under} {L n fi : Nat} {d : Df} {x qual : Str} {st : Stmt} {f : Addr} {fd : FuncData} {N ps : List Str}
    (X : ExOk K cl sub) (F : Fun K x qual st f fd) (S : FnScope N ps (defScope st)) (hT : T fi = some d) (hN : N.length = d.sl) (hp : ps.length = d.ar) (hle : d.ar ≤ d.sl)
    (hb : ∀ (cdv : Value) (A : Around) (outer : List Env) (s : Shared) (H : Hp) (E : XK), (A.deeper (envOfC qual (defScope st) s.heap.objs.size f cdv)).units + 65 < cLine → A.handled = none →
      PSs (cxOf CX P w K mg base N qual (defScope st) f cdv A outer s H E) (defBody st) (rdB K cl (runF T sub L n) (fun cls d _ H => E cls d H) d.body)) :
    FnG P w K mg base CX RoomI f fd ps (spOf K cl (runF T sub L (n + 1)) fi) :=
  fnG_step (fun A r => ⟨r.hd, by have := r.dp; omega⟩) X F S hT hN hp hle fun cdv A outer s H E r => hb cdv A outer s H E (r.cmp _) r.hd
/-- nothing is promised without a frame -/
theorem fnR_zero {ρ : Around → Prop} {P : Program} {w : World} {K : PySem.W.Frag} {mg : Str → Option Value} {base : Heap} {CX : CXT} {cl : Nat → Addr} {T : Nat → Option Df} {sub : Under} {L fi : Nat} {f : Addr} {fd : FuncData} {ps : List Str} :
    FnG P w K mg base CX ρ f fd ps (spOf K cl (runF T sub L 0) fi) :=
  ⟨fun _ _ _ _ ⟨_, _, _, _, z⟩ => z.elim, fun _ _ _ _ _ _ _ _ _ _ _ _ _ ⟨_, _, _, _, z⟩ => z.elim⟩
theorem repInts {K : PySem.W.Frag} {F : Hp} {ι : List Addr} : ∀ ns : List Int, RepL K F ι (ns.map V.int) (ns.map PyData.int)
  | [] => .nil
  | i :: r => .cons (.int i) (repInts r)
/-- the law's end -/
theorem law_sp {K : PySem.W.Frag} {cl : Nat → Addr} {C : Calls} {fi : Nat} {H : Hp} {a : Addr} {ns : List Int} (hs : SqL K H a (ns.map V.int)) (h : ∃ μ, C fi [.list (ns.map PyData.int)] [] = .ok (.bool true) μ) :
    spOf K cl C fi [.ref a] H (fun v _ => v = .bl true) fun _ _ _ => False := by
  obtain ⟨μ, h⟩ := h
  refine ⟨⟨H, [], []⟩, [.list (ns.map PyData.int)], ⟨fun _ _ h => h, List.nodup_nil, rfl, fun n c a e _ => by simp at e, fun n c a e _ _ => by simp at e⟩, .cons (.lst hs (repInts ns)) .nil, ?_⟩
  rw [h]
  intro v W' H' _ _ _ r
  cases r
  rfl
/-- the loops' bound is chosen at the end -/
theorem FnG.some {P : Program} {w : World} {K : PySem.W.Frag} {mg : Str → Option Value} {base : Heap} {CX : CXT} {ρ : Around → Prop} {f : Addr} {fd : FuncData} {ps : List Str} {sp : Nat → Sp} (h : ∀ L, FnG P w K mg base CX ρ f fd ps (sp L)) :
    FnG P w K mg base CX ρ f fd ps (fun vs H Q E => ∃ L, sp L vs H Q E) :=
  ⟨fun vs H Q E ⟨L, q⟩ => (h L).len vs H Q E q, fun A outer s H args us vs Q E r e b v ⟨L, q⟩ => (h L).run A outer s H args us vs Q E r e b v q⟩
end PVL
end

section
set_option Elab.async false
set_option linter.all false
set_option maxRecDepth 100000
set_option maxHeartbeats 2000000
/-! # Lemmas about values alone -/
namespace PVL
open PySem PySem.Spec PyProof.Rows L2
theorem atI_getD {xs : List PyData} {i : Int} (h0 : 0 ≤ i) (h : i < xs.length) (d : PyData) : atI xs i = some (xs.getD i.toNat d) := by
  unfold atI ixN
  rw [if_pos h0, if_pos h]
  show xs[i.toNat]? = _
  rw [List.getD_eq_getElem?_getD]
  have : i.toNat < xs.length := by omega
  simp [this]
theorem atI_getDn {xs : List Nat} {i : Int} (h0 : 0 ≤ i) (h : i < xs.length) (d : Nat) : atI xs i = some (xs.getD i.toNat d) := by
  unfold atI ixN
  rw [if_pos h0, if_pos h]
  show xs[i.toNat]? = _
  rw [List.getD_eq_getElem?_getD]
  have : i.toNat < xs.length := by omega
  simp [this]
/-- a comprehension whose element is a plain function of the item -/
theorem cLoop_map {tg : Tg} {f : List SV → Store → Rs (Option PyData)} {env : List SV} {μ : Store} {g : PyData → PyData} : ∀ {ds : List PyData}, (∀ d ∈ ds, ∃ e, tg.put d env = some e ∧ f e μ = .ok (some (g d)) μ) → cLoop tg f env ds μ = .ok (ds.map g) μ
  | [], _ => rfl
  | d :: ds, h => by
    obtain ⟨e, h1, h2⟩ := h d List.mem_cons_self
    unfold cLoop
    rw [h1]
    simp only
    rw [h2]
    simp only
    rw [cLoop_map (g := g) fun d' hd => h d' (List.mem_cons_of_mem _ hd)]
    rfl
theorem rngD_mem {lo : Int} {n : Nat} {d : PyData} (h : d ∈ rngD lo n) : ∃ k : Nat, k < n ∧ d = .int (lo + k) := by
  unfold rngD at h
  obtain ⟨k, hk, rfl⟩ := List.mem_map.mp h
  exact ⟨k, List.mem_range.mp hk, rfl⟩
/-! texts -/
theorem strs_map : ∀ l : List Str, strs' (l.map PyData.str) = some l
  | [] => rfl
  | x :: r => by
    show (strs' (r.map PyData.str)).map (x :: ·) = _
    rw [strs_map r]
    rfl
theorem ints_map : ∀ l : List Int, intsD (l.map PyData.int) = some l
  | [] => rfl
  | x :: r => by
    show (intsD (r.map PyData.int)).map (x :: ·) = _
    rw [ints_map r]
    rfl
theorem app_cps (x y : Str) : (x ++ y).cps.toList = x.cps.toList ++ y.cps.toList := by
  show (x.cps ++ y.cps).toList = _
  simp
theorem join_cps0 : ∀ l : List Str, (Str.join Str.empty l).cps.toList = (l.map (·.cps.toList)).flatten
  | [] => rfl
  | [x] => by
    show x.cps.toList = _
    simp
  | x :: y :: r => by
    have ih := join_cps0 (y :: r)
    show (x ++ Str.empty ++ Str.join Str.empty (y :: r)).cps.toList = _
    rw [app_cps, app_cps, ih]
    have : Str.empty.cps.toList = [] := rfl
    rw [this]
    simp
theorem join_cps (l : List Str) : (Txt.join Str.empty l).cps.toList = (l.map (·.cps.toList)).flatten := by
  rw [← join_cps0]
  exact congrArg (fun x : Str => x.cps.toList) (StrLaws.glued_eq_join _ _)
theorem strOk_of {x : Str} (h : ∀ c ∈ x.cps.toList, c < 1114112) : PyData.strOk x = true := by
  unfold PyData.strOk
  rw [Array.all_eq_true']
  intro c hc
  exact decide_eq_true (h c (by simpa using hc))
/-! ## the small language by rewriting -/
def varR (o : Option SV) (μ : Store) : Rs PyData := match o with
  | some (.pv d) => .ok d μ
  | _ => .stuck
@[simp] theorem varR_pv {d : PyData} {μ : Store} : varR (some (.pv d)) μ = .ok d μ := rfl
def bvR (o : Option SV) (μ : Store) : Rs PyData := match o with
  | some (.ow l) => .ok (.list l) μ
  | some (.od l) => .ok (dD l) μ
  | some (.pv d) => .ok d μ
  | _ => .stuck
@[simp] theorem bvR_pv {d : PyData} {μ : Store} : bvR (some (.pv d)) μ = .ok d μ := rfl
@[simp] theorem bvR_od {l : List (PyData × PyData)} {μ : Store} : bvR (some (.od l)) μ = .ok (dD l) μ := rfl
@[simp] theorem bvR_ow {l : List PyData} {μ : Store} : bvR (some (.ow l)) μ = .ok (.list l) μ := rfl
section
variable {C : Calls} {env : List SV} {μ : Store} {sub : Under} {L : Nat}
@[simp] theorem ev_var {i : Nat} : ev C (.var i) env μ = varR env[i]? μ := by
  unfold ev varR
  rfl
@[simp] theorem ev_bv {i : Nat} : ev C (.bv i) env μ = bvR env[i]? μ := by
  unfold ev bvR
  rfl
@[simp] theorem ev_int {i : Int} : ev C (.cst (.int i)) env μ = .ok (.int i) μ := rfl
@[simp] theorem ev_str {i : Str} : ev C (.cst (.str i)) env μ = .ok (.str i) μ := rfl
@[simp] theorem ev_bool {i : Bool} : ev C (.cst (.bool i)) env μ = .ok (.bool i) μ := rfl
@[simp] theorem ev_none : ev C (.cst .none) env μ = .ok .none μ := rfl
@[simp] theorem ev_bin {o : BOp} {a b : E} : ev C (.bin o a b) env μ = (ev C a env μ).bind fun x μ1 => (ev C b env μ1).bind fun y μ2 => opt (binP o x y) μ2 := rfl
def negR (x : PyData) (μ : Store) : Rs PyData := match x with
  | .int i => .ok (.int (-i)) μ
  | _ => .stuck
@[simp] theorem negR_int {i : Int} : negR (.int i) μ = .ok (.int (-i)) μ := rfl
@[simp] theorem ev_neg {a : E} : ev C (.neg a) env μ = (ev C a env μ).bind negR := rfl
@[simp] theorem ev_cmp {o : COp} {a b : E} : ev C (.cmp o a b) env μ = (ev C a env μ).bind fun x μ1 => (ev C b env μ1).bind fun y μ2 => opt (cmpP o x y) μ2 := rfl
def isnR (ng : Bool) (x : PyData) (μ : Store) : Rs PyData := match x with
  | .none => .ok (.bool (!ng)) μ
  | _ => .ok (.bool ng) μ
@[simp] theorem ev_isn {ng : Bool} {a : E} : ev C (.isn ng a) env μ = (ev C a env μ).bind (isnR ng) := rfl
@[simp] theorem isnR_none {ng : Bool} : isnR ng .none μ = .ok (.bool (!ng)) μ := rfl
@[simp] theorem isnR_int {ng : Bool} {i : Int} : isnR ng (.int i) μ = .ok (.bool ng) μ := rfl
@[simp] theorem isnR_list {ng : Bool} {i : List PyData} : isnR ng (.list i) μ = .ok (.bool ng) μ := rfl
@[simp] theorem isnR_tuple {ng : Bool} {i : List PyData} : isnR ng (.tuple i) μ = .ok (.bool ng) μ := rfl
@[simp] theorem isnR_str {ng : Bool} {i : Str} : isnR ng (.str i) μ = .ok (.bool ng) μ := rfl
@[simp] theorem isnR_bool {ng : Bool} {i : Bool} : isnR ng (.bool i) μ = .ok (.bool ng) μ := rfl
def chR (o : Option PyData) (a b : Rs PyData) : Rs PyData := match o with
  | some (.bool true) => a
  | some (.bool false) => b
  | _ => .stuck
@[simp] theorem chR_dec {p : Prop} [Decidable p] {a b : Rs PyData} : chR (some (.bool (decide p))) a b = if p then a else b := by
  by_cases h : p <;> simp [h, chR]
@[simp] theorem ev_chain {o o' : COp} {a b c : E} : ev C (.chain o o' a b c) env μ = (ev C a env μ).bind fun x μ1 => (ev C b env μ1).bind fun y μ2 => chR (cmpP o x y) ((ev C c env μ2).bind fun z μ3 => opt (cmpP o' y z) μ3) (.ok (.bool false) μ2) := rfl
@[simp] theorem ev_and {a b : E} : ev C (.and a b) env μ = (ev C a env μ).bind fun x μ1 => ifB x (if b.isBv then .stuck else ev C b env μ1) (.ok (.bool false) μ1) .stuck := rfl
@[simp] theorem ev_or {a b : E} : ev C (.or a b) env μ = (ev C a env μ).bind fun x μ1 => ifB x (.ok (.bool true) μ1) (if b.isBv then .stuck else ev C b env μ1) .stuck := rfl
def notR (x : PyData) (μ : Store) : Rs PyData := match x with
  | .bool k => .ok (.bool (!k)) μ
  | _ => .stuck
@[simp] theorem notR_bool {k : Bool} : notR (.bool k) μ = .ok (.bool (!k)) μ := rfl
@[simp] theorem ev_not {a : E} : ev C (.not a) env μ = (ev C a env μ).bind notR := rfl
@[simp] theorem ev_tru {a : E} : ev C (.tru a) env μ = (ev C a env μ).bind fun x μ1 => opt ((truP x).map .bool) μ1 := rfl
@[simp] theorem ev_ite {c a b : E} : ev C (.ite c a b) env μ = (ev C c env μ).bind fun x μ1 => if a.isBv || b.isBv then .stuck else ifB x (ev C a env μ1) (ev C b env μ1) .stuck := rfl
@[simp] theorem ev_tup {l : List E} : ev C (.tup l) env μ = (evL C l env μ).bind fun ds μ1 => if ds.length ≤ lim then .ok (.tuple ds) μ1 else .stuck := rfl
@[simp] theorem ev_lst {l : List E} : ev C (.lst l) env μ = (evL C l env μ).bind fun ds μ1 => if ds.length ≤ lim then .ok (.list ds) μ1 else .stuck := rfl
@[simp] theorem ev_idx {a b : E} : ev C (.idx a b) env μ = (ev C a env μ).bind fun x μ1 => (ev C b env μ1).bind fun y μ2 => opt (idxP x y) μ2 := rfl
def slR (r : Rs PyData) : Rs (Option Int) := r.bind fun l μ => opt (asI l) μ
@[simp] theorem slR_int {i : Int} : slR (.ok (.int i) μ) = .ok (some i) μ := rfl
@[simp] theorem ev_slc_nn {a : E} : ev C (.slc a .no .no) env μ = (ev C a env μ).bind fun x μ1 => opt (slcP x none none) μ1 := rfl
theorem ev_slc_ns {a hi : E} (h : hi ≠ .no) : ev C (.slc a .no hi) env μ = (ev C a env μ).bind fun x μ1 => (slR (ev C hi env μ1)).bind fun u μ3 => opt (slcP x none u) μ3 := by
  cases hi <;> first | rfl | exact absurd rfl h
theorem ev_slc_sn {a lo : E} (h : lo ≠ .no) : ev C (.slc a lo .no) env μ = (ev C a env μ).bind fun x μ1 => (slR (ev C lo env μ1)).bind fun u μ3 => opt (slcP x u none) μ3 := by
  cases lo <;> first | rfl | exact absurd rfl h
theorem ev_slc_ss {a lo hi : E} (h : lo ≠ .no) (h' : hi ≠ .no) : ev C (.slc a lo hi) env μ = (ev C a env μ).bind fun x μ1 => (slR (ev C lo env μ1)).bind fun l μ2 => (slR (ev C hi env μ2)).bind fun u μ3 => opt (slcP x l u) μ3 := by
  cases lo <;> first | exact absurd rfl h | (cases hi <;> first | rfl | exact absurd rfl h')
@[simp] theorem ev_call {f : Nat} {l : List E} : ev C (.call f l) env μ = (evL C l env μ).bind fun ds μ1 => C f ds μ1 := rfl
@[simp] theorem ev_bi {b : Bi} {l : List E} : ev C (.bi b l) env μ = (evB C l env μ).bind fun ds μ1 => opt (biP b ds) μ1 := rfl
@[simp] theorem ev_isi {T : String} {a : E} : ev C (.isi T a) env μ = (ev C a env μ).bind fun x μ1 => opt ((isiP T x).map .bool) μ1 := rfl
def joinR (x : PyData) (k : Str → Rs PyData) : Rs PyData := match x with
  | .str s => k s
  | _ => .stuck
@[simp] theorem joinR_str {x : Str} {k : Str → Rs PyData} : joinR (.str x) k = k x := rfl
@[simp] theorem ev_dsp {ks : List Str} {l : List E} {b : E} : ev C (.dsp ks l b) env μ = if ks.Nodup ∧ ks.length = l.length ∧ ks.length ≤ 15 then (evL C l env μ).bind fun ds μ1 => (ev C b env μ1).bind fun y μ2 => opt (dspP ks ds y) μ2 else .stuck := rfl
@[simp] theorem ev_join {a b : E} : ev C (.join a b) env μ = (ev C a env μ).bind fun x μ1 => joinR x fun s => (ev C b env μ1).bind fun y μ2 => opt (joinP (.str s) y) μ2 := rfl
@[simp] theorem ev_fmt {a : E} : ev C (.fmt a) env μ = (ev C a env μ).bind fun x μ1 => opt (fmtP x) μ1 := rfl
@[simp] theorem ev_fstr {l : List E} : ev C (.fstr l) env μ = (evJ C l Str.empty env μ).bind fun x μ1 => .ok (.str x) μ1 := rfl
@[simp] theorem evL_nil : evL C [] env μ = .ok [] μ := rfl
@[simp] theorem evL_cons {e : E} {r : List E} : evL C (e :: r) env μ = if e.isBv then .stuck else (ev C e env μ).bind fun d μ1 => (evL C r env μ1).bind fun ds μ2 => .ok (d :: ds) μ2 := rfl
@[simp] theorem evB_nil : evB C [] env μ = .ok [] μ := rfl
@[simp] theorem evB_cons {e : E} {r : List E} : evB C (e :: r) env μ = (ev C e env μ).bind fun d μ1 => (evB C r env μ1).bind fun ds μ2 => .ok (d :: ds) μ2 := rfl
@[simp] theorem evJ_nil {acc : Str} : evJ C [] acc env μ = .ok acc μ := rfl
@[simp] theorem evJ_cons {e : E} {r : List E} {acc : Str} : evJ C (e :: r) acc env μ = (ev C e env μ).bind fun x μ1 => match x with
    | .str y => if (acc ++ y).length ≤ lim then evJ C r (acc ++ y) env μ1 else .stuck
    | _ => .stuck := rfl
def rngR (lo : Int) (x : PyData) (μ : Store) : Rs (List PyData) := match x with
  | .int j => if -two62 ≤ j ∧ j < two62 then .ok (rngD 0 j.toNat) μ else .stuck
  | _ => .stuck
@[simp] theorem evI_rng1 {a : E} : evI C (.rng1 a) env μ = (ev C a env μ).bind fun x μ1 => match x with
    | .int j => if -two62 ≤ j ∧ j < two62 then .ok (rngD 0 j.toNat) μ1 else .stuck
    | _ => .stuck := rfl
@[simp] theorem evI_rng2 {a b : E} : evI C (.rng2 a b) env μ = (ev C a env μ).bind fun x μ1 => (ev C b env μ1).bind fun y μ2 => match x, y with
    | .int i, .int j => if -two62 ≤ i ∧ i < two62 ∧ -two62 ≤ j ∧ j < two62 then .ok (rngD i (j - i).toNat) μ2 else .stuck
    | _, _ => .stuck := rfl
def lstR (x : PyData) (μ : Store) : Rs (List PyData) := match x with
  | .list ds => .ok ds μ
  | _ => .stuck
def tupR (x : PyData) (μ : Store) : Rs (List PyData) := match x with
  | .tuple ds => .ok ds μ
  | _ => .stuck
@[simp] theorem lstR_list {l : List PyData} : lstR (.list l) μ = .ok l μ := rfl
@[simp] theorem tupR_tuple {l : List PyData} : tupR (.tuple l) μ = .ok l μ := rfl
@[simp] theorem evI_seqL {a : E} : evI C (.seqL a) env μ = if a.isBv then .stuck else (ev C a env μ).bind lstR := rfl
@[simp] theorem evI_seqT {a : E} : evI C (.seqT a) env μ = (ev C a env μ).bind tupR := rfl
@[simp] theorem evI_zip {a b : E} : evI C (.zip a b) env μ = if a.isBv || b.isBv then .stuck else (ev C a env μ).bind fun x μ1 => (ev C b env μ1).bind fun y μ2 => match x, y with
    | .list xs, .list ys => .ok (zipD xs ys) μ2
    | _, _ => .stuck := rfl
@[simp] theorem evI_enum {a : E} : evI C (.enum a) env μ = if a.isBv then .stuck else (ev C a env μ).bind fun x μ1 => match x with
    | .list xs => .ok (enumD 0 xs) μ1
    | _ => .stuck := rfl
/-- a comprehension of a plain function -/
theorem ev_map {it : E} {tg : Tg} {e : E} {vs : List Nat} {ds : List PyData} {g : PyData → PyData} {μ1 : Store} (hi : evI C it env μ = .ok ds μ1) (hs : tg.slots.all (fun i => vs.contains i && decide (i < env.length)) = true) (hb : e.isBv = false) (hl : ds.length ≤ lim)
    (h : ∀ d ∈ ds, ∃ e', tg.put d (wipeE env vs) = some e' ∧ ev C e e' μ1 = .ok (g d) μ1) : ev C (.comp it tg .no e vs) env μ = .ok (.list (ds.map g)) μ1 := by
  show (evI C it env μ).bind _ = _
  rw [hi, Rs.bind_ok, hs, hb, decide_eq_true hl]
  simp only [Bool.not_false, Bool.and_self, if_true]
  rw [cLoop_map (g := g) fun d hd => ?_]
  obtain ⟨e', h1, h2⟩ := h d hd
  refine ⟨e', h1, ?_⟩
  show (Rs.ok true μ1).bind _ = _
  rw [Rs.bind_ok, if_pos rfl, h2]
  rfl
/-! statements -/
@[simp] theorem runB_nil : runB C sub L [] env μ = .nx env μ := rfl
@[simp] theorem runB_cons {s : S} {r : List S} : runB C sub L (s :: r) env μ = (runS C sub L s env μ).then fun e m => runB C sub L r e m := rfl
@[simp] theorem runS_asg {i : Nat} {e : E} : runS C sub L (.asg i e) env μ = if e.isBv then .stuck else thenO (ev C e env μ) env fun d μ1 => .nx (env.set i (.pv d)) μ1 := rfl
def asgR (i : Nat) (env : List SV) (d : PyData) (μ : Store) : Out := match d with
  | .list l => .nx (env.set i (.ow l)) μ
  | _ => .stuck
@[simp] theorem asgR_list {i : Nat} {l : List PyData} : asgR i env (.list l) μ = .nx (env.set i (.ow l)) μ := rfl
@[simp] theorem runS_asgN {i : Nat} {e : E} : runS C sub L (.asgN i e) env μ = if e.fresh then thenO (ev C e env μ) env (asgR i env) else .stuck := rfl
@[simp] theorem runS_asgT {l : List Nat} {e : E} : runS C sub L (.asgT l e) env μ = if e.isBv then .stuck else thenO (ev C e env μ) env fun d μ1 => match (Tg.tp l).put d env with
      | some env' => .nx env' μ1
      | none => .stuck := rfl
def appR (o : Option SV) (k : List PyData → Out) : Out := match o with
  | some (.ow l) => k l
  | _ => .stuck
@[simp] theorem appR_ow {l : List PyData} {k : List PyData → Out} : appR (some (.ow l)) k = k l := rfl
@[simp] theorem runS_app {i : Nat} {e : E} : runS C sub L (.app i e) env μ = appR env[i]? fun l => if e.isBv then .stuck else thenO (ev C e env μ) env fun d μ1 => if l.length < lim then .nx (env.set i (.ow (l ++ [d]))) μ1 else .stuck := by
  unfold runS appR
  rfl
def setR (i : Nat) (env : List SV) (l : List PyData) (d kk : PyData) (μ : Store) : Out := match kk with
  | .int n => match ixN l.length n with
    | some j => .nx (env.set i (.ow (l.set j d))) μ
    | none => .stuck
  | _ => .stuck
@[simp] theorem runS_setI {i : Nat} {k e : E} : runS C sub L (.setI i k e) env μ = appR env[i]? fun l => if e.isBv then .stuck else thenO (ev C e env μ) env fun d μ1 => thenO (ev C k env μ1) env fun kk μ2 => setR i env l d kk μ2 := by
  unfold runS appR
  rfl
@[simp] theorem runS_iff {c : E} {a b : List S} : runS C sub L (.iff c a b) env μ = thenO (ev C c env μ) env fun k μ1 => ifB k (runB C sub L a env μ1) (runB C sub L b env μ1) .stuck := rfl
theorem runS_for {it : E} {tg : Tg} {b : List S} : runS C sub L (.for_ it tg b) env μ = thenO (evI C it env μ) env fun ds μ1 => fLoop tg (fun e m => runB C sub L b e m) ds env μ1 := rfl
@[simp] theorem runS_ret {e : E} : runS C sub L (.ret e) env μ = if e.isBv then .stuck else thenO (ev C e env μ) env fun d μ1 => .rt d μ1 := rfl
@[simp] theorem runS_retN : runS C sub L .retN env μ = .rt .none μ := rfl
@[simp] theorem runS_exp {e : E} : runS C sub L (.exp e) env μ = thenO (ev C e env μ) env fun _ μ1 => .nx env μ1 := rfl
@[simp] theorem runS_raise {c : Nat} {e : E} : runS C sub L (.raise c e) env μ = thenO (ev C e env μ) env fun _ μ1 => .ex c env μ1 := rfl
@[simp] theorem runS_try {b : List S} {hs : List (Nat × List S)} : runS C sub L (.try_ b hs) env μ = (runB C sub L b env μ).caught sub fun e m => runH C sub L hs e m := rfl
@[simp] theorem runS_frz {i : Nat} {s : S} : runS C sub L (.frz i s) env μ = runS C sub L s (frzE i env) μ := rfl
@[simp] theorem caught_nx {e : List SV} {m : Store} {g : List SV → Store → List (Nat × Out)} : (Out.nx e m).caught sub g = .nx e m := rfl
@[simp] theorem caught_rt {d : PyData} {m : Store} {g : List SV → Store → List (Nat × Out)} : (Out.rt d m).caught sub g = .rt d m := rfl
@[simp] theorem caught_ex {c : Nat} {e : List SV} {m : Store} {g : List SV → Store → List (Nat × Out)} : (Out.ex c e m).caught sub g = pick sub c (.ex c e m) (g e m) := rfl
@[simp] theorem runS_tryIs {b : List S} {c i : Nat} : runS C sub L (.tryIs b c i) env μ = (runB C sub L b env μ).caughtIs sub c i := rfl
@[simp] theorem runH_nil : runH C sub L [] env μ = [] := rfl
@[simp] theorem runH_cons {c : Nat} {b : List S} {r : List (Nat × List S)} : runH C sub L ((c, b) :: r) env μ = (c, runB C sub L b env μ) :: runH C sub L r env μ := rfl
/-! conditions that split -/
@[simp] theorem Rs.bind_if {α β : Type} {p : Prop} [Decidable p] {a b : Rs α} {f : α → Store → Rs β} : (if p then a else b).bind f = if p then a.bind f else b.bind f := by split <;> rfl
@[simp] theorem thenO_if {α : Type} {p : Prop} [Decidable p] {a b : Rs α} {f : α → Store → Out} : thenO (if p then a else b) env f = if p then thenO a env f else thenO b env f := by split <;> rfl
@[simp] theorem then_if {p : Prop} [Decidable p] {a b : Out} {f : List SV → Store → Out} : (if p then a else b).then f = if p then a.then f else b.then f := by split <;> rfl
@[simp] theorem toRs_if {p : Prop} [Decidable p] {a b : Out} : toRs (if p then a else b) = if p then toRs a else toRs b := by split <;> rfl
/-! operations -/
@[simp] theorem add_int {i j : Int} : binP .add (.int i) (.int j) = some (.int (i + j)) := rfl
@[simp] theorem sub_int {i j : Int} : binP .sub (.int i) (.int j) = some (.int (i - j)) := rfl
theorem mul_int {i j : Int} (h : (-18446744073709551616 < i ∧ i < 18446744073709551616) ∨ (-18446744073709551616 < j ∧ j < 18446744073709551616)) : binP .mul (.int i) (.int j) = some (.int (i * j)) := if_pos h
@[simp] theorem fdiv_int {i j : Int} (h : 0 < j) (h2 : j < 18446744073709551616) : binP .fdiv (.int i) (.int j) = some (.int (i / j)) := if_pos ⟨h, h2⟩
theorem fdiv_neg {i j : Int} (h : j < 0) (h2 : -18446744073709551616 < j) : binP .fdiv (.int i) (.int j) = some (.int (i.fdiv j)) := by
  show (if 0 < j ∧ j < big then _ else if j < 0 ∧ -big < j then _ else none) = _
  rw [if_neg (by omega), if_pos ⟨h, h2⟩]
@[simp] theorem mod_int {i j : Int} (h : 0 < j) : binP .mod (.int i) (.int j) = some (.int (i % j)) := if_pos h
@[simp] theorem eq_int {i j : Int} : cmpP .eq (.int i) (.int j) = some (.bool (i == j)) := rfl
@[simp] theorem eq_str {i j : Str} : cmpP .eq (.str i) (.str j) = some (.bool (i == j)) := rfl
@[simp] theorem eq_is {i : Int} {j : Str} : cmpP .eq (.int i) (.str j) = some (.bool false) := rfl
@[simp] theorem ne_int {i j : Int} : cmpP .ne (.int i) (.int j) = some (.bool (!(i == j))) := rfl
@[simp] theorem ne_str {i j : Str} : cmpP .ne (.str i) (.str j) = some (.bool (!(i == j))) := rfl
@[simp] theorem eq_bool {i j : Bool} : cmpP .eq (.bool i) (.bool j) = some (.bool (i == j)) := rfl
@[simp] theorem ne_bool {i j : Bool} : cmpP .ne (.bool i) (.bool j) = some (.bool (!(i == j))) := rfl
@[simp] theorem lt_int {i j : Int} : cmpP .lt (.int i) (.int j) = some (.bool (decide (i < j))) := rfl
@[simp] theorem le_int {i j : Int} : cmpP .le (.int i) (.int j) = some (.bool (decide (i ≤ j))) := rfl
@[simp] theorem gt_int {i j : Int} : cmpP .gt (.int i) (.int j) = some (.bool (decide (j < i))) := rfl
@[simp] theorem ge_int {i j : Int} : cmpP .ge (.int i) (.int j) = some (.bool (decide (j ≤ i))) := rfl
@[simp] theorem idx_list {l : List PyData} {i : Int} : idxP (.list l) (.int i) = atI l i := rfl
@[simp] theorem idx_tuple {l : List PyData} {i : Int} : idxP (.tuple l) (.int i) = atI l i := rfl
@[simp] theorem len_list {l : List PyData} : biP .len [.list l] = some (.int l.length) := rfl
@[simp] theorem len_tuple {l : List PyData} : biP .len [.tuple l] = some (.int l.length) := rfl
@[simp] theorem list_list {l : List PyData} : biP .list [.list l] = some (.list l) := rfl
@[simp] theorem list_tuple {l : List PyData} : biP .list [.tuple l] = some (.list l) := rfl
@[simp] theorem tuple_list {l : List PyData} : biP .tuple [.list l] = some (.tuple l) := rfl
@[simp] theorem tuple_tuple {l : List PyData} : biP .tuple [.tuple l] = some (.tuple l) := rfl
@[simp] theorem abs_int {i : Int} : biP .abs [.int i] = some (.int (if i < 0 then -i else i)) := rfl
@[simp] theorem int_int {i : Int} : biP .int [.int i] = some (.int i) := rfl
@[simp] theorem int_bool {i : Bool} : biP .int [.bool i] = some (.int (if i then 1 else 0)) := rfl
theorem slc_tuple {l : List PyData} {lo hi : Option Int} : slcP (.tuple l) lo hi = if HT.sIx l.length 0 lo = 0 ∧ HT.sIx l.length l.length hi = l.length then none else some (.tuple (cutD l lo hi)) := rfl
@[simp] theorem slc_list {l : List PyData} {lo hi : Option Int} : slcP (.list l) lo hi = some (.list (cutD l lo hi)) := rfl
end
/-- == of two such values -/
theorem eq_shaped {d e : PyData} (h : SeqAt.shaped d = true) (h' : SeqAt.shaped e = true) (hd : ∀ x, d ≠ .none ∧ d ≠ .int x) (hs : ∀ x, d ≠ .str x) (hb : ∀ x, d ≠ .bool x) : eqP d e = some (PyData.eqv d e) := by
  cases d <;> simp_all [eqP]
/-- plain data, at most m deep -/
def Sh (m : Nat) (d : PyData) : Prop := d.canLay0 = true ∧ d.depth ≤ m
theorem Sh.int {m : Nat} (i : Int) : Sh m (.int i) := ⟨rfl, Nat.zero_le _⟩
theorem Sh.none {m : Nat} : Sh m .none := ⟨rfl, Nat.zero_le _⟩
theorem Sh.bool {m : Nat} (i : Bool) : Sh m (.bool i) := ⟨rfl, Nat.zero_le _⟩
theorem Sh.str {m : Nat} {x : Str} (h : PyData.strOk x = true) : Sh m (.str x) := ⟨h, Nat.zero_le _⟩
theorem Sh.all {m : Nat} : ∀ {l : List PyData}, (∀ d ∈ l, Sh m d) → PyData.canLayAll0 l = true ∧ PyData.depthAll l ≤ m
  | [], _ => ⟨rfl, Nat.zero_le _⟩
  | d :: r, h => by
    have a := h d List.mem_cons_self
    have b := Sh.all (l := r) fun e he => h e (List.mem_cons_of_mem _ he)
    refine ⟨?_, ?_⟩
    · show (d.canLay0 && PyData.canLayAll0 r) = true
      rw [a.1, b.1]
      rfl
    · show max d.depth (PyData.depthAll r) ≤ m
      exact Nat.max_le.mpr ⟨a.2, b.2⟩
theorem Sh.list {m : Nat} {l : List PyData} (h : ∀ d ∈ l, Sh m d) : Sh (m + 1) (.list l) := ⟨(Sh.all h).1, Nat.succ_le_succ (Sh.all h).2⟩
theorem Sh.tuple {m : Nat} {l : List PyData} (h : ∀ d ∈ l, Sh m d) : Sh (m + 1) (.tuple l) := ⟨(Sh.all h).1, Nat.succ_le_succ (Sh.all h).2⟩
theorem Sh.mono {m n : Nat} {d : PyData} (h : Sh m d) (hl : m ≤ n) : Sh n d := ⟨h.1, Nat.le_trans h.2 hl⟩
theorem Sh.shaped {m : Nat} {d : PyData} (h : Sh m d) (hm : m ≤ 64) : SeqAt.shaped d = true := by
  unfold SeqAt.shaped
  rw [h.1, decide_eq_true (Nat.le_trans h.2 hm)]
  rfl
theorem eqP_list {m : Nat} {l : List PyData} (h : ∀ d ∈ l, Sh m d) (hm : m ≤ 63) : eqP (.list l) (.list l) = some true := by
  have z := (Sh.list h).shaped (Nat.succ_le_succ hm)
  show (if SeqAt.shaped (.list l) && SeqAt.shaped (.list l) then some (PyData.eqv (.list l) (.list l)) else none) = _
  rw [z, SeqAt.eqv_refl _ (Sh.list h).1]
  rfl
theorem eqP_tuple {m : Nat} {l : List PyData} (h : ∀ d ∈ l, Sh m d) (hm : m ≤ 63) : eqP (.tuple l) (.tuple l) = some true := by
  have z := (Sh.tuple h).shaped (Nat.succ_le_succ hm)
  show (if SeqAt.shaped (.tuple l) && SeqAt.shaped (.tuple l) then some (PyData.eqv (.tuple l) (.tuple l)) else none) = _
  rw [z, SeqAt.eqv_refl _ (Sh.tuple h).1]
  rfl
theorem eq_list {m : Nat} {l : List PyData} (h : ∀ d ∈ l, Sh m d) (hm : m ≤ 63) : cmpP .eq (.list l) (.list l) = some (.bool true) := by
  show (eqP _ _).map _ = _
  rw [eqP_list h hm]
  rfl
theorem ne_list {m : Nat} {l : List PyData} (h : ∀ d ∈ l, Sh m d) (hm : m ≤ 63) : cmpP .ne (.list l) (.list l) = some (.bool false) := by
  show (eqP _ _).map _ = _
  rw [eqP_list h hm]
  rfl
theorem eq_tuple {m : Nat} {l : List PyData} (h : ∀ d ∈ l, Sh m d) (hm : m ≤ 63) : cmpP .eq (.tuple l) (.tuple l) = some (.bool true) := by
  show (eqP _ _).map _ = _
  rw [eqP_tuple h hm]
  rfl
theorem ne_tuple {m : Nat} {l : List PyData} (h : ∀ d ∈ l, Sh m d) (hm : m ≤ 63) : cmpP .ne (.tuple l) (.tuple l) = some (.bool false) := by
  show (eqP _ _).map _ = _
  rw [eqP_tuple h hm]
  rfl
theorem cut_mem {α : Type} {l : List α} {lo hi : Option Int} {d : α} (h : d ∈ cutD l lo hi) : d ∈ l := List.mem_of_mem_drop (List.mem_of_mem_take h)
end PVL
end

section
set_option Elab.async false
set_option linter.all false
set_option maxRecDepth 100000
set_option maxHeartbeats 4000000
/-! # Defs that run while an error is handled -/
namespace PVL
open PySem PySem.Spec PyProof.Rows L2
/-- an own error of one argument, its context None -/
theorem pmkN {X : Cx} {C : Addr} {bmB : List Value} {B newId initId : String} {x : Str} {e : Expr} {ta : TE} {p pos : Pos}
    (F : ExcBaseFacts B newId initId bmB) (q : PySem.W.excIn X.K C bmB newId = true)
    (gC : X.mg x = some (.ref C)) (kC : PySem.W.keepIn X.K (.ref C) = true) (r : Raises X (.ref C)) (hg : Gl X x) (he : PE X e ta)
    (hs : starEach [e] X.env = (false, eval e X.env) :: starEach [] X.env := by rfl) (hdb : (x == ("__debug__" : Str)) = false := by decide) :
    L2N.PMk X (.Call (.Name x p) [e] [] pos) (fun σ H Q => ta σ H fun _ H1 => Q (.ref C) none H1) := fun pins s σ H Q I h => by
  have arg : wpAny (model X.prog X.w) X.A (eval e X.env) _ X.xe s := he.run pins s σ H _ I h
  refine wpAny_Call_Name_kw (ld_glob I hg gC (PySem.W.callWith_K (h₀ := X.base) I.ok.mod.kin kC ?_ hs (by rfl)) hdb)
  rw [hs]
  show wpAny _ _ (spliced (_ :: backTo pos (starEach [] X.env))) _ _ s
  refine Calls.spliced_cons (thn arg ?_)
  rintro u s1 ⟨v, H1, I1, r1, q1⟩
  refine Calls.spliced_nil ⟨I1.kIn, ?_⟩
  obtain ⟨_, _, _, _, _, _, _, _, _, _, _, _, _, _, _, _, _, hC, hN, hni, T⟩ := exc_obj I1.kIn q
  exact wpAny_call_exc_subT (rest := [u]) F T hC hN hni (fun h' e' hm => L2N.mk_of I1 hm r q1 (I1.hok.gone hm.new)) (by
    show 1 ≤ sizeLine
    rw [sizeLine_eq]
    omega)
theorem noPassN {X : Cx} {σ : L2.St} : PassesAt (L2N.CX X.prog X.w) X σ (WE noW σ) := fun _ _ _ _ _ _ c => by
  obtain ⟨_, _, _, _, _, _, _, _, _, _, _, _, z⟩ := c
  exact z.elim
/-- the suite of an except clause, the error's context being None, is such a place -/
theorem hot_suite {X : Cx} {a : Addr} {oe : Obj} {cls : Value} {d : Option Addr} {pn : List (Addr × Obj)} (hz : L2N.Zn cls d oe) (hf : ∃ vs, oe.data = .fields vs) : L2H.HotC (X.suite a ((a, oe) :: pn)) := by
  obtain ⟨vs, e⟩ := hf
  exact ⟨(a, oe), ⟨rfl, vs, e, hz.2.2 vs e⟩, List.mem_cons_self⟩
theorem hot_tr {X : Cx} {pn : List (Addr × Obj)} {xe : Value → Shared → Prop} (h : L2H.HotC X) (hs : ∀ q ∈ X.pn, q ∈ pn) : L2H.HotC (X.tr pn xe) := by
  obtain ⟨p, h1, h2⟩ := h
  exact ⟨p, h1, hs p h2⟩
theorem hot_cx {CX : CXT} {P : Program} {w : World} {K : PySem.W.Frag} {mg : Str → Option Value} {base : Heap} {N : List Str} {qual : Str} {scope : Scope} {f : Addr} {cd : Value} {A : Around} {outer : List Env} {s : Shared} {H : Hp} {E : XK} {p : Addr × Obj}
    (h : L2H.Hot1 A p) : L2H.HotC (L2H.cxH CX P w K mg base N qual scope f cd A outer s H E p) :=
  ⟨p, h, List.mem_singleton.mpr rfl⟩
theorem RoomD.hot {n k : Nat} {A : Around} {v : Option Value} (r : RoomD n A) (h : 3 * k ≤ n) (hu : 16 * k ≤ 5 * n) : L2H.RoomH k (A.mark v) :=
  ⟨by
    have := r.dp
    show A.depth + 3 * k + 5 < _
    omega, by
    have := r.un
    show A.units + 16 * k + 200 < _
    omega⟩
theorem hotUnits {k : Nat} {A : Around} (r : L2H.RoomH k A) : A.units + 65 < cLine := by
  have := r.un
  omega
theorem fnH_step {P : Program} {w : World} {K : PySem.W.Frag} {mg : Str → Option Value} {base : Heap} {CX : CXT} {cl : Nat → Addr} {T : Nat → Option Df} {sub : Under} {L k n fi : Nat} {d : Df} {x qual : Str} {st : Stmt} {f : Addr} {fd : FuncData} {N ps : List Str}
    (X : ExOk K cl sub) (F : Fun K x qual st f fd) (S : FnScope N ps (defScope st)) (hT : T fi = some d) (hN : N.length = d.sl) (hp : ps.length = d.ar) (hle : d.ar ≤ d.sl)
    (hb : ∀ (cdv : Value) (A : Around) (outer : List Env) (s : Shared) (H : Hp) (E : XK) (p : Addr × Obj), L2H.Hot1 A p → L2H.RoomH k (A.deeper (envOfC qual (defScope st) s.heap.objs.size f cdv)) →
      PSs (L2H.cxH CX P w K mg base N qual (defScope st) f cdv A outer s H E p) (defBody st) (rdB K cl (runF T sub L n) (fun cls d _ H => E cls d H) d.body)) :
    L2H.FnH P w K mg base CX (k + 1) f fd ps (spOf K cl (runF T sub L (n + 1)) fi) := by
  obtain ⟨oc, od, kV, doc, pm, an, cdv, ct, osl, rfl, lk, hcd⟩ := F.ex
  have hlen : ∀ vs H Q E, spOf K cl (runF T sub L (n + 1)) fi vs H Q E → vs.length = ps.length := by
    rintro vs H Q E ⟨W, ds, o, r, h⟩
    rw [r.length, hp]
    unfold runF at h
    rw [hT] at h
    simp only at h
    by_cases e : ds.length = d.ar
    · exact e
    · rw [if_neg e] at h
      exact h.elim
  refine L2H.fn_ofH lk hcd S hlen fun A outer s H vs Q E p hot hr hsp => ⟨_, hb cdv A outer s H E p hot hr, ?_⟩
  obtain ⟨W, ds, o, r, h⟩ := hsp
  unfold runF at h
  rw [hT] at h
  simp only at h
  by_cases e : ds.length = d.ar
  · rw [if_pos e] at h
    refine sndSB (runF T sub L n) X L d.body _ (enter d ds) W.μ W H W H (L2.start N vs) _ rfl o (slots_enter r hN (by omega)) (Go.refl _ _) ?_
    cases eo : runB (runF T sub L n) sub L d.body (enter d ds) W.μ with
    | nx e m => rw [eo] at h; exact fun W' H' σ' m o' _ g _ _ => h .non W' H' m o' g .non
    | rt e m => rw [eo] at h; exact fun v W' H' m o' g r => h v W' H' m o' g r
    | ex c e m => rw [eo] at h; exact fun W' H' σ' m o' _ g _ _ => h W' H' m o' g
    | bk e m => rw [eo] at h; exact h.elim
    | ct e m => rw [eo] at h; exact h.elim
    | stuck => rw [eo] at h; exact h.elim
  · rw [if_neg e] at h
    exact h.elim
theorem kitOne_val {K : PySem.W.Frag} {C : Addr} (h : PySem.W.subIn K (.ref C) (.type "ValueError") = some true) : PySem.W.kitOne K (.ref C) (.type "ValueError") = some true := by
  have e : (Value.ref C == Value.type "ValueError") = false := rfl
  have m : PySem.W.kitMeta "ValueError" = true := by decide +kernel
  unfold PySem.W.kitOne
  rw [e]
  show (if PySem.W.kitMeta "ValueError" = true then PySem.W.subIn K (.ref C) (.type "ValueError") else none) = _
  rw [if_pos m]
  exact h
theorem cmp1 {a c : Nat} (h : a + 65 < c) : a + 1 < c := by omega
theorem fnH_none {P : Program} {w : World} {K : PySem.W.Frag} {mg : Str → Option Value} {base : Heap} {CX : CXT} {k : Nat} {f : Addr} {fd : FuncData} {ps : List Str} {sp : Sp} (h : L2H.FnH P w K mg base CX 0 f fd ps sp) : L2H.FnH P w K mg base CX k f fd ps sp :=
  ⟨h.len, fun A outer s H args us vs Q E p hr => h.run A outer s H args us vs Q E p (hr.mono (Nat.zero_le _))⟩
theorem fnH_zero {P : Program} {w : World} {K : PySem.W.Frag} {mg : Str → Option Value} {base : Heap} {CX : CXT} {cl : Nat → Addr} {T : Nat → Option Df} {sub : Under} {L fi : Nat} {f : Addr} {fd : FuncData} {ps : List Str} :
    L2H.FnH P w K mg base CX 0 f fd ps (spOf K cl (runF T sub L 0) fi) :=
  ⟨fun _ _ _ _ ⟨_, _, _, _, z⟩ => z.elim, fun _ _ _ _ _ _ _ _ _ _ _ _ _ _ _ _ ⟨_, _, _, _, z⟩ => z.elim⟩
theorem call_min3 {X : Cx} (hc : X.calm = true) : CallR X (.builtin "min") (fun xs H Q => ∃ i j k, xs = [.int i, .int j, .int k] ∧ Q (.int (min3I i j k)) H) := by
  intro pins s σ H xs us Q I r h
  obtain ⟨i, j, k, rfl, q⟩ := h
  refine call_min3Nu hc pins s σ H _ us Q I r ⟨_, _, _, _, rfl, ?_, q⟩
  have e : ∀ a b : Int, nuMin2 (.int a) (.int b) = some (.int (if b < a then b else a)) := fun a b => by
    by_cases h : b < a <;> simp [nuMin2, nuLt, nuCB, h]
  show (nuMin2 (.int i) (.int j)).bind _ = _
  rw [e]
  show nuMin2 _ _ = _
  rw [e]
  rfl
end PVL
end

section
set_option Elab.async false
set_option linter.all false
set_option maxRecDepth 100000
set_option maxHeartbeats 4000000
namespace PVL
open PySem PySem.Spec PyProof.Rows L2
/-! # Rules of our own -/
section
variable {X : Cx} {pos : Pos}
/-- self.f as a target -/
theorem pg_at {i f : Nat} {o : Expr} (ho : PE X o (tVar i)) : PG X (.Attribute o (fnm f) pos) (gAt X.K i f) := by
  refine ⟨fun pins s σ H v u Q I r h => ?_⟩
  rw [arm_assign_Attribute]
  refine wpAny_bind (wpAny_holding (thn (ho.run pins s σ H _ I h) fun ov s1 ⟨x, H1, I1, r1, a, C, dx, fs, e, h1, h2, h3, h4, q⟩ => ?_))
  subst e
  cases (show ov = Value.ref a from r1)
  refine wpAny_bind (wpAny_standAt (wpAny_bind (wpAny_holding (setattr_ok I1 h1 h2 h3 h4 r fun s2 I2 => ?_))))
  exact wpAny_release ⟨σ, _, I2, q⟩
theorem pgs_nilX : PGs X [] (rdX X.K []) := pgs_nil
/-! ## del a[lo:] -/
theorem kept_front {α : Type} (p : Nat → Bool) (a : Nat) (hp : ∀ k, p k = decide (a ≤ k)) (xs : List α) :
    (xs.zipIdx.filterMap fun q => if p q.2 = true then none else some q.1) = xs.take a := by
  have gen : ∀ (xs : List α) (i : Nat), ((xs.zipIdx i).filterMap fun q => if p q.2 = true then none else some q.1) = xs.take (a - i) := by
    intro xs
    induction xs with
    | nil => intro i; simp
    | cons x xs ih =>
      intro i
      rw [List.zipIdx_cons, List.filterMap_cons]
      by_cases h : a ≤ i
      · have e : p i = true := by rw [hp]; exact decide_eq_true h
        rw [if_pos e, ih (i + 1), show a - (i + 1) = 0 by omega, show a - i = 0 by omega]
        rfl
      · have e : p i ≠ true := by rw [hp]; simpa using h
        rw [if_neg e, ih (i + 1), show a - i = (a - (i + 1)) + 1 by omega, List.take_succ_cons]
  exact gen xs 0
theorem filterMap_same {α β : Type} (f g : α → Option β) : ∀ l : List α, (∀ x ∈ l, f x = g x) → l.filterMap f = l.filterMap g
  | [], _ => rfl
  | x :: l, h => by
    rw [List.filterMap_cons, List.filterMap_cons, h x List.mem_cons_self, filterMap_same f g l fun y hy => h y (List.mem_cons_of_mem _ hy)]
theorem bounds_from {a n : Nat} (h : a ≤ n) : sliceBounds (some (a : Int)) none none n = ((a : Int), (n : Int), 1) := by
  have h1 : ¬ ((a : Int) < 0) := by omega
  simp only [sliceBounds, Option.getD_none, h1, if_false, show (1 : Int) > 0 by decide, if_true]
  refine Prod.ext ?_ rfl
  show max 0 (min (a : Int) (n : Int)) = a
  omega
set_option maxHeartbeats 8000000 in
theorem del_from {prog : Program} {w : World} {A : Around} {E : Value → Shared → Prop} {s : Shared} {l sl : Addr} {items : Array Value} {n a : Nat} {vl : Value} {Q : Unit → Shared → Prop} (e : s.heap.get? l = some { cls := .type "list", data := .seq items n })
    (hs : s.heap.IsSliceOf sl vl .none .none) (pl : IsPart vl (some (a : Int))) (ha : a ≤ items.size) (hz : items.size ≤ sizeLine)
    (h : ∀ f : Array Value → Array Value, f items = (items.toList.take a).toArray → Q () { s with heap := s.heap.update l (Obj.mapSeq f) }) : wpAny (model prog w) A (delItem (.ref l) (.ref sl)) Q E s := by
  have hl : s.heap.IsList l items := PySem.IsL.isList e
  obtain ⟨os, hos, hcs, hds⟩ := id hs
  have hTs : s.TypeIs (.ref sl) "slice" := ⟨os, hos, hcs⟩
  have hstep : ¬ ((rawPart none == rawInt 0) = true) := Bool.false_ne_true
  refine wpAny_delItem_slot hl.typeIs (by decide) F.slot_list_delitem (wpAny_call_entry F.slot_list_delitem hl.typeIs F.entry_list_delitem ?_ (F.args_list_delitem_2 _ _))
  show wpAny _ _ (Builtin.List.listSubscript? (.ref sl) >>= _) _ _ s
  unfold Builtin.List.listSubscript?
  refine wpAny_bind (wpAny_bind (wpAny_specialOf hTs slice_no_index ?_))
  simp only [Option.isNone_none, if_true]
  refine wpAny_pure ?_
  show wpAny _ _ (typeOf (.ref sl) >>= _) _ _ s
  refine wpAny_bind (wpAny_typeOf hTs ?_)
  rw [if_neg (by decide), listSliceParts_eq]
  refine wpAny_bind (wpAny_bind (wpAny_field hos hds (x := .none) rfl (wpAny_bind (wpAny_listPart .none ?_))))
  rw [if_neg hstep]
  refine wpAny_bind (wpAny_field hos hds (x := vl) rfl (wpAny_bind (wpAny_listPart pl ?_)))
  refine wpAny_bind (wpAny_field hos hds (x := .none) rfl (wpAny_bind (wpAny_listPart .none (wpAny_pure ?_))))
  show wpAny _ _ (Builtin.List.listItems (.ref l) >>= _) _ _ s
  unfold Builtin.List.listItems
  refine wpAny_bind (wpAny_bind (wpAny_seqItems e rfl (wpAny_pure ?_)))
  refine wpAny_bind (wpAny_of_eq ((sliceIndices_raw (some (a : Int)) none none items.size (by simp)).trans (congrArg (pure : Int × Int × Int → Sem (Int × Int × Int)) (bounds_from ha))) ?_)
  refine wpAny_bind (wpAny_rule ?_)
  have key : ∀ (p : Nat → Bool), (∀ k, k < items.size → p k = decide (a ≤ k)) → (items.toList.zipIdx.filterMap fun q => if p q.2 = true then none else some q.1) = items.toList.take a := fun p hp => by
    rw [← kept_front (fun k => decide (a ≤ k)) a (fun _ => rfl) items.toList]
    refine filterMap_same _ _ _ fun q hq => ?_
    have hk : q.2 < items.size := by
      have := List.snd_lt_of_mem_zipIdx hq
      simpa using this
    rw [hp _ hk]
  have sel : ∀ k : Nat, k < items.size → (if (1 : Int) > 0 then decide ((a : Int) ≤ (k : Int)) && decide ((k : Int) < (items.size : Int)) && ((k : Int) - a) % 1 == 0 else false) = decide (a ≤ k) := fun k hk => by
    have h1 : ((k : Int) < (items.size : Int)) := by omega
    have h2 : ((k : Int) - a) % 1 = 0 := by omega
    have h3 : decide ((a : Int) ≤ (k : Int)) = decide (a ≤ k) := decide_eq_decide.mpr (by omega)
    rw [if_pos (by decide), decide_eq_true h1, h2, h3]
    simp
  show wpAny _ _ (updateSeq l _ >>= _) _ _ s
  refine wpAny_bind (wpAny_updateSeq (hz := hz) (_hz' := ?hz) e rfl ?_)
  case hz =>
    show ((items.toList.zipIdx.filterMap _).toArray).size ≤ _
    rw [List.size_toArray]
    refine Nat.le_trans (List.length_filterMap_le _ _) ?_
    simp
    omega
  refine wpAny_bind (wpAny_letGo ?_)
  refine wpAny_pure ⟨.none, rfl, h _ ?_⟩
  show (items.toList.zipIdx.filterMap _).toArray = _
  refine congrArg List.toArray (key _ fun k hk => (sel k hk ▸ ?_))
  with_unfolding_all rfl
theorem ps_delS {o lo : Expr} {to tl : TE} {spos tpos : Pos} (ho : PE X o to) (hlo : PE X lo tl) : PS X (.Delete [.Subscript o (.Slice (some lo) none none spos) tpos] pos) (tDelS to tl) := by
  refine ⟨fun pins s σ H D I h => ?_⟩
  refine wpAny_Delete (wpAny_deleteEach_cons (wpAny_delete_Subscript (thn (ho.run pins s σ H _ I h) fun u s1 ⟨x, H1, I1, rx, q1⟩ => ?_)))
  refine wpAny_Slice (thn ((po_some hlo).run pins s1 σ H1 _ I1 q1) fun vl s2 ⟨i, H2, I2, pl, l, xs, j, e1, e2, hH, h0, hle, q2⟩ => ?_)
  subst e1 e2
  cases (show u = Value.ref l from rx)
  rw [evalPart_none]
  refine wpAny_pure (wpAny_pure ?_)
  have I3 : Inv X pins σ H2 { s2 with heap := s2.heap.push { cls := .type "slice", data := .fields #[vl, .none, .none] } } := I2.kept (t' := s2.toks) fun b ob q => Heap.get?_push_of_some _ q
  obtain ⟨z, its, n, r, hl, e⟩ := I3.lstM hH
  obtain ⟨a, rfl⟩ := Int.eq_ofNat_of_zero_le h0
  have hlen : its.length = xs.length := hl.symm
  refine del_from (n := n) (a := a) e (Heap.IsSliceOf.new ..) pl (by rw [List.size_toArray]; omega) (by rw [List.size_toArray]; omega) fun f hf => ?_
  refine wpAny_deleteEach_nil ⟨σ, _, ?_, q2⟩
  refine I3.lset (its' := its.take a) (f := f) hH e hf (r.take _) ?_
  rw [List.length_take]
  omega
end
end PVL
end

section
set_option Elab.async false
set_option linter.all false
set_option maxRecDepth 100000
set_option maxHeartbeats 4000000
namespace PVL
open PySem PySem.Spec PyProof.Rows L2
/-! ## len(set(t)) of a tuple of texts -/
theorem dcount_snoc (x : Str) : ∀ l : List Str, dcount (l ++ [x]) = if x ∈ l then dcount l else dcount l + 1
  | [] => rfl
  | y :: l => by
    have ih := dcount_snoc x l
    show (if y ∈ l ++ [x] then dcount (l ++ [x]) else dcount (l ++ [x]) + 1) = if x ∈ y :: l then dcount (y :: l) else dcount (y :: l) + 1
    have e0 : dcount (y :: l) = if y ∈ l then dcount l else dcount l + 1 := rfl
    rw [ih, e0]
    by_cases hy : y ∈ l
    · by_cases hx : x ∈ l
      · simp [hy, hx]
      · by_cases e : x = y
        · subst e; exact absurd hy hx
        · simp [hy, hx, e]
    · by_cases hx : x ∈ l
      · by_cases e : y = x
        · subst e; exact absurd hx hy
        · simp [hy, hx, e]
      · by_cases e : y = x
        · subst e; simp [hy]
        · have e' : ¬ x = y := fun z => e z.symm
          simp [hy, hx, e, e']
theorem dcount_le : ∀ l : List Str, dcount l ≤ l.length
  | [] => Nat.le_refl _
  | y :: l => by
    unfold dcount
    have := dcount_le l
    split <;> simp <;> omega
section
variable {prog : Program} {w : World} {A : Around} {Rz : Result → Shared → Prop} {it : Addr} {fq wq : List Addr} {Gg : Array GenState → Array GenState → Prop} {m : Nat} {Pv : Nat → Value → Prop} {Sv : Nat → Shared → Prop}
/-- the loop of set(..) over texts -/
theorem set_loop (Wk : WalksS prog w A.in1 it fq wq Gg m Pv Sv) (D : Addr) (hD : D ∉ fq) (ys : List Str) (hm : ys.length = m) (hb : m + 1 < scanBound)
    (hv : ∀ i v, Pv i v → ∃ t, v = .str (ys.getD i Str.empty) t) :
    ∀ (left i : Nat) (st : Shared), m - i = left → i ≤ m → Sv i st →
      st.heap.SetOf (PySem.strKind prog w) D (fun k => decide (k ∈ ys.take i)) (dcount (ys.take i)) →
      (∀ st', Moved (D :: wq) Gg st st' → st'.heap.SetOf (PySem.strKind prog w) D (fun k => decide (k ∈ ys)) (dcount ys) → Rz (.ok (.ret .none)) st') →
      codeAny (model prog w) A (.builtin "set.update.loop" ⟨[.ref D, .ref it], []⟩) Rz st := by
  have hDw : D ∉ wq := fun z => hD (Wk.sub _ z)
  have sub : ∀ b ∈ wq, b ∈ D :: wq := fun _ z => List.mem_cons_of_mem _ z
  have moved : ∀ {st st' : Shared} {S : Str → Bool} {c : Nat}, Moved wq Gg st st' → st.heap.SetOf (PySem.strKind prog w) D S c → st'.heap.SetOf (PySem.strKind prog w) D S c := fun mv ⟨o, es, ep, tb, ho, rest⟩ => ⟨o, es, ep, tb, mv.heap D _ hDw ho, rest⟩
  intro left
  induction left with
  | zero =>
    intro i st hl hi hst hS hR
    have him : i = ys.length := by omega
    refine codeAny_builtin PyProof.Rows.F.entry_set_update_loop ?_
    rw [Around.under_plainId PyProof.Rows.F.plain_set_update_loop _]
    have hst' : Sv m st := by rw [show m = i by omega]; exact hst
    rw [him, List.take_length] at hS
    show wpAny _ A.in1 (pyNext (Value.ref it) >>= _) _ _ st
    refine wpAny_bind (Wk.done st _ _ hst' fun st' mv => ?_)
    show wpAny _ A.in1 (ret .none) _ _ st'
    exact wpAny_pure (hR st' (mv.mono sub) (moved mv hS))
  | succ left ih =>
    intro i st hl hi hst hS hR
    have hlt : i < m := by omega
    have hlt' : i < ys.length := by omega
    refine codeAny_builtin PyProof.Rows.F.entry_set_update_loop ?_
    rw [Around.under_plainId PyProof.Rows.F.plain_set_update_loop _]
    show wpAny _ A.in1 (pyNext (Value.ref it) >>= _) _ _ st
    refine wpAny_bind (Wk.item i st _ _ hlt hst fun v st' hP hst' mv => ?_)
    obtain ⟨t, rfl⟩ := hv i v hP
    have hS' := moved mv hS
    show wpAny _ A.in1 (holding [Value.str (ys.getD i Str.empty) t] (setAdd D (.str (ys.getD i Str.empty) t)) >>= _) _ _ st'
    refine wpAny_bind (wpAny_holding ?_)
    unfold setAdd
    refine wpAny_holding (wpAny_bind ((PySem.strKind prog w).pyHash (k := ys.getD i Str.empty) (strKind_is _ _ _ _) ?_))
    have room : dcount (ys.take i) + 1 < scanBound := by
      have h1 := dcount_le (ys.take i)
      rw [List.length_take] at h1
      omega
    refine wpAny_setAddHashed_of (knd := PySem.strKind prog w) (s := { st' with toks := st'.toks + 1 }) (strKind_is _ _ _ _) rfl hS' room fun h' sb hS2 => ?_
    have et : ys.take (i + 1) = ys.take i ++ [ys.getD i Str.empty] := by
      rw [List.take_add_one, List.getElem?_eq_getElem hlt', List.getD_eq_getElem?_getD, List.getElem?_eq_getElem hlt']
      rfl
    have hS3 : h'.SetOf (PySem.strKind prog w) D (fun k => decide (k ∈ ys.take (i + 1))) (dcount (ys.take (i + 1))) := by
      refine SetOf_congr hS2 (fun k => ?_) ?_
      · rw [et]
        simp [List.mem_append]
      · rw [et, dcount_snoc]
        simp
    refine wpAny_pure ⟨plainId_quiet PyProof.Rows.F.plain_set_update_loop _, ih (i + 1) _ (by omega) hlt (Wk.frame _ st' _ _ hst' (Nat.le_succ _) fun b hb2 o e => ?_) hS3 fun st'' mv2 hS4 => ?_⟩
    · exact (sb.2 b (fun z => hD (z ▸ hb2))).trans e
    · refine hR st'' (Moved.trans Wk.gtrans ((mv.mono sub).then_heap (Nat.le_succ _) fun b o hb2 e => ?_) mv2) hS4
      exact (sb.2 b (fun z => hb2 (z ▸ List.mem_cons_self))).trans e
end
section
variable {prog : Program} {w : World} {A : Around} {E : Value → Shared → Prop} {st : Shared}
set_option maxHeartbeats 8000000 in
theorem set_of_texts {p : Addr} {vals : Array Value} {ys : List Str} {Q : Value → Shared → Prop} (nh : A.handled = none) (ht : st.heap.IsTuple p vals) (hy : PyProof.Rows.StrsAre vals.toList ys) (hb : ys.length + 1 < scanBound)
    (h : ∀ (h' : Heap) (tk : Nat), h'.SetOf (PySem.strKind prog w) st.heap.objs.size (fun k => decide (k ∈ ys)) (dcount ys) → (∀ b o, b < st.heap.objs.size → st.heap.get? b = some o → h'.get? b = some o) →
      Q (.ref st.heap.objs.size) { st with heap := h', toks := tk }) : wpAny (model prog w) A (call (.type "set") [.ref p]) Q E st := by
  obtain ⟨c0, t0, mro⟩ := PySem.F.called_set.mro
  have made := PySem.F.called_set.made
  have subS := PySem.F.called_set.sub
  refine wpAny_call (codeAny_of_tree (?_ : wpAny _ _ (callAny (.type "set") _) _ _ _))
  refine wpAny_pure ⟨Code.quiet_builtin _ (by decide +kernel), codeAny_builtin PySem.F.entry_type_call ?_⟩
  rw [Around.under_plain (weight_type_call_type "set" [.ref p] []) rfl]
  have nt := PySem.F.called_set.notType
  have cc := PySem.F.called_set.canCreate
  have tc := PySem.F.typeCall_set_1 (.ref p)
  repeat (any_goals first | assumption | wp_step)
  refine codeAny_mono (code_set_new_1 (.ref p) (E := E) (Q₁ := fun ob s1 => ∃ b : Bool, ob = .ref st.heap.objs.size ∧ s1 = { st with heap := st.heap.push { cls := .type "set", dict := none, data := .set #[] 0 (.fresh 0 0 b) } }) fun b => ⟨b, rfl, rfl⟩) fun r s1 hr => ?_
  cases r with
  | error e => exact hr
  | ok fl =>
    cases fl with
    | ret ob =>
      obtain ⟨b, rfl, rfl⟩ := hr
      generalize hN : ({ cls := .type "set", dict := none, data := .set #[] 0 (.fresh 0 0 b) } : Obj) = N
      have hS : (st.heap.push N).get? st.heap.objs.size = some N := Heap.get?_push_size _ (by rw [← hN]; rfl)
      have hT : Shared.TypeIs { st with heap := st.heap.push N } (.ref st.heap.objs.size) "set" := ⟨_, hS, by rw [← hN]⟩
      have li := PySem.F.called_set.init.lookup
      have bi := PySem.F.called_set.init.bind (.ref st.heap.objs.size)
      repeat (any_goals first | assumption | wp_step)
      refine codeAny_mono (codeAny_call_builtin (R := wants (fun r s2 => r = .none ∧ ∃ h' tk, s2 = { st with heap := h', toks := tk } ∧ h'.SetOf (PySem.strKind prog w) st.heap.objs.size (fun k => decide (k ∈ ys)) (dcount ys) ∧
          (∀ b o, b < st.heap.objs.size → st.heap.get? b = some o → h'.get? b = some o)) E) PySem.F.called_set.init.plain PySem.F.entry_set_init (check_set_init_1 hT ?_)) fun r2 s2 hr2 => ?_
      · subst hN
        obtain ⟨ol, hol, hcl, nl, hdl⟩ := ht
        obtain ⟨oc, od, odt, osl⟩ := ol
        simp only at hcl hdl
        subst hcl; subst hdl
        have hol' := Heap.get?_push_of_some { cls := .type "set", dict := none, data := .set #[] 0 (.fresh 0 0 b) } hol
        have f1 := PySem.F.sub_tuple_set
        have f2 := PySem.F.sub_tuple_frozenset
        have f3 : (Value.type "tuple" == Value.type "dict") = false := by decide
        have ht1 : (st.heap.push { cls := .type "set", dict := none, data := .set #[] 0 (.fresh 0 0 b) }).IsTuple p vals := ⟨_, hol', rfl, nl, rfl⟩
        unfold Builtin.«set.__init__» noKeywords Builtin.Frozenset.updateFrom
        generalize hPI : pyIter = PI
        wp_walk
        subst hPI
        refine wpAny_pyIter_tuple ht1 ?_
        refine wpAny_bind (wpAny_runValue ?_)
        have hp : p < st.heap.objs.size := Heap.lt_size hol
        have nh3 : A.in1.in1.in1.handled = none := by simp [nh]
        have hp2 : p ≠ (st.heap.push { cls := .type "set", dict := none, data := .set #[] 0 (.fresh 0 0 b) }).objs.size := fun z => by
          rw [Heap.size_push] at z
          exact absurd z (Nat.ne_of_lt (Nat.lt_succ_of_lt hp))
        have hD : st.heap.objs.size ∉ [(st.heap.push { cls := .type "set", dict := none, data := .set #[] 0 (.fresh 0 0 b) }).objs.size, p] := by
          rw [Heap.size_push]
          intro z
          rcases List.mem_cons.mp z with y | y
          · exact absurd y (Nat.ne_of_lt (Nat.lt_succ_self _))
          · exact absurd (List.mem_singleton.mp y) (Nat.ne_of_gt hp)
        have hsz : ys.length = vals.size := by rw [← StrsAre.len_eq hy, Array.length_toList]
        have hv : ∀ (i : Nat) (v : Value), vals[i]? = some v → ∃ t, v = .str (ys.getD i Str.empty) t := fun i v e => SS.strs_at hy i v (by rw [Array.getElem?_toList]; exact e)
        refine set_loop ((Walks.tuple nh3 _ p hp2 vals).toS) st.heap.objs.size hD ys hsz (by omega) hv (vals.size - 0) 0 _ (by omega) (Nat.zero_le _) ⟨⟨_, Heap.get?_push_size _ rfl, rfl, rfl⟩, ht1.push _⟩ ?first ?last
        case first =>
          have hg := Heap.get?_push_of_some { cls := .type "tuple_iterator", data := .fields #[.ref p, .int 0 0] } hS
          exact PyProof.Rows.SetOf_congr ((PyProof.Rows.setObjOf_fresh (knd := PySem.strKind prog w) b).setOf hg (by unfold scanBound; omega)) (fun _ => by simp) rfl
        case last =>
          intro s' mv hS'
          obtain ⟨h', g', d', tk', os'⟩ := s'
          have eg : g' = st.gens := mv.gens
          have ed : d' = st.drawn := mv.drawn
          have eo : os' = st.os := mv.os
          subst eg; subst ed; subst eo
          refine wpAny_pure (?_ : wpAny _ _ (ret Value.none) _ _ _)
          refine wpAny_pure ⟨rfl, h', tk', rfl, hS', fun b o hb' e => ?_⟩
          refine mv.heap b o ?_ (Heap.get?_push_of_some _ (Heap.get?_push_of_some _ e))
          rw [Heap.size_push]
          intro z
          rcases List.mem_cons.mp z with y | y
          · exact absurd y (Nat.ne_of_lt hb')
          · exact absurd (List.mem_singleton.mp y) (Nat.ne_of_lt (Nat.lt_succ_of_lt hb'))
      · cases r2 with
        | error e => exact hr2
        | ok fl2 =>
          cases fl2 with
          | ret r =>
            obtain ⟨rfl, h', tk, rfl, hS', hk'⟩ := hr2
            repeat (any_goals first | assumption | wp_step)
            exact h _ _ hS' hk'
          | _ => exact hr2.elim
    | _ => exact hr.elim
end
section
variable {X : Cx}
theorem pe_lenSetT {a : Expr} {ta : TE} {p p2 q pos : Pos} (hc : X.calm = true) (hg : Gl X "len") (hm : X.mg "len" = none) (hg2 : Gl X "set") (hm2 : X.mg "set" = none) (ha : PE X a ta)
    (na : starEach [a] X.env = (false, eval a X.env) :: starEach [] X.env := by rfl) : PE X (.Call (.Name "len" p) [.Call (.Name "set" p2) [a] [] q] [] pos) (fun σ H Q => ta σ H fun x H1 => rLenSet X.K x H1 Q) := by
  refine ⟨fun pins s σ H Q I h => Call_ (ld_blt I hg hm boot_len (PyProof.Rows.callWith_builtin1 (PyProof.Rows.args_cons ?_ rfl) rfl rfl))⟩
  refine Call_ (ld_blt I hg2 hm2 boot_set (PyProof.Rows.callWith_type1 (PyProof.Rows.args_cons (thn (ha.run pins s σ H _ I h) fun v s1 ⟨x, H1, I1, r1, q1⟩ => PyProof.Rows.args_nil ?_) na) na rfl))
  obtain ⟨l, xs, rfl, hq, h1, q1⟩ := q1
  cases r1
  obtain ⟨its, rv, pl, hz⟩ := I1.tuple hq
  have hl : xs.length = its.length := by rw [← rv.length, List.length_map]
  refine set_of_texts (I1.ok.hd hc) (show s1.heap.IsTuple l its.toArray from pl) (ys := xs) (by simpa using strsAre_of rv) (by unfold scanBound; omega) fun h' tk hS hk => ?_
  refine PyProof.Rows.args_nil ?_
  obtain ⟨o, es, ep, t, ho, hex, hd, _, _, _, hf, hn⟩ := hS
  have I2 : Inv X pins σ H1 { s1 with heap := h', toks := tk } := I1.kept fun b o e => hk b o (Heap.lt_size e) e
  have := dcount_le xs
  exact call_len_set ho hex hd hf (by rw [hn]; omega) ⟨.int (dcount xs : Nat), H1, I2.tok _, ⟨_, by rw [hn]⟩, q1⟩
end
end PVL
end

section
set_option Elab.async false
set_option linter.all false
set_option maxRecDepth 100000
set_option maxHeartbeats 4000000
namespace PVL
open PySem PySem.Spec PyProof.Rows L2
/-! ## max(l, default=k) -/
theorem reads_ints (h : Heap) : ∀ {ns : List Int} {us : List Value}, Vals (ns.map V.int) us → ReadsAll h us (ns.map PyData.int) []
  | [], _, .nil => .nil
  | i :: r, _, .cons (b := u) ra rb => by
    obtain ⟨t, rfl⟩ := ra
    exact ReadsAll.cons (as := []) (bs := []) (.int i t) (reads_ints h rb)
theorem foldl_max_spec : ∀ (r : List Int) (i : Int), (r.foldl max i = i ∨ r.foldl max i ∈ r) ∧ i ≤ r.foldl max i ∧ ∀ y ∈ r, y ≤ r.foldl max i
  | [], i => ⟨.inl rfl, Int.le_refl _, fun y h => by cases h⟩
  | j :: r, i => by
    obtain ⟨h1, h2, h3⟩ := foldl_max_spec r (max i j)
    have e : (j :: r).foldl max i = r.foldl max (max i j) := rfl
    rw [e]
    have m1 : i ≤ max i j := Int.le_max_left _ _
    have m2 : j ≤ max i j := Int.le_max_right _ _
    refine ⟨?_, Int.le_trans m1 h2, fun y hy => ?_⟩
    · rcases h1 with h | h
      · rw [h]
        rcases Int.le_total i j with q | q
        · right; rw [Int.max_eq_right q]; exact List.mem_cons_self
        · left; exact Int.max_eq_left q
      · right; exact List.mem_cons_of_mem _ h
    · rcases List.mem_cons.mp hy with z | z
      · rw [z]; exact Int.le_trans m2 h2
      · exact h3 y z
theorem reads_int_inv {h : Heap} {v : Value} {m : Int} {bs : List Addr} (r : Reads h v (.int m) bs) : ∃ t, v = .int m t := by
  cases r
  exact ⟨_, rfl⟩
section
variable {X : Cx}
theorem cr_maxK (hc : X.calm = true) (hu : X.A.units + 65 < cLine) : CallRK X (.builtin "max") ["default"] (rMaxK X.K) := by
  intro pins s σ H xs zs us ws Q I rx rz h
  obtain ⟨l, ns, k, rfl, rfl, hs, q⟩ := h
  obtain ⟨its, rv, hl, _⟩ := I.list hs
  rw [Vals.ref1 rx]
  cases rz with
  | @cons _ d _ _ rd rn =>
    cases rn
    obtain ⟨t, rfl⟩ := (show ∃ t, d = Value.int k t from rd)
    have rr := reads_ints s.heap rv
    show wpAny _ _ (call (.builtin "max") [.ref l] [(Str.ofString "default", .int k t)]) _ _ s
    refine PySem.W.max_list_default (xs := ns.map PyData.int) (as := []) (I.ok.hd hc) hl.isList (by simpa using rr) ⟨fun x hx y hy => ?_, fun x hx => ?_⟩ (by rw [depthAll_ints]; omega) (fun he h' tk hk => ?_) fun y ys i v h' tk bs he hv hr hk => ?_
    · obtain ⟨i, _, rfl⟩ := List.mem_map.mp hx
      obtain ⟨j, _, rfl⟩ := List.mem_map.mp hy
      rfl
    · obtain ⟨i, _, rfl⟩ := List.mem_map.mp hx
      intro z
      cases z
    · have hn : ns = [] := List.map_eq_nil_iff.mp he
      exact ⟨.int k, H, I.kept hk, ⟨_, rfl⟩, q k (fun _ => rfl) fun z => absurd hn z⟩
    · cases ns with
      | nil => cases he
      | cons i r =>
        simp only [List.map_cons, List.cons.injEq] at he
        obtain ⟨rfl, rfl⟩ := he
        rw [PySem.W.maxD_ints] at hr
        obtain ⟨t2, rfl⟩ := reads_int_inv hr
        have sp := foldl_max_spec r i
        refine ⟨.int _, H, I.kept hk, ⟨_, rfl⟩, q _ (fun z => by cases z) fun _ => ⟨?_, fun y hy => ?_⟩⟩
        · rcases sp.1 with z | z
          · rw [z]; exact List.mem_cons_self
          · exact List.mem_cons_of_mem _ z
        · rcases List.mem_cons.mp hy with z | z
          · rw [z]; exact sp.2.1
          · exact sp.2.2 y z
end
end PVL
end

section
set_option Elab.async false
set_option linter.all false
set_option maxRecDepth 100000
set_option maxHeartbeats 4000000
namespace PVL
open PySem PySem.Spec PyProof.Rows L2
/-! ## t[::-1] -/
section
variable {prog : Program} {w : World} {A : Around} {E : Value → Shared → Prop} {st : Shared}
theorem back_parts {sl : Addr} {vl vu vs : Value} {n : Nat} {Q : Int × Int × Nat → Shared → Prop} (hs : st.heap.IsSliceOf sl vl vu vs) (pl : IsPart vl none) (pu : IsPart vu none) (ps : IsPart vs (some (-1))) (hn : 0 < n)
    (h : Q (((n : Int) - 1), -1, n) st) : wpAny (model prog w) A (Builtin.Slice.sliceApplied (.ref sl) (pure (n : Int))) Q E st := by
  obtain ⟨os, hos, hcs, hds⟩ := id hs
  unfold Builtin.Slice.sliceApplied Builtin.Slice.sliceFields
  refine wpAny_bind (wpAny_bind (wpAny_field hos hds (x := vl) rfl (wpAny_bind (wpAny_field hos hds (x := vu) rfl (wpAny_bind (wpAny_field hos hds (x := vs) rfl (wpAny_pure ?_)))))))
  refine wpAny_bind (HT.slicePart_ ps ?_)
  show wpAny _ _ (if ((-1 : Int) == 0) = true then _ else _) _ _ st
  rw [if_neg (by decide)]
  refine wpAny_bind (HT.slicePart_ pl (wpAny_bind (HT.slicePart_ pu (wpAny_bind (wpAny_pure ?_)))))
  show wpAny _ _ (match Builtin.Slice.sliceAdjust none none (-1) (n : Int) with | (lo, hi) => pure (lo, (-1 : Int), Builtin.Slice.slicePlaces lo hi (-1))) _ _ st
  have e1 : Builtin.Slice.sliceAdjust none none (-1) (n : Int) = ((n : Int) - 1, -1) := by
    unfold Builtin.Slice.sliceAdjust
    simp
  have e2 : Builtin.Slice.slicePlaces ((n : Int) - 1) (-1) (-1) = n := by
    unfold Builtin.Slice.slicePlaces
    simp
    omega
  rw [e1]
  show wpAny _ _ (pure ((n : Int) - 1, (-1 : Int), Builtin.Slice.slicePlaces ((n : Int) - 1) (-1) (-1))) _ _ st
  rw [e2]
  exact wpAny_pure h
theorem back_pick (xs : Array Value) : ((List.range xs.size).filterMap fun (k : Nat) => xs[(((xs.size : Int) - 1) + (k : Int) * -1).toNat]?).toArray = xs.toList.reverse.toArray := by
  congr 1
  have e : ∀ k, k < xs.size → xs[(((xs.size : Int) - 1) + (k : Int) * -1).toNat]? = xs.toList.reverse[k]? := fun k hk => by
    have h1 : (((xs.size : Int) - 1) + (k : Int) * -1).toNat = xs.size - 1 - k := by omega
    rw [h1, List.getElem?_reverse (by simpa using hk), Array.length_toList, Array.getElem?_toList]
  have gen : ∀ n, n ≤ xs.size → ((List.range n).filterMap fun (k : Nat) => xs[(((xs.size : Int) - 1) + (k : Int) * -1).toNat]?) = xs.toList.reverse.take n := by
    intro n
    induction n with
    | zero => intro _; simp
    | succ n ih =>
      intro hn
      rw [List.range_succ, List.filterMap_append, ih (by omega), List.take_add_one]
      congr 1
      rw [List.filterMap_cons, e n (by omega), List.filterMap_nil]
      cases xs.toList.reverse[n]? <;> rfl
  rw [gen xs.size (Nat.le_refl _), List.take_of_length_le (by simp)]
theorem getItem_back {p sl : Addr} {xs : Array Value} {vl vu vs : Value} {Q : Value → Shared → Prop} (ht : IsTup st.heap p xs) (hs : st.heap.IsSliceOf sl vl vu vs) (pl : IsPart vl none) (pu : IsPart vu none) (ps : IsPart vs (some (-1)))
    (hn : 0 < xs.size) (hz : xs.size ≤ sizeLine) (h : Q (.ref st.heap.objs.size) { st with heap := st.heap.push { cls := .type "tuple", data := .seq xs.toList.reverse.toArray } }) : wpAny (model prog w) A (getItem (.ref p) (.ref sl)) Q E st := by
  have zok : sizeOk (.seq xs.toList.reverse.toArray) := by
    show xs.toList.reverse.toArray.size ≤ sizeLine
    simpa using hz
  obtain ⟨os, hos, hcs, hds⟩ := id hs
  have hTs : st.TypeIs (.ref sl) "slice" := ⟨os, hos, hcs⟩
  unfold getItem
  try with_reducible refine wpAny_holding ?_
  first | refine wpAny_bind (wpAny_pure ?_) | skip
  refine wpAny_bind (wpAny_sequenceKey ht.typeIs (by decide) ?_)
  refine wpAny_bind (wpAny_callSpecial?_slot (name := Str.ofString "__getitem__") ht.typeIs PyProof.Rows.slot_tuple_getitem (wpAny_call_entry PyProof.Rows.slot_tuple_getitem ht.typeIs entry_tuple_getitem ?_ (args_tuple_getitem _ _)))
  show wpAny _ _ (Builtin.Tuple.tupleItemsOf (.ref p) >>= _) _ _ st
  refine wpAny_bind (PyProof.Rows.tupleItemsOf_ ht (wpAny_bind (wpAny_typeOf hTs ?_)))
  rw [if_pos (by decide)]
  refine wpAny_bind (back_parts hs pl pu ps hn ?_)
  have no : ¬ ((((xs.size : Int) - 1) == 0 && (-1 : Int) == 1 && xs.size == xs.size) = true) := by
    rw [show ((-1 : Int) == 1) = false from rfl, Bool.and_false, Bool.false_and]
    exact Bool.false_ne_true
  show wpAny _ _ (if ((((xs.size : Int) - 1) == 0 && (-1 : Int) == 1 && xs.size == xs.size) = true) then _ else _) _ _ st
  rw [if_neg no, back_pick]
  first
    | exact wpAny_bind (m := Builtin.Tuple.tupleExact _) (wpAny_newObj_type (wpAny_pure ⟨_, rfl, wpAny_pure h⟩) zok)
    | exact wpAny_bind (wpAny_bind (m := Builtin.Tuple.tupleExact _) (wpAny_newObj_type (wpAny_pure (wpAny_pure ⟨_, rfl, wpAny_pure h⟩)) zok))
end
section
variable {X : Cx}
theorem pe_ridx {e e2 : Expr} {te t2 : TE} {k : Nat} {p1 p2 p3 spos apos cpos : Pos} (he : PE X e te) (ha : PA X [e2] (tCons t2 tNil))
    (hbase : attributeBase (.Subscript e (.Slice none none (some (.UnaryOp .USub (.Constant (.int 1) k p1) p2)) p3) spos) "index" X.env (eval (.Subscript e (.Slice none none (some (.UnaryOp .USub (.Constant (.int 1) k p1) p2)) p3) spos) X.env)
      = eval (.Subscript e (.Slice none none (some (.UnaryOp .USub (.Constant (.int 1) k p1) p2)) p3) spos) X.env := by rfl)
    (hfew : ((backTo cpos (starEach [e2] X.env)).all (fun x => !x.1) && (backToKw cpos (keywordEach [] X.env)).all (fun x => x.1.isSome) && decide ([e2].length + ([] : List Keyword).length + (if ([] : List Keyword).isEmpty then 0 else 1) < 30)) = true := by rfl)
    (hline : (apos.endLine == cpos.line) = true := by rfl) (hs : starEach [e2] X.env = (false, eval e2 X.env) :: starEach [] X.env := by rfl) :
    PE X (.Call (.Attribute (.Subscript e (.Slice none none (some (.UnaryOp .USub (.Constant (.int 1) k p1) p2)) p3) spos) "index" apos) [e2] [] cpos)
      (tRIdx X.K te t2) := by
  refine ⟨fun pins s σ H Q I h => wpAny_Call_method_late hbase hfew hline rfl (Subscript_ (thn (he.run pins s σ H _ I h) fun v s1 ⟨x, H1, I1, r1, q1⟩ => ?_))⟩
  obtain ⟨a, ks, ex, hx, hne, q1⟩ := q1
  subst ex
  cases r1
  have hst : PO X (some (.UnaryOp .USub (.Constant (.int 1) k p1) p2)) (tPart (tUn (rU fun i => .int (-i)) (tC (.int 1)))) := po_some (pe_un un_neg pe_int)
  refine wpAny_Slice (thn (po_none.run pins s1 σ H1 (fun o G => o = none ∧ G = H1) I1 ⟨rfl, rfl⟩) fun vl s2 ⟨l, H2, I2, pl, el, e2'⟩ => ?_)
  subst el e2'
  refine thn (po_none.run pins s2 σ H2 (fun o G => o = none ∧ G = H2) I2 ⟨rfl, rfl⟩) fun vu s3 ⟨u, H3, I3, pu, eu, e3⟩ => ?_
  subst eu e3
  refine thn (hst.run pins s3 σ H3 (fun o G => o = some (-1) ∧ G = H3) I3 ⟨1, rfl, -1, rfl, rfl, rfl⟩) fun vs s4 ⟨o, H4, I4, ps, eo, e4⟩ => ?_
  subst eo e4
  generalize hN : ({ s4 with heap := s4.heap.push { cls := .type "slice", data := .fields #[vl, vu, vs] } } : Shared) = s5
  have I5 : Inv X pins σ H4 s5 := by
    rw [← hN]
    exact I4.kept (t' := s4.toks) fun b ob q => Heap.get?_push_of_some _ q
  have hsl : s5.heap.IsSliceOf s4.heap.objs.size vl vu vs := by
    rw [← hN]
    exact Heap.IsSliceOf.new _ vl vu vs
  obtain ⟨its, r, ht, hz⟩ := I5.tuple hx
  have hlen := r.length
  show wpAny (model X.prog X.w) X.A (subscriptTail e (.Slice none none (some (.UnaryOp .USub (.Constant (.int 1) k p1) p2)) p3) (.ref a) (.ref s4.heap.objs.size)) _ X.xe s5
  refine tail_any (ops := [.ref a, .ref s4.heap.objs.size]) ht.typeIs (PyProof.Rows.slot_tuple_getitem.lookup) ?_ (by with_unfolding_all rfl)
  have h0 : 0 < its.toArray.size := by
    rw [List.size_toArray, ← hlen, List.length_map]
    exact List.length_pos_iff.mpr hne
  refine getItem_back ht hsl pl pu ps h0 (by rw [List.size_toArray, ← hlen]; exact hz) ?_
  -- the new tuple, pinned
  generalize hT : s5.heap.objs.size = T
  generalize hO : ({ cls := .type "tuple", data := .seq its.toArray.toList.reverse.toArray } : Obj) = O
  have hg : (s5.heap.push O).get? T = some O := by
    rw [← hT]
    exact Heap.get?_push_size _ (by rw [← hO]; rfl)
  have I6 : Inv X pins σ H4 { s5 with heap := s5.heap.push O } := I5.kept (t' := s5.toks) fun b ob q => Heap.get?_push_of_some _ q
  have nT : H4 T = none := I5.hok.fresh (Nat.le_of_eq hT)
  have fp := I5.fpOk (Nat.le_of_eq hT) nT
  have I7 : Inv X (pins ++ [(T, O)]) σ H4 { s5 with heap := s5.heap.push O } := I6.pins_of fun p hp => by
    rcases List.mem_append.mp hp with z | z
    · exact I6.pin p (List.mem_append_right _ z)
    · simp only [List.mem_singleton] at z
      subst z
      exact ⟨hg, nT, fp.2.1, fp.2.2.1, by rw [← hO]; intro v z; cases z⟩
  have hTy : Shared.TypeIs { s5 with heap := s5.heap.push O } (.ref T) "tuple" := ⟨_, hg, by rw [← hO]⟩
  refine ⟨"tuple", "tuple.index", PySem.F.plainAttrs_tuple, PySem.F.slot_tuple_index, PySem.F.type_tuple_index, hTy, fun b eb => ?_, ?_⟩
  · cases eb
    exact ⟨O, hg, by rw [← hO]⟩
  have hA := ha.run cpos (pins ++ [(T, O)]) _ σ H4 (fun zs G => match zs with
    | [y] => ∃ (z : Str) (j : Nat), y = .str z ∧ ks.reverse[j]? = some z ∧ (∀ m, m < j → ks.reverse[m]? ≠ some z) ∧ Q (.int (j : Nat)) G
    | _ => False) I7 q1
  rw [hs] at hA ⊢
  refine Calls.callWith_builtin rfl (Calls.evalArgs_plain ?_)
  refine thn hA fun us s8 ⟨zs, H8, I8, r8, q8⟩ => ?_
  cases zs with
  | nil => exact q8.elim
  | cons y zs =>
    cases zs with
    | cons y2 zs => exact q8.elim
    | nil =>
      obtain ⟨z, j, ey, hj, hno, q9⟩ := q8
      subst ey
      obtain ⟨uu, rfl, t, rfl⟩ := vals1 r8
      have h8 := (I8.pin (T, O) (List.mem_append_right _ (List.mem_append_right _ (List.mem_singleton.mpr rfl)))).1
      rw [← hO] at h8
      have rr : Vals (ks.reverse.map V.str) its.reverse := by
        rw [List.map_reverse]
        exact r.reverse
      have hl : its.reverse.toArray.size = ks.reverse.length := by rw [List.size_toArray, ← rr.length, List.length_map]
      have hjl : j < its.reverse.toArray.size := by rw [hl]; exact (List.getElem?_eq_some_iff.mp hj).1
      have item : ∀ (m : Nat) (hm : m < its.reverse.toArray.size), ∃ y t', ks.reverse[m]? = some y ∧ its.reverse.toArray[m] = Value.str y t' := fun m hm => by
        have hm' : m < ks.reverse.length := by rw [← hl]; exact hm
        obtain ⟨w, hw, t', hw'⟩ := rr.get (i := m) (x := .str ks.reverse[m]) (by rw [List.getElem?_map, List.getElem?_eq_getElem hm']; rfl)
        exact ⟨ks.reverse[m], t', List.getElem?_eq_getElem hm', ((List.getElem?_eq_some_iff.mp hw).2 : its.reverse.toArray[m] = w).trans hw'⟩
      refine call_meets PySem.F.slot_tuple_index ⟨_, h8, rfl⟩ PySem.F.entry_tuple_index (PySem.F.args_tuple_index_2 _ _) (TI.tuple_indexAt T its.reverse.toArray 0 none #[] (.str z t) (eqU (.str z)) j hjl ?_ ?_)
        ⟨h8, fun w hw => mem_eqAt (x := .str z) ⟨t, rfl⟩ rfl rr (flat_strs _) w (by simpa using hw), ⟨.int (j : Nat), H8, I8.unpinned.tok _, ⟨_, rfl⟩, q9⟩⟩
      · obtain ⟨y, t', h1, h2⟩ := item j hjl
        rw [hj] at h1
        cases h1
        rw [h2]
        show (z == z) = true
        exact beq_self_eq_true z
      · intro m hm hmj
        obtain ⟨y, t', h1, h2⟩ := item m hm
        rw [h2]
        show (y == z) = false
        exact beq_eq_false_iff_ne.mpr fun e => hno m hmj (e ▸ h1)
end
end PVL
end

section
set_option Elab.async false
set_option linter.all false
set_option maxRecDepth 100000
set_option maxHeartbeats 2000000
namespace PVL
open PySem PySem.Spec PyProof.Rows L2
theorem clK_of {K : PySem.W.Frag} {c : Nat} {C : Addr} (h : PySem.W.nsIn K mainGlobals (cnm c) = some (some (.ref C))) : clK K c = C := by
  unfold clK
  rw [h]
theorem kitOne_self {K : PySem.W.Frag} {C : Addr} : PySem.W.kitOne K (.ref C) (.ref C) = some true := by
  unfold PySem.W.kitOne
  rw [if_pos (beq_self_eq_true _)]
theorem pe_as {X : Cx} {e : Expr} {t t' : TE} (h : PE X e t) (q : t = t') : PE X e t' := q ▸ h
theorem pts_as {X : Cx} {e : List Expr} {t t' : TT} (h : PTs X e t) (q : t = t') : PTs X e t' := q ▸ h
end PVL
end

section
set_option Elab.async false
set_option linter.all false
set_option maxRecDepth 100000
set_option maxHeartbeats 400000
/-! # The word of two cells, as most laws have it -/
namespace PVL
open PySem PySem.Spec PyProof.Rows L2
def b_word : List S := [.asg 2 (.cst (.str "abcdefghijklmnopqrstuvwxyz")), .asg 3 (.bin .fdiv (.var 0) (.cst (.int 4))), .asg 4 (.bin .mod (.var 1) (.cst (.int 8))), .iff (.cmp .eq (.bin .mod (.var 0) (.cst (.int 4))) (.cst (.int 1))) [.asgN 7 (.comp (.rng1 (.cst (.int 7))) (.nm 9) (.no) (.idx (.var 2) (.bin .mod (.bin .add (.bin .fdiv (.var 3) (.cst (.int 26))) (.bin .mul (.var 9) (.bin .add (.cst (.int 1)) (.bin .mod (.bin .fdiv (.var 3) (.cst (.int 676))) (.cst (.int 25)))))) (.cst (.int 26)))) [9]), .ret (.bin .add (.idx (.var 2) (.bin .mod (.bin .add (.var 3) (.bin .fdiv (.var 1) (.cst (.int 8)))) (.cst (.int 26)))) (.join (.cst (.str "")) (.slc (.bv 7) (.no) (.var 4))))] [], .iff (.cmp .eq (.bin .mod (.var 0) (.cst (.int 4))) (.cst (.int 2))) [.asgN 7 (.comp (.rng1 (.cst (.int 8))) (.nm 9) (.no) (.idx (.var 2) (.bin .mod (.bin .add (.bin .add (.var 3) (.var 9)) (.bin .mul (.cst (.int 8)) (.bin .fdiv (.var 1) (.cst (.int 8))))) (.cst (.int 26)))) [9]), .ret (.join (.cst (.str "")) (.bin .add (.slc (.bv 7) (.var 4) (.no)) (.slc (.bv 7) (.no) (.var 4))))] [], .iff (.cmp .eq (.bin .mod (.var 0) (.cst (.int 4))) (.cst (.int 3))) [.asgN 7 (.comp (.rng1 (.cst (.int 8))) (.nm 9) (.no) (.idx (.var 2) (.bin .mod (.bin .add (.var 3) (.bin .mul (.cst (.int 3)) (.var 9))) (.cst (.int 26)))) [9]), .asg 4 (.bin .mod (.bin .add (.bin .add (.bin .mod (.var 1) (.cst (.int 7))) (.cst (.int 1))) (.bin .fdiv (.var 1) (.cst (.int 7)))) (.cst (.int 8))), .asg 8 (.idx (.bv 7) (.var 4)), .setI 7 (.var 4) (.idx (.bv 7) (.bin .mod (.var 1) (.cst (.int 7)))), .setI 7 (.bin .mod (.var 1) (.cst (.int 7))) (.var 8), .ret (.join (.cst (.str "")) (.bv 7))] [], .asg 5 (.bin .add (.cst (.int 1)) (.bin .mod (.var 3) (.cst (.int 8)))), .asg 6 (.bin .mod (.bin .fdiv (.var 3) (.cst (.int 8))) (.var 5)), .asgN 7 (.comp (.rng1 (.var 5)) (.nm 9) (.no) (.idx (.var 2) (.bin .mod (.bin .add (.bin .fdiv (.var 3) (.cst (.int 64))) (.bin .mul (.var 9) (.bin .add (.cst (.int 1)) (.bin .mod (.bin .fdiv (.var 3) (.cst (.int 1664))) (.cst (.int 25)))))) (.cst (.int 26)))) [9]), .ret (.bin .add (.bin .add (.join (.cst (.str "")) (.slc (.bv 7) (.no) (.var 6))) (.idx (.var 2) (.bin .mod (.var 1) (.cst (.int 26))))) (.join (.cst (.str "")) (.slc (.bv 7) (.bin .add (.var 6) (.cst (.int 1))) (.no))))]
def abc : Str := "abcdefghijklmnopqrstuvwxyz"
theorem abc_def : Str.ofString "abcdefghijklmnopqrstuvwxyz" = abc := rfl
theorem abc_len : abc.cps.toList.length = 26 := by decide +kernel
theorem abc_lim : abc.length ≤ lim := by decide +kernel
theorem abc_ok : ∀ x ∈ abc.cps.toList, x < 1114112 := by decide +kernel
/-- a text of one sign -/
def sg (i : Int) : Str := ⟨#[abc.cps.toList.getD (i % 26).toNat 0]⟩
theorem sg_len (i : Int) : (sg i).length = 1 := rfl
theorem sg_idx (i : Int) : idxP (.str abc) (.int (i % 26)) = some (.str (sg i)) := by
  have h : atI abc.cps.toList (i % 26) = some (abc.cps.toList.getD (i % 26).toNat 0) := atI_getDn (by omega) (by rw [abc_len]; omega) 0
  show (if abc.length ≤ lim then (atI abc.cps.toList (i % 26)).map fun c => PyData.str ⟨#[c]⟩ else none) = _
  rw [if_pos abc_lim, h]
  rfl
theorem cutD_map {α β : Type} (f : α → β) (l : List α) (lo hi : Option Int) : PVL.cutD (l.map f) lo hi = (PVL.cutD l lo hi).map f := by
  unfold PVL.cutD
  rw [List.length_map, List.map_take, List.map_drop]
/-- texts of one sign, at most n of them -/
structure Sgs (n : Nat) (l : List Str) : Prop where
  le : l.length ≤ n
  one : ∀ x ∈ l, ∃ i, x = sg i
theorem Sgs.cut {n : Nat} {l : List Str} (h : Sgs n l) (lo hi : Option Int) : Sgs n (PVL.cutD l lo hi) :=
  ⟨by
    have := h.le
    unfold PVL.cutD
    rw [List.length_take, List.length_drop]
    omega, fun x hx => h.one x (cut_mem hx)⟩
theorem Sgs.app {m n : Nat} {l r : List Str} (h : Sgs m l) (k : Sgs n r) : Sgs (m + n) (l ++ r) :=
  ⟨by
    have := h.le
    have := k.le
    rw [List.length_append]
    omega, fun x hx => (List.mem_append.mp hx).elim (h.one x) (k.one x)⟩
theorem Sgs.set {n : Nat} {l : List Str} (h : Sgs n l) (i : Nat) (j : Int) : Sgs n (l.set i (sg j)) :=
  ⟨by rw [List.length_set]; exact h.le, fun x hx => by
    rcases List.mem_or_eq_of_mem_set hx with hx | rfl
    · exact h.one x hx
    · exact ⟨j, rfl⟩⟩
theorem Sgs.range (n : Nat) (f : Nat → Int) : Sgs n ((List.range n).map fun k => sg (f k)) :=
  ⟨by simp, fun x hx => by
    obtain ⟨k, _, rfl⟩ := List.mem_map.mp hx
    exact ⟨_, rfl⟩⟩
theorem Sgs.sum : ∀ {l : List Str}, (∀ x ∈ l, ∃ i, x = sg i) → (l.map (·.length)).sum = l.length
  | [], _ => rfl
  | x :: r, h => by
    obtain ⟨i, rfl⟩ := h _ List.mem_cons_self
    rw [List.map_cons, List.sum_cons, Sgs.sum fun y hy => h y (List.mem_cons_of_mem _ hy), List.length_cons, sg_len]
    omega
theorem Sgs.join {n : Nat} {l : List Str} (h : Sgs n l) (hn : n ≤ lim) : joinP (.str "") (.list (l.map PyData.str)) = some (.str (Txt.join Str.empty l)) := by
  unfold joinP
  simp only [PVL.strs_map]
  have e0 : ("" : Str).length = 0 := rfl
  rw [Sgs.sum h.one, e0, Nat.mul_zero, Nat.add_zero, if_pos (Nat.le_trans h.le hn)]
  rfl
theorem Sgs.jlen {n : Nat} {l : List Str} (h : Sgs n l) : (Txt.join Str.empty l).length ≤ n := by
  show (Txt.join Str.empty l).cps.size ≤ n
  rw [← Array.length_toList, join_cps, List.length_flatten, List.map_map]
  have := Sgs.sum h.one
  have e : (l.map (List.length ∘ fun x : Str => x.cps.toList)) = l.map (·.length) := by
    apply List.map_congr_left
    intro x _
    exact Array.length_toList
  rw [e, this]
  exact h.le
theorem sg_ok (i : Int) : ∀ x ∈ (sg i).cps.toList, x < 1114112 := by
  intro x hx
  unfold sg at hx
  simp only [List.mem_singleton] at hx
  subst hx
  rw [List.getD_eq_getElem?_getD]
  cases e : abc.cps.toList[(i % 26).toNat]? with
  | none => exact Nat.zero_lt_succ _
  | some x => exact abc_ok x (List.mem_of_getElem? e)
theorem Sgs.jok {n : Nat} {l : List Str} (h : Sgs n l) : ∀ x ∈ (Txt.join Str.empty l).cps.toList, x < 1114112 := by
  intro x hx
  rw [join_cps] at hx
  obtain ⟨y, hy, hx⟩ := List.mem_flatten.mp hx
  obtain ⟨z, hz, rfl⟩ := List.mem_map.mp hy
  obtain ⟨i, rfl⟩ := h.one z hz
  exact sg_ok i x hx
theorem comp_sg {C : Calls} {env : List SV} {μ : Store} {n : Nat} {it e : E} (f : Nat → Int) (hn : n ≤ 8) (hlen : env.length = 10) (hb : e.isBv = false) (hi : evI C it env μ = .ok (rngD 0 n) μ)
    (h : ∀ k : Nat, k < n → ev C e ((env.set 9 .un).set 9 (.pv (.int (0 + (k : Int))))) μ = .ok (.str (sg (f k))) μ) :
    ev C (.comp it (.nm 9) .no e [9]) env μ = .ok (.list (((List.range n).map fun k => sg (f k)).map PyData.str)) μ := by
  rw [ev_map (ds := rngD 0 n) (g := fun d => match d with | .int k => .str (sg (f k.toNat)) | _ => .none) (μ1 := μ) hi (by simp [hlen]) hb (by rw [PVL.rngD_len]; exact Nat.le_trans hn (by decide))]
  · congr 2
    simp [rngD]
  · intro d hd
    obtain ⟨k, hk, rfl⟩ := rngD_mem hd
    refine ⟨_, rfl, ?_⟩
    have := h k hk
    simpa using this
/-- the word -/
def word (c o : Int) : Str :=
  if c % 4 = 1 then sg (c / 4 + o / 8) ++ Txt.join Str.empty (PVL.cutD ((List.range 7).map fun k : Nat => sg (c / 4 / 26 + k * (1 + c / 4 / 676 % 25))) none (some (o % 8)))
  else if c % 4 = 2 then
    let l := (List.range 8).map fun k : Nat => sg (c / 4 + k + 8 * (o / 8))
    Txt.join Str.empty (PVL.cutD l (some (o % 8)) none ++ PVL.cutD l none (some (o % 8)))
  else if c % 4 = 3 then
    let l := (List.range 8).map fun k : Nat => sg (c / 4 + 3 * k)
    let i := (o % 7 + 1 + o / 7) % 8
    Txt.join Str.empty ((l.set i.toNat (sg (c / 4 + 3 * (o % 7)))).set (o % 7).toNat (sg (c / 4 + 3 * i)))
  else
    let z := 1 + c / 4 % 8
    let a := c / 4 / 8 % z
    let l := (List.range z.toNat).map fun k : Nat => sg (c / 4 / 64 + k * (1 + c / 4 / 1664 % 25))
    Txt.join Str.empty (PVL.cutD l none (some a)) ++ sg o ++ Txt.join Str.empty (PVL.cutD l (some (a + 1)) none)
theorem two (n : Nat) : (if -two62 ≤ (n : Int) ∧ (n : Int) < two62 then Rs.ok (rngD 0 ((n : Int)).toNat) μ else Rs.stuck) = if n < 4611686018427387904 then Rs.ok (rngD 0 n) μ else Rs.stuck := by
  unfold two62
  by_cases h : n < 4611686018427387904
  · rw [if_pos h, if_pos ⟨by omega, by omega⟩]
    simp
  · rw [if_neg h, if_neg (by omega)]
theorem str_add {x y : Str} (h : x.length + y.length ≤ lim) : binP .add (.str x) (.str y) = some (.str (x ++ y)) := if_pos h
theorem list_add {x y : List PyData} (h : x.length + y.length ≤ lim) : binP .add (.list x) (.list y) = some (.list (x ++ y)) := if_pos h
theorem word_eq (C : Calls) (sub : Under) (L : Nat) (c o : Int) (μ : Store) : toRs (runB C sub L b_word [.pv (.int c), .pv (.int o), .un, .un, .un, .un, .un, .un, .un, .un] μ) = .ok (.str (word c o)) μ := by
  unfold b_word
  have hm : c % 4 = 1 ∨ c % 4 = 2 ∨ c % 4 = 3 ∨ c % 4 = 0 := by omega
  have l8 : 8 ≤ lim := by decide
  rw [abc_def]
  obtain hm | hm | hm | hm := hm
  · have W : word c o = sg (c / 4 + o / 8) ++ Txt.join Str.empty (PVL.cutD ((List.range 7).map fun k : Nat => sg (c / 4 / 26 + k * (1 + c / 4 / 676 % 25))) none (some (o % 8))) := by
      simp [word, hm]
    rw [W]
    simp -implicitDefEqProofs [hm]
    rw [comp_sg (n := 7) (fun k => c / 4 / 26 + k * (1 + c / 4 / 676 % 25)) (by decide) rfl rfl (by simp -implicitDefEqProofs [two62]) fun k hk => by
      simp -implicitDefEqProofs
      rw [PVL.mul_int (Or.inr (by omega))]
      simp -implicitDefEqProofs [sg_idx]]
    have S := Sgs.range 7 fun k => c / 4 / 26 + k * (1 + c / 4 / 676 % 25)
    generalize (List.range 7).map (fun k : Nat => sg (c / 4 / 26 + k * (1 + c / 4 / 676 % 25))) = l at *
    have J := (S.cut none (some (o % 8))).join (by decide)
    have A : binP .add (.str (sg (c / 4 + o / 8))) (.str (Txt.join Str.empty (PVL.cutD l none (some (o % 8))))) = _ := str_add (by rw [sg_len]; have := (S.cut none (some (o % 8))).jlen; unfold lim; omega)
    simp -implicitDefEqProofs [sg_idx, ev_slc_ns, cutD_map, J, A]
  · have W : word c o = Txt.join Str.empty (PVL.cutD ((List.range 8).map fun k : Nat => sg (c / 4 + k + 8 * (o / 8))) (some (o % 8)) none ++ PVL.cutD ((List.range 8).map fun k : Nat => sg (c / 4 + k + 8 * (o / 8))) none (some (o % 8))) := by
      simp [word, hm]
    rw [W]
    simp -implicitDefEqProofs [hm]
    rw [comp_sg (n := 8) (fun k => c / 4 + k + 8 * (o / 8)) (by decide) rfl rfl (by simp -implicitDefEqProofs [two62]) fun k hk => by
      simp -implicitDefEqProofs
      rw [PVL.mul_int (Or.inl (by omega))]
      simp -implicitDefEqProofs [sg_idx]]
    have S := Sgs.range 8 fun k => c / 4 + k + 8 * (o / 8)
    generalize (List.range 8).map (fun k : Nat => sg (c / 4 + k + 8 * (o / 8))) = l at *
    have J := ((S.cut (some (o % 8)) none).app (S.cut none (some (o % 8)))).join (by decide)
    rw [List.map_append] at J
    have A : binP .add (.list ((PVL.cutD l (some (o % 8)) none).map PyData.str)) (.list ((PVL.cutD l none (some (o % 8))).map PyData.str)) = _ := list_add (by
      have h1 := (S.cut (some (o % 8)) none).le
      have h2 := (S.cut none (some (o % 8))).le
      rw [List.length_map, List.length_map]
      unfold lim
      omega)
    simp -implicitDefEqProofs [ev_slc_ns, ev_slc_sn, cutD_map, A]
    simp -implicitDefEqProofs [J]
  · have i1 : 0 ≤ o % 7 ∧ o % 7 < 8 := by omega
    have i2 : 0 ≤ (o % 7 + 1 + o / 7) % 8 ∧ (o % 7 + 1 + o / 7) % 8 < 8 := by omega
    have W : word c o = Txt.join Str.empty ((((List.range 8).map fun k : Nat => sg (c / 4 + 3 * k)).set ((o % 7 + 1 + o / 7) % 8).toNat (sg (c / 4 + 3 * (o % 7)))).set (o % 7).toNat (sg (c / 4 + 3 * ((o % 7 + 1 + o / 7) % 8)))) := by
      simp [word, hm]
    rw [W]
    simp -implicitDefEqProofs [hm]
    rw [comp_sg (n := 8) (fun k => c / 4 + 3 * k) (by decide) rfl rfl (by simp -implicitDefEqProofs [two62]) fun k hk => by
      simp -implicitDefEqProofs
      rw [PVL.mul_int (Or.inl (by omega))]
      simp -implicitDefEqProofs [sg_idx]]
    have S := Sgs.range 8 fun k => c / 4 + 3 * k
    have G : ∀ j : Int, 0 ≤ j → j < 8 → atI ((((List.range 8).map fun k : Nat => sg (c / 4 + 3 * k))).map PyData.str) j = some (.str (sg (c / 4 + 3 * j))) := fun j h0 h8 => by
      obtain ⟨k, rfl⟩ := Int.eq_ofNat_of_zero_le h0
      have hk : k < 8 := by omega
      exact atI_nat (by simp [hk])
    have Ln : ((List.range 8).map fun k : Nat => sg (c / 4 + 3 * k)).length = 8 := by simp
    generalize (List.range 8).map (fun k : Nat => sg (c / 4 + 3 * k)) = l at *
    have J := ((S.set ((o % 7 + 1 + o / 7) % 8).toNat (c / 4 + 3 * (o % 7))).set (o % 7).toNat (c / 4 + 3 * ((o % 7 + 1 + o / 7) % 8))).join (by decide)
    simp -implicitDefEqProofs [G _ i1.1 i1.2, G _ i2.1 i2.2, setR, ixN, Ln, i1, i2]
    rw [List.map_set, List.map_set] at J
    simp -implicitDefEqProofs [J]
  · have z1 : 0 < 1 + c / 4 % 8 ∧ 1 + c / 4 % 8 ≤ 8 := by omega
    have W : word c o = Txt.join Str.empty (PVL.cutD ((List.range (1 + c / 4 % 8).toNat).map fun k : Nat => sg (c / 4 / 64 + k * (1 + c / 4 / 1664 % 25))) none (some (c / 4 / 8 % (1 + c / 4 % 8)))) ++ sg o ++ Txt.join Str.empty (PVL.cutD ((List.range (1 + c / 4 % 8).toNat).map fun k : Nat => sg (c / 4 / 64 + k * (1 + c / 4 / 1664 % 25))) (some (c / 4 / 8 % (1 + c / 4 % 8) + 1)) none) := by
      simp [word, hm]
    rw [W]
    simp -implicitDefEqProofs [hm, PVL.mod_int z1.1]
    rw [comp_sg (n := (1 + c / 4 % 8).toNat) (fun k => c / 4 / 64 + k * (1 + c / 4 / 1664 % 25)) (by omega) rfl rfl (by
      simp -implicitDefEqProofs
      unfold two62
      omega) fun k hk => by
      simp -implicitDefEqProofs
      rw [PVL.mul_int (Or.inr (by omega))]
      simp -implicitDefEqProofs [sg_idx]]
    have S0 := Sgs.range (1 + c / 4 % 8).toNat fun k => c / 4 / 64 + k * (1 + c / 4 / 1664 % 25)
    have S : Sgs 8 ((List.range (1 + c / 4 % 8).toNat).map fun k : Nat => sg (c / 4 / 64 + k * (1 + c / 4 / 1664 % 25))) := ⟨Nat.le_trans S0.le (by omega), S0.one⟩
    generalize (List.range (1 + c / 4 % 8).toNat).map (fun k : Nat => sg (c / 4 / 64 + k * (1 + c / 4 / 1664 % 25))) = l at *
    have S1 := S.cut none (some (c / 4 / 8 % (1 + c / 4 % 8)))
    have S2 := S.cut (some (c / 4 / 8 % (1 + c / 4 % 8) + 1)) none
    have J1 := S1.join (by decide)
    have J2 := S2.join (by decide)
    have q1 := S1.jlen
    have q2 := S2.jlen
    have A1 : binP .add (.str (Txt.join Str.empty (PVL.cutD l none (some (c / 4 / 8 % (1 + c / 4 % 8)))))) (.str (sg o)) = _ := str_add (by rw [sg_len]; unfold lim; omega)
    have q3 : (Txt.join Str.empty (PVL.cutD l none (some (c / 4 / 8 % (1 + c / 4 % 8)))) ++ sg o).length = (Txt.join Str.empty (PVL.cutD l none (some (c / 4 / 8 % (1 + c / 4 % 8))))).length + (sg o).length := by
      show ((Txt.join Str.empty _).cps ++ (sg o).cps).size = _
      rw [Array.size_append]
      rfl
    rw [sg_len] at q3
    have A2 : binP .add (.str (Txt.join Str.empty (PVL.cutD l none (some (c / 4 / 8 % (1 + c / 4 % 8)))) ++ sg o)) (.str (Txt.join Str.empty (PVL.cutD l (some (c / 4 / 8 % (1 + c / 4 % 8) + 1)) none))) = _ := str_add (by unfold lim; omega)
    simp -implicitDefEqProofs [sg_idx, ev_slc_ns, ev_slc_sn, cutD_map, J1, J2, A1, A2]
theorem app_ok {x y : Str} (h : ∀ c ∈ x.cps.toList, c < 1114112) (k : ∀ c ∈ y.cps.toList, c < 1114112) : ∀ c ∈ (x ++ y).cps.toList, c < 1114112 := by
  intro c hc
  rw [app_cps] at hc
  exact (List.mem_append.mp hc).elim (h c) (k c)
theorem word_ok (c o : Int) : PyData.strOk (word c o) = true := by
  apply strOk_of
  unfold word
  split
  · exact app_ok (sg_ok _) ((Sgs.range 7 _).cut _ _).jok
  · split
    · exact (((Sgs.range 8 fun k => c / 4 + k + 8 * (o / 8)).cut _ _).app ((Sgs.range 8 fun k => c / 4 + k + 8 * (o / 8)).cut _ _)).jok
    · split
      · exact (((Sgs.range 8 fun k => c / 4 + 3 * k).set _ _).set _ _).jok
      · exact app_ok (app_ok ((Sgs.range _ fun k => c / 4 / 64 + k * (1 + c / 4 / 1664 % 25)).cut _ _).jok (sg_ok _)) ((Sgs.range _ fun k => c / 4 / 64 + k * (1 + c / 4 / 1664 % 25)).cut _ _).jok
end PVL
end

section
set_option Elab.async false
set_option linter.all false
set_option maxRecDepth 100000
set_option maxHeartbeats 1000000
/-! # Words of one cell are unlike where the other cells are -/
namespace PVL
open PySem PySem.Spec PyProof.Rows L2
/-- the sign of a number -/
def sn (i : Int) : Nat := abc.cps.toList.getD (i % 26).toNat 0
theorem sn_all : ∀ a < 26, ∀ b < 26, abc.cps.toList.getD a 0 = abc.cps.toList.getD b 0 → a = b := by decide +kernel
theorem sn_inj {i j : Int} (h : sn i = sn j) : i % 26 = j % 26 := by
  have := sn_all (i % 26).toNat (by omega) (j % 26).toNat (by omega) h
  omega
theorem sg_cps (i : Int) : (sg i).cps.toList = [sn i] := rfl
theorem join_sg {α : Type} (f : α → Int) (l : List α) : (Txt.join Str.empty (l.map fun k => sg (f k))).cps.toList = l.map fun k => sn (f k) := by
  rw [join_cps, List.map_map]
  induction l with
  | nil => rfl
  | cons x r ih => rw [List.map_cons, List.map_cons, List.flatten_cons, ih]; rfl
theorem cut_to {α : Type} {l : List α} {k : Int} (h0 : 0 ≤ k) (h : k ≤ l.length) : cutD l none (some k) = l.take k.toNat := by
  obtain ⟨n, rfl⟩ := Int.eq_ofNat_of_zero_le h0
  unfold cutD
  rw [HT.sIx_none, HT.sIx_nat, List.drop_zero]
  congr 1
  omega
theorem cut_from {α : Type} {l : List α} {k : Int} (h0 : 0 ≤ k) (h : k ≤ l.length) : cutD l (some k) none = l.drop k.toNat := by
  obtain ⟨n, rfl⟩ := Int.eq_ofNat_of_zero_le h0
  unfold cutD
  rw [HT.sIx_none, HT.sIx_nat]
  have e : min n l.length = n := by omega
  rw [e, Int.toNat_natCast]
  apply List.take_of_length_le
  rw [List.length_drop]
  omega
/-- the swap of two places -/
def tau (o p : Nat) : Nat := if p = o % 7 then (o % 7 + 1 + o / 7) % 8 else if p = (o % 7 + 1 + o / 7) % 8 then o % 7 else p
theorem tau_all : ∀ a < 26, ∀ b < 26, (∀ p < 8, tau a p = tau b p) → a = b ∨ (a = 21 ∧ b = 25) ∨ (a = 25 ∧ b = 21) := by decide +kernel
theorem tau_lt : ∀ a < 26, ∀ p < 8, tau a p < 8 := by decide +kernel
theorem word1 {c : Int} (hm : c % 4 = 1) (o : Nat) : (word c o).cps.toList = sn (c / 4 + o / 8) :: ((List.range 7).map fun k : Nat => sn (c / 4 / 26 + k * (1 + c / 4 / 676 % 25))).take (o % 8) := by
  have W : word c o = sg (c / 4 + o / 8) ++ Txt.join Str.empty (PVL.cutD ((List.range 7).map fun k : Nat => sg (c / 4 / 26 + k * (1 + c / 4 / 676 % 25))) none (some ((o : Int) % 8))) := by
    simp [word, hm]
  rw [W, app_cps, cutD_map, join_sg, cut_to (by omega) (by simp; omega), sg_cps, ← List.map_take]
  have e : ((o : Int) % 8).toNat = o % 8 := by omega
  rw [e]
  rfl
theorem word2 {c : Int} (hm : c % 4 = 2) (o : Nat) : ∃ r, (word c o).cps.toList = sn (c / 4 + o) :: r := by
  have W : word c o = Txt.join Str.empty (PVL.cutD ((List.range 8).map fun k : Nat => sg (c / 4 + k + 8 * ((o : Int) / 8))) (some ((o : Int) % 8)) none ++ PVL.cutD ((List.range 8).map fun k : Nat => sg (c / 4 + k + 8 * ((o : Int) / 8))) none (some ((o : Int) % 8))) := by
    simp [word, hm]
  rw [W, cutD_map, cutD_map, ← List.map_append, join_sg, cut_from (by omega) (by simp; omega)]
  have e : ((o : Int) % 8).toNat = o % 8 := by omega
  rw [e]
  have hd : (List.range 8).drop (o % 8) = (o % 8) :: (List.range 8).drop (o % 8 + 1) := by
    rw [← List.getElem_cons_drop (h := by simp; omega)]
    simp
  rw [hd]
  rw [List.cons_append, List.map_cons]
  have e3 : c / 4 + ((o % 8 : Nat) : Int) + 8 * ((o : Int) / 8) = c / 4 + o := by omega
  rw [e3]
  exact ⟨_, rfl⟩
theorem word3 {c : Int} (hm : c % 4 = 3) (o : Nat) (ho : o < 26) : (word c o).cps.toList = (List.range 8).map fun p : Nat => sn (c / 4 + 3 * (tau o p : Nat)) := by
  have W : word c o = Txt.join Str.empty ((((List.range 8).map fun k : Nat => sg (c / 4 + 3 * k)).set ((((o : Int) % 7 + 1 + (o : Int) / 7) % 8).toNat) (sg (c / 4 + 3 * ((o : Int) % 7)))).set ((o : Int) % 7).toNat (sg (c / 4 + 3 * (((o : Int) % 7 + 1 + (o : Int) / 7) % 8)))) := by
    simp [word, hm]
  have e1 : ((o : Int) % 7) = ((o % 7 : Nat) : Int) := by omega
  have e2 : (((o : Int) % 7 + 1 + (o : Int) / 7) % 8) = (((o % 7 + 1 + o / 7) % 8 : Nat) : Int) := by omega
  rw [W, e2, e1, Int.toNat_natCast, Int.toNat_natCast]
  have e : (((List.range 8).map fun k : Nat => sg (c / 4 + 3 * k)).set ((o % 7 + 1 + o / 7) % 8) (sg (c / 4 + 3 * ((o % 7 : Nat) : Int)))).set (o % 7) (sg (c / 4 + 3 * (((o % 7 + 1 + o / 7) % 8 : Nat) : Int)))
      = (List.range 8).map fun p : Nat => sg (c / 4 + 3 * (tau o p : Nat)) := by
    apply List.ext_getElem (by simp)
    intro p h1 h2
    simp only [List.length_map, List.length_range] at h2
    rw [List.getElem_set, List.getElem_set]
    simp only [List.getElem_map, List.getElem_range]
    unfold tau
    by_cases q1 : o % 7 = p
    · rw [if_pos q1, if_pos q1.symm]
    · rw [if_neg q1, if_neg (c := p = o % 7) (fun z => q1 z.symm)]
      by_cases q2 : (o % 7 + 1 + o / 7) % 8 = p
      · rw [if_pos q2, if_pos q2.symm]
      · rw [if_neg q2, if_neg (c := p = (o % 7 + 1 + o / 7) % 8) (fun z => q2 z.symm)]
  rw [e, join_sg]
theorem word0 {c : Int} (hm : c % 4 = 0) : ∃ (l r : List Nat), ∀ o : Nat, (word c o).cps.toList = l ++ sn o :: r := by
  have z1 : 0 < 1 + c / 4 % 8 ∧ 1 + c / 4 % 8 ≤ 8 := by omega
  refine ⟨(Txt.join Str.empty (PVL.cutD ((List.range (1 + c / 4 % 8).toNat).map fun k : Nat => sg (c / 4 / 64 + k * (1 + c / 4 / 1664 % 25))) none (some (c / 4 / 8 % (1 + c / 4 % 8))))).cps.toList,
    (Txt.join Str.empty (PVL.cutD ((List.range (1 + c / 4 % 8).toNat).map fun k : Nat => sg (c / 4 / 64 + k * (1 + c / 4 / 1664 % 25))) (some (c / 4 / 8 % (1 + c / 4 % 8) + 1)) none)).cps.toList, fun o => ?_⟩
  have W : word c o = Txt.join Str.empty (PVL.cutD ((List.range (1 + c / 4 % 8).toNat).map fun k : Nat => sg (c / 4 / 64 + k * (1 + c / 4 / 1664 % 25))) none (some (c / 4 / 8 % (1 + c / 4 % 8)))) ++ sg o ++ Txt.join Str.empty (PVL.cutD ((List.range (1 + c / 4 % 8).toNat).map fun k : Nat => sg (c / 4 / 64 + k * (1 + c / 4 / 1664 % 25))) (some (c / 4 / 8 % (1 + c / 4 % 8) + 1)) none) := by
    simp [word, hm]
  rw [W, app_cps, app_cps, sg_cps, List.append_assoc, List.singleton_append]
/-- words of one cell are alike only where the other number is -/
theorem word_inj {c : Int} {a b : Nat} (ha : a < 26) (hb : b < 26) (h1 : ¬ (a = 21 ∧ b = 25)) (h2 : ¬ (a = 25 ∧ b = 21)) (e : word c a = word c b) : a = b := by
  have e : (word c a).cps.toList = (word c b).cps.toList := by rw [e]
  have hm : c % 4 = 1 ∨ c % 4 = 2 ∨ c % 4 = 3 ∨ c % 4 = 0 := by omega
  obtain hm | hm | hm | hm := hm
  · rw [word1 hm, word1 hm] at e
    have g1 := sn_inj (List.cons.inj e).1
    have g2 := congrArg List.length (List.cons.inj e).2
    simp only [List.length_take, List.length_map, List.length_range] at g2
    omega
  · obtain ⟨r, g1⟩ := word2 hm a
    obtain ⟨r', g2⟩ := word2 hm b
    rw [g1, g2] at e
    have := sn_inj (List.cons.inj e).1
    omega
  · rw [word3 hm a ha, word3 hm b hb] at e
    refine (tau_all a ha b hb fun p hp => ?_).elim id fun z => z.elim (fun z => (h1 z).elim) fun z => (h2 z).elim
    have h := congrArg (fun l => l[p]?) e
    simp [hp] at h
    have h := sn_inj h
    have := tau_lt a ha p hp
    have := tau_lt b hb p hp
    omega
  · obtain ⟨l, r, h⟩ := word0 hm
    rw [h, h] at e
    have := sn_inj (List.cons.inj (List.append_cancel_left e)).1
    omega
end PVL
end

section
set_option linter.all false
set_option maxRecDepth 100000
/-! # The program's defs, in the small language (printed) -/
namespace PVLP
open PySem PVL
def b_reckoned : List S := [.asg 3 (.call 1 [.var 0, .var 1, .var 2]), .iff (.or (.cmp .lt (.var 3) (.neg (.cst (.int (1000000000000))))) (.cmp .gt (.var 3) (.cst (.int (1000000000000))))) [.raise 7 (.fstr [.fmt (.var 0), .cst (.str " comes to a number beyond "), .fmt (.cst (.int (1000000000000)))])] [], .ret (.var 3)]
def d_reckoned : Df := ⟨3, 4, b_reckoned⟩
def b_unbounded : List S := [.iff (.cmp .eq (.var 0) (.cst (.str "sum"))) [.ret (.bin .add (.var 1) (.var 2))] [], .iff (.cmp .eq (.var 0) (.cst (.str "less"))) [.ret (.bin .sub (.var 1) (.var 2))] [], .iff (.cmp .eq (.var 0) (.cst (.str "times"))) [.ret (.bin .mul (.var 1) (.var 2))] [], .iff (.cmp .eq (.var 0) (.cst (.str "part"))) [.ret (.call 2 [.var 1, .var 2])] [], .ret (.ite (.cmp .lt (.var 1) (.var 2)) (.cst (.int 1)) (.cst (.int 0)))]
def d_unbounded : Df := ⟨3, 3, b_unbounded⟩
def b_parted : List S := [.iff (.cmp .eq (.var 1) (.cst (.int 0))) [.raise 6 (.cst (.str "a number is parted by nought"))] [], .ret (.bin .fdiv (.var 0) (.var 1))]
def d_parted : Df := ⟨2, 2, b_parted⟩
def b_check_made : List S := [.iff (.cmp .ge (.var 0) (.cst (.int (20)))) [.raise 8 (.fstr [.fmt (.var 0), .cst (.str " calls are going on already")])] [], .iff (.cmp .ge (.var 1) (.var 2)) [.raise 9 (.fstr [.fmt (.var 1), .cst (.str " calls were made already")])] []]
def d_check_made : Df := ⟨3, 3, b_check_made⟩
def b_taken : List S := [.asg 2 (.bin .sub (.op1 .clen (.var 0)) (.var 1)), .asg 3 (.op2 .cslc (.var 0) (.var 2)), .cdel (.var 0) (.var 2), .ret (.var 3)]
def d_taken : Df := ⟨2, 4, b_taken⟩
def b_outcome_of : List S := [.try_ [.asg 1 (.meth [(12, 17), (10, 27)] 11 (.var 0) [])] [(6, [.ret (.tup [.cst (.str "nought"), .cst .none, .op1 (.attr 4) (.var 0)])]), (7, [.ret (.tup [.cst (.str "great"), .cst .none, .op1 (.attr 4) (.var 0)])]), (8, [.ret (.tup [.cst (.str "deep"), .cst .none, .op1 (.attr 4) (.var 0)])]), (9, [.ret (.tup [.cst (.str "dry"), .cst .none, .op1 (.attr 4) (.var 0)])])], .ret (.tup [.cst (.str "value"), .var 1, .op1 (.attr 4) (.var 0)])]
def d_outcome_of : Df := ⟨1, 2, b_outcome_of⟩
def b_within : List S := [.asg 1 (.idx (.var 0) (.cst (.int 0))), .iff (.or (.cmp .eq (.var 1) (.cst (.str "num"))) (.cmp .eq (.var 1) (.cst (.str "name")))) [.ret (.lst [])] [], .iff (.cmp .eq (.var 1) (.cst (.str "let"))) [.ret (.lst [.idx (.var 0) (.cst (.int 2)), .idx (.var 0) (.cst (.int 3))])] [], .iff (.cmp .eq (.var 1) (.cst (.str "call"))) [.ret (.bi .list [.idx (.var 0) (.cst (.int 2))])] [], .ret (.bi .list [.slc (.var 0) (.cst (.int 1)) (.no)])]
def d_within : Df := ⟨1, 2, b_within⟩
def b_checked : List S := [.asg 1 (.call 8 [.var 0]), .asgN 2 (.lst []), .for_ (.seqL (.var 0)) (.tp [3, 4, 5]) [.iff (.cmp .isin (.var 3) (.bv 2)) [.raise 1 (.fstr [.cst (.str "two functions are called "), .fmt (.var 3)])] [], .exp (.call 9 [.var 3, .var 4]), .exp (.call 10 [.var 5, .var 4, .var 1, .cst (.int 1)]), .app 2 (.var 3)], .ret (.var 1)]
def d_checked : Df := ⟨1, 6, b_checked⟩
def b_counts_of : List S := [.asgD 1 (.dispD [] []), .for_ (.seqL (.var 0)) (.tp [2, 3, 4]) [.iff (.op2 (.din true) (.var 2) (.bv 1)) [.dset 1 (.var 2) (.bi .len [.var 3])] []], .frz 1 (.ret (.var 1))]
def d_counts_of : Df := ⟨1, 5, b_counts_of⟩
def b_check_takes : List S := [.iff (.cmp .lt (.op1 .lenset (.var 1)) (.bi .len [.var 1])) [.raise 1 (.fstr [.fmt (.var 0), .cst (.str " takes two things under one name")])] []]
def d_check_takes : Df := ⟨2, 2, b_check_takes⟩
def b_check_tree : List S := [.iff (.cmp .gt (.var 3) (.cst (.int (12)))) [.raise 5 (.fstr [.cst (.str "a body is higher than "), .fmt (.cst (.int (12))), .cst (.str " levels")])] [], .iff (.cmp .eq (.idx (.var 0) (.cst (.int 0))) (.cst (.str "name"))) [.exp (.call 11 [.idx (.var 0) (.cst (.int 1)), .var 1])] [], .iff (.cmp .eq (.idx (.var 0) (.cst (.int 0))) (.cst (.str "call"))) [.exp (.call 12 [.idx (.var 0) (.cst (.int 1)), .bi .len [.idx (.var 0) (.cst (.int 2))], .var 2])] [], .for_ (.seqL (.call 13 [.var 0, .var 1])) (.tp [4, 5]) [.exp (.call 10 [.var 4, .var 5, .var 2, .bin .add (.var 3) (.cst (.int 1))])]]
def d_check_tree : Df := ⟨4, 6, b_check_tree⟩
def b_check_name : List S := [.iff (.cmp .notin (.var 0) (.var 1)) [.raise 2 (.fstr [.fmt (.var 0), .cst (.str " stands for nothing here")])] []]
def d_check_name : Df := ⟨2, 2, b_check_name⟩
def b_check_call : List S := [.iff (.op2 (.din true) (.var 0) (.var 2)) [.raise 3 (.fstr [.cst (.str "there is no function "), .fmt (.var 0)])] [], .iff (.cmp .ne (.var 1) (.op2 .dget (.var 2) (.var 0))) [.raise 4 (.fstr [.fmt (.var 0), .cst (.str " takes "), .fmt (.op2 .dget (.var 2) (.var 0)), .cst (.str " things and is given "), .fmt (.var 1)])] []]
def d_check_call : Df := ⟨3, 3, b_check_call⟩
def b_scoped : List S := [.asg 2 (.call 6 [.var 0]), .iff (.cmp .ne (.idx (.var 0) (.cst (.int 0))) (.cst (.str "let"))) [.ret (.comp (.seqL (.var 2)) (.nm 3) (.no) (.tup [.var 3, .var 1]) [3])] [], .ret (.lst [.tup [.idx (.var 2) (.cst (.int 0)), .var 1], .tup [.idx (.var 2) (.cst (.int 1)), .star (.var 1) (.idx (.var 0) (.cst (.int 1)))]])]
def d_scoped : Df := ⟨2, 4, b_scoped⟩
def b_told : List S := [.exp (.call 12 [.var 1, .bi .len [.var 2], .call 7 [.var 0]]), .ret (.call 5 [.make 12 16 [.var 0, .var 1, .var 2, .var 3]])]
def d_told : Df := ⟨4, 4, b_told⟩
def b_ahead : List S := [.iff (.or (.cmp .eq (.idx (.var 0) (.cst (.int 0))) (.cst (.str "choose"))) (.cmp .eq (.idx (.var 0) (.cst (.int 0))) (.cst (.str "let")))) [.ret (.slc (.call 6 [.var 0]) (.no) (.cst (.int 1)))] [], .ret (.call 6 [.var 0])]
def d_ahead : Df := ⟨1, 1, b_ahead⟩
def b_Telling___init__ : List S := [.sattr (.var 0) 8 (.dcomp (.seqL (.var 1)) (.tp [5, 6, 7]) (.var 5) (.tup [.var 6, .var 7]) [5, 6, 7]), .sattr (.var 0) 9 (.var 2), .sattr (.var 0) 3 (.var 4), .sattr (.var 0) 4 (.cst (.int 0)), .sattr (.var 0) 10 (.box (.bi .list [.var 3])), .sattr (.var 0) 7 (.box (.lst []))]
def d_Telling___init__ : Df := ⟨5, 8, b_Telling___init__⟩
def b_Telling_finish : List S := [.exp (.meth [(12, 18)] 12 (.var 0) [.op1 (.attr 9) (.var 0), .op1 .clen (.op1 (.attr 10) (.var 0))]), .whil (.op1 .ctru (.op1 (.attr 7) (.var 0))) [.iff (.op1 .ctru (.op2 .cidx (.op1 (.attr 7) (.var 0)) (.neg (.cst (.int 1))))) [.asgX (.tp [(.nm 1), (.nm 2), (.nm 3)]) (.op1 .cpop (.op2 .cidx (.op1 (.attr 7) (.var 0)) (.neg (.cst (.int 1))))), .exp (.meth [(12, 20)] 13 (.var 0) [.var 1, .var 2, .var 3])] [.exp (.op1 .cpop (.op1 (.attr 7) (.var 0)))]], .ret (.op1 .cpop (.op1 (.attr 10) (.var 0)))]
def d_Telling_finish : Df := ⟨1, 4, b_Telling_finish⟩
def b_Telling_call : List S := [.exp (.call 3 [.op1 .clen (.op1 (.attr 7) (.var 0)), .op1 (.attr 4) (.var 0), .op1 (.attr 3) (.var 0)]), .saug (.var 0) 4 (.cst (.int 1)), .asgX (.tp [(.nm 3), (.nm 4)]) (.op2 .dget (.op1 (.attr 8) (.var 0)) (.var 1)), .asg 5 (.call 4 [.op1 (.attr 10) (.var 0), .var 2]), .capp (.op1 (.attr 7) (.var 0)) (.box (.lst [.tup [.var 4, .op2 .dzip (.var 3) (.var 5), .cst (.bool false)]]))]
def d_Telling_call : Df := ⟨3, 6, b_Telling_call⟩
def b_Telling_later : List S := [.capp (.op2 .cidx (.op1 (.attr 7) (.var 0)) (.neg (.cst (.int 1)))) (.tup [.var 1, .var 2, .var 3])]
def d_Telling_later : Df := ⟨4, 4, b_Telling_later⟩
def b_Telling_step : List S := [.asg 4 (.ite (.tru (.var 3)) (.lst []) (.call 15 [.var 1])), .iff (.tru (.var 4)) [.exp (.meth [(12, 19)] 14 (.var 0) [.var 1, .var 2, .cst (.bool true)]), .for_ (.revI (.var 4)) (.nm 5) [.exp (.meth [(12, 19)] 14 (.var 0) [.var 5, .var 2, .cst (.bool false)])]] [.exp (.meth [(12, 21)] 15 (.var 0) [.var 1, .var 2])]]
def d_Telling_step : Df := ⟨4, 6, b_Telling_step⟩
def b_Telling_settle : List S := [.asg 3 (.idx (.var 1) (.cst (.int 0))), .iff (.cmp .eq (.var 3) (.cst (.str "num"))) [.capp (.op1 (.attr 10) (.var 0)) (.idx (.var 1) (.cst (.int 1)))] [.iff (.cmp .eq (.var 3) (.cst (.str "name"))) [.capp (.op1 (.attr 10) (.var 0)) (.op2 .dget (.var 2) (.idx (.var 1) (.cst (.int 1))))] [.iff (.cmp .eq (.var 3) (.cst (.str "choose"))) [.exp (.meth [(12, 22)] 16 (.var 0) [.var 1, .var 2])] [.iff (.cmp .eq (.var 3) (.cst (.str "let"))) [.exp (.meth [(12, 23)] 17 (.var 0) [.var 1, .var 2])] [.iff (.cmp .eq (.var 3) (.cst (.str "call"))) [.exp (.meth [(12, 18)] 12 (.var 0) [.idx (.var 1) (.cst (.int 1)), .bi .len [.idx (.var 1) (.cst (.int 2))]])] [.asgX (.ls [(.nm 4), (.nm 5)]) (.call 4 [.op1 (.attr 10) (.var 0), .cst (.int 2)]), .capp (.op1 (.attr 10) (.var 0)) (.call 0 [.var 3, .var 4, .var 5])]]]]]]
def d_Telling_settle : Df := ⟨3, 6, b_Telling_settle⟩
def b_Telling_settle_choose : List S := [.iff (.cmp .eq (.op1 .cpop (.op1 (.attr 10) (.var 0))) (.cst (.int 0))) [.exp (.meth [(12, 19)] 14 (.var 0) [.idx (.var 1) (.cst (.int 3)), .var 2, .cst (.bool false)])] [.exp (.meth [(12, 19)] 14 (.var 0) [.idx (.var 1) (.cst (.int 2)), .var 2, .cst (.bool false)])]]
def d_Telling_settle_choose : Df := ⟨3, 3, b_Telling_settle_choose⟩
def b_Telling_settle_let : List S := [.asgD 3 (.op1 .copyD (.var 2)), .dset 3 (.idx (.var 1) (.cst (.int 1))) (.op1 .cpop (.op1 (.attr 10) (.var 0))), .exp (.meth [(12, 19)] 14 (.var 0) [.idx (.var 1) (.cst (.int 3)), .var 3, .cst (.bool false)])]
def d_Telling_settle_let : Df := ⟨3, 4, b_Telling_settle_let⟩
def b_run : List S := [.asg 4 (.call 25 [.op1 (.attr 1) (.var 0), .var 1, .bi .len [.var 2]]), .ret (.call 5 [.make 10 26 [.op1 (.attr 0) (.var 0), .var 4, .var 2, .var 3]])]
def d_run : Df := ⟨4, 5, b_run⟩
def b_start_of : List S := [.iff (.op2 (.din true) (.var 1) (.var 0)) [.raise 3 (.fstr [.cst (.str "there is no function "), .fmt (.var 1)])] [], .asg 3 (.op2 .dget (.var 0) (.var 1)), .iff (.cmp .ne (.var 2) (.idx (.var 3) (.cst (.int 1)))) [.raise 4 (.fstr [.fmt (.var 1), .cst (.str " takes "), .fmt (.idx (.var 3) (.cst (.int 1))), .cst (.str " things and is given "), .fmt (.var 2)])] [], .ret (.var 3)]
def d_start_of : Df := ⟨3, 4, b_start_of⟩
def b_Machine___init__ : List S := [.sattr (.var 0) 0 (.var 1), .sattr (.var 0) 2 (.var 2), .sattr (.var 0) 3 (.var 4), .sattr (.var 0) 4 (.cst (.int 0)), .sattr (.var 0) 5 (.cst (.int 0)), .sattr (.var 0) 6 (.box (.bi .list [.var 3])), .sattr (.var 0) 7 (.box (.lst []))]
def d_Machine___init__ : Df := ⟨5, 5, b_Machine___init__⟩
def b_Machine_finish : List S := [.exp (.meth [(10, 28)] 12 (.var 0) [.idx (.op1 (.attr 2) (.var 0)) (.cst (.int 0)), .idx (.op1 (.attr 2) (.var 0)) (.cst (.int 1)), .idx (.op1 (.attr 2) (.var 0)) (.cst (.int 2))]), .whil (.op1 .ctru (.op1 (.attr 7) (.var 0))) [.asg 1 (.idx (.op1 (.attr 0) (.var 0)) (.op1 (.attr 5) (.var 0))), .saug (.var 0) 5 (.cst (.int 1)), .exp (.meth [(10, 29)] 13 (.var 0) [.var 1])], .ret (.op1 .cpop (.op1 (.attr 6) (.var 0)))]
def d_Machine_finish : Df := ⟨1, 2, b_Machine_finish⟩
def b_Machine_call : List S := [.exp (.call 3 [.op1 .clen (.op1 (.attr 7) (.var 0)), .op1 (.attr 4) (.var 0), .op1 (.attr 3) (.var 0)]), .saug (.var 0) 4 (.cst (.int 1)), .asg 4 (.box (.bin .add (.call 4 [.op1 (.attr 6) (.var 0), .var 2]) (.repN (.lst [.cst (.int 0)]) (.bin .sub (.var 3) (.var 2))))), .capp (.op1 (.attr 7) (.var 0)) (.tup [.var 4, .op1 (.attr 5) (.var 0)]), .sattr (.var 0) 5 (.var 1)]
def d_Machine_call : Df := ⟨4, 5, b_Machine_call⟩
def b_Machine_step : List S := [.asg 2 (.idx (.var 1) (.cst (.int 0))), .iff (.cmp .eq (.var 2) (.cst (.str "push"))) [.capp (.op1 (.attr 6) (.var 0)) (.idx (.var 1) (.cst (.int 1)))] [.iff (.cmp .eq (.var 2) (.cst (.str "load"))) [.capp (.op1 (.attr 6) (.var 0)) (.op2 .cidx (.idx (.op2 .cidx (.op1 (.attr 7) (.var 0)) (.neg (.cst (.int 1)))) (.cst (.int 0))) (.idx (.var 1) (.cst (.int 1))))] [.iff (.cmp .eq (.var 2) (.cst (.str "keep"))) [.csetL (.idx (.op2 .cidx (.op1 (.attr 7) (.var 0)) (.neg (.cst (.int 1)))) (.cst (.int 0))) (.idx (.var 1) (.cst (.int 1))) (.op1 .cpop (.op1 (.attr 6) (.var 0)))] [.iff (.cmp .eq (.var 2) (.cst (.str "do"))) [.asgX (.ls [(.nm 3), (.nm 4)]) (.call 4 [.op1 (.attr 6) (.var 0), .cst (.int 2)]), .capp (.op1 (.attr 6) (.var 0)) (.call 0 [.idx (.var 1) (.cst (.int 1)), .var 3, .var 4])] [.iff (.cmp .eq (.var 2) (.cst (.str "unless"))) [.iff (.cmp .eq (.op1 .cpop (.op1 (.attr 6) (.var 0))) (.cst (.int 0))) [.sattr (.var 0) 5 (.idx (.var 1) (.cst (.int 1)))] []] [.iff (.cmp .eq (.var 2) (.cst (.str "skip"))) [.sattr (.var 0) 5 (.idx (.var 1) (.cst (.int 1)))] [.iff (.cmp .eq (.var 2) (.cst (.str "call"))) [.exp (.meth [(10, 28)] 12 (.var 0) [.idx (.var 1) (.cst (.int 1)), .idx (.var 1) (.cst (.int 2)), .idx (.var 1) (.cst (.int 3))])] [.asgX (.tp [(.nm 5), (.at 0 5)]) (.op1 .cpop (.op1 (.attr 7) (.var 0)))]]]]]]]]
def d_Machine_step : Df := ⟨2, 6, b_Machine_step⟩
def b_Code___init__ : List S := [.sattr (.var 0) 0 (.var 1), .sattr (.var 0) 1 (.var 2)]
def d_Code___init__ : Df := ⟨3, 3, b_Code___init__⟩
def b_smithed : List S := [.exp (.call 7 [.var 0]), .asg 1 (.call 32 [.var 0]), .asg 2 (.box (.lst [])), .for_ (.seqL (.var 0)) (.tp [3, 4, 5]) [.exp (.call 37 [.var 2, .var 5, .var 4, .var 1]), .capp (.var 2) (.tup [.cst (.str "back")])], .frzC 2 (.ret (.mkF 11 30 [.var 2, .var 1]))]
def d_smithed : Df := ⟨1, 6, b_smithed⟩
def b_starts_of : List S := [.asgD 1 (.dispD [] []), .asg 2 (.cst (.int 0)), .for_ (.seqL (.var 0)) (.tp [3, 4, 5]) [.asg 6 (.bi .len [.var 4]), .dset 1 (.var 3) (.tup [.var 2, .var 6, .bin .add (.var 6) (.call 34 [.var 5]), .call 35 [.var 5]]), .augN 2 (.bin .add (.call 33 [.var 5]) (.cst (.int 1)))], .frz 1 (.ret (.var 1))]
def d_starts_of : Df := ⟨1, 7, b_starts_of⟩
def b_length : List S := [.asg 1 (.ite (.cmp .eq (.idx (.var 0) (.cst (.int 0))) (.cst (.str "choose"))) (.cst (.int 2)) (.cst (.int 1))), .ret (.bin .add (.var 1) (.bi .sumL [.comp (.seqL (.call 6 [.var 0])) (.nm 2) (.no) (.call 33 [.var 2]) [2]]))]
def d_length : Df := ⟨1, 3, b_length⟩
def b_most_lets : List S := [.iff (.cmp .eq (.idx (.var 0) (.cst (.int 0))) (.cst (.str "let"))) [.ret (.bi .max2 [.call 34 [.idx (.var 0) (.cst (.int 2))], .bin .add (.cst (.int 1)) (.call 34 [.idx (.var 0) (.cst (.int 3))])])] [], .ret (.op1 (.maxD 0) (.comp (.seqL (.call 6 [.var 0])) (.nm 1) (.no) (.call 34 [.var 1]) [1]))]
def d_most_lets : Df := ⟨1, 2, b_most_lets⟩
def b_height : List S := [.asg 1 (.call 6 [.var 0]), .iff (.or (.cmp .eq (.idx (.var 0) (.cst (.int 0))) (.cst (.str "choose"))) (.cmp .eq (.idx (.var 0) (.cst (.int 0))) (.cst (.str "let")))) [.ret (.bi .maxL [.comp (.seqL (.var 1)) (.nm 3) (.no) (.call 35 [.var 3]) [3]])] [], .ret (.op1 (.maxD 1) (.comp (.enum (.var 1)) (.tp [2, 3]) (.no) (.bin .add (.var 2) (.call 35 [.var 3])) [2, 3]))]
def d_height : Df := ⟨1, 4, b_height⟩
def b_slot_of : List S := [.ret (.bin .sub (.bin .sub (.bi .len [.var 1]) (.cst (.int 1))) (.ridx (.var 1) (.var 0)))]
def d_slot_of : Df := ⟨2, 2, b_slot_of⟩
def b_add_rows : List S := [.asg 4 (.idx (.var 1) (.cst (.int 0))), .iff (.cmp .eq (.var 4) (.cst (.str "num"))) [.capp (.var 0) (.tup [.cst (.str "push"), .idx (.var 1) (.cst (.int 1))])] [.iff (.cmp .eq (.var 4) (.cst (.str "name"))) [.capp (.var 0) (.tup [.cst (.str "load"), .call 36 [.idx (.var 1) (.cst (.int 1)), .var 2]])] [.iff (.cmp .eq (.var 4) (.cst (.str "choose"))) [.exp (.call 39 [.var 0, .var 1, .var 2, .var 3])] [.iff (.cmp .eq (.var 4) (.cst (.str "let"))) [.exp (.call 40 [.var 0, .var 1, .var 2, .var 3])] [.iff (.cmp .eq (.var 4) (.cst (.str "call"))) [.exp (.call 38 [.var 0, .var 1, .var 2, .var 3]), .asgX (.tp [(.nm 5), (.nm 6), (.nm 7), (.nm 8)]) (.op2 .dget (.var 3) (.idx (.var 1) (.cst (.int 1)))), .capp (.var 0) (.tup [.cst (.str "call"), .var 5, .var 6, .var 7])] [.exp (.call 38 [.var 0, .var 1, .var 2, .var 3]), .capp (.var 0) (.tup [.cst (.str "do"), .var 4])]]]]]]
def d_add_rows : Df := ⟨4, 9, b_add_rows⟩
def b_add_parts : List S := [.for_ (.seqL (.call 6 [.var 1])) (.nm 4) [.exp (.call 37 [.var 0, .var 4, .var 2, .var 3])]]
def d_add_parts : Df := ⟨4, 5, b_add_parts⟩
def b_add_choose : List S := [.asgX (.ls [(.nm 4), (.nm 5), (.nm 6)]) (.call 6 [.var 1]), .exp (.call 37 [.var 0, .var 4, .var 2, .var 3]), .capp (.var 0) (.tup [.cst (.str "unless"), .bin .add (.bin .add (.bin .add (.op1 .clen (.var 0)) (.cst (.int 1))) (.call 33 [.var 5])) (.cst (.int 1))]), .exp (.call 37 [.var 0, .var 5, .var 2, .var 3]), .capp (.var 0) (.tup [.cst (.str "skip"), .bin .add (.bin .add (.op1 .clen (.var 0)) (.cst (.int 1))) (.call 33 [.var 6])]), .exp (.call 37 [.var 0, .var 6, .var 2, .var 3])]
def d_add_choose : Df := ⟨4, 7, b_add_choose⟩
def b_add_let : List S := [.asgX (.ls [(.tp [(.nm 4), (.nm 5)]), (.tp [(.nm 6), (.nm 7)])]) (.call 13 [.var 1, .var 2]), .exp (.call 37 [.var 0, .var 4, .var 5, .var 3]), .capp (.var 0) (.tup [.cst (.str "keep"), .bi .len [.var 2]]), .exp (.call 37 [.var 0, .var 6, .var 7, .var 3])]
def d_add_let : Df := ⟨4, 8, b_add_let⟩
structure Deeds (T : Nat → Option Df) : Prop where
  t0 : T 0 = some d_reckoned
  t1 : T 1 = some d_unbounded
  t2 : T 2 = some d_parted
structure Makes (T : Nat → Option Df) : Prop where
  t3 : T 3 = some d_check_made
  t4 : T 4 = some d_taken
  t5 : T 5 = some d_outcome_of
structure Trees (T : Nat → Option Df) : Prop where
  t6 : T 6 = some d_within
  t7 : T 7 = some d_checked
  t8 : T 8 = some d_counts_of
  t9 : T 9 = some d_check_takes
  t10 : T 10 = some d_check_tree
  t11 : T 11 = some d_check_name
  t12 : T 12 = some d_check_call
  t13 : T 13 = some d_scoped
structure Tell (T : Nat → Option Df) : Prop where
  t14 : T 14 = some d_told
  t15 : T 15 = some d_ahead
  t16 : T 16 = some d_Telling___init__
  t17 : T 17 = some d_Telling_finish
  t18 : T 18 = some d_Telling_call
  t19 : T 19 = some d_Telling_later
  t20 : T 20 = some d_Telling_step
  t21 : T 21 = some d_Telling_settle
  t22 : T 22 = some d_Telling_settle_choose
  t23 : T 23 = some d_Telling_settle_let
structure Mach (T : Nat → Option Df) : Prop where
  t24 : T 24 = some d_run
  t25 : T 25 = some d_start_of
  t26 : T 26 = some d_Machine___init__
  t27 : T 27 = some d_Machine_finish
  t28 : T 28 = some d_Machine_call
  t29 : T 29 = some d_Machine_step
structure Smith (T : Nat → Option Df) : Prop where
  t30 : T 30 = some d_Code___init__
  t31 : T 31 = some d_smithed
  t32 : T 32 = some d_starts_of
  t33 : T 33 = some d_length
  t34 : T 34 = some d_most_lets
  t35 : T 35 = some d_height
  t36 : T 36 = some d_slot_of
  t37 : T 37 = some d_add_rows
  t38 : T 38 = some d_add_parts
  t39 : T 39 = some d_add_choose
  t40 : T 40 = some d_add_let
end PVLP
end

section
set_option Elab.async false
set_option linter.all false
set_option maxRecDepth 100000
set_option maxHeartbeats 1000000
/-! # Words for cells, dicts and instances: how they compute -/
namespace PVL
open PySem PySem.Spec PyProof.Rows L2
/-- a cell's place; an instance as a value -/
def lc (n : Nat) : PyData := loc n
def iv (c : Nat) (fs : List (Nat × PyData)) : PyData := dI c (fs.map fun p => (.int p.1, p.2))
theorem loc_lc (n : Nat) : loc n = lc n := rfl
@[simp] theorem asLoc_lc (n : Nat) : asLoc (lc n) = some n := rfl
@[simp] theorem asLoc_dD (l : List (PyData × PyData)) : asLoc (dD l) = none := rfl
@[simp] theorem asLoc_iv (c : Nat) (fs : List (Nat × PyData)) : asLoc (iv c fs) = none := rfl
@[simp] theorem dOf_dD (l : List (PyData × PyData)) (μ : Store) : dOf (dD l) μ = some l := rfl
@[simp] theorem noLoc_lc (n : Nat) : noLoc (lc n) = false := rfl
theorem flook_dlook (fs : List (Nat × PyData)) (f : Nat) : dlook (fs.map fun p => (PyData.int p.1, p.2)) (.int f) = flook fs f := by
  induction fs with
  | nil => rfl
  | cons p r ih =>
    rw [List.map_cons]
    unfold dlook flook keyEq
    by_cases h : p.1 = f
    · simp [h]
    · have : ¬ ((p.1 : Int) = (f : Int)) := by omega
      simp [h, this, ih]
@[simp] theorem attrP_iv (f c : Nat) (fs : List (Nat × PyData)) (μ : Store) : attrP f μ (iv c fs) = if f ∈ PVL.fieldsOf c then flook fs f else none := by
  show (if f ∈ PVL.fieldsOf c then dlook (fs.map fun p => (PyData.int p.1, p.2)) (.int f) else none) = _
  rw [flook_dlook]
def insF (f : Nat) (o : Option Cell) : Option PyData := match o with
  | some (.ins c fs) => if f ∈ PVL.fieldsOf c then flook fs f else none
  | _ => none
@[simp] theorem insF_ins (f c : Nat) (fs : List (Nat × PyData)) : insF f (some (.ins c fs)) = if f ∈ PVL.fieldsOf c then flook fs f else none := rfl
@[simp] theorem attrP_lc (f n : Nat) (μ : Store) : attrP f μ (lc n) = insF f μ[n]? := by
  show (match asLoc (lc n) with
    | some n => match μ[n]? with
      | some (.ins c fs) => if f ∈ PVL.fieldsOf c then flook fs f else none
      | _ => none
    | none => none) = _
  rw [asLoc_lc]
  rfl
def lstC (o : Option Cell) : Option (List PyData) := match o with
  | some (.lst l) => some l
  | _ => none
@[simp] theorem lstC_lst (l : List PyData) : lstC (some (.lst l)) = some l := rfl
@[simp] theorem lOf_lc (n : Nat) (μ : Store) : lOf (lc n) μ = lstC μ[n]? := rfl
def dctC (o : Option Cell) : Option (List (PyData × PyData)) := match o with
  | some (.dct l) => some l
  | _ => none
@[simp] theorem dctC_dct (l : List (PyData × PyData)) : dctC (some (.dct l)) = some l := rfl
@[simp] theorem dOf_lc (n : Nat) (μ : Store) : dOf (lc n) μ = dctC μ[n]? := rfl
def insOf (o : Option Cell) : Option (Nat × List (Nat × PyData)) := match o with
  | some (.ins c fs) => some (c, fs)
  | _ => none
@[simp] theorem insOf_ins (c : Nat) (fs : List (Nat × PyData)) : insOf (some (.ins c fs)) = some (c, fs) := rfl
@[simp] theorem insC_lc (n : Nat) (μ : Store) : insC (lc n) μ = insOf μ[n]? := rfl
def popL (n : Nat) (μ : Store) (o : Option Cell) : Option (PyData × Store) := match o with
  | some (.lst l) => match l.getLast? with
    | some x => some (x, μ.set n (.lst l.dropLast))
    | none => none
  | _ => none
@[simp] theorem popL_lst (n : Nat) (μ : Store) (l : List PyData) (x : PyData) : popL n μ (some (.lst (l ++ [x]))) = some (x, μ.set n (.lst l)) := by
  unfold popL
  simp
@[simp] theorem popP_lc (n : Nat) (μ : Store) : popP (lc n) μ = popL n μ μ[n]? := rfl
/-! places of a list -/
theorem atI_cast (l : List PyData) (k : Nat) : atI l (k : Int) = l[k]? := by
  unfold atI ixN
  by_cases h : k < l.length
  · simp [h]
  · simp [h]
@[simp] theorem atI_0 (l : List PyData) : atI l 0 = l[0]? := atI_cast l 0
@[simp] theorem atI_1 (l : List PyData) : atI l 1 = l[1]? := atI_cast l 1
@[simp] theorem atI_2 (l : List PyData) : atI l 2 = l[2]? := atI_cast l 2
@[simp] theorem atI_3 (l : List PyData) : atI l 3 = l[3]? := atI_cast l 3
@[simp] theorem atI_4 (l : List PyData) : atI l 4 = l[4]? := atI_cast l 4
@[simp] theorem atI_last (l : List PyData) (x : PyData) : atI (l ++ [x]) (-1) = some x := by
  unfold atI ixN
  rw [List.length_append, List.length_singleton, if_neg (by omega), if_pos (by omega)]
  have e : (-1 + ((l.length + 1 : Nat) : Int)).toNat = l.length := by omega
  show (l ++ [x])[(-1 + ((l.length + 1 : Nat) : Int)).toNat]? = some x
  rw [e]
  simp
/-! expressions -/
section
variable {C : Calls} {env : List SV} {μ : Store}
@[simp] theorem ev_slc_from {a : E} {i : Int} : ev C (.slc a (.cst (.int i)) .no) env μ = (ev C a env μ).bind fun x μ1 => opt (slcP x (some i) none) μ1 := rfl
@[simp] theorem ev_slc_to {a : E} {i : Int} : ev C (.slc a .no (.cst (.int i))) env μ = (ev C a env μ).bind fun x μ1 => opt (slcP x none (some i)) μ1 := rfl
@[simp] theorem ev_callP {f : Nat} {l : List E} : ev C (.callP f l) env μ = (evL C l env μ).bind fun ds μ1 => if noLocs ds then pureP μ1 (C f ds []) else .stuck := rfl
@[simp] theorem ev_make {c f : Nat} {l : List E} : ev C (.make c f l) env μ = (evL C l env μ).bind fun ds μ1 => madeP c μ1.length (C f (lc μ1.length :: ds) (μ1 ++ [.ins c []])) := rfl
@[simp] theorem madeP_ok {c n : Nat} : madeP c n (.ok .none μ) = .ok (lc n) μ := rfl
@[simp] theorem ev_mkF {c f : Nat} {l : List E} : ev C (.mkF c f l) env μ = (evL C l env μ).bind fun ds μ1 => if noLocs ds then madeF c μ1 (C f (lc 0 :: ds) [.ins c []]) else .stuck := rfl
@[simp] theorem madeF_ok {c : Nat} {fs : List (Nat × PyData)} : madeF c μ (.ok .none [.ins c fs]) = if fs.all (fun p => noLoc p.2) then .ok (iv c fs) μ else .stuck := by
  show (if c = c ∧ _ then _ else _) = _
  by_cases h : fs.all (fun p => noLoc p.2) = true
  · rw [if_pos ⟨rfl, h⟩, if_pos h]
    rfl
  · rw [if_neg (fun z => h z.2), if_neg h]
def methR (C : Calls) (ms : List (Nat × Nat)) (m : Nat) (x : PyData) (r : Rs (List PyData)) : Option (Nat × List (Nat × PyData)) → Rs PyData
  | some (c, _) => match ms.lookup c with
    | some f => if decide (m < 18) && !(PVL.fieldsOf c).contains m then r.bind fun ds μ2 => C f (x :: ds) μ2 else .stuck
    | none => .stuck
  | none => .stuck
@[simp] theorem methR_some {ms : List (Nat × Nat)} {m c : Nat} {x : PyData} {r : Rs (List PyData)} {fs : List (Nat × PyData)} : methR C ms m x r (some (c, fs)) = match ms.lookup c with
    | some f => if decide (m < 18) && !(PVL.fieldsOf c).contains m then r.bind fun ds μ2 => C f (x :: ds) μ2 else .stuck
    | none => .stuck := rfl
@[simp] theorem ev_meth {ms : List (Nat × Nat)} {m : Nat} {a : E} {l : List E} : ev C (.meth ms m a l) env μ = if ms.isEmpty then .stuck else (ev C a env μ).bind fun x μ1 => methR C ms m x (evL C l env μ1) (insC x μ1) := by
  rfl
def op1R : Option (PyData × Store) → Rs PyData
  | some (d, μ2) => .ok d μ2
  | none => .stuck
@[simp] theorem op1R_some {d : PyData} : op1R (some (d, μ)) = .ok d μ := rfl
@[simp] theorem ev_op1 {o : O1} {a : E} : ev C (.op1 o a) env μ = (ev C a env μ).bind fun x μ1 => op1R (op1P o x μ1) := rfl
@[simp] theorem ev_op2 {o : O2} {a b : E} : ev C (.op2 o a b) env μ = (ev C a env μ).bind fun x μ1 => if op2Q o x then (ev C b env μ1).bind fun y μ2 => opt (op2P o x y μ2) μ2 else .stuck := rfl
@[simp] theorem op1P_attr {f : Nat} {d : PyData} : op1P (.attr f) d μ = (attrP f μ d).map fun z => (z, μ) := rfl
@[simp] theorem op1P_clen {d : PyData} : op1P .clen d μ = (lOf d μ).map fun l => (.int l.length, μ) := rfl
@[simp] theorem op1P_ctru {d : PyData} : op1P .ctru d μ = (lOf d μ).map fun l => (.bool (!l.isEmpty), μ) := rfl
@[simp] theorem op1P_cpop {d : PyData} : op1P .cpop d μ = popP d μ := rfl
@[simp] theorem op1P_ccopy {d : PyData} : op1P .ccopy d μ = (lOf d μ).map fun l => (.list l, μ) := rfl
@[simp] theorem op1P_lenset {d : PyData} : op1P .lenset d μ = (lensetP d).map fun z => (z, μ) := rfl
@[simp] theorem op1P_maxD {k : Int} {d : PyData} : op1P (.maxD k) d μ = (maxDP k d).map fun z => (z, μ) := rfl
@[simp] theorem op1P_copyD {d : PyData} : op1P .copyD d μ = (dOf d μ).map fun l => (dD l, μ) := rfl
@[simp] theorem op1P_litems {d : PyData} : op1P .litems d μ = (dOf d μ).map fun l => (.list (l.map fun p => .tuple [p.1, p.2]), μ) := rfl
@[simp] theorem op1P_lkeys {d : PyData} : op1P .lkeys d μ = (dOf d μ).map fun l => (.list (l.map (·.1)), μ) := rfl
@[simp] theorem op1P_isD {d : PyData} : op1P .isD d μ = (isDP d).map fun z => (z, μ) := rfl
@[simp] theorem op1P_isC {c : Nat} {d : PyData} : op1P (.isC c) d μ = (isCP c d).map fun z => (z, μ) := rfl
@[simp] theorem isDP_dD (l : List (PyData × PyData)) : isDP (dD l) = some (.bool true) := rfl
@[simp] theorem isCP_iv (c c' : Nat) (fs : List (Nat × PyData)) : isCP c' (iv c fs) = if c = c' then some (.bool true) else none := rfl
@[simp] theorem op2P_dget {d e : PyData} : op2P .dget d e μ = dgetP d e μ := rfl
@[simp] theorem op2P_din {ng : Bool} {d e : PyData} : op2P (.din ng) d e μ = dinP ng d e μ := rfl
@[simp] theorem op2P_cidx {d e : PyData} : op2P .cidx d e μ = cidxP d e μ := rfl
@[simp] theorem op2P_cslc {d e : PyData} : op2P .cslc d e μ = cslcP d e μ := rfl
@[simp] theorem op2P_lindex {d e : PyData} : op2P .lindex d e μ = lindexP d e := rfl
@[simp] theorem op2P_dzip {d e : PyData} : op2P .dzip d e μ = dzipP d e := rfl
@[simp] theorem op2P_lzip {d e : PyData} : op2P .lzip d e μ = lzipP d e := rfl
@[simp] theorem op2Q_dget {d : PyData} : op2Q .dget d = true := rfl
@[simp] theorem op2Q_din {ng : Bool} {d : PyData} : op2Q (.din ng) d = true := rfl
@[simp] theorem op2Q_cidx {d : PyData} : op2Q .cidx d = true := rfl
@[simp] theorem op2Q_cslc {d : PyData} : op2Q .cslc d = true := rfl
@[simp] theorem op2Q_dzip {d : PyData} : op2Q .dzip d = true := rfl
@[simp] theorem op2Q_lzip {d : PyData} : op2Q .lzip d = true := rfl
@[simp] theorem op2Q_lindex {l : List PyData} : op2Q .lindex (.list l) = true := rfl
def bindO {α β : Type} (o : Option α) (f : α → Option β) : Option β := match o with
  | some a => f a
  | none => none
@[simp] theorem bindO_some {α β : Type} {a : α} {f : α → Option β} : bindO (some a) f = f a := rfl
@[simp] theorem dgetP_str {d : PyData} {k : Str} : dgetP d (.str k) μ = bindO (dOf d μ) fun l => dlook l (.str k) := by
  unfold dgetP
  rw [if_pos (by rfl)]
  cases dOf d μ <;> rfl
@[simp] theorem dgetP_int {d : PyData} {k : Int} : dgetP d (.int k) μ = bindO (dOf d μ) fun l => dlook l (.int k) := by
  unfold dgetP
  rw [if_pos (by rfl)]
  cases dOf d μ <;> rfl
@[simp] theorem dinP_str {ng : Bool} {d : PyData} {k : Str} : dinP ng (.str k) d μ = (dOf d μ).map fun l => .bool ((dlook l (.str k)).isSome != ng) := rfl
@[simp] theorem cidxP_int {d : PyData} {i : Int} : cidxP d (.int i) μ = bindO (lOf d μ) fun l => atI l i := by
  unfold cidxP
  cases lOf d μ <;> rfl
@[simp] theorem cslcP_int {d : PyData} {i : Int} : cslcP d (.int i) μ = (lOf d μ).map fun l => .list (PVL.cutD l (some i) none) := rfl
def starR (b : Bool) (x : PyData) (k : Rs PyData) (f : PyData → PyData) : Rs PyData := .stuck
@[simp] theorem ev_star {a b : E} : ev C (.star a b) env μ = (ev C a env μ).bind fun x μ1 => match x with
    | .tuple xs => if b.isBv then .stuck else (ev C b env μ1).bind fun y μ2 => if xs.length + 1 ≤ lim then .ok (.tuple (xs ++ [y])) μ2 else .stuck
    | _ => .stuck := rfl
@[simp] theorem ev_repN {a b : E} : ev C (.repN a b) env μ = if !a.fresh then .stuck else (ev C a env μ).bind fun x μ1 => match x with
    | .list l => (ev C b env μ1).bind fun y μ2 => match y with
      | .int k => if -two62 ≤ k ∧ k < two62 ∧ l.length * k.toNat ≤ lim then .ok (.list (List.replicate k.toNat l).flatten) μ2 else .stuck
      | _ => .stuck
    | _ => .stuck := rfl
def boxR (x : PyData) (μ : Store) : Rs PyData := match x with
  | .list l => .ok (lc μ.length) (μ ++ [.lst l])
  | _ => .stuck
@[simp] theorem boxR_list {l : List PyData} : boxR (.list l) μ = .ok (lc μ.length) (μ ++ [.lst l]) := rfl
@[simp] theorem ev_box {a : E} : ev C (.box a) env μ = if !a.fresh then .stuck else (ev C a env μ).bind boxR := rfl
@[simp] theorem ev_dispD {ks : List Str} {l : List E} : ev C (.dispD ks l) env μ = if ks.Nodup ∧ ks.length = l.length ∧ ks.length ≤ 15 then (evL C l env μ).bind fun ds μ1 => .ok (dD (List.zip (ks.map .str) ds)) μ1 else .stuck := rfl
@[simp] theorem evI_revI {a : E} : evI C (.revI a) env μ = if a.isBv then .stuck else (ev C a env μ).bind fun x μ1 => match x with
    | .list xs => .ok xs.reverse μ1
    | _ => .stuck := rfl
end
/-! statements -/
section
variable {C : Calls} {sub : Under} {L : Nat} {env : List SV} {μ : Store}
def putR (o : Option (List SV × Store)) : Out := match o with
  | some (env', μ2) => .nx env' μ2
  | none => .stuck
@[simp] theorem putR_some {e : List SV} : putR (some (e, μ)) = .nx e μ := rfl
@[simp] theorem runS_asgX {t : Tx} {e : E} : runS C sub L (.asgX t e) env μ = if e.isBv then .stuck else thenO (ev C e env μ) env fun d μ1 => putR (t.put d env μ1) := rfl
@[simp] theorem putX_nil : putX [] [] env μ = some (env, μ) := rfl
@[simp] theorem put_nm {i : Nat} {d : PyData} : (Tx.nm i).put d env μ = some (env.set i (.pv d), μ) := rfl
@[simp] theorem put_tp {l : List Tx} {ds : List PyData} : (Tx.tp l).put (.tuple ds) env μ = putX l ds env μ := rfl
@[simp] theorem put_ls {l : List Tx} {ds : List PyData} : (Tx.ls l).put (.list ds) env μ = putX l ds env μ := rfl
@[simp] theorem put_at {i f : Nat} {d o : PyData} (h : env[i]? = some (.pv o)) : (Tx.at i f).put d env μ = (attrSet f o d μ).map fun μ' => (env, μ') := by
  show (match env[i]? with
    | some (.pv o) => (attrSet f o d μ).map fun μ' => (env, μ')
    | _ => none) = _
  rw [h]
@[simp] theorem putX_cons {t : Tx} {ts : List Tx} {d : PyData} {ds : List PyData} : putX (t :: ts) (d :: ds) env μ = bindO (t.put d env μ) fun p => putX ts ds p.1 p.2 := by
  show (match t.put d env μ with
    | some (env', μ') => putX ts ds env' μ'
    | none => none) = _
  cases t.put d env μ with
  | none => rfl
  | some p => rfl
def odR (i : Nat) (env : List SV) (d : PyData) (μ : Store) : Out := match d with
  | .dict ((.none, .bool false) :: l) => .nx (env.set i (.od l)) μ
  | _ => .stuck
@[simp] theorem odR_dD {i : Nat} {l : List (PyData × PyData)} : odR i env (dD l) μ = .nx (env.set i (.od l)) μ := rfl
@[simp] theorem runS_asgD {i : Nat} {e : E} : runS C sub L (.asgD i e) env μ = if e.freshD then thenO (ev C e env μ) env (odR i env) else .stuck := rfl
def odK (o : Option SV) (k : List (PyData × PyData) → Out) : Out := match o with
  | some (.od l) => k l
  | _ => .stuck
@[simp] theorem odK_od {l : List (PyData × PyData)} {k : List (PyData × PyData) → Out} : odK (some (.od l)) k = k l := rfl
@[simp] theorem runS_dset {i : Nat} {k e : E} : runS C sub L (.dset i k e) env μ = odK env[i]? fun l => if e.isBv then .stuck else thenO (ev C e env μ) env fun d μ1 => thenO (ev C k env μ1) env fun kk μ2 => if isKey kk ∧ l.length < lim then .nx (env.set i (.od (dput l kk d))) μ2 else .stuck := by
  unfold runS odK
  rfl
def appC (n : Nat) (env : List SV) (d : PyData) (μ : Store) (o : Option Cell) : Out := match o with
  | some (.lst l) => if l.length < lim then .nx env (μ.set n (.lst (l ++ [d]))) else .stuck
  | _ => .stuck
@[simp] theorem appC_lst {n : Nat} {d : PyData} {l : List PyData} : appC n env d μ (some (.lst l)) = if l.length < lim then .nx env (μ.set n (.lst (l ++ [d]))) else .stuck := rfl
theorem runS_capp {a e : E} {n : Nat} {μ1 : Store} {l : List PyData} (h : ev C a env μ = .ok (lc n) μ1) (hl : μ1[n]? = some (.lst l)) : runS C sub L (.capp a e) env μ = if e.isBv then .stuck else thenO (ev C e env μ1) env fun d μ2 => appC n env d μ2 μ2[n]? := by
  unfold runS
  rw [h, thenO_ok]
  have e1 : lOf (lc n) μ1 = some l := by rw [lOf_lc, hl]; rfl
  simp only [e1, asLoc_lc]
  rfl
@[simp] theorem runS_augN {i : Nat} {e : E} {x : Int} (h : env[i]? = some (.pv (.int x))) : runS C sub L (.augN i e) env μ = thenO (ev C e env μ) env fun d μ1 => match d with
        | .int y => .nx (env.set i (.pv (.int (x + y)))) μ1
        | _ => .stuck := by
  unfold runS
  rw [h] <;> rfl
theorem attrSet_lc {f n : Nat} {d : PyData} {c : Nat} {fs : List (Nat × PyData)} (h : μ[n]? = some (.ins c fs)) : attrSet f (lc n) d μ = if f ∈ PVL.fieldsOf c ∧ fs.length < 900 then some (μ.set n (.ins c (fput fs f d))) else none := by
  unfold attrSet
  rw [asLoc_lc]
  simp only [h]
/-- the list of a cell is asked for -/
def needL (o : Option (List PyData)) (k : List PyData → Out) : Out := match o with
  | some l => k l
  | none => .stuck
@[simp] theorem needL_some {l : List PyData} {k : List PyData → Out} : needL (some l) k = k l := rfl
def needN (o : Option Nat) (k : Nat → Out) : Out := match o with
  | some l => k l
  | none => .stuck
@[simp] theorem needN_some {l : Nat} {k : Nat → Out} : needN (some l) k = k l := rfl
def needM (o : Option Store) (k : Store → Out) : Out := match o with
  | some l => k l
  | none => .stuck
@[simp] theorem needM_some {l : Store} {k : Store → Out} : needM (some l) k = k l := rfl
def needI (o : Option (Nat × List (Nat × PyData))) (k : Nat → List (Nat × PyData) → Out) : Out := match o with
  | some (c, fs) => k c fs
  | none => .stuck
@[simp] theorem needI_some {c : Nat} {fs : List (Nat × PyData)} {k : Nat → List (Nat × PyData) → Out} : needI (some (c, fs)) k = k c fs := rfl
@[simp] theorem runS_capp' {a e : E} : runS C sub L (.capp a e) env μ = thenO (ev C a env μ) env fun o μ1 => needL (lOf o μ1) fun _ => if e.isBv then .stuck else thenO (ev C e env μ1) env fun d μ2 => needN (asLoc o) fun n => appC n env d μ2 μ2[n]? := by
  unfold runS
  rfl
def del3 (n : Nat) (env : List SV) (kk : PyData) (μ : Store) : Out := match kk with
  | .int i => needL (lstC μ[n]?) fun l => if 0 ≤ i ∧ i ≤ l.length then .nx env (μ.set n (.lst (l.take i.toNat))) else .stuck
  | _ => .stuck
@[simp] theorem del3_int {n : Nat} {i : Int} : del3 n env (.int i) μ = needL (lstC μ[n]?) fun l => if 0 ≤ i ∧ i ≤ l.length then .nx env (μ.set n (.lst (l.take i.toNat))) else .stuck := rfl
@[simp] theorem runS_cdel {a lo : E} : runS C sub L (.cdel a lo) env μ = thenO (ev C a env μ) env fun o μ1 => thenO (ev C lo env μ1) env fun kk μ2 => needN (asLoc o) fun n => del3 n env kk μ2 := by
  unfold runS
  congr 1
  funext o μ1
  congr 1
  funext kk μ2
  cases h : asLoc o with
  | none => rfl
  | some n =>
    cases kk with
    | int i =>
      rw [needN_some, del3_int]
      simp only
      cases hm : μ2[n]? with
      | none => rfl
      | some c => cases c <;> rfl
    | _ => rfl
def insS (f n : Nat) (d : PyData) (μ : Store) (o : Option (Nat × List (Nat × PyData))) : Option Store := match o with
  | some (c, fs) => if f ∈ PVL.fieldsOf c ∧ fs.length < 900 then some (μ.set n (.ins c (fput fs f d))) else none
  | none => none
@[simp] theorem insS_some {f n c : Nat} {d : PyData} {fs : List (Nat × PyData)} : insS f n d μ (some (c, fs)) = if f ∈ PVL.fieldsOf c ∧ fs.length < 900 then some (μ.set n (.ins c (fput fs f d))) else none := rfl
@[simp] theorem attrSet_lc' {f n : Nat} {d : PyData} : attrSet f (lc n) d μ = insS f n d μ (insOf μ[n]?) := by
  unfold attrSet
  rw [asLoc_lc]
  simp only
  cases hm : μ[n]? with
  | none => rfl
  | some c => cases c <;> rfl
@[simp] theorem runS_sattr {a e : E} {f : Nat} : runS C sub L (.sattr a f e) env μ = if e.isBv then .stuck else thenO (ev C e env μ) env fun d μ1 => thenO (ev C a env μ1) env fun o μ2 => needM (attrSet f o d μ2) fun μ3 => .nx env μ3 := by
  unfold runS
  congr 1
def saug3 (env : List SV) (o : PyData) (f c : Nat) (i : Int) (d : PyData) (μ : Store) : Out := match d with
  | .int j => needI (insC o μ) fun c' _ => if c = c' then needM (attrSet f o (.int (i + j)) μ) fun μ3 => .nx env μ3 else .stuck
  | _ => .stuck
@[simp] theorem saug3_int {o : PyData} {f c : Nat} {i j : Int} : saug3 env o f c i (.int j) μ = needI (insC o μ) fun c' _ => if c = c' then needM (attrSet f o (.int (i + j)) μ) fun μ3 => .nx env μ3 else .stuck := rfl
def saug2 (o : Option PyData) (k : Int → Out) : Out := match o with
  | some (.int i) => k i
  | _ => .stuck
@[simp] theorem saug2_int {i : Int} {k : Int → Out} : saug2 (some (.int i)) k = k i := rfl
@[simp] theorem runS_saug {a e : E} {f : Nat} : runS C sub L (.saug a f e) env μ = thenO (ev C a env μ) env fun o μ1 => needI (insC o μ1) fun c fs => saug2 (flook fs f) fun i => if f ∈ PVL.fieldsOf c then thenO (ev C e env μ1) env fun d μ2 => saug3 env o f c i d μ2 else .stuck := by
  unfold runS
  rfl
def setL3 (n : Nat) (env : List SV) (d kk : PyData) (μ : Store) : Out := match kk with
  | .int i => needL (lstC μ[n]?) fun l => needN (ixN l.length i) fun j => .nx env (μ.set n (.lst (l.set j d)))
  | _ => .stuck
@[simp] theorem setL3_int {n : Nat} {d : PyData} {i : Int} : setL3 n env d (.int i) μ = needL (lstC μ[n]?) fun l => needN (ixN l.length i) fun j => .nx env (μ.set n (.lst (l.set j d))) := rfl
@[simp] theorem runS_csetL {a k e : E} : runS C sub L (.csetL a k e) env μ = if e.isBv then .stuck else thenO (ev C e env μ) env fun d μ1 => thenO (ev C a env μ1) env fun o μ2 => thenO (ev C k env μ2) env fun kk μ3 => needN (asLoc o) fun n => setL3 n env d kk μ3 := by
  unfold runS
  congr 1
  congr 1
  funext d μ1
  congr 1
  funext o μ2
  congr 1
  funext kk μ3
  cases h : asLoc o with
  | none => rfl
  | some n =>
    cases kk with
    | int i =>
      rw [needN_some, setL3_int]
      simp only
      cases hm : μ3[n]? with
      | none => rfl
      | some c => cases c <;> rfl
    | _ => rfl
theorem runS_frzC {i : Nat} {s : S} {env' : List SV} {μ' : Store} (h : frzCP i env μ = some (env', μ')) : runS C sub L (.frzC i s) env μ = runS C sub L s env' μ' := by
  show (match frzCP i env μ with
      | some (env', μ') => runS C sub L s env' μ'
      | none => .stuck) = _
  rw [h]
theorem frzC_lst {i n : Nat} {l : List PyData} (h : env[i]? = some (.pv (lc n))) (hm : μ[n]? = some (.lst l)) : frzCP i env μ = some (env.set i (.pv (.list l)), μ.set n .dead) := by
  unfold frzCP
  rw [h]
  simp only [asLoc_lc]
  rw [hm]
end
end PVL
end

section
set_option Elab.async false
set_option linter.all false
set_option maxRecDepth 100000
set_option maxHeartbeats 1000000
/-! # Trees, and what the program computes of them -/
namespace PVLP
open PySem PySem.Spec PyProof.Rows L2 PVL
inductive W5 | sum | less | times | part | below
deriving DecidableEq
def W5.str : W5 → Str
  | .sum => "sum" | .less => "less" | .times => "times" | .part => "part" | .below => "below"
inductive Tr where
  | num (n : Int)
  | name (x : Str)
  | deed (w : W5) (a b : Tr)
  | choose (c a b : Tr)
  | lett (x : Str) (a b : Tr)
  | call (f : Str) (l : List Tr)
mutual
def enc : Tr → PyData
  | .num n => .tuple [.str "num", .int n]
  | .name x => .tuple [.str "name", .str x]
  | .deed w a b => .tuple [.str w.str, enc a, enc b]
  | .choose c a b => .tuple [.str "choose", enc c, enc a, enc b]
  | .lett x a b => .tuple [.str "let", .str x, enc a, enc b]
  | .call f l => .tuple [.str "call", .str f, .tuple (encL l)]
def encL : List Tr → List PyData
  | [] => []
  | t :: l => enc t :: encL l
end
theorem encL_map : ∀ l, encL l = l.map enc
  | [] => rfl
  | t :: l => by rw [encL, encL_map l]; rfl
def parts : Tr → List Tr
  | .num _ => []
  | .name _ => []
  | .deed _ a b => [a, b]
  | .choose c a b => [c, a, b]
  | .lett _ a b => [a, b]
  | .call _ l => l
mutual
def len : Tr → Nat
  | .num _ => 1
  | .name _ => 1
  | .deed _ a b => 1 + (len a + len b)
  | .choose c a b => 2 + (len c + (len a + len b))
  | .lett _ a b => 1 + (len a + len b)
  | .call _ l => 1 + lenL l
def lenL : List Tr → Nat
  | [] => 0
  | t :: l => len t + lenL l
end
mutual
/-- levels -/
def tall : Tr → Nat
  | .num _ => 1
  | .name _ => 1
  | .deed _ a b => 1 + max (tall a) (tall b)
  | .choose c a b => 1 + max (tall c) (max (tall a) (tall b))
  | .lett _ a b => 1 + max (tall a) (tall b)
  | .call _ l => 1 + tallL l
def tallL : List Tr → Nat
  | [] => 0
  | t :: l => max (tall t) (tallL l)
end
mutual
/-- no call has too many trees -/
def few : Tr → Prop
  | .num _ => True
  | .name _ => True
  | .deed _ a b => few a ∧ few b
  | .choose c a b => few c ∧ few a ∧ few b
  | .lett _ a b => few a ∧ few b
  | .call _ l => l.length ≤ 1000 ∧ fewL l
def fewL : List Tr → Prop
  | [] => True
  | t :: l => few t ∧ fewL l
end
theorem fewL_mem : ∀ {l : List Tr}, fewL l → ∀ t ∈ l, few t
  | t :: l, h, u, hu => by
    rcases List.mem_cons.mp hu with rfl | hu
    · exact h.1
    · exact fewL_mem h.2 u hu
theorem tall_mem : ∀ {l : List Tr} {t : Tr}, t ∈ l → tall t ≤ tallL l
  | u :: l, t, h => by
    rcases List.mem_cons.mp h with rfl | h
    · exact Nat.le_max_left _ _
    · exact Nat.le_trans (tall_mem h) (Nat.le_max_right _ _)
theorem tall_pos (t : Tr) : 1 ≤ tall t := by cases t <;> unfold tall <;> omega
theorem few_parts {t : Tr} (h : few t) : ∀ u ∈ parts t, few u := by
  cases t <;> simp only [parts, few] at h ⊢
  · simp
  · simp
  · simp [h.1, h.2]
  · simp [h.1, h.2.1, h.2.2]
  · simp [h.1, h.2]
  · exact fewL_mem h.2
theorem tall_parts {t u : Tr} (h : u ∈ parts t) : tall u + 1 ≤ tall t := by
  cases t <;> simp only [parts, tall] at h ⊢
  · simp at h
  · simp at h
  · simp at h; rcases h with rfl | rfl <;> omega
  · simp at h; rcases h with rfl | rfl | rfl <;> omega
  · simp at h; rcases h with rfl | rfl <;> omega
  · have := tall_mem h; omega
theorem few_len {t : Tr} (h : few t) : (parts t).length ≤ 1000 := by
  cases t with
  | call f l => exact h.1
  | _ => simp [parts]
/-- the five words are none of the other ones -/
theorem w5 (w : W5) : (w.str == ("num" : Str)) = false ∧ (w.str == ("name" : Str)) = false ∧ (w.str == ("let" : Str)) = false ∧ (w.str == ("call" : Str)) = false ∧ (w.str == ("choose" : Str)) = false := by
  cases w <;> decide +kernel
theorem ws : ((Str.ofString "name") == (Str.ofString "num")) = false ∧ ((Str.ofString "choose") == (Str.ofString "num")) = false ∧ ((Str.ofString "let") == (Str.ofString "num")) = false ∧ ((Str.ofString "call") == (Str.ofString "num")) = false
    ∧ ((Str.ofString "num") == (Str.ofString "name")) = false ∧ ((Str.ofString "choose") == (Str.ofString "name")) = false ∧ ((Str.ofString "let") == (Str.ofString "name")) = false ∧ ((Str.ofString "call") == (Str.ofString "name")) = false
    ∧ ((Str.ofString "num") == (Str.ofString "choose")) = false ∧ ((Str.ofString "name") == (Str.ofString "choose")) = false ∧ ((Str.ofString "let") == (Str.ofString "choose")) = false ∧ ((Str.ofString "call") == (Str.ofString "choose")) = false
    ∧ ((Str.ofString "num") == (Str.ofString "let")) = false ∧ ((Str.ofString "name") == (Str.ofString "let")) = false ∧ ((Str.ofString "choose") == (Str.ofString "let")) = false ∧ ((Str.ofString "call") == (Str.ofString "let")) = false
    ∧ ((Str.ofString "num") == (Str.ofString "call")) = false ∧ ((Str.ofString "name") == (Str.ofString "call")) = false ∧ ((Str.ofString "choose") == (Str.ofString "call")) = false ∧ ((Str.ofString "let") == (Str.ofString "call")) = false := by decide +kernel
theorem slc_tail {d : PyData} {ds : List PyData} : slcP (.tuple (d :: ds)) (some 1) none = some (.tuple ds) := by
  have e : HT.sIx (d :: ds).length 0 (some 1) = 1 := by
    have := HT.sIx_nat (d :: ds).length 0 1
    rw [List.length_cons] at this ⊢
    exact this.trans (by omega)
  unfold slcP
  simp only [e]
  rw [if_neg (by omega), cut_from (by omega) (by simp only [List.length_cons]; omega)]
  rfl
section
variable {T : Nat → Option Df} {sub : Under} {L : Nat}
theorem within_eq (R : Trees T) (n : Nat) (t : Tr) (μ : Store) : runF T sub L (n + 1) 6 [enc t] μ = .ok (.list ((parts t).map enc)) μ := by
  unfold runF
  simp only [R.t6, d_within, b_within]
  cases t with
  | num n => simp -implicitDefEqProofs [enter, enc, parts, ws, lim]
  | name n => simp -implicitDefEqProofs [enter, enc, parts, ws, lim]
  | deed w a b => simp -implicitDefEqProofs [enter, enc, parts, w5 w, lim, slc_tail]
  | choose c a b => simp -implicitDefEqProofs [enter, enc, parts, ws, lim, slc_tail]
  | lett x a b => simp -implicitDefEqProofs [enter, enc, parts, ws, lim]
  | call f l => simp -implicitDefEqProofs [enter, enc, parts, ws, lim, encL_map]
theorem within_eq' (R : Trees T) {n : Nat} (h : 1 ≤ n) (t : Tr) (μ : Store) : runF T sub L n 6 [enc t] μ = .ok (.list ((parts t).map enc)) μ := by
  obtain ⟨m, rfl⟩ : ∃ m, n = m + 1 := ⟨n - 1, by omega⟩
  exact within_eq R m t μ
theorem intsD_map {α : Type} (f : α → Int) : ∀ l : List α, intsD (l.map fun x => PyData.int (f x)) = some (l.map f)
  | [] => rfl
  | x :: r => by
    rw [List.map_cons, List.map_cons]
    show (intsD (r.map fun x => PyData.int (f x))).map (f x :: ·) = _
    rw [intsD_map f r]
    rfl
theorem lenL_sum : ∀ l : List Tr, ((lenL l : Nat) : Int) = (l.map fun t => ((len t : Nat) : Int)).sum
  | [] => rfl
  | t :: l => by
    rw [List.map_cons, List.sum_cons, ← lenL_sum l]
    simp [lenL]
/-- a comprehension over encoded things -/
theorem comp_list {α : Type} (en : α → PyData) {C : Calls} {env : List SV} {μ : Store} {it e : E} {tg : Tg} {vs : List Nat} {l : List α} (f : α → PyData) (hi : evI C it env μ = .ok (l.map en) μ) (hb : e.isBv = false) (hl : l.length ≤ lim)
    (hlen : tg.slots.all (fun j => vs.contains j && decide (j < env.length)) = true)
    (h : ∀ t ∈ l, ∃ e', tg.put (en t) (wipeE env vs) = some e' ∧ ev C e e' μ = .ok (f t) μ) : ev C (.comp it tg .no e vs) env μ = .ok (.list (l.map f)) μ := by
  have key : ∀ l : List α, (∀ t ∈ l, ∃ e', tg.put (en t) (wipeE env vs) = some e' ∧ ev C e e' μ = .ok (f t) μ) →
      cLoop tg (fun env' μ' => (Rs.ok true μ' : Rs Bool).bind fun k μ2 => if k then (ev C e env' μ2).bind fun d μ3 => .ok (some d) μ3 else .ok none μ2) (wipeE env vs) (l.map en) μ = .ok (l.map f) μ := by
    intro l
    induction l with
    | nil => intro _; rfl
    | cons t r ih =>
      intro h
      obtain ⟨e', h1, h2⟩ := h t List.mem_cons_self
      unfold cLoop
      simp only [List.map_cons, h1, Rs.bind_ok, if_true]
      rw [h2]
      simp only [Rs.bind_ok]
      have := ih fun u hu => h u (List.mem_cons_of_mem _ hu)
      simp only [Rs.bind_ok, if_true] at this
      rw [this]
      rfl
  show (evI C it env μ).bind _ = _
  rw [hi, Rs.bind_ok]
  have h2 : (l.map en).length ≤ lim := by rw [List.length_map]; exact hl
  rw [hlen, hb, decide_eq_true h2]
  simp only [Bool.not_false, Bool.and_self, if_true]
  have := key l h
  simp only [Rs.bind_ok, if_true] at this ⊢
  rw [this]
theorem comp_trees {C : Calls} {env : List SV} {μ : Store} {it e : E} {i : Nat} {l : List Tr} (f : Tr → PyData) (hi : evI C it env μ = .ok (l.map enc) μ) (hb : e.isBv = false) (hl : l.length ≤ 1000) (hlen : i < env.length)
    (h : ∀ t ∈ l, ev C e ((env.set i .un).set i (.pv (enc t))) μ = .ok (f t) μ) : ev C (.comp it (.nm i) .no e [i]) env μ = .ok (.list (l.map f)) μ :=
  comp_list enc f hi hb (by unfold lim; omega) (by simp [hlen]) fun t ht => ⟨_, rfl, h t ht⟩
theorem length_eq (R : Trees T) (S : Smith T) : ∀ k t, tall t ≤ k → few t → ∀ n, k + 1 ≤ n → ∀ μ, runF T sub L n 33 [enc t] μ = .ok (.int (len t)) μ := by
  intro k
  induction k with
  | zero => intro t h; have := tall_pos t; omega
  | succ k ih =>
    intro t h hf n hn μ
    obtain ⟨m, rfl⟩ : ∃ m, n = m + 1 := ⟨n - 1, by omega⟩
    unfold runF
    simp only [S.t33, d_length, b_length]
    have hp : ∀ u ∈ parts t, ∀ μ, runF T sub L m 33 [enc u] μ = .ok (.int (len u)) μ := fun u hu μ => ih u (by have := tall_parts hu; omega) (few_parts hf u hu) m (by omega) μ
    have hw := fun μ => within_eq' (sub := sub) (L := L) R (n := m) (by omega) t μ
    have hc : ∀ x : SV, ev (runF T sub L m) (.comp (.seqL (.call 6 [.var 0])) (.nm 2) .no (.call 33 [.var 2]) [2]) [.pv (enc t), x, .un] μ = .ok (.list ((parts t).map fun u => .int (len u : Nat))) μ := fun x => by
      refine comp_trees (fun u => .int (len u : Nat)) ?_ rfl (few_len hf) (by simp) fun u hu => ?_
      · simp -implicitDefEqProofs [hw]
      · simp -implicitDefEqProofs [hp u hu]
    have hs : biP .sumL [.list ((parts t).map fun u => .int (len u : Nat))] = some (.int ((parts t).map fun u => ((len u : Nat) : Int)).sum) := by
      show (intsD ((parts t).map fun u => PyData.int ((len u : Nat) : Int))).map _ = _
      rw [intsD_map]
      rfl
    cases t with
    | num n =>
      simp -implicitDefEqProofs [enc, parts] at hc hs ⊢
      simp -implicitDefEqProofs [enter, ws, hc, hs, len]
    | name n =>
      simp -implicitDefEqProofs [enc, parts] at hc hs ⊢
      simp -implicitDefEqProofs [enter, ws, hc, hs, len]
    | deed w a b =>
      simp -implicitDefEqProofs [enc, parts] at hc hs ⊢
      simp -implicitDefEqProofs [enter, w5 w, hc, hs, len]
    | choose c a b =>
      simp -implicitDefEqProofs [enc, parts] at hc hs ⊢
      simp -implicitDefEqProofs [enter, ws, hc, hs, len]
    | lett x a b =>
      simp -implicitDefEqProofs [enc, parts] at hc hs ⊢
      simp -implicitDefEqProofs [enter, ws, hc, hs, len]
    | call f l =>
      simp -implicitDefEqProofs [enc, parts] at hc hs ⊢
      simp -implicitDefEqProofs [enter, ws, hc, hs, len, lenL_sum]
/-! the most of a list -/
def maxN : List Nat → Nat
  | [] => 0
  | x :: r => max x (maxN r)
theorem maxI_N : ∀ {l : List Nat}, l ≠ [] → maxI (l.map fun (x : Nat) => (x : Int)) = (maxN l : Nat)
  | [x], _ => by simp [maxI, maxN]
  | x :: y :: r, _ => by
    have ih := maxI_N (l := y :: r) (by simp)
    have e : maxI ((x :: y :: r).map fun (x : Nat) => (x : Int)) = if (x : Int) < maxI ((y :: r).map fun (x : Nat) => (x : Int)) then maxI ((y :: r).map fun (x : Nat) => (x : Int)) else (x : Int) := rfl
    rw [e, ih]
    show _ = ((max x (maxN (y :: r)) : Nat) : Int)
    split <;> omega
theorem maxD_N {α : Type} (k : Nat) (f : α → Nat) (l : List α) : maxDP k (.list (l.map fun x => PyData.int (f x : Nat))) = some (.int ((if l = [] then k else maxN (l.map f) : Nat) : Int)) := by
  have h := intsD_map (fun x => ((f x : Nat) : Int)) l
  show (match intsD (l.map fun x => PyData.int (f x : Nat)) with
      | some l => some (PyData.int (if l.isEmpty then (k : Int) else maxI l))
      | none => none) = _
  rw [h]
  cases l with
  | nil => rfl
  | cons x r =>
    have := maxI_N (l := (x :: r).map f) (by simp)
    rw [List.map_map] at this
    have e : ((x :: r).map fun x => ((f x : Nat) : Int)) = (x :: r).map ((fun (x : Nat) => (x : Int)) ∘ f) := rfl
    simp only
    rw [e, this, if_neg (by simp), if_neg (List.cons_ne_nil _ _)]
theorem maxL_N {α : Type} (f : α → Nat) {l : List α} (h : l ≠ []) : biP .maxL [.list (l.map fun x => PyData.int (f x : Nat))] = some (.int ((maxN (l.map f) : Nat) : Int)) := by
  cases l with
  | nil => exact absurd rfl h
  | cons x r =>
    have h := intsD_map (fun x => ((f x : Nat) : Int)) (x :: r)
    show (match intsD ((x :: r).map fun x => PyData.int (f x : Nat)) with
      | some (i :: r) => some (PyData.int (maxI (i :: r)))
      | _ => none) = _
    rw [h]
    have := maxI_N (l := (x :: r).map f) (by simp)
    rw [List.map_map] at this
    rw [← this]
    rfl
theorem max2_eq (i j : Int) : biP .max2 [.int i, .int j] = some (.int (max i j)) := by
  show some (PyData.int (if j > i then j else i)) = _
  split
  · rw [Int.max_eq_right (by omega)]
  · rw [Int.max_eq_left (by omega)]
mutual
/-- the most lets within each other by their second trees -/
def lets : Tr → Nat
  | .num _ => 0
  | .name _ => 0
  | .deed _ a b => max (lets a) (lets b)
  | .choose c a b => max (lets c) (max (lets a) (lets b))
  | .lett _ a b => max (lets a) (1 + lets b)
  | .call _ l => letsL l
def letsL : List Tr → Nat
  | [] => 0
  | t :: l => max (lets t) (letsL l)
end
theorem letsL_max : ∀ l : List Tr, letsL l = maxN (l.map lets)
  | [] => rfl
  | t :: l => by
    rw [List.map_cons, letsL, letsL_max l]
    rfl
mutual
/-- the most numbers on the stack -/
def hgt : Tr → Nat
  | .num _ => 1
  | .name _ => 1
  | .deed _ a b => max (hgt a) (1 + hgt b)
  | .choose c a b => max (hgt c) (max (hgt a) (hgt b))
  | .lett _ a b => max (hgt a) (hgt b)
  | .call _ l => max 1 (hgtL 0 l)
def hgtL : Nat → List Tr → Nat
  | _, [] => 0
  | i, t :: l => max (i + hgt t) (hgtL (i + 1) l)
end
theorem most_lets_eq (R : Trees T) (S : Smith T) : ∀ k t, tall t ≤ k → few t → ∀ n, k + 1 ≤ n → ∀ μ, runF T sub L n 34 [enc t] μ = .ok (.int (lets t)) μ := by
  intro k
  induction k with
  | zero => intro t h; have := tall_pos t; omega
  | succ k ih =>
    intro t h hf n hn μ
    obtain ⟨m, rfl⟩ : ∃ m, n = m + 1 := ⟨n - 1, by omega⟩
    unfold runF
    simp only [S.t34, d_most_lets, b_most_lets]
    have hp : ∀ u ∈ parts t, ∀ μ, runF T sub L m 34 [enc u] μ = .ok (.int (lets u)) μ := fun u hu μ => ih u (by have := tall_parts hu; omega) (few_parts hf u hu) m (by omega) μ
    have hw := fun μ => within_eq' (sub := sub) (L := L) R (n := m) (by omega) t μ
    have hc : ev (runF T sub L m) (.comp (.seqL (.call 6 [.var 0])) (.nm 1) .no (.call 34 [.var 1]) [1]) [.pv (enc t), .un] μ = .ok (.list ((parts t).map fun u => .int (lets u : Nat))) μ := by
      refine comp_trees (fun u => .int (lets u : Nat)) ?_ rfl (few_len hf) (by simp) fun u hu => ?_
      · simp -implicitDefEqProofs [hw]
      · simp -implicitDefEqProofs [hp u hu]
    have hs := maxD_N 0 lets (parts t)
    cases t with
    | num n =>
      simp -implicitDefEqProofs [enc, parts] at hc hs ⊢
      simp -implicitDefEqProofs [enter, ws, hc, hs, lets]
    | name n =>
      simp -implicitDefEqProofs [enc, parts] at hc hs ⊢
      simp -implicitDefEqProofs [enter, ws, hc, hs, lets]
    | deed w a b =>
      simp -implicitDefEqProofs [enc, parts, maxN] at hc hs ⊢
      simp -implicitDefEqProofs [enter, w5 w, hc, hs, lets]
    | choose c a b =>
      simp -implicitDefEqProofs [enc, parts, maxN] at hc hs ⊢
      simp -implicitDefEqProofs [enter, ws, hc, hs, lets]
    | lett x a b =>
      have ha := hp a (by simp [parts])
      have hb := hp b (by simp [parts])
      simp -implicitDefEqProofs [enc] at ha hb ⊢
      have e : ((max (lets a) (1 + lets b) : Nat) : Int) = max (lets a : Int) (1 + (lets b : Int)) := by omega
      simp -implicitDefEqProofs [enter, ws, ha, hb, lets, max2_eq, e]
    | call f l =>
      simp -implicitDefEqProofs [enc, parts] at hc hs ⊢
      simp -implicitDefEqProofs [enter, ws, hc, hs, lets, letsL_max]
      cases l <;> rfl
theorem enumD_zip : ∀ (l : List Tr) (i : Nat), enumD i (l.map enc) = (l.zipIdx i).map fun p => PyData.tuple [.int (p.2 : Nat), enc p.1]
  | [], _ => rfl
  | t :: l, i => by
    rw [List.map_cons, List.zipIdx_cons, List.map_cons, ← enumD_zip l (i + 1)]
    rfl
theorem hgtL_max : ∀ (l : List Tr) (i : Nat), hgtL i l = maxN ((l.zipIdx i).map fun p => p.2 + hgt p.1)
  | [], _ => rfl
  | t :: l, i => by
    rw [List.zipIdx_cons, List.map_cons, hgtL, hgtL_max l (i + 1)]
    rfl
theorem hgt_pos : ∀ t : Tr, 1 ≤ hgt t
  | .num _ => Nat.le_refl _
  | .name _ => Nat.le_refl _
  | .deed _ a b => by unfold hgt; have := hgt_pos a; omega
  | .choose c a b => by unfold hgt; have := hgt_pos c; omega
  | .lett _ a b => by unfold hgt; have := hgt_pos a; omega
  | .call _ l => by unfold hgt; omega
theorem height_eq (R : Trees T) (S : Smith T) : ∀ k t, tall t ≤ k → few t → ∀ n, k + 1 ≤ n → ∀ μ, runF T sub L n 35 [enc t] μ = .ok (.int (hgt t)) μ := by
  intro k
  induction k with
  | zero => intro t h; have := tall_pos t; omega
  | succ k ih =>
    intro t h hf n hn μ
    obtain ⟨m, rfl⟩ : ∃ m, n = m + 1 := ⟨n - 1, by omega⟩
    unfold runF
    simp only [S.t35, d_height, b_height]
    have hp : ∀ u ∈ parts t, ∀ μ, runF T sub L m 35 [enc u] μ = .ok (.int (hgt u)) μ := fun u hu μ => ih u (by have := tall_parts hu; omega) (few_parts hf u hu) m (by omega) μ
    have hw := within_eq' (sub := sub) (L := L) R (n := m) (by omega) t μ
    have hc : ∀ x, ev (runF T sub L m) (.comp (.seqL (.var 1)) (.nm 3) .no (.call 35 [.var 3]) [3]) [x, .pv (.list ((parts t).map enc)), .un, .un] μ = .ok (.list ((parts t).map fun u => .int (hgt u : Nat))) μ := fun x => by
      refine comp_trees (fun u => .int (hgt u : Nat)) ?_ rfl (few_len hf) (by simp) fun u hu => ?_
      · simp -implicitDefEqProofs
      · simp -implicitDefEqProofs [hp u hu]
    have hd : ∀ x, ev (runF T sub L m) (.comp (.enum (.var 1)) (.tp [2, 3]) .no (.bin .add (.var 2) (.call 35 [.var 3])) [2, 3]) [x, .pv (.list ((parts t).map enc)), .un, .un] μ = .ok (.list (((parts t).zipIdx 0).map fun p => .int ((p.2 + hgt p.1 : Nat) : Int))) μ := fun x => by
      refine comp_list (fun p : Tr × Nat => PyData.tuple [.int (p.2 : Nat), enc p.1]) (fun p => .int ((p.2 + hgt p.1 : Nat) : Int)) ?_ rfl ?_ (by simp) fun p hp' => ⟨_, rfl, ?_⟩
      · simp -implicitDefEqProofs [enumD_zip]
      · have := few_len hf
        simp [lim]
        omega
      · have : p.1 ∈ parts t := (List.mem_zipIdx' hp').2 ▸ List.getElem_mem _
        simp -implicitDefEqProofs [hp p.1 this]
    have hs := maxD_N 1 (fun p : Tr × Nat => p.2 + hgt p.1) ((parts t).zipIdx 0)
    cases t with
    | num n =>
      simp -implicitDefEqProofs [enc, parts] at hw hd hs ⊢
      simp -implicitDefEqProofs [enter, ws, hw, hd, hs, hgt]
    | name n =>
      simp -implicitDefEqProofs [enc, parts] at hw hd hs ⊢
      simp -implicitDefEqProofs [enter, ws, hw, hd, hs, hgt]
    | deed w a b =>
      simp -implicitDefEqProofs [enc, parts, maxN] at hw hd hs ⊢
      simp -implicitDefEqProofs [enter, w5 w, hw, hd, hs, hgt]
    | choose c a b =>
      have hs := maxL_N hgt (l := [c, a, b]) (by simp)
      simp -implicitDefEqProofs [enc, parts, maxN] at hw hc hs ⊢
      simp -implicitDefEqProofs [enter, ws, hw, hc, hs, hgt]
    | lett x a b =>
      have hs := maxL_N hgt (l := [a, b]) (by simp)
      simp -implicitDefEqProofs [enc, parts, maxN] at hw hc hs ⊢
      simp -implicitDefEqProofs [enter, ws, hw, hc, hs, hgt]
    | call f l =>
      simp -implicitDefEqProofs [enc, parts] at hw hd hs ⊢
      simp -implicitDefEqProofs [enter, ws, hw, hd, hs, hgt, hgtL_max]
      cases l with
      | nil => rfl
      | cons t r =>
        have := hgt_pos t
        simp [List.zipIdx_cons, maxN]
        omega
end
end PVLP
end

section
set_option Elab.async false
set_option linter.all false
set_option maxRecDepth 100000
set_option maxHeartbeats 1000000
/-! # The rows of a tree -/
namespace PVLP
open PySem PySem.Spec PyProof.Rows L2 PVL
section
variable {C : PVL.Calls} {sub : Under} {L : Nat}
/-- a walk over encoded things, by what it keeps -/
theorem fLoop_inv {α : Type} (en : α → PyData) {tg : Tg} {f : List SV → Store → Out} {l : List α} (I : List α → List SV → Store → Prop)
    (h : ∀ (d : List α) (x : α) (r : List α), l = d ++ x :: r → ∀ env μ, I d env μ → ∃ e1, tg.put (en x) env = some e1 ∧ ∃ e m, f e1 μ = .nx e m ∧ I (d ++ [x]) e m) :
    ∀ (env : List SV) (μ : Store), I [] env μ → ∃ e m, fLoop tg f (l.map en) env μ = .nx e m ∧ I l e m := by
  have key : ∀ (r d : List α), l = d ++ r → ∀ env μ, I d env μ → ∃ e m, fLoop tg f (r.map en) env μ = .nx e m ∧ I l e m := by
    intro r
    induction r with
    | nil =>
      intro d e env μ i
      rw [List.append_nil] at e
      subst e
      exact ⟨env, μ, rfl, i⟩
    | cons x r ih =>
      intro d e env μ i
      obtain ⟨e1, h1, e2, m2, h2, i2⟩ := h d x r e env μ i
      obtain ⟨e3, m3, h3, i3⟩ := ih (d ++ [x]) (by rw [e]; simp) e2 m2 i2
      refine ⟨e3, m3, ?_, i3⟩
      rw [List.map_cons]
      unfold fLoop
      rw [h1]
      simp only [h2]
      exact h3
  intro env μ i
  exact key l [] rfl env μ i
end
def encK (kn : List Str) : PyData := .tuple (kn.map PyData.str)
/-- the trees right within, each with the names that stand in it -/
def scopes (t : Tr) (kn : List Str) : List (Tr × List Str) := match t with
  | .lett x a b => [(a, kn), (b, kn ++ [x])]
  | t => (parts t).map fun p => (p, kn)
def slot (kn : List Str) (x : Str) : Nat := kn.length - 1 - kn.reverse.idxOf x
def encS (p : Tr × List Str) : PyData := .tuple [enc p.1, encK p.2]
section
variable {T : Nat → Option Df} {sub : Under} {L : Nat}
theorem scoped_eq (R : Trees T) {n : Nat} (hn : 2 ≤ n) {t : Tr} (hf : few t) {kn : List Str} (hk : kn.length < lim) (μ : Store) : runF T sub L n 13 [enc t, encK kn] μ = .ok (.list ((scopes t kn).map encS)) μ := by
  obtain ⟨m, rfl⟩ : ∃ m, n = m + 1 := ⟨n - 1, by omega⟩
  unfold runF
  simp only [R.t13, d_scoped, b_scoped]
  have hw := within_eq' (sub := sub) (L := L) R (n := m) (by omega) t μ
  have hc : ∀ x, ev (runF T sub L m) (.comp (.seqL (.var 2)) (.nm 3) .no (.tup [.var 3, .var 1]) [3]) [x, .pv (encK kn), .pv (.list ((parts t).map enc)), .un] μ = .ok (.list ((parts t).map fun u => .tuple [enc u, encK kn])) μ := fun x => by
    refine comp_trees (fun u => .tuple [enc u, encK kn]) ?_ rfl (few_len hf) (by simp) fun u hu => ?_
    · simp -implicitDefEqProofs
    · simp -implicitDefEqProofs [lim]
  have l2 : 2 ≤ lim := by decide
  cases t with
  | num n =>
    simp -implicitDefEqProofs [enc, parts] at hw hc ⊢
    simp -implicitDefEqProofs [enter, ws, hw, hc, scopes, parts]
  | name n =>
    simp -implicitDefEqProofs [enc, parts] at hw hc ⊢
    simp -implicitDefEqProofs [enter, ws, hw, hc, scopes, parts]
  | deed w a b =>
    simp -implicitDefEqProofs [enc, parts] at hw hc ⊢
    simp -implicitDefEqProofs [enter, w5 w, hw, hc, scopes, parts, encS]
  | choose c a b =>
    simp -implicitDefEqProofs [enc, parts] at hw hc ⊢
    simp -implicitDefEqProofs [enter, ws, hw, hc, scopes, parts, encS]
  | lett x a b =>
    have hk' : kn.length + 1 ≤ lim := hk
    simp -implicitDefEqProofs [enc, parts] at hw hc ⊢
    simp -implicitDefEqProofs [enter, ws, hw, scopes, parts, encS, encK, hk', l2]
  | call f l =>
    simp -implicitDefEqProofs [enc, parts] at hw hc ⊢
    simp -implicitDefEqProofs [enter, ws, hw, hc, scopes, parts]
    intro a _
    rfl
theorem strs_enc (kn : List Str) : strs' (kn.map PyData.str) = some kn := PVL.strs_map kn
theorem slot_of_eq (S : Smith T) {n : Nat} (hn : 1 ≤ n) {kn : List Str} {x : Str} (hx : x ∈ kn) (μ : Store) : runF T sub L n 36 [.str x, encK kn] μ = .ok (.int (slot kn x : Nat)) μ := by
  obtain ⟨m, rfl⟩ : ∃ m, n = m + 1 := ⟨n - 1, by omega⟩
  unfold runF
  simp only [S.t36, d_slot_of, b_slot_of]
  have hr : ev (runF T sub L m) (.ridx (.var 1) (.var 0)) [.pv (.str x), .pv (encK kn)] μ = .ok (.int (kn.reverse.idxOf x : Nat)) μ := by
    cases kn with
    | nil => cases hx
    | cons k r =>
      show (ev (runF T sub L m) (.var 1) [.pv (.str x), .pv (encK (k :: r))] μ).bind _ = _
      simp only [encK, List.map_cons]
      simp -implicitDefEqProofs
      have e := strs_enc (k :: r)
      rw [List.map_cons] at e
      rw [e]
      have h : (k :: r).reverse.idxOf x < (k :: r).length := by
        have := List.idxOf_lt_length_of_mem (List.mem_reverse.mpr hx)
        rwa [List.length_reverse] at this
      simp -implicitDefEqProofs at h ⊢
      exact h
  have h : kn.reverse.idxOf x < kn.length := by
    have := List.idxOf_lt_length_of_mem (List.mem_reverse.mpr hx)
    rwa [List.length_reverse] at this
  have hl : biP .len [encK kn] = some (.int (kn.length : Nat)) := by
    show some (PyData.int ((kn.map PyData.str).length : Nat)) = _
    rw [List.length_map]
  simp -implicitDefEqProofs [enter, hr, hl]
  unfold slot
  omega
end
inductive Row where
  | push (n : Int)
  | load (i : Nat)
  | keep (i : Nat)
  | dod (w : W5)
  | unless (n : Nat)
  | skip (n : Nat)
  | call (a b c : Nat)
  | back
def rowD : Row → PyData
  | .push n => .tuple [.str "push", .int n]
  | .load i => .tuple [.str "load", .int (i : Nat)]
  | .keep i => .tuple [.str "keep", .int (i : Nat)]
  | .dod w => .tuple [.str "do", .str w.str]
  | .unless n => .tuple [.str "unless", .int (n : Nat)]
  | .skip n => .tuple [.str "skip", .int (n : Nat)]
  | .call a b c => .tuple [.str "call", .int (a : Nat), .int (b : Nat), .int (c : Nat)]
  | .back => .tuple [.str "back"]
/-- the starts of the functions: first row, numbers taken, slots, height -/
abbrev St := List (Str × Nat × Nat × Nat × Nat)
def encV (v : Nat × Nat × Nat × Nat) : PyData := .tuple [.int (v.1 : Nat), .int (v.2.1 : Nat), .int (v.2.2.1 : Nat), .int (v.2.2.2 : Nat)]
def encSt (st : St) : List (PyData × PyData) := st.map fun p => (.str p.1, encV p.2)
theorem dlook_map {α : Type} (g : α → PyData) (f : Str) : ∀ l : List (Str × α), dlook (l.map fun p => (PyData.str p.1, g p.2)) (.str f) = (l.lookup f).map g
  | [] => rfl
  | p :: r => by
    rw [List.map_cons, List.lookup_cons]
    unfold dlook keyEq
    by_cases h : p.1 = f
    · have e : (f == p.1) = true := by rw [h]; exact beq_self_eq_true _
      simp [h]
    · have e : (f == p.1) = false := by
        rw [beq_eq_false_iff_ne]
        exact fun z => h z.symm
      simp only [h, decide_false, Bool.false_eq_true, if_false, e]
      exact dlook_map g f r
mutual
/-- every name stands for something, every call takes what it is given -/
def wf (ar : Str → Option Nat) : Tr → List Str → Prop
  | .num _, _ => True
  | .name x, kn => x ∈ kn
  | .deed _ a b, kn => wf ar a kn ∧ wf ar b kn
  | .choose c a b, kn => wf ar c kn ∧ wf ar a kn ∧ wf ar b kn
  | .lett x a b, kn => wf ar a kn ∧ wf ar b (kn ++ [x])
  | .call f l, kn => ar f = some l.length ∧ wfL ar l kn
def wfL (ar : Str → Option Nat) : List Tr → List Str → Prop
  | [], _ => True
  | t :: l, kn => wf ar t kn ∧ wfL ar l kn
end
def callRow (st : St) (f : Str) : Row := match st.lookup f with
  | some v => .call v.1 v.2.1 v.2.2.1
  | none => .back
mutual
/-- the rows of a tree, where b rows stand ahead -/
def code (st : St) : Tr → Nat → List Str → List Row
  | .num n, _, _ => [.push n]
  | .name x, _, kn => [.load (slot kn x)]
  | .deed w a c, b, kn => code st a b kn ++ code st c (b + len a) kn ++ [.dod w]
  | .choose c a d, b, kn => code st c b kn ++ [.unless (b + len c + 1 + len a + 1)] ++ code st a (b + len c + 1) kn ++ [.skip (b + len c + 1 + len a + 1 + len d)] ++ code st d (b + len c + 1 + len a + 1) kn
  | .lett x a c, b, kn => code st a b kn ++ [.keep kn.length] ++ code st c (b + len a + 1) (kn ++ [x])
  | .call f l, b, kn => codeL st l b kn ++ [callRow st f]
def codeL (st : St) : List Tr → Nat → List Str → List Row
  | [], _, _ => []
  | t :: l, b, kn => code st t b kn ++ codeL st l (b + len t) kn
end
mutual
theorem code_len (st : St) : ∀ (t : Tr) (b : Nat) (kn : List Str), (code st t b kn).length = len t
  | .num n, _, _ => rfl
  | .name x, _, kn => rfl
  | .deed w a c, b, kn => by
    simp only [code, len, List.length_append, code_len st a, code_len st c, List.length_singleton]
    omega
  | .choose c a d, b, kn => by
    simp only [code, len, List.length_append, code_len st a, code_len st c, code_len st d, List.length_singleton]
    omega
  | .lett x a c, b, kn => by
    simp only [code, len, List.length_append, code_len st a, code_len st c, List.length_singleton]
    omega
  | .call f l, b, kn => by
    simp only [code, len, List.length_append, codeL_len st l, List.length_singleton]
    omega
theorem codeL_len (st : St) : ∀ (l : List Tr) (b : Nat) (kn : List Str), (codeL st l b kn).length = lenL l
  | [], _, _ => rfl
  | t :: l, b, kn => by
    simp only [codeL, lenL, List.length_append, code_len st t, codeL_len st l]
end
end PVLP
end

section
set_option Elab.async false
set_option linter.all false
set_option maxRecDepth 100000
set_option maxHeartbeats 2000000
/-! # The rows of a tree, made -/
namespace PVLP
open PySem PySem.Spec PyProof.Rows L2 PVL
theorem lenL_app : ∀ (l r : List Tr), lenL (l ++ r) = lenL l + lenL r
  | [], r => by simp [lenL]
  | t :: l, r => by rw [List.cons_append, lenL, lenL, lenL_app l r]; omega
theorem codeL_app (st : St) : ∀ (l r : List Tr) (b : Nat) (kn : List Str), codeL st (l ++ r) b kn = codeL st l b kn ++ codeL st r (b + lenL l) kn
  | [], r, b, kn => by simp [codeL, lenL]
  | t :: l, r, b, kn => by
    rw [List.cons_append, codeL, codeL, codeL_app st l r, List.append_assoc, lenL]
    congr 3
    omega
theorem lenL_mem {l : List Tr} {t : Tr} : t ∈ l → len t ≤ lenL l := by
  intro h
  induction l with
  | nil => cases h
  | cons u r ih =>
    rw [lenL]
    rcases List.mem_cons.mp h with rfl | h
    · omega
    · have := ih h
      omega
theorem set_get {μ : Store} {c : Nat} {x y : Cell} (h : μ[c]? = some x) : (μ.set c y)[c]? = some y := by
  have := (List.getElem?_eq_some_iff.mp h).1
  rw [List.getElem?_set_self this]
theorem set_set {μ : Store} {c : Nat} {x y : Cell} : (μ.set c x).set c y = μ.set c y := List.set_set ..
theorem wfL_mem {ar : Str → Option Nat} : ∀ {l : List Tr} {kn : List Str}, wfL ar l kn → ∀ t ∈ l, wf ar t kn
  | t :: l, kn, h, u, hu => by
    rcases List.mem_cons.mp hu with rfl | hu
    · exact h.1
    · exact wfL_mem h.2 u hu
section
variable {T : Nat → Option Df} {sub : Under} {L : Nat}
/-- what add_rows promises of a tree -/
def AddsRows (T : Nat → Option Df) (sub : Under) (L : Nat) (st : St) (n : Nat) (t : Tr) (kn : List Str) : Prop :=
  ∀ (μ : Store) (c : Nat) (rs : List PyData), μ[c]? = some (.lst rs) → rs.length + len t ≤ lim →
    runF T sub L n 37 [lc c, enc t, encK kn, dD (encSt st)] μ = .ok .none (μ.set c (.lst (rs ++ (code st t rs.length kn).map rowD)))
theorem add_parts_eq (R : Trees T) (S : Smith T) {st : St} {n : Nat} {t : Tr} {kn : List Str} (hn : 1 ≤ n) (hp : ∀ u ∈ parts t, AddsRows T sub L st n u kn) (μ : Store) (c : Nat) (rs : List PyData) (hc : μ[c]? = some (.lst rs))
    (hl : rs.length + lenL (parts t) ≤ lim) :
    runF T sub L (n + 1) 38 [lc c, enc t, encK kn, dD (encSt st)] μ = .ok .none (μ.set c (.lst (rs ++ (codeL st (parts t) rs.length kn).map rowD))) := by
  unfold runF
  simp only [S.t38, d_add_parts, b_add_parts]
  have hw := within_eq' (sub := sub) (L := L) R hn t μ
  have lp := fLoop_inv (en := enc) (tg := .nm 4) (f := fun e m => runB (runF T sub L n) sub L [.exp (.call 37 [.var 0, .var 4, .var 2, .var 3])] e m) (l := parts t)
    (fun d env m => ∃ x, env = [.pv (lc c), .pv (enc t), .pv (encK kn), .pv (dD (encSt st)), x] ∧ m = μ.set c (.lst (rs ++ (codeL st d rs.length kn).map rowD)))
    (fun d x r e env m ⟨y, he, hm⟩ => by
      subst he hm
      refine ⟨_, rfl, ?_⟩
      have hx : x ∈ parts t := by rw [e]; simp
      have h1 : lenL d + len x ≤ lenL (parts t) := by
        rw [e, lenL_app, lenL]
        omega
      have h2 : (rs ++ (codeL st d rs.length kn).map rowD).length = rs.length + lenL d := by rw [List.length_append, List.length_map, codeL_len]
      have := hp x hx _ c _ (set_get hc) (by rw [h2]; omega)
      rw [h2, set_set] at this
      refine ⟨[.pv (lc c), .pv (enc t), .pv (encK kn), .pv (dD (encSt st)), .pv (enc x)], _, ?_, ⟨_, rfl, rfl⟩⟩
      simp -implicitDefEqProofs [this]
      rw [codeL_app]
      simp [codeL])
    [.pv (lc c), .pv (enc t), .pv (encK kn), .pv (dD (encSt st)), .un] μ ⟨_, rfl, by
      simp only [codeL, List.map_nil, List.append_nil]
      have := List.getElem?_eq_some_iff.mp hc
      obtain ⟨h1, h2⟩ := this
      rw [← h2, List.set_getElem_self]⟩
  obtain ⟨e, m, h1, y, he, hm⟩ := lp
  simp -implicitDefEqProofs [enter, runS_for, hw]
  simp -implicitDefEqProofs at h1
  rw [h1]
  subst hm
  rfl
theorem add_rows_eq (R : Trees T) (S : Smith T) {st : St} {ar : Str → Option Nat} (hst : ∀ f m, ar f = some m → ∃ v, st.lookup f = some v) : ∀ k t, tall t ≤ k → few t → ∀ kn, wf ar t kn → kn.length + k < lim → ∀ n, 2 * k + 2 ≤ n → AddsRows T sub L st n t kn := by
  intro k
  induction k with
  | zero => intro t h; have := tall_pos t; omega
  | succ k ih =>
    intro t h hf kn hw hk n hn μ c rs hc hl
    obtain ⟨m, rfl⟩ : ∃ m, n = m + 2 := ⟨n - 2, by omega⟩
    unfold runF
    simp only [S.t37, d_add_rows, b_add_rows]
    have hr1 : rs.length < 1000000 := by
      have : 1 ≤ len t := by cases t <;> simp only [len] <;> omega
      unfold lim at hl
      omega
    have hg : ∀ y, (μ.set c y)[c]? = some y := fun y => set_get hc
    have hcl : c < μ.length := (List.getElem?_eq_some_iff.mp hc).1
    have ap : ∀ {l}, parts t = l → (∀ u ∈ l, wf ar u kn) → rs.length + lenL l ≤ lim → runF T sub L (m + 1) 38 [lc c, enc t, encK kn, dD (encSt st)] μ = .ok .none (μ.set c (.lst (rs ++ (codeL st l rs.length kn).map rowD))) := fun {l} e hwl hl' => by
      subst e
      exact add_parts_eq R S (by omega) (fun u hu => ih u (by have := tall_parts hu; omega) (few_parts hf u hu) kn (hwl u hu) (by omega) m (by omega)) μ c rs hc hl'
    cases t with
    | num n =>
      simp -implicitDefEqProofs [enter, enc, ws, hc, hr1, code, rowD, lim]
    | name x =>
      have := slot_of_eq (T := T) (sub := sub) (L := L) S (n := m + 1) (by omega) (show x ∈ kn from hw) μ
      simp -implicitDefEqProofs [enter, enc, ws, hc, hr1, code, rowD, lim, this]
    | deed w a b =>
      have hl2 : rs.length + (len a + len b) < 1000000 := by
        simp only [len] at hl
        unfold lim at hl
        omega
      have := ap rfl (fun u hu => by
        simp only [parts, List.mem_cons, List.not_mem_nil, or_false] at hu
        rcases hu with rfl | rfl
        · exact hw.1
        · exact hw.2) (by simp only [parts, lenL]; unfold lim; omega)
      simp -implicitDefEqProofs [enc, parts] at this
      simp -implicitDefEqProofs [enter, enc, w5 w, this, hg, set_set, lim, codeL, code_len, hl2, code, rowD]
    | choose cc a b =>
      have hl2 : rs.length + (2 + (len cc + (len a + len b))) ≤ 1000000 := by
        simp only [len] at hl
        unfold lim at hl
        omega
      have t1 := tall_parts (t := .choose cc a b) (u := cc) (by simp [parts])
      have t2 := tall_parts (t := .choose cc a b) (u := a) (by simp [parts])
      have t3 := tall_parts (t := .choose cc a b) (u := b) (by simp [parts])
      have w1 := within_eq' (T := T) (sub := sub) (L := L) R (n := m) (by omega) (.choose cc a b) μ
      have n1 := fun μ => length_eq (T := T) (sub := sub) (L := L) R S k a (by omega) hf.2.1 m (by omega) μ
      have n2 := fun μ => length_eq (T := T) (sub := sub) (L := L) R S k b (by omega) hf.2.2 m (by omega) μ
      have r1 := ih cc (by omega) hf.1 kn hw.1 (by omega) m (by omega) μ c rs hc (by unfold lim; omega)
      have r2 := ih a (by omega) hf.2.1 kn hw.2.1 (by omega) m (by omega) (μ.set c (.lst (rs ++ (code st cc rs.length kn).map rowD ++ [rowD (.unless (rs.length + len cc + 1 + len a + 1))]))) c _ (hg _) (by simp [code_len, lim]; omega)
      have r3 := ih b (by omega) hf.2.2 kn hw.2.2 (by omega) m (by omega) (μ.set c (.lst (rs ++ (code st cc rs.length kn).map rowD ++ [rowD (.unless (rs.length + len cc + 1 + len a + 1))] ++ (code st a (rs.length + len cc + 1) kn).map rowD ++ [rowD (.skip (rs.length + len cc + 1 + len a + 1 + len b))]))) c _ (hg _) (by simp [code_len, lim]; omega)
      have q1 : rs.length + len cc < 1000000 := by omega
      have q2 : rs.length + (len cc + (1 + len a)) < 1000000 := by omega
      have hch : runF T sub L (m + 1) 39 [lc c, enc (.choose cc a b), encK kn, dD (encSt st)] μ = .ok .none (μ.set c (.lst (rs ++ (code st (.choose cc a b) rs.length kn).map rowD))) := by
        unfold runF
        simp only [S.t39, d_add_choose, b_add_choose]
        have q3 : rs.length + (len cc + (len a + 1)) < 1000000 := by omega
        have q4 : rs.length + len cc < 1000000 := by omega
        have q5 : rs.length + (len cc + (len a + 2)) = rs.length + (len cc + (1 + (len a + 1))) := by omega
        have q6 : (rs.length : Int) + ((len cc : Int) + ((len a : Int) + (2 + (len b : Int)))) = (rs.length : Int) + ((len cc : Int) + (1 + ((len a : Int) + (1 + (len b : Int))))) := by omega
        simp -implicitDefEqProofs [enc, parts, code_len, rowD, Nat.add_assoc, Int.add_assoc, set_set, q5] at w1 r1 r2 r3
        simp -implicitDefEqProofs [enter, enc, w1, r1, r2, r3, hg, set_set, lim, code_len, n1, n2, q1, q3, q5, q6, Nat.add_assoc, Int.add_assoc, code, rowD]
      simp -implicitDefEqProofs [enc] at hch
      simp -implicitDefEqProofs [enter, enc, ws, hch]
    | lett x a b =>
      have hl2 : rs.length + (1 + (len a + len b)) ≤ 1000000 := by
        simp only [len] at hl
        unfold lim at hl
        omega
      have t1 := tall_parts (t := .lett x a b) (u := a) (by simp [parts])
      have t2 := tall_parts (t := .lett x a b) (u := b) (by simp [parts])
      have w1 := scoped_eq (T := T) (sub := sub) (L := L) R (n := m) (by omega) (t := .lett x a b) hf (kn := kn) (by omega) μ
      have r1 := ih a (by omega) hf.1 kn hw.1 (by omega) m (by omega) μ c rs hc (by unfold lim; omega)
      have r2 := ih b (by omega) hf.2 (kn ++ [x]) hw.2 (by simp; omega) m (by omega) (μ.set c (.lst (rs ++ (code st a rs.length kn).map rowD ++ [rowD (.keep kn.length)]))) c _ (hg _) (by simp [code_len, lim]; omega)
      have q1 : rs.length + len a < 1000000 := by omega
      have hk1 : biP .len [encK kn] = some (.int (kn.length : Nat)) := by
        show some (PyData.int ((kn.map PyData.str).length : Nat)) = _
        rw [List.length_map]
      have hch : runF T sub L (m + 1) 40 [lc c, enc (.lett x a b), encK kn, dD (encSt st)] μ = .ok .none (μ.set c (.lst (rs ++ (code st (.lett x a b) rs.length kn).map rowD))) := by
        unfold runF
        simp only [S.t40, d_add_let, b_add_let]
        simp -implicitDefEqProofs [enc, scopes, encS, code_len, rowD, Nat.add_assoc, set_set] at w1 r1 r2
        simp -implicitDefEqProofs [enter, enc, w1, r1, r2, hg, set_set, lim, code_len, q1, hk1, Nat.add_assoc, code, rowD]
      simp -implicitDefEqProofs [enc] at hch
      simp -implicitDefEqProofs [enter, enc, ws, hch]
    | call f l =>
      have hl2 : rs.length + lenL l < 1000000 := by
        simp only [len] at hl
        unfold lim at hl
        omega
      have := ap rfl (fun u hu => wfL_mem hw.2 u hu) (by simp only [parts]; unfold lim; omega)
      obtain ⟨v, hv⟩ := hst f _ hw.1
      have hd : dlook (encSt st) (.str f) = some (encV v) := by
        unfold encSt
        rw [dlook_map encV, hv]
        rfl
      simp -implicitDefEqProofs [enc, parts] at this
      simp -implicitDefEqProofs [enter, enc, ws, this, hg, set_set, lim, codeL_len, hl2, code, rowD, callRow, hd, hv, encV]
end
end PVLP
end

section
set_option Elab.async false
set_option linter.all false
set_option maxRecDepth 100000
set_option maxHeartbeats 2000000
/-! # The checks of a program -/
namespace PVLP
open PySem PySem.Spec PyProof.Rows L2 PVL
theorem any_tup (kn : List Str) (x : Str) : ((kn.map PyData.str).any fun z => eqFD z (.str x)) = decide (x ∈ kn) := by
  induction kn with
  | nil => rfl
  | cons k r ih =>
    rw [List.map_cons, List.any_cons, ih]
    show ((k == x) || decide (x ∈ r)) = _
    by_cases h : k = x
    · subst h
      simp
    · have e : (k == x) = false := by simpa using h
      rw [e]
      have : ¬ x = k := fun z => h z.symm
      simp [this]
theorem all_flat (kn : List Str) : (kn.map PyData.str).all flatD = true := by
  induction kn with
  | nil => rfl
  | cons k r ih => rw [List.map_cons, List.all_cons, ih]; rfl
theorem in_tup (kn : List Str) (x : Str) : cmpP .isin (.str x) (encK kn) = some (.bool (decide (x ∈ kn))) := by
  show (if flatD (.str x) && (kn.map PyData.str).all flatD then some (PyData.bool ((kn.map PyData.str).any fun z => eqFD z (.str x))) else none) = _
  rw [all_flat, any_tup]
  rfl
theorem notin_tup (kn : List Str) (x : Str) : cmpP .notin (.str x) (encK kn) = some (.bool (!decide (x ∈ kn))) := by
  show (if flatD (.str x) && (kn.map PyData.str).all flatD then some (PyData.bool (!(kn.map PyData.str).any fun z => eqFD z (.str x))) else none) = _
  rw [all_flat, any_tup]
  rfl
theorem any_lst (kn : List Str) (x : Str) : ((kn.map PyData.str).any fun z => PyData.eqv z (.str x)) = decide (x ∈ kn) := by
  induction kn with
  | nil => rfl
  | cons k r ih =>
    rw [List.map_cons, List.any_cons, ih]
    show ((k == x) || decide (x ∈ r)) = _
    by_cases h : k = x
    · subst h
      simp
    · have e : (k == x) = false := by simpa using h
      rw [e]
      have : ¬ x = k := fun z => h z.symm
      simp [this]
theorem in_lst {kn : List Str} {x : Str} (hk : ∀ y ∈ kn, PyData.strOk y = true) (hx : PyData.strOk x = true) : cmpP .isin (.str x) (.list (kn.map PyData.str)) = some (.bool (decide (x ∈ kn))) := by
  have h1 : SeqAt.shaped (.str x) = true := (Sh.str (m := 0) hx).shaped (by omega)
  have h2 : SeqAt.shaped (.list (kn.map PyData.str)) = true := (Sh.list (m := 0) fun d hd => by
    obtain ⟨y, hy, rfl⟩ := List.mem_map.mp hd
    exact Sh.str (hk y hy)).shaped (by omega)
  show (if SeqAt.shaped (.str x) && SeqAt.shaped (.list (kn.map PyData.str)) then some (PyData.bool ((kn.map PyData.str).any fun z => PyData.eqv z (.str x))) else none) = _
  rw [h1, h2, any_lst]
  rfl
/-- the counts of the functions -/
abbrev Cn := List (Str × Nat)
def encC (cn : Cn) : List (PyData × PyData) := cn.map fun p => (.str p.1, .int (p.2 : Nat))
theorem dlook_C (cn : Cn) (f : Str) : dlook (encC cn) (.str f) = (cn.lookup f).map fun n => PyData.int (n : Nat) := dlook_map (fun n : Nat => PyData.int (n : Nat)) f cn
section
variable {T : Nat → Option Df} {sub : Under} {L : Nat}
theorem check_name_eq (R : Trees T) {n : Nat} (hn : 1 ≤ n) {kn : List Str} {x : Str} (hx : x ∈ kn) (μ : Store) : runF T sub L n 11 [.str x, encK kn] μ = .ok .none μ := by
  obtain ⟨m, rfl⟩ : ∃ m, n = m + 1 := ⟨n - 1, by omega⟩
  unfold runF
  simp only [R.t11, d_check_name, b_check_name]
  simp -implicitDefEqProofs [enter, notin_tup, hx]
theorem check_call_eq (R : Trees T) {n : Nat} (hn : 1 ≤ n) {cn : Cn} {f : Str} {k : Nat} (hf : cn.lookup f = some k) (μ : Store) : runF T sub L n 12 [.str f, .int (k : Nat), dD (encC cn)] μ = .ok .none μ := by
  obtain ⟨m, rfl⟩ : ∃ m, n = m + 1 := ⟨n - 1, by omega⟩
  unfold runF
  simp only [R.t12, d_check_call, b_check_call]
  simp -implicitDefEqProofs [enter, dlook_C, hf]
theorem check_tree_eq (R : Trees T) {cn : Cn} : ∀ k t, tall t ≤ k → few t → ∀ kn, wf (fun f => cn.lookup f) t kn → kn.length + k < lim → ∀ lev : Nat, lev + tall t ≤ 13 → ∀ n, k + 2 ≤ n → ∀ μ,
    runF T sub L n 10 [enc t, encK kn, dD (encC cn), .int (lev : Nat)] μ = .ok .none μ := by
  intro k
  induction k with
  | zero => intro t h; have := tall_pos t; omega
  | succ k ih =>
    intro t h hf kn hw hk lev hlv n hn μ
    obtain ⟨m, rfl⟩ : ∃ m, n = m + 1 := ⟨n - 1, by omega⟩
    have hlv2 : ¬ (12 : Int) < (lev : Int) := by have := tall_pos t; omega
    unfold runF
    simp only [R.t10, d_check_tree, b_check_tree]
    have hs := scoped_eq (T := T) (sub := sub) (L := L) R (n := m) (by omega) hf (kn := kn) (by omega) μ
    have hsc : ∀ p ∈ scopes t kn, runF T sub L m 10 [enc p.1, encK p.2, dD (encC cn), .int ((lev : Int) + 1)] μ = .ok .none μ := by
      have key : ∀ u kn', tall u + 1 ≤ tall t → few u → wf (fun f => cn.lookup f) u kn' → kn'.length ≤ kn.length + 1 → runF T sub L m 10 [enc u, encK kn', dD (encC cn), .int ((lev : Int) + 1)] μ = .ok .none μ := fun u kn' h1 h2 h3 h4 =>
        ih u (by omega) h2 kn' h3 (by omega) (lev + 1) (by omega) m (by omega) μ
      intro p hp
      cases t with
      | num n => simp [scopes, parts] at hp
      | name n => simp [scopes, parts] at hp
      | deed w a b =>
        simp [scopes, parts] at hp
        rcases hp with rfl | rfl
        · exact key _ _ (tall_parts (by simp [parts])) hf.1 hw.1 (by simp)
        · exact key _ _ (tall_parts (by simp [parts])) hf.2 hw.2 (by simp)
      | choose c a b =>
        simp [scopes, parts] at hp
        rcases hp with rfl | rfl | rfl
        · exact key _ _ (tall_parts (by simp [parts])) hf.1 hw.1 (by simp)
        · exact key _ _ (tall_parts (by simp [parts])) hf.2.1 hw.2.1 (by simp)
        · exact key _ _ (tall_parts (by simp [parts])) hf.2.2 hw.2.2 (by simp)
      | lett x a b =>
        simp [scopes] at hp
        rcases hp with rfl | rfl
        · exact key _ _ (tall_parts (by simp [parts])) hf.1 hw.1 (by simp)
        · exact key _ _ (tall_parts (by simp [parts])) hf.2 hw.2 (by simp)
      | call f l =>
        simp [scopes, parts] at hp
        obtain ⟨u, hu, rfl⟩ := hp
        exact key _ _ (tall_parts (show u ∈ parts (.call f l) from hu)) (fewL_mem hf.2 u hu) (wfL_mem hw.2 u hu) (by simp)
    have lp : ∀ x y : SV, ∃ e, fLoop (.tp [4, 5]) (fun e m' => runB (runF T sub L m) sub L [.exp (.call 10 [.var 4, .var 5, .var 2, .bin .add (.var 3) (.cst (.int 1))])] e m') ((scopes t kn).map encS) [.pv (enc t), .pv (encK kn), .pv (dD (encC cn)), .pv (.int (lev : Nat)), x, y] μ = .nx e μ := fun x y => by
      obtain ⟨e, m', h1, h2, h3⟩ := fLoop_inv (en := encS) (tg := .tp [4, 5]) (f := fun e m' => runB (runF T sub L m) sub L [.exp (.call 10 [.var 4, .var 5, .var 2, .bin .add (.var 3) (.cst (.int 1))])] e m') (l := scopes t kn)
        (fun d env m => (∃ x y, env = [.pv (enc t), .pv (encK kn), .pv (dD (encC cn)), .pv (.int (lev : Nat)), x, y]) ∧ m = μ)
        (fun d p r e env m' ⟨⟨x, y, he⟩, hm⟩ => by
          subst he hm
          refine ⟨_, rfl, ?_⟩
          have hp := hsc p (by rw [e]; simp)
          refine ⟨[.pv (enc t), .pv (encK kn), .pv (dD (encC cn)), .pv (.int (lev : Nat)), .pv (enc p.1), .pv (encK p.2)], _, ?_, ⟨_, _, rfl⟩, rfl⟩
          simp -implicitDefEqProofs [hp]) [.pv (enc t), .pv (encK kn), .pv (dD (encC cn)), .pv (.int (lev : Nat)), x, y] μ ⟨⟨x, y, rfl⟩, rfl⟩
      subst h3
      exact ⟨e, h1⟩
    obtain ⟨e, lp⟩ := lp .un .un
    cases t with
    | num n =>
      simp -implicitDefEqProofs [enc] at hs lp
      simp -implicitDefEqProofs [enter, enc, ws, hlv2, runS_for, hs, lp]
    | name x =>
      have hx := check_name_eq (T := T) (sub := sub) (L := L) R (n := m) (by omega) (show x ∈ kn from hw) μ
      simp -implicitDefEqProofs [enc] at hs lp
      simp -implicitDefEqProofs [enter, enc, ws, hlv2, runS_for, hs, lp, hx]
    | deed w a b =>
      simp -implicitDefEqProofs [enc] at hs lp
      simp -implicitDefEqProofs [enter, enc, w5 w, hlv2, runS_for, hs, lp]
    | choose c a b =>
      simp -implicitDefEqProofs [enc] at hs lp
      simp -implicitDefEqProofs [enter, enc, ws, hlv2, runS_for, hs, lp]
    | lett x a b =>
      simp -implicitDefEqProofs [enc] at hs lp
      simp -implicitDefEqProofs [enter, enc, ws, hlv2, runS_for, hs, lp]
    | call f l =>
      have hc := check_call_eq (T := T) (sub := sub) (L := L) R (n := m) (by omega) (show cn.lookup f = some l.length from hw.1) μ
      have hl : biP .len [.tuple (encL l)] = some (.int (l.length : Nat)) := by
        show some (PyData.int ((encL l).length : Nat)) = _
        rw [encL_map, List.length_map]
      simp -implicitDefEqProofs [enc] at hs lp
      simp -implicitDefEqProofs [enter, enc, ws, hlv2, runS_for, hs, lp, hl, hc]
end
end PVLP
end

section
set_option Elab.async false
set_option linter.all false
set_option maxRecDepth 100000
set_option maxHeartbeats 2000000
/-! # A program's counts, starts and rows -/
namespace PVLP
open PySem PySem.Spec PyProof.Rows L2 PVL
abbrev Fn := Str × List Str × Tr
def encP (p : Fn) : PyData := .tuple [.str p.1, encK p.2.1, enc p.2.2]
def counts (P : List Fn) : Cn := P.map fun p => (p.1, p.2.1.length)
theorem dput_new {α : Type} (g : α → PyData) (l : List (Str × α)) (f : Str) (d : PyData) (h : ∀ p ∈ l, p.1 ≠ f) : dput (l.map fun p => (PyData.str p.1, g p.2)) (.str f) d = (l.map fun p => (PyData.str p.1, g p.2)) ++ [(.str f, d)] := by
  have e : ((l.map fun p => (PyData.str p.1, g p.2)).any fun p => keyEq p.1 (.str f)) = false := by
    induction l with
    | nil => rfl
    | cons p r ih =>
      rw [List.map_cons, List.any_cons, ih fun q hq => h q (List.mem_cons_of_mem _ hq)]
      have : ¬ p.1 = f := h p List.mem_cons_self
      simp [keyEq, this]
  unfold dput
  rw [e]
  rfl
theorem lookup_none {α : Type} : ∀ {l : List (Str × α)} {f : Str}, (∀ p ∈ l, p.1 ≠ f) → l.lookup f = none
  | [], _, _ => rfl
  | p :: r, f, h => by
    have e : (f == p.1) = false := by
      rw [beq_eq_false_iff_ne]
      exact fun z => h p List.mem_cons_self z.symm
    rw [List.lookup_cons, e]
    exact lookup_none fun q hq => h q (List.mem_cons_of_mem _ hq)
theorem lookup_mem {α : Type} : ∀ {l : List (Str × α)} {f : Str} {a : α}, l.lookup f = some a → (f, a) ∈ l
  | p :: r, f, a, h => by
    rw [List.lookup_cons] at h
    by_cases e : (f == p.1) = true
    · rw [e] at h
      have e' : f = p.1 := eq_of_beq e
      cases h
      rw [e']
      exact List.mem_cons_self
    · have e : (f == p.1) = false := by simpa using e
      rw [e] at h
      exact List.mem_cons_of_mem _ (lookup_mem h)
/-- what a good program is -/
structure Good (P : List Fn) : Prop where
  nd : (P.map (·.1)).Nodup
  ok : ∀ p ∈ P, PyData.strOk p.1 = true
  few1 : P.length ≤ 1000
  pnd : ∀ p ∈ P, p.2.1.Nodup
  plen : ∀ p ∈ P, p.2.1.length ≤ 1000
  few : ∀ p ∈ P, few p.2.2
  tall : ∀ p ∈ P, tall p.2.2 ≤ 12
  wf : ∀ p ∈ P, wf (fun f => (counts P).lookup f) p.2.2 p.2.1
theorem nd_split {P d r : List Fn} {x : Fn} (h : (P.map (·.1)).Nodup) (e : P = d ++ x :: r) : ∀ p ∈ d, p.1 ≠ x.1 := by
  subst e
  intro p hp hx
  rw [List.map_append, List.map_cons, List.nodup_append] at h
  exact h.2.2 _ (List.mem_map.mpr ⟨p, hp, rfl⟩) _ List.mem_cons_self hx
section
variable {T : Nat → Option Df} {sub : Under} {L : Nat}
theorem len_K (kn : List Str) : biP .len [encK kn] = some (.int (kn.length : Nat)) := by
  show some (PyData.int ((kn.map PyData.str).length : Nat)) = _
  rw [List.length_map]
theorem counts_of_eq (R : Trees T) {n : Nat} (hn : 1 ≤ n) {P : List Fn} (h : (P.map (·.1)).Nodup) (hl : P.length ≤ 1000) (μ : Store) : runF T sub L n 8 [.list (P.map encP)] μ = .ok (dD (encC (counts P))) μ := by
  obtain ⟨m, rfl⟩ : ∃ m, n = m + 1 := ⟨n - 1, by omega⟩
  unfold runF
  simp only [R.t8, d_counts_of, b_counts_of]
  obtain ⟨e, m', h1, ⟨x, y, z, h2⟩, h3⟩ := fLoop_inv (en := encP) (tg := .tp [2, 3, 4]) (f := fun e m' => runB (runF T sub L m) sub L [.iff (.op2 (.din true) (.var 2) (.bv 1)) [.dset 1 (.var 2) (.bi .len [.var 3])] []] e m') (l := P)
    (fun d env m => (∃ x y z, env = [.pv (.list (P.map encP)), .od (encC (counts d)), x, y, z]) ∧ m = μ)
    (fun d p r e env m' ⟨⟨x, y, z, he⟩, hm⟩ => by
      subst he hm
      refine ⟨_, rfl, ?_⟩
      have hp := nd_split h e
      have h0 : dlook (encC (counts d)) (.str p.1) = none := by
        rw [dlook_C, lookup_none]
        · rfl
        · intro q hq
          obtain ⟨w, hw, rfl⟩ := List.mem_map.mp hq
          exact hp w hw
      have h1 : dput (encC (counts d)) (.str p.1) (.int (p.2.1.length : Nat)) = encC (counts (d ++ [p])) := by
        unfold encC
        rw [dput_new (fun n : Nat => PyData.int (n : Nat)) (counts d) p.1 _ (fun q hq => by
          obtain ⟨w, hw, rfl⟩ := List.mem_map.mp hq
          exact hp w hw)]
        unfold counts
        rw [List.map_append, List.map_append]
        rfl
      have h2 : (encC (counts d)).length < lim := by
        have : d.length ≤ P.length := by rw [e]; simp
        unfold encC counts lim
        rw [List.length_map, List.length_map]
        omega
      refine ⟨[.pv (.list (P.map encP)), .od (encC (counts (d ++ [p]))), .pv (.str p.1), .pv (encK p.2.1), .pv (enc p.2.2)], _, ?_, ⟨_, _, _, rfl⟩, rfl⟩
      have lk := len_K p.2.1
      simp -implicitDefEqProofs [h0, h1, h2, lk, isKey])
    [.pv (.list (P.map encP)), .od (encC (counts [])), .un, .un, .un] μ ⟨⟨_, _, _, rfl⟩, rfl⟩
  subst h2 h3
  have e0 : encC (counts []) = [] := rfl
  rw [e0] at h1
  simp -implicitDefEqProofs at h1
  simp -implicitDefEqProofs [enter, runS_for, h1]
theorem dcount_nodup : ∀ {l : List Str}, l.Nodup → dcount l = l.length
  | [], _ => rfl
  | x :: r, h => by
    rw [List.nodup_cons] at h
    unfold dcount
    rw [if_neg h.1, dcount_nodup h.2]
    rfl
theorem check_takes_eq (R : Trees T) {n : Nat} (hn : 1 ≤ n) {f : Str} {ps : List Str} (h : ps.Nodup) (hl : ps.length ≤ 1000) (μ : Store) : runF T sub L n 9 [.str f, encK ps] μ = .ok .none μ := by
  obtain ⟨m, rfl⟩ : ∃ m, n = m + 1 := ⟨n - 1, by omega⟩
  unfold runF
  simp only [R.t9, d_check_takes, b_check_takes]
  have h1 : lensetP (encK ps) = some (.int (ps.length : Nat)) := by
    show (match strs' (ps.map PyData.str) with
      | some l => if l.length ≤ 1000 then some (PyData.int (dcount l)) else none
      | none => none) = _
    rw [strs_enc]
    simp only
    rw [if_pos hl, dcount_nodup h]
  have lk := len_K ps
  simp -implicitDefEqProofs [enter, h1, lk]
theorem checked_eq (R : Trees T) {n : Nat} (hn : 15 ≤ n) {P : List Fn} (G : Good P) (μ : Store) : runF T sub L n 7 [.list (P.map encP)] μ = .ok (dD (encC (counts P))) μ := by
  obtain ⟨m, rfl⟩ : ∃ m, n = m + 1 := ⟨n - 1, by omega⟩
  unfold runF
  simp only [R.t7, d_checked, b_checked]
  have hc := counts_of_eq (T := T) (sub := sub) (L := L) R (n := m) (by omega) G.nd G.few1 μ
  obtain ⟨e, m', h1, ⟨x, y, z, h2⟩, h3⟩ := fLoop_inv (en := encP) (tg := .tp [3, 4, 5]) (f := fun e m' => runB (runF T sub L m) sub L [.iff (.cmp .isin (.var 3) (.bv 2)) [.raise 1 (.fstr [.cst (.str "two functions are called "), .fmt (.var 3)])] [], .exp (.call 9 [.var 3, .var 4]), .exp (.call 10 [.var 5, .var 4, .var 1, .cst (.int 1)]), .app 2 (.var 3)] e m') (l := P)
    (fun d env m => (∃ x y z, env = [.pv (.list (P.map encP)), .pv (dD (encC (counts P))), .ow ((d.map (·.1)).map PyData.str), x, y, z]) ∧ m = μ)
    (fun d p r e env m' ⟨⟨x, y, z, he⟩, hm⟩ => by
      subst he hm
      refine ⟨_, rfl, ?_⟩
      have hmem : p ∈ P := by rw [e]; simp
      have hp := nd_split G.nd e
      have hin := in_lst (kn := d.map (·.1)) (x := p.1) (fun q hq => by
        obtain ⟨w, hw, rfl⟩ := List.mem_map.mp hq
        exact G.ok w (by rw [e]; simp [hw])) (G.ok p hmem)
      have hni : ¬ p.1 ∈ d.map (·.1) := fun hq => by
        obtain ⟨w, hw, hz⟩ := List.mem_map.mp hq
        exact hp w hw hz
      rw [decide_eq_false hni] at hin
      have ht := check_takes_eq (T := T) (sub := sub) (L := L) R (n := m) (by omega) (f := p.1) (G.pnd p hmem) (G.plen p hmem) m'
      have htl := G.tall p hmem
      have htr := check_tree_eq (T := T) (sub := sub) (L := L) R (cn := counts P) 12 p.2.2 htl (G.few p hmem) p.2.1 (G.wf p hmem) (by have := G.plen p hmem; unfold lim; omega) 1 (by omega) m (by omega) m'
      have hl : ((d.map (·.1)).map PyData.str).length < lim := by
        have : d.length ≤ P.length := by rw [e]; simp
        have := G.few1
        unfold lim
        rw [List.length_map, List.length_map]
        omega
      refine ⟨[.pv (.list (P.map encP)), .pv (dD (encC (counts P))), .ow (((d ++ [p]).map (·.1)).map PyData.str), .pv (.str p.1), .pv (encK p.2.1), .pv (enc p.2.2)], _, ?_, ⟨_, _, _, rfl⟩, rfl⟩
      simp -implicitDefEqProofs at hin htr hl
      simp -implicitDefEqProofs [hin, ht, htr, hl])
    [.pv (.list (P.map encP)), .pv (dD (encC (counts P))), .ow [], .un, .un, .un] μ ⟨⟨_, _, _, rfl⟩, rfl⟩
  subst h2 h3
  simp -implicitDefEqProofs at h1
  simp -implicitDefEqProofs [enter, runS_for, hc, h1]
/-- the starts of functions, where the first has b rows ahead -/
def startsFrom (b : Nat) : List Fn → St
  | [] => []
  | p :: r => (p.1, b, p.2.1.length, p.2.1.length + lets p.2.2, hgt p.2.2) :: startsFrom (b + len p.2.2 + 1) r
def tot : List Fn → Nat
  | [] => 0
  | p :: r => len p.2.2 + 1 + tot r
theorem startsFrom_app : ∀ (d r : List Fn) (b : Nat), startsFrom b (d ++ r) = startsFrom b d ++ startsFrom (b + tot d) r
  | [], r, b => rfl
  | p :: d, r, b => by
    rw [List.cons_append, startsFrom, startsFrom, startsFrom_app d r, List.cons_append, tot]
    congr 3
    omega
theorem tot_app : ∀ (d r : List Fn), tot (d ++ r) = tot d + tot r
  | [], r => by simp [tot]
  | p :: d, r => by rw [List.cons_append, tot, tot, tot_app d r]; omega
theorem starts_names : ∀ (d : List Fn) (b : Nat), (startsFrom b d).map (·.1) = d.map (·.1)
  | [], _ => rfl
  | p :: r, b => by rw [startsFrom, List.map_cons, List.map_cons, starts_names r]
theorem starts_of_eq (R : Trees T) (S : Smith T) {n : Nat} (hn : 14 ≤ n) {P : List Fn} (G : Good P) (μ : Store) : runF T sub L n 32 [.list (P.map encP)] μ = .ok (dD (encSt (startsFrom 0 P))) μ := by
  obtain ⟨m, rfl⟩ : ∃ m, n = m + 1 := ⟨n - 1, by omega⟩
  unfold runF
  simp only [S.t32, d_starts_of, b_starts_of]
  obtain ⟨e, m', h1, ⟨x, y, z, w, h2⟩, h3⟩ := fLoop_inv (en := encP) (tg := .tp [3, 4, 5]) (f := fun e m' => runB (runF T sub L m) sub L [.asg 6 (.bi .len [.var 4]), .dset 1 (.var 3) (.tup [.var 2, .var 6, .bin .add (.var 6) (.call 34 [.var 5]), .call 35 [.var 5]]), .augN 2 (.bin .add (.call 33 [.var 5]) (.cst (.int 1)))] e m') (l := P)
    (fun d env m => (∃ x y z w, env = [.pv (.list (P.map encP)), .od (encSt (startsFrom 0 d)), .pv (.int (tot d : Nat)), x, y, z, w]) ∧ m = μ)
    (fun d p r e env m' ⟨⟨x, y, z, w, he⟩, hm⟩ => by
      subst he hm
      refine ⟨_, rfl, ?_⟩
      have hmem : p ∈ P := by rw [e]; simp
      have hp := nd_split G.nd e
      have htl := G.tall p hmem
      have n1 := length_eq (T := T) (sub := sub) (L := L) R S 12 p.2.2 htl (G.few p hmem) m (by omega) m'
      have n2 := most_lets_eq (T := T) (sub := sub) (L := L) R S 12 p.2.2 htl (G.few p hmem) m (by omega) m'
      have n3 := height_eq (T := T) (sub := sub) (L := L) R S 12 p.2.2 htl (G.few p hmem) m (by omega) m'
      have lk := len_K p.2.1
      have hd : dput (encSt (startsFrom 0 d)) (.str p.1) (encV (tot d, p.2.1.length, p.2.1.length + lets p.2.2, hgt p.2.2)) = encSt (startsFrom 0 (d ++ [p])) := by
        unfold encSt
        rw [dput_new encV (startsFrom 0 d) p.1 _ (fun q hq => by
          have : q.1 ∈ (startsFrom 0 d).map (·.1) := List.mem_map.mpr ⟨q, hq, rfl⟩
          rw [starts_names] at this
          obtain ⟨w, hw, hz⟩ := List.mem_map.mp this
          rw [← hz]
          exact hp w hw), startsFrom_app, List.map_append]
        simp [startsFrom]
      have hl : (encSt (startsFrom 0 d)).length < lim := by
        have h0 : d.length ≤ P.length := by rw [e]; simp
        have h1 := G.few1
        have h2 := congrArg List.length (starts_names d 0)
        rw [List.length_map, List.length_map] at h2
        unfold encSt lim
        rw [List.length_map, h2]
        omega
      have ht : ((tot (d ++ [p]) : Nat) : Int) = (tot d : Int) + ((len p.2.2 : Int) + 1) := by
        rw [tot_app]
        simp [tot]
      refine ⟨[.pv (.list (P.map encP)), .od (encSt (startsFrom 0 (d ++ [p]))), .pv (.int (tot (d ++ [p]) : Nat)), .pv (.str p.1), .pv (encK p.2.1), .pv (enc p.2.2), .pv (.int (p.2.1.length : Nat))], _, ?_, ⟨_, _, _, _, rfl⟩, rfl⟩
      unfold lim at hl
      simp -implicitDefEqProofs [encV] at hd
      simp -implicitDefEqProofs [n1, n2, n3, lk, hd, hl, ht, isKey, lim])
    [.pv (.list (P.map encP)), .od [], .pv (.int 0), .un, .un, .un, .un] μ ⟨⟨_, _, _, _, rfl⟩, rfl⟩
  subst h2 h3
  simp -implicitDefEqProofs at h1
  simp -implicitDefEqProofs [enter, runS_for, h1]
/-- the rows of functions -/
def codeP (st : St) : List Fn → Nat → List Row
  | [], _ => []
  | p :: r, b => code st p.2.2 b p.2.1 ++ [.back] ++ codeP st r (b + len p.2.2 + 1)
theorem codeP_app (st : St) : ∀ (d r : List Fn) (b : Nat), codeP st (d ++ r) b = codeP st d b ++ codeP st r (b + tot d)
  | [], r, b => rfl
  | p :: d, r, b => by
    have e : b + len p.2.2 + 1 + tot d = b + (len p.2.2 + 1 + tot d) := by omega
    rw [List.cons_append, codeP, codeP, codeP_app st d r, tot, e]
    simp only [List.append_assoc]
theorem codeP_len (st : St) : ∀ (d : List Fn) (b : Nat), (codeP st d b).length = tot d
  | [], _ => rfl
  | p :: r, b => by
    rw [codeP, List.length_append, List.length_append, codeP_len st r, code_len, tot]
    rfl
theorem init_code (S : Smith T) {n : Nat} (hn : 1 ≤ n) (d e : PyData) : runF T sub L n 30 [lc 0, d, e] [.ins 11 []] = .ok .none [.ins 11 [(0, d), (1, e)]] := by
  obtain ⟨m, rfl⟩ : ∃ m, n = m + 1 := ⟨n - 1, by omega⟩
  unfold runF
  simp only [S.t30, d_Code___init__, b_Code___init__]
  simp -implicitDefEqProofs [enter, PVL.fieldsOf, fput]
theorem noLocs_row (rows : List Row) : noLoc (.list (rows.map rowD)) = true := by
  show noLocs (rows.map rowD) = true
  rw [noLocs_all]
  simp only [List.all_map, List.all_eq_true]
  intro r _
  cases r <;> rfl
theorem noLocD_all : ∀ l : List (PyData × PyData), (∀ p ∈ l, noLoc p.2 = true) → noLocD l = true
  | [], _ => rfl
  | p :: r, h => by
    have h1 : noLocP p = noLoc p.2 := by cases p; rfl
    unfold noLocD
    rw [h1, h p List.mem_cons_self, noLocD_all r fun q hq => h q (List.mem_cons_of_mem _ hq)]
    rfl
theorem noLoc_dD {l : List (PyData × PyData)} (h : ∀ p ∈ l, noLoc p.2 = true) : noLoc (dD l) = true := by
  have e : noLoc (dD l) = noLocD ((.none, .bool false) :: l) := by
    unfold noLoc
    rfl
  rw [e]
  have h1 : noLocP (.none, .bool false) = true := rfl
  unfold noLocD
  rw [h1, noLocD_all l h]
  rfl
theorem noLoc_st (st : St) : noLoc (dD (encSt st)) = true := noLoc_dD fun p hp => by
  obtain ⟨q, _, rfl⟩ := List.mem_map.mp hp
  rfl
/-- the Code of a program -/
def codeV (P : List Fn) : PyData := iv 11 [(0, .list ((codeP (startsFrom 0 P) P 0).map rowD)), (1, dD (encSt (startsFrom 0 P)))]
theorem lookup_starts {f : Str} : ∀ {P : List Fn} {b : Nat} {m : Nat}, (counts P).lookup f = some m → ∃ v, (startsFrom b P).lookup f = some v
  | p :: r, b, m, h => by
    have h : List.lookup f ((p.1, p.2.1.length) :: counts r) = some m := h
    rw [List.lookup_cons] at h
    rw [startsFrom, List.lookup_cons]
    cases e : f == p.1 with
    | true => exact ⟨_, rfl⟩
    | false =>
      rw [e] at h
      exact lookup_starts h
theorem smithed_eq (R : Trees T) (S : Smith T) {n : Nat} (hn : 28 ≤ n) {P : List Fn} (G : Good P) (hl : tot P ≤ 1000000) : runF T sub L n 31 [.list (P.map encP)] [] = .ok (codeV P) [.dead] := by
  obtain ⟨m, rfl⟩ : ∃ m, n = m + 1 := ⟨n - 1, by omega⟩
  unfold runF
  simp only [S.t31, d_smithed, b_smithed]
  have hc := checked_eq (T := T) (sub := sub) (L := L) R (n := m) (by omega) G []
  have hs := starts_of_eq (T := T) (sub := sub) (L := L) R S (n := m) (by omega) G []
  have hi := init_code (T := T) (sub := sub) (L := L) S (n := m) (by omega)
  have ar := fun t => add_rows_eq (T := T) (sub := sub) (L := L) R S (st := startsFrom 0 P) (ar := fun f => (counts P).lookup f) (fun f m h => lookup_starts h) 12 t
  obtain ⟨e, m', h1, ⟨x, y, z, h2⟩, h3⟩ := fLoop_inv (en := encP) (tg := .tp [3, 4, 5]) (f := fun e m' => runB (runF T sub L m) sub L [.exp (.call 37 [.var 2, .var 5, .var 4, .var 1]), .capp (.var 2) (.tup [.cst (.str "back")])] e m') (l := P)
    (fun d env m => (∃ x y z, env = [.pv (.list (P.map encP)), .pv (dD (encSt (startsFrom 0 P))), .pv (lc 0), x, y, z]) ∧ m = [.lst ((codeP (startsFrom 0 P) d 0).map rowD)])
    (fun d p r e env m' ⟨⟨x, y, z, he⟩, hm⟩ => by
      subst he hm
      refine ⟨_, rfl, ?_⟩
      have hmem : p ∈ P := by rw [e]; simp
      have htl := G.tall p hmem
      have h0 : tot d + (len p.2.2 + 1) ≤ tot P := by
        rw [e, tot_app, tot]
        omega
      have hlen : ((codeP (startsFrom 0 P) d 0).map rowD).length = tot d := by rw [List.length_map, codeP_len]
      have a1 := ar p.2.2 htl (G.few p hmem) p.2.1 (G.wf p hmem) (by have := G.plen p hmem; unfold lim; omega) m (by omega) [.lst ((codeP (startsFrom 0 P) d 0).map rowD)] 0 _ rfl (by rw [hlen]; unfold lim; omega)
      rw [hlen] at a1
      refine ⟨[.pv (.list (P.map encP)), .pv (dD (encSt (startsFrom 0 P))), .pv (lc 0), .pv (.str p.1), .pv (encK p.2.1), .pv (enc p.2.2)], _, ?_, ⟨_, _, _, rfl⟩, rfl⟩
      have q : tot d + len p.2.2 < 1000000 := by omega
      simp -implicitDefEqProofs at a1
      simp -implicitDefEqProofs [a1, codeP_len, code_len, lim, q]
      rw [codeP_app]
      simp [codeP, rowD])
    [.pv (.list (P.map encP)), .pv (dD (encSt (startsFrom 0 P))), .pv (lc 0), .un, .un, .un] [.lst []] ⟨⟨_, _, _, rfl⟩, rfl⟩
  subst h2 h3
  have nl := noLocs_row (codeP (startsFrom 0 P) P 0)
  have nd := noLoc_st (startsFrom 0 P)
  simp -implicitDefEqProofs at h1
  simp -implicitDefEqProofs [enter, runS_for, hc, hs, h1]
  rw [runS_frzC (frzC_lst (l := (codeP (startsFrom 0 P) P 0).map rowD) rfl rfl)]
  simp -implicitDefEqProofs [hi, noLocs, nl, nd, codeV]
end
end PVLP
end

section
set_option Elab.async false
set_option linter.all false
set_option maxRecDepth 100000
set_option maxHeartbeats 2000000
/-! # A law's body, statement by statement -/
namespace PVL
open PySem PySem.Spec PyProof.Rows L2
/-- the law holds -/
def Yes (o : Rs PyData) : Prop := ∃ μ, o = .ok (.bool true) μ
section
variable {C : Calls} {sub : Under} {L : Nat} {env env' : List SV} {μ μ1 : Store} {s : S} {r : List S}
theorem Yes.step (h : runS C sub L s env μ = .nx env' μ1) (k : Yes (toRs (runB C sub L r env' μ1))) : Yes (toRs (runB C sub L (s :: r) env μ)) := by
  rw [runB_cons, h, Out.then_nx]
  exact k
theorem Yes.asg {i : Nat} {e : E} {d : PyData} (hb : e.isBv = false) (h : ev C e env μ = .ok d μ1) (k : Yes (toRs (runB C sub L r (env.set i (.pv d)) μ1))) : Yes (toRs (runB C sub L (.asg i e :: r) env μ)) := by
  refine Yes.step (env' := env.set i (.pv d)) (μ1 := μ1) ?_ k
  rw [runS_asg, hb, h]
  rfl
theorem Yes.for_ {it : E} {tg : Tg} {b : List S} {ds : List PyData} (h : evI C it env μ = .ok ds μ) (hl : fLoop tg (fun e m => runB C sub L b e m) ds env μ = .nx env' μ1) (k : Yes (toRs (runB C sub L r env' μ1))) : Yes (toRs (runB C sub L (.for_ it tg b :: r) env μ)) := by
  refine Yes.step (env' := env') (μ1 := μ1) ?_ k
  rw [runS_for, h]
  exact hl
end
end PVL
namespace PVLP
open PySem PySem.Spec PyProof.Rows L2 PVL
mutual
/-- names are texts -/
def okT : Tr → Prop
  | .num _ => True
  | .name x => PyData.strOk x = true
  | .deed _ a b => okT a ∧ okT b
  | .choose c a b => okT c ∧ okT a ∧ okT b
  | .lett x a b => PyData.strOk x = true ∧ okT a ∧ okT b
  | .call f l => PyData.strOk f = true ∧ okTL l
def okTL : List Tr → Prop
  | [] => True
  | t :: l => okT t ∧ okTL l
end
theorem okTL_of : ∀ {l : List Tr}, (∀ t ∈ l, okT t) → okTL l
  | [], _ => trivial
  | t :: l, h => ⟨h t List.mem_cons_self, okTL_of fun u hu => h u (List.mem_cons_of_mem _ hu)⟩
theorem sh_w (w : W5) (m : Nat) : Sh m (.str w.str) := Sh.str (by cases w <;> decide +kernel)
theorem sh_lit : Sh 0 (.str (Str.ofString "num")) ∧ Sh 0 (.str (Str.ofString "name")) ∧ Sh 0 (.str (Str.ofString "choose")) ∧ Sh 0 (.str (Str.ofString "let")) ∧ Sh 0 (.str (Str.ofString "call")) :=
  ⟨Sh.str (by decide +kernel), Sh.str (by decide +kernel), Sh.str (by decide +kernel), Sh.str (by decide +kernel), Sh.str (by decide +kernel)⟩
mutual
theorem sh_enc : ∀ {t : Tr} {m : Nat}, okT t → 2 * tall t ≤ m → Sh m (enc t)
  | .num n, m, _, h => by
    obtain ⟨k, rfl⟩ : ∃ k, m = k + 1 := ⟨m - 1, by simp only [tall] at h; omega⟩
    refine Sh.tuple fun d hd => ?_
    simp only [List.mem_cons, List.not_mem_nil, or_false] at hd
    rcases hd with rfl | rfl
    · exact sh_lit.1.mono (by omega)
    · exact Sh.int _
  | .name x, m, o, h => by
    obtain ⟨k, rfl⟩ : ∃ k, m = k + 1 := ⟨m - 1, by simp only [tall] at h; omega⟩
    refine Sh.tuple fun d hd => ?_
    simp only [List.mem_cons, List.not_mem_nil, or_false] at hd
    rcases hd with rfl | rfl
    · exact sh_lit.2.1.mono (by omega)
    · exact Sh.str o
  | .deed w a b, m, o, h => by
    simp only [tall] at h
    obtain ⟨k, rfl⟩ : ∃ k, m = k + 1 := ⟨m - 1, by omega⟩
    have ha := sh_enc (t := a) (m := k) o.1 (by omega)
    have hb := sh_enc (t := b) (m := k) o.2 (by omega)
    rw [enc]
    refine Sh.tuple fun d hd => ?_
    simp only [List.mem_cons, List.not_mem_nil, or_false] at hd
    rcases hd with rfl | rfl | rfl
    · exact sh_w w _
    · exact ha
    · exact hb
  | .choose c a b, m, o, h => by
    simp only [tall] at h
    obtain ⟨k, rfl⟩ : ∃ k, m = k + 1 := ⟨m - 1, by omega⟩
    have hc := sh_enc (t := c) (m := k) o.1 (by omega)
    have ha := sh_enc (t := a) (m := k) o.2.1 (by omega)
    have hb := sh_enc (t := b) (m := k) o.2.2 (by omega)
    rw [enc]
    refine Sh.tuple fun d hd => ?_
    simp only [List.mem_cons, List.not_mem_nil, or_false] at hd
    rcases hd with rfl | rfl | rfl | rfl
    · exact sh_lit.2.2.1.mono (by omega)
    · exact hc
    · exact ha
    · exact hb
  | .lett x a b, m, o, h => by
    simp only [tall] at h
    obtain ⟨k, rfl⟩ : ∃ k, m = k + 1 := ⟨m - 1, by omega⟩
    have ha := sh_enc (t := a) (m := k) o.2.1 (by omega)
    have hb := sh_enc (t := b) (m := k) o.2.2 (by omega)
    rw [enc]
    refine Sh.tuple fun d hd => ?_
    simp only [List.mem_cons, List.not_mem_nil, or_false] at hd
    rcases hd with rfl | rfl | rfl | rfl
    · exact sh_lit.2.2.2.1.mono (by omega)
    · exact Sh.str o.1
    · exact ha
    · exact hb
  | .call f l, m, o, h => by
    simp only [tall] at h
    obtain ⟨k, rfl⟩ : ∃ k, m = k + 2 := ⟨m - 2, by omega⟩
    have hl := sh_encL (l := l) (m := k) o.2 (by omega)
    rw [enc]
    refine Sh.tuple fun d hd => ?_
    simp only [List.mem_cons, List.not_mem_nil, or_false] at hd
    rcases hd with rfl | rfl | rfl
    · exact sh_lit.2.2.2.2.mono (by omega)
    · exact Sh.str o.1
    · exact Sh.tuple hl
theorem sh_encL : ∀ {l : List Tr} {m : Nat}, okTL l → 2 * tallL l ≤ m → ∀ d ∈ encL l, Sh m d
  | [], m, _, _, d, hd => by simp [encL] at hd
  | t :: l, m, o, h, d, hd => by
    simp only [tallL] at h
    rw [encL] at hd
    rcases List.mem_cons.mp hd with rfl | hd
    · exact sh_enc o.1 (by omega)
    · exact sh_encL o.2 (by omega) d hd
end
mutual
theorem noLoc_enc : ∀ t : Tr, noLoc (enc t) = true
  | .num n => rfl
  | .name x => rfl
  | .deed w a b => by
    show noLocs [.str w.str, enc a, enc b] = true
    simp [noLocs, noLoc_enc a, noLoc_enc b, noLoc]
  | .choose c a b => by
    show noLocs [.str "choose", enc c, enc a, enc b] = true
    simp [noLocs, noLoc_enc a, noLoc_enc b, noLoc_enc c, noLoc]
  | .lett x a b => by
    show noLocs [.str "let", .str x, enc a, enc b] = true
    simp [noLocs, noLoc_enc a, noLoc_enc b, noLoc]
  | .call f l => by
    have e : noLoc (.tuple (encL l)) = noLocs (encL l) := rfl
    show noLocs [.str "call", .str f, .tuple (encL l)] = true
    simp [noLocs, e, noLoc_encL l, noLoc]
theorem noLoc_encL : ∀ l : List Tr, noLocs (encL l) = true
  | [] => rfl
  | t :: l => by
    rw [encL, noLocs, noLoc_enc t, noLoc_encL l]
    rfl
end
theorem noLoc_K (kn : List Str) : noLoc (encK kn) = true := by
  show noLocs (kn.map PyData.str) = true
  rw [noLocs_all]
  simp only [List.all_map, List.all_eq_true]
  intro r _
  rfl
theorem noLoc_encP (p : Fn) : noLoc (encP p) = true := by
  show noLocs [.str p.1, encK p.2.1, enc p.2.2] = true
  simp [noLocs, noLoc_K, noLoc_enc, noLoc]
theorem noLoc_P (P : List Fn) : noLoc (.list (P.map encP)) = true := by
  show noLocs (P.map encP) = true
  rw [noLocs_all]
  simp only [List.all_map, List.all_eq_true]
  intro r _
  exact noLoc_encP r
theorem sh_K {kn : List Str} (h : ∀ x ∈ kn, PyData.strOk x = true) : Sh 1 (encK kn) := Sh.tuple fun d hd => by
  obtain ⟨x, hx, rfl⟩ := List.mem_map.mp hd
  exact Sh.str (h x hx)
theorem sh_encP {p : Fn} {m : Nat} (h1 : PyData.strOk p.1 = true) (h2 : ∀ x ∈ p.2.1, PyData.strOk x = true) (h3 : okT p.2.2) (h4 : 2 * tall p.2.2 ≤ m) (h5 : 1 ≤ m) : Sh (m + 1) (encP p) := by
  refine Sh.tuple fun d hd => ?_
  simp only [List.mem_cons, List.not_mem_nil, or_false] at hd
  rcases hd with rfl | rfl | rfl
  · exact Sh.str h1
  · exact (sh_K h2).mono h5
  · exact sh_enc h3 h4
end PVLP
end

section
set_option Elab.async false
set_option linter.all false
set_option maxRecDepth 100000
set_option maxHeartbeats 2000000
/-! # k05: the law's own trees and rows -/
namespace PVLP
open PySem PySem.Spec PyProof.Rows L2 PVL
def cix (c1 f : Str) : Int := if f = c1 then 1 else 0
mutual
def encI (c1 : Str) : Tr → PyData
  | .num n => .tuple [.str "num", .int n]
  | .name x => .tuple [.str "name", .str x]
  | .deed w a b => .tuple [.str w.str, encI c1 a, encI c1 b]
  | .choose c a b => .tuple [.str "choose", encI c1 c, encI c1 a, encI c1 b]
  | .lett x a b => .tuple [.str "let", .str x, encI c1 a, encI c1 b]
  | .call f l => .tuple [.str "call", .int (cix c1 f), .tuple (encIL c1 l)]
def encIL (c1 : Str) : List Tr → List PyData
  | [] => []
  | t :: l => encI c1 t :: encIL c1 l
end
theorem encIL_map (c1 : Str) : ∀ l, encIL c1 l = l.map (encI c1)
  | [] => rfl
  | t :: l => by rw [encIL, encIL_map c1 l]; rfl
inductive LRow where
  | push (n : Int)
  | load (i : Nat)
  | loadN (x : Str)
  | keep (i : Nat)
  | dod (w : W5)
  | unless (n : Nat)
  | skip (n : Nat)
  | call (f : Str)
def lrD (c1 : Str) : LRow → PyData
  | .push n => .tuple [.str "push", .int n]
  | .load i => .tuple [.str "load", .int (i : Nat)]
  | .loadN x => .tuple [.str "load", .str x]
  | .keep i => .tuple [.str "keep", .int (i : Nat)]
  | .dod w => .tuple [.str "do", .str w.str]
  | .unless n => .tuple [.str "unless", .int (n : Nat)]
  | .skip n => .tuple [.str "skip", .int (n : Nat)]
  | .call f => .tuple [.str "call", .int (cix c1 f)]
def lsl (tk : Nat) (ls : List Str) (x : Str) : LRow := if x ∈ ls then .load (tk + slot ls x) else .loadN x
mutual
def lcode (tk : Nat) : Tr → Nat → List Str → List LRow
  | .num n, _, _ => [.push n]
  | .name x, _, ls => [lsl tk ls x]
  | .deed w a c, b, ls => lcode tk a b ls ++ lcode tk c (b + len a) ls ++ [.dod w]
  | .choose c a d, b, ls => lcode tk c b ls ++ [.unless (b + len c + 1 + len a + 1)] ++ lcode tk a (b + len c + 1) ls ++ [.skip (b + len c + 1 + len a + 1 + len d)] ++ lcode tk d (b + len c + 1 + len a + 1) ls
  | .lett x a c, b, ls => lcode tk a b ls ++ [.keep (tk + ls.length)] ++ lcode tk c (b + len a + 1) (ls ++ [x])
  | .call f l, b, ls => lcodeL tk l b ls ++ [.call f]
def lcodeL (tk : Nat) : List Tr → Nat → List Str → List LRow
  | [], _, _ => []
  | t :: l, b, ls => lcode tk t b ls ++ lcodeL tk l (b + len t) ls
end
def mv (k : Nat) : LRow → LRow
  | .unless n => .unless (n + k)
  | .skip n => .skip (n + k)
  | r => r
def wi (x : Str) (tk : Nat) : LRow → LRow
  | .loadN y => if y = x then .load tk else .loadN y
  | .load i => .load (i + 1)
  | .keep i => .keep (i + 1)
  | r => r
theorem mv_lsl (k tk : Nat) (ls : List Str) (x : Str) : mv k (lsl tk ls x) = lsl tk ls x := by
  unfold lsl
  split <;> rfl
mutual
theorem mv_lcode (k tk : Nat) : ∀ (t : Tr) (b : Nat) (ls : List Str), (lcode tk t b ls).map (mv k) = lcode tk t (b + k) ls
  | .num n, _, _ => rfl
  | .name x, _, ls => by simp only [lcode, List.map_cons, List.map_nil, mv_lsl]
  | .deed w a c, b, ls => by
    have e : b + len a + k = b + k + len a := by omega
    simp only [lcode, List.map_append, mv_lcode k tk a, mv_lcode k tk c, List.map_cons, List.map_nil, mv, e]
  | .choose c a d, b, ls => by
    have e1 : b + len c + 1 + len a + 1 + k = b + k + len c + 1 + len a + 1 := by omega
    have e2 : b + len c + 1 + k = b + k + len c + 1 := by omega
    have e3 : b + len c + 1 + len a + 1 + len d + k = b + k + len c + 1 + len a + 1 + len d := by omega
    simp only [lcode, List.map_append, mv_lcode k tk a, mv_lcode k tk c, mv_lcode k tk d, List.map_cons, List.map_nil, mv, e1, e2, e3]
  | .lett x a c, b, ls => by
    have e : b + len a + 1 + k = b + k + len a + 1 := by omega
    simp only [lcode, List.map_append, mv_lcode k tk a, mv_lcode k tk c, List.map_cons, List.map_nil, mv, e]
  | .call f l, b, ls => by
    simp only [lcode, List.map_append, mv_lcodeL k tk l, List.map_cons, List.map_nil, mv]
theorem mv_lcodeL (k tk : Nat) : ∀ (l : List Tr) (b : Nat) (ls : List Str), (lcodeL tk l b ls).map (mv k) = lcodeL tk l (b + k) ls
  | [], _, _ => rfl
  | t :: l, b, ls => by
    have e : b + len t + k = b + k + len t := by omega
    simp only [lcodeL, List.map_append, mv_lcode k tk t, mv_lcodeL k tk l, e]
end
theorem idx_app_in {y : Str} : ∀ {l r : List Str}, y ∈ l → (l ++ r).idxOf y = l.idxOf y
  | z :: l, r, h => by
    rw [List.cons_append, List.idxOf_cons, List.idxOf_cons]
    by_cases e : z = y
    · subst e
      simp
    · have e' : (z == y) = false := by simpa using e
      rw [e']
      rcases List.mem_cons.mp h with rfl | h
      · exact absurd rfl e
      · simp only [cond_false, idx_app_in h]
theorem idx_app_out {y : Str} : ∀ {l r : List Str}, y ∉ l → (l ++ r).idxOf y = l.length + r.idxOf y
  | [], r, _ => by simp
  | z :: l, r, h => by
    rw [List.cons_append, List.idxOf_cons]
    have e : ¬ z = y := fun e => h (by rw [e]; exact List.mem_cons_self)
    have e' : (z == y) = false := by simpa using e
    rw [e', cond_false, idx_app_out fun z => h (List.mem_cons_of_mem _ z), List.length_cons]
    omega
theorem slot_cons {x y : Str} {ls : List Str} (h : y ∈ ls) : slot (x :: ls) y = slot ls y + 1 := by
  have h1 : y ∈ ls.reverse := List.mem_reverse.mpr h
  have h2 := List.idxOf_lt_length_of_mem h1
  rw [List.length_reverse] at h2
  unfold slot
  rw [List.reverse_cons, idx_app_in h1, List.length_cons]
  omega
theorem slot_head {x : Str} {ls : List Str} (h : x ∉ ls) : slot (x :: ls) x = 0 := by
  have h1 : x ∉ ls.reverse := fun z => h (List.mem_reverse.mp z)
  unfold slot
  rw [List.reverse_cons, idx_app_out h1, List.length_cons, List.length_reverse, List.idxOf_cons_self]
  omega
theorem wi_lsl (x : Str) (tk : Nat) (ls : List Str) (y : Str) : wi x tk (lsl tk ls y) = lsl tk (x :: ls) y := by
  unfold lsl
  by_cases h : y ∈ ls
  · rw [if_pos h, if_pos (List.mem_cons_of_mem _ h), slot_cons h]
    rfl
  · rw [if_neg h]
    show (if y = x then LRow.load tk else .loadN y) = _
    by_cases e : y = x
    · subst e
      rw [if_pos rfl, if_pos List.mem_cons_self, slot_head h]
      rfl
    · have : y ∉ x :: ls := fun z => (List.mem_cons.mp z).elim e h
      rw [if_neg e, if_neg this]
mutual
theorem wi_lcode (x : Str) (tk : Nat) : ∀ (t : Tr) (b : Nat) (ls : List Str), (lcode tk t b ls).map (wi x tk) = lcode tk t b (x :: ls)
  | .num n, _, _ => rfl
  | .name y, _, ls => by simp only [lcode, List.map_cons, List.map_nil, wi_lsl]
  | .deed w a c, b, ls => by
    simp only [lcode, List.map_append, wi_lcode x tk a, wi_lcode x tk c, List.map_cons, List.map_nil, wi]
  | .choose c a d, b, ls => by
    simp only [lcode, List.map_append, wi_lcode x tk a, wi_lcode x tk c, wi_lcode x tk d, List.map_cons, List.map_nil, wi]
  | .lett y a c, b, ls => by
    have e : tk + ls.length + 1 = tk + (x :: ls).length := by rw [List.length_cons]; omega
    simp only [lcode, List.map_append, wi_lcode x tk a, wi_lcode x tk c, List.map_cons, List.map_nil, wi, e, List.cons_append]
  | .call f l, b, ls => by
    simp only [lcode, List.map_append, wi_lcodeL x tk l, List.map_cons, List.map_nil, wi]
theorem wi_lcodeL (x : Str) (tk : Nat) : ∀ (l : List Tr) (b : Nat) (ls : List Str), (lcodeL tk l b ls).map (wi x tk) = lcodeL tk l b (x :: ls)
  | [], _, _ => rfl
  | t :: l, b, ls => by
    simp only [lcodeL, List.map_append, wi_lcode x tk t, wi_lcodeL x tk l]
end
mutual
theorem lcode_len (tk : Nat) : ∀ (t : Tr) (b : Nat) (ls : List Str), (lcode tk t b ls).length = len t
  | .num n, _, _ => rfl
  | .name x, _, kn => rfl
  | .deed w a c, b, kn => by
    simp only [lcode, len, List.length_append, lcode_len tk a, lcode_len tk c, List.length_singleton]
    omega
  | .choose c a d, b, kn => by
    simp only [lcode, len, List.length_append, lcode_len tk a, lcode_len tk c, lcode_len tk d, List.length_singleton]
    omega
  | .lett x a c, b, kn => by
    simp only [lcode, len, List.length_append, lcode_len tk a, lcode_len tk c, List.length_singleton]
    omega
  | .call f l, b, kn => by
    simp only [lcode, len, List.length_append, lcodeL_len tk l, List.length_singleton]
    omega
theorem lcodeL_len (tk : Nat) : ∀ (l : List Tr) (b : Nat) (ls : List Str), (lcodeL tk l b ls).length = lenL l
  | [], _, _ => rfl
  | t :: l, b, kn => by
    simp only [lcodeL, lenL, List.length_append, lcode_len tk t, lcodeL_len tk l]
end
theorem lcodeL_app (tk : Nat) : ∀ (l r : List Tr) (b : Nat) (kn : List Str), lcodeL tk (l ++ r) b kn = lcodeL tk l b kn ++ lcodeL tk r (b + lenL l) kn
  | [], r, b, kn => by simp [lcodeL, lenL]
  | t :: l, r, b, kn => by
    have e : b + len t + lenL l = b + (len t + lenL l) := by omega
    rw [List.cons_append, lcodeL, lcodeL, lcodeL_app tk l r, List.append_assoc, lenL, e]
/-- a row by the starts and the names of the numbers taken -/
def done (st : St) (ps : List Str) : LRow → Row
  | .push n => .push n
  | .load i => .load i
  | .loadN x => .load (ps.idxOf x)
  | .keep i => .keep i
  | .dod w => .dod w
  | .unless n => .unless n
  | .skip n => .skip n
  | .call f => callRow st f
end PVLP
end

section
set_option Elab.async false
set_option linter.all false
set_option maxRecDepth 100000
set_option maxHeartbeats 2000000
/-! # k05: the law's rows, made ready, are the program's -/
namespace PVLP
open PySem PySem.Spec PyProof.Rows L2 PVL
theorem slot_right {x : Str} {ls : List Str} (h : x ∈ ls) : ∀ ps : List Str, slot (ps ++ ls) x = ps.length + slot ls x
  | [] => by simp
  | y :: r => by
    rw [List.cons_append, slot_cons (List.mem_append_right r h), slot_right h r, List.length_cons]
    omega
theorem slot_left {x : Str} {ls : List Str} (h : x ∉ ls) : ∀ {ps : List Str}, ps.Nodup → x ∈ ps → slot (ps ++ ls) x = ps.idxOf x
  | y :: r, nd, hx => by
    rw [List.nodup_cons] at nd
    rw [List.cons_append, List.idxOf_cons]
    by_cases e : y = x
    · subst e
      have : y ∉ r ++ ls := fun z => (List.mem_append.mp z).elim nd.1 h
      rw [slot_head this]
      simp
    · have hr : x ∈ r := (List.mem_cons.mp hx).resolve_left fun z => e z.symm
      have e' : (y == x) = false := by simpa using e
      rw [slot_cons (List.mem_append_left ls hr), slot_left h nd.2 hr, e', cond_false]
theorem done_lsl (st : St) {ps ls : List Str} (nd : ps.Nodup) {x : Str} (hx : x ∈ ps ++ ls) : done st ps (lsl ps.length ls x) = .load (slot (ps ++ ls) x) := by
  unfold lsl
  by_cases h : x ∈ ls
  · rw [if_pos h, slot_right h]
    rfl
  · rw [if_neg h, slot_left h nd ((List.mem_append.mp hx).resolve_right h)]
    rfl
mutual
theorem done_code (st : St) {ar : Str → Option Nat} {ps : List Str} (nd : ps.Nodup) : ∀ (t : Tr) (b : Nat) (ls : List Str), wf ar t (ps ++ ls) → (lcode ps.length t b ls).map (done st ps) = code st t b (ps ++ ls)
  | .num n, _, _, _ => rfl
  | .name x, _, ls, h => by simp only [lcode, code, List.map_cons, List.map_nil, done_lsl st nd h]
  | .deed w a c, b, ls, h => by
    simp only [lcode, code, List.map_append, done_code st nd a _ _ h.1, done_code st nd c _ _ h.2, List.map_cons, List.map_nil, done]
  | .choose c a d, b, ls, h => by
    simp only [lcode, code, List.map_append, done_code st nd c _ _ h.1, done_code st nd a _ _ h.2.1, done_code st nd d _ _ h.2.2, List.map_cons, List.map_nil, done]
  | .lett x a c, b, ls, h => by
    have h2 : wf ar c (ps ++ (ls ++ [x])) := by rw [← List.append_assoc]; exact h.2
    simp only [lcode, code, List.map_append, done_code st nd a _ _ h.1, done_code st nd c _ _ h2, List.map_cons, List.map_nil, done, List.length_append, List.append_assoc]
  | .call f l, b, ls, h => by
    simp only [lcode, code, List.map_append, done_codeL st nd l _ _ h.2, List.map_cons, List.map_nil, done]
theorem done_codeL (st : St) {ar : Str → Option Nat} {ps : List Str} (nd : ps.Nodup) : ∀ (l : List Tr) (b : Nat) (ls : List Str), wfL ar l (ps ++ ls) → (lcodeL ps.length l b ls).map (done st ps) = codeL st l b (ps ++ ls)
  | [], _, _, _ => rfl
  | t :: l, b, ls, h => by
    simp only [lcodeL, codeL, List.map_append, done_code st nd t _ _ h.1, done_codeL st nd l _ _ h.2]
end
theorem good_one {c0 : Str} {ps : List Str} {t : Tr} (ok : PyData.strOk c0 = true) (nd : ps.Nodup) (hl : ps.length ≤ 1000) (hf : few t) (ht : tall t ≤ 12) (hw : wf (fun f => (counts [(c0, ps, t)]).lookup f) t ps) : Good [(c0, ps, t)] where
  nd := by simp
  ok := by simpa using ok
  few1 := by simp
  pnd := by simpa using nd
  plen := by simpa using hl
  few := by simpa using hf
  tall := by simpa using ht
  wf := by simpa using hw
theorem good_two {c0 c1 : Str} {ps qs : List Str} {t u : Tr} (hcc : c0 ≠ c1) (ok : PyData.strOk c0 = true) (ok1 : PyData.strOk c1 = true) (nd : ps.Nodup) (hl : ps.length ≤ 1000) (nd1 : qs.Nodup) (hl1 : qs.length ≤ 1000) (hf : few t) (ht : tall t ≤ 12) (hf1 : few u) (ht1 : tall u ≤ 12)
    (hw : wf (fun f => (counts [(c1, qs, u), (c0, ps, t)]).lookup f) t ps) (hw1 : wf (fun f => (counts [(c1, qs, u), (c0, ps, t)]).lookup f) u qs) : Good [(c1, qs, u), (c0, ps, t)] where
  nd := by simp [hcc.symm]
  ok := by simp [ok, ok1]
  few1 := by simp
  pnd := by simp [nd, nd1]
  plen := by simp [hl, hl1]
  few := by simp [hf, hf1]
  tall := by simp [ht, ht1]
  wf := by
    intro p hp
    simp only [List.mem_cons, List.not_mem_nil, or_false] at hp
    rcases hp with rfl | rfl
    · exact hw1
    · exact hw
end PVLP
end

section
set_option Elab.async false
set_option linter.all false
set_option autoImplicit false
set_option maxRecDepth 100000
set_option maxHeartbeats 1000000
namespace K05
open PySem PySem.Spec PyProof.Rows L2 PVL
/-! ## the defs in the small language -/
def b_within : List S := [.asg 1 (.idx (.var 0) (.cst (.int 0))), .iff (.or (.cmp .eq (.var 1) (.cst (.str "num"))) (.cmp .eq (.var 1) (.cst (.str "name")))) [.ret (.lst [])] [], .iff (.cmp .eq (.var 1) (.cst (.str "let"))) [.ret (.lst [.idx (.var 0) (.cst (.int 2)), .idx (.var 0) (.cst (.int 3))])] [], .iff (.cmp .eq (.var 1) (.cst (.str "call"))) [.ret (.bi .list [.idx (.var 0) (.cst (.int 2))])] [], .ret (.bi .list [.slc (.var 0) (.cst (.int 1)) (.no)])]
def b_checked : List S := [.asg 1 (.call 8 [.var 0]), .asgN 2 (.lst []), .for_ (.seqL (.var 0)) (.tp [3, 4, 5]) [.iff (.cmp .isin (.var 3) (.bv 2)) [.raise 1 (.fstr [.cst (.str "two functions are called "), .fmt (.var 3)])] [], .exp (.call 9 [.var 3, .var 4]), .exp (.call 10 [.var 5, .var 4, .var 1, .cst (.int 1)]), .app 2 (.var 3)], .ret (.var 1)]
def b_counts_of : List S := [.asgD 1 (.dispD [] []), .for_ (.seqL (.var 0)) (.tp [2, 3, 4]) [.iff (.op2 (.din true) (.var 2) (.bv 1)) [.dset 1 (.var 2) (.bi .len [.var 3])] []], .frz 1 (.ret (.var 1))]
def b_check_takes : List S := [.iff (.cmp .lt (.op1 .lenset (.var 1)) (.bi .len [.var 1])) [.raise 1 (.fstr [.fmt (.var 0), .cst (.str " takes two things under one name")])] []]
def b_check_tree : List S := [.iff (.cmp .gt (.var 3) (.cst (.int (12)))) [.raise 5 (.fstr [.cst (.str "a body is higher than "), .fmt (.cst (.int (12))), .cst (.str " levels")])] [], .iff (.cmp .eq (.idx (.var 0) (.cst (.int 0))) (.cst (.str "name"))) [.exp (.call 11 [.idx (.var 0) (.cst (.int 1)), .var 1])] [], .iff (.cmp .eq (.idx (.var 0) (.cst (.int 0))) (.cst (.str "call"))) [.exp (.call 12 [.idx (.var 0) (.cst (.int 1)), .bi .len [.idx (.var 0) (.cst (.int 2))], .var 2])] [], .for_ (.seqL (.call 13 [.var 0, .var 1])) (.tp [4, 5]) [.exp (.call 10 [.var 4, .var 5, .var 2, .bin .add (.var 3) (.cst (.int 1))])]]
def b_check_name : List S := [.iff (.cmp .notin (.var 0) (.var 1)) [.raise 2 (.fstr [.fmt (.var 0), .cst (.str " stands for nothing here")])] []]
def b_check_call : List S := [.iff (.op2 (.din true) (.var 0) (.var 2)) [.raise 3 (.fstr [.cst (.str "there is no function "), .fmt (.var 0)])] [], .iff (.cmp .ne (.var 1) (.op2 .dget (.var 2) (.var 0))) [.raise 4 (.fstr [.fmt (.var 0), .cst (.str " takes "), .fmt (.op2 .dget (.var 2) (.var 0)), .cst (.str " things and is given "), .fmt (.var 1)])] []]
def b_scoped : List S := [.asg 2 (.call 6 [.var 0]), .iff (.cmp .ne (.idx (.var 0) (.cst (.int 0))) (.cst (.str "let"))) [.ret (.comp (.seqL (.var 2)) (.nm 3) (.no) (.tup [.var 3, .var 1]) [3])] [], .ret (.lst [.tup [.idx (.var 2) (.cst (.int 0)), .var 1], .tup [.idx (.var 2) (.cst (.int 1)), .star (.var 1) (.idx (.var 0) (.cst (.int 1)))]])]
def b_Code___init__ : List S := [.sattr (.var 0) 0 (.var 1), .sattr (.var 0) 1 (.var 2)]
def b_smithed : List S := [.exp (.call 7 [.var 0]), .asg 1 (.call 32 [.var 0]), .asg 2 (.box (.lst [])), .for_ (.seqL (.var 0)) (.tp [3, 4, 5]) [.exp (.call 37 [.var 2, .var 5, .var 4, .var 1]), .capp (.var 2) (.tup [.cst (.str "back")])], .frzC 2 (.ret (.mkF 11 30 [.var 2, .var 1]))]
def b_starts_of : List S := [.asgD 1 (.dispD [] []), .asg 2 (.cst (.int 0)), .for_ (.seqL (.var 0)) (.tp [3, 4, 5]) [.asg 6 (.bi .len [.var 4]), .dset 1 (.var 3) (.tup [.var 2, .var 6, .bin .add (.var 6) (.call 34 [.var 5]), .call 35 [.var 5]]), .augN 2 (.bin .add (.call 33 [.var 5]) (.cst (.int 1)))], .frz 1 (.ret (.var 1))]
def b_length : List S := [.asg 1 (.ite (.cmp .eq (.idx (.var 0) (.cst (.int 0))) (.cst (.str "choose"))) (.cst (.int 2)) (.cst (.int 1))), .ret (.bin .add (.var 1) (.bi .sumL [.comp (.seqL (.call 6 [.var 0])) (.nm 2) (.no) (.call 33 [.var 2]) [2]]))]
def b_most_lets : List S := [.iff (.cmp .eq (.idx (.var 0) (.cst (.int 0))) (.cst (.str "let"))) [.ret (.bi .max2 [.call 34 [.idx (.var 0) (.cst (.int 2))], .bin .add (.cst (.int 1)) (.call 34 [.idx (.var 0) (.cst (.int 3))])])] [], .ret (.op1 (.maxD 0) (.comp (.seqL (.call 6 [.var 0])) (.nm 1) (.no) (.call 34 [.var 1]) [1]))]
def b_height : List S := [.asg 1 (.call 6 [.var 0]), .iff (.or (.cmp .eq (.idx (.var 0) (.cst (.int 0))) (.cst (.str "choose"))) (.cmp .eq (.idx (.var 0) (.cst (.int 0))) (.cst (.str "let")))) [.ret (.bi .maxL [.comp (.seqL (.var 1)) (.nm 3) (.no) (.call 35 [.var 3]) [3]])] [], .ret (.op1 (.maxD 1) (.comp (.enum (.var 1)) (.tp [2, 3]) (.no) (.bin .add (.var 2) (.call 35 [.var 3])) [2, 3]))]
def b_slot_of : List S := [.ret (.bin .sub (.bin .sub (.bi .len [.var 1]) (.cst (.int 1))) (.ridx (.var 1) (.var 0)))]
def b_add_rows : List S := [.asg 4 (.idx (.var 1) (.cst (.int 0))), .iff (.cmp .eq (.var 4) (.cst (.str "num"))) [.capp (.var 0) (.tup [.cst (.str "push"), .idx (.var 1) (.cst (.int 1))])] [.iff (.cmp .eq (.var 4) (.cst (.str "name"))) [.capp (.var 0) (.tup [.cst (.str "load"), .call 36 [.idx (.var 1) (.cst (.int 1)), .var 2]])] [.iff (.cmp .eq (.var 4) (.cst (.str "choose"))) [.exp (.call 39 [.var 0, .var 1, .var 2, .var 3])] [.iff (.cmp .eq (.var 4) (.cst (.str "let"))) [.exp (.call 40 [.var 0, .var 1, .var 2, .var 3])] [.iff (.cmp .eq (.var 4) (.cst (.str "call"))) [.exp (.call 38 [.var 0, .var 1, .var 2, .var 3]), .asgX (.tp [(.nm 5), (.nm 6), (.nm 7), (.nm 8)]) (.op2 .dget (.var 3) (.idx (.var 1) (.cst (.int 1)))), .capp (.var 0) (.tup [.cst (.str "call"), .var 5, .var 6, .var 7])] [.exp (.call 38 [.var 0, .var 1, .var 2, .var 3]), .capp (.var 0) (.tup [.cst (.str "do"), .var 4])]]]]]]
def b_add_parts : List S := [.for_ (.seqL (.call 6 [.var 1])) (.nm 4) [.exp (.call 37 [.var 0, .var 4, .var 2, .var 3])]]
def b_add_choose : List S := [.asgX (.ls [(.nm 4), (.nm 5), (.nm 6)]) (.call 6 [.var 1]), .exp (.call 37 [.var 0, .var 4, .var 2, .var 3]), .capp (.var 0) (.tup [.cst (.str "unless"), .bin .add (.bin .add (.bin .add (.op1 .clen (.var 0)) (.cst (.int 1))) (.call 33 [.var 5])) (.cst (.int 1))]), .exp (.call 37 [.var 0, .var 5, .var 2, .var 3]), .capp (.var 0) (.tup [.cst (.str "skip"), .bin .add (.bin .add (.op1 .clen (.var 0)) (.cst (.int 1))) (.call 33 [.var 6])]), .exp (.call 37 [.var 0, .var 6, .var 2, .var 3])]
def b_add_let : List S := [.asgX (.ls [(.tp [(.nm 4), (.nm 5)]), (.tp [(.nm 6), (.nm 7)])]) (.call 13 [.var 1, .var 2]), .exp (.call 37 [.var 0, .var 4, .var 5, .var 3]), .capp (.var 0) (.tup [.cst (.str "keep"), .bi .len [.var 2]]), .exp (.call 37 [.var 0, .var 6, .var 7, .var 3])]
def b__law_cell_at : List S := [.iff (.cmp .lt (.var 1) (.bi .len [.var 0])) [.ret (.idx (.var 0) (.var 1))] [], .ret (.cst (.int 0))]
def b__law_word : List S := [.asg 2 (.cst (.str "abcdefghijklmnopqrstuvwxyz")), .asg 3 (.bin .fdiv (.var 0) (.cst (.int 4))), .asg 4 (.bin .mod (.var 1) (.cst (.int 8))), .iff (.cmp .eq (.bin .mod (.var 0) (.cst (.int 4))) (.cst (.int 1))) [.asgN 7 (.comp (.rng1 (.cst (.int 7))) (.nm 9) (.no) (.idx (.var 2) (.bin .mod (.bin .add (.bin .fdiv (.var 3) (.cst (.int 26))) (.bin .mul (.var 9) (.bin .add (.cst (.int 1)) (.bin .mod (.bin .fdiv (.var 3) (.cst (.int 676))) (.cst (.int 25)))))) (.cst (.int 26)))) [9]), .ret (.bin .add (.idx (.var 2) (.bin .mod (.bin .add (.var 3) (.bin .fdiv (.var 1) (.cst (.int 8)))) (.cst (.int 26)))) (.join (.cst (.str "")) (.slc (.bv 7) (.no) (.var 4))))] [], .iff (.cmp .eq (.bin .mod (.var 0) (.cst (.int 4))) (.cst (.int 2))) [.asgN 7 (.comp (.rng1 (.cst (.int 8))) (.nm 9) (.no) (.idx (.var 2) (.bin .mod (.bin .add (.bin .add (.var 3) (.var 9)) (.bin .mul (.cst (.int 8)) (.bin .fdiv (.var 1) (.cst (.int 8))))) (.cst (.int 26)))) [9]), .ret (.join (.cst (.str "")) (.bin .add (.slc (.bv 7) (.var 4) (.no)) (.slc (.bv 7) (.no) (.var 4))))] [], .iff (.cmp .eq (.bin .mod (.var 0) (.cst (.int 4))) (.cst (.int 3))) [.asgN 7 (.comp (.rng1 (.cst (.int 8))) (.nm 9) (.no) (.idx (.var 2) (.bin .mod (.bin .add (.var 3) (.bin .mul (.cst (.int 3)) (.var 9))) (.cst (.int 26)))) [9]), .asg 4 (.bin .mod (.bin .add (.bin .add (.bin .mod (.var 1) (.cst (.int 7))) (.cst (.int 1))) (.bin .fdiv (.var 1) (.cst (.int 7)))) (.cst (.int 8))), .asg 8 (.idx (.bv 7) (.var 4)), .setI 7 (.var 4) (.idx (.bv 7) (.bin .mod (.var 1) (.cst (.int 7)))), .setI 7 (.bin .mod (.var 1) (.cst (.int 7))) (.var 8), .ret (.join (.cst (.str "")) (.bv 7))] [], .asg 5 (.bin .add (.cst (.int 1)) (.bin .mod (.var 3) (.cst (.int 8)))), .asg 6 (.bin .mod (.bin .fdiv (.var 3) (.cst (.int 8))) (.var 5)), .asgN 7 (.comp (.rng1 (.var 5)) (.nm 9) (.no) (.idx (.var 2) (.bin .mod (.bin .add (.bin .fdiv (.var 3) (.cst (.int 64))) (.bin .mul (.var 9) (.bin .add (.cst (.int 1)) (.bin .mod (.bin .fdiv (.var 3) (.cst (.int 1664))) (.cst (.int 25)))))) (.cst (.int 26)))) [9]), .ret (.bin .add (.bin .add (.join (.cst (.str "")) (.slc (.bv 7) (.no) (.var 6))) (.idx (.var 2) (.bin .mod (.var 1) (.cst (.int 26))))) (.join (.cst (.str "")) (.slc (.bv 7) (.bin .add (.var 6) (.cst (.int 1))) (.no))))]
def b__law_moved : List S := [.asgN 2 (.lst []), .for_ (.seqL (.var 0)) (.nm 3) [.iff (.or (.cmp .eq (.idx (.var 3) (.cst (.int 0))) (.cst (.str "unless"))) (.cmp .eq (.idx (.var 3) (.cst (.int 0))) (.cst (.str "skip")))) [.app 2 (.tup [.idx (.var 3) (.cst (.int 0)), .bin .add (.idx (.var 3) (.cst (.int 1))) (.var 1)])] [.app 2 (.var 3)]], .frz 2 (.ret (.var 2))]
def b__law_within : List S := [.asgN 3 (.lst []), .for_ (.seqL (.var 0)) (.nm 4) [.iff (.and (.cmp .eq (.idx (.var 4) (.cst (.int 0))) (.cst (.str "load"))) (.cmp .eq (.idx (.var 4) (.cst (.int 1))) (.var 1))) [.app 3 (.tup [.cst (.str "load"), .var 2])] [.iff (.and (.or (.cmp .eq (.idx (.var 4) (.cst (.int 0))) (.cst (.str "load"))) (.cmp .eq (.idx (.var 4) (.cst (.int 0))) (.cst (.str "keep")))) (.not (.isi "str" (.idx (.var 4) (.cst (.int 1)))))) [.app 3 (.tup [.idx (.var 4) (.cst (.int 0)), .bin .add (.idx (.var 4) (.cst (.int 1))) (.cst (.int 1))])] [.app 3 (.var 4)]]], .frz 3 (.ret (.var 3))]
def b__law_chosen : List S := [.asg 1 (.bi .list [.idx (.idx (.var 0) (.cst (.int 0))) (.cst (.int 1))]), .asg 2 (.bin .add (.bi .len [.var 1]) (.cst (.int 1))), .asg 3 (.bin .add (.bin .add (.var 2) (.bi .len [.idx (.idx (.var 0) (.cst (.int 1))) (.cst (.int 1))])) (.cst (.int 1))), .asg 1 (.bin .add (.bin .add (.var 1) (.lst [.tup [.cst (.str "unless"), .var 3]])) (.call 52 [.idx (.idx (.var 0) (.cst (.int 1))) (.cst (.int 1)), .var 2])), .ret (.bin .add (.bin .add (.var 1) (.lst [.tup [.cst (.str "skip"), .bin .add (.var 3) (.bi .len [.idx (.idx (.var 0) (.cst (.int 2))) (.cst (.int 1))])]])) (.call 52 [.idx (.idx (.var 0) (.cst (.int 2))) (.cst (.int 1)), .var 3]))]
def b__law_joined : List S := [.asg 2 (.lst []), .asg 3 (.cst (.int 1)), .for_ (.enum (.var 0)) (.tp [4, 5]) [.asg 2 (.bin .add (.var 2) (.call 52 [.idx (.var 5) (.cst (.int 1)), .bi .len [.var 2]])), .asg 3 (.bi .max2 [.var 3, .bin .add (.var 4) (.idx (.var 5) (.cst (.int 3)))])], .ret (.tup [.bin .add (.var 2) (.lst [.var 1]), .var 3, .bi .maxL [.bin .add (.lst [.cst (.int 0)]) (.comp (.seqL (.var 0)) (.nm 5) (.no) (.idx (.var 5) (.cst (.int 4))) [5])]])]
def b__law_let : List S := [.asg 4 (.bin .add (.idx (.var 2) (.cst (.int 1))) (.lst [.tup [.cst (.str "keep"), .var 1]])), .asg 4 (.bin .add (.var 4) (.call 52 [.call 53 [.idx (.var 3) (.cst (.int 1)), .var 0, .var 1], .bi .len [.var 4]])), .asg 5 (.tup [.cst (.str "let"), .var 0, .idx (.var 2) (.cst (.int 0)), .idx (.var 3) (.cst (.int 0))]), .ret (.tup [.var 5, .var 4, .bin .add (.cst (.int 1)) (.bi .max2 [.idx (.var 2) (.cst (.int 2)), .idx (.var 3) (.cst (.int 2))]), .bi .max2 [.idx (.var 2) (.cst (.int 3)), .idx (.var 3) (.cst (.int 3))], .bi .max2 [.idx (.var 2) (.cst (.int 4)), .bin .add (.cst (.int 1)) (.idx (.var 3) (.cst (.int 4)))]])]
def b__law_made : List S := [.asg 5 (.comp (.seqL (.var 0)) (.nm 11) (.no) (.idx (.var 11) (.cst (.int 0))) [11]), .asg 6 (.bin .add (.cst (.int 1)) (.bi .maxL [.bin .add (.lst [.cst (.int 0)]) (.comp (.seqL (.var 0)) (.nm 11) (.no) (.idx (.var 11) (.cst (.int 2))) [11])])), .iff (.cmp .lt (.var 1) (.cst (.int 5))) [.asg 8 (.idx (.lst [.cst (.str "sum"), .cst (.str "less"), .cst (.str "times"), .cst (.str "part"), .cst (.str "below")]) (.var 1)), .asg 7 (.call 55 [.var 0, .tup [.cst (.str "do"), .var 8]]), .ret (.tup [.tup [.var 8, .idx (.var 5) (.cst (.int 0)), .idx (.var 5) (.cst (.int 1))], .idx (.var 7) (.cst (.int 0)), .var 6, .idx (.var 7) (.cst (.int 1)), .idx (.var 7) (.cst (.int 2))])] [], .iff (.cmp .eq (.var 1) (.cst (.int 5))) [.asg 9 (.bi .maxL [.comp (.seqL (.var 0)) (.nm 11) (.no) (.idx (.var 11) (.cst (.int 4))) [11]]), .asg 10 (.tup [.cst (.str "choose"), .idx (.var 5) (.cst (.int 0)), .idx (.var 5) (.cst (.int 1)), .idx (.var 5) (.cst (.int 2))]), .ret (.tup [.var 10, .call 54 [.var 0], .var 6, .bi .maxL [.comp (.seqL (.var 0)) (.nm 11) (.no) (.idx (.var 11) (.cst (.int 3))) [11]], .var 9])] [], .iff (.cmp .eq (.var 1) (.cst (.int 6))) [.ret (.call 56 [.idx (.var 3) (.bin .mod (.var 2) (.bi .len [.var 3])), .var 4, .idx (.var 0) (.cst (.int 0)), .idx (.var 0) (.cst (.int 1))])] [], .asg 7 (.call 55 [.var 0, .tup [.cst (.str "call"), .bin .sub (.var 1) (.cst (.int 7))]]), .ret (.tup [.tup [.cst (.str "call"), .bin .sub (.var 1) (.cst (.int 7)), .bi .tuple [.var 5]], .idx (.var 7) (.cst (.int 0)), .var 6, .idx (.var 7) (.cst (.int 1)), .idx (.var 7) (.cst (.int 2))])]
def b__law_put : List S := [.asg 5 (.bin .mod (.var 1) (.cst (.int 12))), .asg 6 (.bin .fdiv (.var 1) (.cst (.int 12))), .asg 7 (.lst [.cst (.int 2), .cst (.int 2), .cst (.int 2), .cst (.int 2), .cst (.int 2), .cst (.int 3), .cst (.int 2), .var 3, .cst (.int 2)]), .iff (.cmp .lt (.var 5) (.cst (.int 9))) [.asg 9 (.idx (.var 7) (.var 5)), .asg 10 (.slc (.var 0) (.bin .sub (.bi .len [.var 0]) (.var 9)) (.no)), .iff (.and (.cmp .le (.var 9) (.bi .len [.var 0])) (.and (.cmp .lt (.bi .maxL [.bin .add (.lst [.cst (.int 0)]) (.comp (.seqL (.var 10)) (.nm 12) (.no) (.idx (.var 12) (.cst (.int 2))) [12])]) (.cst (.int 9))) (.or (.cmp .ne (.var 5) (.cst (.int 8))) (.var 4)))) [.ret (.bin .add (.slc (.var 0) (.no) (.bin .sub (.bi .len [.var 0]) (.var 9))) (.lst [.call 57 [.var 10, .var 5, .var 6, .var 2, .var 3]]))] []] [], .iff (.and (.cmp .gt (.var 5) (.cst (.int 8))) (.cmp .lt (.var 5) (.cst (.int 11)))) [.asg 11 (.idx (.var 2) (.bin .mod (.var 6) (.bi .len [.var 2]))), .ret (.bin .add (.var 0) (.lst [.tup [.tup [.cst (.str "name"), .var 11], .lst [.tup [.cst (.str "load"), .var 11]], .cst (.int 1), .cst (.int 1), .cst (.int 0)]]))] [], .asg 8 (.bin .sub (.bin .mod (.var 6) (.cst (.int 2000000000001))) (.cst (.int 1000000000000))), .ret (.bin .add (.var 0) (.lst [.tup [.tup [.cst (.str "num"), .var 8], .lst [.tup [.cst (.str "push"), .var 8]], .cst (.int 1), .cst (.int 1), .cst (.int 0)]]))]
def b__law_named : List S := [.iff (.or (.cmp .eq (.idx (.var 0) (.cst (.int 0))) (.cst (.str "num"))) (.cmp .eq (.idx (.var 0) (.cst (.int 0))) (.cst (.str "name")))) [.ret (.var 0)] [], .iff (.cmp .eq (.idx (.var 0) (.cst (.int 0))) (.cst (.str "call"))) [.ret (.tup [.cst (.str "call"), .idx (.var 1) (.idx (.var 0) (.cst (.int 1))), .bi .tuple [.comp (.seqT (.idx (.var 0) (.cst (.int 2)))) (.nm 2) (.no) (.call 59 [.var 2, .var 1]) [2]]])] [], .iff (.cmp .eq (.idx (.var 0) (.cst (.int 0))) (.cst (.str "let"))) [.ret (.tup [.cst (.str "let"), .idx (.var 0) (.cst (.int 1)), .call 59 [.idx (.var 0) (.cst (.int 2)), .var 1], .call 59 [.idx (.var 0) (.cst (.int 3)), .var 1]])] [], .ret (.bin .add (.tup [.idx (.var 0) (.cst (.int 0))]) (.bi .tuple [.comp (.seqT (.slc (.var 0) (.cst (.int 1)) (.no))) (.nm 2) (.no) (.call 59 [.var 2, .var 1]) [2]]))]
def b__law_ready : List S := [.asgN 4 (.lst []), .for_ (.seqL (.call 52 [.var 0, .var 2])) (.nm 5) [.iff (.and (.cmp .eq (.idx (.var 5) (.cst (.int 0))) (.cst (.str "load"))) (.isi "str" (.idx (.var 5) (.cst (.int 1))))) [.asg 5 (.tup [.cst (.str "load"), .op2 .lindex (.var 1) (.idx (.var 5) (.cst (.int 1)))])] [], .iff (.cmp .eq (.idx (.var 5) (.cst (.int 0))) (.cst (.str "call"))) [.asg 5 (.tup [.cst (.str "call"), .idx (.idx (.var 3) (.idx (.var 5) (.cst (.int 1)))) (.cst (.int 0)), .idx (.idx (.var 3) (.idx (.var 5) (.cst (.int 1)))) (.cst (.int 1)), .idx (.idx (.var 3) (.idx (.var 5) (.cst (.int 1)))) (.cst (.int 2))])] [], .app 4 (.var 5)], .ret (.bin .add (.bv 4) (.lst [.tup [.cst (.str "back")]]))]
def b__law_row : List S := [.iff (.or (.not (.isi "tuple" (.var 0))) (.cmp .ne (.var 0) (.var 1))) [.ret (.cst (.bool false))] [], .for_ (.seqT (.slc (.var 0) (.cst (.int 1)) (.no))) (.nm 2) [.iff (.or (.isi "bool" (.var 2)) (.and (.not (.isi "int" (.var 2))) (.not (.isi "str" (.var 2))))) [.ret (.cst (.bool false))] []], .ret (.cst (.bool true))]
def b_law : List S := [.asg 1 (.bin .mod (.call 50 [.var 0, .cst (.int 0)]) (.cst (.int 7))), .asg 2 (.comp (.rng1 (.bin .add (.var 1) (.cst (.int 2)))) (.nm 6) (.no) (.call 51 [.call 50 [.var 0, .cst (.int 1)], .var 6]) [6]), .asg 3 (.cmp .eq (.bin .mod (.bin .fdiv (.call 50 [.var 0, .cst (.int 0)]) (.cst (.int 7))) (.cst (.int 2))) (.cst (.int 1))), .asg 4 (.tup [.tup [.cst (.str "num"), .cst (.int 3)], .lst [.tup [.cst (.str "push"), .cst (.int 3)]], .cst (.int 1), .cst (.int 1), .cst (.int 0)]), .asg 5 (.lst [.var 4]), .for_ (.rng2 (.cst (.int 2)) (.bi .min2 [.bi .len [.var 0], .cst (.int 202)])) (.nm 6) [.asg 5 (.call 58 [.var 5, .idx (.var 0) (.var 6), .var 2, .var 1, .var 3])], .asg 7 (.call 56 [.idx (.var 2) (.var 1), .var 1, .var 4, .call 56 [.idx (.var 2) (.bin .add (.var 1) (.cst (.int 1))), .var 1, .var 4, .idx (.var 5) (.neg (.cst (.int 1)))]]), .asg 2 (.slc (.var 2) (.no) (.var 1)), .asg 8 (.lst [.call 51 [.call 50 [.var 0, .cst (.int 1)], .cst (.int 25)], .call 51 [.call 50 [.var 0, .cst (.int 1)], .cst (.int 24)]]), .asg 9 (.lst [.tup [.idx (.var 8) (.cst (.int 0)), .bi .tuple [.var 2], .call 59 [.idx (.var 7) (.cst (.int 0)), .var 8]]]), .asg 10 (.bin .mul (.cst (.int 2)) (.bi .int [.var 3])), .asg 11 (.lst [.tup [.var 10, .bi .len [.var 2], .bin .add (.bi .len [.var 2]) (.idx (.var 7) (.cst (.int 4))), .idx (.var 7) (.cst (.int 3))], .tup [.cst (.int 0), .cst (.int 2), .cst (.int 2), .cst (.int 1)]]), .asg 12 (.call 60 [.idx (.var 7) (.cst (.int 1)), .var 2, .var 10, .var 11]), .asg 13 (.lst [.tup [.idx (.var 8) (.cst (.int 0)), .idx (.var 11) (.cst (.int 0))]]), .iff (.var 3) [.asg 9 (.bin .add (.lst [.tup [.idx (.var 8) (.cst (.int 1)), .tup [.cst (.str "x"), .cst (.str "y")], .tup [.cst (.str "name"), .cst (.str "y")]]]) (.var 9)), .asg 12 (.bin .add (.lst [.tup [.cst (.str "load"), .cst (.int 1)], .tup [.cst (.str "back")]]) (.var 12)), .asg 13 (.bin .add (.lst [.tup [.idx (.var 8) (.cst (.int 1)), .idx (.var 11) (.cst (.int 1))]]) (.var 13))] [], .asg 14 (.bi .list [.var 9]), .for_ (.rng1 (.cst (.int 2))) (.nm 15) [.asg 16 (.callP 31 [.var 14]), .iff (.or (.not (.op1 (.isC 11) (.var 16))) (.or (.not (.isi "list" (.op1 (.attr 0) (.var 16)))) (.cmp .ne (.bi .len [.op1 (.attr 0) (.var 16)]) (.bi .len [.var 12])))) [.ret (.cst (.bool false))] [], .for_ (.zip (.op1 (.attr 0) (.var 16)) (.var 12)) (.tp [17, 18]) [.iff (.not (.tru (.call 61 [.var 17, .var 18]))) [.ret (.cst (.bool false))] []], .iff (.or (.not (.op1 .isD (.op1 (.attr 1) (.var 16)))) (.cmp .ne (.op1 .litems (.op1 (.attr 1) (.var 16))) (.var 13))) [.ret (.cst (.bool false))] []], .ret (.cmp .eq (.var 14) (.var 9))]
def d_within : Df := ⟨1, 2, b_within⟩
def d_checked : Df := ⟨1, 6, b_checked⟩
def d_counts_of : Df := ⟨1, 5, b_counts_of⟩
def d_check_takes : Df := ⟨2, 2, b_check_takes⟩
def d_check_tree : Df := ⟨4, 6, b_check_tree⟩
def d_check_name : Df := ⟨2, 2, b_check_name⟩
def d_check_call : Df := ⟨3, 3, b_check_call⟩
def d_scoped : Df := ⟨2, 4, b_scoped⟩
def d_Code___init__ : Df := ⟨3, 3, b_Code___init__⟩
def d_smithed : Df := ⟨1, 6, b_smithed⟩
def d_starts_of : Df := ⟨1, 7, b_starts_of⟩
def d_length : Df := ⟨1, 3, b_length⟩
def d_most_lets : Df := ⟨1, 2, b_most_lets⟩
def d_height : Df := ⟨1, 4, b_height⟩
def d_slot_of : Df := ⟨2, 2, b_slot_of⟩
def d_add_rows : Df := ⟨4, 9, b_add_rows⟩
def d_add_parts : Df := ⟨4, 5, b_add_parts⟩
def d_add_choose : Df := ⟨4, 7, b_add_choose⟩
def d_add_let : Df := ⟨4, 8, b_add_let⟩
def d__law_cell_at : Df := ⟨2, 2, b__law_cell_at⟩
def d__law_word : Df := ⟨2, 10, b__law_word⟩
def d__law_moved : Df := ⟨2, 4, b__law_moved⟩
def d__law_within : Df := ⟨3, 5, b__law_within⟩
def d__law_chosen : Df := ⟨1, 4, b__law_chosen⟩
def d__law_joined : Df := ⟨2, 6, b__law_joined⟩
def d__law_let : Df := ⟨4, 6, b__law_let⟩
def d__law_made : Df := ⟨5, 12, b__law_made⟩
def d__law_put : Df := ⟨5, 13, b__law_put⟩
def d__law_named : Df := ⟨2, 3, b__law_named⟩
def d__law_ready : Df := ⟨4, 6, b__law_ready⟩
def d__law_row : Df := ⟨2, 3, b__law_row⟩
def d_law : Df := ⟨1, 19, b_law⟩
def tab : Nat → Option Df
  | 6 => some d_within
  | 7 => some d_checked
  | 8 => some d_counts_of
  | 9 => some d_check_takes
  | 10 => some d_check_tree
  | 11 => some d_check_name
  | 12 => some d_check_call
  | 13 => some d_scoped
  | 30 => some d_Code___init__
  | 31 => some d_smithed
  | 32 => some d_starts_of
  | 33 => some d_length
  | 34 => some d_most_lets
  | 35 => some d_height
  | 36 => some d_slot_of
  | 37 => some d_add_rows
  | 38 => some d_add_parts
  | 39 => some d_add_choose
  | 40 => some d_add_let
  | 50 => some d__law_cell_at
  | 51 => some d__law_word
  | 52 => some d__law_moved
  | 53 => some d__law_within
  | 54 => some d__law_chosen
  | 55 => some d__law_joined
  | 56 => some d__law_let
  | 57 => some d__law_made
  | 58 => some d__law_put
  | 59 => some d__law_named
  | 60 => some d__law_ready
  | 61 => some d__law_row
  | 62 => some d_law
  | _ => none
def sub : Under
  | 0, 0 => some true
  | 0, 1 => some false
  | 0, 2 => some false
  | 0, 3 => some false
  | 0, 4 => some false
  | 0, 5 => some false
  | 1, 0 => some true
  | 1, 1 => some true
  | 1, 2 => some false
  | 1, 3 => some false
  | 1, 4 => some false
  | 1, 5 => some false
  | 2, 0 => some true
  | 2, 1 => some false
  | 2, 2 => some true
  | 2, 3 => some false
  | 2, 4 => some false
  | 2, 5 => some false
  | 3, 0 => some true
  | 3, 1 => some false
  | 3, 2 => some false
  | 3, 3 => some true
  | 3, 4 => some false
  | 3, 5 => some false
  | 4, 0 => some true
  | 4, 1 => some false
  | 4, 2 => some false
  | 4, 3 => some false
  | 4, 4 => some true
  | 4, 5 => some false
  | 5, 0 => some true
  | 5, 1 => some false
  | 5, 2 => some false
  | 5, 3 => some false
  | 5, 4 => some false
  | 5, 5 => some true
  | _, _ => none
/-! ## the text -/
def topAt (i : Nat) : Stmt := PySem.Challenge.pw_callsmith_k05_rows_made.main.body.getD i (.Pass ⟨0, 0, 0, 0⟩)
abbrev st_within : Stmt := topAt 9
abbrev nm_within : List Str := ["tree", "word"]
abbrev ps_within : List Str := ["tree"]
theorem sc_within : FnScope nm_within ps_within (defScope st_within) := ⟨rfl, rfl, rfl, by decide +kernel, rfl, by decide +kernel, by decide +kernel⟩
abbrev st_checked : Stmt := topAt 10
abbrev nm_checked : List Str := ["program", "counts", "ahead", "name", "takes", "body"]
abbrev ps_checked : List Str := ["program"]
theorem sc_checked : FnScope nm_checked ps_checked (defScope st_checked) := ⟨rfl, rfl, rfl, by decide +kernel, rfl, by decide +kernel, by decide +kernel⟩
abbrev st_counts_of : Stmt := topAt 11
abbrev nm_counts_of : List Str := ["program", "counts", "name", "takes", "_"]
abbrev ps_counts_of : List Str := ["program"]
theorem sc_counts_of : FnScope nm_counts_of ps_counts_of (defScope st_counts_of) := ⟨rfl, rfl, rfl, by decide +kernel, rfl, by decide +kernel, by decide +kernel⟩
abbrev st_check_takes : Stmt := topAt 12
abbrev nm_check_takes : List Str := ["name", "takes"]
abbrev ps_check_takes : List Str := ["name", "takes"]
theorem sc_check_takes : FnScope nm_check_takes ps_check_takes (defScope st_check_takes) := ⟨rfl, rfl, rfl, by decide +kernel, rfl, by decide +kernel, by decide +kernel⟩
abbrev st_check_tree : Stmt := topAt 13
abbrev nm_check_tree : List Str := ["tree", "known", "counts", "level", "part", "part_known"]
abbrev ps_check_tree : List Str := ["tree", "known", "counts", "level"]
theorem sc_check_tree : FnScope nm_check_tree ps_check_tree (defScope st_check_tree) := ⟨rfl, rfl, rfl, by decide +kernel, rfl, by decide +kernel, by decide +kernel⟩
abbrev st_check_name : Stmt := topAt 14
abbrev nm_check_name : List Str := ["name", "known"]
abbrev ps_check_name : List Str := ["name", "known"]
theorem sc_check_name : FnScope nm_check_name ps_check_name (defScope st_check_name) := ⟨rfl, rfl, rfl, by decide +kernel, rfl, by decide +kernel, by decide +kernel⟩
abbrev st_check_call : Stmt := topAt 15
abbrev nm_check_call : List Str := ["name", "given", "counts"]
abbrev ps_check_call : List Str := ["name", "given", "counts"]
theorem sc_check_call : FnScope nm_check_call ps_check_call (defScope st_check_call) := ⟨rfl, rfl, rfl, by decide +kernel, rfl, by decide +kernel, by decide +kernel⟩
abbrev st_scoped : Stmt := topAt 16
abbrev nm_scoped : List Str := ["tree", "known", "parts", "part"]
abbrev ps_scoped : List Str := ["tree", "known"]
theorem sc_scoped : FnScope nm_scoped ps_scoped (defScope st_scoped) := ⟨rfl, rfl, rfl, by decide +kernel, rfl, by decide +kernel, by decide +kernel⟩
abbrev st_Code___init__ : Stmt := inClass (topAt 18) 0
abbrev nm_Code___init__ : List Str := ["self", "rows", "starts"]
abbrev ps_Code___init__ : List Str := ["self", "rows", "starts"]
theorem sc_Code___init__ : FnScope nm_Code___init__ ps_Code___init__ (defScope st_Code___init__) := ⟨rfl, rfl, rfl, by decide +kernel, rfl, by decide +kernel, by decide +kernel⟩
abbrev st_smithed : Stmt := topAt 19
abbrev nm_smithed : List Str := ["program", "starts", "rows", "_", "takes", "body"]
abbrev ps_smithed : List Str := ["program"]
theorem sc_smithed : FnScope nm_smithed ps_smithed (defScope st_smithed) := ⟨rfl, rfl, rfl, by decide +kernel, rfl, by decide +kernel, by decide +kernel⟩
abbrev st_starts_of : Stmt := topAt 20
abbrev nm_starts_of : List Str := ["program", "starts", "first", "name", "takes", "body", "count"]
abbrev ps_starts_of : List Str := ["program"]
theorem sc_starts_of : FnScope nm_starts_of ps_starts_of (defScope st_starts_of) := ⟨rfl, rfl, rfl, by decide +kernel, rfl, by decide +kernel, by decide +kernel⟩
abbrev st_length : Stmt := topAt 21
abbrev nm_length : List Str := ["tree", "own", "part"]
abbrev ps_length : List Str := ["tree"]
theorem sc_length : FnScope nm_length ps_length (defScope st_length) := ⟨rfl, rfl, rfl, by decide +kernel, rfl, by decide +kernel, by decide +kernel⟩
abbrev st_most_lets : Stmt := topAt 22
abbrev nm_most_lets : List Str := ["tree", "part"]
abbrev ps_most_lets : List Str := ["tree"]
theorem sc_most_lets : FnScope nm_most_lets ps_most_lets (defScope st_most_lets) := ⟨rfl, rfl, rfl, by decide +kernel, rfl, by decide +kernel, by decide +kernel⟩
abbrev st_height : Stmt := topAt 23
abbrev nm_height : List Str := ["tree", "parts", "under", "part"]
abbrev ps_height : List Str := ["tree"]
theorem sc_height : FnScope nm_height ps_height (defScope st_height) := ⟨rfl, rfl, rfl, by decide +kernel, rfl, by decide +kernel, by decide +kernel⟩
abbrev st_slot_of : Stmt := topAt 24
abbrev nm_slot_of : List Str := ["name", "known"]
abbrev ps_slot_of : List Str := ["name", "known"]
theorem sc_slot_of : FnScope nm_slot_of ps_slot_of (defScope st_slot_of) := ⟨rfl, rfl, rfl, by decide +kernel, rfl, by decide +kernel, by decide +kernel⟩
abbrev st_add_rows : Stmt := topAt 25
abbrev nm_add_rows : List Str := ["rows", "tree", "known", "starts", "word", "first", "count", "room", "_"]
abbrev ps_add_rows : List Str := ["rows", "tree", "known", "starts"]
theorem sc_add_rows : FnScope nm_add_rows ps_add_rows (defScope st_add_rows) := ⟨rfl, rfl, rfl, by decide +kernel, rfl, by decide +kernel, by decide +kernel⟩
abbrev st_add_parts : Stmt := topAt 26
abbrev nm_add_parts : List Str := ["rows", "tree", "known", "starts", "part"]
abbrev ps_add_parts : List Str := ["rows", "tree", "known", "starts"]
theorem sc_add_parts : FnScope nm_add_parts ps_add_parts (defScope st_add_parts) := ⟨rfl, rfl, rfl, by decide +kernel, rfl, by decide +kernel, by decide +kernel⟩
abbrev st_add_choose : Stmt := topAt 27
abbrev nm_add_choose : List Str := ["rows", "tree", "known", "starts", "first", "chosen", "other"]
abbrev ps_add_choose : List Str := ["rows", "tree", "known", "starts"]
theorem sc_add_choose : FnScope nm_add_choose ps_add_choose (defScope st_add_choose) := ⟨rfl, rfl, rfl, by decide +kernel, rfl, by decide +kernel, by decide +kernel⟩
abbrev st_add_let : Stmt := topAt 28
abbrev nm_add_let : List Str := ["rows", "tree", "known", "starts", "first", "first_known", "second", "second_known"]
abbrev ps_add_let : List Str := ["rows", "tree", "known", "starts"]
theorem sc_add_let : FnScope nm_add_let ps_add_let (defScope st_add_let) := ⟨rfl, rfl, rfl, by decide +kernel, rfl, by decide +kernel, by decide +kernel⟩
abbrev st__law_cell_at : Stmt := topAt 30
abbrev nm__law_cell_at : List Str := ["_law_script", "_law_k"]
abbrev ps__law_cell_at : List Str := ["_law_script", "_law_k"]
theorem sc__law_cell_at : FnScope nm__law_cell_at ps__law_cell_at (defScope st__law_cell_at) := ⟨rfl, rfl, rfl, by decide +kernel, rfl, by decide +kernel, by decide +kernel⟩
abbrev st__law_word : Stmt := topAt 31
abbrev nm__law_word : List Str := ["_law_cell", "_law_other", "_law_some", "_law_rest", "_law_cut", "_law_size", "_law_at", "_law_letters", "_law_kept", "_law_k"]
abbrev ps__law_word : List Str := ["_law_cell", "_law_other"]
theorem sc__law_word : FnScope nm__law_word ps__law_word (defScope st__law_word) := ⟨rfl, rfl, rfl, by decide +kernel, rfl, by decide +kernel, by decide +kernel⟩
abbrev st__law_moved : Stmt := topAt 32
abbrev nm__law_moved : List Str := ["_law_rows", "_law_by", "_law_found", "_law_row_here"]
abbrev ps__law_moved : List Str := ["_law_rows", "_law_by"]
theorem sc__law_moved : FnScope nm__law_moved ps__law_moved (defScope st__law_moved) := ⟨rfl, rfl, rfl, by decide +kernel, rfl, by decide +kernel, by decide +kernel⟩
abbrev st__law_within : Stmt := topAt 33
abbrev nm__law_within : List Str := ["_law_rows", "_law_name", "_law_slot", "_law_found", "_law_row_here"]
abbrev ps__law_within : List Str := ["_law_rows", "_law_name", "_law_slot"]
theorem sc__law_within : FnScope nm__law_within ps__law_within (defScope st__law_within) := ⟨rfl, rfl, rfl, by decide +kernel, rfl, by decide +kernel, by decide +kernel⟩
abbrev st__law_chosen : Stmt := topAt 34
abbrev nm__law_chosen : List Str := ["_law_parts", "_law_rows", "_law_size", "_law_other"]
abbrev ps__law_chosen : List Str := ["_law_parts"]
theorem sc__law_chosen : FnScope nm__law_chosen ps__law_chosen (defScope st__law_chosen) := ⟨rfl, rfl, rfl, by decide +kernel, rfl, by decide +kernel, by decide +kernel⟩
abbrev st__law_joined : Stmt := topAt 35
abbrev nm__law_joined : List Str := ["_law_parts", "_law_row_here", "_law_rows", "_law_high", "_law_k", "_law_part"]
abbrev ps__law_joined : List Str := ["_law_parts", "_law_row_here"]
theorem sc__law_joined : FnScope nm__law_joined ps__law_joined (defScope st__law_joined) := ⟨rfl, rfl, rfl, by decide +kernel, rfl, by decide +kernel, by decide +kernel⟩
abbrev st__law_let : Stmt := topAt 36
abbrev nm__law_let : List Str := ["_law_name", "_law_taken", "_law_one", "_law_other", "_law_rows", "_law_tree"]
abbrev ps__law_let : List Str := ["_law_name", "_law_taken", "_law_one", "_law_other"]
theorem sc__law_let : FnScope nm__law_let ps__law_let (defScope st__law_let) := ⟨rfl, rfl, rfl, by decide +kernel, rfl, by decide +kernel, by decide +kernel⟩
abbrev st__law_made : Stmt := topAt 37
abbrev nm__law_made : List Str := ["_law_parts", "_law_kind", "_law_rest", "_law_names", "_law_taken", "_law_trees", "_law_tall", "_law_made_here", "_law_word_here", "_law_lets", "_law_tree", "_law_part"]
abbrev ps__law_made : List Str := ["_law_parts", "_law_kind", "_law_rest", "_law_names", "_law_taken"]
theorem sc__law_made : FnScope nm__law_made ps__law_made (defScope st__law_made) := ⟨rfl, rfl, rfl, by decide +kernel, rfl, by decide +kernel, by decide +kernel⟩
abbrev st__law_put : Stmt := topAt 38
abbrev nm__law_put : List Str := ["_law_stack", "_law_cell", "_law_names", "_law_taken", "_law_is_two", "_law_kind", "_law_rest", "_law_wants", "_law_number", "_law_many", "_law_parts", "_law_name", "_law_part"]
abbrev ps__law_put : List Str := ["_law_stack", "_law_cell", "_law_names", "_law_taken", "_law_is_two"]
theorem sc__law_put : FnScope nm__law_put ps__law_put (defScope st__law_put) := ⟨rfl, rfl, rfl, by decide +kernel, rfl, by decide +kernel, by decide +kernel⟩
abbrev st__law_named : Stmt := topAt 39
abbrev nm__law_named : List Str := ["_law_tree", "_law_called", "_law_part"]
abbrev ps__law_named : List Str := ["_law_tree", "_law_called"]
theorem sc__law_named : FnScope nm__law_named ps__law_named (defScope st__law_named) := ⟨rfl, rfl, rfl, by decide +kernel, rfl, by decide +kernel, by decide +kernel⟩
abbrev st__law_ready : Stmt := topAt 40
abbrev nm__law_ready : List Str := ["_law_rows", "_law_names", "_law_by", "_law_starts", "_law_found", "_law_row_here"]
abbrev ps__law_ready : List Str := ["_law_rows", "_law_names", "_law_by", "_law_starts"]
theorem sc__law_ready : FnScope nm__law_ready ps__law_ready (defScope st__law_ready) := ⟨rfl, rfl, rfl, by decide +kernel, rfl, by decide +kernel, by decide +kernel⟩
abbrev st__law_row : Stmt := topAt 41
abbrev nm__law_row : List Str := ["_law_row_here", "_law_due", "_law_part"]
abbrev ps__law_row : List Str := ["_law_row_here", "_law_due"]
theorem sc__law_row : FnScope nm__law_row ps__law_row (defScope st__law_row) := ⟨rfl, rfl, rfl, by decide +kernel, rfl, by decide +kernel, by decide +kernel⟩
abbrev st_law : Stmt := topAt 42
abbrev nm_law : List Str := ["_law_script", "_law_taken", "_law_names", "_law_is_two", "_law_three", "_law_stack", "_law_k", "_law_part", "_law_called", "_law_program", "_law_begin", "_law_starts", "_law_due", "_law_heads", "_law_handed", "_law_turn", "_law_code", "_law_row_here", "_law_one"]
abbrev ps_law : List Str := ["_law_script"]
theorem sc_law : FnScope nm_law ps_law (defScope st_law) := ⟨rfl, rfl, rfl, by decide +kernel, rfl, by decide +kernel, by decide +kernel⟩
/-- an error class of the text -/
structure Xc (K : PySem.W.Frag) (mg : Str → Option Value) (x : Str) (C : Addr) (bm : List Value) : Prop where
  ex : PySem.W.excIn K C bm "ValueError.__new__" = true
  mg : mg x = some (.ref C)
  kp : PySem.W.keepIn K (.ref C) = true
  bs : PySem.W.subIn K (.ref C) (.type "BaseException") = some true
  ty : PySem.W.typeIn K (.ref C) = some (.type "type")
/-- what the top has written -/
structure Txt (K : PySem.W.Frag) (mg : Str → Option Value) (fs : Nat → Addr) (fd : Nat → FuncData) (cs : List Addr) : Prop where
  F6 : Fun K "within" "within" st_within (fs 6) (fd 6)
  b6 : Binds K (fd 6) ps_within []
  g6 : mg "within" = some (.ref (fs 6))
  F7 : Fun K "checked" "checked" st_checked (fs 7) (fd 7)
  b7 : Binds K (fd 7) ps_checked []
  g7 : mg "checked" = some (.ref (fs 7))
  F8 : Fun K "counts_of" "counts_of" st_counts_of (fs 8) (fd 8)
  b8 : Binds K (fd 8) ps_counts_of []
  g8 : mg "counts_of" = some (.ref (fs 8))
  F9 : Fun K "check_takes" "check_takes" st_check_takes (fs 9) (fd 9)
  b9 : Binds K (fd 9) ps_check_takes []
  g9 : mg "check_takes" = some (.ref (fs 9))
  F10 : Fun K "check_tree" "check_tree" st_check_tree (fs 10) (fd 10)
  b10 : Binds K (fd 10) ps_check_tree []
  g10 : mg "check_tree" = some (.ref (fs 10))
  F11 : Fun K "check_name" "check_name" st_check_name (fs 11) (fd 11)
  b11 : Binds K (fd 11) ps_check_name []
  g11 : mg "check_name" = some (.ref (fs 11))
  F12 : Fun K "check_call" "check_call" st_check_call (fs 12) (fd 12)
  b12 : Binds K (fd 12) ps_check_call []
  g12 : mg "check_call" = some (.ref (fs 12))
  F13 : Fun K "scoped" "scoped" st_scoped (fs 13) (fd 13)
  b13 : Binds K (fd 13) ps_scoped []
  g13 : mg "scoped" = some (.ref (fs 13))
  F30 : Fun K "__init__" "Code.__init__" st_Code___init__ (fs 30) (fd 30)
  b30 : Binds K (fd 30) ps_Code___init__ []
  g30 : mg "Code" = some (.ref (clK K 11))
  io11 : InsOk K 11
  mk11 : Mk K (clK K 11) (fs 30)
  ic11 : C8.InsC K (clK K 11)
  F31 : Fun K "smithed" "smithed" st_smithed (fs 31) (fd 31)
  b31 : Binds K (fd 31) ps_smithed []
  g31 : mg "smithed" = some (.ref (fs 31))
  F32 : Fun K "starts_of" "starts_of" st_starts_of (fs 32) (fd 32)
  b32 : Binds K (fd 32) ps_starts_of []
  g32 : mg "starts_of" = some (.ref (fs 32))
  F33 : Fun K "length" "length" st_length (fs 33) (fd 33)
  b33 : Binds K (fd 33) ps_length []
  g33 : mg "length" = some (.ref (fs 33))
  F34 : Fun K "most_lets" "most_lets" st_most_lets (fs 34) (fd 34)
  b34 : Binds K (fd 34) ps_most_lets []
  g34 : mg "most_lets" = some (.ref (fs 34))
  F35 : Fun K "height" "height" st_height (fs 35) (fd 35)
  b35 : Binds K (fd 35) ps_height []
  g35 : mg "height" = some (.ref (fs 35))
  F36 : Fun K "slot_of" "slot_of" st_slot_of (fs 36) (fd 36)
  b36 : Binds K (fd 36) ps_slot_of []
  g36 : mg "slot_of" = some (.ref (fs 36))
  F37 : Fun K "add_rows" "add_rows" st_add_rows (fs 37) (fd 37)
  b37 : Binds K (fd 37) ps_add_rows []
  g37 : mg "add_rows" = some (.ref (fs 37))
  F38 : Fun K "add_parts" "add_parts" st_add_parts (fs 38) (fd 38)
  b38 : Binds K (fd 38) ps_add_parts []
  g38 : mg "add_parts" = some (.ref (fs 38))
  F39 : Fun K "add_choose" "add_choose" st_add_choose (fs 39) (fd 39)
  b39 : Binds K (fd 39) ps_add_choose []
  g39 : mg "add_choose" = some (.ref (fs 39))
  F40 : Fun K "add_let" "add_let" st_add_let (fs 40) (fd 40)
  b40 : Binds K (fd 40) ps_add_let []
  g40 : mg "add_let" = some (.ref (fs 40))
  F50 : Fun K "_law_cell_at" "_law_cell_at" st__law_cell_at (fs 50) (fd 50)
  b50 : Binds K (fd 50) ps__law_cell_at []
  g50 : mg "_law_cell_at" = some (.ref (fs 50))
  F51 : Fun K "_law_word" "_law_word" st__law_word (fs 51) (fd 51)
  b51 : Binds K (fd 51) ps__law_word []
  g51 : mg "_law_word" = some (.ref (fs 51))
  F52 : Fun K "_law_moved" "_law_moved" st__law_moved (fs 52) (fd 52)
  b52 : Binds K (fd 52) ps__law_moved []
  g52 : mg "_law_moved" = some (.ref (fs 52))
  F53 : Fun K "_law_within" "_law_within" st__law_within (fs 53) (fd 53)
  b53 : Binds K (fd 53) ps__law_within []
  g53 : mg "_law_within" = some (.ref (fs 53))
  F54 : Fun K "_law_chosen" "_law_chosen" st__law_chosen (fs 54) (fd 54)
  b54 : Binds K (fd 54) ps__law_chosen []
  g54 : mg "_law_chosen" = some (.ref (fs 54))
  F55 : Fun K "_law_joined" "_law_joined" st__law_joined (fs 55) (fd 55)
  b55 : Binds K (fd 55) ps__law_joined []
  g55 : mg "_law_joined" = some (.ref (fs 55))
  F56 : Fun K "_law_let" "_law_let" st__law_let (fs 56) (fd 56)
  b56 : Binds K (fd 56) ps__law_let []
  g56 : mg "_law_let" = some (.ref (fs 56))
  F57 : Fun K "_law_made" "_law_made" st__law_made (fs 57) (fd 57)
  b57 : Binds K (fd 57) ps__law_made []
  g57 : mg "_law_made" = some (.ref (fs 57))
  F58 : Fun K "_law_put" "_law_put" st__law_put (fs 58) (fd 58)
  b58 : Binds K (fd 58) ps__law_put []
  g58 : mg "_law_put" = some (.ref (fs 58))
  F59 : Fun K "_law_named" "_law_named" st__law_named (fs 59) (fd 59)
  b59 : Binds K (fd 59) ps__law_named []
  g59 : mg "_law_named" = some (.ref (fs 59))
  F60 : Fun K "_law_ready" "_law_ready" st__law_ready (fs 60) (fd 60)
  b60 : Binds K (fd 60) ps__law_ready []
  g60 : mg "_law_ready" = some (.ref (fs 60))
  F61 : Fun K "_law_row" "_law_row" st__law_row (fs 61) (fd 61)
  b61 : Binds K (fd 61) ps__law_row []
  g61 : mg "_law_row" = some (.ref (fs 61))
  F62 : Fun K "law" "law" st_law (fs 62) (fd 62)
  b62 : Binds K (fd 62) ps_law []
  g62 : mg "law" = some (.ref (fs 62))
  b_bool : mg "bool" = none
  b_dict : mg "dict" = none
  b_enumerate : mg "enumerate" = none
  b_int : mg "int" = none
  b_isinstance : mg "isinstance" = none
  b_len : mg "len" = none
  b_list : mg "list" = none
  b_max : mg "max" = none
  b_min : mg "min" = none
  b_range : mg "range" = none
  b_set : mg "set" = none
  b_str : mg "str" = none
  b_sum : mg "sum" = none
  b_tuple : mg "tuple" = none
  b_zip : mg "zip" = none
  c_MOST_LEVELS : ∃ t, mg "MOST_LEVELS" = some (.int (12) t)
  x0 : Xc K mg "SmithError" (cs.getD 0 0) [.type "ValueError", .type "Exception", .type "BaseException", .type "object"]
  x1 : Xc K mg "NameTwice" (cs.getD 1 0) [.type "ValueError", .type "Exception", .type "BaseException", .type "object"]
  x2 : Xc K mg "NoSuchName" (cs.getD 2 0) [.type "ValueError", .type "Exception", .type "BaseException", .type "object"]
  x3 : Xc K mg "NoSuchFunction" (cs.getD 3 0) [.type "ValueError", .type "Exception", .type "BaseException", .type "object"]
  x4 : Xc K mg "WrongCount" (cs.getD 4 0) [.type "ValueError", .type "Exception", .type "BaseException", .type "object"]
  x5 : Xc K mg "TooTall" (cs.getD 5 0) [.type "ValueError", .type "Exception", .type "BaseException", .type "object"]
  exm : ExOk K (fun c => cs.getD c 0) sub
/-- every def, n frames deep -/
structure Ih (P : Program) (w : World) (K : PySem.W.Frag) (mg : Str → Option Value) (base : Heap) (fs : Nat → Addr) (fd : Nat → FuncData) (cs : List Addr) (L n : Nat) : Prop where
  f6 : FnR P w K mg base (L2.CX P w) n (fs 6) (fd 6) ps_within (spOf K (fun c => cs.getD c 0) (runF tab sub L n) 6)
  f7 : FnR P w K mg base (L2.CX P w) n (fs 7) (fd 7) ps_checked (spOf K (fun c => cs.getD c 0) (runF tab sub L n) 7)
  f8 : FnR P w K mg base (L2.CX P w) n (fs 8) (fd 8) ps_counts_of (spOf K (fun c => cs.getD c 0) (runF tab sub L n) 8)
  f9 : FnR P w K mg base (L2.CX P w) n (fs 9) (fd 9) ps_check_takes (spOf K (fun c => cs.getD c 0) (runF tab sub L n) 9)
  f10 : FnR P w K mg base (L2.CX P w) n (fs 10) (fd 10) ps_check_tree (spOf K (fun c => cs.getD c 0) (runF tab sub L n) 10)
  f11 : FnR P w K mg base (L2.CX P w) n (fs 11) (fd 11) ps_check_name (spOf K (fun c => cs.getD c 0) (runF tab sub L n) 11)
  f12 : FnR P w K mg base (L2.CX P w) n (fs 12) (fd 12) ps_check_call (spOf K (fun c => cs.getD c 0) (runF tab sub L n) 12)
  f13 : FnR P w K mg base (L2.CX P w) n (fs 13) (fd 13) ps_scoped (spOf K (fun c => cs.getD c 0) (runF tab sub L n) 13)
  f30 : FnG P w K mg base (L2.CX P w) RoomI (fs 30) (fd 30) ps_Code___init__ (spOf K (fun c => cs.getD c 0) (runF tab sub L n) 30)
  f31 : FnR P w K mg base (L2.CX P w) n (fs 31) (fd 31) ps_smithed (spOf K (fun c => cs.getD c 0) (runF tab sub L n) 31)
  f32 : FnR P w K mg base (L2.CX P w) n (fs 32) (fd 32) ps_starts_of (spOf K (fun c => cs.getD c 0) (runF tab sub L n) 32)
  f33 : FnR P w K mg base (L2.CX P w) n (fs 33) (fd 33) ps_length (spOf K (fun c => cs.getD c 0) (runF tab sub L n) 33)
  f34 : FnR P w K mg base (L2.CX P w) n (fs 34) (fd 34) ps_most_lets (spOf K (fun c => cs.getD c 0) (runF tab sub L n) 34)
  f35 : FnR P w K mg base (L2.CX P w) n (fs 35) (fd 35) ps_height (spOf K (fun c => cs.getD c 0) (runF tab sub L n) 35)
  f36 : FnR P w K mg base (L2.CX P w) n (fs 36) (fd 36) ps_slot_of (spOf K (fun c => cs.getD c 0) (runF tab sub L n) 36)
  f37 : FnR P w K mg base (L2.CX P w) n (fs 37) (fd 37) ps_add_rows (spOf K (fun c => cs.getD c 0) (runF tab sub L n) 37)
  f38 : FnR P w K mg base (L2.CX P w) n (fs 38) (fd 38) ps_add_parts (spOf K (fun c => cs.getD c 0) (runF tab sub L n) 38)
  f39 : FnR P w K mg base (L2.CX P w) n (fs 39) (fd 39) ps_add_choose (spOf K (fun c => cs.getD c 0) (runF tab sub L n) 39)
  f40 : FnR P w K mg base (L2.CX P w) n (fs 40) (fd 40) ps_add_let (spOf K (fun c => cs.getD c 0) (runF tab sub L n) 40)
  f50 : FnR P w K mg base (L2.CX P w) n (fs 50) (fd 50) ps__law_cell_at (spOf K (fun c => cs.getD c 0) (runF tab sub L n) 50)
  f51 : FnR P w K mg base (L2.CX P w) n (fs 51) (fd 51) ps__law_word (spOf K (fun c => cs.getD c 0) (runF tab sub L n) 51)
  f52 : FnR P w K mg base (L2.CX P w) n (fs 52) (fd 52) ps__law_moved (spOf K (fun c => cs.getD c 0) (runF tab sub L n) 52)
  f53 : FnR P w K mg base (L2.CX P w) n (fs 53) (fd 53) ps__law_within (spOf K (fun c => cs.getD c 0) (runF tab sub L n) 53)
  f54 : FnR P w K mg base (L2.CX P w) n (fs 54) (fd 54) ps__law_chosen (spOf K (fun c => cs.getD c 0) (runF tab sub L n) 54)
  f55 : FnR P w K mg base (L2.CX P w) n (fs 55) (fd 55) ps__law_joined (spOf K (fun c => cs.getD c 0) (runF tab sub L n) 55)
  f56 : FnR P w K mg base (L2.CX P w) n (fs 56) (fd 56) ps__law_let (spOf K (fun c => cs.getD c 0) (runF tab sub L n) 56)
  f57 : FnR P w K mg base (L2.CX P w) n (fs 57) (fd 57) ps__law_made (spOf K (fun c => cs.getD c 0) (runF tab sub L n) 57)
  f58 : FnR P w K mg base (L2.CX P w) n (fs 58) (fd 58) ps__law_put (spOf K (fun c => cs.getD c 0) (runF tab sub L n) 58)
  f59 : FnR P w K mg base (L2.CX P w) n (fs 59) (fd 59) ps__law_named (spOf K (fun c => cs.getD c 0) (runF tab sub L n) 59)
  f60 : FnR P w K mg base (L2.CX P w) n (fs 60) (fd 60) ps__law_ready (spOf K (fun c => cs.getD c 0) (runF tab sub L n) 60)
  f61 : FnR P w K mg base (L2.CX P w) n (fs 61) (fd 61) ps__law_row (spOf K (fun c => cs.getD c 0) (runF tab sub L n) 61)
  f62 : FnR P w K mg base (L2.CX P w) n (fs 62) (fd 62) ps_law (spOf K (fun c => cs.getD c 0) (runF tab sub L n) 62)
section
variable {P : Program} {w : World} {K : PySem.W.Frag} {mg : Str → Option Value} {base : Heap} {fs : Nat → Addr} {fd : Nat → FuncData} {cs : List Addr} {L n : Nat}
theorem exOk (T : Txt K mg fs fd cs) : ExOk K (fun c => cs.getD c 0) sub := T.exm
theorem ok_within (T : Txt K mg fs fd cs) (I : Ih P w K mg base fs fd cs L n) : FnR P w K mg base (L2.CX P w) (n + 1) (fs 6) (fd 6) ps_within (spOf K (fun c => cs.getD c 0) (runF tab sub L (n + 1)) 6) := by
  refine fnR_step (exOk T) T.F6 sc_within (d := d_within) rfl rfl rfl (by decide) fun cdv A outer s H E hr => ?_
  have sc := sc_within
  have hu := hr.cmp
  have tk0 : Takes (cxOf (L2.CX P w) P w K mg base nm_within "within" (defScope st_within) (fs 6) cdv A outer s H E) (fun cls d _ H => E cls d H) := takes_of rfl rfl rfl rfl
  have hp : PassesOwn (model P w) (A.deeper (envOfC "within" (defScope st_within) s.heap.objs.size (fs 6) cdv)) (envOfC "within" (defScope st_within) s.heap.objs.size (fs 6) cdv) (cxOf (L2.CX P w) P w K mg base nm_within "within" (defScope st_within) (fs 6) cdv A outer s H E).xe := passes_of (X := cxOf (L2.CX P w) P w K mg base nm_within "within" (defScope st_within) (fs 6) cdv A outer s H E) rfl
  refine pss_as ((pss_cons (ps_set (i := 1) sc.nd rfl (by first | exact Or.inl rfl | exact Or.inr rfl) (pe_ix ix_seq (pv 0) pe_int (fun _ _ => rfl)))
  (pss_cons (ps_if (PW.pt (pw_or (pt_cmpR (op_cmp hu .eq) (pv 1) pe_str (nomark _)) (pw_or1 (pt_cmpR (op_cmp hu .eq) (pv 1) pe_str (nomark _))))) (pss_one (ps_ret (pe_lst pa_nil))) pss_nil)
  (pss_cons (ps_if (pt_cmpR (op_cmp hu .eq) (pv 1) pe_str (nomark _)) (pss_one (ps_ret (pe_lst (pa_cons (pe_ix ix_seq (pv 0) pe_int (fun _ _ => rfl)) (pa_cons (pe_ix ix_seq (pv 0) pe_int (fun _ _ => rfl)) pa_nil))))) pss_nil)
  (pss_cons (ps_if (pt_cmpR (op_cmp hu .eq) (pv 1) pe_str (nomark _)) (pss_one (ps_ret (pe_callTy call_list_of (by rfl) T.b_list (by decide +kernel) (pa_cons (pe_ix ix_seq (pv 0) pe_int (fun _ _ => rfl)) pa_nil)))) pss_nil)
  (pss_one (ps_ret (pe_callTy call_list_of (by rfl) T.b_list (by decide +kernel) (pa_cons (pe_slice sl_slc (pv 0) (po_some pe_int) po_none) pa_nil))))))))) ?_
  show _ = rdB K (fun c => cs.getD c 0) (runF tab sub L n) _ b_within
  unfold b_within
  try simp only [rdB, rdB', rdS, rd2, rdL, rdI, rdC', rdO', Tg.rd, tgL]
  all_goals rfl
theorem ok_checked (T : Txt K mg fs fd cs) (I : Ih P w K mg base fs fd cs L n) : FnR P w K mg base (L2.CX P w) (n + 1) (fs 7) (fd 7) ps_checked (spOf K (fun c => cs.getD c 0) (runF tab sub L (n + 1)) 7) := by
  refine fnR_step (exOk T) T.F7 sc_checked (d := d_checked) rfl rfl rfl (by decide) fun cdv A outer s H E hr => ?_
  have sc := sc_checked
  have hu := hr.cmp
  have tk0 : Takes (cxOf (L2.CX P w) P w K mg base nm_checked "checked" (defScope st_checked) (fs 7) cdv A outer s H E) (fun cls d _ H => E cls d H) := takes_of rfl rfl rfl rfl
  have hp : PassesOwn (model P w) (A.deeper (envOfC "checked" (defScope st_checked) s.heap.objs.size (fs 7) cdv)) (envOfC "checked" (defScope st_checked) s.heap.objs.size (fs 7) cdv) (cxOf (L2.CX P w) P w K mg base nm_checked "checked" (defScope st_checked) (fs 7) cdv A outer s H E).xe := passes_of (X := cxOf (L2.CX P w) P w K mg base nm_checked "checked" (defScope st_checked) (fs 7) cdv A outer s H E) rfl
  refine pss_as ((pss_cons (ps_set (i := 1) sc.nd rfl (by first | exact Or.inl rfl | exact Or.inr rfl) (pe_R I.f8 hr rfl T.g8 T.F8.kp T.b8 (fun σ => passAt tk0 σ) (pa_cons (pv 0) pa_nil)))
  (pss_cons (ps_set (i := 2) sc.nd rfl (by first | exact Or.inl rfl | exact Or.inr rfl) (pe_lst pa_nil))
  (pss_cons (ps_for hp rfl (pi_list (pv 0)) (pg_tup rfl (pgs_cons (pg_name (i := 3) sc.nd rfl (by first | exact Or.inl rfl | exact Or.inr rfl)) (pgs_cons (pg_name (i := 4) sc.nd rfl (by first | exact Or.inl rfl | exact Or.inr rfl)) (pgs_cons (pg_name (i := 5) sc.nd rfl (by first | exact Or.inl rfl | exact Or.inr rfl)) pgs_nil)))) (pss_cons (ps_if (pt_cmpR (op_cmp hu .isin) (pv 3) (pv 2) rfl) (pss_one (ps_raise rfl tk0 (SkE.pmk_own1 PySem.F.excBase_ValueError T.x1.ex T.x1.mg T.x1.kp (raises_own T.x1.bs T.x1.ty) rfl (pe_joined (PJ.cons pe_str (PJ.cons (pe_fmt (pv 3)) PJ.nil)))))) pss_nil)
  (pss_cons (ps_expr (pe_R I.f9 hr rfl T.g9 T.F9.kp T.b9 (fun σ => passAt tk0 σ) (pa_cons (pv 3) (pa_cons (pv 4) pa_nil))))
  (pss_cons (ps_expr (pe_R I.f10 hr rfl T.g10 T.F10.kp T.b10 (fun σ => passAt tk0 σ) (pa_cons (pv 5) (pa_cons (pv 4) (pa_cons (pv 1) (pa_cons pe_int pa_nil))))))
  (pss_one (ps_expr (pe_bm PySem.F.plainAttrs_list PySem.F.slot_list_append PySem.F.type_list_append mt_append (pv 2) (pa_cons (pv 3) pa_nil))))))))
  (pss_one (ps_ret (pv 1))))))) ?_
  show _ = rdB K (fun c => cs.getD c 0) (runF tab sub L n) _ b_checked
  unfold b_checked
  try simp only [rdB, rdB', rdS, rd2, rdL, rdI, rdC', rdO', Tg.rd, tgL]
  all_goals rfl
theorem ok_counts_of (T : Txt K mg fs fd cs) (I : Ih P w K mg base fs fd cs L n) : FnR P w K mg base (L2.CX P w) (n + 1) (fs 8) (fd 8) ps_counts_of (spOf K (fun c => cs.getD c 0) (runF tab sub L (n + 1)) 8) := by
  refine fnR_step (exOk T) T.F8 sc_counts_of (d := d_counts_of) rfl rfl rfl (by decide) fun cdv A outer s H E hr => ?_
  have sc := sc_counts_of
  have hu := hr.cmp
  have tk0 : Takes (cxOf (L2.CX P w) P w K mg base nm_counts_of "counts_of" (defScope st_counts_of) (fs 8) cdv A outer s H E) (fun cls d _ H => E cls d H) := takes_of rfl rfl rfl rfl
  have hp : PassesOwn (model P w) (A.deeper (envOfC "counts_of" (defScope st_counts_of) s.heap.objs.size (fs 8) cdv)) (envOfC "counts_of" (defScope st_counts_of) s.heap.objs.size (fs 8) cdv) (cxOf (L2.CX P w) P w K mg base nm_counts_of "counts_of" (defScope st_counts_of) (fs 8) cdv A outer s H E).xe := passes_of (X := cxOf (L2.CX P w) P w K mg base nm_counts_of "counts_of" (defScope st_counts_of) (fs 8) cdv A outer s H E) rfl
  refine pss_as ((pss_cons (ps_set (i := 1) sc.nd rfl (by first | exact Or.inl rfl | exact Or.inr rfl) pe_dnewK)
  (pss_cons (ps_for hp rfl (pi_list (pv 0)) (pg_tup rfl (pgs_cons (pg_name (i := 2) sc.nd rfl (by first | exact Or.inl rfl | exact Or.inr rfl)) (pgs_cons (pg_name (i := 3) sc.nd rfl (by first | exact Or.inl rfl | exact Or.inr rfl)) (pgs_cons (pg_name (i := 4) sc.nd rfl (by first | exact Or.inl rfl | exact Or.inr rfl)) pgs_nil)))) (pss_one (ps_if (pt_cmp (pc_dnotin (cmp1 hu) (pv 2) (pv 1))) (pss_one (ps_dput (cmp1 hu) (pv 1) (pv 2) (pe_callB call_len (by rfl) T.b_len (by decide +kernel) (pa_cons (pv 3) pa_nil)) rfl)) pss_nil)))
  (pss_one (ps_ret (pv 1)))))) ?_
  show _ = rdB K (fun c => cs.getD c 0) (runF tab sub L n) _ b_counts_of
  unfold b_counts_of
  try simp only [rdB, rdB', rdS, rd2, rdL, rdI, rdC', rdO', Tg.rd, tgL]
  all_goals rfl
theorem ok_check_takes (T : Txt K mg fs fd cs) (I : Ih P w K mg base fs fd cs L n) : FnR P w K mg base (L2.CX P w) (n + 1) (fs 9) (fd 9) ps_check_takes (spOf K (fun c => cs.getD c 0) (runF tab sub L (n + 1)) 9) := by
  refine fnR_step (exOk T) T.F9 sc_check_takes (d := d_check_takes) rfl rfl rfl (by decide) fun cdv A outer s H E hr => ?_
  have sc := sc_check_takes
  have hu := hr.cmp
  have tk0 : Takes (cxOf (L2.CX P w) P w K mg base nm_check_takes "check_takes" (defScope st_check_takes) (fs 9) cdv A outer s H E) (fun cls d _ H => E cls d H) := takes_of rfl rfl rfl rfl
  have hp : PassesOwn (model P w) (A.deeper (envOfC "check_takes" (defScope st_check_takes) s.heap.objs.size (fs 9) cdv)) (envOfC "check_takes" (defScope st_check_takes) s.heap.objs.size (fs 9) cdv) (cxOf (L2.CX P w) P w K mg base nm_check_takes "check_takes" (defScope st_check_takes) (fs 9) cdv A outer s H E).xe := passes_of (X := cxOf (L2.CX P w) P w K mg base nm_check_takes "check_takes" (defScope st_check_takes) (fs 9) cdv A outer s H E) rfl
  refine pss_as ((pss_one (ps_if (pt_cmpR (op_cmp hu .lt) (pe_lenSetT rfl (by rfl) T.b_len (by rfl) T.b_set (pv 1)) (pe_callB call_len (by rfl) T.b_len (by decide +kernel) (pa_cons (pv 1) pa_nil)) (nomark _)) (pss_one (ps_raise rfl tk0 (SkE.pmk_own1 PySem.F.excBase_ValueError T.x1.ex T.x1.mg T.x1.kp (raises_own T.x1.bs T.x1.ty) rfl (pe_joined (PJ.cons (pe_fmt (pv 0)) (PJ.cons pe_str PJ.nil)))))) pss_nil))) ?_
  show _ = rdB K (fun c => cs.getD c 0) (runF tab sub L n) _ b_check_takes
  unfold b_check_takes
  try simp only [rdB, rdB', rdS, rd2, rdL, rdI, rdC', rdO', Tg.rd, tgL]
  all_goals rfl
theorem ok_check_tree (T : Txt K mg fs fd cs) (I : Ih P w K mg base fs fd cs L n) : FnR P w K mg base (L2.CX P w) (n + 1) (fs 10) (fd 10) ps_check_tree (spOf K (fun c => cs.getD c 0) (runF tab sub L (n + 1)) 10) := by
  refine fnR_step (exOk T) T.F10 sc_check_tree (d := d_check_tree) rfl rfl rfl (by decide) fun cdv A outer s H E hr => ?_
  have sc := sc_check_tree
  have hu := hr.cmp
  have tk0 : Takes (cxOf (L2.CX P w) P w K mg base nm_check_tree "check_tree" (defScope st_check_tree) (fs 10) cdv A outer s H E) (fun cls d _ H => E cls d H) := takes_of rfl rfl rfl rfl
  have hp : PassesOwn (model P w) (A.deeper (envOfC "check_tree" (defScope st_check_tree) s.heap.objs.size (fs 10) cdv)) (envOfC "check_tree" (defScope st_check_tree) s.heap.objs.size (fs 10) cdv) (cxOf (L2.CX P w) P w K mg base nm_check_tree "check_tree" (defScope st_check_tree) (fs 10) cdv A outer s H E).xe := passes_of (X := cxOf (L2.CX P w) P w K mg base nm_check_tree "check_tree" (defScope st_check_tree) (fs 10) cdv A outer s H E) rfl
  refine pss_as ((pss_cons (ps_if (pt_cmpR (op_cmp hu .gt) (pv 3) (pe_glob (v := .int (12)) rfl T.c_MOST_LEVELS.choose_spec ⟨_, rfl⟩) (nomark _)) (pss_one (ps_raise rfl tk0 (SkE.pmk_own1 PySem.F.excBase_ValueError T.x5.ex T.x5.mg T.x5.kp (raises_own T.x5.bs T.x5.ty) rfl (pe_joined (PJ.cons pe_str (PJ.cons (pe_fmt (pe_glob (v := .int (12)) rfl T.c_MOST_LEVELS.choose_spec ⟨_, rfl⟩)) (PJ.cons pe_str PJ.nil))))))) pss_nil)
  (pss_cons (ps_if (pt_cmpR (op_cmp hu .eq) (pe_ix ix_seq (pv 0) pe_int (fun _ _ => rfl)) pe_str (nomark _)) (pss_one (ps_expr (pe_R I.f11 hr rfl T.g11 T.F11.kp T.b11 (fun σ => passAt tk0 σ) (pa_cons (pe_ix ix_seq (pv 0) pe_int (fun _ _ => rfl)) (pa_cons (pv 1) pa_nil))))) pss_nil)
  (pss_cons (ps_if (pt_cmpR (op_cmp hu .eq) (pe_ix ix_seq (pv 0) pe_int (fun _ _ => rfl)) pe_str (nomark _)) (pss_one (ps_expr (pe_R I.f12 hr rfl T.g12 T.F12.kp T.b12 (fun σ => passAt tk0 σ) (pa_cons (pe_ix ix_seq (pv 0) pe_int (fun _ _ => rfl)) (pa_cons (pe_callB call_len (by rfl) T.b_len (by decide +kernel) (pa_cons (pe_ix ix_seq (pv 0) pe_int (fun _ _ => rfl)) pa_nil)) (pa_cons (pv 2) pa_nil)))))) pss_nil)
  (pss_one (ps_for hp rfl (pi_list (pe_R I.f13 hr rfl T.g13 T.F13.kp T.b13 (fun σ => passAt tk0 σ) (pa_cons (pv 0) (pa_cons (pv 1) pa_nil)))) (pg_tup rfl (pgs_cons (pg_name (i := 4) sc.nd rfl (by first | exact Or.inl rfl | exact Or.inr rfl)) (pgs_cons (pg_name (i := 5) sc.nd rfl (by first | exact Or.inl rfl | exact Or.inr rfl)) pgs_nil))) (pss_one (ps_expr (pe_R I.f10 hr rfl T.g10 T.F10.kp T.b10 (fun σ => passAt tk0 σ) (pa_cons (pv 4) (pa_cons (pv 5) (pa_cons (pv 2) (pa_cons (pe_op (op_bin .add) (pv 3) pe_int) pa_nil))))))))))))) ?_
  show _ = rdB K (fun c => cs.getD c 0) (runF tab sub L n) _ b_check_tree
  unfold b_check_tree
  try simp only [rdB, rdB', rdS, rd2, rdL, rdI, rdC', rdO', Tg.rd, tgL]
  all_goals rfl
theorem ok_check_name (T : Txt K mg fs fd cs) (I : Ih P w K mg base fs fd cs L n) : FnR P w K mg base (L2.CX P w) (n + 1) (fs 11) (fd 11) ps_check_name (spOf K (fun c => cs.getD c 0) (runF tab sub L (n + 1)) 11) := by
  refine fnR_step (exOk T) T.F11 sc_check_name (d := d_check_name) rfl rfl rfl (by decide) fun cdv A outer s H E hr => ?_
  have sc := sc_check_name
  have hu := hr.cmp
  have tk0 : Takes (cxOf (L2.CX P w) P w K mg base nm_check_name "check_name" (defScope st_check_name) (fs 11) cdv A outer s H E) (fun cls d _ H => E cls d H) := takes_of rfl rfl rfl rfl
  have hp : PassesOwn (model P w) (A.deeper (envOfC "check_name" (defScope st_check_name) s.heap.objs.size (fs 11) cdv)) (envOfC "check_name" (defScope st_check_name) s.heap.objs.size (fs 11) cdv) (cxOf (L2.CX P w) P w K mg base nm_check_name "check_name" (defScope st_check_name) (fs 11) cdv A outer s H E).xe := passes_of (X := cxOf (L2.CX P w) P w K mg base nm_check_name "check_name" (defScope st_check_name) (fs 11) cdv A outer s H E) rfl
  refine pss_as ((pss_one (ps_if (pt_cmpR (op_cmp hu .notin) (pv 0) (pv 1) rfl) (pss_one (ps_raise rfl tk0 (SkE.pmk_own1 PySem.F.excBase_ValueError T.x2.ex T.x2.mg T.x2.kp (raises_own T.x2.bs T.x2.ty) rfl (pe_joined (PJ.cons (pe_fmt (pv 0)) (PJ.cons pe_str PJ.nil)))))) pss_nil))) ?_
  show _ = rdB K (fun c => cs.getD c 0) (runF tab sub L n) _ b_check_name
  unfold b_check_name
  try simp only [rdB, rdB', rdS, rd2, rdL, rdI, rdC', rdO', Tg.rd, tgL]
  all_goals rfl
theorem ok_check_call (T : Txt K mg fs fd cs) (I : Ih P w K mg base fs fd cs L n) : FnR P w K mg base (L2.CX P w) (n + 1) (fs 12) (fd 12) ps_check_call (spOf K (fun c => cs.getD c 0) (runF tab sub L (n + 1)) 12) := by
  refine fnR_step (exOk T) T.F12 sc_check_call (d := d_check_call) rfl rfl rfl (by decide) fun cdv A outer s H E hr => ?_
  have sc := sc_check_call
  have hu := hr.cmp
  have tk0 : Takes (cxOf (L2.CX P w) P w K mg base nm_check_call "check_call" (defScope st_check_call) (fs 12) cdv A outer s H E) (fun cls d _ H => E cls d H) := takes_of rfl rfl rfl rfl
  have hp : PassesOwn (model P w) (A.deeper (envOfC "check_call" (defScope st_check_call) s.heap.objs.size (fs 12) cdv)) (envOfC "check_call" (defScope st_check_call) s.heap.objs.size (fs 12) cdv) (cxOf (L2.CX P w) P w K mg base nm_check_call "check_call" (defScope st_check_call) (fs 12) cdv A outer s H E).xe := passes_of (X := cxOf (L2.CX P w) P w K mg base nm_check_call "check_call" (defScope st_check_call) (fs 12) cdv A outer s H E) rfl
  refine pss_as ((pss_cons (ps_if (pt_cmp (pc_dnotin (cmp1 hu) (pv 0) (pv 2))) (pss_one (ps_raise rfl tk0 (SkE.pmk_own1 PySem.F.excBase_ValueError T.x3.ex T.x3.mg T.x3.kp (raises_own T.x3.bs T.x3.ty) rfl (pe_joined (PJ.cons pe_str (PJ.cons (pe_fmt (pv 0)) PJ.nil)))))) pss_nil)
  (pss_one (ps_if (pt_cmpR (op_cmp hu .ne) (pv 1) (pe_dget (cmp1 hu) (pv 2) (pv 0) (fun _ _ => rfl)) (nomark _)) (pss_one (ps_raise rfl tk0 (SkE.pmk_own1 PySem.F.excBase_ValueError T.x4.ex T.x4.mg T.x4.kp (raises_own T.x4.bs T.x4.ty) rfl (pe_joined (PJ.cons (pe_fmt (pv 0)) (PJ.cons pe_str (PJ.cons (pe_fmt (pe_dget (cmp1 hu) (pv 2) (pv 0) (fun _ _ => rfl))) (PJ.cons pe_str (PJ.cons (pe_fmt (pv 1)) PJ.nil))))))))) pss_nil)))) ?_
  show _ = rdB K (fun c => cs.getD c 0) (runF tab sub L n) _ b_check_call
  unfold b_check_call
  try simp only [rdB, rdB', rdS, rd2, rdL, rdI, rdC', rdO', Tg.rd, tgL]
  all_goals rfl
theorem ok_scoped (T : Txt K mg fs fd cs) (I : Ih P w K mg base fs fd cs L n) : FnR P w K mg base (L2.CX P w) (n + 1) (fs 13) (fd 13) ps_scoped (spOf K (fun c => cs.getD c 0) (runF tab sub L (n + 1)) 13) := by
  refine fnR_step (exOk T) T.F13 sc_scoped (d := d_scoped) rfl rfl rfl (by decide) fun cdv A outer s H E hr => ?_
  have sc := sc_scoped
  have hu := hr.cmp
  have tk0 : Takes (cxOf (L2.CX P w) P w K mg base nm_scoped "scoped" (defScope st_scoped) (fs 13) cdv A outer s H E) (fun cls d _ H => E cls d H) := takes_of rfl rfl rfl rfl
  have hp : PassesOwn (model P w) (A.deeper (envOfC "scoped" (defScope st_scoped) s.heap.objs.size (fs 13) cdv)) (envOfC "scoped" (defScope st_scoped) s.heap.objs.size (fs 13) cdv) (cxOf (L2.CX P w) P w K mg base nm_scoped "scoped" (defScope st_scoped) (fs 13) cdv A outer s H E).xe := passes_of (X := cxOf (L2.CX P w) P w K mg base nm_scoped "scoped" (defScope st_scoped) (fs 13) cdv A outer s H E) rfl
  refine pss_as ((pss_cons (ps_set (i := 2) sc.nd rfl (by first | exact Or.inl rfl | exact Or.inr rfl) (pe_R I.f6 hr rfl T.g6 T.F6.kp T.b6 (fun σ => passAt tk0 σ) (pa_cons (pv 0) pa_nil)))
  (pss_cons (ps_if (pt_cmpR (op_cmp hu .ne) (pe_ix ix_seq (pv 0) pe_int (fun _ _ => rfl)) pe_str (nomark _)) (pss_one (ps_ret (pe_lc (own := [("part", 3)]) (g := (gName 3)) (te := (rd2 K (fun c => cs.getD c 0) (runF tab sub L n) noW (.tup [.var 3, .var 1])).1) rfl sc.nd (pi_list (pv 2)) (blkOk_by (own := [("part", 3)]) (N := nm_scoped) (sc := defScope st_scoped) (by decide +kernel)) (fun _ _ _ _ _ => (pg_name (i := 3) sc.nd rfl (by first | exact Or.inl rfl | exact Or.inr rfl))) (fun _ _ _ _ _ => pts_nil) (fun _ _ _ _ _ => pe_as (pe_tup (pa_cons (pv 3) (pa_cons (pv 1) pa_nil))) rfl)))) pss_nil)
  (pss_one (ps_ret (pe_lst (pa_cons (pe_tup (pa_cons (pe_ix ix_seq (pv 2) pe_int (fun _ _ => rfl)) (pa_cons (pv 1) pa_nil))) (pa_cons (pe_tup (pa_cons (pe_ix ix_seq (pv 2) pe_int (fun _ _ => rfl)) (pa_cons (pe_tup (StX.pa_star (pv 1) (pa_cons (pe_ix ix_seq (pv 0) pe_int (fun _ _ => rfl)) pa_nil))) pa_nil))) pa_nil)))))))) ?_
  show _ = rdB K (fun c => cs.getD c 0) (runF tab sub L n) _ b_scoped
  unfold b_scoped
  try simp only [rdB, rdB', rdS, rd2, rdL, rdI, rdC', rdO', Tg.rd, tgL]
  all_goals rfl
theorem ok_Code___init__ (T : Txt K mg fs fd cs) (I : Ih P w K mg base fs fd cs L n) : FnG P w K mg base (L2.CX P w) RoomI (fs 30) (fd 30) ps_Code___init__ (spOf K (fun c => cs.getD c 0) (runF tab sub L (n + 1)) 30) := by
  refine fnI_step (exOk T) T.F30 sc_Code___init__ (d := d_Code___init__) rfl rfl rfl (by decide) fun cdv A outer s H E hu hd => ?_
  have sc := sc_Code___init__
  have tk0 : Takes (cxOf (L2.CX P w) P w K mg base nm_Code___init__ "Code.__init__" (defScope st_Code___init__) (fs 30) cdv A outer s H E) (fun cls d _ H => E cls d H) := takes_of rfl rfl rfl rfl
  have hp : PassesOwn (model P w) (A.deeper (envOfC "Code.__init__" (defScope st_Code___init__) s.heap.objs.size (fs 30) cdv)) (envOfC "Code.__init__" (defScope st_Code___init__) s.heap.objs.size (fs 30) cdv) (cxOf (L2.CX P w) P w K mg base nm_Code___init__ "Code.__init__" (defScope st_Code___init__) (fs 30) cdv A outer s H E).xe := passes_of (X := cxOf (L2.CX P w) P w K mg base nm_Code___init__ "Code.__init__" (defScope st_Code___init__) (fs 30) cdv A outer s H E) rfl
  refine pss_as ((pss_cons (ps_fld (pv 0) (pv 1) rfl)
  (pss_one (ps_fld (pv 0) (pv 2) rfl)))) ?_
  show _ = rdB K (fun c => cs.getD c 0) (runF tab sub L n) _ b_Code___init__
  unfold b_Code___init__
  try simp only [rdB, rdB', rdS, rd2, rdL, rdI, rdC', rdO', Tg.rd, tgL]
  all_goals rfl
theorem ok_smithed (T : Txt K mg fs fd cs) (I : Ih P w K mg base fs fd cs L n) : FnR P w K mg base (L2.CX P w) (n + 1) (fs 31) (fd 31) ps_smithed (spOf K (fun c => cs.getD c 0) (runF tab sub L (n + 1)) 31) := by
  refine fnR_step (exOk T) T.F31 sc_smithed (d := d_smithed) rfl rfl rfl (by decide) fun cdv A outer s H E hr => ?_
  have sc := sc_smithed
  have hu := hr.cmp
  have tk0 : Takes (cxOf (L2.CX P w) P w K mg base nm_smithed "smithed" (defScope st_smithed) (fs 31) cdv A outer s H E) (fun cls d _ H => E cls d H) := takes_of rfl rfl rfl rfl
  have hp : PassesOwn (model P w) (A.deeper (envOfC "smithed" (defScope st_smithed) s.heap.objs.size (fs 31) cdv)) (envOfC "smithed" (defScope st_smithed) s.heap.objs.size (fs 31) cdv) (cxOf (L2.CX P w) P w K mg base nm_smithed "smithed" (defScope st_smithed) (fs 31) cdv A outer s H E).xe := passes_of (X := cxOf (L2.CX P w) P w K mg base nm_smithed "smithed" (defScope st_smithed) (fs 31) cdv A outer s H E) rfl
  refine pss_as ((pss_cons (ps_expr (pe_R I.f7 hr rfl T.g7 T.F7.kp T.b7 (fun σ => passAt tk0 σ) (pa_cons (pv 0) pa_nil)))
  (pss_cons (ps_set (i := 1) sc.nd rfl (by first | exact Or.inl rfl | exact Or.inr rfl) (pe_R I.f32 hr rfl T.g32 T.F32.kp T.b32 (fun σ => passAt tk0 σ) (pa_cons (pv 0) pa_nil)))
  (pss_cons (ps_set (i := 2) sc.nd rfl (by first | exact Or.inl rfl | exact Or.inr rfl) (pe_lst pa_nil))
  (pss_cons (ps_for hp rfl (pi_list (pv 0)) (pg_tup rfl (pgs_cons (pg_name (i := 3) sc.nd rfl (by first | exact Or.inl rfl | exact Or.inr rfl)) (pgs_cons (pg_name (i := 4) sc.nd rfl (by first | exact Or.inl rfl | exact Or.inr rfl)) (pgs_cons (pg_name (i := 5) sc.nd rfl (by first | exact Or.inl rfl | exact Or.inr rfl)) pgs_nil)))) (pss_cons (ps_expr (pe_R I.f37 hr rfl T.g37 T.F37.kp T.b37 (fun σ => passAt tk0 σ) (pa_cons (pv 2) (pa_cons (pv 5) (pa_cons (pv 4) (pa_cons (pv 1) pa_nil))))))
  (pss_one (ps_expr (pe_bm PySem.F.plainAttrs_list PySem.F.slot_list_append PySem.F.type_list_append mt_append (pv 2) (pa_cons (pe_tup (pa_cons pe_str pa_nil)) pa_nil))))))
  (pss_one (ps_ret (pe_makeI T.io11 T.mk11 I.f30 hr rfl T.g30 T.b30 (fun H s e s' pins σ i q => passAt tk0 σ pins H s e s' i q) (pa_cons (pv 2) (pa_cons (pv 1) pa_nil)))))))))) ?_
  show _ = rdB K (fun c => cs.getD c 0) (runF tab sub L n) _ b_smithed
  unfold b_smithed
  try simp only [rdB, rdB', rdS, rd2, rdL, rdI, rdC', rdO', Tg.rd, tgL]
  all_goals rfl
theorem ok_starts_of (T : Txt K mg fs fd cs) (I : Ih P w K mg base fs fd cs L n) : FnR P w K mg base (L2.CX P w) (n + 1) (fs 32) (fd 32) ps_starts_of (spOf K (fun c => cs.getD c 0) (runF tab sub L (n + 1)) 32) := by
  refine fnR_step (exOk T) T.F32 sc_starts_of (d := d_starts_of) rfl rfl rfl (by decide) fun cdv A outer s H E hr => ?_
  have sc := sc_starts_of
  have hu := hr.cmp
  have tk0 : Takes (cxOf (L2.CX P w) P w K mg base nm_starts_of "starts_of" (defScope st_starts_of) (fs 32) cdv A outer s H E) (fun cls d _ H => E cls d H) := takes_of rfl rfl rfl rfl
  have hp : PassesOwn (model P w) (A.deeper (envOfC "starts_of" (defScope st_starts_of) s.heap.objs.size (fs 32) cdv)) (envOfC "starts_of" (defScope st_starts_of) s.heap.objs.size (fs 32) cdv) (cxOf (L2.CX P w) P w K mg base nm_starts_of "starts_of" (defScope st_starts_of) (fs 32) cdv A outer s H E).xe := passes_of (X := cxOf (L2.CX P w) P w K mg base nm_starts_of "starts_of" (defScope st_starts_of) (fs 32) cdv A outer s H E) rfl
  refine pss_as ((pss_cons (ps_set (i := 1) sc.nd rfl (by first | exact Or.inl rfl | exact Or.inr rfl) pe_dnewK)
  (pss_cons (ps_set (i := 2) sc.nd rfl (by first | exact Or.inl rfl | exact Or.inr rfl) pe_int)
  (pss_cons (ps_for hp rfl (pi_list (pv 0)) (pg_tup rfl (pgs_cons (pg_name (i := 3) sc.nd rfl (by first | exact Or.inl rfl | exact Or.inr rfl)) (pgs_cons (pg_name (i := 4) sc.nd rfl (by first | exact Or.inl rfl | exact Or.inr rfl)) (pgs_cons (pg_name (i := 5) sc.nd rfl (by first | exact Or.inl rfl | exact Or.inr rfl)) pgs_nil)))) (pss_cons (ps_set (i := 6) sc.nd rfl (by first | exact Or.inl rfl | exact Or.inr rfl) (pe_callB call_len (by rfl) T.b_len (by decide +kernel) (pa_cons (pv 4) pa_nil)))
  (pss_cons (ps_dput (cmp1 hu) (pv 1) (pv 3) (pe_tup (pa_cons (pv 2) (pa_cons (pv 6) (pa_cons (pe_op (op_bin .add) (pv 6) (pe_R I.f34 hr rfl T.g34 T.F34.kp T.b34 (fun σ => passAt tk0 σ) (pa_cons (pv 5) pa_nil))) (pa_cons (pe_R I.f35 hr rfl T.g35 T.F35.kp T.b35 (fun σ => passAt tk0 σ) (pa_cons (pv 5) pa_nil)) pa_nil))))) rfl)
  (pss_one (ps_aug (i := 2) sc.nd rfl (by first | exact Or.inl rfl | exact Or.inr rfl) (pe_op (op_bin .add) (pe_R I.f33 hr rfl T.g33 T.F33.kp T.b33 (fun σ => passAt tk0 σ) (pa_cons (pv 5) pa_nil)) pe_int) ip_add)))))
  (pss_one (ps_ret (pv 1))))))) ?_
  show _ = rdB K (fun c => cs.getD c 0) (runF tab sub L n) _ b_starts_of
  unfold b_starts_of
  try simp only [rdB, rdB', rdS, rd2, rdL, rdI, rdC', rdO', Tg.rd, tgL]
  all_goals rfl
theorem ok_length (T : Txt K mg fs fd cs) (I : Ih P w K mg base fs fd cs L n) : FnR P w K mg base (L2.CX P w) (n + 1) (fs 33) (fd 33) ps_length (spOf K (fun c => cs.getD c 0) (runF tab sub L (n + 1)) 33) := by
  refine fnR_step (exOk T) T.F33 sc_length (d := d_length) rfl rfl rfl (by decide) fun cdv A outer s H E hr => ?_
  have sc := sc_length
  have hu := hr.cmp
  have tk0 : Takes (cxOf (L2.CX P w) P w K mg base nm_length "length" (defScope st_length) (fs 33) cdv A outer s H E) (fun cls d _ H => E cls d H) := takes_of rfl rfl rfl rfl
  have hp : PassesOwn (model P w) (A.deeper (envOfC "length" (defScope st_length) s.heap.objs.size (fs 33) cdv)) (envOfC "length" (defScope st_length) s.heap.objs.size (fs 33) cdv) (cxOf (L2.CX P w) P w K mg base nm_length "length" (defScope st_length) (fs 33) cdv A outer s H E).xe := passes_of (X := cxOf (L2.CX P w) P w K mg base nm_length "length" (defScope st_length) (fs 33) cdv A outer s H E) rfl
  refine pss_as ((pss_cons (ps_set (i := 1) sc.nd rfl (by first | exact Or.inl rfl | exact Or.inr rfl) (pe_ifExp (pt_cmpR (op_cmp hu .eq) (pe_ix ix_seq (pv 0) pe_int (fun _ _ => rfl)) pe_str (nomark _)) pe_int pe_int))
  (pss_one (ps_ret (pe_op (op_bin .add) (pv 1) (pe_callB (cr_sum rfl) (by rfl) T.b_sum (by decide +kernel) (pa_cons (pe_lc (own := [("part", 2)]) (g := (gName 2)) (te := (rd2 K (fun c => cs.getD c 0) (runF tab sub L n) noW (.call 33 [.var 2])).1) rfl sc.nd (pi_list (pe_R I.f6 hr rfl T.g6 T.F6.kp T.b6 (fun σ => passAt tk0 σ) (pa_cons (pv 0) pa_nil))) (blkOk_by (own := [("part", 2)]) (N := nm_length) (sc := defScope st_length) (by decide +kernel)) (fun _ _ _ _ _ => (pg_name (i := 2) sc.nd rfl (by first | exact Or.inl rfl | exact Or.inr rfl))) (fun _ _ _ _ _ => pts_nil) (fun _ _ _ _ _ => pe_as (pe_R I.f33 hr rfl T.g33 T.F33.kp T.b33 (fun _ => noPass) (pa_cons (pv 2) pa_nil)) rfl)) pa_nil))))))) ?_
  show _ = rdB K (fun c => cs.getD c 0) (runF tab sub L n) _ b_length
  unfold b_length
  try simp only [rdB, rdB', rdS, rd2, rdL, rdI, rdC', rdO', Tg.rd, tgL]
  all_goals rfl
theorem ok_most_lets (T : Txt K mg fs fd cs) (I : Ih P w K mg base fs fd cs L n) : FnR P w K mg base (L2.CX P w) (n + 1) (fs 34) (fd 34) ps_most_lets (spOf K (fun c => cs.getD c 0) (runF tab sub L (n + 1)) 34) := by
  refine fnR_step (exOk T) T.F34 sc_most_lets (d := d_most_lets) rfl rfl rfl (by decide) fun cdv A outer s H E hr => ?_
  have sc := sc_most_lets
  have hu := hr.cmp
  have tk0 : Takes (cxOf (L2.CX P w) P w K mg base nm_most_lets "most_lets" (defScope st_most_lets) (fs 34) cdv A outer s H E) (fun cls d _ H => E cls d H) := takes_of rfl rfl rfl rfl
  have hp : PassesOwn (model P w) (A.deeper (envOfC "most_lets" (defScope st_most_lets) s.heap.objs.size (fs 34) cdv)) (envOfC "most_lets" (defScope st_most_lets) s.heap.objs.size (fs 34) cdv) (cxOf (L2.CX P w) P w K mg base nm_most_lets "most_lets" (defScope st_most_lets) (fs 34) cdv A outer s H E).xe := passes_of (X := cxOf (L2.CX P w) P w K mg base nm_most_lets "most_lets" (defScope st_most_lets) (fs 34) cdv A outer s H E) rfl
  refine pss_as ((pss_cons (ps_if (pt_cmpR (op_cmp hu .eq) (pe_ix ix_seq (pv 0) pe_int (fun _ _ => rfl)) pe_str (nomark _)) (pss_one (ps_ret (pe_callB (call_max2 rfl) (by rfl) T.b_max (by decide +kernel) (pa_cons (pe_R I.f34 hr rfl T.g34 T.F34.kp T.b34 (fun σ => passAt tk0 σ) (pa_cons (pe_ix ix_seq (pv 0) pe_int (fun _ _ => rfl)) pa_nil)) (pa_cons (pe_op (op_bin .add) pe_int (pe_R I.f34 hr rfl T.g34 T.F34.kp T.b34 (fun σ => passAt tk0 σ) (pa_cons (pe_ix ix_seq (pv 0) pe_int (fun _ _ => rfl)) pa_nil))) pa_nil))))) pss_nil)
  (pss_one (ps_ret (pe_callBK (cr_maxK rfl hu) (by rfl) T.b_max (by decide +kernel) (pa_cons (pe_lc (own := [("part", 1)]) (g := (gName 1)) (te := (rd2 K (fun c => cs.getD c 0) (runF tab sub L n) noW (.call 34 [.var 1])).1) rfl sc.nd (pi_list (pe_R I.f6 hr rfl T.g6 T.F6.kp T.b6 (fun σ => passAt tk0 σ) (pa_cons (pv 0) pa_nil))) (blkOk_by (own := [("part", 1)]) (N := nm_most_lets) (sc := defScope st_most_lets) (by decide +kernel)) (fun _ _ _ _ _ => (pg_name (i := 1) sc.nd rfl (by first | exact Or.inl rfl | exact Or.inr rfl))) (fun _ _ _ _ _ => pts_nil) (fun _ _ _ _ _ => pe_as (pe_R I.f34 hr rfl T.g34 T.F34.kp T.b34 (fun _ => noPass) (pa_cons (pv 1) pa_nil)) rfl)) pa_nil) (pk_cons pe_int pk_nil)))))) ?_
  show _ = rdB K (fun c => cs.getD c 0) (runF tab sub L n) _ b_most_lets
  unfold b_most_lets
  try simp only [rdB, rdB', rdS, rd2, rdL, rdI, rdC', rdO', Tg.rd, tgL]
  all_goals rfl
theorem ok_height (T : Txt K mg fs fd cs) (I : Ih P w K mg base fs fd cs L n) : FnR P w K mg base (L2.CX P w) (n + 1) (fs 35) (fd 35) ps_height (spOf K (fun c => cs.getD c 0) (runF tab sub L (n + 1)) 35) := by
  refine fnR_step (exOk T) T.F35 sc_height (d := d_height) rfl rfl rfl (by decide) fun cdv A outer s H E hr => ?_
  have sc := sc_height
  have hu := hr.cmp
  have tk0 : Takes (cxOf (L2.CX P w) P w K mg base nm_height "height" (defScope st_height) (fs 35) cdv A outer s H E) (fun cls d _ H => E cls d H) := takes_of rfl rfl rfl rfl
  have hp : PassesOwn (model P w) (A.deeper (envOfC "height" (defScope st_height) s.heap.objs.size (fs 35) cdv)) (envOfC "height" (defScope st_height) s.heap.objs.size (fs 35) cdv) (cxOf (L2.CX P w) P w K mg base nm_height "height" (defScope st_height) (fs 35) cdv A outer s H E).xe := passes_of (X := cxOf (L2.CX P w) P w K mg base nm_height "height" (defScope st_height) (fs 35) cdv A outer s H E) rfl
  refine pss_as ((pss_cons (ps_set (i := 1) sc.nd rfl (by first | exact Or.inl rfl | exact Or.inr rfl) (pe_R I.f6 hr rfl T.g6 T.F6.kp T.b6 (fun σ => passAt tk0 σ) (pa_cons (pv 0) pa_nil)))
  (pss_cons (ps_if (PW.pt (pw_or (pt_cmpR (op_cmp hu .eq) (pe_ix ix_seq (pv 0) pe_int (fun _ _ => rfl)) pe_str (nomark _)) (pw_or1 (pt_cmpR (op_cmp hu .eq) (pe_ix ix_seq (pv 0) pe_int (fun _ _ => rfl)) pe_str (nomark _))))) (pss_one (ps_ret (pe_callB (cr_max rfl) (by rfl) T.b_max (by decide +kernel) (pa_cons (pe_lc (own := [("part", 3)]) (g := (gName 3)) (te := (rd2 K (fun c => cs.getD c 0) (runF tab sub L n) noW (.call 35 [.var 3])).1) rfl sc.nd (pi_list (pv 1)) (blkOk_by (own := [("part", 3)]) (N := nm_height) (sc := defScope st_height) (by decide +kernel)) (fun _ _ _ _ _ => (pg_name (i := 3) sc.nd rfl (by first | exact Or.inl rfl | exact Or.inr rfl))) (fun _ _ _ _ _ => pts_nil) (fun _ _ _ _ _ => pe_as (pe_R I.f35 hr rfl T.g35 T.F35.kp T.b35 (fun _ => noPass) (pa_cons (pv 3) pa_nil)) rfl)) pa_nil)))) pss_nil)
  (pss_one (ps_ret (pe_callBK (cr_maxK rfl hu) (by rfl) T.b_max (by decide +kernel) (pa_cons (pe_lc (own := [("under", 2), ("part", 3)]) (g := (gTup K 2 (gCons (gName 2) (gCons (gName 3) gNil)))) (te := (rd2 K (fun c => cs.getD c 0) (runF tab sub L n) noW (.bin .add (.var 2) (.call 35 [.var 3]))).1) rfl sc.nd (pi_enum (by rfl) T.b_enumerate (pa_cons (pv 1) pa_nil)) (blkOk_by (own := [("under", 2), ("part", 3)]) (N := nm_height) (sc := defScope st_height) (by decide +kernel)) (fun _ _ _ _ _ => (pg_tup rfl (pgs_cons (pg_name (i := 2) sc.nd rfl (by first | exact Or.inl rfl | exact Or.inr rfl)) (pgs_cons (pg_name (i := 3) sc.nd rfl (by first | exact Or.inl rfl | exact Or.inr rfl)) pgs_nil)))) (fun _ _ _ _ _ => pts_nil) (fun _ _ _ _ _ => pe_as (pe_op (op_bin .add) (pv 2) (pe_R I.f35 hr rfl T.g35 T.F35.kp T.b35 (fun _ => noPass) (pa_cons (pv 3) pa_nil))) rfl)) pa_nil) (pk_cons pe_int pk_nil))))))) ?_
  show _ = rdB K (fun c => cs.getD c 0) (runF tab sub L n) _ b_height
  unfold b_height
  try simp only [rdB, rdB', rdS, rd2, rdL, rdI, rdC', rdO', Tg.rd, tgL]
  all_goals rfl
theorem ok_slot_of (T : Txt K mg fs fd cs) (I : Ih P w K mg base fs fd cs L n) : FnR P w K mg base (L2.CX P w) (n + 1) (fs 36) (fd 36) ps_slot_of (spOf K (fun c => cs.getD c 0) (runF tab sub L (n + 1)) 36) := by
  refine fnR_step (exOk T) T.F36 sc_slot_of (d := d_slot_of) rfl rfl rfl (by decide) fun cdv A outer s H E hr => ?_
  have sc := sc_slot_of
  have hu := hr.cmp
  have tk0 : Takes (cxOf (L2.CX P w) P w K mg base nm_slot_of "slot_of" (defScope st_slot_of) (fs 36) cdv A outer s H E) (fun cls d _ H => E cls d H) := takes_of rfl rfl rfl rfl
  have hp : PassesOwn (model P w) (A.deeper (envOfC "slot_of" (defScope st_slot_of) s.heap.objs.size (fs 36) cdv)) (envOfC "slot_of" (defScope st_slot_of) s.heap.objs.size (fs 36) cdv) (cxOf (L2.CX P w) P w K mg base nm_slot_of "slot_of" (defScope st_slot_of) (fs 36) cdv A outer s H E).xe := passes_of (X := cxOf (L2.CX P w) P w K mg base nm_slot_of "slot_of" (defScope st_slot_of) (fs 36) cdv A outer s H E) rfl
  refine pss_as ((pss_one (ps_ret (pe_op (op_bin .sub) (pe_op (op_bin .sub) (pe_callB call_len (by rfl) T.b_len (by decide +kernel) (pa_cons (pv 1) pa_nil)) pe_int) (pe_ridx (pv 1) (pa_cons (pv 0) pa_nil)))))) ?_
  show _ = rdB K (fun c => cs.getD c 0) (runF tab sub L n) _ b_slot_of
  unfold b_slot_of
  try simp only [rdB, rdB', rdS, rd2, rdL, rdI, rdC', rdO', Tg.rd, tgL]
  all_goals rfl
theorem ok_add_rows (T : Txt K mg fs fd cs) (I : Ih P w K mg base fs fd cs L n) : FnR P w K mg base (L2.CX P w) (n + 1) (fs 37) (fd 37) ps_add_rows (spOf K (fun c => cs.getD c 0) (runF tab sub L (n + 1)) 37) := by
  refine fnR_step (exOk T) T.F37 sc_add_rows (d := d_add_rows) rfl rfl rfl (by decide) fun cdv A outer s H E hr => ?_
  have sc := sc_add_rows
  have hu := hr.cmp
  have tk0 : Takes (cxOf (L2.CX P w) P w K mg base nm_add_rows "add_rows" (defScope st_add_rows) (fs 37) cdv A outer s H E) (fun cls d _ H => E cls d H) := takes_of rfl rfl rfl rfl
  have hp : PassesOwn (model P w) (A.deeper (envOfC "add_rows" (defScope st_add_rows) s.heap.objs.size (fs 37) cdv)) (envOfC "add_rows" (defScope st_add_rows) s.heap.objs.size (fs 37) cdv) (cxOf (L2.CX P w) P w K mg base nm_add_rows "add_rows" (defScope st_add_rows) (fs 37) cdv A outer s H E).xe := passes_of (X := cxOf (L2.CX P w) P w K mg base nm_add_rows "add_rows" (defScope st_add_rows) (fs 37) cdv A outer s H E) rfl
  refine pss_as ((pss_cons (ps_set (i := 4) sc.nd rfl (by first | exact Or.inl rfl | exact Or.inr rfl) (pe_ix ix_seq (pv 1) pe_int (fun _ _ => rfl)))
  (pss_one (ps_if (pt_cmpR (op_cmp hu .eq) (pv 4) pe_str (nomark _)) (pss_one (ps_expr (pe_bm PySem.F.plainAttrs_list PySem.F.slot_list_append PySem.F.type_list_append mt_append (pv 0) (pa_cons (pe_tup (pa_cons pe_str (pa_cons (pe_ix ix_seq (pv 1) pe_int (fun _ _ => rfl)) pa_nil))) pa_nil)))) (pss_one (ps_if (pt_cmpR (op_cmp hu .eq) (pv 4) pe_str (nomark _)) (pss_one (ps_expr (pe_bm PySem.F.plainAttrs_list PySem.F.slot_list_append PySem.F.type_list_append mt_append (pv 0) (pa_cons (pe_tup (pa_cons pe_str (pa_cons (pe_R I.f36 hr rfl T.g36 T.F36.kp T.b36 (fun σ => passAt tk0 σ) (pa_cons (pe_ix ix_seq (pv 1) pe_int (fun _ _ => rfl)) (pa_cons (pv 2) pa_nil))) pa_nil))) pa_nil)))) (pss_one (ps_if (pt_cmpR (op_cmp hu .eq) (pv 4) pe_str (nomark _)) (pss_one (ps_expr (pe_R I.f39 hr rfl T.g39 T.F39.kp T.b39 (fun σ => passAt tk0 σ) (pa_cons (pv 0) (pa_cons (pv 1) (pa_cons (pv 2) (pa_cons (pv 3) pa_nil))))))) (pss_one (ps_if (pt_cmpR (op_cmp hu .eq) (pv 4) pe_str (nomark _)) (pss_one (ps_expr (pe_R I.f40 hr rfl T.g40 T.F40.kp T.b40 (fun σ => passAt tk0 σ) (pa_cons (pv 0) (pa_cons (pv 1) (pa_cons (pv 2) (pa_cons (pv 3) pa_nil))))))) (pss_one (ps_if (pt_cmpR (op_cmp hu .eq) (pv 4) pe_str (nomark _)) (pss_cons (ps_expr (pe_R I.f38 hr rfl T.g38 T.F38.kp T.b38 (fun σ => passAt tk0 σ) (pa_cons (pv 0) (pa_cons (pv 1) (pa_cons (pv 2) (pa_cons (pv 3) pa_nil))))))
  (pss_cons (ps_asg (pe_dget (cmp1 hu) (pv 3) (pe_ix ix_seq (pv 1) pe_int (fun _ _ => rfl)) (fun _ _ => rfl)) (pg_tup rfl (pgs_cons (pg_name (i := 5) sc.nd rfl (by first | exact Or.inl rfl | exact Or.inr rfl)) (pgs_cons (pg_name (i := 6) sc.nd rfl (by first | exact Or.inl rfl | exact Or.inr rfl)) (pgs_cons (pg_name (i := 7) sc.nd rfl (by first | exact Or.inl rfl | exact Or.inr rfl)) (pgs_cons (pg_name (i := 8) sc.nd rfl (by first | exact Or.inl rfl | exact Or.inr rfl)) pgs_nil))))))
  (pss_one (ps_expr (pe_bm PySem.F.plainAttrs_list PySem.F.slot_list_append PySem.F.type_list_append mt_append (pv 0) (pa_cons (pe_tup (pa_cons pe_str (pa_cons (pv 5) (pa_cons (pv 6) (pa_cons (pv 7) pa_nil))))) pa_nil)))))) (pss_cons (ps_expr (pe_R I.f38 hr rfl T.g38 T.F38.kp T.b38 (fun σ => passAt tk0 σ) (pa_cons (pv 0) (pa_cons (pv 1) (pa_cons (pv 2) (pa_cons (pv 3) pa_nil))))))
  (pss_one (ps_expr (pe_bm PySem.F.plainAttrs_list PySem.F.slot_list_append PySem.F.type_list_append mt_append (pv 0) (pa_cons (pe_tup (pa_cons pe_str (pa_cons (pv 4) pa_nil))) pa_nil))))))))))))))))) ?_
  show _ = rdB K (fun c => cs.getD c 0) (runF tab sub L n) _ b_add_rows
  unfold b_add_rows
  try simp only [rdB, rdB', rdS, rd2, rdL, rdI, rdC', rdO', Tg.rd, tgL]
  all_goals rfl
theorem ok_add_parts (T : Txt K mg fs fd cs) (I : Ih P w K mg base fs fd cs L n) : FnR P w K mg base (L2.CX P w) (n + 1) (fs 38) (fd 38) ps_add_parts (spOf K (fun c => cs.getD c 0) (runF tab sub L (n + 1)) 38) := by
  refine fnR_step (exOk T) T.F38 sc_add_parts (d := d_add_parts) rfl rfl rfl (by decide) fun cdv A outer s H E hr => ?_
  have sc := sc_add_parts
  have hu := hr.cmp
  have tk0 : Takes (cxOf (L2.CX P w) P w K mg base nm_add_parts "add_parts" (defScope st_add_parts) (fs 38) cdv A outer s H E) (fun cls d _ H => E cls d H) := takes_of rfl rfl rfl rfl
  have hp : PassesOwn (model P w) (A.deeper (envOfC "add_parts" (defScope st_add_parts) s.heap.objs.size (fs 38) cdv)) (envOfC "add_parts" (defScope st_add_parts) s.heap.objs.size (fs 38) cdv) (cxOf (L2.CX P w) P w K mg base nm_add_parts "add_parts" (defScope st_add_parts) (fs 38) cdv A outer s H E).xe := passes_of (X := cxOf (L2.CX P w) P w K mg base nm_add_parts "add_parts" (defScope st_add_parts) (fs 38) cdv A outer s H E) rfl
  refine pss_as ((pss_one (ps_for hp rfl (pi_list (pe_R I.f6 hr rfl T.g6 T.F6.kp T.b6 (fun σ => passAt tk0 σ) (pa_cons (pv 1) pa_nil))) (pg_name (i := 4) sc.nd rfl (by first | exact Or.inl rfl | exact Or.inr rfl)) (pss_one (ps_expr (pe_R I.f37 hr rfl T.g37 T.F37.kp T.b37 (fun σ => passAt tk0 σ) (pa_cons (pv 0) (pa_cons (pv 4) (pa_cons (pv 2) (pa_cons (pv 3) pa_nil)))))))))) ?_
  show _ = rdB K (fun c => cs.getD c 0) (runF tab sub L n) _ b_add_parts
  unfold b_add_parts
  try simp only [rdB, rdB', rdS, rd2, rdL, rdI, rdC', rdO', Tg.rd, tgL]
  all_goals rfl
theorem ok_add_choose (T : Txt K mg fs fd cs) (I : Ih P w K mg base fs fd cs L n) : FnR P w K mg base (L2.CX P w) (n + 1) (fs 39) (fd 39) ps_add_choose (spOf K (fun c => cs.getD c 0) (runF tab sub L (n + 1)) 39) := by
  refine fnR_step (exOk T) T.F39 sc_add_choose (d := d_add_choose) rfl rfl rfl (by decide) fun cdv A outer s H E hr => ?_
  have sc := sc_add_choose
  have hu := hr.cmp
  have tk0 : Takes (cxOf (L2.CX P w) P w K mg base nm_add_choose "add_choose" (defScope st_add_choose) (fs 39) cdv A outer s H E) (fun cls d _ H => E cls d H) := takes_of rfl rfl rfl rfl
  have hp : PassesOwn (model P w) (A.deeper (envOfC "add_choose" (defScope st_add_choose) s.heap.objs.size (fs 39) cdv)) (envOfC "add_choose" (defScope st_add_choose) s.heap.objs.size (fs 39) cdv) (cxOf (L2.CX P w) P w K mg base nm_add_choose "add_choose" (defScope st_add_choose) (fs 39) cdv A outer s H E).xe := passes_of (X := cxOf (L2.CX P w) P w K mg base nm_add_choose "add_choose" (defScope st_add_choose) (fs 39) cdv A outer s H E) rfl
  refine pss_as ((pss_cons (ps_asg (pe_R I.f6 hr rfl T.g6 T.F6.kp T.b6 (fun σ => passAt tk0 σ) (pa_cons (pv 1) pa_nil)) (pg_lst rfl (pgs_cons (pg_name (i := 4) sc.nd rfl (by first | exact Or.inl rfl | exact Or.inr rfl)) (pgs_cons (pg_name (i := 5) sc.nd rfl (by first | exact Or.inl rfl | exact Or.inr rfl)) (pgs_cons (pg_name (i := 6) sc.nd rfl (by first | exact Or.inl rfl | exact Or.inr rfl)) pgs_nil)))))
  (pss_cons (ps_expr (pe_R I.f37 hr rfl T.g37 T.F37.kp T.b37 (fun σ => passAt tk0 σ) (pa_cons (pv 0) (pa_cons (pv 4) (pa_cons (pv 2) (pa_cons (pv 3) pa_nil))))))
  (pss_cons (ps_expr (pe_bm PySem.F.plainAttrs_list PySem.F.slot_list_append PySem.F.type_list_append mt_append (pv 0) (pa_cons (pe_tup (pa_cons pe_str (pa_cons (pe_op (op_bin .add) (pe_op (op_bin .add) (pe_op (op_bin .add) (pe_callB call_len (by rfl) T.b_len (by decide +kernel) (pa_cons (pv 0) pa_nil)) pe_int) (pe_R I.f33 hr rfl T.g33 T.F33.kp T.b33 (fun σ => passAt tk0 σ) (pa_cons (pv 5) pa_nil))) pe_int) pa_nil))) pa_nil)))
  (pss_cons (ps_expr (pe_R I.f37 hr rfl T.g37 T.F37.kp T.b37 (fun σ => passAt tk0 σ) (pa_cons (pv 0) (pa_cons (pv 5) (pa_cons (pv 2) (pa_cons (pv 3) pa_nil))))))
  (pss_cons (ps_expr (pe_bm PySem.F.plainAttrs_list PySem.F.slot_list_append PySem.F.type_list_append mt_append (pv 0) (pa_cons (pe_tup (pa_cons pe_str (pa_cons (pe_op (op_bin .add) (pe_op (op_bin .add) (pe_callB call_len (by rfl) T.b_len (by decide +kernel) (pa_cons (pv 0) pa_nil)) pe_int) (pe_R I.f33 hr rfl T.g33 T.F33.kp T.b33 (fun σ => passAt tk0 σ) (pa_cons (pv 6) pa_nil))) pa_nil))) pa_nil)))
  (pss_one (ps_expr (pe_R I.f37 hr rfl T.g37 T.F37.kp T.b37 (fun σ => passAt tk0 σ) (pa_cons (pv 0) (pa_cons (pv 6) (pa_cons (pv 2) (pa_cons (pv 3) pa_nil))))))))))))) ?_
  show _ = rdB K (fun c => cs.getD c 0) (runF tab sub L n) _ b_add_choose
  unfold b_add_choose
  try simp only [rdB, rdB', rdS, rd2, rdL, rdI, rdC', rdO', Tg.rd, tgL]
  all_goals rfl
theorem ok_add_let (T : Txt K mg fs fd cs) (I : Ih P w K mg base fs fd cs L n) : FnR P w K mg base (L2.CX P w) (n + 1) (fs 40) (fd 40) ps_add_let (spOf K (fun c => cs.getD c 0) (runF tab sub L (n + 1)) 40) := by
  refine fnR_step (exOk T) T.F40 sc_add_let (d := d_add_let) rfl rfl rfl (by decide) fun cdv A outer s H E hr => ?_
  have sc := sc_add_let
  have hu := hr.cmp
  have tk0 : Takes (cxOf (L2.CX P w) P w K mg base nm_add_let "add_let" (defScope st_add_let) (fs 40) cdv A outer s H E) (fun cls d _ H => E cls d H) := takes_of rfl rfl rfl rfl
  have hp : PassesOwn (model P w) (A.deeper (envOfC "add_let" (defScope st_add_let) s.heap.objs.size (fs 40) cdv)) (envOfC "add_let" (defScope st_add_let) s.heap.objs.size (fs 40) cdv) (cxOf (L2.CX P w) P w K mg base nm_add_let "add_let" (defScope st_add_let) (fs 40) cdv A outer s H E).xe := passes_of (X := cxOf (L2.CX P w) P w K mg base nm_add_let "add_let" (defScope st_add_let) (fs 40) cdv A outer s H E) rfl
  refine pss_as ((pss_cons (ps_asg (pe_R I.f13 hr rfl T.g13 T.F13.kp T.b13 (fun σ => passAt tk0 σ) (pa_cons (pv 1) (pa_cons (pv 2) pa_nil))) (pg_lst rfl (pgs_cons (pg_tup rfl (pgs_cons (pg_name (i := 4) sc.nd rfl (by first | exact Or.inl rfl | exact Or.inr rfl)) (pgs_cons (pg_name (i := 5) sc.nd rfl (by first | exact Or.inl rfl | exact Or.inr rfl)) pgs_nil))) (pgs_cons (pg_tup rfl (pgs_cons (pg_name (i := 6) sc.nd rfl (by first | exact Or.inl rfl | exact Or.inr rfl)) (pgs_cons (pg_name (i := 7) sc.nd rfl (by first | exact Or.inl rfl | exact Or.inr rfl)) pgs_nil))) pgs_nil))))
  (pss_cons (ps_expr (pe_R I.f37 hr rfl T.g37 T.F37.kp T.b37 (fun σ => passAt tk0 σ) (pa_cons (pv 0) (pa_cons (pv 4) (pa_cons (pv 5) (pa_cons (pv 3) pa_nil))))))
  (pss_cons (ps_expr (pe_bm PySem.F.plainAttrs_list PySem.F.slot_list_append PySem.F.type_list_append mt_append (pv 0) (pa_cons (pe_tup (pa_cons pe_str (pa_cons (pe_callB call_len (by rfl) T.b_len (by decide +kernel) (pa_cons (pv 2) pa_nil)) pa_nil))) pa_nil)))
  (pss_one (ps_expr (pe_R I.f37 hr rfl T.g37 T.F37.kp T.b37 (fun σ => passAt tk0 σ) (pa_cons (pv 0) (pa_cons (pv 6) (pa_cons (pv 7) (pa_cons (pv 3) pa_nil))))))))))) ?_
  show _ = rdB K (fun c => cs.getD c 0) (runF tab sub L n) _ b_add_let
  unfold b_add_let
  try simp only [rdB, rdB', rdS, rd2, rdL, rdI, rdC', rdO', Tg.rd, tgL]
  all_goals rfl
theorem ok__law_cell_at (T : Txt K mg fs fd cs) (I : Ih P w K mg base fs fd cs L n) : FnR P w K mg base (L2.CX P w) (n + 1) (fs 50) (fd 50) ps__law_cell_at (spOf K (fun c => cs.getD c 0) (runF tab sub L (n + 1)) 50) := by
  refine fnR_step (exOk T) T.F50 sc__law_cell_at (d := d__law_cell_at) rfl rfl rfl (by decide) fun cdv A outer s H E hr => ?_
  have sc := sc__law_cell_at
  have hu := hr.cmp
  have tk0 : Takes (cxOf (L2.CX P w) P w K mg base nm__law_cell_at "_law_cell_at" (defScope st__law_cell_at) (fs 50) cdv A outer s H E) (fun cls d _ H => E cls d H) := takes_of rfl rfl rfl rfl
  have hp : PassesOwn (model P w) (A.deeper (envOfC "_law_cell_at" (defScope st__law_cell_at) s.heap.objs.size (fs 50) cdv)) (envOfC "_law_cell_at" (defScope st__law_cell_at) s.heap.objs.size (fs 50) cdv) (cxOf (L2.CX P w) P w K mg base nm__law_cell_at "_law_cell_at" (defScope st__law_cell_at) (fs 50) cdv A outer s H E).xe := passes_of (X := cxOf (L2.CX P w) P w K mg base nm__law_cell_at "_law_cell_at" (defScope st__law_cell_at) (fs 50) cdv A outer s H E) rfl
  refine pss_as ((pss_cons (ps_if (pt_cmpR (op_cmp hu .lt) (pv 1) (pe_callB call_len (by rfl) T.b_len (by decide +kernel) (pa_cons (pv 0) pa_nil)) (nomark _)) (pss_one (ps_ret (pe_ix ix_seq (pv 0) (pv 1) (fun _ _ => rfl)))) pss_nil)
  (pss_one (ps_ret pe_int)))) ?_
  show _ = rdB K (fun c => cs.getD c 0) (runF tab sub L n) _ b__law_cell_at
  unfold b__law_cell_at
  try simp only [rdB, rdB', rdS, rd2, rdL, rdI, rdC', rdO', Tg.rd, tgL]
  all_goals rfl
theorem ok__law_word (T : Txt K mg fs fd cs) (I : Ih P w K mg base fs fd cs L n) : FnR P w K mg base (L2.CX P w) (n + 1) (fs 51) (fd 51) ps__law_word (spOf K (fun c => cs.getD c 0) (runF tab sub L (n + 1)) 51) := by
  refine fnR_step (exOk T) T.F51 sc__law_word (d := d__law_word) rfl rfl rfl (by decide) fun cdv A outer s H E hr => ?_
  have sc := sc__law_word
  have hu := hr.cmp
  have tk0 : Takes (cxOf (L2.CX P w) P w K mg base nm__law_word "_law_word" (defScope st__law_word) (fs 51) cdv A outer s H E) (fun cls d _ H => E cls d H) := takes_of rfl rfl rfl rfl
  have hp : PassesOwn (model P w) (A.deeper (envOfC "_law_word" (defScope st__law_word) s.heap.objs.size (fs 51) cdv)) (envOfC "_law_word" (defScope st__law_word) s.heap.objs.size (fs 51) cdv) (cxOf (L2.CX P w) P w K mg base nm__law_word "_law_word" (defScope st__law_word) (fs 51) cdv A outer s H E).xe := passes_of (X := cxOf (L2.CX P w) P w K mg base nm__law_word "_law_word" (defScope st__law_word) (fs 51) cdv A outer s H E) rfl
  refine pss_as ((pss_cons (ps_set (i := 2) sc.nd rfl (by first | exact Or.inl rfl | exact Or.inr rfl) pe_str)
  (pss_cons (ps_set (i := 3) sc.nd rfl (by first | exact Or.inl rfl | exact Or.inr rfl) (pe_op (op_bin .fdiv) (pv 0) pe_int))
  (pss_cons (ps_set (i := 4) sc.nd rfl (by first | exact Or.inl rfl | exact Or.inr rfl) (pe_op (op_bin .mod) (pv 1) pe_int))
  (pss_cons (ps_if (pt_cmpR (op_cmp hu .eq) (pe_op (op_bin .mod) (pv 0) pe_int) pe_int (nomark _)) (pss_cons (ps_setLc (i := 7) (own := [("_law_k", 9)]) (g := (gName 9)) (te := (rd2 K (fun c => cs.getD c 0) (runF tab sub L n) noW (.idx (.var 2) (.bin .mod (.bin .add (.bin .fdiv (.var 3) (.cst (.int 26))) (.bin .mul (.var 9) (.bin .add (.cst (.int 1)) (.bin .mod (.bin .fdiv (.var 3) (.cst (.int 676))) (.cst (.int 25)))))) (.cst (.int 26))))).1) rfl sc.nd rfl rfl (sw_true rfl rfl rfl (by decide +kernel)) (pi_range1 (by rfl) T.b_range (pa_cons pe_int pa_nil)) (blkOk_by (own := [("_law_k", 9)]) (N := nm__law_word) (sc := defScope st__law_word) (by decide +kernel)) (fun _ _ _ _ _ => (pg_name (i := 9) sc.nd rfl (by first | exact Or.inl rfl | exact Or.inr rfl))) (fun _ _ _ _ _ => pts_nil) (fun _ _ _ _ _ => pe_as (pe_ix ix_seq (pv 2) (pe_op (op_bin .mod) (pe_op (op_bin .add) (pe_op (op_bin .fdiv) (pv 3) pe_int) (pe_op (op_bin .mul) (pv 9) (pe_op (op_bin .add) pe_int (pe_op (op_bin .mod) (pe_op (op_bin .fdiv) (pv 3) pe_int) pe_int)))) pe_int) (fun _ _ => rfl)) rfl))
  (pss_one (ps_ret (pe_op (op_bin .add) (pe_ix ix_seq (pv 2) (pe_op (op_bin .mod) (pe_op (op_bin .add) (pv 3) (pe_op (op_bin .fdiv) (pv 1) pe_int)) pe_int) (fun _ _ => rfl)) (pe_join pe_str (pe_slice sl_slc (pv 7) po_none (po_some (pv 4)))))))) pss_nil)
  (pss_cons (ps_if (pt_cmpR (op_cmp hu .eq) (pe_op (op_bin .mod) (pv 0) pe_int) pe_int (nomark _)) (pss_cons (ps_setLc (i := 7) (own := [("_law_k", 9)]) (g := (gName 9)) (te := (rd2 K (fun c => cs.getD c 0) (runF tab sub L n) noW (.idx (.var 2) (.bin .mod (.bin .add (.bin .add (.var 3) (.var 9)) (.bin .mul (.cst (.int 8)) (.bin .fdiv (.var 1) (.cst (.int 8))))) (.cst (.int 26))))).1) rfl sc.nd rfl rfl (sw_true rfl rfl rfl (by decide +kernel)) (pi_range1 (by rfl) T.b_range (pa_cons pe_int pa_nil)) (blkOk_by (own := [("_law_k", 9)]) (N := nm__law_word) (sc := defScope st__law_word) (by decide +kernel)) (fun _ _ _ _ _ => (pg_name (i := 9) sc.nd rfl (by first | exact Or.inl rfl | exact Or.inr rfl))) (fun _ _ _ _ _ => pts_nil) (fun _ _ _ _ _ => pe_as (pe_ix ix_seq (pv 2) (pe_op (op_bin .mod) (pe_op (op_bin .add) (pe_op (op_bin .add) (pv 3) (pv 9)) (pe_op (op_bin .mul) pe_int (pe_op (op_bin .fdiv) (pv 1) pe_int))) pe_int) (fun _ _ => rfl)) rfl))
  (pss_one (ps_ret (pe_join pe_str (pe_op (op_bin .add) (pe_slice sl_slc (pv 7) (po_some (pv 4)) po_none) (pe_slice sl_slc (pv 7) po_none (po_some (pv 4)))))))) pss_nil)
  (pss_cons (ps_if (pt_cmpR (op_cmp hu .eq) (pe_op (op_bin .mod) (pv 0) pe_int) pe_int (nomark _)) (pss_cons (ps_setLc (i := 7) (own := [("_law_k", 9)]) (g := (gName 9)) (te := (rd2 K (fun c => cs.getD c 0) (runF tab sub L n) noW (.idx (.var 2) (.bin .mod (.bin .add (.var 3) (.bin .mul (.cst (.int 3)) (.var 9))) (.cst (.int 26))))).1) rfl sc.nd rfl rfl (sw_true rfl rfl rfl (by decide +kernel)) (pi_range1 (by rfl) T.b_range (pa_cons pe_int pa_nil)) (blkOk_by (own := [("_law_k", 9)]) (N := nm__law_word) (sc := defScope st__law_word) (by decide +kernel)) (fun _ _ _ _ _ => (pg_name (i := 9) sc.nd rfl (by first | exact Or.inl rfl | exact Or.inr rfl))) (fun _ _ _ _ _ => pts_nil) (fun _ _ _ _ _ => pe_as (pe_ix ix_seq (pv 2) (pe_op (op_bin .mod) (pe_op (op_bin .add) (pv 3) (pe_op (op_bin .mul) pe_int (pv 9))) pe_int) (fun _ _ => rfl)) rfl))
  (pss_cons (ps_set (i := 4) sc.nd rfl (by first | exact Or.inl rfl | exact Or.inr rfl) (pe_op (op_bin .mod) (pe_op (op_bin .add) (pe_op (op_bin .add) (pe_op (op_bin .mod) (pv 1) pe_int) pe_int) (pe_op (op_bin .fdiv) (pv 1) pe_int)) pe_int))
  (pss_cons (ps_set (i := 8) sc.nd rfl (by first | exact Or.inl rfl | exact Or.inr rfl) (pe_ix ix_seq (pv 7) (pv 4) (fun _ _ => rfl)))
  (pss_cons (ps_asg (pe_ix ix_seq (pv 7) (pe_op (op_bin .mod) (pv 1) pe_int) (fun _ _ => rfl)) (pg_sub (pv 7) (pv 4) set_list))
  (pss_cons (ps_asg (pv 8) (pg_sub (pv 7) (pe_op (op_bin .mod) (pv 1) pe_int) set_list))
  (pss_one (ps_ret (pe_join pe_str (pv 7))))))))) pss_nil)
  (pss_cons (ps_set (i := 5) sc.nd rfl (by first | exact Or.inl rfl | exact Or.inr rfl) (pe_op (op_bin .add) pe_int (pe_op (op_bin .mod) (pv 3) pe_int)))
  (pss_cons (ps_set (i := 6) sc.nd rfl (by first | exact Or.inl rfl | exact Or.inr rfl) (pe_op (op_bin .mod) (pe_op (op_bin .fdiv) (pv 3) pe_int) (pv 5)))
  (pss_cons (ps_setLc (i := 7) (own := [("_law_k", 9)]) (g := (gName 9)) (te := (rd2 K (fun c => cs.getD c 0) (runF tab sub L n) noW (.idx (.var 2) (.bin .mod (.bin .add (.bin .fdiv (.var 3) (.cst (.int 64))) (.bin .mul (.var 9) (.bin .add (.cst (.int 1)) (.bin .mod (.bin .fdiv (.var 3) (.cst (.int 1664))) (.cst (.int 25)))))) (.cst (.int 26))))).1) rfl sc.nd rfl rfl (sw_true rfl rfl rfl (by decide +kernel)) (pi_range1 (by rfl) T.b_range (pa_cons (pv 5) pa_nil)) (blkOk_by (own := [("_law_k", 9)]) (N := nm__law_word) (sc := defScope st__law_word) (by decide +kernel)) (fun _ _ _ _ _ => (pg_name (i := 9) sc.nd rfl (by first | exact Or.inl rfl | exact Or.inr rfl))) (fun _ _ _ _ _ => pts_nil) (fun _ _ _ _ _ => pe_as (pe_ix ix_seq (pv 2) (pe_op (op_bin .mod) (pe_op (op_bin .add) (pe_op (op_bin .fdiv) (pv 3) pe_int) (pe_op (op_bin .mul) (pv 9) (pe_op (op_bin .add) pe_int (pe_op (op_bin .mod) (pe_op (op_bin .fdiv) (pv 3) pe_int) pe_int)))) pe_int) (fun _ _ => rfl)) rfl))
  (pss_one (ps_ret (pe_op (op_bin .add) (pe_op (op_bin .add) (pe_join pe_str (pe_slice sl_slc (pv 7) po_none (po_some (pv 6)))) (pe_ix ix_seq (pv 2) (pe_op (op_bin .mod) (pv 1) pe_int) (fun _ _ => rfl))) (pe_join pe_str (pe_slice sl_slc (pv 7) (po_some (pe_op (op_bin .add) (pv 6) pe_int)) po_none))))))))))))))) ?_
  show _ = rdB K (fun c => cs.getD c 0) (runF tab sub L n) _ b__law_word
  unfold b__law_word
  try simp only [rdB, rdB', rdS, rd2, rdL, rdI, rdC', rdO', Tg.rd, tgL]
  all_goals rfl
theorem ok__law_moved (T : Txt K mg fs fd cs) (I : Ih P w K mg base fs fd cs L n) : FnR P w K mg base (L2.CX P w) (n + 1) (fs 52) (fd 52) ps__law_moved (spOf K (fun c => cs.getD c 0) (runF tab sub L (n + 1)) 52) := by
  refine fnR_step (exOk T) T.F52 sc__law_moved (d := d__law_moved) rfl rfl rfl (by decide) fun cdv A outer s H E hr => ?_
  have sc := sc__law_moved
  have hu := hr.cmp
  have tk0 : Takes (cxOf (L2.CX P w) P w K mg base nm__law_moved "_law_moved" (defScope st__law_moved) (fs 52) cdv A outer s H E) (fun cls d _ H => E cls d H) := takes_of rfl rfl rfl rfl
  have hp : PassesOwn (model P w) (A.deeper (envOfC "_law_moved" (defScope st__law_moved) s.heap.objs.size (fs 52) cdv)) (envOfC "_law_moved" (defScope st__law_moved) s.heap.objs.size (fs 52) cdv) (cxOf (L2.CX P w) P w K mg base nm__law_moved "_law_moved" (defScope st__law_moved) (fs 52) cdv A outer s H E).xe := passes_of (X := cxOf (L2.CX P w) P w K mg base nm__law_moved "_law_moved" (defScope st__law_moved) (fs 52) cdv A outer s H E) rfl
  refine pss_as ((pss_cons (ps_set (i := 2) sc.nd rfl (by first | exact Or.inl rfl | exact Or.inr rfl) (pe_lst pa_nil))
  (pss_cons (ps_for hp rfl (pi_list (pv 0)) (pg_name (i := 3) sc.nd rfl (by first | exact Or.inl rfl | exact Or.inr rfl)) (pss_one (ps_if (PW.pt (pw_or (pt_cmpR (op_cmp hu .eq) (pe_ix ix_seq (pv 3) pe_int (fun _ _ => rfl)) pe_str (nomark _)) (pw_or1 (pt_cmpR (op_cmp hu .eq) (pe_ix ix_seq (pv 3) pe_int (fun _ _ => rfl)) pe_str (nomark _))))) (pss_one (ps_expr (pe_bm PySem.F.plainAttrs_list PySem.F.slot_list_append PySem.F.type_list_append mt_append (pv 2) (pa_cons (pe_tup (pa_cons (pe_ix ix_seq (pv 3) pe_int (fun _ _ => rfl)) (pa_cons (pe_op (op_bin .add) (pe_ix ix_seq (pv 3) pe_int (fun _ _ => rfl)) (pv 1)) pa_nil))) pa_nil)))) (pss_one (ps_expr (pe_bm PySem.F.plainAttrs_list PySem.F.slot_list_append PySem.F.type_list_append mt_append (pv 2) (pa_cons (pv 3) pa_nil)))))))
  (pss_one (ps_ret (pv 2)))))) ?_
  show _ = rdB K (fun c => cs.getD c 0) (runF tab sub L n) _ b__law_moved
  unfold b__law_moved
  try simp only [rdB, rdB', rdS, rd2, rdL, rdI, rdC', rdO', Tg.rd, tgL]
  all_goals rfl
theorem ok__law_within (T : Txt K mg fs fd cs) (I : Ih P w K mg base fs fd cs L n) : FnR P w K mg base (L2.CX P w) (n + 1) (fs 53) (fd 53) ps__law_within (spOf K (fun c => cs.getD c 0) (runF tab sub L (n + 1)) 53) := by
  refine fnR_step (exOk T) T.F53 sc__law_within (d := d__law_within) rfl rfl rfl (by decide) fun cdv A outer s H E hr => ?_
  have sc := sc__law_within
  have hu := hr.cmp
  have tk0 : Takes (cxOf (L2.CX P w) P w K mg base nm__law_within "_law_within" (defScope st__law_within) (fs 53) cdv A outer s H E) (fun cls d _ H => E cls d H) := takes_of rfl rfl rfl rfl
  have hp : PassesOwn (model P w) (A.deeper (envOfC "_law_within" (defScope st__law_within) s.heap.objs.size (fs 53) cdv)) (envOfC "_law_within" (defScope st__law_within) s.heap.objs.size (fs 53) cdv) (cxOf (L2.CX P w) P w K mg base nm__law_within "_law_within" (defScope st__law_within) (fs 53) cdv A outer s H E).xe := passes_of (X := cxOf (L2.CX P w) P w K mg base nm__law_within "_law_within" (defScope st__law_within) (fs 53) cdv A outer s H E) rfl
  refine pss_as ((pss_cons (ps_set (i := 3) sc.nd rfl (by first | exact Or.inl rfl | exact Or.inr rfl) (pe_lst pa_nil))
  (pss_cons (ps_for hp rfl (pi_list (pv 0)) (pg_name (i := 4) sc.nd rfl (by first | exact Or.inl rfl | exact Or.inr rfl)) (pss_one (ps_if (PW.pt (pw_and (pt_cmpR (op_cmp hu .eq) (pe_ix ix_seq (pv 4) pe_int (fun _ _ => rfl)) pe_str (nomark _)) (pw_and1 (pt_cmpR (op_cmp hu .eq) (pe_ix ix_seq (pv 4) pe_int (fun _ _ => rfl)) (pv 1) (nomark _))))) (pss_one (ps_expr (pe_bm PySem.F.plainAttrs_list PySem.F.slot_list_append PySem.F.type_list_append mt_append (pv 3) (pa_cons (pe_tup (pa_cons pe_str (pa_cons (pv 2) pa_nil))) pa_nil)))) (pss_one (ps_if (PW.pt (pw_and (PW.pt (pw_or (pt_cmpR (op_cmp hu .eq) (pe_ix ix_seq (pv 4) pe_int (fun _ _ => rfl)) pe_str (nomark _)) (pw_or1 (pt_cmpR (op_cmp hu .eq) (pe_ix ix_seq (pv 4) pe_int (fun _ _ => rfl)) pe_str (nomark _))))) (pw_and1 (pt_not (pt_val (pe_callB call_isi (by rfl) T.b_isinstance (by decide +kernel) (pa_cons (pe_ix ix_seq (pv 4) pe_int (fun _ _ => rfl)) (pa_cons (pe_bltn (v := .ty "str") (by rfl) T.b_str (by decide +kernel) rfl) pa_nil)))))))) (pss_one (ps_expr (pe_bm PySem.F.plainAttrs_list PySem.F.slot_list_append PySem.F.type_list_append mt_append (pv 3) (pa_cons (pe_tup (pa_cons (pe_ix ix_seq (pv 4) pe_int (fun _ _ => rfl)) (pa_cons (pe_op (op_bin .add) (pe_ix ix_seq (pv 4) pe_int (fun _ _ => rfl)) pe_int) pa_nil))) pa_nil)))) (pss_one (ps_expr (pe_bm PySem.F.plainAttrs_list PySem.F.slot_list_append PySem.F.type_list_append mt_append (pv 3) (pa_cons (pv 4) pa_nil)))))))))
  (pss_one (ps_ret (pv 3)))))) ?_
  show _ = rdB K (fun c => cs.getD c 0) (runF tab sub L n) _ b__law_within
  unfold b__law_within
  try simp only [rdB, rdB', rdS, rd2, rdL, rdI, rdC', rdO', Tg.rd, tgL]
  all_goals rfl
theorem ok__law_chosen (T : Txt K mg fs fd cs) (I : Ih P w K mg base fs fd cs L n) : FnR P w K mg base (L2.CX P w) (n + 1) (fs 54) (fd 54) ps__law_chosen (spOf K (fun c => cs.getD c 0) (runF tab sub L (n + 1)) 54) := by
  refine fnR_step (exOk T) T.F54 sc__law_chosen (d := d__law_chosen) rfl rfl rfl (by decide) fun cdv A outer s H E hr => ?_
  have sc := sc__law_chosen
  have hu := hr.cmp
  have tk0 : Takes (cxOf (L2.CX P w) P w K mg base nm__law_chosen "_law_chosen" (defScope st__law_chosen) (fs 54) cdv A outer s H E) (fun cls d _ H => E cls d H) := takes_of rfl rfl rfl rfl
  have hp : PassesOwn (model P w) (A.deeper (envOfC "_law_chosen" (defScope st__law_chosen) s.heap.objs.size (fs 54) cdv)) (envOfC "_law_chosen" (defScope st__law_chosen) s.heap.objs.size (fs 54) cdv) (cxOf (L2.CX P w) P w K mg base nm__law_chosen "_law_chosen" (defScope st__law_chosen) (fs 54) cdv A outer s H E).xe := passes_of (X := cxOf (L2.CX P w) P w K mg base nm__law_chosen "_law_chosen" (defScope st__law_chosen) (fs 54) cdv A outer s H E) rfl
  refine pss_as ((pss_cons (ps_set (i := 1) sc.nd rfl (by first | exact Or.inl rfl | exact Or.inr rfl) (pe_callTy call_list_of (by rfl) T.b_list (by decide +kernel) (pa_cons (pe_ix ix_seq (pe_ix ix_seq (pv 0) pe_int (fun _ _ => rfl)) pe_int (fun _ _ => rfl)) pa_nil)))
  (pss_cons (ps_set (i := 2) sc.nd rfl (by first | exact Or.inl rfl | exact Or.inr rfl) (pe_op (op_bin .add) (pe_callB call_len (by rfl) T.b_len (by decide +kernel) (pa_cons (pv 1) pa_nil)) pe_int))
  (pss_cons (ps_set (i := 3) sc.nd rfl (by first | exact Or.inl rfl | exact Or.inr rfl) (pe_op (op_bin .add) (pe_op (op_bin .add) (pv 2) (pe_callB call_len (by rfl) T.b_len (by decide +kernel) (pa_cons (pe_ix ix_seq (pe_ix ix_seq (pv 0) pe_int (fun _ _ => rfl)) pe_int (fun _ _ => rfl)) pa_nil))) pe_int))
  (pss_cons (ps_set (i := 1) sc.nd rfl (by first | exact Or.inl rfl | exact Or.inr rfl) (pe_op (op_bin .add) (pe_op (op_bin .add) (pv 1) (pe_lst (pa_cons (pe_tup (pa_cons pe_str (pa_cons (pv 3) pa_nil))) pa_nil))) (pe_R I.f52 hr rfl T.g52 T.F52.kp T.b52 (fun σ => passAt tk0 σ) (pa_cons (pe_ix ix_seq (pe_ix ix_seq (pv 0) pe_int (fun _ _ => rfl)) pe_int (fun _ _ => rfl)) (pa_cons (pv 2) pa_nil)))))
  (pss_one (ps_ret (pe_op (op_bin .add) (pe_op (op_bin .add) (pv 1) (pe_lst (pa_cons (pe_tup (pa_cons pe_str (pa_cons (pe_op (op_bin .add) (pv 3) (pe_callB call_len (by rfl) T.b_len (by decide +kernel) (pa_cons (pe_ix ix_seq (pe_ix ix_seq (pv 0) pe_int (fun _ _ => rfl)) pe_int (fun _ _ => rfl)) pa_nil))) pa_nil))) pa_nil))) (pe_R I.f52 hr rfl T.g52 T.F52.kp T.b52 (fun σ => passAt tk0 σ) (pa_cons (pe_ix ix_seq (pe_ix ix_seq (pv 0) pe_int (fun _ _ => rfl)) pe_int (fun _ _ => rfl)) (pa_cons (pv 3) pa_nil))))))))))) ?_
  show _ = rdB K (fun c => cs.getD c 0) (runF tab sub L n) _ b__law_chosen
  unfold b__law_chosen
  try simp only [rdB, rdB', rdS, rd2, rdL, rdI, rdC', rdO', Tg.rd, tgL]
  all_goals rfl
theorem ok__law_joined (T : Txt K mg fs fd cs) (I : Ih P w K mg base fs fd cs L n) : FnR P w K mg base (L2.CX P w) (n + 1) (fs 55) (fd 55) ps__law_joined (spOf K (fun c => cs.getD c 0) (runF tab sub L (n + 1)) 55) := by
  refine fnR_step (exOk T) T.F55 sc__law_joined (d := d__law_joined) rfl rfl rfl (by decide) fun cdv A outer s H E hr => ?_
  have sc := sc__law_joined
  have hu := hr.cmp
  have tk0 : Takes (cxOf (L2.CX P w) P w K mg base nm__law_joined "_law_joined" (defScope st__law_joined) (fs 55) cdv A outer s H E) (fun cls d _ H => E cls d H) := takes_of rfl rfl rfl rfl
  have hp : PassesOwn (model P w) (A.deeper (envOfC "_law_joined" (defScope st__law_joined) s.heap.objs.size (fs 55) cdv)) (envOfC "_law_joined" (defScope st__law_joined) s.heap.objs.size (fs 55) cdv) (cxOf (L2.CX P w) P w K mg base nm__law_joined "_law_joined" (defScope st__law_joined) (fs 55) cdv A outer s H E).xe := passes_of (X := cxOf (L2.CX P w) P w K mg base nm__law_joined "_law_joined" (defScope st__law_joined) (fs 55) cdv A outer s H E) rfl
  refine pss_as ((pss_cons (ps_set (i := 2) sc.nd rfl (by first | exact Or.inl rfl | exact Or.inr rfl) (pe_lst pa_nil))
  (pss_cons (ps_set (i := 3) sc.nd rfl (by first | exact Or.inl rfl | exact Or.inr rfl) pe_int)
  (pss_cons (ps_for hp rfl (pi_enum (by rfl) T.b_enumerate (pa_cons (pv 0) pa_nil)) (pg_tup rfl (pgs_cons (pg_name (i := 4) sc.nd rfl (by first | exact Or.inl rfl | exact Or.inr rfl)) (pgs_cons (pg_name (i := 5) sc.nd rfl (by first | exact Or.inl rfl | exact Or.inr rfl)) pgs_nil))) (pss_cons (ps_set (i := 2) sc.nd rfl (by first | exact Or.inl rfl | exact Or.inr rfl) (pe_op (op_bin .add) (pv 2) (pe_R I.f52 hr rfl T.g52 T.F52.kp T.b52 (fun σ => passAt tk0 σ) (pa_cons (pe_ix ix_seq (pv 5) pe_int (fun _ _ => rfl)) (pa_cons (pe_callB call_len (by rfl) T.b_len (by decide +kernel) (pa_cons (pv 2) pa_nil)) pa_nil)))))
  (pss_one (ps_set (i := 3) sc.nd rfl (by first | exact Or.inl rfl | exact Or.inr rfl) (pe_callB (call_max2 rfl) (by rfl) T.b_max (by decide +kernel) (pa_cons (pv 3) (pa_cons (pe_op (op_bin .add) (pv 4) (pe_ix ix_seq (pv 5) pe_int (fun _ _ => rfl))) pa_nil)))))))
  (pss_one (ps_ret (pe_tup (pa_cons (pe_op (op_bin .add) (pv 2) (pe_lst (pa_cons (pv 1) pa_nil))) (pa_cons (pv 3) (pa_cons (pe_callB (cr_max rfl) (by rfl) T.b_max (by decide +kernel) (pa_cons (pe_op (op_bin .add) (pe_lst (pa_cons pe_int pa_nil)) (pe_lc (own := [("_law_part", 5)]) (g := (gName 5)) (te := (rd2 K (fun c => cs.getD c 0) (runF tab sub L n) noW (.idx (.var 5) (.cst (.int 4)))).1) rfl sc.nd (pi_list (pv 0)) (blkOk_by (own := [("_law_part", 5)]) (N := nm__law_joined) (sc := defScope st__law_joined) (by decide +kernel)) (fun _ _ _ _ _ => (pg_name (i := 5) sc.nd rfl (by first | exact Or.inl rfl | exact Or.inr rfl))) (fun _ _ _ _ _ => pts_nil) (fun _ _ _ _ _ => pe_as (pe_ix ix_seq (pv 5) pe_int (fun _ _ => rfl)) rfl))) pa_nil)) pa_nil)))))))))) ?_
  show _ = rdB K (fun c => cs.getD c 0) (runF tab sub L n) _ b__law_joined
  unfold b__law_joined
  try simp only [rdB, rdB', rdS, rd2, rdL, rdI, rdC', rdO', Tg.rd, tgL]
  all_goals rfl
theorem ok__law_let (T : Txt K mg fs fd cs) (I : Ih P w K mg base fs fd cs L n) : FnR P w K mg base (L2.CX P w) (n + 1) (fs 56) (fd 56) ps__law_let (spOf K (fun c => cs.getD c 0) (runF tab sub L (n + 1)) 56) := by
  refine fnR_step (exOk T) T.F56 sc__law_let (d := d__law_let) rfl rfl rfl (by decide) fun cdv A outer s H E hr => ?_
  have sc := sc__law_let
  have hu := hr.cmp
  have tk0 : Takes (cxOf (L2.CX P w) P w K mg base nm__law_let "_law_let" (defScope st__law_let) (fs 56) cdv A outer s H E) (fun cls d _ H => E cls d H) := takes_of rfl rfl rfl rfl
  have hp : PassesOwn (model P w) (A.deeper (envOfC "_law_let" (defScope st__law_let) s.heap.objs.size (fs 56) cdv)) (envOfC "_law_let" (defScope st__law_let) s.heap.objs.size (fs 56) cdv) (cxOf (L2.CX P w) P w K mg base nm__law_let "_law_let" (defScope st__law_let) (fs 56) cdv A outer s H E).xe := passes_of (X := cxOf (L2.CX P w) P w K mg base nm__law_let "_law_let" (defScope st__law_let) (fs 56) cdv A outer s H E) rfl
  refine pss_as ((pss_cons (ps_set (i := 4) sc.nd rfl (by first | exact Or.inl rfl | exact Or.inr rfl) (pe_op (op_bin .add) (pe_ix ix_seq (pv 2) pe_int (fun _ _ => rfl)) (pe_lst (pa_cons (pe_tup (pa_cons pe_str (pa_cons (pv 1) pa_nil))) pa_nil))))
  (pss_cons (ps_set (i := 4) sc.nd rfl (by first | exact Or.inl rfl | exact Or.inr rfl) (pe_op (op_bin .add) (pv 4) (pe_R I.f52 hr rfl T.g52 T.F52.kp T.b52 (fun σ => passAt tk0 σ) (pa_cons (pe_R I.f53 hr rfl T.g53 T.F53.kp T.b53 (fun σ => passAt tk0 σ) (pa_cons (pe_ix ix_seq (pv 3) pe_int (fun _ _ => rfl)) (pa_cons (pv 0) (pa_cons (pv 1) pa_nil)))) (pa_cons (pe_callB call_len (by rfl) T.b_len (by decide +kernel) (pa_cons (pv 4) pa_nil)) pa_nil)))))
  (pss_cons (ps_set (i := 5) sc.nd rfl (by first | exact Or.inl rfl | exact Or.inr rfl) (pe_tup (pa_cons pe_str (pa_cons (pv 0) (pa_cons (pe_ix ix_seq (pv 2) pe_int (fun _ _ => rfl)) (pa_cons (pe_ix ix_seq (pv 3) pe_int (fun _ _ => rfl)) pa_nil))))))
  (pss_one (ps_ret (pe_tup (pa_cons (pv 5) (pa_cons (pv 4) (pa_cons (pe_op (op_bin .add) pe_int (pe_callB (call_max2 rfl) (by rfl) T.b_max (by decide +kernel) (pa_cons (pe_ix ix_seq (pv 2) pe_int (fun _ _ => rfl)) (pa_cons (pe_ix ix_seq (pv 3) pe_int (fun _ _ => rfl)) pa_nil)))) (pa_cons (pe_callB (call_max2 rfl) (by rfl) T.b_max (by decide +kernel) (pa_cons (pe_ix ix_seq (pv 2) pe_int (fun _ _ => rfl)) (pa_cons (pe_ix ix_seq (pv 3) pe_int (fun _ _ => rfl)) pa_nil))) (pa_cons (pe_callB (call_max2 rfl) (by rfl) T.b_max (by decide +kernel) (pa_cons (pe_ix ix_seq (pv 2) pe_int (fun _ _ => rfl)) (pa_cons (pe_op (op_bin .add) pe_int (pe_ix ix_seq (pv 3) pe_int (fun _ _ => rfl))) pa_nil))) pa_nil)))))))))))) ?_
  show _ = rdB K (fun c => cs.getD c 0) (runF tab sub L n) _ b__law_let
  unfold b__law_let
  try simp only [rdB, rdB', rdS, rd2, rdL, rdI, rdC', rdO', Tg.rd, tgL]
  all_goals rfl
theorem ok__law_made (T : Txt K mg fs fd cs) (I : Ih P w K mg base fs fd cs L n) : FnR P w K mg base (L2.CX P w) (n + 1) (fs 57) (fd 57) ps__law_made (spOf K (fun c => cs.getD c 0) (runF tab sub L (n + 1)) 57) := by
  refine fnR_step (exOk T) T.F57 sc__law_made (d := d__law_made) rfl rfl rfl (by decide) fun cdv A outer s H E hr => ?_
  have sc := sc__law_made
  have hu := hr.cmp
  have tk0 : Takes (cxOf (L2.CX P w) P w K mg base nm__law_made "_law_made" (defScope st__law_made) (fs 57) cdv A outer s H E) (fun cls d _ H => E cls d H) := takes_of rfl rfl rfl rfl
  have hp : PassesOwn (model P w) (A.deeper (envOfC "_law_made" (defScope st__law_made) s.heap.objs.size (fs 57) cdv)) (envOfC "_law_made" (defScope st__law_made) s.heap.objs.size (fs 57) cdv) (cxOf (L2.CX P w) P w K mg base nm__law_made "_law_made" (defScope st__law_made) (fs 57) cdv A outer s H E).xe := passes_of (X := cxOf (L2.CX P w) P w K mg base nm__law_made "_law_made" (defScope st__law_made) (fs 57) cdv A outer s H E) rfl
  refine pss_as ((pss_cons (ps_setLc (i := 5) (own := [("_law_part", 11)]) (g := (gName 11)) (te := (rd2 K (fun c => cs.getD c 0) (runF tab sub L n) noW (.idx (.var 11) (.cst (.int 0)))).1) rfl sc.nd rfl rfl (sw_true rfl rfl rfl (by decide +kernel)) (pi_list (pv 0)) (blkOk_by (own := [("_law_part", 11)]) (N := nm__law_made) (sc := defScope st__law_made) (by decide +kernel)) (fun _ _ _ _ _ => (pg_name (i := 11) sc.nd rfl (by first | exact Or.inl rfl | exact Or.inr rfl))) (fun _ _ _ _ _ => pts_nil) (fun _ _ _ _ _ => pe_as (pe_ix ix_seq (pv 11) pe_int (fun _ _ => rfl)) rfl))
  (pss_cons (ps_set (i := 6) sc.nd rfl (by first | exact Or.inl rfl | exact Or.inr rfl) (pe_op (op_bin .add) pe_int (pe_callB (cr_max rfl) (by rfl) T.b_max (by decide +kernel) (pa_cons (pe_op (op_bin .add) (pe_lst (pa_cons pe_int pa_nil)) (pe_lc (own := [("_law_part", 11)]) (g := (gName 11)) (te := (rd2 K (fun c => cs.getD c 0) (runF tab sub L n) noW (.idx (.var 11) (.cst (.int 2)))).1) rfl sc.nd (pi_list (pv 0)) (blkOk_by (own := [("_law_part", 11)]) (N := nm__law_made) (sc := defScope st__law_made) (by decide +kernel)) (fun _ _ _ _ _ => (pg_name (i := 11) sc.nd rfl (by first | exact Or.inl rfl | exact Or.inr rfl))) (fun _ _ _ _ _ => pts_nil) (fun _ _ _ _ _ => pe_as (pe_ix ix_seq (pv 11) pe_int (fun _ _ => rfl)) rfl))) pa_nil))))
  (pss_cons (ps_if (pt_cmpR (op_cmp hu .lt) (pv 1) pe_int (nomark _)) (pss_cons (ps_set (i := 8) sc.nd rfl (by first | exact Or.inl rfl | exact Or.inr rfl) (pe_ix ix_seq (pe_lst (pa_cons pe_str (pa_cons pe_str (pa_cons pe_str (pa_cons pe_str (pa_cons pe_str pa_nil)))))) (pv 1) (fun _ _ => rfl)))
  (pss_cons (ps_set (i := 7) sc.nd rfl (by first | exact Or.inl rfl | exact Or.inr rfl) (pe_R I.f55 hr rfl T.g55 T.F55.kp T.b55 (fun σ => passAt tk0 σ) (pa_cons (pv 0) (pa_cons (pe_tup (pa_cons pe_str (pa_cons (pv 8) pa_nil))) pa_nil))))
  (pss_one (ps_ret (pe_tup (pa_cons (pe_tup (pa_cons (pv 8) (pa_cons (pe_ix ix_seq (pv 5) pe_int (fun _ _ => rfl)) (pa_cons (pe_ix ix_seq (pv 5) pe_int (fun _ _ => rfl)) pa_nil)))) (pa_cons (pe_ix ix_seq (pv 7) pe_int (fun _ _ => rfl)) (pa_cons (pv 6) (pa_cons (pe_ix ix_seq (pv 7) pe_int (fun _ _ => rfl)) (pa_cons (pe_ix ix_seq (pv 7) pe_int (fun _ _ => rfl)) pa_nil)))))))))) pss_nil)
  (pss_cons (ps_if (pt_cmpR (op_cmp hu .eq) (pv 1) pe_int (nomark _)) (pss_cons (ps_set (i := 9) sc.nd rfl (by first | exact Or.inl rfl | exact Or.inr rfl) (pe_callB (cr_max rfl) (by rfl) T.b_max (by decide +kernel) (pa_cons (pe_lc (own := [("_law_part", 11)]) (g := (gName 11)) (te := (rd2 K (fun c => cs.getD c 0) (runF tab sub L n) noW (.idx (.var 11) (.cst (.int 4)))).1) rfl sc.nd (pi_list (pv 0)) (blkOk_by (own := [("_law_part", 11)]) (N := nm__law_made) (sc := defScope st__law_made) (by decide +kernel)) (fun _ _ _ _ _ => (pg_name (i := 11) sc.nd rfl (by first | exact Or.inl rfl | exact Or.inr rfl))) (fun _ _ _ _ _ => pts_nil) (fun _ _ _ _ _ => pe_as (pe_ix ix_seq (pv 11) pe_int (fun _ _ => rfl)) rfl)) pa_nil)))
  (pss_cons (ps_set (i := 10) sc.nd rfl (by first | exact Or.inl rfl | exact Or.inr rfl) (pe_tup (pa_cons pe_str (pa_cons (pe_ix ix_seq (pv 5) pe_int (fun _ _ => rfl)) (pa_cons (pe_ix ix_seq (pv 5) pe_int (fun _ _ => rfl)) (pa_cons (pe_ix ix_seq (pv 5) pe_int (fun _ _ => rfl)) pa_nil))))))
  (pss_one (ps_ret (pe_tup (pa_cons (pv 10) (pa_cons (pe_R I.f54 hr rfl T.g54 T.F54.kp T.b54 (fun σ => passAt tk0 σ) (pa_cons (pv 0) pa_nil)) (pa_cons (pv 6) (pa_cons (pe_callB (cr_max rfl) (by rfl) T.b_max (by decide +kernel) (pa_cons (pe_lc (own := [("_law_part", 11)]) (g := (gName 11)) (te := (rd2 K (fun c => cs.getD c 0) (runF tab sub L n) noW (.idx (.var 11) (.cst (.int 3)))).1) rfl sc.nd (pi_list (pv 0)) (blkOk_by (own := [("_law_part", 11)]) (N := nm__law_made) (sc := defScope st__law_made) (by decide +kernel)) (fun _ _ _ _ _ => (pg_name (i := 11) sc.nd rfl (by first | exact Or.inl rfl | exact Or.inr rfl))) (fun _ _ _ _ _ => pts_nil) (fun _ _ _ _ _ => pe_as (pe_ix ix_seq (pv 11) pe_int (fun _ _ => rfl)) rfl)) pa_nil)) (pa_cons (pv 9) pa_nil)))))))))) pss_nil)
  (pss_cons (ps_if (pt_cmpR (op_cmp hu .eq) (pv 1) pe_int (nomark _)) (pss_one (ps_ret (pe_R I.f56 hr rfl T.g56 T.F56.kp T.b56 (fun σ => passAt tk0 σ) (pa_cons (pe_ix ix_seq (pv 3) (pe_op (op_bin .mod) (pv 2) (pe_callB call_len (by rfl) T.b_len (by decide +kernel) (pa_cons (pv 3) pa_nil))) (fun _ _ => rfl)) (pa_cons (pv 4) (pa_cons (pe_ix ix_seq (pv 0) pe_int (fun _ _ => rfl)) (pa_cons (pe_ix ix_seq (pv 0) pe_int (fun _ _ => rfl)) pa_nil))))))) pss_nil)
  (pss_cons (ps_set (i := 7) sc.nd rfl (by first | exact Or.inl rfl | exact Or.inr rfl) (pe_R I.f55 hr rfl T.g55 T.F55.kp T.b55 (fun σ => passAt tk0 σ) (pa_cons (pv 0) (pa_cons (pe_tup (pa_cons pe_str (pa_cons (pe_op (op_bin .sub) (pv 1) pe_int) pa_nil))) pa_nil))))
  (pss_one (ps_ret (pe_tup (pa_cons (pe_tup (pa_cons pe_str (pa_cons (pe_op (op_bin .sub) (pv 1) pe_int) (pa_cons (pe_callTy call_tuple_of (by rfl) T.b_tuple (by decide +kernel) (pa_cons (pv 5) pa_nil)) pa_nil)))) (pa_cons (pe_ix ix_seq (pv 7) pe_int (fun _ _ => rfl)) (pa_cons (pv 6) (pa_cons (pe_ix ix_seq (pv 7) pe_int (fun _ _ => rfl)) (pa_cons (pe_ix ix_seq (pv 7) pe_int (fun _ _ => rfl)) pa_nil))))))))))))))) ?_
  show _ = rdB K (fun c => cs.getD c 0) (runF tab sub L n) _ b__law_made
  unfold b__law_made
  try simp only [rdB, rdB', rdS, rd2, rdL, rdI, rdC', rdO', Tg.rd, tgL]
  all_goals rfl
theorem ok__law_put (T : Txt K mg fs fd cs) (I : Ih P w K mg base fs fd cs L n) : FnR P w K mg base (L2.CX P w) (n + 1) (fs 58) (fd 58) ps__law_put (spOf K (fun c => cs.getD c 0) (runF tab sub L (n + 1)) 58) := by
  refine fnR_step (exOk T) T.F58 sc__law_put (d := d__law_put) rfl rfl rfl (by decide) fun cdv A outer s H E hr => ?_
  have sc := sc__law_put
  have hu := hr.cmp
  have tk0 : Takes (cxOf (L2.CX P w) P w K mg base nm__law_put "_law_put" (defScope st__law_put) (fs 58) cdv A outer s H E) (fun cls d _ H => E cls d H) := takes_of rfl rfl rfl rfl
  have hp : PassesOwn (model P w) (A.deeper (envOfC "_law_put" (defScope st__law_put) s.heap.objs.size (fs 58) cdv)) (envOfC "_law_put" (defScope st__law_put) s.heap.objs.size (fs 58) cdv) (cxOf (L2.CX P w) P w K mg base nm__law_put "_law_put" (defScope st__law_put) (fs 58) cdv A outer s H E).xe := passes_of (X := cxOf (L2.CX P w) P w K mg base nm__law_put "_law_put" (defScope st__law_put) (fs 58) cdv A outer s H E) rfl
  refine pss_as ((pss_cons (ps_set (i := 5) sc.nd rfl (by first | exact Or.inl rfl | exact Or.inr rfl) (pe_op (op_bin .mod) (pv 1) pe_int))
  (pss_cons (ps_set (i := 6) sc.nd rfl (by first | exact Or.inl rfl | exact Or.inr rfl) (pe_op (op_bin .fdiv) (pv 1) pe_int))
  (pss_cons (ps_set (i := 7) sc.nd rfl (by first | exact Or.inl rfl | exact Or.inr rfl) (pe_lst (pa_cons pe_int (pa_cons pe_int (pa_cons pe_int (pa_cons pe_int (pa_cons pe_int (pa_cons pe_int (pa_cons pe_int (pa_cons (pv 3) (pa_cons pe_int pa_nil)))))))))))
  (pss_cons (ps_if (pt_cmpR (op_cmp hu .lt) (pv 5) pe_int (nomark _)) (pss_cons (ps_set (i := 9) sc.nd rfl (by first | exact Or.inl rfl | exact Or.inr rfl) (pe_ix ix_seq (pv 7) (pv 5) (fun _ _ => rfl)))
  (pss_cons (ps_set (i := 10) sc.nd rfl (by first | exact Or.inl rfl | exact Or.inr rfl) (pe_slice sl_slc (pv 0) (po_some (pe_op (op_bin .sub) (pe_callB call_len (by rfl) T.b_len (by decide +kernel) (pa_cons (pv 0) pa_nil)) (pv 9))) po_none))
  (pss_one (ps_if (PW.pt (pw_and (pt_cmpR (op_cmp hu .le) (pv 9) (pe_callB call_len (by rfl) T.b_len (by decide +kernel) (pa_cons (pv 0) pa_nil)) (nomark _)) (pw_and (pt_cmpR (op_cmp hu .lt) (pe_callB (cr_max rfl) (by rfl) T.b_max (by decide +kernel) (pa_cons (pe_op (op_bin .add) (pe_lst (pa_cons pe_int pa_nil)) (pe_lc (own := [("_law_part", 12)]) (g := (gName 12)) (te := (rd2 K (fun c => cs.getD c 0) (runF tab sub L n) noW (.idx (.var 12) (.cst (.int 2)))).1) rfl sc.nd (pi_list (pv 10)) (blkOk_by (own := [("_law_part", 12)]) (N := nm__law_put) (sc := defScope st__law_put) (by decide +kernel)) (fun _ _ _ _ _ => (pg_name (i := 12) sc.nd rfl (by first | exact Or.inl rfl | exact Or.inr rfl))) (fun _ _ _ _ _ => pts_nil) (fun _ _ _ _ _ => pe_as (pe_ix ix_seq (pv 12) pe_int (fun _ _ => rfl)) rfl))) pa_nil)) pe_int (nomark _)) (pw_and1 (PW.pt (pw_or (pt_cmpR (op_cmp hu .ne) (pv 5) pe_int (nomark _)) (pw_or1 (pt_val (pv 4))))))))) (pss_one (ps_ret (pe_op (op_bin .add) (pe_slice sl_slc (pv 0) po_none (po_some (pe_op (op_bin .sub) (pe_callB call_len (by rfl) T.b_len (by decide +kernel) (pa_cons (pv 0) pa_nil)) (pv 9)))) (pe_lst (pa_cons (pe_R I.f57 hr rfl T.g57 T.F57.kp T.b57 (fun σ => passAt tk0 σ) (pa_cons (pv 10) (pa_cons (pv 5) (pa_cons (pv 6) (pa_cons (pv 2) (pa_cons (pv 3) pa_nil)))))) pa_nil))))) pss_nil)))) pss_nil)
  (pss_cons (ps_if (PW.pt (pw_and (pt_cmpR (op_cmp hu .gt) (pv 5) pe_int (nomark _)) (pw_and1 (pt_cmpR (op_cmp hu .lt) (pv 5) pe_int (nomark _))))) (pss_cons (ps_set (i := 11) sc.nd rfl (by first | exact Or.inl rfl | exact Or.inr rfl) (pe_ix ix_seq (pv 2) (pe_op (op_bin .mod) (pv 6) (pe_callB call_len (by rfl) T.b_len (by decide +kernel) (pa_cons (pv 2) pa_nil))) (fun _ _ => rfl)))
  (pss_one (ps_ret (pe_op (op_bin .add) (pv 0) (pe_lst (pa_cons (pe_tup (pa_cons (pe_tup (pa_cons pe_str (pa_cons (pv 11) pa_nil))) (pa_cons (pe_lst (pa_cons (pe_tup (pa_cons pe_str (pa_cons (pv 11) pa_nil))) pa_nil)) (pa_cons pe_int (pa_cons pe_int (pa_cons pe_int pa_nil)))))) pa_nil)))))) pss_nil)
  (pss_cons (ps_set (i := 8) sc.nd rfl (by first | exact Or.inl rfl | exact Or.inr rfl) (pe_op (op_bin .sub) (pe_op (op_bin .mod) (pv 6) pe_int) pe_int))
  (pss_one (ps_ret (pe_op (op_bin .add) (pv 0) (pe_lst (pa_cons (pe_tup (pa_cons (pe_tup (pa_cons pe_str (pa_cons (pv 8) pa_nil))) (pa_cons (pe_lst (pa_cons (pe_tup (pa_cons pe_str (pa_cons (pv 8) pa_nil))) pa_nil)) (pa_cons pe_int (pa_cons pe_int (pa_cons pe_int pa_nil)))))) pa_nil)))))))))))) ?_
  show _ = rdB K (fun c => cs.getD c 0) (runF tab sub L n) _ b__law_put
  unfold b__law_put
  try simp only [rdB, rdB', rdS, rd2, rdL, rdI, rdC', rdO', Tg.rd, tgL]
  all_goals rfl
theorem ok__law_named (T : Txt K mg fs fd cs) (I : Ih P w K mg base fs fd cs L n) : FnR P w K mg base (L2.CX P w) (n + 1) (fs 59) (fd 59) ps__law_named (spOf K (fun c => cs.getD c 0) (runF tab sub L (n + 1)) 59) := by
  refine fnR_step (exOk T) T.F59 sc__law_named (d := d__law_named) rfl rfl rfl (by decide) fun cdv A outer s H E hr => ?_
  have sc := sc__law_named
  have hu := hr.cmp
  have tk0 : Takes (cxOf (L2.CX P w) P w K mg base nm__law_named "_law_named" (defScope st__law_named) (fs 59) cdv A outer s H E) (fun cls d _ H => E cls d H) := takes_of rfl rfl rfl rfl
  have hp : PassesOwn (model P w) (A.deeper (envOfC "_law_named" (defScope st__law_named) s.heap.objs.size (fs 59) cdv)) (envOfC "_law_named" (defScope st__law_named) s.heap.objs.size (fs 59) cdv) (cxOf (L2.CX P w) P w K mg base nm__law_named "_law_named" (defScope st__law_named) (fs 59) cdv A outer s H E).xe := passes_of (X := cxOf (L2.CX P w) P w K mg base nm__law_named "_law_named" (defScope st__law_named) (fs 59) cdv A outer s H E) rfl
  refine pss_as ((pss_cons (ps_if (PW.pt (pw_or (pt_cmpR (op_cmp hu .eq) (pe_ix ix_seq (pv 0) pe_int (fun _ _ => rfl)) pe_str (nomark _)) (pw_or1 (pt_cmpR (op_cmp hu .eq) (pe_ix ix_seq (pv 0) pe_int (fun _ _ => rfl)) pe_str (nomark _))))) (pss_one (ps_ret (pv 0))) pss_nil)
  (pss_cons (ps_if (pt_cmpR (op_cmp hu .eq) (pe_ix ix_seq (pv 0) pe_int (fun _ _ => rfl)) pe_str (nomark _)) (pss_one (ps_ret (pe_tup (pa_cons pe_str (pa_cons (pe_ix ix_seq (pv 1) (pe_ix ix_seq (pv 0) pe_int (fun _ _ => rfl)) (fun _ _ => rfl)) (pa_cons (pe_callTy call_tuple_of (by rfl) T.b_tuple (by decide +kernel) (pa_cons (pe_lc (own := [("_law_part", 2)]) (g := (gName 2)) (te := (rd2 K (fun c => cs.getD c 0) (runF tab sub L n) noW (.call 59 [.var 2, .var 1])).1) rfl sc.nd (pi_tup (pe_ix ix_seq (pv 0) pe_int (fun _ _ => rfl))) (blkOk_by (own := [("_law_part", 2)]) (N := nm__law_named) (sc := defScope st__law_named) (by decide +kernel)) (fun _ _ _ _ _ => (pg_name (i := 2) sc.nd rfl (by first | exact Or.inl rfl | exact Or.inr rfl))) (fun _ _ _ _ _ => pts_nil) (fun _ _ _ _ _ => pe_as (pe_R I.f59 hr rfl T.g59 T.F59.kp T.b59 (fun _ => noPass) (pa_cons (pv 2) (pa_cons (pv 1) pa_nil))) rfl)) pa_nil)) pa_nil)))))) pss_nil)
  (pss_cons (ps_if (pt_cmpR (op_cmp hu .eq) (pe_ix ix_seq (pv 0) pe_int (fun _ _ => rfl)) pe_str (nomark _)) (pss_one (ps_ret (pe_tup (pa_cons pe_str (pa_cons (pe_ix ix_seq (pv 0) pe_int (fun _ _ => rfl)) (pa_cons (pe_R I.f59 hr rfl T.g59 T.F59.kp T.b59 (fun σ => passAt tk0 σ) (pa_cons (pe_ix ix_seq (pv 0) pe_int (fun _ _ => rfl)) (pa_cons (pv 1) pa_nil))) (pa_cons (pe_R I.f59 hr rfl T.g59 T.F59.kp T.b59 (fun σ => passAt tk0 σ) (pa_cons (pe_ix ix_seq (pv 0) pe_int (fun _ _ => rfl)) (pa_cons (pv 1) pa_nil))) pa_nil))))))) pss_nil)
  (pss_one (ps_ret (pe_op (op_bin .add) (pe_tup (pa_cons (pe_ix ix_seq (pv 0) pe_int (fun _ _ => rfl)) pa_nil)) (pe_callTy call_tuple_of (by rfl) T.b_tuple (by decide +kernel) (pa_cons (pe_lc (own := [("_law_part", 2)]) (g := (gName 2)) (te := (rd2 K (fun c => cs.getD c 0) (runF tab sub L n) noW (.call 59 [.var 2, .var 1])).1) rfl sc.nd (pi_tup (pe_slice sl_slc (pv 0) (po_some pe_int) po_none)) (blkOk_by (own := [("_law_part", 2)]) (N := nm__law_named) (sc := defScope st__law_named) (by decide +kernel)) (fun _ _ _ _ _ => (pg_name (i := 2) sc.nd rfl (by first | exact Or.inl rfl | exact Or.inr rfl))) (fun _ _ _ _ _ => pts_nil) (fun _ _ _ _ _ => pe_as (pe_R I.f59 hr rfl T.g59 T.F59.kp T.b59 (fun _ => noPass) (pa_cons (pv 2) (pa_cons (pv 1) pa_nil))) rfl)) pa_nil))))))))) ?_
  show _ = rdB K (fun c => cs.getD c 0) (runF tab sub L n) _ b__law_named
  unfold b__law_named
  try simp only [rdB, rdB', rdS, rd2, rdL, rdI, rdC', rdO', Tg.rd, tgL]
  all_goals rfl
theorem ok__law_ready (T : Txt K mg fs fd cs) (I : Ih P w K mg base fs fd cs L n) : FnR P w K mg base (L2.CX P w) (n + 1) (fs 60) (fd 60) ps__law_ready (spOf K (fun c => cs.getD c 0) (runF tab sub L (n + 1)) 60) := by
  refine fnR_step (exOk T) T.F60 sc__law_ready (d := d__law_ready) rfl rfl rfl (by decide) fun cdv A outer s H E hr => ?_
  have sc := sc__law_ready
  have hu := hr.cmp
  have tk0 : Takes (cxOf (L2.CX P w) P w K mg base nm__law_ready "_law_ready" (defScope st__law_ready) (fs 60) cdv A outer s H E) (fun cls d _ H => E cls d H) := takes_of rfl rfl rfl rfl
  have hp : PassesOwn (model P w) (A.deeper (envOfC "_law_ready" (defScope st__law_ready) s.heap.objs.size (fs 60) cdv)) (envOfC "_law_ready" (defScope st__law_ready) s.heap.objs.size (fs 60) cdv) (cxOf (L2.CX P w) P w K mg base nm__law_ready "_law_ready" (defScope st__law_ready) (fs 60) cdv A outer s H E).xe := passes_of (X := cxOf (L2.CX P w) P w K mg base nm__law_ready "_law_ready" (defScope st__law_ready) (fs 60) cdv A outer s H E) rfl
  refine pss_as ((pss_cons (ps_set (i := 4) sc.nd rfl (by first | exact Or.inl rfl | exact Or.inr rfl) (pe_lst pa_nil))
  (pss_cons (ps_for hp rfl (pi_list (pe_R I.f52 hr rfl T.g52 T.F52.kp T.b52 (fun σ => passAt tk0 σ) (pa_cons (pv 0) (pa_cons (pv 2) pa_nil)))) (pg_name (i := 5) sc.nd rfl (by first | exact Or.inl rfl | exact Or.inr rfl)) (pss_cons (ps_if (PW.pt (pw_and (pt_cmpR (op_cmp hu .eq) (pe_ix ix_seq (pv 5) pe_int (fun _ _ => rfl)) pe_str (nomark _)) (pw_and1 (pt_val (pe_callB call_isi (by rfl) T.b_isinstance (by decide +kernel) (pa_cons (pe_ix ix_seq (pv 5) pe_int (fun _ _ => rfl)) (pa_cons (pe_bltn (v := .ty "str") (by rfl) T.b_str (by decide +kernel) rfl) pa_nil))))))) (pss_one (ps_set (i := 5) sc.nd rfl (by first | exact Or.inl rfl | exact Or.inr rfl) (pe_tup (pa_cons pe_str (pa_cons (pe_bm PySem.F.plainAttrs_list PySem.F.slot_list_index PySem.F.type_list_index mt_index (pv 1) (pa_cons (pe_ix ix_seq (pv 5) pe_int (fun _ _ => rfl)) pa_nil)) pa_nil))))) pss_nil)
  (pss_cons (ps_if (pt_cmpR (op_cmp hu .eq) (pe_ix ix_seq (pv 5) pe_int (fun _ _ => rfl)) pe_str (nomark _)) (pss_one (ps_set (i := 5) sc.nd rfl (by first | exact Or.inl rfl | exact Or.inr rfl) (pe_tup (pa_cons pe_str (pa_cons (pe_ix ix_seq (pe_ix ix_seq (pv 3) (pe_ix ix_seq (pv 5) pe_int (fun _ _ => rfl)) (fun _ _ => rfl)) pe_int (fun _ _ => rfl)) (pa_cons (pe_ix ix_seq (pe_ix ix_seq (pv 3) (pe_ix ix_seq (pv 5) pe_int (fun _ _ => rfl)) (fun _ _ => rfl)) pe_int (fun _ _ => rfl)) (pa_cons (pe_ix ix_seq (pe_ix ix_seq (pv 3) (pe_ix ix_seq (pv 5) pe_int (fun _ _ => rfl)) (fun _ _ => rfl)) pe_int (fun _ _ => rfl)) pa_nil))))))) pss_nil)
  (pss_one (ps_expr (pe_bm PySem.F.plainAttrs_list PySem.F.slot_list_append PySem.F.type_list_append mt_append (pv 4) (pa_cons (pv 5) pa_nil)))))))
  (pss_one (ps_ret (pe_op (op_bin .add) (pv 4) (pe_lst (pa_cons (pe_tup (pa_cons pe_str pa_nil)) pa_nil)))))))) ?_
  show _ = rdB K (fun c => cs.getD c 0) (runF tab sub L n) _ b__law_ready
  unfold b__law_ready
  try simp only [rdB, rdB', rdS, rd2, rdL, rdI, rdC', rdO', Tg.rd, tgL]
  all_goals rfl
theorem ok__law_row (T : Txt K mg fs fd cs) (I : Ih P w K mg base fs fd cs L n) : FnR P w K mg base (L2.CX P w) (n + 1) (fs 61) (fd 61) ps__law_row (spOf K (fun c => cs.getD c 0) (runF tab sub L (n + 1)) 61) := by
  refine fnR_step (exOk T) T.F61 sc__law_row (d := d__law_row) rfl rfl rfl (by decide) fun cdv A outer s H E hr => ?_
  have sc := sc__law_row
  have hu := hr.cmp
  have tk0 : Takes (cxOf (L2.CX P w) P w K mg base nm__law_row "_law_row" (defScope st__law_row) (fs 61) cdv A outer s H E) (fun cls d _ H => E cls d H) := takes_of rfl rfl rfl rfl
  have hp : PassesOwn (model P w) (A.deeper (envOfC "_law_row" (defScope st__law_row) s.heap.objs.size (fs 61) cdv)) (envOfC "_law_row" (defScope st__law_row) s.heap.objs.size (fs 61) cdv) (cxOf (L2.CX P w) P w K mg base nm__law_row "_law_row" (defScope st__law_row) (fs 61) cdv A outer s H E).xe := passes_of (X := cxOf (L2.CX P w) P w K mg base nm__law_row "_law_row" (defScope st__law_row) (fs 61) cdv A outer s H E) rfl
  refine pss_as ((pss_cons (ps_if (PW.pt (pw_or (pt_not (pt_val (pe_callB call_isi (by rfl) T.b_isinstance (by decide +kernel) (pa_cons (pv 0) (pa_cons (pe_bltn (v := .ty "tuple") (by rfl) T.b_tuple (by decide +kernel) rfl) pa_nil))))) (pw_or1 (pt_cmpR (op_cmp hu .ne) (pv 0) (pv 1) (nomark _))))) (pss_one (ps_ret pe_bl)) pss_nil)
  (pss_cons (ps_for hp rfl (pi_tup (pe_slice sl_slc (pv 0) (po_some pe_int) po_none)) (pg_name (i := 2) sc.nd rfl (by first | exact Or.inl rfl | exact Or.inr rfl)) (pss_one (ps_if (PW.pt (pw_or (pt_val (pe_callB call_isi (by rfl) T.b_isinstance (by decide +kernel) (pa_cons (pv 2) (pa_cons (pe_bltn (v := .ty "bool") (by rfl) T.b_bool (by decide +kernel) rfl) pa_nil)))) (pw_or1 (PW.pt (pw_and (pt_not (pt_val (pe_callB call_isi (by rfl) T.b_isinstance (by decide +kernel) (pa_cons (pv 2) (pa_cons (pe_bltn (v := .ty "int") (by rfl) T.b_int (by decide +kernel) rfl) pa_nil))))) (pw_and1 (pt_not (pt_val (pe_callB call_isi (by rfl) T.b_isinstance (by decide +kernel) (pa_cons (pv 2) (pa_cons (pe_bltn (v := .ty "str") (by rfl) T.b_str (by decide +kernel) rfl) pa_nil))))))))))) (pss_one (ps_ret pe_bl)) pss_nil)))
  (pss_one (ps_ret pe_bl))))) ?_
  show _ = rdB K (fun c => cs.getD c 0) (runF tab sub L n) _ b__law_row
  unfold b__law_row
  try simp only [rdB, rdB', rdS, rd2, rdL, rdI, rdC', rdO', Tg.rd, tgL]
  all_goals rfl
theorem ok_law (T : Txt K mg fs fd cs) (I : Ih P w K mg base fs fd cs L n) : FnR P w K mg base (L2.CX P w) (n + 1) (fs 62) (fd 62) ps_law (spOf K (fun c => cs.getD c 0) (runF tab sub L (n + 1)) 62) := by
  refine fnR_step (exOk T) T.F62 sc_law (d := d_law) rfl rfl rfl (by decide) fun cdv A outer s H E hr => ?_
  have sc := sc_law
  have hu := hr.cmp
  have tk0 : Takes (cxOf (L2.CX P w) P w K mg base nm_law "law" (defScope st_law) (fs 62) cdv A outer s H E) (fun cls d _ H => E cls d H) := takes_of rfl rfl rfl rfl
  have hp : PassesOwn (model P w) (A.deeper (envOfC "law" (defScope st_law) s.heap.objs.size (fs 62) cdv)) (envOfC "law" (defScope st_law) s.heap.objs.size (fs 62) cdv) (cxOf (L2.CX P w) P w K mg base nm_law "law" (defScope st_law) (fs 62) cdv A outer s H E).xe := passes_of (X := cxOf (L2.CX P w) P w K mg base nm_law "law" (defScope st_law) (fs 62) cdv A outer s H E) rfl
  refine pss_as ((pss_cons (ps_set (i := 1) sc.nd rfl (by first | exact Or.inl rfl | exact Or.inr rfl) (pe_op (op_bin .mod) (pe_R I.f50 hr rfl T.g50 T.F50.kp T.b50 (fun σ => passAt tk0 σ) (pa_cons (pv 0) (pa_cons pe_int pa_nil))) pe_int))
  (pss_cons (ps_setLc (i := 2) (own := [("_law_k", 6)]) (g := (gName 6)) (te := (rd2 K (fun c => cs.getD c 0) (runF tab sub L n) noW (.call 51 [.call 50 [.var 0, .cst (.int 1)], .var 6])).1) rfl sc.nd rfl rfl (sw_true rfl rfl rfl (by decide +kernel)) (pi_range1 (by rfl) T.b_range (pa_cons (pe_op (op_bin .add) (pv 1) pe_int) pa_nil)) (blkOk_by (own := [("_law_k", 6)]) (N := nm_law) (sc := defScope st_law) (by decide +kernel)) (fun _ _ _ _ _ => (pg_name (i := 6) sc.nd rfl (by first | exact Or.inl rfl | exact Or.inr rfl))) (fun _ _ _ _ _ => pts_nil) (fun _ _ _ _ _ => pe_as (pe_R I.f51 hr rfl T.g51 T.F51.kp T.b51 (fun _ => noPass) (pa_cons (pe_R I.f50 hr rfl T.g50 T.F50.kp T.b50 (fun _ => noPass) (pa_cons (pv 0) (pa_cons pe_int pa_nil))) (pa_cons (pv 6) pa_nil))) rfl))
  (pss_cons (ps_set (i := 3) sc.nd rfl (by first | exact Or.inl rfl | exact Or.inr rfl) (pe_cmpR (op_cmp hu .eq) (pe_op (op_bin .mod) (pe_op (op_bin .fdiv) (pe_R I.f50 hr rfl T.g50 T.F50.kp T.b50 (fun σ => passAt tk0 σ) (pa_cons (pv 0) (pa_cons pe_int pa_nil))) pe_int) pe_int) pe_int (nomark _)))
  (pss_cons (ps_set (i := 4) sc.nd rfl (by first | exact Or.inl rfl | exact Or.inr rfl) (pe_tup (pa_cons (pe_tup (pa_cons pe_str (pa_cons pe_int pa_nil))) (pa_cons (pe_lst (pa_cons (pe_tup (pa_cons pe_str (pa_cons pe_int pa_nil))) pa_nil)) (pa_cons pe_int (pa_cons pe_int (pa_cons pe_int pa_nil)))))))
  (pss_cons (ps_set (i := 5) sc.nd rfl (by first | exact Or.inl rfl | exact Or.inr rfl) (pe_lst (pa_cons (pv 4) pa_nil)))
  (pss_cons (ps_for hp rfl (pi_range2 (by rfl) T.b_range (pa_cons pe_int (pa_cons (pe_callB (call_min2 rfl) (by rfl) T.b_min (by decide +kernel) (pa_cons (pe_callB call_len (by rfl) T.b_len (by decide +kernel) (pa_cons (pv 0) pa_nil)) (pa_cons pe_int pa_nil))) pa_nil))) (pg_name (i := 6) sc.nd rfl (by first | exact Or.inl rfl | exact Or.inr rfl)) (pss_one (ps_set (i := 5) sc.nd rfl (by first | exact Or.inl rfl | exact Or.inr rfl) (pe_R I.f58 hr rfl T.g58 T.F58.kp T.b58 (fun σ => passAt tk0 σ) (pa_cons (pv 5) (pa_cons (pe_ix ix_seq (pv 0) (pv 6) (fun _ _ => rfl)) (pa_cons (pv 2) (pa_cons (pv 1) (pa_cons (pv 3) pa_nil)))))))))
  (pss_cons (ps_set (i := 7) sc.nd rfl (by first | exact Or.inl rfl | exact Or.inr rfl) (pe_R I.f56 hr rfl T.g56 T.F56.kp T.b56 (fun σ => passAt tk0 σ) (pa_cons (pe_ix ix_seq (pv 2) (pv 1) (fun _ _ => rfl)) (pa_cons (pv 1) (pa_cons (pv 4) (pa_cons (pe_R I.f56 hr rfl T.g56 T.F56.kp T.b56 (fun σ => passAt tk0 σ) (pa_cons (pe_ix ix_seq (pv 2) (pe_op (op_bin .add) (pv 1) pe_int) (fun _ _ => rfl)) (pa_cons (pv 1) (pa_cons (pv 4) (pa_cons (pe_ix ix_seq (pv 5) (pe_un un_neg pe_int) (fun _ _ => rfl)) pa_nil))))) pa_nil))))))
  (pss_cons (ps_set (i := 2) sc.nd rfl (by first | exact Or.inl rfl | exact Or.inr rfl) (pe_slice sl_slc (pv 2) po_none (po_some (pv 1))))
  (pss_cons (ps_set (i := 8) sc.nd rfl (by first | exact Or.inl rfl | exact Or.inr rfl) (pe_lst (pa_cons (pe_R I.f51 hr rfl T.g51 T.F51.kp T.b51 (fun σ => passAt tk0 σ) (pa_cons (pe_R I.f50 hr rfl T.g50 T.F50.kp T.b50 (fun σ => passAt tk0 σ) (pa_cons (pv 0) (pa_cons pe_int pa_nil))) (pa_cons pe_int pa_nil))) (pa_cons (pe_R I.f51 hr rfl T.g51 T.F51.kp T.b51 (fun σ => passAt tk0 σ) (pa_cons (pe_R I.f50 hr rfl T.g50 T.F50.kp T.b50 (fun σ => passAt tk0 σ) (pa_cons (pv 0) (pa_cons pe_int pa_nil))) (pa_cons pe_int pa_nil))) pa_nil))))
  (pss_cons (ps_set (i := 9) sc.nd rfl (by first | exact Or.inl rfl | exact Or.inr rfl) (pe_lst (pa_cons (pe_tup (pa_cons (pe_ix ix_seq (pv 8) pe_int (fun _ _ => rfl)) (pa_cons (pe_callTy call_tuple_of (by rfl) T.b_tuple (by decide +kernel) (pa_cons (pv 2) pa_nil)) (pa_cons (pe_R I.f59 hr rfl T.g59 T.F59.kp T.b59 (fun σ => passAt tk0 σ) (pa_cons (pe_ix ix_seq (pv 7) pe_int (fun _ _ => rfl)) (pa_cons (pv 8) pa_nil))) pa_nil)))) pa_nil)))
  (pss_cons (ps_set (i := 10) sc.nd rfl (by first | exact Or.inl rfl | exact Or.inr rfl) (pe_op (op_bin .mul) pe_int (pe_callTy call_int1 (by rfl) T.b_int (by decide +kernel) (pa_cons (pv 3) pa_nil))))
  (pss_cons (ps_set (i := 11) sc.nd rfl (by first | exact Or.inl rfl | exact Or.inr rfl) (pe_lst (pa_cons (pe_tup (pa_cons (pv 10) (pa_cons (pe_callB call_len (by rfl) T.b_len (by decide +kernel) (pa_cons (pv 2) pa_nil)) (pa_cons (pe_op (op_bin .add) (pe_callB call_len (by rfl) T.b_len (by decide +kernel) (pa_cons (pv 2) pa_nil)) (pe_ix ix_seq (pv 7) pe_int (fun _ _ => rfl))) (pa_cons (pe_ix ix_seq (pv 7) pe_int (fun _ _ => rfl)) pa_nil))))) (pa_cons (pe_tup (pa_cons pe_int (pa_cons pe_int (pa_cons pe_int (pa_cons pe_int pa_nil))))) pa_nil))))
  (pss_cons (ps_set (i := 12) sc.nd rfl (by first | exact Or.inl rfl | exact Or.inr rfl) (pe_R I.f60 hr rfl T.g60 T.F60.kp T.b60 (fun σ => passAt tk0 σ) (pa_cons (pe_ix ix_seq (pv 7) pe_int (fun _ _ => rfl)) (pa_cons (pv 2) (pa_cons (pv 10) (pa_cons (pv 11) pa_nil))))))
  (pss_cons (ps_set (i := 13) sc.nd rfl (by first | exact Or.inl rfl | exact Or.inr rfl) (pe_lst (pa_cons (pe_tup (pa_cons (pe_ix ix_seq (pv 8) pe_int (fun _ _ => rfl)) (pa_cons (pe_ix ix_seq (pv 11) pe_int (fun _ _ => rfl)) pa_nil))) pa_nil)))
  (pss_cons (ps_if (pt_val (pv 3)) (pss_cons (ps_set (i := 9) sc.nd rfl (by first | exact Or.inl rfl | exact Or.inr rfl) (pe_op (op_bin .add) (pe_lst (pa_cons (pe_tup (pa_cons (pe_ix ix_seq (pv 8) pe_int (fun _ _ => rfl)) (pa_cons (pe_tup (pa_cons pe_str (pa_cons pe_str pa_nil))) (pa_cons (pe_tup (pa_cons pe_str (pa_cons pe_str pa_nil))) pa_nil)))) pa_nil)) (pv 9)))
  (pss_cons (ps_set (i := 12) sc.nd rfl (by first | exact Or.inl rfl | exact Or.inr rfl) (pe_op (op_bin .add) (pe_lst (pa_cons (pe_tup (pa_cons pe_str (pa_cons pe_int pa_nil))) (pa_cons (pe_tup (pa_cons pe_str pa_nil)) pa_nil))) (pv 12)))
  (pss_one (ps_set (i := 13) sc.nd rfl (by first | exact Or.inl rfl | exact Or.inr rfl) (pe_op (op_bin .add) (pe_lst (pa_cons (pe_tup (pa_cons (pe_ix ix_seq (pv 8) pe_int (fun _ _ => rfl)) (pa_cons (pe_ix ix_seq (pv 11) pe_int (fun _ _ => rfl)) pa_nil))) pa_nil)) (pv 13)))))) pss_nil)
  (pss_cons (ps_set (i := 14) sc.nd rfl (by first | exact Or.inl rfl | exact Or.inr rfl) (pe_callTy call_list_of (by rfl) T.b_list (by decide +kernel) (pa_cons (pv 9) pa_nil)))
  (pss_cons (ps_for hp rfl (pi_range1 (by rfl) T.b_range (pa_cons pe_int pa_nil)) (pg_name (i := 15) sc.nd rfl (by first | exact Or.inl rfl | exact Or.inr rfl)) (pss_cons (ps_set (i := 16) sc.nd rfl (by first | exact Or.inl rfl | exact Or.inr rfl) (pe_R I.f31 hr rfl T.g31 T.F31.kp T.b31 (fun σ => passAt tk0 σ) (pa_cons (pv 14) pa_nil)))
  (pss_cons (ps_if (PW.pt (pw_or (pt_not (pt_val (pe_callB (C8.call_isC T.ic11) (by rfl) T.b_isinstance (by decide +kernel) (pa_cons (pv 16) (pa_cons (pe_glob (v := .ref (clK K 11)) rfl T.g30 rfl) pa_nil))))) (pw_or (pt_not (pt_val (pe_callB call_isi (by rfl) T.b_isinstance (by decide +kernel) (pa_cons (pe_fld (pv 16) rfl) (pa_cons (pe_bltn (v := .ty "list") (by rfl) T.b_list (by decide +kernel) rfl) pa_nil))))) (pw_or1 (pt_cmpR (op_cmp hu .ne) (pe_callB call_len (by rfl) T.b_len (by decide +kernel) (pa_cons (pe_fld (pv 16) rfl) pa_nil)) (pe_callB call_len (by rfl) T.b_len (by decide +kernel) (pa_cons (pv 12) pa_nil)) (nomark _)))))) (pss_one (ps_ret pe_bl)) pss_nil)
  (pss_cons (ps_for hp rfl (pi_zip (by rfl) T.b_zip (pa_cons (pe_fld (pv 16) rfl) (pa_cons (pv 12) pa_nil))) (pg_tup rfl (pgs_cons (pg_name (i := 17) sc.nd rfl (by first | exact Or.inl rfl | exact Or.inr rfl)) (pgs_cons (pg_name (i := 18) sc.nd rfl (by first | exact Or.inl rfl | exact Or.inr rfl)) pgs_nil))) (pss_one (ps_if (pt_not (pt_truth (pe_R I.f61 hr rfl T.g61 T.F61.kp T.b61 (fun σ => passAt tk0 σ) (pa_cons (pv 17) (pa_cons (pv 18) pa_nil))) (fun _ => rfl))) (pss_one (ps_ret pe_bl)) pss_nil)))
  (pss_one (ps_if (PW.pt (pw_or (pt_not (pt_val (pe_callB call_isi (by rfl) T.b_isinstance (by decide +kernel) (pa_cons (pe_fld (pv 16) rfl) (pa_cons (pe_bltn (v := .ty "dict") (by rfl) T.b_dict (by decide +kernel) rfl) pa_nil))))) (pw_or1 (pt_cmpR (op_cmp hu .ne) (LiI.pe_listItems rfl (pe_fld (pv 16) rfl) (by rfl) T.b_list rfl) (pv 13) (nomark _))))) (pss_one (ps_ret pe_bl)) pss_nil))))))
  (pss_one (ps_ret (pe_cmpR (op_cmp hu .eq) (pv 14) (pv 9) (nomark _)))))))))))))))))))))) ?_
  show _ = rdB K (fun c => cs.getD c 0) (runF tab sub L n) _ b_law
  unfold b_law
  try simp only [rdB, rdB', rdS, rd2, rdL, rdI, rdC', rdO', Tg.rd, tgL]
  all_goals rfl
theorem ih_all (T : Txt K mg fs fd cs) : ∀ n, Ih P w K mg base fs fd cs L n
  | 0 => ⟨fnR_zero, fnR_zero, fnR_zero, fnR_zero, fnR_zero, fnR_zero, fnR_zero, fnR_zero, fnR_zero, fnR_zero, fnR_zero, fnR_zero, fnR_zero, fnR_zero, fnR_zero, fnR_zero, fnR_zero, fnR_zero, fnR_zero, fnR_zero, fnR_zero, fnR_zero, fnR_zero, fnR_zero, fnR_zero, fnR_zero, fnR_zero, fnR_zero, fnR_zero, fnR_zero, fnR_zero, fnR_zero⟩
  | n + 1 => ⟨ok_within T (ih_all T n), ok_checked T (ih_all T n), ok_counts_of T (ih_all T n), ok_check_takes T (ih_all T n), ok_check_tree T (ih_all T n), ok_check_name T (ih_all T n), ok_check_call T (ih_all T n), ok_scoped T (ih_all T n), ok_Code___init__ T (ih_all T n), ok_smithed T (ih_all T n), ok_starts_of T (ih_all T n), ok_length T (ih_all T n), ok_most_lets T (ih_all T n), ok_height T (ih_all T n), ok_slot_of T (ih_all T n), ok_add_rows T (ih_all T n), ok_add_parts T (ih_all T n), ok_add_choose T (ih_all T n), ok_add_let T (ih_all T n), ok__law_cell_at T (ih_all T n), ok__law_word T (ih_all T n), ok__law_moved T (ih_all T n), ok__law_within T (ih_all T n), ok__law_chosen T (ih_all T n), ok__law_joined T (ih_all T n), ok__law_let T (ih_all T n), ok__law_made T (ih_all T n), ok__law_put T (ih_all T n), ok__law_named T (ih_all T n), ok__law_ready T (ih_all T n), ok__law_row T (ih_all T n), ok_law T (ih_all T n)⟩
end
end K05
end

section
set_option Elab.async false
set_option linter.all false
set_option maxRecDepth 100000
set_option maxHeartbeats 2000000
namespace K05
open PySem PySem.Spec PyProof.Rows L2 PVL PVLP
theorem ws5 : (Str.ofString "push" == Str.ofString "unless") = false ∧ (Str.ofString "load" == Str.ofString "unless") = false ∧ (Str.ofString "keep" == Str.ofString "unless") = false ∧ (Str.ofString "do" == Str.ofString "unless") = false ∧ (Str.ofString "skip" == Str.ofString "unless") = false ∧ (Str.ofString "call" == Str.ofString "unless") = false
    ∧ (Str.ofString "push" == Str.ofString "skip") = false ∧ (Str.ofString "load" == Str.ofString "skip") = false ∧ (Str.ofString "keep" == Str.ofString "skip") = false ∧ (Str.ofString "do" == Str.ofString "skip") = false ∧ (Str.ofString "unless" == Str.ofString "skip") = false ∧ (Str.ofString "call" == Str.ofString "skip") = false
    ∧ (Str.ofString "push" == Str.ofString "load") = false ∧ (Str.ofString "keep" == Str.ofString "load") = false ∧ (Str.ofString "do" == Str.ofString "load") = false ∧ (Str.ofString "unless" == Str.ofString "load") = false ∧ (Str.ofString "skip" == Str.ofString "load") = false ∧ (Str.ofString "call" == Str.ofString "load") = false
    ∧ (Str.ofString "push" == Str.ofString "keep") = false ∧ (Str.ofString "load" == Str.ofString "keep") = false ∧ (Str.ofString "do" == Str.ofString "keep") = false ∧ (Str.ofString "unless" == Str.ofString "keep") = false ∧ (Str.ofString "skip" == Str.ofString "keep") = false ∧ (Str.ofString "call" == Str.ofString "keep") = false
    ∧ (Str.ofString "push" == Str.ofString "call") = false ∧ (Str.ofString "load" == Str.ofString "call") = false ∧ (Str.ofString "do" == Str.ofString "call") = false ∧ (Str.ofString "unless" == Str.ofString "call") = false ∧ (Str.ofString "skip" == Str.ofString "call") = false ∧ (Str.ofString "keep" == Str.ofString "call") = false := by decide +kernel
def cell (ns : List Int) (k : Nat) : Int := ns.getD k 0
variable {L : Nat}
theorem cell_at_eq (n : Nat) (ns : List Int) (k : Nat) (μ : Store) : runF tab sub L (n+1) 50 [.list (ns.map PyData.int), .int k] μ = .ok (.int (cell ns k)) μ := by
  unfold runF
  simp only [tab, d__law_cell_at, b__law_cell_at]
  simp -implicitDefEqProofs [enter]
  by_cases h : k < ns.length
  · simp -implicitDefEqProofs [h, atI_cast, cell]
  · simp -implicitDefEqProofs [h, cell]
theorem w_eq (n : Nat) (c o : Int) (μ : Store) : runF tab sub L (n + 1) 51 [.int c, .int o] μ = .ok (.str (word c o)) μ := by
  unfold runF
  exact word_eq (runF tab sub L n) sub L c o μ
theorem moved_eq (c1 : Str) (n : Nat) (rows : List LRow) (k : Nat) (hl : rows.length < 1000000) (μ : Store) :
    runF tab sub L (n + 1) 52 [.list (rows.map (lrD c1)), .int (k : Nat)] μ = .ok (.list ((rows.map (mv k)).map (lrD c1))) μ := by
  unfold runF
  simp only [tab, d__law_moved, b__law_moved]
  obtain ⟨e, m', h1, ⟨x, h2⟩, h3⟩ := fLoop_inv (en := lrD c1) (tg := .nm 3) (f := fun e m' => runB (runF tab sub L n) sub L [.iff (.or (.cmp .eq (.idx (.var 3) (.cst (.int 0))) (.cst (.str "unless"))) (.cmp .eq (.idx (.var 3) (.cst (.int 0))) (.cst (.str "skip")))) [.app 2 (.tup [.idx (.var 3) (.cst (.int 0)), .bin .add (.idx (.var 3) (.cst (.int 1))) (.var 1)])] [.app 2 (.var 3)]] e m') (l := rows)
    (fun d env m => (∃ x, env = [.pv (.list (rows.map (lrD c1))), .pv (.int (k : Nat)), .ow ((d.map (mv k)).map (lrD c1)), x]) ∧ m = μ)
    (fun d r rs e env m' ⟨⟨x, he⟩, hm⟩ => by
      subst he hm
      refine ⟨_, rfl, ?_⟩
      have hd : d.length < 1000000 := by
        rw [e] at hl
        simp at hl
        omega
      refine ⟨[.pv (.list (rows.map (lrD c1))), .pv (.int (k : Nat)), .ow (((d ++ [r]).map (mv k)).map (lrD c1)), .pv (lrD c1 r)], _, ?_, ⟨_, rfl⟩, rfl⟩
      cases r with
      | dod w => cases w <;> simp -implicitDefEqProofs [lrD, mv, ws5, hd, lim, W5.str]
      | _ => simp -implicitDefEqProofs [lrD, mv, ws5, hd, lim])
    [.pv (.list (rows.map (lrD c1))), .pv (.int (k : Nat)), .ow [], .un] μ ⟨⟨_, rfl⟩, rfl⟩
  subst h2 h3
  simp -implicitDefEqProofs at h1
  simp -implicitDefEqProofs [enter, runS_for, h1]
theorem within_eq5 (c1 x : Str) (tk n : Nat) (rows : List LRow) (hl : rows.length < 1000000) (μ : Store) :
    runF tab sub L (n + 1) 53 [.list (rows.map (lrD c1)), .str x, .int (tk : Nat)] μ = .ok (.list ((rows.map (wi x tk)).map (lrD c1))) μ := by
  unfold runF
  simp only [tab, d__law_within, b__law_within]
  obtain ⟨e, m', h1, ⟨y, h2⟩, h3⟩ := fLoop_inv (en := lrD c1) (tg := .nm 4) (f := fun e m' => runB (runF tab sub L n) sub L [.iff (.and (.cmp .eq (.idx (.var 4) (.cst (.int 0))) (.cst (.str "load"))) (.cmp .eq (.idx (.var 4) (.cst (.int 1))) (.var 1))) [.app 3 (.tup [.cst (.str "load"), .var 2])] [.iff (.and (.or (.cmp .eq (.idx (.var 4) (.cst (.int 0))) (.cst (.str "load"))) (.cmp .eq (.idx (.var 4) (.cst (.int 0))) (.cst (.str "keep")))) (.not (.isi "str" (.idx (.var 4) (.cst (.int 1)))))) [.app 3 (.tup [.idx (.var 4) (.cst (.int 0)), .bin .add (.idx (.var 4) (.cst (.int 1))) (.cst (.int 1))])] [.app 3 (.var 4)]]] e m') (l := rows)
    (fun d env m => (∃ y, env = [.pv (.list (rows.map (lrD c1))), .pv (.str x), .pv (.int (tk : Nat)), .ow ((d.map (wi x tk)).map (lrD c1)), y]) ∧ m = μ)
    (fun d r rs e env m' ⟨⟨y, he⟩, hm⟩ => by
      subst he hm
      refine ⟨_, rfl, ?_⟩
      have hd : d.length < 1000000 := by
        rw [e] at hl
        simp at hl
        omega
      have k1 : kitB "str" "str" = some true := by decide +kernel
      have k2 : kitB "int" "str" = some false := by decide +kernel
      refine ⟨[.pv (.list (rows.map (lrD c1))), .pv (.str x), .pv (.int (tk : Nat)), .ow (((d ++ [r]).map (wi x tk)).map (lrD c1)), .pv (lrD c1 r)], _, ?_, ⟨_, rfl⟩, rfl⟩
      cases r with
      | dod w => cases w <;> simp -implicitDefEqProofs [lrD, wi, ws5, hd, lim, W5.str]
      | loadN z =>
        by_cases ez : z = x
        · subst ez
          simp -implicitDefEqProofs [lrD, wi, ws5, hd, lim]
        · simp -implicitDefEqProofs [lrD, wi, ws5, hd, lim, isiP, k1, ez]
      | load i =>
        have q : cmpP .eq (.int (i : Nat)) (.str x) = some (.bool false) := rfl
        simp -implicitDefEqProofs [lrD, wi, ws5, hd, lim, isiP, k2, q]
      | _ => simp -implicitDefEqProofs [lrD, wi, ws5, hd, lim, isiP, k2])
    [.pv (.list (rows.map (lrD c1))), .pv (.str x), .pv (.int (tk : Nat)), .ow [], .un] μ ⟨⟨_, rfl⟩, rfl⟩
  subst h2 h3
  simp -implicitDefEqProofs at h1
  simp -implicitDefEqProofs [enter, runS_for, h1]
theorem add_list (x y : List PyData) : binP .add (.list x) (.list y) = if x.length + y.length ≤ 1000000 then some (.list (x ++ y)) else none := rfl
/-- a part of the law: a tree, its rows, its levels, its height, its lets -/
def encPt (tk : Nat) (c1 : Str) (t : Tr) : PyData := .tuple [encI c1 t, .list ((lcode tk t 0 []).map (lrD c1)), .int (tall t : Nat), .int (hgt t : Nat), .int (lets t : Nat)]
theorem let_eq (c1 x : Str) (tk n : Nat) (a b : Tr) (hl : len a + len b < 900000) (μ : Store) :
    runF tab sub L (n + 2) 56 [.str x, .int (tk : Nat), encPt tk c1 a, encPt tk c1 b] μ = .ok (encPt tk c1 (.lett x a b)) μ := by
  unfold runF
  simp only [tab, d__law_let, b__law_let]
  have hw := within_eq5 (L := L) c1 x tk n (lcode tk b 0 []) (by rw [lcode_len]; omega) μ
  have hm := moved_eq (L := L) c1 n (lcode tk b 0 [x]) (len a + 1) (by rw [lcode_len]; omega) μ
  rw [wi_lcode] at hw
  rw [mv_lcode] at hm
  simp -implicitDefEqProofs at hm
  have q1 : len a + 1 ≤ 1000000 := by omega
  have q2 : len a + (len b + 1) ≤ 1000000 := by omega
  have q3 : len a + (1 + len b) ≤ 1000000 := by omega
  have e1 : ((max (tall a) (tall b) : Nat) : Int) = max (tall a : Int) (tall b : Int) := by omega
  have e2 : ((max (hgt a) (hgt b) : Nat) : Int) = max (hgt a : Int) (hgt b : Int) := by omega
  have e3 : ((max (lets a) (1 + lets b) : Nat) : Int) = max (lets a : Int) (1 + (lets b : Int)) := by omega
  simp -implicitDefEqProofs [enter, encPt, lim, add_list, lcode_len, q1, q2, q3, hw, hm, max2_eq, encI, lcode, lrD, tall, hgt, lets, e1, e2, e3, Nat.add_assoc]
theorem chosen_eq (c1 : Str) (tk n : Nat) (c a b : Tr) (hl : len c + len a + len b < 900000) (μ : Store) :
    runF tab sub L (n + 2) 54 [.list [encPt tk c1 c, encPt tk c1 a, encPt tk c1 b]] μ = .ok (.list ((lcode tk (.choose c a b) 0 []).map (lrD c1))) μ := by
  unfold runF
  simp only [tab, d__law_chosen, b__law_chosen]
  have h1 := moved_eq (L := L) c1 n (lcode tk a 0 []) (len c + 1) (by rw [lcode_len]; omega) μ
  have h2 := moved_eq (L := L) c1 n (lcode tk b 0 []) (len c + (1 + (len a + 1))) (by rw [lcode_len]; omega) μ
  rw [mv_lcode] at h1 h2
  have q1 : len c + 1 ≤ 1000000 := by omega
  have q2 : len c + (1 + len a) ≤ 1000000 := by omega
  have q3 : len c + (1 + (len a + 1)) ≤ 1000000 := by omega
  have q4 : len c + (1 + (len a + (1 + len b))) ≤ 1000000 := by omega
  have q5 : len c + (len a + 2) ≤ 1000000 := by omega
  have q6 : len c + (len a + (2 + len b)) ≤ 1000000 := by omega
  have q7 : len c + (len a + (len b + 2)) ≤ 1000000 := by omega
  simp -implicitDefEqProofs at h1 h2
  simp -implicitDefEqProofs [enter, encPt, lim, add_list, lcode_len, q1, q2, q3, q4, q5, q6, q7, h1, h2, lcode, lrD, Nat.add_assoc, Int.add_assoc]
theorem fLoop_enum {α : Type} (en : α → PyData) {tg : Tg} {f : List SV → Store → Out} {l : List α} (I : List α → List SV → Store → Prop)
    (h : ∀ (d : List α) (x : α) (r : List α), l = d ++ x :: r → ∀ env μ, I d env μ → ∃ e1, tg.put (.tuple [.int (d.length : Nat), en x]) env = some e1 ∧ ∃ e m, f e1 μ = .nx e m ∧ I (d ++ [x]) e m) :
    ∀ (env : List SV) (μ : Store), I [] env μ → ∃ e m, fLoop tg f (enumD 0 (l.map en)) env μ = .nx e m ∧ I l e m := by
  have key : ∀ (r d : List α), l = d ++ r → ∀ env μ, I d env μ → ∃ e m, fLoop tg f (enumD d.length (r.map en)) env μ = .nx e m ∧ I l e m := by
    intro r
    induction r with
    | nil =>
      intro d e env μ i
      rw [List.append_nil] at e
      subst e
      exact ⟨env, μ, rfl, i⟩
    | cons x r ih =>
      intro d e env μ i
      obtain ⟨e1, h1, e2, m2, h2, i2⟩ := h d x r e env μ i
      obtain ⟨e3, m3, h3, i3⟩ := ih (d ++ [x]) (by rw [e]; simp) e2 m2 i2
      refine ⟨e3, m3, ?_, i3⟩
      rw [List.length_append, List.length_singleton] at h3
      rw [List.map_cons, enumD]
      unfold fLoop
      rw [h1]
      simp only [h2]
      exact h3
  intro env μ i
  exact key l [] rfl env μ i
theorem hgtL_app : ∀ (d : List Tr) (x : Tr) (i : Nat), hgtL i (d ++ [x]) = max (hgtL i d) (i + d.length + hgt x)
  | [], x, i => by simp [hgtL]
  | t :: d, x, i => by
    rw [List.cons_append, hgtL, hgtL, hgtL_app d x (i + 1), List.length_cons]
    have : i + 1 + d.length + hgt x = i + (d.length + 1) + hgt x := by omega
    rw [this]
    omega
theorem max0 {α : Type} (f : α → Nat) (l : List α) : biP .maxL [.list (.int 0 :: l.map fun t => PyData.int (f t : Nat))] = some (.int (maxN (l.map f) : Nat)) := by
  have e : (PyData.int 0 :: l.map fun t => PyData.int (f t : Nat)) = (0 :: l.map f).map fun k : Nat => PyData.int (k : Nat) := by
    rw [List.map_cons, List.map_map]
    rfl
  rw [e, maxL_N (fun k : Nat => k) (by simp)]
  simp [maxN]
  rfl
theorem joined_eq (c1 : Str) (tk n : Nat) (ts : List Tr) (row : PyData) (hl : lenL ts < 900000) (hc : ts.length ≤ 1000) (μ : Store) :
    runF tab sub L (n + 2) 55 [.list (ts.map (encPt tk c1)), row] μ = .ok (.tuple [.list ((lcodeL tk ts 0 []).map (lrD c1) ++ [row]), .int (max 1 (hgtL 0 ts) : Nat), .int (letsL ts : Nat)]) μ := by
  unfold runF
  simp only [tab, d__law_joined, b__law_joined]
  obtain ⟨e, m', h1, ⟨x, y, z, h2⟩, h3⟩ := fLoop_enum (en := encPt tk c1) (tg := .tp [4, 5]) (f := fun e m' => runB (runF tab sub L (n + 1)) sub L [.asg 2 (.bin .add (.var 2) (.call 52 [.idx (.var 5) (.cst (.int 1)), .bi .len [.var 2]])), .asg 3 (.bi .max2 [.var 3, .bin .add (.var 4) (.idx (.var 5) (.cst (.int 3)))])] e m') (l := ts)
    (fun d env m => (∃ x y z, env = [.pv (.list (ts.map (encPt tk c1))), .pv row, .pv (.list ((lcodeL tk d 0 []).map (lrD c1))), .pv (.int (max 1 (hgtL 0 d) : Nat)), x, y] ∧ z = 0) ∧ m = μ)
    (fun d t r e env m' ⟨⟨x, y, z, he, _⟩, hm⟩ => by
      subst he hm
      refine ⟨_, rfl, ?_⟩
      have hd : lenL d + len t ≤ lenL ts := by
        rw [e, lenL_app, lenL]
        omega
      have hm := moved_eq (L := L) c1 n (lcode tk t 0 []) (lenL d) (by rw [lcode_len]; omega) m'
      rw [mv_lcode] at hm
      have q1 : lenL d + len t ≤ 1000000 := by omega
      have e1 : ((max 1 (hgtL 0 (d ++ [t])) : Nat) : Int) = max (max (1 : Int) (hgtL 0 d : Int)) ((d.length : Int) + (hgt t : Int)) := by
        rw [hgtL_app]
        omega
      have e2 : ((max 1 (hgtL 0 d) : Nat) : Int) = max (1 : Int) (hgtL 0 d : Int) := by omega
      refine ⟨[.pv (.list (ts.map (encPt tk c1))), .pv row, .pv (.list ((lcodeL tk (d ++ [t]) 0 []).map (lrD c1))), .pv (.int (max 1 (hgtL 0 (d ++ [t])) : Nat)), .pv (.int (d.length : Nat)), .pv (encPt tk c1 t)], _, ?_, ⟨_, _, 0, rfl, rfl⟩, rfl⟩
      rw [e1, e2]
      simp -implicitDefEqProofs at hm
      simp -implicitDefEqProofs [encPt, add_list, lcode_len, lcodeL_len, hm, q1, max2_eq, lcodeL_app, lcodeL])
    [.pv (.list (ts.map (encPt tk c1))), .pv row, .pv (.list []), .pv (.int 1), .un, .un] μ ⟨⟨_, _, 0, rfl, rfl⟩, rfl⟩
  obtain ⟨h2, _⟩ := h2
  subst h2 h3
  have hcm : ev (runF tab sub L (n + 1)) (.comp (.seqL (.var 0)) (.nm 5) (.no) (.idx (.var 5) (.cst (.int 4))) [5]) [.pv (.list (ts.map (encPt tk c1))), .pv row, .pv (.list ((lcodeL tk ts 0 []).map (lrD c1))), .pv (.int (max 1 (hgtL 0 ts) : Nat)), x, y] m' = .ok (.list (ts.map fun t => .int (lets t : Nat))) m' := by
    refine comp_list (encPt tk c1) (fun t => .int (lets t : Nat)) ?_ rfl (by unfold lim; omega) (by simp) fun t _ => ⟨_, rfl, ?_⟩
    · simp -implicitDefEqProofs
    · simp -implicitDefEqProofs [encPt]
  have hmx : biP .maxL [.list (.int 0 :: ts.map fun t => PyData.int (lets t : Nat))] = some (.int (letsL ts : Nat)) := by
    rw [letsL_max]
    exact max0 lets ts
  have q1 : lenL ts + 1 ≤ 1000000 := by omega
  have q2 : 1 + ts.length ≤ 1000000 := by omega
  simp -implicitDefEqProofs at h1 hcm hmx
  simp -implicitDefEqProofs [enter, runS_for, h1, add_list, hcm, hmx, lcodeL_len, q1, q2, lim]
def w5of : Nat → W5
  | 0 => .sum
  | 1 => .less
  | 2 => .times
  | 3 => .part
  | _ => .below
/-- the first two steps of _law_made -/
structure MadeFacts (tk n : Nat) (c1 : Str) (ts : List Tr) (μ : Store) : Prop where
  a : ∀ (x1 x2 x3 x4 x5 x6 x7 x8 x9 x10 x11 : SV), ev (runF tab sub L n) (.comp (.seqL (.var 0)) (.nm 11) (.no) (.idx (.var 11) (.cst (.int 0))) [11]) [.pv (.list (ts.map (encPt tk c1))), x1, x2, x3, x4, x5, x6, x7, x8, x9, x10, x11] μ = .ok (.list (ts.map (encI c1))) μ
  b : ∀ (x1 x2 x3 x4 x5 x6 x7 x8 x9 x10 x11 : SV), ev (runF tab sub L n) (.comp (.seqL (.var 0)) (.nm 11) (.no) (.idx (.var 11) (.cst (.int 2))) [11]) [.pv (.list (ts.map (encPt tk c1))), x1, x2, x3, x4, x5, x6, x7, x8, x9, x10, x11] μ = .ok (.list (ts.map fun t => .int (tall t : Nat))) μ
  c : ∀ (x1 x2 x3 x4 x5 x6 x7 x8 x9 x10 x11 : SV), ev (runF tab sub L n) (.comp (.seqL (.var 0)) (.nm 11) (.no) (.idx (.var 11) (.cst (.int 4))) [11]) [.pv (.list (ts.map (encPt tk c1))), x1, x2, x3, x4, x5, x6, x7, x8, x9, x10, x11] μ = .ok (.list (ts.map fun t => .int (lets t : Nat))) μ
  d : ∀ (x1 x2 x3 x4 x5 x6 x7 x8 x9 x10 x11 : SV), ev (runF tab sub L n) (.comp (.seqL (.var 0)) (.nm 11) (.no) (.idx (.var 11) (.cst (.int 3))) [11]) [.pv (.list (ts.map (encPt tk c1))), x1, x2, x3, x4, x5, x6, x7, x8, x9, x10, x11] μ = .ok (.list (ts.map fun t => .int (hgt t : Nat))) μ
  e : biP .maxL [.list (.int 0 :: ts.map fun t => PyData.int (tall t : Nat))] = some (.int (tallL ts : Nat))
theorem tallL_max : ∀ l : List Tr, tallL l = maxN (l.map tall)
  | [] => rfl
  | t :: l => by
    rw [List.map_cons, tallL, tallL_max l]
    rfl
theorem madeFacts (tk n : Nat) (c1 : Str) (ts : List Tr) (hc : ts.length ≤ 1000) (μ : Store) : MadeFacts (L := L) tk n c1 ts μ := by
  refine ⟨?_, ?_, ?_, ?_, by rw [tallL_max]; exact max0 tall ts⟩
  · intro x1 x2 x3 x4 x5 x6 x7 x8 x9 x10 x11
    refine comp_list (encPt tk c1) (encI c1) ?_ rfl (by unfold lim; omega) (by simp) fun t _ => ⟨_, rfl, ?_⟩
    · simp -implicitDefEqProofs
    · simp -implicitDefEqProofs [encPt]
  · intro x1 x2 x3 x4 x5 x6 x7 x8 x9 x10 x11
    refine comp_list (encPt tk c1) (fun t => .int (tall t : Nat)) ?_ rfl (by unfold lim; omega) (by simp) fun t _ => ⟨_, rfl, ?_⟩
    · simp -implicitDefEqProofs
    · simp -implicitDefEqProofs [encPt]
  · intro x1 x2 x3 x4 x5 x6 x7 x8 x9 x10 x11
    refine comp_list (encPt tk c1) (fun t => .int (lets t : Nat)) ?_ rfl (by unfold lim; omega) (by simp) fun t _ => ⟨_, rfl, ?_⟩
    · simp -implicitDefEqProofs
    · simp -implicitDefEqProofs [encPt]
  · intro x1 x2 x3 x4 x5 x6 x7 x8 x9 x10 x11
    refine comp_list (encPt tk c1) (fun t => .int (hgt t : Nat)) ?_ rfl (by unfold lim; omega) (by simp) fun t _ => ⟨_, rfl, ?_⟩
    · simp -implicitDefEqProofs
    · simp -implicitDefEqProofs [encPt]
theorem made_deed (c1 : Str) (tk n k : Nat) (hk : k < 5) (a b : Tr) (rest nm : PyData) (hl : len a + len b < 900000) (μ : Store) :
    runF tab sub L (n + 3) 57 [.list [encPt tk c1 a, encPt tk c1 b], .int (k : Nat), rest, nm, .int (tk : Nat)] μ = .ok (encPt tk c1 (.deed (w5of k) a b)) μ := by
  unfold runF
  simp only [tab, d__law_made, b__law_made]
  have F := madeFacts (L := L) tk (n + 2) c1 [a, b] (by simp) μ
  have fa := F.a
  have fb := F.b
  have fe := F.e
  have hj := fun row => joined_eq (L := L) c1 tk n [a, b] row (by simp [lenL]; omega) (by simp) μ
  have p1 := hgt_pos a
  have e1 : max 1 (hgtL 0 [a, b]) = max (hgt a) (1 + hgt b) := by
    simp only [hgtL]
    omega
  simp -implicitDefEqProofs [lcodeL, lenL, letsL, e1, tallL] at fa fb fe hj
  have hR : encPt tk c1 (.deed (w5of k) a b) = .tuple [.tuple [.str (w5of k).str, encI c1 a, encI c1 b], .list ((lcode tk a 0 []).map (lrD c1) ++ ((lcode tk b (len a) []).map (lrD c1) ++ [.tuple [.str "do", .str (w5of k).str]])), .int (1 + (max (tall a) (tall b) : Nat)), .int (max (hgt a) (1 + hgt b) : Nat), .int (max (lets a) (lets b) : Nat)] := by
    simp [encPt, encI, lcode, lrD, tall, hgt, lets]
  rw [hR]
  have hk' : k = 0 ∨ k = 1 ∨ k = 2 ∨ k = 3 ∨ k = 4 := by omega
  rcases hk' with rfl | rfl | rfl | rfl | rfl <;> simp -implicitDefEqProofs [enter, fa, fb, fe, hj, add_list, lim, w5of, W5.str]
theorem made_choose (c1 : Str) (tk n : Nat) (c a b : Tr) (rest nm : PyData) (hl : len c + len a + len b < 900000) (μ : Store) :
    runF tab sub L (n + 3) 57 [.list [encPt tk c1 c, encPt tk c1 a, encPt tk c1 b], .int 5, rest, nm, .int (tk : Nat)] μ = .ok (encPt tk c1 (.choose c a b)) μ := by
  unfold runF
  simp only [tab, d__law_made, b__law_made]
  have F := madeFacts (L := L) tk (n + 2) c1 [c, a, b] (by simp) μ
  have fa := F.a
  have fb := F.b
  have fc := F.c
  have fd := F.d
  have fe := F.e
  have g1 := maxL_N lets (l := [c, a, b]) (by simp)
  have g2 := maxL_N hgt (l := [c, a, b]) (by simp)
  have hj := chosen_eq (L := L) c1 tk n c a b hl μ
  have hR : encPt tk c1 (.choose c a b) = .tuple [.tuple [.str "choose", encI c1 c, encI c1 a, encI c1 b], .list ((lcode tk (.choose c a b) 0 []).map (lrD c1)), .int (1 + (max (tall c) (max (tall a) (tall b)) : Nat)), .int (max (hgt c) (max (hgt a) (hgt b)) : Nat), .int (max (lets c) (max (lets a) (lets b)) : Nat)] := by
    simp [encPt, encI, tall, hgt, lets]
  rw [hR]
  simp -implicitDefEqProofs [tallL, maxN] at fa fb fc fd fe g1 g2
  simp -implicitDefEqProofs [enter, fa, fb, fc, fd, fe, g1, g2, hj, add_list, lim]
theorem made_let (c1 : Str) (tk n : Nat) (a b : Tr) (rest : Int) (nms : List Str) (hn : nms ≠ []) (hl : len a + len b < 900000) (μ : Store) :
    runF tab sub L (n + 3) 57 [.list [encPt tk c1 a, encPt tk c1 b], .int 6, .int rest, .list (nms.map PyData.str), .int (tk : Nat)] μ = .ok (encPt tk c1 (.lett (nms.getD (rest % nms.length).toNat Str.empty) a b)) μ := by
  unfold runF
  simp only [tab, d__law_made, b__law_made]
  have F := madeFacts (L := L) tk (n + 2) c1 [a, b] (by simp) μ
  have fa := F.a
  have fb := F.b
  have fe := F.e
  have hp : 0 < (nms.length : Int) := by
    have := List.length_pos_iff.mpr hn
    omega
  have hlt : (rest % nms.length).toNat < nms.length := by
    have := Int.emod_lt_of_pos rest hp
    have := Int.emod_nonneg rest (b := (nms.length : Int)) (by omega)
    omega
  have hi : atI (nms.map PyData.str) (rest % nms.length) = some (.str (nms.getD (rest % nms.length).toNat Str.empty)) := by
    have h0 := Int.emod_nonneg rest (b := (nms.length : Int)) (by omega)
    obtain ⟨k, hk⟩ := Int.eq_ofNat_of_zero_le h0
    rw [hk] at hlt ⊢
    rw [atI_cast]
    simp at hlt
    simp [hlt]
  have hm : binP .mod (.int rest) (.int (nms.length : Nat)) = some (.int (rest % nms.length)) := PVL.mod_int hp
  have hj := let_eq (L := L) c1 (nms.getD (rest % nms.length).toNat Str.empty) tk n a b hl μ
  simp -implicitDefEqProofs [tallL] at fa fb fe
  generalize nms.getD (rest % nms.length).toNat Str.empty = z at *
  simp -implicitDefEqProofs [enter, fa, fb, fe, hj, hi, hm, add_list, lim]
theorem made_call (c1 : Str) (tk n k : Nat) (hk : k = 7 ∨ k = 8) (f : Str) (hf : cix c1 f = (k : Int) - 7) (ts : List Tr) (rest nm : PyData) (hl : lenL ts < 900000) (hc : ts.length ≤ 1000) (μ : Store) :
    runF tab sub L (n + 3) 57 [.list (ts.map (encPt tk c1)), .int (k : Nat), rest, nm, .int (tk : Nat)] μ = .ok (encPt tk c1 (.call f ts)) μ := by
  unfold runF
  simp only [tab, d__law_made, b__law_made]
  have F := madeFacts (L := L) tk (n + 2) c1 ts hc μ
  have fa := F.a
  have fb := F.b
  have fe := F.e
  have hj := fun row => joined_eq (L := L) c1 tk n ts row hl hc μ
  have q : 1 + ts.length ≤ 1000000 := by omega
  have hR : encPt tk c1 (.call f ts) = .tuple [.tuple [.str "call", .int ((k : Int) - 7), .tuple (ts.map (encI c1))], .list ((lcodeL tk ts 0 []).map (lrD c1) ++ [.tuple [.str "call", .int ((k : Int) - 7)]]), .int (1 + (tallL ts : Nat)), .int (max 1 (hgtL 0 ts) : Nat), .int (letsL ts : Nat)] := by
    simp [encPt, encI, lcode, lrD, tall, hgt, lets, hf, encIL_map]
  rw [hR]
  rcases hk with rfl | rfl <;> simp -implicitDefEqProofs [enter, fa, fb, fe, hj, add_list, lim, q]
mutual
theorem wf_mono {ar : Str → Option Nat} : ∀ {t : Tr} {kn kn' : List Str}, (∀ x ∈ kn, x ∈ kn') → wf ar t kn → wf ar t kn'
  | .num _, _, _, _, _ => trivial
  | .name x, _, _, h, w => h x w
  | .deed _ a b, _, _, h, w => ⟨wf_mono h w.1, wf_mono h w.2⟩
  | .choose c a b, _, _, h, w => ⟨wf_mono h w.1, wf_mono h w.2.1, wf_mono h w.2.2⟩
  | .lett x a b, _, _, h, w => ⟨wf_mono h w.1, wf_mono (fun y hy => by
      rcases List.mem_append.mp hy with hy | hy
      · exact List.mem_append_left _ (h y hy)
      · exact List.mem_append_right _ hy) w.2⟩
  | .call f l, _, _, h, w => ⟨w.1, wfL_mono h w.2⟩
theorem wfL_mono {ar : Str → Option Nat} : ∀ {l : List Tr} {kn kn' : List Str}, (∀ x ∈ kn, x ∈ kn') → wfL ar l kn → wfL ar l kn'
  | [], _, _, _, _ => trivial
  | t :: l, _, _, h, w => ⟨wf_mono h w.1, wfL_mono h w.2⟩
end
/-- a tree of the law's stack -/
structure Ok5 (ar : Str → Option Nat) (nms : List Str) (t : Tr) : Prop where
  tl : tall t ≤ 9
  fw : few t
  w : wf ar t nms
  so : okT t
theorem lenL_take_drop (ts : List Tr) (k : Nat) : lenL (ts.take k) + lenL (ts.drop k) = lenL ts := by
  rw [← lenL_app, List.take_append_drop]
theorem fewL_of : ∀ {l : List Tr}, (∀ t ∈ l, few t) → fewL l
  | [], _ => trivial
  | t :: l, h => ⟨h t List.mem_cons_self, fewL_of fun u hu => h u (List.mem_cons_of_mem _ hu)⟩
theorem wfL_of {ar : Str → Option Nat} {kn : List Str} : ∀ {l : List Tr}, (∀ t ∈ l, wf ar t kn) → wfL ar l kn
  | [], _ => trivial
  | t :: l, h => ⟨h t List.mem_cons_self, wfL_of fun u hu => h u (List.mem_cons_of_mem _ hu)⟩
theorem tallL_le : ∀ {l : List Tr} {k : Nat}, (∀ t ∈ l, tall t ≤ k) → tallL l ≤ k
  | [], _, _ => Nat.zero_le _
  | t :: l, k, h => Nat.max_le.mpr ⟨h t List.mem_cons_self, tallL_le fun u hu => h u (List.mem_cons_of_mem _ hu)⟩
theorem tallL_lt {l : List Tr} {k : Nat} (h : tallL l < k) : ∀ t ∈ l, tall t < k := fun t ht => Nat.lt_of_le_of_lt (tall_mem ht) h
theorem nm_mem {nms : List Str} (hn : nms ≠ []) (r : Int) : nms.getD (r % nms.length).toNat Str.empty ∈ nms := by
  have hp : 0 < (nms.length : Int) := by
    have := List.length_pos_iff.mpr hn
    omega
  have h1 := Int.emod_lt_of_pos r hp
  have h0 := Int.emod_nonneg r (b := (nms.length : Int)) (by omega)
  have hlt : (r % nms.length).toNat < nms.length := by omega
  rw [List.getD_eq_getElem?_getD, List.getElem?_eq_getElem hlt]
  exact List.getElem_mem hlt
/-- what is put on the stack where parts are taken: the new tree of a kind -/
theorem new_tree (c0 c1 : Str) (hcc : c0 ≠ c1) (k0 : PyData.strOk c0 = true) (k1 : PyData.strOk c1 = true) {ar : Str → Option Nat} {nms : List Str} (hk : ∀ x ∈ nms, PyData.strOk x = true) (hn : nms ≠ []) (tk : Nat) (htk : tk ≤ 7) (two : Bool) (h0 : ar c0 = some tk) (h1 : two = true → ar c1 = some 2) (n k : Nat) (hk9 : k < 9) (ps : List Tr)
    (hps : ps.length = [2, 2, 2, 2, 2, 3, 2, tk, 2].getD k 0) (hl : lenL ps < 900000) (ht : tallL ps < 9) (ho : ∀ t ∈ ps, Ok5 ar nms t) (h8 : k = 8 → two = true) (rest : Int) (μ : Store) :
    ∃ t, runF tab sub L (n + 3) 57 [.list (ps.map (encPt tk c1)), .int (k : Nat), .int rest, .list (nms.map PyData.str), .int (tk : Nat)] μ = .ok (encPt tk c1 t) μ ∧ Ok5 ar nms t ∧ len t ≤ lenL ps + 2 := by
  have hlt := tallL_lt ht
  have hk5 : k < 5 ∨ k = 5 ∨ k = 6 ∨ k = 7 ∨ k = 8 := by omega
  rcases hk5 with hk' | rfl | rfl | rfl | rfl
  · have e : ps.length = 2 := by
      have : k = 0 ∨ k = 1 ∨ k = 2 ∨ k = 3 ∨ k = 4 := by omega
      rcases this with rfl | rfl | rfl | rfl | rfl <;> simpa using hps
    match ps, e with
    | [a, b], _ =>
      have oa := ho a (by simp)
      have ob := ho b (by simp)
      have ta := hlt a (by simp)
      have tb := hlt b (by simp)
      simp only [lenL] at hl
      refine ⟨_, made_deed c1 tk n k hk' a b (.int rest) _ (by omega) μ, ⟨?_, ⟨oa.fw, ob.fw⟩, ⟨oa.w, ob.w⟩, ⟨oa.so, ob.so⟩⟩, ?_⟩
      · simp only [tall]
        omega
      · simp only [len, lenL]
        omega
  · have e : ps.length = 3 := by simpa using hps
    match ps, e with
    | [c, a, b], _ =>
      have oc := ho c (by simp)
      have oa := ho a (by simp)
      have ob := ho b (by simp)
      have tc := hlt c (by simp)
      have ta := hlt a (by simp)
      have tb := hlt b (by simp)
      simp only [lenL] at hl
      refine ⟨_, made_choose c1 tk n c a b (.int rest) _ (by omega) μ, ⟨?_, ⟨oc.fw, oa.fw, ob.fw⟩, ⟨oc.w, oa.w, ob.w⟩, ⟨oc.so, oa.so, ob.so⟩⟩, ?_⟩
      · simp only [tall]
        omega
      · simp only [len, lenL]
        omega
  · have e : ps.length = 2 := by simpa using hps
    match ps, e with
    | [a, b], _ =>
      have oa := ho a (by simp)
      have ob := ho b (by simp)
      have ta := hlt a (by simp)
      have tb := hlt b (by simp)
      simp only [lenL] at hl
      refine ⟨_, made_let c1 tk n a b rest nms hn (by omega) μ, ⟨?_, ⟨oa.fw, ob.fw⟩, ⟨oa.w, wf_mono (fun x hx => List.mem_append_left _ hx) ob.w⟩, ⟨hk _ (nm_mem hn _), oa.so, ob.so⟩⟩, ?_⟩
      · simp only [tall]
        omega
      · simp only [len, lenL]
        omega
  · have e : ps.length = tk := by simpa using hps
    refine ⟨_, made_call c1 tk n 7 (.inl rfl) c0 (by unfold cix; rw [if_neg hcc]; rfl) ps (.int rest) _ hl (by omega) μ, ⟨?_, ⟨by omega, fewL_of fun t h => (ho t h).fw⟩, ⟨by rw [h0, e], wfL_of fun t h => (ho t h).w⟩, ⟨k0, okTL_of fun t h => (ho t h).so⟩⟩, ?_⟩
    · simp only [tall]
      omega
    · simp only [len]
      omega
  · have e : ps.length = 2 := by simpa using hps
    refine ⟨_, made_call c1 tk n 8 (.inr rfl) c1 (by unfold cix; rw [if_pos rfl]; rfl) ps (.int rest) _ hl (by omega) μ, ⟨?_, ⟨by omega, fewL_of fun t h => (ho t h).fw⟩, ⟨by rw [h1 (h8 rfl), e], wfL_of fun t h => (ho t h).w⟩, ⟨k1, okTL_of fun t h => (ho t h).so⟩⟩, ?_⟩
    · simp only [tall]
      omega
    · simp only [len]
      omega
theorem put_eq (c0 c1 : Str) (hcc : c0 ≠ c1) (ok0 : PyData.strOk c0 = true) (ok1 : PyData.strOk c1 = true) {ar : Str → Option Nat} {nms : List Str} (hso : ∀ x ∈ nms, PyData.strOk x = true) (hn : nms ≠ []) (tk : Nat) (htk : tk ≤ 7) (two : Bool) (h0 : ar c0 = some tk) (h1 : two = true → ar c1 = some 2) (n : Nat) (c : Int) (ts : List Tr)
    (hl : lenL ts < 800000) (hlt : ts.length ≤ 1000) (ho : ∀ t ∈ ts, Ok5 ar nms t) (μ : Store) :
    ∃ ts', runF tab sub L (n + 4) 58 [.list (ts.map (encPt tk c1)), .int c, .list (nms.map PyData.str), .int (tk : Nat), .bool two] μ = .ok (.list (ts'.map (encPt tk c1))) μ ∧ (∀ t ∈ ts', Ok5 ar nms t) ∧ lenL ts' ≤ lenL ts + 2 ∧ ts'.length ≤ ts.length + 1 ∧ ts' ≠ [] := by
  obtain ⟨k, hk⟩ : ∃ k : Nat, c % 12 = (k : Int) := ⟨(c % 12).toNat, by omega⟩
  have hk12 : k < 12 := by omega
  have hp : 0 < (nms.length : Int) := by
    have := List.length_pos_iff.mpr hn
    omega
  have hi : atI (nms.map PyData.str) (c / 12 % nms.length) = some (.str (nms.getD (c / 12 % nms.length).toNat Str.empty)) := by
    have h1 := Int.emod_lt_of_pos (c / 12) hp
    have h0 := Int.emod_nonneg (c / 12) (b := (nms.length : Int)) (by omega)
    have hlt : (c / 12 % nms.length).toNat < nms.length := by omega
    obtain ⟨j, hj⟩ := Int.eq_ofNat_of_zero_le h0
    rw [hj] at hlt ⊢
    rw [atI_cast]
    simp at hlt
    simp [hlt]
  have hm : binP .mod (.int (c / 12)) (.int (nms.length : Nat)) = some (.int (c / 12 % nms.length)) := PVL.mod_int hp
  have q1 : ts.length + 1 ≤ 1000000 := by omega
  have oname : ∀ t ∈ ts ++ [Tr.name (nms.getD (c / 12 % nms.length).toNat Str.empty)], Ok5 ar nms t := fun t ht => by
    rcases List.mem_append.mp ht with ht | ht
    · exact ho t ht
    · rw [List.mem_singleton] at ht
      subst ht
      exact ⟨by simp [tall], trivial, nm_mem hn _, hso _ (nm_mem hn _)⟩
  have onum : ∀ (z : Int), ∀ t ∈ ts ++ [Tr.num z], Ok5 ar nms t := fun z t ht => by
    rcases List.mem_append.mp ht with ht | ht
    · exact ho t ht
    · rw [List.mem_singleton] at ht
      subst ht
      exact ⟨by simp [tall], trivial, trivial, trivial⟩
  by_cases h9 : 9 ≤ k
  · by_cases h11 : k < 11
    · refine ⟨ts ++ [.name (nms.getD (c / 12 % nms.length).toNat Str.empty)], ?_, oname, by rw [lenL_app]; simp [lenL, len], by simp, by simp⟩
      unfold runF
      simp only [tab, d__law_put, b__law_put]
      have a1 : ¬ (k : Int) < 9 := by omega
      have a2 : (8 : Int) < k := by omega
      have a3 : (k : Int) < 11 := by omega
      simp -implicitDefEqProofs [enter, hk, a1, a2, a3, hi, hm, add_list, lim, q1, encPt, encI, lcode, lrD, lsl, tall, hgt, lets]
    · refine ⟨ts ++ [.num (c / 12 % 2000000000001 - 1000000000000)], ?_, onum _, by rw [lenL_app]; simp [lenL, len], by simp, by simp⟩
      unfold runF
      simp only [tab, d__law_put, b__law_put]
      have a1 : ¬ (k : Int) < 9 := by omega
      have a2 : (8 : Int) < k := by omega
      have a3 : ¬ (k : Int) < 11 := by omega
      simp -implicitDefEqProofs [enter, hk, a1, a2, a3, add_list, lim, q1, encPt, encI, lcode, lrD, tall, hgt, lets]
  · have h9 : k < 9 := by omega
    have a1 : (k : Int) < 9 := by omega
    have a2 : ¬ (8 : Int) < k := by omega
    obtain ⟨w, hw⟩ : ∃ w : Nat, w = [2, 2, 2, 2, 2, 3, 2, tk, 2].getD k 0 := ⟨_, rfl⟩
    have hwi : atI [PyData.int 2, PyData.int 2, PyData.int 2, PyData.int 2, PyData.int 2, PyData.int 3, PyData.int 2, PyData.int (tk : Nat), PyData.int 2] (k : Int) = some (.int (w : Nat)) := by
      rw [atI_cast, hw]
      have : k = 0 ∨ k = 1 ∨ k = 2 ∨ k = 3 ∨ k = 4 ∨ k = 5 ∨ k = 6 ∨ k = 7 ∨ k = 8 := by omega
      rcases this with rfl | rfl | rfl | rfl | rfl | rfl | rfl | rfl | rfl <;> rfl
    have hw7 : w ≤ 7 := by
      rw [hw]
      have : k = 0 ∨ k = 1 ∨ k = 2 ∨ k = 3 ∨ k = 4 ∨ k = 5 ∨ k = 6 ∨ k = 7 ∨ k = 8 := by omega
      rcases this with rfl | rfl | rfl | rfl | rfl | rfl | rfl | rfl | rfl <;> simp <;> omega
    have hcut : cutD (ts.map (encPt tk c1)) (some ((ts.length : Int) - (w : Int))) none = (cutD ts (some ((ts.length : Int) - (w : Int))) none).map (encPt tk c1) := cutD_map _ _ _ _
    have cmp : ∀ (ps : List Tr), ps.length ≤ 1000 → ∀ x0 x1 x2 x3 x4 x5 x6 x7 x8 x9 x11 x12, ev (runF tab sub L (n + 3)) (.comp (.seqL (.var 10)) (.nm 12) (.no) (.idx (.var 12) (.cst (.int 2))) [12]) [x0, x1, x2, x3, x4, x5, x6, x7, x8, x9, .pv (.list (ps.map (encPt tk c1))), x11, x12] μ = .ok (.list (ps.map fun t => .int (tall t : Nat))) μ := by
      intro ps hps x0 x1 x2 x3 x4 x5 x6 x7 x8 x9 x11 x12
      refine comp_list (encPt tk c1) (fun t => .int (tall t : Nat)) ?_ rfl (by unfold lim; omega) (by simp) fun t _ => ⟨_, rfl, ?_⟩
      · simp -implicitDefEqProofs
      · simp -implicitDefEqProofs [encPt]
    have fallback : ∀ (hbad : ¬ (w ≤ ts.length ∧ tallL (ts.drop (ts.length - w)) < 9 ∧ (k = 8 → two = true))), runF tab sub L (n + 4) 58 [.list (ts.map (encPt tk c1)), .int c, .list (nms.map PyData.str), .int (tk : Nat), .bool two] μ = .ok (.list ((ts ++ [Tr.num (c / 12 % 2000000000001 - 1000000000000)]).map (encPt tk c1))) μ := by
      intro hbad
      unfold runF
      simp only [tab, d__law_put, b__law_put]
      by_cases b1 : w ≤ ts.length
      · have hd : cutD ts (some ((ts.length : Int) - (w : Int))) none = ts.drop (ts.length - w) := by
          rw [cut_from (by omega) (by omega)]
          congr 1
          omega
        have b1' : (w : Int) ≤ (ts.length : Int) := by omega
        have cm := cmp (ts.drop (ts.length - w)) (by simp; omega)
        have fe : biP .maxL [.list (.int 0 :: (ts.drop (ts.length - w)).map fun t => PyData.int (tall t : Nat))] = some (.int (tallL (ts.drop (ts.length - w)) : Nat)) := by rw [tallL_max]; exact max0 tall _
        have q2 : 1 + (ts.drop (ts.length - w)).length ≤ 1000000 := by simp; omega
        generalize ts.drop (ts.length - w) = ps at *
        by_cases b2 : tallL ps < 9
        · have b3 : k = 8 ∧ two = false := by
            by_cases z : k = 8
            · exact ⟨z, by simpa using fun y => hbad ⟨b1, b2, fun _ => y⟩⟩
            · exact (hbad ⟨b1, b2, fun y => absurd y z⟩).elim
          obtain ⟨rfl, rfl⟩ := b3
          have b2' : (tallL ps : Int) < 9 := by omega
          simp -implicitDefEqProofs at hk hwi cm fe hcut
          have hR : (ts ++ [Tr.num (c / 12 % 2000000000001 - 1000000000000)]).map (encPt tk c1) = ts.map (encPt tk c1) ++ [.tuple [.tuple [.str "num", .int (c / 12 % 2000000000001 - 1000000000000)], .list [.tuple [.str "push", .int (c / 12 % 2000000000001 - 1000000000000)]], .int 1, .int 1, .int 0]] := by
            simp [encPt, encI, lcode, lrD, tall, hgt, lets]
          rw [hR]
          simp -implicitDefEqProofs [enter, ev_slc_ns, ev_slc_sn, hk, hwi, hcut, hd, b1', cm, fe, b2', q2, add_list, lim, q1]
        · have b2' : ¬ (tallL ps : Int) < 9 := by omega
          have hR : (ts ++ [Tr.num (c / 12 % 2000000000001 - 1000000000000)]).map (encPt tk c1) = ts.map (encPt tk c1) ++ [.tuple [.tuple [.str "num", .int (c / 12 % 2000000000001 - 1000000000000)], .list [.tuple [.str "push", .int (c / 12 % 2000000000001 - 1000000000000)]], .int 1, .int 1, .int 0]] := by
            simp [encPt, encI, lcode, lrD, tall, hgt, lets]
          rw [hR]
          try simp -implicitDefEqProofs at hk hwi cm fe hcut
          simp -implicitDefEqProofs [enter, ev_slc_ns, ev_slc_sn, hk, hwi, hcut, hd, b1', cm, fe, b2', q2, add_list, lim, q1, a1, a2]
      · have b1' : ¬ (w : Int) ≤ (ts.length : Int) := by omega
        have hR : (ts ++ [Tr.num (c / 12 % 2000000000001 - 1000000000000)]).map (encPt tk c1) = ts.map (encPt tk c1) ++ [.tuple [.tuple [.str "num", .int (c / 12 % 2000000000001 - 1000000000000)], .list [.tuple [.str "push", .int (c / 12 % 2000000000001 - 1000000000000)]], .int 1, .int 1, .int 0]] := by
          simp [encPt, encI, lcode, lrD, tall, hgt, lets]
        rw [hR]
        try simp -implicitDefEqProofs at hk hwi hcut
        simp -implicitDefEqProofs [enter, ev_slc_ns, ev_slc_sn, hk, hwi, hcut, b1', add_list, lim, q1, a1, a2]
    by_cases hg : w ≤ ts.length ∧ tallL (ts.drop (ts.length - w)) < 9 ∧ (k = 8 → two = true)
    · obtain ⟨b1, b2, b3⟩ := hg
      have hd : cutD ts (some ((ts.length : Int) - (w : Int))) none = ts.drop (ts.length - w) := by
        rw [cut_from (by omega) (by omega)]
        congr 1
        omega
      have hcut2 : cutD (ts.map (encPt tk c1)) none (some ((ts.length : Int) - (w : Int))) = (ts.take (ts.length - w)).map (encPt tk c1) := by
        rw [cutD_map, cut_to (by omega) (by omega)]
        congr 2
        omega
      have hld := lenL_take_drop ts (ts.length - w)
      have b1' : (w : Int) ≤ (ts.length : Int) := by omega
      have cm := cmp (ts.drop (ts.length - w)) (by simp; omega)
      have fe : biP .maxL [.list (.int 0 :: (ts.drop (ts.length - w)).map fun t => PyData.int (tall t : Nat))] = some (.int (tallL (ts.drop (ts.length - w)) : Nat)) := by rw [tallL_max]; exact max0 tall _
      have q2 : 1 + (ts.drop (ts.length - w)).length ≤ 1000000 := by simp; omega
      have q3 : (ts.take (ts.length - w)).length + 1 ≤ 1000000 := by simp; omega
      obtain ⟨t, ht, hto, htl⟩ := new_tree (L := L) c0 c1 hcc ok0 ok1 hso hn tk htk two h0 h1 n k h9 (ts.drop (ts.length - w)) (by rw [List.length_drop, ← hw]; omega) (by omega) b2 (fun t ht => ho t (List.mem_of_mem_drop ht)) b3 (c / 12) μ
      refine ⟨ts.take (ts.length - w) ++ [t], ?_, fun u hu => ?_, ?_, ?_, by simp⟩
      · have b2' : (tallL (ts.drop (ts.length - w)) : Int) < 9 := by omega
        generalize ts.drop (ts.length - w) = ps at *
        generalize ts.take (ts.length - w) = rs at *
        unfold runF
        simp only [tab, d__law_put, b__law_put]
        simp -implicitDefEqProofs at hk hwi cm fe hcut hcut2 ht q3
        by_cases z : k = 8
        · have tw := b3 z
          subst z tw
          simp -implicitDefEqProofs at hk hwi ht
          simp -implicitDefEqProofs [enter, ev_slc_ns, ev_slc_sn, hk, hwi, hcut, hcut2, hd, b1', cm, fe, b2', q2, q3, add_list, lim, q1, ht]
        · have z' : ((k : Int) == 8) = false := by simp; omega
          simp -implicitDefEqProofs [enter, ev_slc_ns, ev_slc_sn, hk, hwi, hcut, hcut2, hd, b1', cm, fe, b2', q2, q3, add_list, lim, q1, a1, ht, z']
      · rcases List.mem_append.mp hu with hu | hu
        · exact ho u (List.mem_of_mem_take hu)
        · rw [List.mem_singleton] at hu
          rw [hu]
          exact hto
      · rw [lenL_app]
        simp only [lenL]
        omega
      · simp
    · exact ⟨_, fallback hg, onum _, by rw [lenL_app]; simp [lenL, len], by simp, by simp⟩
theorem named_eq (c0 c1 : Str) {ar : Str → Option Nat} (har : ∀ f m, ar f = some m → f = c0 ∨ f = c1) : ∀ k t, tall t ≤ k → few t → ∀ kn, wf ar t kn → ∀ n, k ≤ n → ∀ μ, runF tab sub L n 59 [encI c1 t, .list [.str c0, .str c1]] μ = .ok (enc t) μ := by
  intro k
  induction k with
  | zero => intro t h; have := tall_pos t; omega
  | succ k ih =>
    intro t h hf kn hw n hn μ
    obtain ⟨m, rfl⟩ : ∃ m, n = m + 1 := ⟨n - 1, by omega⟩
    unfold runF
    simp only [tab, d__law_named, b__law_named]
    have key : ∀ u ∈ parts t, ∀ kn', wf ar u kn' → runF tab sub L m 59 [encI c1 u, .list [.str c0, .str c1]] μ = .ok (enc u) μ := fun u hu kn' w => ih u (by have := tall_parts hu; omega) (few_parts hf u hu) kn' w m (by omega) μ
    cases t with
    | num n => simp -implicitDefEqProofs [enter, encI, enc, PVLP.ws]
    | name x => simp -implicitDefEqProofs [enter, encI, enc, PVLP.ws]
    | lett x a b =>
      have ka := key a (by simp [parts]) _ hw.1
      have kb := key b (by simp [parts]) _ hw.2
      simp -implicitDefEqProofs [enter, encI, enc, PVLP.ws, ka, kb, lim]
    | deed w a b =>
      have ka := key a (by simp [parts]) _ hw.1
      have kb := key b (by simp [parts]) _ hw.2
      have hc : ev (runF tab sub L m) (.comp (.seqT (.slc (.var 0) (.cst (.int 1)) (.no))) (.nm 2) (.no) (.call 59 [.var 2, .var 1]) [2]) [.pv (.tuple [.str w.str, encI c1 a, encI c1 b]), .pv (.list [.str c0, .str c1]), .un] μ = .ok (.list ([a, b].map enc)) μ := by
        refine comp_list (encI c1) enc ?_ rfl (by simp [lim]) (by simp) fun u hu => ⟨_, rfl, ?_⟩
        · simp -implicitDefEqProofs [slc_tail]
        · simp at hu
          rcases hu with rfl | rfl
          · simp -implicitDefEqProofs [ka]
          · simp -implicitDefEqProofs [kb]
      simp -implicitDefEqProofs at hc
      simp -implicitDefEqProofs [enter, encI, enc, w5 w, hc, lim, binP]
    | choose c a b =>
      have kc := key c (by simp [parts]) _ hw.1
      have ka := key a (by simp [parts]) _ hw.2.1
      have kb := key b (by simp [parts]) _ hw.2.2
      have hc : ev (runF tab sub L m) (.comp (.seqT (.slc (.var 0) (.cst (.int 1)) (.no))) (.nm 2) (.no) (.call 59 [.var 2, .var 1]) [2]) [.pv (.tuple [.str "choose", encI c1 c, encI c1 a, encI c1 b]), .pv (.list [.str c0, .str c1]), .un] μ = .ok (.list ([c, a, b].map enc)) μ := by
        refine comp_list (encI c1) enc ?_ rfl (by simp [lim]) (by simp) fun u hu => ⟨_, rfl, ?_⟩
        · simp -implicitDefEqProofs [slc_tail]
        · simp at hu
          rcases hu with rfl | rfl | rfl
          · simp -implicitDefEqProofs [kc]
          · simp -implicitDefEqProofs [ka]
          · simp -implicitDefEqProofs [kb]
      simp -implicitDefEqProofs at hc
      simp -implicitDefEqProofs [enter, encI, enc, PVLP.ws, hc, lim, binP]
    | call f l =>
      have hc : ev (runF tab sub L m) (.comp (.seqT (.idx (.var 0) (.cst (.int 2)))) (.nm 2) (.no) (.call 59 [.var 2, .var 1]) [2]) [.pv (.tuple [.str "call", .int (cix c1 f), .tuple (encIL c1 l)]), .pv (.list [.str c0, .str c1]), .un] μ = .ok (.list (l.map enc)) μ := by
        refine comp_list (encI c1) enc ?_ rfl (by have := hf.1; unfold lim; omega) (by simp) fun u hu => ⟨_, rfl, ?_⟩
        · simp -implicitDefEqProofs [encIL_map]
        · simp -implicitDefEqProofs [key u hu kn (wfL_mem hw.2 u hu)]
      have hx : atI [PyData.str c0, .str c1] (cix c1 f) = some (.str f) := by
        unfold cix
        by_cases e : f = c1
        · subst e
          simp
        · rcases har f _ hw.1 with z | z
          · subst z
            simp [e]
          · exact absurd z e
      simp -implicitDefEqProofs [enter, encI, enc, PVLP.ws, hc, hx, lim, encL_map]
/-- a row that can be made ready -/
def okR (c1 : Str) (st : PVLP.St) (ps : List Str) (v0 v1 : Nat × Nat × Nat × Nat) : LRow → Prop
  | .loadN x => x ∈ ps
  | .call f => st.lookup f = some (if f = c1 then v1 else v0)
  | _ => True
theorem ready_eq (c1 : Str) (st : PVLP.St) (ps : List Str) (v0 v1 : Nat × Nat × Nat × Nat) (n : Nat) (rows : List LRow) (k : Nat) (hl : rows.length < 900000) (hr : ∀ r ∈ rows, okR c1 st ps v0 v1 r) (μ : Store) :
    runF tab sub L (n + 2) 60 [.list (rows.map (lrD c1)), .list (ps.map PyData.str), .int (k : Nat), .list [encV v0, encV v1]] μ = .ok (.list (((rows.map (mv k)).map (done st ps)).map rowD ++ [rowD .back])) μ := by
  unfold runF
  simp only [tab, d__law_ready, b__law_ready]
  have hm := moved_eq (L := L) c1 n rows k (by omega) μ
  have hr' : ∀ r ∈ rows.map (mv k), okR c1 st ps v0 v1 r := fun r h => by
    obtain ⟨q, hq, rfl⟩ := List.mem_map.mp h
    have := hr q hq
    cases q <;> exact this
  have hl' : (rows.map (mv k)).length < 900000 := by rw [List.length_map]; exact hl
  generalize rows.map (mv k) = rs at *
  obtain ⟨e, m', h1, ⟨y, h2⟩, h3⟩ := fLoop_inv (en := lrD c1) (tg := .nm 5) (f := fun e m' => runB (runF tab sub L (n + 1)) sub L [.iff (.and (.cmp .eq (.idx (.var 5) (.cst (.int 0))) (.cst (.str "load"))) (.isi "str" (.idx (.var 5) (.cst (.int 1))))) [.asg 5 (.tup [.cst (.str "load"), .op2 .lindex (.var 1) (.idx (.var 5) (.cst (.int 1)))])] [], .iff (.cmp .eq (.idx (.var 5) (.cst (.int 0))) (.cst (.str "call"))) [.asg 5 (.tup [.cst (.str "call"), .idx (.idx (.var 3) (.idx (.var 5) (.cst (.int 1)))) (.cst (.int 0)), .idx (.idx (.var 3) (.idx (.var 5) (.cst (.int 1)))) (.cst (.int 1)), .idx (.idx (.var 3) (.idx (.var 5) (.cst (.int 1)))) (.cst (.int 2))])] [], .app 4 (.var 5)] e m') (l := rs)
    (fun d env m => (∃ y, env = [.pv (.list (rows.map (lrD c1))), .pv (.list (ps.map PyData.str)), .pv (.int (k : Nat)), .pv (.list [encV v0, encV v1]), .ow ((d.map (done st ps)).map rowD), y]) ∧ m = μ)
    (fun d r q e env m' ⟨⟨y, he⟩, hm⟩ => by
      subst he hm
      refine ⟨_, rfl, ?_⟩
      have hd : d.length < 1000000 := by
        rw [e] at hl'
        simp at hl'
        omega
      have ho := hr' r (by rw [e]; simp)
      have k1 : kitB "str" "str" = some true := by decide +kernel
      have k2 : kitB "int" "str" = some false := by decide +kernel
      refine ⟨[.pv (.list (rows.map (lrD c1))), .pv (.list (ps.map PyData.str)), .pv (.int (k : Nat)), .pv (.list [encV v0, encV v1]), .ow (((d ++ [r]).map (done st ps)).map rowD), .pv (rowD (done st ps r))], _, ?_, ⟨_, rfl⟩, rfl⟩
      cases r with
      | dod w => cases w <;> simp -implicitDefEqProofs [lrD, rowD, done, ws5, hd, lim, W5.str]
      | loadN z =>
        have hi : indexP (ps.map PyData.str) (.str z) = some (.int (ps.idxOf z : Nat)) := by
          show (match strs' (ps.map PyData.str) with
            | some l => if l.idxOf z < l.length then some (PyData.int (l.idxOf z)) else none
            | none => none) = _
          rw [PVL.strs_map]
          simp only
          rw [if_pos (List.idxOf_lt_length_of_mem ho)]
        have hi : lindexP (.list (ps.map PyData.str)) (.str z) = some (.int (ps.idxOf z : Nat)) := hi
        simp -implicitDefEqProofs [lrD, rowD, done, ws5, hd, lim, isiP, k1, hi]
      | call f =>
        have ho : st.lookup f = some (if f = c1 then v1 else v0) := ho
        have hx : atI [encV v0, encV v1] (cix c1 f) = some (encV (if f = c1 then v1 else v0)) := by
          unfold cix
          by_cases e : f = c1
          · simp [e]
          · simp [e]
        generalize (if f = c1 then v1 else v0) = v at *
        simp only [encV] at hx
        simp -implicitDefEqProofs [lrD, rowD, done, callRow, ws5, hd, lim, isiP, k2, ho, encV, hx]
      | _ => simp -implicitDefEqProofs [lrD, rowD, done, ws5, hd, lim, isiP, k2])
    [.pv (.list (rows.map (lrD c1))), .pv (.list (ps.map PyData.str)), .pv (.int (k : Nat)), .pv (.list [encV v0, encV v1]), .ow [], .un] μ ⟨⟨_, rfl⟩, rfl⟩
  subst h2 h3
  have q : rs.length + 1 ≤ 1000000 := by omega
  simp -implicitDefEqProofs [lim] at h1
  simp -implicitDefEqProofs [enter, runS_for, hm, h1, add_list, lim, q, rowD]
theorem okR_lsl {c1 : Str} {st : PVLP.St} {ps : List Str} {v0 v1 : Nat × Nat × Nat × Nat} {tk : Nat} {ls : List Str} {x : Str} (h : x ∈ ps ++ ls) : okR c1 st ps v0 v1 (lsl tk ls x) := by
  unfold lsl
  by_cases e : x ∈ ls
  · rw [if_pos e]
    trivial
  · rw [if_neg e]
    exact (List.mem_append.mp h).resolve_right e
mutual
theorem okR_code {c1 : Str} {st : PVLP.St} {ps : List Str} {v0 v1 : Nat × Nat × Nat × Nat} {ar : Str → Option Nat} (har : ∀ f m, ar f = some m → st.lookup f = some (if f = c1 then v1 else v0)) (tk : Nat) : ∀ (t : Tr) (b : Nat) (ls : List Str), wf ar t (ps ++ ls) → ∀ r ∈ lcode tk t b ls, okR c1 st ps v0 v1 r
  | .num n, b, ls, h, r, hr => by
    simp only [lcode, List.mem_singleton] at hr
    subst hr
    trivial
  | .name x, b, ls, h, r, hr => by
    simp only [lcode, List.mem_singleton] at hr
    subst hr
    exact okR_lsl h
  | .deed w a c, b, ls, h, r, hr => by
    simp only [lcode, List.mem_append, List.mem_singleton] at hr
    rcases hr with (hr | hr) | rfl
    · exact okR_code har tk a _ _ h.1 r hr
    · exact okR_code har tk c _ _ h.2 r hr
    · trivial
  | .choose c a d, b, ls, h, r, hr => by
    simp only [lcode, List.mem_append, List.mem_singleton] at hr
    rcases hr with (((hr | rfl) | hr) | rfl) | hr
    · exact okR_code har tk c _ _ h.1 r hr
    · trivial
    · exact okR_code har tk a _ _ h.2.1 r hr
    · trivial
    · exact okR_code har tk d _ _ h.2.2 r hr
  | .lett x a c, b, ls, h, r, hr => by
    have h2 : wf ar c (ps ++ (ls ++ [x])) := by rw [← List.append_assoc]; exact h.2
    simp only [lcode, List.mem_append, List.mem_singleton] at hr
    rcases hr with (hr | rfl) | hr
    · exact okR_code har tk a _ _ h.1 r hr
    · trivial
    · exact okR_code har tk c _ _ h2 r hr
  | .call f l, b, ls, h, r, hr => by
    simp only [lcode, List.mem_append, List.mem_singleton] at hr
    rcases hr with hr | rfl
    · exact okR_codeL har tk l _ _ h.2 r hr
    · exact har f _ h.1
theorem okR_codeL {c1 : Str} {st : PVLP.St} {ps : List Str} {v0 v1 : Nat × Nat × Nat × Nat} {ar : Str → Option Nat} (har : ∀ f m, ar f = some m → st.lookup f = some (if f = c1 then v1 else v0)) (tk : Nat) : ∀ (l : List Tr) (b : Nat) (ls : List Str), wfL ar l (ps ++ ls) → ∀ r ∈ lcodeL tk l b ls, okR c1 st ps v0 v1 r
  | [], _, _, _, r, hr => by simp [lcodeL] at hr
  | t :: l, b, ls, h, r, hr => by
    simp only [lcodeL, List.mem_append] at hr
    rcases hr with hr | hr
    · exact okR_code har tk t _ _ h.1 r hr
    · exact okR_codeL har tk l _ _ h.2 r hr
end
theorem row_sh (r : PVLP.Row) : Sh 1 (rowD r) := by
  have i (m : Nat) (i : Int) : Sh m (.int i) := Sh.int i
  have w (v : W5) : PyData.strOk v.str = true := by cases v <;> decide +kernel
  have s1 : Sh 0 (.str "push") := Sh.str (by decide +kernel)
  have s2 : Sh 0 (.str "load") := Sh.str (by decide +kernel)
  have s3 : Sh 0 (.str "keep") := Sh.str (by decide +kernel)
  have s4 : Sh 0 (.str "do") := Sh.str (by decide +kernel)
  have s5 : Sh 0 (.str "unless") := Sh.str (by decide +kernel)
  have s6 : Sh 0 (.str "skip") := Sh.str (by decide +kernel)
  have s7 : Sh 0 (.str "call") := Sh.str (by decide +kernel)
  have s8 : Sh 0 (.str "back") := Sh.str (by decide +kernel)
  cases r with
  | dod v =>
    have := Sh.str (m := 0) (w v)
    exact Sh.tuple (by simp [s4, this])
  | _ => exact Sh.tuple (by simp [s1, s2, s3, s5, s6, s7, s8, i])
theorem row_eq (n : Nat) (r : PVLP.Row) (μ : Store) : runF tab sub L (n + 1) 61 [rowD r, rowD r] μ = .ok (.bool true) μ := by
  unfold runF
  simp only [tab, d__law_row, b__law_row]
  have k0 : kitB "tuple" "tuple" = some true := by decide +kernel
  have k1 : kitB "str" "str" = some true := by decide +kernel
  have k2 : kitB "int" "int" = some true := by decide +kernel
  have k3 : kitB "int" "bool" = some false := by decide +kernel
  have k4 : kitB "str" "bool" = some false := by decide +kernel
  have k5 : kitB "str" "int" = some false := by decide +kernel
  have hs : cmpP .ne (rowD r) (rowD r) = some (.bool false) := by
    have z := (row_sh r).shaped (by omega)
    have e : eqP (rowD r) (rowD r) = some true := by
      have h : eqP (rowD r) (rowD r) = if SeqAt.shaped (rowD r) && SeqAt.shaped (rowD r) then some (PyData.eqv (rowD r) (rowD r)) else none := by cases r <;> rfl
      rw [h, z, SeqAt.eqv_refl _ (row_sh r).1]
      rfl
    show (eqP _ _).map _ = _
    rw [e]
    rfl
  cases r <;> simp only [rowD] at hs ⊢ <;> simp -implicitDefEqProofs [enter, isiP, k0, hs, runS_for, slc_tail, fLoop, k1, k2, k3, k4, k5]
theorem stack_eq (ns : List Int) (c0 c1 : Str) (hcc : c0 ≠ c1) (ok0 : PyData.strOk c0 = true) (ok1 : PyData.strOk c1 = true) {ar : Str → Option Nat} {nms : List Str} (hso : ∀ x ∈ nms, PyData.strOk x = true) (hn : nms ≠ []) (tk : Nat) (htk : tk ≤ 7) (two : Bool) (h0 : ar c0 = some tk) (h1 : two = true → ar c1 = some 2) (n cnt : Nat) (hc : cnt ≤ 200) (hcn : 2 + cnt ≤ ns.length ∨ cnt = 0) (th : PyData) (ts0 : List Tr) (hl0 : lenL ts0 ≤ 1) (hlt0 : ts0.length ≤ 1) (ho0 : ∀ t ∈ ts0, Ok5 ar nms t) (hne0 : ts0 ≠ []) (rest : List SV) (μ : Store) (y : SV) :
    ∃ ts x, fLoop (.nm 6) (fun e m' => runB (runF tab sub L (n + 4)) sub L [.asg 5 (.call 58 [.var 5, .idx (.var 0) (.var 6), .var 2, .var 1, .var 3])] e m') (rngD 2 cnt)
      (.pv (.list (ns.map PyData.int)) :: .pv (.int (tk : Nat)) :: .pv (.list (nms.map PyData.str)) :: .pv (.bool two) :: .pv th :: .pv (.list (ts0.map (encPt tk c1))) :: y :: rest) μ
      = .nx (.pv (.list (ns.map PyData.int)) :: .pv (.int (tk : Nat)) :: .pv (.list (nms.map PyData.str)) :: .pv (.bool two) :: .pv th :: .pv (.list (ts.map (encPt tk c1))) :: x :: rest) μ
      ∧ (∀ t ∈ ts, Ok5 ar nms t) ∧ lenL ts ≤ 401 ∧ ts ≠ [] := by
  have e0 : rngD 2 cnt = (List.range cnt).map fun k : Nat => PyData.int (2 + (k : Int)) := rfl
  obtain ⟨e, m', g1, ⟨ts, x, g2, g3, g4, g5, g6⟩, g7⟩ := fLoop_inv (en := fun k : Nat => PyData.int (2 + (k : Int))) (tg := .nm 6) (f := fun e m' => runB (runF tab sub L (n + 4)) sub L [.asg 5 (.call 58 [.var 5, .idx (.var 0) (.var 6), .var 2, .var 1, .var 3])] e m') (l := List.range cnt)
    (fun d env m => (∃ ts x, env = (.pv (.list (ns.map PyData.int)) :: .pv (.int (tk : Nat)) :: .pv (.list (nms.map PyData.str)) :: .pv (.bool two) :: .pv th :: .pv (.list (ts.map (encPt tk c1))) :: x :: rest) ∧ (∀ t ∈ ts, Ok5 ar nms t) ∧ lenL ts ≤ 1 + 2 * d.length ∧ ts.length ≤ 1 + d.length ∧ ts ≠ []) ∧ m = μ)
    (fun d k r e env m' ⟨⟨ts, x, he, q1, q2, q3, q4⟩, hm⟩ => by
      subst he hm
      refine ⟨_, rfl, ?_⟩
      have hk : k < cnt := by
        have : k ∈ List.range cnt := by rw [e]; simp
        exact List.mem_range.mp this
      have hd : d.length ≤ 200 := by
        have := congrArg List.length e
        simp at this
        omega
      have hi : atI (ns.map PyData.int) (2 + (k : Int)) = some (.int (ns.getD (2 + k) 0)) := by
        have : (2 + (k : Int)) = ((2 + k : Nat) : Int) := by omega
        rw [this, atI_cast]
        have : 2 + k < ns.length := by omega
        simp [this]
      obtain ⟨ts', p1, p2, p3, p4, p5⟩ := put_eq (L := L) c0 c1 hcc ok0 ok1 hso hn tk htk two h0 h1 n (ns.getD (2 + k) 0) ts (by omega) (by omega) q1 m'
      refine ⟨_, m', ?_, ⟨ts', .pv (.int (2 + (k : Int))), rfl, p2, by simp; omega, by simp; omega, p5⟩, rfl⟩
      generalize ns.getD (2 + k) 0 = z at *
      simp -implicitDefEqProofs [hi, p1])
    (.pv (.list (ns.map PyData.int)) :: .pv (.int (tk : Nat)) :: .pv (.list (nms.map PyData.str)) :: .pv (.bool two) :: .pv th :: .pv (.list (ts0.map (encPt tk c1))) :: y :: rest) μ ⟨⟨ts0, y, rfl, ho0, by simpa using hl0, by simpa using hlt0, hne0⟩, rfl⟩
  subst g2 g7
  rw [List.length_range] at g4
  exact ⟨ts, x, by rw [e0]; exact g1, g3, by omega, g6⟩
end K05
end

section
set_option Elab.async false
set_option linter.all false
set_option maxRecDepth 100000
set_option maxHeartbeats 2000000
namespace K05
open PySem PySem.Spec PyProof.Rows L2 PVL PVLP
def depth : Nat := 20
def loops : Nat := 0
theorem treesT : Trees tab := ⟨rfl, rfl, rfl, rfl, rfl, rfl, rfl, rfl⟩
theorem smithT : Smith tab := ⟨rfl, rfl, rfl, rfl, rfl, rfl, rfl, rfl, rfl, rfl, rfl⟩
def names5 (c : Int) (k : Nat) : List Str := (List.range k).map fun j : Nat => word c j
theorem nodup_map_on {α β : Type} (f : α → β) : ∀ {l : List α}, (∀ a ∈ l, ∀ b ∈ l, f a = f b → a = b) → l.Nodup → (l.map f).Nodup
  | [], _, _ => List.nodup_nil
  | x :: r, h, nd => by
    rw [List.nodup_cons] at nd
    rw [List.map_cons, List.nodup_cons]
    refine ⟨fun hx => ?_, nodup_map_on f (fun a ha b hb => h a (List.mem_cons_of_mem _ ha) b (List.mem_cons_of_mem _ hb)) nd.2⟩
    obtain ⟨y, hy, e⟩ := List.mem_map.mp hx
    have := h y (List.mem_cons_of_mem _ hy) x List.mem_cons_self e
    exact nd.1 (this ▸ hy)
theorem names5_nodup (c : Int) {k : Nat} (hk : k ≤ 9) : (names5 c k).Nodup :=
  nodup_map_on (fun j : Nat => word c j) (fun a ha b hb e => by
    rw [List.mem_range] at ha hb
    exact word_inj (c := c) (by omega) (by omega) (by omega) (by omega) e) List.nodup_range
end K05
end

section
set_option Elab.async false
set_option linter.all false
set_option maxRecDepth 100000
set_option maxHeartbeats 2000000
namespace K05
open PySem PySem.Spec PyProof.Rows L2 PVL PVLP
variable {L : Nat}
theorem zipD_same {α : Type} (en : α → PyData) : ∀ l : List α, zipD (l.map en) (l.map en) = l.map fun x => .tuple [en x, en x]
  | [] => rfl
  | x :: r => by
    rw [List.map_cons, zipD, zipD_same en r]
    rfl
/-- plain trees are plain data -/
theorem sh_items (st : PVLP.St) (h : ∀ p ∈ st, PyData.strOk p.1 = true) : ∀ d ∈ (encSt st).map (fun p => PyData.tuple [p.1, p.2]), Sh 2 d := by
  intro d hd
  obtain ⟨p, hp, rfl⟩ := List.mem_map.mp hd
  obtain ⟨q, hq, rfl⟩ := List.mem_map.mp hp
  refine Sh.tuple (m := 1) fun e he => ?_
  simp only [List.mem_cons, List.not_mem_nil, or_false] at he
  rcases he with rfl | rfl
  · exact Sh.str (h q hq)
  · exact Sh.tuple (m := 0) fun z hz => by
      simp only [List.mem_cons, List.not_mem_nil, or_false] at hz
      rcases hz with rfl | rfl | rfl | rfl <;> exact Sh.int _
def tailB : List S := [.for_ (.rng1 (.cst (.int 2))) (.nm 15) [.asg 16 (.callP 31 [.var 14]), .iff (.or (.not (.op1 (.isC 11) (.var 16))) (.or (.not (.isi "list" (.op1 (.attr 0) (.var 16)))) (.cmp .ne (.bi .len [.op1 (.attr 0) (.var 16)]) (.bi .len [.var 12])))) [.ret (.cst (.bool false))] [], .for_ (.zip (.op1 (.attr 0) (.var 16)) (.var 12)) (.tp [17, 18]) [.iff (.not (.tru (.call 61 [.var 17, .var 18]))) [.ret (.cst (.bool false))] []], .iff (.or (.not (.op1 .isD (.op1 (.attr 1) (.var 16)))) (.cmp .ne (.op1 .litems (.op1 (.attr 1) (.var 16))) (.var 13))) [.ret (.cst (.bool false))] []], .ret (.cmp .eq (.var 14) (.var 9))]
theorem rows_loop (n : Nat) (rows : List PVLP.Row) (x0 x1 x2 x3 x4 x5 x6 x7 x8 x9 x10 x11 x12 x13 x14 x15 x16 x17 x18 : SV) (μ : Store) : ∃ x y, fLoop (.tp [17, 18]) (fun e m' => runB (runF tab sub L (n + 1)) sub L [.iff (.not (.tru (.call 61 [.var 17, .var 18]))) [.ret (.cst (.bool false))] []] e m') (zipD (rows.map rowD) (rows.map rowD)) [x0, x1, x2, x3, x4, x5, x6, x7, x8, x9, x10, x11, x12, x13, x14, x15, x16, x17, x18] μ = .nx [x0, x1, x2, x3, x4, x5, x6, x7, x8, x9, x10, x11, x12, x13, x14, x15, x16, x, y] μ := by
  obtain ⟨e, m', h1, ⟨x, y, h2⟩, h3⟩ := fLoop_inv (en := fun r => PyData.tuple [rowD r, rowD r]) (tg := .tp [17, 18]) (f := fun e m' => runB (runF tab sub L (n + 1)) sub L [.iff (.not (.tru (.call 61 [.var 17, .var 18]))) [.ret (.cst (.bool false))] []] e m') (l := rows)
    (fun d env' m => (∃ x y, env' = [x0, x1, x2, x3, x4, x5, x6, x7, x8, x9, x10, x11, x12, x13, x14, x15, x16, x, y]) ∧ m = μ)
    (fun d r q e env' m' ⟨⟨x, y, he⟩, hm⟩ => by
      subst he hm
      refine ⟨_, rfl, ?_⟩
      refine ⟨[x0, x1, x2, x3, x4, x5, x6, x7, x8, x9, x10, x11, x12, x13, x14, x15, x16, .pv (rowD r), .pv (rowD r)], _, ?_, ⟨_, _, rfl⟩, rfl⟩
      have r1 := row_eq (L := L) n r m'
      simp -implicitDefEqProofs [r1, truP])
    [x0, x1, x2, x3, x4, x5, x6, x7, x8, x9, x10, x11, x12, x13, x14, x15, x16, x17, x18] μ ⟨⟨_, _, rfl⟩, rfl⟩
  subst h2 h3
  rw [zipD_same]
  exact ⟨x, y, h1⟩
theorem noLoc_codeV (P : List Fn) : noLoc (codeV P) = true := by
  have e : noLoc (codeV P) = noLocD ((.none, .int 11) :: [(.int 0, .list ((codeP (startsFrom 0 P) P 0).map rowD)), (.int 1, dD (encSt (startsFrom 0 P)))]) := by
    unfold noLoc codeV
    rfl
  rw [e]
  unfold noLocD
  have h1 : noLocP (.none, .int 11) = true := rfl
  rw [h1, noLocD_all _ (fun p hp => by
    simp only [List.mem_cons, List.not_mem_nil, or_false] at hp
    rcases hp with rfl | rfl
    · exact noLocs_row _
    · exact noLoc_st _)]
  rfl
theorem tail_eq (n : Nat) {P : List Fn} (G : Good P) (hP : ∀ p ∈ P, Sh 60 (encP p)) (hnl : noLoc (.list (P.map encP)) = true) (hl : tot P ≤ 1000000) (rows : List PVLP.Row) (hr : rows = codeP (startsFrom 0 P) P 0) (heads : List PyData) (hh : heads = (encSt (startsFrom 0 P)).map fun p => .tuple [p.1, p.2])
    (x0 x1 x2 x3 x4 x5 x6 x7 x8 x10 x11 x15 x16 x17 x18 : SV) (μ : Store) :
    ∃ μ', toRs (runB (runF tab sub L (n + 28)) sub L tailB [x0, x1, x2, x3, x4, x5, x6, x7, x8, .pv (.list (P.map encP)), x10, x11, .pv (.list (rows.map rowD)), .pv (.list heads), .pv (.list (P.map encP)), x15, x16, x17, x18] μ) = .ok (.bool true) μ' := by
  have hs := smithed_eq (sub := sub) (L := L) treesT smithT (n := n + 28) (by omega) G hl
  have hcl : noLoc (codeV P) = true := noLoc_codeV P
  have hne : cmpP .ne (.list heads) (.list heads) = some (.bool false) := by
    rw [hh]
    refine PVL.ne_list (m := 2) (sh_items _ fun p hp => ?_) (by omega)
    have : p.1 ∈ (startsFrom 0 P).map (·.1) := List.mem_map.mpr ⟨p, hp, rfl⟩
    rw [starts_names] at this
    obtain ⟨w, hw, hz⟩ := List.mem_map.mp this
    rw [← hz]
    exact G.ok w hw
  have heq : cmpP .eq (.list (P.map encP)) (.list (P.map encP)) = some (.bool true) := by
    refine PVL.eq_list (m := 60) (fun d hd => ?_) (by omega)
    obtain ⟨p, hp, rfl⟩ := List.mem_map.mp hd
    exact hP p hp
  have k0 : kitB "list" "list" = some true := by decide +kernel
  obtain ⟨e, m', h1, ⟨y, z, w, v, h2⟩, h3⟩ := fLoop_inv (en := fun k : Nat => PyData.int (0 + (k : Int))) (tg := .nm 15) (f := fun e m' => runB (runF tab sub L (n + 28)) sub L [.asg 16 (.callP 31 [.var 14]), .iff (.or (.not (.op1 (.isC 11) (.var 16))) (.or (.not (.isi "list" (.op1 (.attr 0) (.var 16)))) (.cmp .ne (.bi .len [.op1 (.attr 0) (.var 16)]) (.bi .len [.var 12])))) [.ret (.cst (.bool false))] [], .for_ (.zip (.op1 (.attr 0) (.var 16)) (.var 12)) (.tp [17, 18]) [.iff (.not (.tru (.call 61 [.var 17, .var 18]))) [.ret (.cst (.bool false))] []], .iff (.or (.not (.op1 .isD (.op1 (.attr 1) (.var 16)))) (.cmp .ne (.op1 .litems (.op1 (.attr 1) (.var 16))) (.var 13))) [.ret (.cst (.bool false))] []] e m') (l := List.range 2)
    (fun d env m => (∃ y z w v, env = [x0, x1, x2, x3, x4, x5, x6, x7, x8, .pv (.list (P.map encP)), x10, x11, .pv (.list (rows.map rowD)), .pv (.list heads), .pv (.list (P.map encP)), y, z, w, v]) ∧ m = μ)
    (fun d k r e env m' ⟨⟨y, z, w, v, he⟩, hm⟩ => by
      subst he hm
      refine ⟨_, rfl, ?_⟩
      obtain ⟨r1, r2, hrl⟩ := rows_loop (L := L) (n + 27) rows x0 x1 x2 x3 x4 x5 x6 x7 x8 (.pv (.list (P.map encP))) x10 x11 (.pv (.list (rows.map rowD))) (.pv (.list heads)) (.pv (.list (P.map encP))) (.pv (.int (0 + (k : Int)))) (.pv (codeV P)) w v m'
      refine ⟨[x0, x1, x2, x3, x4, x5, x6, x7, x8, .pv (.list (P.map encP)), x10, x11, .pv (.list (rows.map rowD)), .pv (.list heads), .pv (.list (P.map encP)), .pv (.int (0 + (k : Int))), .pv (codeV P), r1, r2], _, ?_, ⟨_, _, _, _, rfl⟩, rfl⟩
      have hnl' : noLocs [.list (P.map encP)] = true := by
        simp [noLocs, hnl]
      subst hh
      simp only [codeV, ← hr] at hs hcl hrl
      simp -implicitDefEqProofs at hs hcl hrl hne
      have fi0 : (0 : Nat) ∈ PVL.fieldsOf 11 := by decide
      have fi1 : (1 : Nat) ∈ PVL.fieldsOf 11 := by decide
      simp -implicitDefEqProofs [hs, hcl, hrl, hne, hnl', pureP, codeV, ← hr, fi0, fi1, flook, isiP, k0, runS_for])
    [x0, x1, x2, x3, x4, x5, x6, x7, x8, .pv (.list (P.map encP)), x10, x11, .pv (.list (rows.map rowD)), .pv (.list heads), .pv (.list (P.map encP)), x15, x16, x17, x18] μ ⟨⟨_, _, _, _, rfl⟩, rfl⟩
  subst h2 h3
  have e2 : rngD 0 2 = (List.range 2).map fun k : Nat => PyData.int (0 + (k : Int)) := rfl
  refine ⟨m', ?_⟩
  have t1 : (-two62 ≤ (2 : Int) ∧ (2 : Int) < two62) := by decide
  unfold tailB
  rw [runB_cons, runS_for]
  have e3 : evI (runF tab sub L (n + 28)) (.rng1 (.cst (.int 2))) [x0, x1, x2, x3, x4, x5, x6, x7, x8, .pv (.list (P.map encP)), x10, x11, .pv (.list (rows.map rowD)), .pv (.list heads), .pv (.list (P.map encP)), x15, x16, x17, x18] m' = .ok (rngD 0 2) m' := rfl
  rw [e3, thenO_ok, e2, h1]
  simp -implicitDefEqProofs [heq]
end K05
end

section
set_option Elab.async false
set_option linter.all false
set_option maxRecDepth 100000
set_option maxHeartbeats 2000000
namespace K05
open PySem PySem.Spec PyProof.Rows L2 PVL PVLP
variable {L : Nat}
theorem names5_len (c : Int) (k : Nat) : (names5 c k).length = k := by simp [names5]
theorem names5_get (c : Int) {k j : Nat} (h : j < k) : (names5 c k)[j]? = some (word c j) := by simp [names5, h]
theorem names_ev (n : Nat) (ns : List Int) (tk : Nat) (htk : tk ≤ 6) (x2 x3 x4 x5 x6 x7 x8 x9 x10 x11 x12 x13 x14 x15 x16 x17 x18 : SV) (μ : Store) :
    ev (runF tab sub L (n + 1)) (.comp (.rng1 (.bin .add (.var 1) (.cst (.int 2)))) (.nm 6) (.no) (.call 51 [.call 50 [.var 0, .cst (.int 1)], .var 6]) [6]) [.pv (.list (ns.map PyData.int)), .pv (.int (tk : Nat)), x2, x3, x4, x5, x6, x7, x8, x9, x10, x11, x12, x13, x14, x15, x16, x17, x18] μ
      = .ok (.list ((names5 (cell ns 1) (tk + 2)).map PyData.str)) μ := by
  unfold names5
  rw [List.map_map]
  refine comp_list (fun k : Nat => PyData.int (0 + (k : Int))) (fun k : Nat => PyData.str (word (cell ns 1) k)) ?_ rfl (by simp [lim]; omega) (by simp) fun k _ => ⟨_, rfl, ?_⟩
  · have t1 : (-two62 ≤ ((tk : Int) + 2) ∧ ((tk : Int) + 2) < two62) := by unfold two62; omega
    have t2 : ((tk : Int) + 2).toNat = tk + 2 := by omega
    simp -implicitDefEqProofs [t1, t2, rngD]
  · have h1 := cell_at_eq (L := L) n ns 1 μ
    have h2 := w_eq (L := L) n (cell ns 1) (k : Int) μ
    simp -implicitDefEqProofs at h1 h2
    simp -implicitDefEqProofs [h1, h2]
theorem law_true (ns : List Int) (hl : ns.length ≤ 63) : ∃ μ, runF tab sub loops (3 * depth) 62 [.list (ns.map PyData.int)] [] = .ok (.bool true) μ := by
  show Yes (runF tab sub 0 (59 + 1) 62 _ _)
  unfold runF
  simp only [tab, d_law]
  obtain ⟨tk, htk⟩ : ∃ k : Nat, cell ns 0 % 7 = (k : Int) := ⟨(cell ns 0 % 7).toNat, by omega⟩
  have htk6 : tk ≤ 6 := by omega
  have hc0 := cell_at_eq (L := 0) 58 ns 0 []
  have hc1 := cell_at_eq (L := 0) 58 ns 1 []
  simp -implicitDefEqProofs at hc0 hc1
  show Yes (toRs (runB (runF tab sub 0 59) sub 0 b_law [.pv (.list (ns.map PyData.int)), .un, .un, .un, .un, .un, .un, .un, .un, .un, .un, .un, .un, .un, .un, .un, .un, .un, .un] []))
  unfold b_law
  refine Yes.asg (d := .int (tk : Nat)) (μ1 := []) rfl (by simp -implicitDefEqProofs [hc0, htk]) ?_
  refine Yes.asg rfl (names_ev (L := 0) 58 ns tk htk6 _ _ _ _ _ _ _ _ _ _ _ _ _ _ _ _ _ []) ?_
  obtain ⟨two, h2⟩ : ∃ b : Bool, decide (cell ns 0 / 7 % 2 = 1) = b := ⟨_, rfl⟩
  refine Yes.asg (d := .bool two) (μ1 := []) rfl (by
    have e : (cell ns 0 / 7 % 2 == 1) = two := by rw [← h2]; rfl
    simp -implicitDefEqProofs [hc0, e]) ?_
  refine Yes.asg (d := encPt tk (word (cell ns 1) 24) (.num 3)) (μ1 := []) rfl (by simp -implicitDefEqProofs [lim, encPt, encI, lcode, lrD, tall, hgt, lets]) ?_
  refine Yes.asg (d := .list [encPt tk (word (cell ns 1) 24) (.num 3)]) (μ1 := []) rfl (by simp -implicitDefEqProofs [lim]) ?_
  have hcc : word (cell ns 1) (25 : Nat) ≠ word (cell ns 1) (24 : Nat) := fun e => by
    have := word_inj (c := cell ns 1) (a := 25) (b := 24) (by omega) (by omega) (by omega) (by omega) e
    omega
  simp -implicitDefEqProofs at hcc
  obtain ⟨c0, hc0'⟩ : ∃ c0, c0 = word (cell ns 1) 25 := ⟨_, rfl⟩
  obtain ⟨c1, hc1'⟩ : ∃ c1, c1 = word (cell ns 1) 24 := ⟨_, rfl⟩
  rw [← hc0', ← hc1'] at hcc
  have hcc : c0 ≠ c1 := hcc
  rw [← hc1']
  obtain ⟨cn, hcn⟩ : ∃ cn : Cn, cn = if two then [(c1, 2), (c0, tk)] else [(c0, tk)] := ⟨_, rfl⟩
  have ok0 : PyData.strOk c0 = true := hc0' ▸ word_ok _ _
  have ok1 : PyData.strOk c1 = true := hc1' ▸ word_ok _ _
  have hso : ∀ x ∈ names5 (cell ns 1) (tk + 2), PyData.strOk x = true := fun x hx => by
    obtain ⟨j, _, rfl⟩ := List.mem_map.mp hx
    exact word_ok _ _
  have hb : (c0 == c1) = false := by simpa using hcc
  have hb' : (c1 == c0) = false := by simpa using fun e => hcc (Eq.symm e)
  have a0 : cn.lookup c0 = some tk := by
    rw [hcn]
    cases two <;> simp [List.lookup, hb]
  have a1 : two = true → cn.lookup c1 = some 2 := fun h => by
    rw [hcn, h]
    simp [List.lookup]
  have har : ∀ f m, cn.lookup f = some m → f = c0 ∨ f = c1 := fun f m h => by
    have := lookup_mem h
    rw [hcn] at this
    cases two <;> simp at this <;> rcases this with h | h <;> simp [h]
  have hn : names5 (cell ns 1) (tk + 2) ≠ [] := fun z => by
    have := congrArg List.length z
    rw [names5_len] at this
    simp at this
  obtain ⟨ts, x, hs1, hs2, hs3, hs4⟩ := stack_eq (L := 0) ns c0 c1 hcc ok0 ok1 hso hn tk (by omega) two (ar := fun f => cn.lookup f) a0 a1 55 (ns.length - 2) (by omega) (by omega) (encPt tk c1 (.num 3)) [.num 3] (by simp [lenL, len]) (by simp)
    (fun t ht => by
      simp only [List.mem_singleton] at ht
      subst ht
      exact ⟨by simp [tall], trivial, trivial, trivial⟩) (by simp) [.un, .un, .un, .un, .un, .un, .un, .un, .un, .un, .un, .un] [] .un
  refine Yes.for_ (ds := rngD 2 (ns.length - 2)) (by
    have m2 : biP .min2 [.int (ns.length : Nat), .int 202] = some (.int (ns.length : Nat)) := by
      show some (PyData.int (if (202 : Int) < (ns.length : Nat) then 202 else (ns.length : Nat))) = _
      rw [if_neg (by omega)]
    have t1 : (-two62 ≤ (2 : Int) ∧ (2 : Int) < two62 ∧ -two62 ≤ (ns.length : Int) ∧ (ns.length : Int) < two62) := by unfold two62; omega
    have t2 : ((ns.length : Int) - 2).toNat = ns.length - 2 := by omega
    simp -implicitDefEqProofs [m2, t1, t2]) hs1 ?_
  obtain ⟨rs, t, rfl⟩ : ∃ rs t, ts = rs ++ [t] := by
    rcases List.eq_nil_or_concat ts with h | ⟨l, b, h⟩
    · exact absurd h hs4
    · exact ⟨l, b, by rw [h]; simp⟩
  have ho := hs2 t (by simp)
  have hlt : len t ≤ 401 := by
    rw [lenL_app] at hs3
    simp only [lenL] at hs3
    omega
  have g0 : atI ((names5 (cell ns 1) (tk + 2)).map PyData.str) (tk : Nat) = some (.str (word (cell ns 1) (tk : Nat))) := by
    rw [atI_cast, List.getElem?_map, names5_get _ (by omega)]
    rfl
  have g1 : atI ((names5 (cell ns 1) (tk + 2)).map PyData.str) ((tk : Int) + 1) = some (.str (word (cell ns 1) ((tk : Int) + 1))) := by
    have e : ((tk : Int) + 1) = ((tk + 1 : Nat) : Int) := by omega
    rw [e, atI_cast, List.getElem?_map, names5_get _ (by omega)]
    rfl
  have l1 := let_eq (L := 0) c1 (word (cell ns 1) ((tk : Int) + 1)) tk 57 (.num 3) t (by simp only [len]; omega) []
  have l2 := let_eq (L := 0) c1 (word (cell ns 1) (tk : Nat)) tk 57 (.num 3) (.lett (word (cell ns 1) ((tk : Int) + 1)) (.num 3) t) (by simp only [len]; omega) []
  obtain ⟨u, hu⟩ : ∃ u, u = Tr.lett (word (cell ns 1) (tk : Nat)) (.num 3) (.lett (word (cell ns 1) ((tk : Int) + 1)) (.num 3) t) := ⟨_, rfl⟩
  refine Yes.asg (d := encPt tk c1 u) (μ1 := []) rfl (by
    simp -implicitDefEqProofs [g0, g1, l1, l2, hu]) ?_
  have hcut : cutD ((names5 (cell ns 1) (tk + 2)).map PyData.str) none (some (tk : Nat)) = (names5 (cell ns 1) tk).map PyData.str := by
    rw [cutD_map, cut_to (by omega) (by rw [names5_len]; omega)]
    congr 1
    simp [names5, List.map_take.symm, List.take_range]
  refine Yes.asg (d := .list ((names5 (cell ns 1) tk).map PyData.str)) (μ1 := []) rfl (by
    simp -implicitDefEqProofs [ev_slc_ns, hcut]) ?_
  have hw25 := w_eq (L := 0) 58 (cell ns 1) 25 []
  have hw24 := w_eq (L := 0) 58 (cell ns 1) 24 []
  refine Yes.asg (d := .list [.str c0, .str c1]) (μ1 := []) rfl (by
    simp -implicitDefEqProofs [hc1, hw25, hw24, lim, hc0', hc1']) ?_
  have hall : names5 (cell ns 1) (tk + 2) = names5 (cell ns 1) tk ++ [word (cell ns 1) (tk : Nat)] ++ [word (cell ns 1) ((tk : Int) + 1)] := by
    have e : ((tk : Int) + 1) = ((tk + 1 : Nat) : Int) := by omega
    rw [e]
    simp [names5, List.range_succ]
  have hwf : wf (fun f => cn.lookup f) u (names5 (cell ns 1) tk) := by
    rw [hu]
    refine ⟨trivial, trivial, ?_⟩
    rw [← hall]
    exact ho.w
  have htu : tall u ≤ 11 := by
    rw [hu]
    have := ho.tl
    simp only [tall]
    omega
  have hfu : few u := by
    rw [hu]
    exact ⟨trivial, trivial, ho.fw⟩
  have hok : okT u := by
    rw [hu]
    exact ⟨word_ok _ _, trivial, word_ok _ _, trivial, ho.so⟩
  have hlu : len u ≤ 405 := by
    rw [hu]
    simp only [len]
    omega
  clear hu l1 l2 hs1 g0 g1 hcut hall
  obtain ⟨ps, hps⟩ : ∃ ps, ps = names5 (cell ns 1) tk := ⟨_, rfl⟩
  have psl : ps.length = tk := by rw [hps, names5_len]
  have psn : ps.Nodup := by rw [hps]; exact names5_nodup _ (by omega)
  have pso : ∀ x ∈ ps, PyData.strOk x = true := fun x hx => by
    rw [hps] at hx
    obtain ⟨j, _, rfl⟩ := List.mem_map.mp hx
    exact word_ok _ _
  rw [← hps] at hwf ⊢
  have hnm := named_eq (L := 0) c0 c1 (ar := fun f => cn.lookup f) har 11 u htu hfu ps hwf 59 (by omega) []
  refine Yes.asg (d := .list [encP (c0, ps, u)]) (μ1 := []) rfl (by
    simp -implicitDefEqProofs [encPt, hnm, lim, encP, encK]) ?_
  obtain ⟨bg, hbg⟩ : ∃ bg : Nat, bg = if two then 2 else 0 := ⟨_, rfl⟩
  refine Yes.asg (d := .int (bg : Nat)) (μ1 := []) rfl (by
    have m2 : binP .mul (.int 2) (.int (if two then 1 else 0)) = some (.int (bg : Nat)) := by
      rw [PVL.mul_int (.inl (by omega)), hbg]
      cases two <;> rfl
    simp -implicitDefEqProofs [m2]) ?_
  obtain ⟨v0, hv0⟩ : ∃ v : Nat × Nat × Nat × Nat, v = (bg, tk, tk + lets u, hgt u) := ⟨_, rfl⟩
  obtain ⟨v1, hv1⟩ : ∃ v : Nat × Nat × Nat × Nat, v = (0, 2, 2, 1) := ⟨_, rfl⟩
  refine Yes.asg (d := .list [encV v0, encV v1]) (μ1 := []) rfl (by
    simp -implicitDefEqProofs [encPt, lim, encV, hv0, hv1, psl]) ?_
  have hstl : ∀ (st : PVLP.St), st.lookup c0 = some v0 → (two = true → st.lookup c1 = some v1) → ∀ f m, cn.lookup f = some m → st.lookup f = some (if f = c1 then v1 else v0) := fun st s0 s1 f m h => by
    rcases har f m h with e | e
    · rw [e, if_neg hcc]
      exact s0
    · rw [e, if_pos rfl]
      refine s1 ?_
      cases two with
      | true => rfl
      | false =>
        rw [e, hcn] at h
        simp [List.lookup, hb'] at h
  obtain ⟨P, hP⟩ : ∃ P : List Fn, P = if two then [(c1, [Str.ofString "x", Str.ofString "y"], Tr.name (Str.ofString "y")), (c0, ps, u)] else [(c0, ps, u)] := ⟨_, rfl⟩
  have hcP : counts P = cn := by
    rw [hP, hcn]
    cases two <;> simp [counts, psl]
  have sx : PyData.strOk (Str.ofString "x") = true := by decide +kernel
  have sy : PyData.strOk (Str.ofString "y") = true := by decide +kernel
  have sxy : Str.ofString "x" ≠ Str.ofString "y" := by decide +kernel
  have hG : Good P := by
    cases h : two with
    | false =>
      rw [h] at hP
      simp only [Bool.false_eq_true, if_false] at hP
      rw [hP]
      refine good_one ok0 psn (by omega) hfu (by omega) ?_
      rw [← hP, hcP]
      exact hwf
    | true =>
      rw [h] at hP
      simp only [if_true] at hP
      rw [hP]
      refine good_two hcc ok0 ok1 psn (by omega) (by simp [sxy]) (by simp) hfu (by omega) trivial (by simp [tall]) ?_ ?_
      · rw [← hP, hcP]
        exact hwf
      · simp [wf]
  have hPs : ∀ p ∈ P, Sh 60 (encP p) := by
    have hu60 : Sh 60 (encP (c0, ps, u)) := sh_encP (m := 59) ok0 pso hok (by simp only; omega) (by omega)
    intro p hp
    rw [hP] at hp
    cases h : two with
    | false =>
      rw [h] at hp
      simp at hp
      rw [hp]
      exact hu60
    | true =>
      rw [h] at hp
      simp at hp
      rcases hp with hp | hp
      · rw [hp]
        exact sh_encP (m := 59) ok1 (by simp [sx, sy]) (by exact sy) (by simp [tall]) (by omega)
      · rw [hp]
        exact hu60
  have htot : tot P ≤ 1000000 := by
    rw [hP]
    cases two <;> simp [tot, len] <;> omega
  obtain ⟨st, hst⟩ : ∃ st, st = startsFrom 0 P := ⟨_, rfl⟩
  have hste : st = if two then [(c1, v1), (c0, v0)] else [(c0, v0)] := by
    rw [hst, hP, hv0, hv1, hbg]
    cases two <;> simp [startsFrom, psl, len, lets, hgt]
  have st0 : st.lookup c0 = some v0 := by
    rw [hste]
    cases two <;> simp [List.lookup, hb]
  have st1 : two = true → st.lookup c1 = some v1 := fun h => by
    rw [hste, h]
    simp [List.lookup]
  have hrd := ready_eq (L := 0) c1 st ps v0 v1 57 (lcode tk u 0 []) bg (by rw [lcode_len]; omega) (okR_code (hstl st st0 st1) tk u 0 [] (by rw [List.append_nil]; exact hwf)) []
  rw [mv_lcode, ← psl, done_code (ar := fun f => cn.lookup f) st psn u _ _ (by rw [List.append_nil]; exact hwf), List.append_nil] at hrd
  obtain ⟨rows1, hrows1⟩ : ∃ r, r = code st u bg ps ++ [PVLP.Row.back] := ⟨_, rfl⟩
  have hrd : runF tab sub 0 59 60 [.list ((lcode ps.length u 0 []).map (lrD c1)), .list (ps.map PyData.str), .int (bg : Nat), .list [encV v0, encV v1]] [] = .ok (.list (rows1.map rowD)) [] := by
    rw [hrd, hrows1]
    simp
  refine Yes.asg (d := .list (rows1.map rowD)) (μ1 := []) rfl (by
    rw [psl] at hrd
    simp -implicitDefEqProofs [encPt, hrd]) ?_
  refine Yes.asg (d := .list [.tuple [.str c0, encV v0]]) (μ1 := []) rfl (by
    simp -implicitDefEqProofs [lim]) ?_
  have hcodeP : codeP st P 0 = if two then [PVLP.Row.load 1, PVLP.Row.back] ++ rows1 else rows1 := by
    rw [hP, hrows1, hbg]
    have : slot [Str.ofString "x", Str.ofString "y"] (Str.ofString "y") = 1 := by
      have := slot_right (x := Str.ofString "y") (ls := [Str.ofString "y"]) (by simp) [Str.ofString "x"]
      exact this
    cases two <;> simp [codeP, PVLP.code, len, this]
  have hitems : ((encSt st).map fun p => PyData.tuple [p.1, p.2]) = if two then [.tuple [.str c1, encV v1], .tuple [.str c0, encV v0]] else [.tuple [.str c0, encV v0]] := by
    rw [hste]
    cases two <;> simp [encSt]
  refine Yes.step (env' := [.pv (.list (ns.map PyData.int)), .pv (.int (tk : Nat)), .pv (.list (ps.map PyData.str)), .pv (.bool two), .pv (encPt tk c1 (.num 3)), .pv (.list ((rs ++ [t]).map (encPt tk c1))), x, .pv (encPt tk c1 u), .pv (.list [.str c0, .str c1]), .pv (.list (P.map encP)), .pv (.int (bg : Nat)), .pv (.list [encV v0, encV v1]), .pv (.list ((codeP st P 0).map rowD)), .pv (.list ((encSt st).map fun p => .tuple [p.1, p.2])), .un, .un, .un, .un, .un]) (μ1 := []) ?_ ?_
  · rw [hitems, hcodeP, hP]
    have hr1 : rows1.length < 900000 := by
      rw [hrows1, List.length_append, code_len, List.length_singleton]
      omega
    have q : 2 + rows1.length ≤ 1000000 := by omega
    cases h : two with
    | false => simp -implicitDefEqProofs
    | true => simp -implicitDefEqProofs [add_list, lim, q, encP, encK, enc, rowD]
  · refine Yes.asg (d := .list (P.map encP)) (μ1 := []) rfl (by simp -implicitDefEqProofs) ?_
    obtain ⟨μ', h⟩ := tail_eq (L := 0) 31 hG hPs (noLoc_P P) htot (codeP st P 0) (by rw [hst]) ((encSt st).map fun p => .tuple [p.1, p.2]) (by rw [hst]) (.pv (.list (ns.map PyData.int))) (.pv (.int (tk : Nat))) (.pv (.list (ps.map PyData.str))) (.pv (.bool two)) (.pv (encPt tk c1 (.num 3))) (.pv (.list ((rs ++ [t]).map (encPt tk c1)))) x (.pv (encPt tk c1 u)) (.pv (.list [.str c0, .str c1])) (.pv (.int (bg : Nat))) (.pv (.list [encV v0, encV v1])) .un .un .un .un []
    exact ⟨μ', h⟩
end K05
end

section
namespace K05
open PySem PySem.Spec PyProof.Rows L2 PVL
/-! ## the end -/
set_option maxHeartbeats 4000000
set_option maxRecDepth 100000
set_option Elab.async false
theorem hexm_of {K : PySem.W.Frag} {C0 C1 C2 C3 C4 C5 : Addr}
    (xb0 : PySem.W.subIn K (.ref C0) (.type "BaseException") = some true) (xi0 : PySem.W.isClsIn K C0 = true) (xt0 : PySem.W.typeIn K (.ref C0) = some (.type "type"))
    (xb1 : PySem.W.subIn K (.ref C1) (.type "BaseException") = some true) (xi1 : PySem.W.isClsIn K C1 = true) (xt1 : PySem.W.typeIn K (.ref C1) = some (.type "type"))
    (xb2 : PySem.W.subIn K (.ref C2) (.type "BaseException") = some true) (xi2 : PySem.W.isClsIn K C2 = true) (xt2 : PySem.W.typeIn K (.ref C2) = some (.type "type"))
    (xb3 : PySem.W.subIn K (.ref C3) (.type "BaseException") = some true) (xi3 : PySem.W.isClsIn K C3 = true) (xt3 : PySem.W.typeIn K (.ref C3) = some (.type "type"))
    (xb4 : PySem.W.subIn K (.ref C4) (.type "BaseException") = some true) (xi4 : PySem.W.isClsIn K C4 = true) (xt4 : PySem.W.typeIn K (.ref C4) = some (.type "type"))
    (xb5 : PySem.W.subIn K (.ref C5) (.type "BaseException") = some true) (xi5 : PySem.W.isClsIn K C5 = true) (xt5 : PySem.W.typeIn K (.ref C5) = some (.type "type"))
    (xs0_0 : PySem.W.subIn K (.ref C0) (.ref C0) = some true)
    (xs0_1 : PySem.W.subIn K (.ref C0) (.ref C1) = some false)
    (xs0_2 : PySem.W.subIn K (.ref C0) (.ref C2) = some false)
    (xs0_3 : PySem.W.subIn K (.ref C0) (.ref C3) = some false)
    (xs0_4 : PySem.W.subIn K (.ref C0) (.ref C4) = some false)
    (xs0_5 : PySem.W.subIn K (.ref C0) (.ref C5) = some false)
    (xs1_0 : PySem.W.subIn K (.ref C1) (.ref C0) = some true)
    (xs1_1 : PySem.W.subIn K (.ref C1) (.ref C1) = some true)
    (xs1_2 : PySem.W.subIn K (.ref C1) (.ref C2) = some false)
    (xs1_3 : PySem.W.subIn K (.ref C1) (.ref C3) = some false)
    (xs1_4 : PySem.W.subIn K (.ref C1) (.ref C4) = some false)
    (xs1_5 : PySem.W.subIn K (.ref C1) (.ref C5) = some false)
    (xs2_0 : PySem.W.subIn K (.ref C2) (.ref C0) = some true)
    (xs2_1 : PySem.W.subIn K (.ref C2) (.ref C1) = some false)
    (xs2_2 : PySem.W.subIn K (.ref C2) (.ref C2) = some true)
    (xs2_3 : PySem.W.subIn K (.ref C2) (.ref C3) = some false)
    (xs2_4 : PySem.W.subIn K (.ref C2) (.ref C4) = some false)
    (xs2_5 : PySem.W.subIn K (.ref C2) (.ref C5) = some false)
    (xs3_0 : PySem.W.subIn K (.ref C3) (.ref C0) = some true)
    (xs3_1 : PySem.W.subIn K (.ref C3) (.ref C1) = some false)
    (xs3_2 : PySem.W.subIn K (.ref C3) (.ref C2) = some false)
    (xs3_3 : PySem.W.subIn K (.ref C3) (.ref C3) = some true)
    (xs3_4 : PySem.W.subIn K (.ref C3) (.ref C4) = some false)
    (xs3_5 : PySem.W.subIn K (.ref C3) (.ref C5) = some false)
    (xs4_0 : PySem.W.subIn K (.ref C4) (.ref C0) = some true)
    (xs4_1 : PySem.W.subIn K (.ref C4) (.ref C1) = some false)
    (xs4_2 : PySem.W.subIn K (.ref C4) (.ref C2) = some false)
    (xs4_3 : PySem.W.subIn K (.ref C4) (.ref C3) = some false)
    (xs4_4 : PySem.W.subIn K (.ref C4) (.ref C4) = some true)
    (xs4_5 : PySem.W.subIn K (.ref C4) (.ref C5) = some false)
    (xs5_0 : PySem.W.subIn K (.ref C5) (.ref C0) = some true)
    (xs5_1 : PySem.W.subIn K (.ref C5) (.ref C1) = some false)
    (xs5_2 : PySem.W.subIn K (.ref C5) (.ref C2) = some false)
    (xs5_3 : PySem.W.subIn K (.ref C5) (.ref C3) = some false)
    (xs5_4 : PySem.W.subIn K (.ref C5) (.ref C4) = some false)
    (xs5_5 : PySem.W.subIn K (.ref C5) (.ref C5) = some true)
    : ∀ c c' b, sub c c' = some b → PySem.W.exmOne K (.ref ([C0, C1, C2, C3, C4, C5, 0, 0, 0, 0].getD c 0)) (.ref ([C0, C1, C2, C3, C4, C5, 0, 0, 0, 0].getD c' 0)) = some b := by
    intro c c' b h
    unfold sub at h
    split at h
    · cases h; exact exm_of2 xb0 xi0 xt0 xs0_0
    · cases h; exact exm_of2 xb1 xi1 xt1 xs0_1
    · cases h; exact exm_of2 xb2 xi2 xt2 xs0_2
    · cases h; exact exm_of2 xb3 xi3 xt3 xs0_3
    · cases h; exact exm_of2 xb4 xi4 xt4 xs0_4
    · cases h; exact exm_of2 xb5 xi5 xt5 xs0_5
    · cases h; exact exm_of2 xb0 xi0 xt0 xs1_0
    · cases h; exact exm_of2 xb1 xi1 xt1 xs1_1
    · cases h; exact exm_of2 xb2 xi2 xt2 xs1_2
    · cases h; exact exm_of2 xb3 xi3 xt3 xs1_3
    · cases h; exact exm_of2 xb4 xi4 xt4 xs1_4
    · cases h; exact exm_of2 xb5 xi5 xt5 xs1_5
    · cases h; exact exm_of2 xb0 xi0 xt0 xs2_0
    · cases h; exact exm_of2 xb1 xi1 xt1 xs2_1
    · cases h; exact exm_of2 xb2 xi2 xt2 xs2_2
    · cases h; exact exm_of2 xb3 xi3 xt3 xs2_3
    · cases h; exact exm_of2 xb4 xi4 xt4 xs2_4
    · cases h; exact exm_of2 xb5 xi5 xt5 xs2_5
    · cases h; exact exm_of2 xb0 xi0 xt0 xs3_0
    · cases h; exact exm_of2 xb1 xi1 xt1 xs3_1
    · cases h; exact exm_of2 xb2 xi2 xt2 xs3_2
    · cases h; exact exm_of2 xb3 xi3 xt3 xs3_3
    · cases h; exact exm_of2 xb4 xi4 xt4 xs3_4
    · cases h; exact exm_of2 xb5 xi5 xt5 xs3_5
    · cases h; exact exm_of2 xb0 xi0 xt0 xs4_0
    · cases h; exact exm_of2 xb1 xi1 xt1 xs4_1
    · cases h; exact exm_of2 xb2 xi2 xt2 xs4_2
    · cases h; exact exm_of2 xb3 xi3 xt3 xs4_3
    · cases h; exact exm_of2 xb4 xi4 xt4 xs4_4
    · cases h; exact exm_of2 xb5 xi5 xt5 xs4_5
    · cases h; exact exm_of2 xb0 xi0 xt0 xs5_0
    · cases h; exact exm_of2 xb1 xi1 xt1 xs5_1
    · cases h; exact exm_of2 xb2 xi2 xt2 xs5_2
    · cases h; exact exm_of2 xb3 xi3 xt3 xs5_3
    · cases h; exact exm_of2 xb4 xi4 xt4 xs5_4
    · cases h; exact exm_of2 xb5 xi5 xt5 xs5_5
    · cases h
theorem hisv_of {K : PySem.W.Frag} {C0 C1 C2 C3 C4 C5 : Addr}
    (xb0 : PySem.W.subIn K (.ref C0) (.type "BaseException") = some true) (y0a : PySem.W.findIn K (.ref C0) "__getattribute__" = some (some (.builtin "BaseException.__getattribute__"))) (y0b : PySem.W.findIn K (.ref C0) "__getattr__" = some none) (y0c : PySem.W.hasDictIn K C0 = true) (y0d : PySem.W.findIn K (.ref C0) "__class__" = some (some (.builtin "object.__class__"))) (y0e : PySem.W.specialIn K (.builtin "object.__class__") "__get__" = some (some (.builtin "getset_descriptor.__get__"))) (y0f : PySem.W.takesIn K (.builtin "object.__class__") = some true) (y0g : PySem.W.mroIn K C0 (.type "object") = some true) (y0h : PySem.W.subIn K (.ref C0) (.type "ValueError") = some true)
    (xb1 : PySem.W.subIn K (.ref C1) (.type "BaseException") = some true) (y1a : PySem.W.findIn K (.ref C1) "__getattribute__" = some (some (.builtin "BaseException.__getattribute__"))) (y1b : PySem.W.findIn K (.ref C1) "__getattr__" = some none) (y1c : PySem.W.hasDictIn K C1 = true) (y1d : PySem.W.findIn K (.ref C1) "__class__" = some (some (.builtin "object.__class__"))) (y1e : PySem.W.specialIn K (.builtin "object.__class__") "__get__" = some (some (.builtin "getset_descriptor.__get__"))) (y1f : PySem.W.takesIn K (.builtin "object.__class__") = some true) (y1g : PySem.W.mroIn K C1 (.type "object") = some true) (y1h : PySem.W.subIn K (.ref C1) (.type "ValueError") = some true)
    (xb2 : PySem.W.subIn K (.ref C2) (.type "BaseException") = some true) (y2a : PySem.W.findIn K (.ref C2) "__getattribute__" = some (some (.builtin "BaseException.__getattribute__"))) (y2b : PySem.W.findIn K (.ref C2) "__getattr__" = some none) (y2c : PySem.W.hasDictIn K C2 = true) (y2d : PySem.W.findIn K (.ref C2) "__class__" = some (some (.builtin "object.__class__"))) (y2e : PySem.W.specialIn K (.builtin "object.__class__") "__get__" = some (some (.builtin "getset_descriptor.__get__"))) (y2f : PySem.W.takesIn K (.builtin "object.__class__") = some true) (y2g : PySem.W.mroIn K C2 (.type "object") = some true) (y2h : PySem.W.subIn K (.ref C2) (.type "ValueError") = some true)
    (xb3 : PySem.W.subIn K (.ref C3) (.type "BaseException") = some true) (y3a : PySem.W.findIn K (.ref C3) "__getattribute__" = some (some (.builtin "BaseException.__getattribute__"))) (y3b : PySem.W.findIn K (.ref C3) "__getattr__" = some none) (y3c : PySem.W.hasDictIn K C3 = true) (y3d : PySem.W.findIn K (.ref C3) "__class__" = some (some (.builtin "object.__class__"))) (y3e : PySem.W.specialIn K (.builtin "object.__class__") "__get__" = some (some (.builtin "getset_descriptor.__get__"))) (y3f : PySem.W.takesIn K (.builtin "object.__class__") = some true) (y3g : PySem.W.mroIn K C3 (.type "object") = some true) (y3h : PySem.W.subIn K (.ref C3) (.type "ValueError") = some true)
    (xb4 : PySem.W.subIn K (.ref C4) (.type "BaseException") = some true) (y4a : PySem.W.findIn K (.ref C4) "__getattribute__" = some (some (.builtin "BaseException.__getattribute__"))) (y4b : PySem.W.findIn K (.ref C4) "__getattr__" = some none) (y4c : PySem.W.hasDictIn K C4 = true) (y4d : PySem.W.findIn K (.ref C4) "__class__" = some (some (.builtin "object.__class__"))) (y4e : PySem.W.specialIn K (.builtin "object.__class__") "__get__" = some (some (.builtin "getset_descriptor.__get__"))) (y4f : PySem.W.takesIn K (.builtin "object.__class__") = some true) (y4g : PySem.W.mroIn K C4 (.type "object") = some true) (y4h : PySem.W.subIn K (.ref C4) (.type "ValueError") = some true)
    (xb5 : PySem.W.subIn K (.ref C5) (.type "BaseException") = some true) (y5a : PySem.W.findIn K (.ref C5) "__getattribute__" = some (some (.builtin "BaseException.__getattribute__"))) (y5b : PySem.W.findIn K (.ref C5) "__getattr__" = some none) (y5c : PySem.W.hasDictIn K C5 = true) (y5d : PySem.W.findIn K (.ref C5) "__class__" = some (some (.builtin "object.__class__"))) (y5e : PySem.W.specialIn K (.builtin "object.__class__") "__get__" = some (some (.builtin "getset_descriptor.__get__"))) (y5f : PySem.W.takesIn K (.builtin "object.__class__") = some true) (y5g : PySem.W.mroIn K C5 (.type "object") = some true) (y5h : PySem.W.subIn K (.ref C5) (.type "ValueError") = some true)
    : ∀ c c', sub c c' = some true → IsVal K ([C0, C1, C2, C3, C4, C5, 0, 0, 0, 0].getD c 0) := by
    intro c c' h
    unfold sub at h
    split at h
    · exact ⟨⟨y0a, y0b, xb0, y0c, y0d, y0e, y0f, y0g⟩, kitOne_val y0h⟩
    · cases h
    · cases h
    · cases h
    · cases h
    · cases h
    · exact ⟨⟨y1a, y1b, xb1, y1c, y1d, y1e, y1f, y1g⟩, kitOne_val y1h⟩
    · exact ⟨⟨y1a, y1b, xb1, y1c, y1d, y1e, y1f, y1g⟩, kitOne_val y1h⟩
    · cases h
    · cases h
    · cases h
    · cases h
    · exact ⟨⟨y2a, y2b, xb2, y2c, y2d, y2e, y2f, y2g⟩, kitOne_val y2h⟩
    · cases h
    · exact ⟨⟨y2a, y2b, xb2, y2c, y2d, y2e, y2f, y2g⟩, kitOne_val y2h⟩
    · cases h
    · cases h
    · cases h
    · exact ⟨⟨y3a, y3b, xb3, y3c, y3d, y3e, y3f, y3g⟩, kitOne_val y3h⟩
    · cases h
    · cases h
    · exact ⟨⟨y3a, y3b, xb3, y3c, y3d, y3e, y3f, y3g⟩, kitOne_val y3h⟩
    · cases h
    · cases h
    · exact ⟨⟨y4a, y4b, xb4, y4c, y4d, y4e, y4f, y4g⟩, kitOne_val y4h⟩
    · cases h
    · cases h
    · cases h
    · exact ⟨⟨y4a, y4b, xb4, y4c, y4d, y4e, y4f, y4g⟩, kitOne_val y4h⟩
    · cases h
    · exact ⟨⟨y5a, y5b, xb5, y5c, y5d, y5e, y5f, y5g⟩, kitOne_val y5h⟩
    · cases h
    · cases h
    · cases h
    · cases h
    · exact ⟨⟨y5a, y5b, xb5, y5c, y5d, y5e, y5f, y5g⟩, kitOne_val y5h⟩
    · cases h
theorem all_mk {l : PySem.W.OpenLaw} {w : World} {K : PySem.W.Frag} {h : Heap} {mg : Str → Option Value} {fa : Addr} (X : K.In h) (G : h.Ns mainGlobals mg) (hfa : mg "law" = some (.ref fa))
    {f6 : Addr} {od6 an6 : Option Addr} {sl6 : Array (Option Value)} {oc6 kV6 dc6 pm6 cd6 ct6 : Value}
    {f7 : Addr} {od7 an7 : Option Addr} {sl7 : Array (Option Value)} {oc7 kV7 dc7 pm7 cd7 ct7 : Value}
    {f8 : Addr} {od8 an8 : Option Addr} {sl8 : Array (Option Value)} {oc8 kV8 dc8 pm8 cd8 ct8 : Value}
    {f9 : Addr} {od9 an9 : Option Addr} {sl9 : Array (Option Value)} {oc9 kV9 dc9 pm9 cd9 ct9 : Value}
    {f10 : Addr} {od10 an10 : Option Addr} {sl10 : Array (Option Value)} {oc10 kV10 dc10 pm10 cd10 ct10 : Value}
    {f11 : Addr} {od11 an11 : Option Addr} {sl11 : Array (Option Value)} {oc11 kV11 dc11 pm11 cd11 ct11 : Value}
    {f12 : Addr} {od12 an12 : Option Addr} {sl12 : Array (Option Value)} {oc12 kV12 dc12 pm12 cd12 ct12 : Value}
    {f13 : Addr} {od13 an13 : Option Addr} {sl13 : Array (Option Value)} {oc13 kV13 dc13 pm13 cd13 ct13 : Value}
    {f30 : Addr} {od30 an30 : Option Addr} {sl30 : Array (Option Value)} {oc30 kV30 dc30 pm30 cd30 ct30 : Value}
    {f31 : Addr} {od31 an31 : Option Addr} {sl31 : Array (Option Value)} {oc31 kV31 dc31 pm31 cd31 ct31 : Value}
    {f32 : Addr} {od32 an32 : Option Addr} {sl32 : Array (Option Value)} {oc32 kV32 dc32 pm32 cd32 ct32 : Value}
    {f33 : Addr} {od33 an33 : Option Addr} {sl33 : Array (Option Value)} {oc33 kV33 dc33 pm33 cd33 ct33 : Value}
    {f34 : Addr} {od34 an34 : Option Addr} {sl34 : Array (Option Value)} {oc34 kV34 dc34 pm34 cd34 ct34 : Value}
    {f35 : Addr} {od35 an35 : Option Addr} {sl35 : Array (Option Value)} {oc35 kV35 dc35 pm35 cd35 ct35 : Value}
    {f36 : Addr} {od36 an36 : Option Addr} {sl36 : Array (Option Value)} {oc36 kV36 dc36 pm36 cd36 ct36 : Value}
    {f37 : Addr} {od37 an37 : Option Addr} {sl37 : Array (Option Value)} {oc37 kV37 dc37 pm37 cd37 ct37 : Value}
    {f38 : Addr} {od38 an38 : Option Addr} {sl38 : Array (Option Value)} {oc38 kV38 dc38 pm38 cd38 ct38 : Value}
    {f39 : Addr} {od39 an39 : Option Addr} {sl39 : Array (Option Value)} {oc39 kV39 dc39 pm39 cd39 ct39 : Value}
    {f40 : Addr} {od40 an40 : Option Addr} {sl40 : Array (Option Value)} {oc40 kV40 dc40 pm40 cd40 ct40 : Value}
    {f50 : Addr} {od50 an50 : Option Addr} {sl50 : Array (Option Value)} {oc50 kV50 dc50 pm50 cd50 ct50 : Value}
    {f51 : Addr} {od51 an51 : Option Addr} {sl51 : Array (Option Value)} {oc51 kV51 dc51 pm51 cd51 ct51 : Value}
    {f52 : Addr} {od52 an52 : Option Addr} {sl52 : Array (Option Value)} {oc52 kV52 dc52 pm52 cd52 ct52 : Value}
    {f53 : Addr} {od53 an53 : Option Addr} {sl53 : Array (Option Value)} {oc53 kV53 dc53 pm53 cd53 ct53 : Value}
    {f54 : Addr} {od54 an54 : Option Addr} {sl54 : Array (Option Value)} {oc54 kV54 dc54 pm54 cd54 ct54 : Value}
    {f55 : Addr} {od55 an55 : Option Addr} {sl55 : Array (Option Value)} {oc55 kV55 dc55 pm55 cd55 ct55 : Value}
    {f56 : Addr} {od56 an56 : Option Addr} {sl56 : Array (Option Value)} {oc56 kV56 dc56 pm56 cd56 ct56 : Value}
    {f57 : Addr} {od57 an57 : Option Addr} {sl57 : Array (Option Value)} {oc57 kV57 dc57 pm57 cd57 ct57 : Value}
    {f58 : Addr} {od58 an58 : Option Addr} {sl58 : Array (Option Value)} {oc58 kV58 dc58 pm58 cd58 ct58 : Value}
    {f59 : Addr} {od59 an59 : Option Addr} {sl59 : Array (Option Value)} {oc59 kV59 dc59 pm59 cd59 ct59 : Value}
    {f60 : Addr} {od60 an60 : Option Addr} {sl60 : Array (Option Value)} {oc60 kV60 dc60 pm60 cd60 ct60 : Value}
    {f61 : Addr} {od61 an61 : Option Addr} {sl61 : Array (Option Value)} {oc61 kV61 dc61 pm61 cd61 ct61 : Value}
    {f62 : Addr} {od62 an62 : Option Addr} {sl62 : Array (Option Value)} {oc62 kV62 dc62 pm62 cd62 ct62 : Value}
    {C0 : Addr}
    {C1 : Addr}
    {C2 : Addr}
    {C3 : Addr}
    {C4 : Addr}
    {C5 : Addr}
    {C11 : Addr}
    {t_MOST_LEVELS : Tok}
    (a6 : PySem.W.nsIn K mainGlobals "within" = some (some (.ref f6)))
    (l6 : K.lookup f6 = some ⟨oc6, od6, .func (PySem.W.fnOf "within" "within" (defArgs st_within) (defBody st_within) (defScope st_within) .none kV6 dc6 pm6 an6 cd6 ct6), sl6⟩)
    (c6 : PySem.W.codeIn K cd6 "within" = true) (k6 : PySem.W.keepIn K (.ref f6) = true)
    (a7 : PySem.W.nsIn K mainGlobals "checked" = some (some (.ref f7)))
    (l7 : K.lookup f7 = some ⟨oc7, od7, .func (PySem.W.fnOf "checked" "checked" (defArgs st_checked) (defBody st_checked) (defScope st_checked) .none kV7 dc7 pm7 an7 cd7 ct7), sl7⟩)
    (c7 : PySem.W.codeIn K cd7 "checked" = true) (k7 : PySem.W.keepIn K (.ref f7) = true)
    (a8 : PySem.W.nsIn K mainGlobals "counts_of" = some (some (.ref f8)))
    (l8 : K.lookup f8 = some ⟨oc8, od8, .func (PySem.W.fnOf "counts_of" "counts_of" (defArgs st_counts_of) (defBody st_counts_of) (defScope st_counts_of) .none kV8 dc8 pm8 an8 cd8 ct8), sl8⟩)
    (c8 : PySem.W.codeIn K cd8 "counts_of" = true) (k8 : PySem.W.keepIn K (.ref f8) = true)
    (a9 : PySem.W.nsIn K mainGlobals "check_takes" = some (some (.ref f9)))
    (l9 : K.lookup f9 = some ⟨oc9, od9, .func (PySem.W.fnOf "check_takes" "check_takes" (defArgs st_check_takes) (defBody st_check_takes) (defScope st_check_takes) .none kV9 dc9 pm9 an9 cd9 ct9), sl9⟩)
    (c9 : PySem.W.codeIn K cd9 "check_takes" = true) (k9 : PySem.W.keepIn K (.ref f9) = true)
    (a10 : PySem.W.nsIn K mainGlobals "check_tree" = some (some (.ref f10)))
    (l10 : K.lookup f10 = some ⟨oc10, od10, .func (PySem.W.fnOf "check_tree" "check_tree" (defArgs st_check_tree) (defBody st_check_tree) (defScope st_check_tree) .none kV10 dc10 pm10 an10 cd10 ct10), sl10⟩)
    (c10 : PySem.W.codeIn K cd10 "check_tree" = true) (k10 : PySem.W.keepIn K (.ref f10) = true)
    (a11 : PySem.W.nsIn K mainGlobals "check_name" = some (some (.ref f11)))
    (l11 : K.lookup f11 = some ⟨oc11, od11, .func (PySem.W.fnOf "check_name" "check_name" (defArgs st_check_name) (defBody st_check_name) (defScope st_check_name) .none kV11 dc11 pm11 an11 cd11 ct11), sl11⟩)
    (c11 : PySem.W.codeIn K cd11 "check_name" = true) (k11 : PySem.W.keepIn K (.ref f11) = true)
    (a12 : PySem.W.nsIn K mainGlobals "check_call" = some (some (.ref f12)))
    (l12 : K.lookup f12 = some ⟨oc12, od12, .func (PySem.W.fnOf "check_call" "check_call" (defArgs st_check_call) (defBody st_check_call) (defScope st_check_call) .none kV12 dc12 pm12 an12 cd12 ct12), sl12⟩)
    (c12 : PySem.W.codeIn K cd12 "check_call" = true) (k12 : PySem.W.keepIn K (.ref f12) = true)
    (a13 : PySem.W.nsIn K mainGlobals "scoped" = some (some (.ref f13)))
    (l13 : K.lookup f13 = some ⟨oc13, od13, .func (PySem.W.fnOf "scoped" "scoped" (defArgs st_scoped) (defBody st_scoped) (defScope st_scoped) .none kV13 dc13 pm13 an13 cd13 ct13), sl13⟩)
    (c13 : PySem.W.codeIn K cd13 "scoped" = true) (k13 : PySem.W.keepIn K (.ref f13) = true)
    (ac11 : PySem.W.nsIn K mainGlobals "Code" = some (some (.ref C11))) (pg11 : PySem.W.plainGet K C11 Str.empty = true) (hd11 : PySem.W.hasDictIn K C11 = true) (po11 : PySem.W.plainOver K C11 = true) (sa11 : PySem.W.findIn K (.ref C11) "__setattr__" = some (some (.builtin "object.__setattr__"))) (mk11 : PySem.W.makesIn K C11 = true) (kc11 : PySem.W.keepIn K (.ref C11) = true)
    (nf11_0 : PySem.W.findIn K (.ref C11) "rows" = some none)
    (nf11_1 : PySem.W.findIn K (.ref C11) "starts" = some none)
    (ja11 : PySem.W.findIn K (.ref C11) "__class__" = some (some (.builtin "object.__class__"))) (jb11 : PySem.W.specialIn K (.builtin "object.__class__") "__get__" = some (some (.builtin "getset_descriptor.__get__"))) (jc11 : PySem.W.takesIn K (.builtin "object.__class__") = some true) (jd11 : PySem.W.mroIn K C11 (.type "object") = some true)
    (a30 : PySem.W.findIn K (.ref C11) "__init__" = some (some (.ref f30))) (i30 : PySem.W.isFn K (.ref f30) = true)
    (l30 : K.lookup f30 = some ⟨oc30, od30, .func (PySem.W.fnOf "__init__" "Code.__init__" (defArgs st_Code___init__) (defBody st_Code___init__) (defScope st_Code___init__) .none kV30 dc30 pm30 an30 cd30 ct30), sl30⟩)
    (c30 : PySem.W.codeIn K cd30 "Code.__init__" = true) (k30 : PySem.W.keepIn K (.ref f30) = true)
    (a31 : PySem.W.nsIn K mainGlobals "smithed" = some (some (.ref f31)))
    (l31 : K.lookup f31 = some ⟨oc31, od31, .func (PySem.W.fnOf "smithed" "smithed" (defArgs st_smithed) (defBody st_smithed) (defScope st_smithed) .none kV31 dc31 pm31 an31 cd31 ct31), sl31⟩)
    (c31 : PySem.W.codeIn K cd31 "smithed" = true) (k31 : PySem.W.keepIn K (.ref f31) = true)
    (a32 : PySem.W.nsIn K mainGlobals "starts_of" = some (some (.ref f32)))
    (l32 : K.lookup f32 = some ⟨oc32, od32, .func (PySem.W.fnOf "starts_of" "starts_of" (defArgs st_starts_of) (defBody st_starts_of) (defScope st_starts_of) .none kV32 dc32 pm32 an32 cd32 ct32), sl32⟩)
    (c32 : PySem.W.codeIn K cd32 "starts_of" = true) (k32 : PySem.W.keepIn K (.ref f32) = true)
    (a33 : PySem.W.nsIn K mainGlobals "length" = some (some (.ref f33)))
    (l33 : K.lookup f33 = some ⟨oc33, od33, .func (PySem.W.fnOf "length" "length" (defArgs st_length) (defBody st_length) (defScope st_length) .none kV33 dc33 pm33 an33 cd33 ct33), sl33⟩)
    (c33 : PySem.W.codeIn K cd33 "length" = true) (k33 : PySem.W.keepIn K (.ref f33) = true)
    (a34 : PySem.W.nsIn K mainGlobals "most_lets" = some (some (.ref f34)))
    (l34 : K.lookup f34 = some ⟨oc34, od34, .func (PySem.W.fnOf "most_lets" "most_lets" (defArgs st_most_lets) (defBody st_most_lets) (defScope st_most_lets) .none kV34 dc34 pm34 an34 cd34 ct34), sl34⟩)
    (c34 : PySem.W.codeIn K cd34 "most_lets" = true) (k34 : PySem.W.keepIn K (.ref f34) = true)
    (a35 : PySem.W.nsIn K mainGlobals "height" = some (some (.ref f35)))
    (l35 : K.lookup f35 = some ⟨oc35, od35, .func (PySem.W.fnOf "height" "height" (defArgs st_height) (defBody st_height) (defScope st_height) .none kV35 dc35 pm35 an35 cd35 ct35), sl35⟩)
    (c35 : PySem.W.codeIn K cd35 "height" = true) (k35 : PySem.W.keepIn K (.ref f35) = true)
    (a36 : PySem.W.nsIn K mainGlobals "slot_of" = some (some (.ref f36)))
    (l36 : K.lookup f36 = some ⟨oc36, od36, .func (PySem.W.fnOf "slot_of" "slot_of" (defArgs st_slot_of) (defBody st_slot_of) (defScope st_slot_of) .none kV36 dc36 pm36 an36 cd36 ct36), sl36⟩)
    (c36 : PySem.W.codeIn K cd36 "slot_of" = true) (k36 : PySem.W.keepIn K (.ref f36) = true)
    (a37 : PySem.W.nsIn K mainGlobals "add_rows" = some (some (.ref f37)))
    (l37 : K.lookup f37 = some ⟨oc37, od37, .func (PySem.W.fnOf "add_rows" "add_rows" (defArgs st_add_rows) (defBody st_add_rows) (defScope st_add_rows) .none kV37 dc37 pm37 an37 cd37 ct37), sl37⟩)
    (c37 : PySem.W.codeIn K cd37 "add_rows" = true) (k37 : PySem.W.keepIn K (.ref f37) = true)
    (a38 : PySem.W.nsIn K mainGlobals "add_parts" = some (some (.ref f38)))
    (l38 : K.lookup f38 = some ⟨oc38, od38, .func (PySem.W.fnOf "add_parts" "add_parts" (defArgs st_add_parts) (defBody st_add_parts) (defScope st_add_parts) .none kV38 dc38 pm38 an38 cd38 ct38), sl38⟩)
    (c38 : PySem.W.codeIn K cd38 "add_parts" = true) (k38 : PySem.W.keepIn K (.ref f38) = true)
    (a39 : PySem.W.nsIn K mainGlobals "add_choose" = some (some (.ref f39)))
    (l39 : K.lookup f39 = some ⟨oc39, od39, .func (PySem.W.fnOf "add_choose" "add_choose" (defArgs st_add_choose) (defBody st_add_choose) (defScope st_add_choose) .none kV39 dc39 pm39 an39 cd39 ct39), sl39⟩)
    (c39 : PySem.W.codeIn K cd39 "add_choose" = true) (k39 : PySem.W.keepIn K (.ref f39) = true)
    (a40 : PySem.W.nsIn K mainGlobals "add_let" = some (some (.ref f40)))
    (l40 : K.lookup f40 = some ⟨oc40, od40, .func (PySem.W.fnOf "add_let" "add_let" (defArgs st_add_let) (defBody st_add_let) (defScope st_add_let) .none kV40 dc40 pm40 an40 cd40 ct40), sl40⟩)
    (c40 : PySem.W.codeIn K cd40 "add_let" = true) (k40 : PySem.W.keepIn K (.ref f40) = true)
    (a50 : PySem.W.nsIn K mainGlobals "_law_cell_at" = some (some (.ref f50)))
    (l50 : K.lookup f50 = some ⟨oc50, od50, .func (PySem.W.fnOf "_law_cell_at" "_law_cell_at" (defArgs st__law_cell_at) (defBody st__law_cell_at) (defScope st__law_cell_at) .none kV50 dc50 pm50 an50 cd50 ct50), sl50⟩)
    (c50 : PySem.W.codeIn K cd50 "_law_cell_at" = true) (k50 : PySem.W.keepIn K (.ref f50) = true)
    (a51 : PySem.W.nsIn K mainGlobals "_law_word" = some (some (.ref f51)))
    (l51 : K.lookup f51 = some ⟨oc51, od51, .func (PySem.W.fnOf "_law_word" "_law_word" (defArgs st__law_word) (defBody st__law_word) (defScope st__law_word) .none kV51 dc51 pm51 an51 cd51 ct51), sl51⟩)
    (c51 : PySem.W.codeIn K cd51 "_law_word" = true) (k51 : PySem.W.keepIn K (.ref f51) = true)
    (a52 : PySem.W.nsIn K mainGlobals "_law_moved" = some (some (.ref f52)))
    (l52 : K.lookup f52 = some ⟨oc52, od52, .func (PySem.W.fnOf "_law_moved" "_law_moved" (defArgs st__law_moved) (defBody st__law_moved) (defScope st__law_moved) .none kV52 dc52 pm52 an52 cd52 ct52), sl52⟩)
    (c52 : PySem.W.codeIn K cd52 "_law_moved" = true) (k52 : PySem.W.keepIn K (.ref f52) = true)
    (a53 : PySem.W.nsIn K mainGlobals "_law_within" = some (some (.ref f53)))
    (l53 : K.lookup f53 = some ⟨oc53, od53, .func (PySem.W.fnOf "_law_within" "_law_within" (defArgs st__law_within) (defBody st__law_within) (defScope st__law_within) .none kV53 dc53 pm53 an53 cd53 ct53), sl53⟩)
    (c53 : PySem.W.codeIn K cd53 "_law_within" = true) (k53 : PySem.W.keepIn K (.ref f53) = true)
    (a54 : PySem.W.nsIn K mainGlobals "_law_chosen" = some (some (.ref f54)))
    (l54 : K.lookup f54 = some ⟨oc54, od54, .func (PySem.W.fnOf "_law_chosen" "_law_chosen" (defArgs st__law_chosen) (defBody st__law_chosen) (defScope st__law_chosen) .none kV54 dc54 pm54 an54 cd54 ct54), sl54⟩)
    (c54 : PySem.W.codeIn K cd54 "_law_chosen" = true) (k54 : PySem.W.keepIn K (.ref f54) = true)
    (a55 : PySem.W.nsIn K mainGlobals "_law_joined" = some (some (.ref f55)))
    (l55 : K.lookup f55 = some ⟨oc55, od55, .func (PySem.W.fnOf "_law_joined" "_law_joined" (defArgs st__law_joined) (defBody st__law_joined) (defScope st__law_joined) .none kV55 dc55 pm55 an55 cd55 ct55), sl55⟩)
    (c55 : PySem.W.codeIn K cd55 "_law_joined" = true) (k55 : PySem.W.keepIn K (.ref f55) = true)
    (a56 : PySem.W.nsIn K mainGlobals "_law_let" = some (some (.ref f56)))
    (l56 : K.lookup f56 = some ⟨oc56, od56, .func (PySem.W.fnOf "_law_let" "_law_let" (defArgs st__law_let) (defBody st__law_let) (defScope st__law_let) .none kV56 dc56 pm56 an56 cd56 ct56), sl56⟩)
    (c56 : PySem.W.codeIn K cd56 "_law_let" = true) (k56 : PySem.W.keepIn K (.ref f56) = true)
    (a57 : PySem.W.nsIn K mainGlobals "_law_made" = some (some (.ref f57)))
    (l57 : K.lookup f57 = some ⟨oc57, od57, .func (PySem.W.fnOf "_law_made" "_law_made" (defArgs st__law_made) (defBody st__law_made) (defScope st__law_made) .none kV57 dc57 pm57 an57 cd57 ct57), sl57⟩)
    (c57 : PySem.W.codeIn K cd57 "_law_made" = true) (k57 : PySem.W.keepIn K (.ref f57) = true)
    (a58 : PySem.W.nsIn K mainGlobals "_law_put" = some (some (.ref f58)))
    (l58 : K.lookup f58 = some ⟨oc58, od58, .func (PySem.W.fnOf "_law_put" "_law_put" (defArgs st__law_put) (defBody st__law_put) (defScope st__law_put) .none kV58 dc58 pm58 an58 cd58 ct58), sl58⟩)
    (c58 : PySem.W.codeIn K cd58 "_law_put" = true) (k58 : PySem.W.keepIn K (.ref f58) = true)
    (a59 : PySem.W.nsIn K mainGlobals "_law_named" = some (some (.ref f59)))
    (l59 : K.lookup f59 = some ⟨oc59, od59, .func (PySem.W.fnOf "_law_named" "_law_named" (defArgs st__law_named) (defBody st__law_named) (defScope st__law_named) .none kV59 dc59 pm59 an59 cd59 ct59), sl59⟩)
    (c59 : PySem.W.codeIn K cd59 "_law_named" = true) (k59 : PySem.W.keepIn K (.ref f59) = true)
    (a60 : PySem.W.nsIn K mainGlobals "_law_ready" = some (some (.ref f60)))
    (l60 : K.lookup f60 = some ⟨oc60, od60, .func (PySem.W.fnOf "_law_ready" "_law_ready" (defArgs st__law_ready) (defBody st__law_ready) (defScope st__law_ready) .none kV60 dc60 pm60 an60 cd60 ct60), sl60⟩)
    (c60 : PySem.W.codeIn K cd60 "_law_ready" = true) (k60 : PySem.W.keepIn K (.ref f60) = true)
    (a61 : PySem.W.nsIn K mainGlobals "_law_row" = some (some (.ref f61)))
    (l61 : K.lookup f61 = some ⟨oc61, od61, .func (PySem.W.fnOf "_law_row" "_law_row" (defArgs st__law_row) (defBody st__law_row) (defScope st__law_row) .none kV61 dc61 pm61 an61 cd61 ct61), sl61⟩)
    (c61 : PySem.W.codeIn K cd61 "_law_row" = true) (k61 : PySem.W.keepIn K (.ref f61) = true)
    (a62 : PySem.W.nsIn K mainGlobals "law" = some (some (.ref f62)))
    (l62 : K.lookup f62 = some ⟨oc62, od62, .func (PySem.W.fnOf "law" "law" (defArgs st_law) (defBody st_law) (defScope st_law) .none kV62 dc62 pm62 an62 cd62 ct62), sl62⟩)
    (c62 : PySem.W.codeIn K cd62 "law" = true) (k62 : PySem.W.keepIn K (.ref f62) = true)
    (xa0 : PySem.W.nsIn K mainGlobals "SmithError" = some (some (.ref C0))) (xe0 : PySem.W.excIn K C0 [.type "ValueError", .type "Exception", .type "BaseException", .type "object"] "ValueError.__new__" = true) (xk0 : PySem.W.keepIn K (.ref C0) = true) (xb0 : PySem.W.subIn K (.ref C0) (.type "BaseException") = some true) (xt0 : PySem.W.typeIn K (.ref C0) = some (.type "type")) (xi0 : PySem.W.isClsIn K C0 = true)
    (y0a : PySem.W.findIn K (.ref C0) "__getattribute__" = some (some (.builtin "BaseException.__getattribute__"))) (y0b : PySem.W.findIn K (.ref C0) "__getattr__" = some none) (y0c : PySem.W.hasDictIn K C0 = true) (y0d : PySem.W.findIn K (.ref C0) "__class__" = some (some (.builtin "object.__class__"))) (y0e : PySem.W.specialIn K (.builtin "object.__class__") "__get__" = some (some (.builtin "getset_descriptor.__get__"))) (y0f : PySem.W.takesIn K (.builtin "object.__class__") = some true) (y0g : PySem.W.mroIn K C0 (.type "object") = some true) (y0h : PySem.W.subIn K (.ref C0) (.type "ValueError") = some true)
    (xa1 : PySem.W.nsIn K mainGlobals "NameTwice" = some (some (.ref C1))) (xe1 : PySem.W.excIn K C1 [.type "ValueError", .type "Exception", .type "BaseException", .type "object"] "ValueError.__new__" = true) (xk1 : PySem.W.keepIn K (.ref C1) = true) (xb1 : PySem.W.subIn K (.ref C1) (.type "BaseException") = some true) (xt1 : PySem.W.typeIn K (.ref C1) = some (.type "type")) (xi1 : PySem.W.isClsIn K C1 = true)
    (y1a : PySem.W.findIn K (.ref C1) "__getattribute__" = some (some (.builtin "BaseException.__getattribute__"))) (y1b : PySem.W.findIn K (.ref C1) "__getattr__" = some none) (y1c : PySem.W.hasDictIn K C1 = true) (y1d : PySem.W.findIn K (.ref C1) "__class__" = some (some (.builtin "object.__class__"))) (y1e : PySem.W.specialIn K (.builtin "object.__class__") "__get__" = some (some (.builtin "getset_descriptor.__get__"))) (y1f : PySem.W.takesIn K (.builtin "object.__class__") = some true) (y1g : PySem.W.mroIn K C1 (.type "object") = some true) (y1h : PySem.W.subIn K (.ref C1) (.type "ValueError") = some true)
    (xa2 : PySem.W.nsIn K mainGlobals "NoSuchName" = some (some (.ref C2))) (xe2 : PySem.W.excIn K C2 [.type "ValueError", .type "Exception", .type "BaseException", .type "object"] "ValueError.__new__" = true) (xk2 : PySem.W.keepIn K (.ref C2) = true) (xb2 : PySem.W.subIn K (.ref C2) (.type "BaseException") = some true) (xt2 : PySem.W.typeIn K (.ref C2) = some (.type "type")) (xi2 : PySem.W.isClsIn K C2 = true)
    (y2a : PySem.W.findIn K (.ref C2) "__getattribute__" = some (some (.builtin "BaseException.__getattribute__"))) (y2b : PySem.W.findIn K (.ref C2) "__getattr__" = some none) (y2c : PySem.W.hasDictIn K C2 = true) (y2d : PySem.W.findIn K (.ref C2) "__class__" = some (some (.builtin "object.__class__"))) (y2e : PySem.W.specialIn K (.builtin "object.__class__") "__get__" = some (some (.builtin "getset_descriptor.__get__"))) (y2f : PySem.W.takesIn K (.builtin "object.__class__") = some true) (y2g : PySem.W.mroIn K C2 (.type "object") = some true) (y2h : PySem.W.subIn K (.ref C2) (.type "ValueError") = some true)
    (xa3 : PySem.W.nsIn K mainGlobals "NoSuchFunction" = some (some (.ref C3))) (xe3 : PySem.W.excIn K C3 [.type "ValueError", .type "Exception", .type "BaseException", .type "object"] "ValueError.__new__" = true) (xk3 : PySem.W.keepIn K (.ref C3) = true) (xb3 : PySem.W.subIn K (.ref C3) (.type "BaseException") = some true) (xt3 : PySem.W.typeIn K (.ref C3) = some (.type "type")) (xi3 : PySem.W.isClsIn K C3 = true)
    (y3a : PySem.W.findIn K (.ref C3) "__getattribute__" = some (some (.builtin "BaseException.__getattribute__"))) (y3b : PySem.W.findIn K (.ref C3) "__getattr__" = some none) (y3c : PySem.W.hasDictIn K C3 = true) (y3d : PySem.W.findIn K (.ref C3) "__class__" = some (some (.builtin "object.__class__"))) (y3e : PySem.W.specialIn K (.builtin "object.__class__") "__get__" = some (some (.builtin "getset_descriptor.__get__"))) (y3f : PySem.W.takesIn K (.builtin "object.__class__") = some true) (y3g : PySem.W.mroIn K C3 (.type "object") = some true) (y3h : PySem.W.subIn K (.ref C3) (.type "ValueError") = some true)
    (xa4 : PySem.W.nsIn K mainGlobals "WrongCount" = some (some (.ref C4))) (xe4 : PySem.W.excIn K C4 [.type "ValueError", .type "Exception", .type "BaseException", .type "object"] "ValueError.__new__" = true) (xk4 : PySem.W.keepIn K (.ref C4) = true) (xb4 : PySem.W.subIn K (.ref C4) (.type "BaseException") = some true) (xt4 : PySem.W.typeIn K (.ref C4) = some (.type "type")) (xi4 : PySem.W.isClsIn K C4 = true)
    (y4a : PySem.W.findIn K (.ref C4) "__getattribute__" = some (some (.builtin "BaseException.__getattribute__"))) (y4b : PySem.W.findIn K (.ref C4) "__getattr__" = some none) (y4c : PySem.W.hasDictIn K C4 = true) (y4d : PySem.W.findIn K (.ref C4) "__class__" = some (some (.builtin "object.__class__"))) (y4e : PySem.W.specialIn K (.builtin "object.__class__") "__get__" = some (some (.builtin "getset_descriptor.__get__"))) (y4f : PySem.W.takesIn K (.builtin "object.__class__") = some true) (y4g : PySem.W.mroIn K C4 (.type "object") = some true) (y4h : PySem.W.subIn K (.ref C4) (.type "ValueError") = some true)
    (xa5 : PySem.W.nsIn K mainGlobals "TooTall" = some (some (.ref C5))) (xe5 : PySem.W.excIn K C5 [.type "ValueError", .type "Exception", .type "BaseException", .type "object"] "ValueError.__new__" = true) (xk5 : PySem.W.keepIn K (.ref C5) = true) (xb5 : PySem.W.subIn K (.ref C5) (.type "BaseException") = some true) (xt5 : PySem.W.typeIn K (.ref C5) = some (.type "type")) (xi5 : PySem.W.isClsIn K C5 = true)
    (y5a : PySem.W.findIn K (.ref C5) "__getattribute__" = some (some (.builtin "BaseException.__getattribute__"))) (y5b : PySem.W.findIn K (.ref C5) "__getattr__" = some none) (y5c : PySem.W.hasDictIn K C5 = true) (y5d : PySem.W.findIn K (.ref C5) "__class__" = some (some (.builtin "object.__class__"))) (y5e : PySem.W.specialIn K (.builtin "object.__class__") "__get__" = some (some (.builtin "getset_descriptor.__get__"))) (y5f : PySem.W.takesIn K (.builtin "object.__class__") = some true) (y5g : PySem.W.mroIn K C5 (.type "object") = some true) (y5h : PySem.W.subIn K (.ref C5) (.type "ValueError") = some true)
    (xs0_0 : PySem.W.subIn K (.ref C0) (.ref C0) = some true)
    (xs0_1 : PySem.W.subIn K (.ref C0) (.ref C1) = some false)
    (xs0_2 : PySem.W.subIn K (.ref C0) (.ref C2) = some false)
    (xs0_3 : PySem.W.subIn K (.ref C0) (.ref C3) = some false)
    (xs0_4 : PySem.W.subIn K (.ref C0) (.ref C4) = some false)
    (xs0_5 : PySem.W.subIn K (.ref C0) (.ref C5) = some false)
    (xs1_0 : PySem.W.subIn K (.ref C1) (.ref C0) = some true)
    (xs1_1 : PySem.W.subIn K (.ref C1) (.ref C1) = some true)
    (xs1_2 : PySem.W.subIn K (.ref C1) (.ref C2) = some false)
    (xs1_3 : PySem.W.subIn K (.ref C1) (.ref C3) = some false)
    (xs1_4 : PySem.W.subIn K (.ref C1) (.ref C4) = some false)
    (xs1_5 : PySem.W.subIn K (.ref C1) (.ref C5) = some false)
    (xs2_0 : PySem.W.subIn K (.ref C2) (.ref C0) = some true)
    (xs2_1 : PySem.W.subIn K (.ref C2) (.ref C1) = some false)
    (xs2_2 : PySem.W.subIn K (.ref C2) (.ref C2) = some true)
    (xs2_3 : PySem.W.subIn K (.ref C2) (.ref C3) = some false)
    (xs2_4 : PySem.W.subIn K (.ref C2) (.ref C4) = some false)
    (xs2_5 : PySem.W.subIn K (.ref C2) (.ref C5) = some false)
    (xs3_0 : PySem.W.subIn K (.ref C3) (.ref C0) = some true)
    (xs3_1 : PySem.W.subIn K (.ref C3) (.ref C1) = some false)
    (xs3_2 : PySem.W.subIn K (.ref C3) (.ref C2) = some false)
    (xs3_3 : PySem.W.subIn K (.ref C3) (.ref C3) = some true)
    (xs3_4 : PySem.W.subIn K (.ref C3) (.ref C4) = some false)
    (xs3_5 : PySem.W.subIn K (.ref C3) (.ref C5) = some false)
    (xs4_0 : PySem.W.subIn K (.ref C4) (.ref C0) = some true)
    (xs4_1 : PySem.W.subIn K (.ref C4) (.ref C1) = some false)
    (xs4_2 : PySem.W.subIn K (.ref C4) (.ref C2) = some false)
    (xs4_3 : PySem.W.subIn K (.ref C4) (.ref C3) = some false)
    (xs4_4 : PySem.W.subIn K (.ref C4) (.ref C4) = some true)
    (xs4_5 : PySem.W.subIn K (.ref C4) (.ref C5) = some false)
    (xs5_0 : PySem.W.subIn K (.ref C5) (.ref C0) = some true)
    (xs5_1 : PySem.W.subIn K (.ref C5) (.ref C1) = some false)
    (xs5_2 : PySem.W.subIn K (.ref C5) (.ref C2) = some false)
    (xs5_3 : PySem.W.subIn K (.ref C5) (.ref C3) = some false)
    (xs5_4 : PySem.W.subIn K (.ref C5) (.ref C4) = some false)
    (xs5_5 : PySem.W.subIn K (.ref C5) (.ref C5) = some true)
    (z_bool : PySem.W.nsIn K mainGlobals "bool" = some none)
    (z_dict : PySem.W.nsIn K mainGlobals "dict" = some none)
    (z_enumerate : PySem.W.nsIn K mainGlobals "enumerate" = some none)
    (z_int : PySem.W.nsIn K mainGlobals "int" = some none)
    (z_isinstance : PySem.W.nsIn K mainGlobals "isinstance" = some none)
    (z_len : PySem.W.nsIn K mainGlobals "len" = some none)
    (z_list : PySem.W.nsIn K mainGlobals "list" = some none)
    (z_max : PySem.W.nsIn K mainGlobals "max" = some none)
    (z_min : PySem.W.nsIn K mainGlobals "min" = some none)
    (z_range : PySem.W.nsIn K mainGlobals "range" = some none)
    (z_set : PySem.W.nsIn K mainGlobals "set" = some none)
    (z_str : PySem.W.nsIn K mainGlobals "str" = some none)
    (z_sum : PySem.W.nsIn K mainGlobals "sum" = some none)
    (z_tuple : PySem.W.nsIn K mainGlobals "tuple" = some none)
    (z_zip : PySem.W.nsIn K mainGlobals "zip" = some none)
    (v_MOST_LEVELS : PySem.W.nsIn K mainGlobals "MOST_LEVELS" = some (some (.int (12) t_MOST_LEVELS)))
    (k : Nat) (L : Nat) : ∃ fd : FuncData, (∀ (s : Shared) (v : Value), BindsTo s fd ⟨[v], []⟩ [("_law_script", v)]) ∧ ∀ base : Heap, K.In base → base.Ns mainGlobals mg →
      FnOk l.prog w K mg base (L2.CX l.prog w) k fa fd ["_law_script"] (spOf K (fun c => [C0, C1, C2, C3, C4, C5, 0, 0, 0, 0].getD c 0) (runF tab sub L (3 * k)) 62) := by
  have e := hfa.symm.trans (PySem.W.mg_of X G a62)
  cases e
  have F6 := fun_mk (st := st_within) l6 c6 k6
  have b6 := F6.binds (ps := ps_within) fun _ _ _ _ _ _ us hl => match us, hl with | [_], _ => rfl
  have F7 := fun_mk (st := st_checked) l7 c7 k7
  have b7 := F7.binds (ps := ps_checked) fun _ _ _ _ _ _ us hl => match us, hl with | [_], _ => rfl
  have F8 := fun_mk (st := st_counts_of) l8 c8 k8
  have b8 := F8.binds (ps := ps_counts_of) fun _ _ _ _ _ _ us hl => match us, hl with | [_], _ => rfl
  have F9 := fun_mk (st := st_check_takes) l9 c9 k9
  have b9 := F9.binds (ps := ps_check_takes) fun _ _ _ _ _ _ us hl => match us, hl with | [_, _], _ => rfl
  have F10 := fun_mk (st := st_check_tree) l10 c10 k10
  have b10 := F10.binds (ps := ps_check_tree) fun _ _ _ _ _ _ us hl => match us, hl with | [_, _, _, _], _ => rfl
  have F11 := fun_mk (st := st_check_name) l11 c11 k11
  have b11 := F11.binds (ps := ps_check_name) fun _ _ _ _ _ _ us hl => match us, hl with | [_, _], _ => rfl
  have F12 := fun_mk (st := st_check_call) l12 c12 k12
  have b12 := F12.binds (ps := ps_check_call) fun _ _ _ _ _ _ us hl => match us, hl with | [_, _, _], _ => rfl
  have F13 := fun_mk (st := st_scoped) l13 c13 k13
  have b13 := F13.binds (ps := ps_scoped) fun _ _ _ _ _ _ us hl => match us, hl with | [_, _], _ => rfl
  have F30 := fun_mk (st := st_Code___init__) l30 c30 k30
  have b30 := F30.binds (ps := ps_Code___init__) fun _ _ _ _ _ _ us hl => match us, hl with | [_, _, _], _ => rfl
  have F31 := fun_mk (st := st_smithed) l31 c31 k31
  have b31 := F31.binds (ps := ps_smithed) fun _ _ _ _ _ _ us hl => match us, hl with | [_], _ => rfl
  have F32 := fun_mk (st := st_starts_of) l32 c32 k32
  have b32 := F32.binds (ps := ps_starts_of) fun _ _ _ _ _ _ us hl => match us, hl with | [_], _ => rfl
  have F33 := fun_mk (st := st_length) l33 c33 k33
  have b33 := F33.binds (ps := ps_length) fun _ _ _ _ _ _ us hl => match us, hl with | [_], _ => rfl
  have F34 := fun_mk (st := st_most_lets) l34 c34 k34
  have b34 := F34.binds (ps := ps_most_lets) fun _ _ _ _ _ _ us hl => match us, hl with | [_], _ => rfl
  have F35 := fun_mk (st := st_height) l35 c35 k35
  have b35 := F35.binds (ps := ps_height) fun _ _ _ _ _ _ us hl => match us, hl with | [_], _ => rfl
  have F36 := fun_mk (st := st_slot_of) l36 c36 k36
  have b36 := F36.binds (ps := ps_slot_of) fun _ _ _ _ _ _ us hl => match us, hl with | [_, _], _ => rfl
  have F37 := fun_mk (st := st_add_rows) l37 c37 k37
  have b37 := F37.binds (ps := ps_add_rows) fun _ _ _ _ _ _ us hl => match us, hl with | [_, _, _, _], _ => rfl
  have F38 := fun_mk (st := st_add_parts) l38 c38 k38
  have b38 := F38.binds (ps := ps_add_parts) fun _ _ _ _ _ _ us hl => match us, hl with | [_, _, _, _], _ => rfl
  have F39 := fun_mk (st := st_add_choose) l39 c39 k39
  have b39 := F39.binds (ps := ps_add_choose) fun _ _ _ _ _ _ us hl => match us, hl with | [_, _, _, _], _ => rfl
  have F40 := fun_mk (st := st_add_let) l40 c40 k40
  have b40 := F40.binds (ps := ps_add_let) fun _ _ _ _ _ _ us hl => match us, hl with | [_, _, _, _], _ => rfl
  have F50 := fun_mk (st := st__law_cell_at) l50 c50 k50
  have b50 := F50.binds (ps := ps__law_cell_at) fun _ _ _ _ _ _ us hl => match us, hl with | [_, _], _ => rfl
  have F51 := fun_mk (st := st__law_word) l51 c51 k51
  have b51 := F51.binds (ps := ps__law_word) fun _ _ _ _ _ _ us hl => match us, hl with | [_, _], _ => rfl
  have F52 := fun_mk (st := st__law_moved) l52 c52 k52
  have b52 := F52.binds (ps := ps__law_moved) fun _ _ _ _ _ _ us hl => match us, hl with | [_, _], _ => rfl
  have F53 := fun_mk (st := st__law_within) l53 c53 k53
  have b53 := F53.binds (ps := ps__law_within) fun _ _ _ _ _ _ us hl => match us, hl with | [_, _, _], _ => rfl
  have F54 := fun_mk (st := st__law_chosen) l54 c54 k54
  have b54 := F54.binds (ps := ps__law_chosen) fun _ _ _ _ _ _ us hl => match us, hl with | [_], _ => rfl
  have F55 := fun_mk (st := st__law_joined) l55 c55 k55
  have b55 := F55.binds (ps := ps__law_joined) fun _ _ _ _ _ _ us hl => match us, hl with | [_, _], _ => rfl
  have F56 := fun_mk (st := st__law_let) l56 c56 k56
  have b56 := F56.binds (ps := ps__law_let) fun _ _ _ _ _ _ us hl => match us, hl with | [_, _, _, _], _ => rfl
  have F57 := fun_mk (st := st__law_made) l57 c57 k57
  have b57 := F57.binds (ps := ps__law_made) fun _ _ _ _ _ _ us hl => match us, hl with | [_, _, _, _, _], _ => rfl
  have F58 := fun_mk (st := st__law_put) l58 c58 k58
  have b58 := F58.binds (ps := ps__law_put) fun _ _ _ _ _ _ us hl => match us, hl with | [_, _, _, _, _], _ => rfl
  have F59 := fun_mk (st := st__law_named) l59 c59 k59
  have b59 := F59.binds (ps := ps__law_named) fun _ _ _ _ _ _ us hl => match us, hl with | [_, _], _ => rfl
  have F60 := fun_mk (st := st__law_ready) l60 c60 k60
  have b60 := F60.binds (ps := ps__law_ready) fun _ _ _ _ _ _ us hl => match us, hl with | [_, _, _, _], _ => rfl
  have F61 := fun_mk (st := st__law_row) l61 c61 k61
  have b61 := F61.binds (ps := ps__law_row) fun _ _ _ _ _ _ us hl => match us, hl with | [_, _], _ => rfl
  have F62 := fun_mk (st := st_law) l62 c62 k62
  have b62 := F62.binds (ps := ps_law) fun _ _ _ _ _ _ us hl => match us, hl with | [_], _ => rfl
  let fdl : FuncData := PySem.W.fnOf "law" "law" (defArgs st_law) (defBody st_law) (defScope st_law) .none kV62 dc62 pm62 an62 cd62 ct62
  have ec11 : clK K 11 = C11 := clK_of (c := 11) ac11
  have hexm : ∀ c c' b, sub c c' = some b → PySem.W.exmOne K (.ref ([C0, C1, C2, C3, C4, C5, 0, 0, 0, 0].getD c 0)) (.ref ([C0, C1, C2, C3, C4, C5, 0, 0, 0, 0].getD c' 0)) = some b := hexm_of xb0 xi0 xt0 xb1 xi1 xt1 xb2 xi2 xt2 xb3 xi3 xt3 xb4 xi4 xt4 xb5 xi5 xt5 xs0_0 xs0_1 xs0_2 xs0_3 xs0_4 xs0_5 xs1_0 xs1_1 xs1_2 xs1_3 xs1_4 xs1_5 xs2_0 xs2_1 xs2_2 xs2_3 xs2_4 xs2_5 xs3_0 xs3_1 xs3_2 xs3_3 xs3_4 xs3_5 xs4_0 xs4_1 xs4_2 xs4_3 xs4_4 xs4_5 xs5_0 xs5_1 xs5_2 xs5_3 xs5_4 xs5_5
  have hisv : ∀ c c', sub c c' = some true → IsVal K ([C0, C1, C2, C3, C4, C5, 0, 0, 0, 0].getD c 0) := hisv_of xb0 y0a y0b y0c y0d y0e y0f y0g y0h xb1 y1a y1b y1c y1d y1e y1f y1g y1h xb2 y2a y2b y2c y2d y2e y2f y2g y2h xb3 y3a y3b y3c y3d y3e y3f y3g y3h xb4 y4a y4b y4c y4d y4e y4f y4g y4h xb5 y5a y5b y5c y5d y5e y5f y5g y5h
  have T : Txt K mg (fun i => [0, 0, 0, 0, 0, 0, f6, f7, f8, f9, f10, f11, f12, f13, 0, 0, 0, 0, 0, 0, 0, 0, 0, 0, 0, 0, 0, 0, 0, 0, f30, f31, f32, f33, f34, f35, f36, f37, f38, f39, f40, 0, 0, 0, 0, 0, 0, 0, 0, 0, f50, f51, f52, f53, f54, f55, f56, f57, f58, f59, f60, f61, fa].getD i 0) (fun i => [fdl, fdl, fdl, fdl, fdl, fdl, PySem.W.fnOf "within" "within" (defArgs st_within) (defBody st_within) (defScope st_within) .none kV6 dc6 pm6 an6 cd6 ct6, PySem.W.fnOf "checked" "checked" (defArgs st_checked) (defBody st_checked) (defScope st_checked) .none kV7 dc7 pm7 an7 cd7 ct7, PySem.W.fnOf "counts_of" "counts_of" (defArgs st_counts_of) (defBody st_counts_of) (defScope st_counts_of) .none kV8 dc8 pm8 an8 cd8 ct8, PySem.W.fnOf "check_takes" "check_takes" (defArgs st_check_takes) (defBody st_check_takes) (defScope st_check_takes) .none kV9 dc9 pm9 an9 cd9 ct9, PySem.W.fnOf "check_tree" "check_tree" (defArgs st_check_tree) (defBody st_check_tree) (defScope st_check_tree) .none kV10 dc10 pm10 an10 cd10 ct10, PySem.W.fnOf "check_name" "check_name" (defArgs st_check_name) (defBody st_check_name) (defScope st_check_name) .none kV11 dc11 pm11 an11 cd11 ct11, PySem.W.fnOf "check_call" "check_call" (defArgs st_check_call) (defBody st_check_call) (defScope st_check_call) .none kV12 dc12 pm12 an12 cd12 ct12, PySem.W.fnOf "scoped" "scoped" (defArgs st_scoped) (defBody st_scoped) (defScope st_scoped) .none kV13 dc13 pm13 an13 cd13 ct13, fdl, fdl, fdl, fdl, fdl, fdl, fdl, fdl, fdl, fdl, fdl, fdl, fdl, fdl, fdl, fdl, PySem.W.fnOf "__init__" "Code.__init__" (defArgs st_Code___init__) (defBody st_Code___init__) (defScope st_Code___init__) .none kV30 dc30 pm30 an30 cd30 ct30, PySem.W.fnOf "smithed" "smithed" (defArgs st_smithed) (defBody st_smithed) (defScope st_smithed) .none kV31 dc31 pm31 an31 cd31 ct31, PySem.W.fnOf "starts_of" "starts_of" (defArgs st_starts_of) (defBody st_starts_of) (defScope st_starts_of) .none kV32 dc32 pm32 an32 cd32 ct32, PySem.W.fnOf "length" "length" (defArgs st_length) (defBody st_length) (defScope st_length) .none kV33 dc33 pm33 an33 cd33 ct33, PySem.W.fnOf "most_lets" "most_lets" (defArgs st_most_lets) (defBody st_most_lets) (defScope st_most_lets) .none kV34 dc34 pm34 an34 cd34 ct34, PySem.W.fnOf "height" "height" (defArgs st_height) (defBody st_height) (defScope st_height) .none kV35 dc35 pm35 an35 cd35 ct35, PySem.W.fnOf "slot_of" "slot_of" (defArgs st_slot_of) (defBody st_slot_of) (defScope st_slot_of) .none kV36 dc36 pm36 an36 cd36 ct36, PySem.W.fnOf "add_rows" "add_rows" (defArgs st_add_rows) (defBody st_add_rows) (defScope st_add_rows) .none kV37 dc37 pm37 an37 cd37 ct37, PySem.W.fnOf "add_parts" "add_parts" (defArgs st_add_parts) (defBody st_add_parts) (defScope st_add_parts) .none kV38 dc38 pm38 an38 cd38 ct38, PySem.W.fnOf "add_choose" "add_choose" (defArgs st_add_choose) (defBody st_add_choose) (defScope st_add_choose) .none kV39 dc39 pm39 an39 cd39 ct39, PySem.W.fnOf "add_let" "add_let" (defArgs st_add_let) (defBody st_add_let) (defScope st_add_let) .none kV40 dc40 pm40 an40 cd40 ct40, fdl, fdl, fdl, fdl, fdl, fdl, fdl, fdl, fdl, PySem.W.fnOf "_law_cell_at" "_law_cell_at" (defArgs st__law_cell_at) (defBody st__law_cell_at) (defScope st__law_cell_at) .none kV50 dc50 pm50 an50 cd50 ct50, PySem.W.fnOf "_law_word" "_law_word" (defArgs st__law_word) (defBody st__law_word) (defScope st__law_word) .none kV51 dc51 pm51 an51 cd51 ct51, PySem.W.fnOf "_law_moved" "_law_moved" (defArgs st__law_moved) (defBody st__law_moved) (defScope st__law_moved) .none kV52 dc52 pm52 an52 cd52 ct52, PySem.W.fnOf "_law_within" "_law_within" (defArgs st__law_within) (defBody st__law_within) (defScope st__law_within) .none kV53 dc53 pm53 an53 cd53 ct53, PySem.W.fnOf "_law_chosen" "_law_chosen" (defArgs st__law_chosen) (defBody st__law_chosen) (defScope st__law_chosen) .none kV54 dc54 pm54 an54 cd54 ct54, PySem.W.fnOf "_law_joined" "_law_joined" (defArgs st__law_joined) (defBody st__law_joined) (defScope st__law_joined) .none kV55 dc55 pm55 an55 cd55 ct55, PySem.W.fnOf "_law_let" "_law_let" (defArgs st__law_let) (defBody st__law_let) (defScope st__law_let) .none kV56 dc56 pm56 an56 cd56 ct56, PySem.W.fnOf "_law_made" "_law_made" (defArgs st__law_made) (defBody st__law_made) (defScope st__law_made) .none kV57 dc57 pm57 an57 cd57 ct57, PySem.W.fnOf "_law_put" "_law_put" (defArgs st__law_put) (defBody st__law_put) (defScope st__law_put) .none kV58 dc58 pm58 an58 cd58 ct58, PySem.W.fnOf "_law_named" "_law_named" (defArgs st__law_named) (defBody st__law_named) (defScope st__law_named) .none kV59 dc59 pm59 an59 cd59 ct59, PySem.W.fnOf "_law_ready" "_law_ready" (defArgs st__law_ready) (defBody st__law_ready) (defScope st__law_ready) .none kV60 dc60 pm60 an60 cd60 ct60, PySem.W.fnOf "_law_row" "_law_row" (defArgs st__law_row) (defBody st__law_row) (defScope st__law_row) .none kV61 dc61 pm61 an61 cd61 ct61, PySem.W.fnOf "law" "law" (defArgs st_law) (defBody st_law) (defScope st_law) .none kV62 dc62 pm62 an62 cd62 ct62].getD i fdl) [C0, C1, C2, C3, C4, C5, 0, 0, 0, 0] :=
    { F6 := F6
      b6 := b6
      g6 := PySem.W.mg_of X G a6
      F7 := F7
      b7 := b7
      g7 := PySem.W.mg_of X G a7
      F8 := F8
      b8 := b8
      g8 := PySem.W.mg_of X G a8
      F9 := F9
      b9 := b9
      g9 := PySem.W.mg_of X G a9
      F10 := F10
      b10 := b10
      g10 := PySem.W.mg_of X G a10
      F11 := F11
      b11 := b11
      g11 := PySem.W.mg_of X G a11
      F12 := F12
      b12 := b12
      g12 := PySem.W.mg_of X G a12
      F13 := F13
      b13 := b13
      g13 := PySem.W.mg_of X G a13
      F30 := F30
      b30 := b30
      g30 := by rw [ec11]; exact PySem.W.mg_of X G ac11
      io11 := ⟨by rw [ec11]; exact ⟨pg11, hd11, po11, sa11⟩, by
        rw [ec11]
        intro f hf
        simp only [PVL.fieldsOf, List.mem_cons, List.not_mem_nil, or_false] at hf
        rcases hf with rfl | rfl
        · exact nf11_0
        · exact nf11_1⟩
      mk11 := by rw [ec11]; exact ⟨mk11, a30, i30, kc11⟩
      ic11 := by rw [ec11]; exact ⟨⟨pg11, hd11, po11, sa11⟩, ja11, jb11, jc11, jd11, kitOne_self⟩
      F31 := F31
      b31 := b31
      g31 := PySem.W.mg_of X G a31
      F32 := F32
      b32 := b32
      g32 := PySem.W.mg_of X G a32
      F33 := F33
      b33 := b33
      g33 := PySem.W.mg_of X G a33
      F34 := F34
      b34 := b34
      g34 := PySem.W.mg_of X G a34
      F35 := F35
      b35 := b35
      g35 := PySem.W.mg_of X G a35
      F36 := F36
      b36 := b36
      g36 := PySem.W.mg_of X G a36
      F37 := F37
      b37 := b37
      g37 := PySem.W.mg_of X G a37
      F38 := F38
      b38 := b38
      g38 := PySem.W.mg_of X G a38
      F39 := F39
      b39 := b39
      g39 := PySem.W.mg_of X G a39
      F40 := F40
      b40 := b40
      g40 := PySem.W.mg_of X G a40
      F50 := F50
      b50 := b50
      g50 := PySem.W.mg_of X G a50
      F51 := F51
      b51 := b51
      g51 := PySem.W.mg_of X G a51
      F52 := F52
      b52 := b52
      g52 := PySem.W.mg_of X G a52
      F53 := F53
      b53 := b53
      g53 := PySem.W.mg_of X G a53
      F54 := F54
      b54 := b54
      g54 := PySem.W.mg_of X G a54
      F55 := F55
      b55 := b55
      g55 := PySem.W.mg_of X G a55
      F56 := F56
      b56 := b56
      g56 := PySem.W.mg_of X G a56
      F57 := F57
      b57 := b57
      g57 := PySem.W.mg_of X G a57
      F58 := F58
      b58 := b58
      g58 := PySem.W.mg_of X G a58
      F59 := F59
      b59 := b59
      g59 := PySem.W.mg_of X G a59
      F60 := F60
      b60 := b60
      g60 := PySem.W.mg_of X G a60
      F61 := F61
      b61 := b61
      g61 := PySem.W.mg_of X G a61
      F62 := F62
      b62 := b62
      g62 := PySem.W.mg_of X G a62
      b_bool := PySem.W.mg_none_of X G z_bool
      b_dict := PySem.W.mg_none_of X G z_dict
      b_enumerate := PySem.W.mg_none_of X G z_enumerate
      b_int := PySem.W.mg_none_of X G z_int
      b_isinstance := PySem.W.mg_none_of X G z_isinstance
      b_len := PySem.W.mg_none_of X G z_len
      b_list := PySem.W.mg_none_of X G z_list
      b_max := PySem.W.mg_none_of X G z_max
      b_min := PySem.W.mg_none_of X G z_min
      b_range := PySem.W.mg_none_of X G z_range
      b_set := PySem.W.mg_none_of X G z_set
      b_str := PySem.W.mg_none_of X G z_str
      b_sum := PySem.W.mg_none_of X G z_sum
      b_tuple := PySem.W.mg_none_of X G z_tuple
      b_zip := PySem.W.mg_none_of X G z_zip
      c_MOST_LEVELS := ⟨_, PySem.W.mg_of X G v_MOST_LEVELS⟩
      x0 := ⟨xe0, PySem.W.mg_of X G xa0, xk0, xb0, xt0⟩
      x1 := ⟨xe1, PySem.W.mg_of X G xa1, xk1, xb1, xt1⟩
      x2 := ⟨xe2, PySem.W.mg_of X G xa2, xk2, xb2, xt2⟩
      x3 := ⟨xe3, PySem.W.mg_of X G xa3, xk3, xb3, xt3⟩
      x4 := ⟨xe4, PySem.W.mg_of X G xa4, xk4, xb4, xt4⟩
      x5 := ⟨xe5, PySem.W.mg_of X G xa5, xk5, xb5, xt5⟩
      exm := ⟨hexm, hisv⟩ }
  exact ⟨_, fun s v => .of_eq rfl, fun base _ _ => ((ih_all T (3 * k)).f62).ok (Nat.le_refl _)⟩
end K05
open PySem PySem.W PyProof.Rows
set_option maxRecDepth 100000 in
set_option maxHeartbeats 0 in
theorem PySem.Challenge.cw_callsmith_k05_rows_made_holds : PySem.Challenge.rw_callsmith_k05_rows_made.Holds := by
  w_on; o_law; k_head; (case hw => w_witness2)
  k_fill
  refine L2.walk_of (l := PySem.Challenge.rw_callsmith_k05_rows_made) (n := 63) (k := K05.depth) (x := "_law_script") (CX := fun w => L2.CX PySem.Challenge.rw_callsmith_k05_rows_made.prog w) (sp := ?sp) rfl (by decide) rfl ⟨rfl, by decide, by decide⟩ (fun w h Y => PySem.W.kIn_of Y) ?F ?S ?X
  case F =>
    intro w mg fa h KX G hmg
    refine' K05.all_mk KX G hmg ?a6 ?l6 ?c6 ?k6 ?a7 ?l7 ?c7 ?k7 ?a8 ?l8 ?c8 ?k8 ?a9 ?l9 ?c9 ?k9 ?a10 ?l10 ?c10 ?k10 ?a11 ?l11 ?c11 ?k11 ?a12 ?l12 ?c12 ?k12 ?a13 ?l13 ?c13 ?k13 ?ac11 ?pg11 ?hd11 ?po11 ?sa11 ?mk11 ?kc11 ?nf11_0 ?nf11_1 ?ja11 ?jb11 ?jc11 ?jd11 ?a30 ?i30 ?l30 ?c30 ?k30 ?a31 ?l31 ?c31 ?k31 ?a32 ?l32 ?c32 ?k32 ?a33 ?l33 ?c33 ?k33 ?a34 ?l34 ?c34 ?k34 ?a35 ?l35 ?c35 ?k35 ?a36 ?l36 ?c36 ?k36 ?a37 ?l37 ?c37 ?k37 ?a38 ?l38 ?c38 ?k38 ?a39 ?l39 ?c39 ?k39 ?a40 ?l40 ?c40 ?k40 ?a50 ?l50 ?c50 ?k50 ?a51 ?l51 ?c51 ?k51 ?a52 ?l52 ?c52 ?k52 ?a53 ?l53 ?c53 ?k53 ?a54 ?l54 ?c54 ?k54 ?a55 ?l55 ?c55 ?k55 ?a56 ?l56 ?c56 ?k56 ?a57 ?l57 ?c57 ?k57 ?a58 ?l58 ?c58 ?k58 ?a59 ?l59 ?c59 ?k59 ?a60 ?l60 ?c60 ?k60 ?a61 ?l61 ?c61 ?k61 ?a62 ?l62 ?c62 ?k62 ?xa0 ?xe0 ?xk0 ?xb0 ?xt0 ?xi0 ?y0a ?y0b ?y0c ?y0d ?y0e ?y0f ?y0g ?y0h ?xa1 ?xe1 ?xk1 ?xb1 ?xt1 ?xi1 ?y1a ?y1b ?y1c ?y1d ?y1e ?y1f ?y1g ?y1h ?xa2 ?xe2 ?xk2 ?xb2 ?xt2 ?xi2 ?y2a ?y2b ?y2c ?y2d ?y2e ?y2f ?y2g ?y2h ?xa3 ?xe3 ?xk3 ?xb3 ?xt3 ?xi3 ?y3a ?y3b ?y3c ?y3d ?y3e ?y3f ?y3g ?y3h ?xa4 ?xe4 ?xk4 ?xb4 ?xt4 ?xi4 ?y4a ?y4b ?y4c ?y4d ?y4e ?y4f ?y4g ?y4h ?xa5 ?xe5 ?xk5 ?xb5 ?xt5 ?xi5 ?y5a ?y5b ?y5c ?y5d ?y5e ?y5f ?y5g ?y5h ?xs0_0 ?xs0_1 ?xs0_2 ?xs0_3 ?xs0_4 ?xs0_5 ?xs1_0 ?xs1_1 ?xs1_2 ?xs1_3 ?xs1_4 ?xs1_5 ?xs2_0 ?xs2_1 ?xs2_2 ?xs2_3 ?xs2_4 ?xs2_5 ?xs3_0 ?xs3_1 ?xs3_2 ?xs3_3 ?xs3_4 ?xs3_5 ?xs4_0 ?xs4_1 ?xs4_2 ?xs4_3 ?xs4_4 ?xs4_5 ?xs5_0 ?xs5_1 ?xs5_2 ?xs5_3 ?xs5_4 ?xs5_5 ?z_bool ?z_dict ?z_enumerate ?z_int ?z_isinstance ?z_len ?z_list ?z_max ?z_min ?z_range ?z_set ?z_str ?z_sum ?z_tuple ?z_zip ?v_MOST_LEVELS K05.depth K05.loops
    (case a6 => k_is)
    (case l6 => k_is)
    (case c6 => k_is)
    (case k6 => k_is)
    (case a7 => k_is)
    (case l7 => k_is)
    (case c7 => k_is)
    (case k7 => k_is)
    (case a8 => k_is)
    (case l8 => k_is)
    (case c8 => k_is)
    (case k8 => k_is)
    (case a9 => k_is)
    (case l9 => k_is)
    (case c9 => k_is)
    (case k9 => k_is)
    (case a10 => k_is)
    (case l10 => k_is)
    (case c10 => k_is)
    (case k10 => k_is)
    (case a11 => k_is)
    (case l11 => k_is)
    (case c11 => k_is)
    (case k11 => k_is)
    (case a12 => k_is)
    (case l12 => k_is)
    (case c12 => k_is)
    (case k12 => k_is)
    (case a13 => k_is)
    (case l13 => k_is)
    (case c13 => k_is)
    (case k13 => k_is)
    (case ac11 => k_is)
    (case pg11 => k_is)
    (case hd11 => k_is)
    (case po11 => k_is)
    (case sa11 => k_is)
    (case mk11 => k_is)
    (case kc11 => k_is)
    (case nf11_0 => k_is)
    (case nf11_1 => k_is)
    (case ja11 => k_is)
    (case jb11 => k_is)
    (case jc11 => k_is)
    (case jd11 => k_is)
    (case a30 => k_is)
    (case i30 => k_is)
    (case l30 => k_is)
    (case c30 => k_is)
    (case k30 => k_is)
    (case a31 => k_is)
    (case l31 => k_is)
    (case c31 => k_is)
    (case k31 => k_is)
    (case a32 => k_is)
    (case l32 => k_is)
    (case c32 => k_is)
    (case k32 => k_is)
    (case a33 => k_is)
    (case l33 => k_is)
    (case c33 => k_is)
    (case k33 => k_is)
    (case a34 => k_is)
    (case l34 => k_is)
    (case c34 => k_is)
    (case k34 => k_is)
    (case a35 => k_is)
    (case l35 => k_is)
    (case c35 => k_is)
    (case k35 => k_is)
    (case a36 => k_is)
    (case l36 => k_is)
    (case c36 => k_is)
    (case k36 => k_is)
    (case a37 => k_is)
    (case l37 => k_is)
    (case c37 => k_is)
    (case k37 => k_is)
    (case a38 => k_is)
    (case l38 => k_is)
    (case c38 => k_is)
    (case k38 => k_is)
    (case a39 => k_is)
    (case l39 => k_is)
    (case c39 => k_is)
    (case k39 => k_is)
    (case a40 => k_is)
    (case l40 => k_is)
    (case c40 => k_is)
    (case k40 => k_is)
    (case a50 => k_is)
    (case l50 => k_is)
    (case c50 => k_is)
    (case k50 => k_is)
    (case a51 => k_is)
    (case l51 => k_is)
    (case c51 => k_is)
    (case k51 => k_is)
    (case a52 => k_is)
    (case l52 => k_is)
    (case c52 => k_is)
    (case k52 => k_is)
    (case a53 => k_is)
    (case l53 => k_is)
    (case c53 => k_is)
    (case k53 => k_is)
    (case a54 => k_is)
    (case l54 => k_is)
    (case c54 => k_is)
    (case k54 => k_is)
    (case a55 => k_is)
    (case l55 => k_is)
    (case c55 => k_is)
    (case k55 => k_is)
    (case a56 => k_is)
    (case l56 => k_is)
    (case c56 => k_is)
    (case k56 => k_is)
    (case a57 => k_is)
    (case l57 => k_is)
    (case c57 => k_is)
    (case k57 => k_is)
    (case a58 => k_is)
    (case l58 => k_is)
    (case c58 => k_is)
    (case k58 => k_is)
    (case a59 => k_is)
    (case l59 => k_is)
    (case c59 => k_is)
    (case k59 => k_is)
    (case a60 => k_is)
    (case l60 => k_is)
    (case c60 => k_is)
    (case k60 => k_is)
    (case a61 => k_is)
    (case l61 => k_is)
    (case c61 => k_is)
    (case k61 => k_is)
    (case a62 => k_is)
    (case l62 => k_is)
    (case c62 => k_is)
    (case k62 => k_is)
    (case xa0 => k_is)
    (case xe0 => k_exc)
    (case xk0 => k_is)
    (case xb0 => k_is)
    (case xt0 => k_is)
    (case xi0 => k_is)
    (case y0a => k_is)
    (case y0b => k_is)
    (case y0c => k_is)
    (case y0d => k_is)
    (case y0e => k_is)
    (case y0f => k_is)
    (case y0g => k_is)
    (case y0h => k_is)
    (case xa1 => k_is)
    (case xe1 => k_exc)
    (case xk1 => k_is)
    (case xb1 => k_is)
    (case xt1 => k_is)
    (case xi1 => k_is)
    (case y1a => k_is)
    (case y1b => k_is)
    (case y1c => k_is)
    (case y1d => k_is)
    (case y1e => k_is)
    (case y1f => k_is)
    (case y1g => k_is)
    (case y1h => k_is)
    (case xa2 => k_is)
    (case xe2 => k_exc)
    (case xk2 => k_is)
    (case xb2 => k_is)
    (case xt2 => k_is)
    (case xi2 => k_is)
    (case y2a => k_is)
    (case y2b => k_is)
    (case y2c => k_is)
    (case y2d => k_is)
    (case y2e => k_is)
    (case y2f => k_is)
    (case y2g => k_is)
    (case y2h => k_is)
    (case xa3 => k_is)
    (case xe3 => k_exc)
    (case xk3 => k_is)
    (case xb3 => k_is)
    (case xt3 => k_is)
    (case xi3 => k_is)
    (case y3a => k_is)
    (case y3b => k_is)
    (case y3c => k_is)
    (case y3d => k_is)
    (case y3e => k_is)
    (case y3f => k_is)
    (case y3g => k_is)
    (case y3h => k_is)
    (case xa4 => k_is)
    (case xe4 => k_exc)
    (case xk4 => k_is)
    (case xb4 => k_is)
    (case xt4 => k_is)
    (case xi4 => k_is)
    (case y4a => k_is)
    (case y4b => k_is)
    (case y4c => k_is)
    (case y4d => k_is)
    (case y4e => k_is)
    (case y4f => k_is)
    (case y4g => k_is)
    (case y4h => k_is)
    (case xa5 => k_is)
    (case xe5 => k_exc)
    (case xk5 => k_is)
    (case xb5 => k_is)
    (case xt5 => k_is)
    (case xi5 => k_is)
    (case y5a => k_is)
    (case y5b => k_is)
    (case y5c => k_is)
    (case y5d => k_is)
    (case y5e => k_is)
    (case y5f => k_is)
    (case y5g => k_is)
    (case y5h => k_is)
    (case xs0_0 => k_is)
    (case xs0_1 => k_is)
    (case xs0_2 => k_is)
    (case xs0_3 => k_is)
    (case xs0_4 => k_is)
    (case xs0_5 => k_is)
    (case xs1_0 => k_is)
    (case xs1_1 => k_is)
    (case xs1_2 => k_is)
    (case xs1_3 => k_is)
    (case xs1_4 => k_is)
    (case xs1_5 => k_is)
    (case xs2_0 => k_is)
    (case xs2_1 => k_is)
    (case xs2_2 => k_is)
    (case xs2_3 => k_is)
    (case xs2_4 => k_is)
    (case xs2_5 => k_is)
    (case xs3_0 => k_is)
    (case xs3_1 => k_is)
    (case xs3_2 => k_is)
    (case xs3_3 => k_is)
    (case xs3_4 => k_is)
    (case xs3_5 => k_is)
    (case xs4_0 => k_is)
    (case xs4_1 => k_is)
    (case xs4_2 => k_is)
    (case xs4_3 => k_is)
    (case xs4_4 => k_is)
    (case xs4_5 => k_is)
    (case xs5_0 => k_is)
    (case xs5_1 => k_is)
    (case xs5_2 => k_is)
    (case xs5_3 => k_is)
    (case xs5_4 => k_is)
    (case xs5_5 => k_is)
    (case z_bool => k_is)
    (case z_dict => k_is)
    (case z_enumerate => k_is)
    (case z_int => k_is)
    (case z_isinstance => k_is)
    (case z_len => k_is)
    (case z_list => k_is)
    (case z_max => k_is)
    (case z_min => k_is)
    (case z_range => k_is)
    (case z_set => k_is)
    (case z_str => k_is)
    (case z_sum => k_is)
    (case z_tuple => k_is)
    (case z_zip => k_is)
    (case v_MOST_LEVELS => k_is)
  case S =>
    intro w H a ns hl _ hs
    exact PVL.law_sp hs (K05.law_true ns hl)
  case X =>
    intro w H s e s' h
    obtain ⟨_, _, _, _, _, _, _, _, _, _, _, _, z⟩ := h
    exact z
end
