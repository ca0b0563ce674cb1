import PyProof.Rows.All
import Wide.All
import OpenK.AllK
import Wide.FinOn
import HandS.ForMost
import HandS.ForExc
import HandS.TupAny
import HandS.TupMul
import HandS.TupLe
import HandS.IsInst
import HandS.Deep
import HandS.Wide
import HandS.SortInts
import HandS.Walk
import HandS.ExcInit
import HandS.ExcField
import HandS.TryMany
import HandS.CallSlots
import HandS.Conv
import HandS.More
import HandS.Style
import HandS.RaiseMore
import HandS.Flow
import HandS.SlotsOwn
import HandS.SetBool
import HandS.Strs
import KE.GoesSet
import KE.GoesEnum
import HandS.Iter
import HandS.SortOrd
import HandS.SortRule
import KE.KSortTup
import PyProof.FactsAll.object_2
import PyProof.EnumStmt
import HandS.Gcd
import KE.KMathGC
import HandS.ExcValue
import HandS.ExcIs
import KE.KExcIs
import HandS.MapObj
import KE.DataFind
import HandS.SetFor
import HandS.OwnEq
import HandS.TupSets
import KE.GoesMore
import HandS.Zip
import HandS.Dict
import PyProof.EqKinds
import KE.DatumOrd
import HandS.Head3
import HandS.HeadHook2
import PySem.Challenge.RW_markfilters_k50_edits_at_a_desk
set_option Elab.async false
set_option linter.all false
set_option maxRecDepth 100000
namespace MK
open PySem L2
inductive IV where
  | non | bl (b : Bool) | int (i : Int) | str (x : Str)
  | tup (l : List IV) | lst (l : List IV)
  | scr (l : List IV)
  | obj (c : Str) (fs : List (Str × IV))
  | cell (n : Nat)
  | exn (a : Addr) (cls : Value) (d : Addr) (f : Str) (v : IV) (c : Str)
instance : Inhabited IV := ⟨.non⟩
inductive CV where
  | lst (l : List IV)
  | ins (c : Str) (fs : List (Str × IV))
  | own (c : Str) (fs : List (Str × IV)) (ls : List (Str × List IV))
abbrev Sto := List CV
inductive OX (α : Type) where
  | val (a : α)
  | exc (c : Str) (f : Str) (v : IV)
abbrev Loc := List (Option IV)
inductive Fl where
  | nx (l : Loc)
  | rt (v : IV)
  | bk (l : Loc)
  | ct (l : Loc)
  | ex (l : Loc) (c f : Str) (v : IV)
def M (α : Type) := Sto → Option (OX α × Sto)
def M.ret {α : Type} (a : α) : M α := fun st => some (.val a, st)
def M.stuck {α : Type} : M α := fun _ => none
def M.exc {α : Type} (c f : Str) (v : IV) : M α := fun st => some (.exc c f v, st)
def M.bind {α β : Type} (m : M α) (k : α → M β) : M β := fun st => match m st with
  | some (.val a, st') => k a st'
  | some (.exc c f v, st') => some (.exc c f v, st')
  | none => none
def M.opt {α : Type} : Option α → M α
  | some a => M.ret a
  | none => M.stuck
abbrev ME := Loc → M IV
abbrev MT := Loc → M Bool
abbrev MA := Loc → M (List IV)
abbrev MS := Loc → M Fl
abbrev MF := List IV → M IV
section
variable {α β : Type}
theorem M.bind_run {m : M α} {k : α → M β} {st st' : Sto} {a : α} (h : m st = some (.val a, st')) : M.bind m k st = k a st' := by
  unfold M.bind; rw [h]
theorem M.bind_run_exc {m : M α} {k : α → M β} {st st' : Sto} {c f : Str} {v : IV} (h : m st = some (.exc c f v, st')) : M.bind m k st = some (.exc c f v, st') := by
  unfold M.bind; rw [h]
theorem M.bind_inv {m : M α} {k : α → M β} {st st' : Sto} {r : OX β} (h : M.bind m k st = some (r, st')) :
    (∃ a st1, m st = some (.val a, st1) ∧ k a st1 = some (r, st')) ∨ (∃ c f v, m st = some (.exc c f v, st') ∧ r = .exc c f v) := by
  unfold M.bind at h
  cases e : m st with
  | none => rw [e] at h; cases h
  | some p =>
    obtain ⟨o, s1⟩ := p
    rw [e] at h
    cases o with
    | val a => exact .inl ⟨a, s1, rfl, h⟩
    | exc c f v =>
      simp only [Option.some.injEq, Prod.mk.injEq] at h
      obtain ⟨rfl, rfl⟩ := h
      exact .inr ⟨c, f, v, rfl, rfl⟩
end
structure Wd where
  cm : List Addr
  ow : List (Addr × Addr)
  av : List Addr
  sub : ∀ c, c ∈ cm → c ∈ av
  so : ∀ p, p ∈ ow → p.2 ∈ av
def Wd.ch (w : Wd) : List Addr := w.cm ++ w.ow.map (·.2)
theorem Wd.inch {w : Wd} {a : Addr} (h : a ∈ w.cm) : a ∈ w.ch := List.mem_append_left _ h
theorem Wd.ino {w : Wd} {a b : Addr} (h : (a, b) ∈ w.ow) : b ∈ w.ch := List.mem_append_right _ (List.mem_map.mpr ⟨_, h, rfl⟩)
theorem Wd.mem_ch {w : Wd} {a : Addr} : a ∈ w.ch ↔ a ∈ w.cm ∨ ∃ o, (o, a) ∈ w.ow := by
  unfold Wd.ch
  rw [List.mem_append, List.mem_map]
  constructor
  · rintro (h | ⟨⟨o, b⟩, h, rfl⟩)
    · exact .inl h
    · exact .inr ⟨o, h⟩
  · rintro (h | ⟨o, h⟩)
    · exact .inl h
    · exact .inr ⟨_, h, rfl⟩
theorem Wd.chav {w : Wd} {a : Addr} (h : a ∈ w.ch) : a ∈ w.av := by
  rcases Wd.mem_ch.mp h with h | ⟨o, h⟩
  · exact w.sub a h
  · exact w.so _ h
def Wd.push (w : Wd) (p : Addr) : Wd := ⟨w.cm ++ [p], w.ow, p :: w.av, fun c h => by
  rcases List.mem_append.mp h with h | h
  · exact List.mem_cons_of_mem _ (w.sub c h)
  · simp at h; subst h; exact List.mem_cons_self, fun q h => List.mem_cons_of_mem _ (w.so q h)⟩
def Wd.avoid (w : Wd) (p : Addr) : Wd := ⟨w.cm, w.ow, p :: w.av, fun c h => List.mem_cons_of_mem _ (w.sub c h), fun q h => List.mem_cons_of_mem _ (w.so q h)⟩
mutual
def IV.pure : IV → Bool
  | .tup l => pureL l
  | .lst l => pureL l
  | .scr l => pureL l
  | .obj _ fs => pureF fs
  | .cell _ => false
  | .exn .. => false
  | _ => true
def pureL : List IV → Bool
  | [] => true
  | x :: xs => x.pure && pureL xs
def pureF : List (Str × IV) → Bool
  | [] => true
  | x :: xs => x.2.pure && pureF xs
end
def XF (K : PySem.W.Frag) (C : Addr) (f : Str) : Prop := XfC K C ∧ PySem.W.findIn K (.ref C) f = some none
def errO (a C d : Addr) : HO := .ext fun h => ∃ (oe : Obj) (vs : Array Value), h.get? a = some oe ∧ Zc (.ref C) (some d) oe ∧ oe.data = .fields vs
@[reducible] def errI (c f : Str) (v : IV) : IV := .exn 0 (.str c 0) 0 f v c
def FzL (cm : Wd) (H : Hp) (a : Addr) (xs : List V) : Prop := H a = some (.lst xs) ∧ a ∉ cm.av
def FzT (K : PySem.W.Frag) (cm : Wd) (H : Hp) (a : Addr) (xs : List V) : Prop :=
  (Rd H a (.tup xs) ∧ a ∉ cm.av) ∨
    ∃ (o : Obj) (its : Array Value) (n : Nat), K.lookup a = some o ∧ o.cls = .type "tuple" ∧ o.data = .seq its n ∧ its.size ≤ sizeLine ∧ Vals xs its.toList
theorem FzL.sq {K : PySem.W.Frag} {cm : Wd} {H : Hp} {a : Addr} {xs : List V} (h : FzL cm H a xs) : SqL K H a xs := SqL.of h.1
theorem FzT.sq {K : PySem.W.Frag} {cm : Wd} {H : Hp} {a : Addr} {xs : List V} (h : FzT K cm H a xs) : SqT K H a xs := h.imp (·.1) id
def FzS (K : PySem.W.Frag) (cm : Wd) (H : Hp) (a : Addr) (xs : List V) : Prop :=
  ((∃ o, H a = some (.frz o (.lst xs))) ∧ a ∉ cm.av) ∨
    ∃ (o : Obj) (its : Array Value) (n : Nat), K.lookup a = some o ∧ o.cls = .type "list" ∧ o.dict = none ∧ o.data = .seq its n ∧ its.size ≤ sizeLine ∧ Vals xs its.toList
theorem FzS.sq {K : PySem.W.Frag} {cm : Wd} {H : Hp} {a : Addr} {xs : List V} (h : FzS K cm H a xs) : SqL K H a xs := h.imp (fun h => .inr h.1) id
section
variable (K : PySem.W.Frag) (mg : Str → Option Value)
mutual
inductive Rep (cm : Wd) (H : Hp) : V → IV → Prop
  | non : Rep cm H .non .non
  | bl (b : Bool) : Rep cm H (.bl b) (.bl b)
  | int (i : Int) : Rep cm H (.int i) (.int i)
  | str (x : Str) : Rep cm H (.str x) (.str x)
  | tup {a : Addr} {xs : List V} {l : List IV} : FzT K cm H a xs → RepL cm H xs l → Rep cm H (.ref a) (.tup l)
  | lst {a : Addr} {xs : List V} {l : List IV} : FzL cm H a xs → RepL cm H xs l → Rep cm H (.ref a) (.lst l)
  | scr {a : Addr} {xs : List V} {l : List IV} : FzS K cm H a xs → RepL cm H xs l → Rep cm H (.ref a) (.scr l)
  | obj {a C dx : Addr} {c : Str} {fs' : List (Str × V)} {fs : List (Str × IV)} : mg c = some (.ref C) → H a = some (.ins C dx fs') → a ∉ cm.av → RepF cm H fs' fs → Rep cm H (.ref a) (.obj c fs)
  | cell {a : Addr} {n : Nat} : cm.cm[n]? = some a → Rep cm H (.ref a) (.cell n)
  | exn {a d C : Addr} {c f : Str} {y : V} {v : IV} : mg c = some (.ref C) → XF K C f → H d = some (.xd [(f, y)]) → d ∉ cm.av → Rep cm H y v → Rep cm H (.ref a) (.exn a (.ref C) d f v c)
  | rng {a : Addr} {hi : Int} : H a = some (.rng 0 hi) → a ∉ cm.av → Rep cm H (.ref a) (.exn 0 .none 0 "" (.int hi) "")
  | err {a d C : Addr} {c f : Str} {y : V} {v : IV} : mg c = some (.ref C) → XF K C f → H a = some (errO a C d) → a ∉ cm.av → H d = some (.xd [(f, y)]) → d ∉ cm.av → Rep cm H y v → Rep cm H (.ref a) (errI c f v)
inductive RepL (cm : Wd) (H : Hp) : List V → List IV → Prop
  | nil : RepL cm H [] []
  | cons {x : V} {xs : List V} {v : IV} {l : List IV} : Rep cm H x v → RepL cm H xs l → RepL cm H (x :: xs) (v :: l)
inductive RepF (cm : Wd) (H : Hp) : List (Str × V) → List (Str × IV) → Prop
  | nil : RepF cm H [] []
  | cons {f : Str} {x : V} {xs : List (Str × V)} {v : IV} {l : List (Str × IV)} : Rep cm H x v → RepF cm H xs l → RepF cm H ((f, x) :: xs) ((f, v) :: l)
end
end
structure Ext (cm : Wd) (H : Hp) (cm' : Wd) (H' : Hp) : Prop where
  pre : ∃ l, cm'.cm = cm.cm ++ l
  fr : ∀ a o, H a = some o → a ∉ cm.ch → H' a = some o
  av : ∀ a o, H a = some o → a ∉ cm.av → a ∉ cm'.av
  new : ∀ a o, H a = some o → a ∉ cm.ch → a ∉ cm'.ch
  keep : ∀ a, a ∈ cm.av → a ∈ cm'.av
  pow : ∀ p, p ∈ cm.ow → p ∈ cm'.ow
theorem Ext.refl (cm : Wd) (H : Hp) : Ext cm H cm H := ⟨⟨[], by simp⟩, fun _ _ h _ => h, fun _ _ _ n => n, fun _ _ _ n => n, fun _ h => h, fun _ h => h⟩
theorem Ext.trans {cm cm1 cm2 : Wd} {H H1 H2 : Hp} (a : Ext cm H cm1 H1) (b : Ext cm1 H1 cm2 H2) : Ext cm H cm2 H2 := by
  obtain ⟨l, e⟩ := a.pre
  obtain ⟨l', e'⟩ := b.pre
  refine ⟨⟨l ++ l', by rw [e', e, List.append_assoc]⟩, fun c o h n => ?_, fun c o h n => ?_, fun c o h n => ?_, fun c h => b.keep c (a.keep c h), fun p h => b.pow p (a.pow p h)⟩
  · exact b.fr c o (a.fr c o h n) (a.new c o h n)
  · exact b.av c o (a.fr c o h fun z => n (Wd.chav z)) (a.av c o h n)
  · exact b.new c o (a.fr c o h n) (a.new c o h n)
theorem Ext.mk' {cm : Wd} {H H' : Hp} (h : ∀ a o, H a = some o → a ∉ cm.ch → H' a = some o) : Ext cm H cm H' := ⟨⟨[], by simp⟩, h, fun _ _ _ n => n, fun _ _ _ n => n, fun _ h => h, fun _ h => h⟩
theorem Ext.new' {cm : Wd} {H : Hp} {p : Addr} {o : HO} (h : H p = none) : Ext cm H cm (upd H p o) :=
  Ext.mk' fun a u e n => by rw [upd_ne (ne_of_none e h)]; exact e
theorem Ext.setO {cm : Wd} {H : Hp} {p : Addr} {o : HO} (h : p ∈ cm.ch) : Ext cm H cm (upd H p o) :=
  Ext.mk' fun a u e n => by rw [upd_ne (fun z => n (by rw [z]; exact h))]; exact e
theorem Ext.set {cm : Wd} {H : Hp} {p : Addr} {o : HO} (h : p ∈ cm.cm) : Ext cm H cm (upd H p o) := Ext.setO (Wd.inch h)
theorem Ext.same {cm : Wd} {H H' : Hp} (h : Same H H') : Ext cm H cm H' := Ext.mk' fun a u e n => h a u e
section
variable {K : PySem.W.Frag} {mg : Str → Option Value} {cm cm' : Wd} {H H' : Hp}
theorem Ext.at2 (e : Ext cm H cm' H') {a : Addr} {u : HO} (h : H a = some u) (n : a ∉ cm.av) : H' a = some u ∧ a ∉ cm'.av := ⟨e.fr _ _ h fun z => n (Wd.chav z), e.av _ _ h n⟩
theorem Ext.rd (e : Ext cm H cm' H') {a : Addr} {u : HO} (h : Rd H a u) (n : a ∉ cm.av) : Rd H' a u ∧ a ∉ cm'.av := by
  rcases h with h | ⟨o, h⟩
  · exact ⟨.inl (e.at2 h n).1, (e.at2 h n).2⟩
  · exact ⟨.inr ⟨o, (e.at2 h n).1⟩, (e.at2 h n).2⟩
theorem Ext.fzT (e : Ext cm H cm' H') {a : Addr} {xs : List V} (h : FzT K cm H a xs) : FzT K cm' H' a xs := h.imp (fun h => e.rd h.1 h.2) id
theorem Ext.fzS (e : Ext cm H cm' H') {a : Addr} {xs : List V} (h : FzS K cm H a xs) : FzS K cm' H' a xs := h.imp (fun ⟨⟨o, h⟩, n⟩ => ⟨⟨o, (e.at2 h n).1⟩, (e.at2 h n).2⟩) id
theorem Ext.fzL (e : Ext cm H cm' H') {a : Addr} {xs : List V} (h : FzL cm H a xs) : FzL cm' H' a xs := e.at2 h.1 h.2
theorem Ext.at (e : Ext cm H cm' H') {n : Nat} {a : Addr} (h : cm.cm[n]? = some a) : cm'.cm[n]? = some a := by
  obtain ⟨l, q⟩ := e.pre
  rw [q, List.getElem?_append_left (List.getElem?_eq_some_iff.mp h).1]
  exact h
mutual
theorem Rep.ext (e : Ext cm H cm' H') : ∀ {x : V} {v : IV}, Rep K mg cm H x v → Rep K mg cm' H' x v
  | _, _, .non => .non
  | _, _, .bl b => .bl b
  | _, _, .int i => .int i
  | _, _, .str x => .str x
  | _, _, .tup h r => .tup (e.fzT h) (RepL.ext e r)
  | _, _, .lst h r => .lst (e.fzL h) (RepL.ext e r)
  | _, _, .scr h r => .scr (e.fzS h) (RepL.ext e r)
  | _, _, .obj hc h n r => .obj hc (e.at2 h n).1 (e.at2 h n).2 (RepF.ext e r)
  | _, _, .cell h => .cell (e.at h)
  | _, _, .exn g c h n r => .exn g c (e.at2 h n).1 (e.at2 h n).2 (Rep.ext e r)
  | _, _, .rng h n => .rng (e.at2 h n).1 (e.at2 h n).2
  | _, _, .err g c h n h' n' r => .err g c (e.at2 h n).1 (e.at2 h n).2 (e.at2 h' n').1 (e.at2 h' n').2 (Rep.ext e r)
theorem RepL.ext (e : Ext cm H cm' H') : ∀ {xs : List V} {l : List IV}, RepL K mg cm H xs l → RepL K mg cm' H' xs l
  | _, _, .nil => .nil
  | _, _, .cons h r => .cons (Rep.ext e h) (RepL.ext e r)
theorem RepF.ext (e : Ext cm H cm' H') : ∀ {xs : List (Str × V)} {l : List (Str × IV)}, RepF K mg cm H xs l → RepF K mg cm' H' xs l
  | _, _, .nil => .nil
  | _, _, .cons h r => .cons (Rep.ext e h) (RepF.ext e r)
end
structure Cut (cm : Wd) (H : Hp) (cm' : Wd) (H' : Hp) : Prop where
  sub : ∀ a o, H a = some o → a ∉ cm.av → a ∉ cm'.av
  fr : ∀ a o, H a = some o → a ∉ cm.av → H' a = some o
theorem Cut.rd (e : Cut cm H cm' H') {a : Addr} {u : HO} (h : Rd H a u) (n : a ∉ cm.av) : Rd H' a u ∧ a ∉ cm'.av := by
  rcases h with h | ⟨o, h⟩
  · exact ⟨.inl (e.fr _ _ h n), e.sub _ _ h n⟩
  · exact ⟨.inr ⟨o, e.fr _ _ h n⟩, e.sub _ _ h n⟩
mutual
theorem Rep.cut (e : Cut cm H cm' H') : ∀ {x : V} {v : IV}, Rep K mg cm H x v → v.pure = true → Rep K mg cm' H' x v
  | _, _, .non, _ => .non
  | _, _, .bl b, _ => .bl b
  | _, _, .int i, _ => .int i
  | _, _, .str x, _ => .str x
  | _, _, .tup h r, p => .tup (h.imp (fun h => e.rd h.1 h.2) id) (RepL.cut e r (by simpa [IV.pure] using p))
  | _, _, .lst h r, p => .lst ⟨e.fr _ _ h.1 h.2, e.sub _ _ h.1 h.2⟩ (RepL.cut e r (by simpa [IV.pure] using p))
  | _, _, .scr h r, p => .scr (h.imp (fun ⟨⟨o, h⟩, n⟩ => ⟨⟨o, e.fr _ _ h n⟩, e.sub _ _ h n⟩) id) (RepL.cut e r (by simpa [IV.pure] using p))
  | _, _, .obj hc h n r, p => .obj hc (e.fr _ _ h n) (e.sub _ _ h n) (RepF.cut e r (by simpa [IV.pure] using p))
  | _, _, .cell h, p => by simp [IV.pure] at p
  | _, _, .exn g c h n r, p => by simp [IV.pure] at p
  | _, _, .rng h n, p => by simp [IV.pure] at p
  | _, _, .err g c h n h' n' r, p => by simp [IV.pure] at p
theorem RepL.cut (e : Cut cm H cm' H') : ∀ {xs : List V} {l : List IV}, RepL K mg cm H xs l → pureL l = true → RepL K mg cm' H' xs l
  | _, _, .nil, _ => .nil
  | _, _, .cons h r, p => by
    simp only [pureL, Bool.and_eq_true] at p
    exact .cons (Rep.cut e h p.1) (RepL.cut e r p.2)
theorem RepF.cut (e : Cut cm H cm' H') : ∀ {xs : List (Str × V)} {l : List (Str × IV)}, RepF K mg cm H xs l → pureF l = true → RepF K mg cm' H' xs l
  | _, _, .nil, _ => .nil
  | _, _, .cons h r, p => by
    simp only [pureF, Bool.and_eq_true] at p
    exact .cons (Rep.cut e h p.1) (RepF.cut e r p.2)
end
structure Weak (cm cm' : Wd) : Prop where
  ce : ∀ (n : Nat) (a : Addr), cm.cm[n]? = some a → cm'.cm[n]? = some a
  av : ∀ a, a ∉ cm.av → a ∉ cm'.av
mutual
theorem Rep.weak (e : Weak cm cm') : ∀ {x : V} {v : IV}, Rep K mg cm H x v → Rep K mg cm' H x v
  | _, _, .non => .non
  | _, _, .bl b => .bl b
  | _, _, .int i => .int i
  | _, _, .str x => .str x
  | _, _, .tup h r => .tup (h.imp (fun h => ⟨h.1, e.av _ h.2⟩) id) (RepL.weak e r)
  | _, _, .lst h r => .lst ⟨h.1, e.av _ h.2⟩ (RepL.weak e r)
  | _, _, .scr h r => .scr (h.imp (fun ⟨h, n⟩ => ⟨h, e.av _ n⟩) id) (RepL.weak e r)
  | _, _, .obj hc h n r => .obj hc h (e.av _ n) (RepF.weak e r)
  | _, _, .cell h => .cell (e.ce _ _ h)
  | _, _, .exn g c h n r => .exn g c h (e.av _ n) (Rep.weak e r)
  | _, _, .rng h n => .rng h (e.av _ n)
  | _, _, .err g c h n h' n' r => .err g c h (e.av _ n) h' (e.av _ n') (Rep.weak e r)
theorem RepL.weak (e : Weak cm cm') : ∀ {xs : List V} {l : List IV}, RepL K mg cm H xs l → RepL K mg cm' H xs l
  | _, _, .nil => .nil
  | _, _, .cons h r => .cons (Rep.weak e h) (RepL.weak e r)
theorem RepF.weak (e : Weak cm cm') : ∀ {xs : List (Str × V)} {l : List (Str × IV)}, RepF K mg cm H xs l → RepF K mg cm' H xs l
  | _, _, .nil => .nil
  | _, _, .cons h r => .cons (Rep.weak e h) (RepF.weak e r)
end
theorem Weak.unavoid {p : Addr} : Weak (cm.avoid p) cm := ⟨fun _ _ h => h, fun a h m => h (List.mem_cons_of_mem _ m)⟩
theorem Weak.push {p : Addr} : Weak (cm.avoid p) (cm.push p) := ⟨fun n a h => by
  show (cm.cm ++ [p])[n]? = some a
  have h' : cm.cm[n]? = some a := h
  rw [List.getElem?_append_left (List.getElem?_eq_some_iff.mp h').1]; exact h', fun a h => h⟩
theorem RepL.length : ∀ {xs : List V} {l : List IV}, RepL K mg cm H xs l → xs.length = l.length
  | _, _, .nil => rfl
  | _, _, .cons _ r => by simp [RepL.length r]
theorem RepL.get : ∀ {xs : List V} {l : List IV} {i : Nat} {v : IV}, RepL K mg cm H xs l → l[i]? = some v → ∃ x, xs[i]? = some x ∧ Rep K mg cm H x v
  | _, _, _, _, .nil, h => by simp at h
  | _, _, 0, _, .cons h _, e => by
    simp at e; subst e
    exact ⟨_, rfl, h⟩
  | _, _, i + 1, _, .cons _ r, e => by
    obtain ⟨x, h1, h2⟩ := RepL.get (i := i) r (by simpa using e)
    exact ⟨x, by simpa using h1, h2⟩
theorem RepL.app : ∀ {xs ys : List V} {l m : List IV}, RepL K mg cm H xs l → RepL K mg cm H ys m → RepL K mg cm H (xs ++ ys) (l ++ m)
  | _, _, _, _, .nil, h => h
  | _, _, _, _, .cons h r, q => .cons h (RepL.app r q)
theorem RepL.take : ∀ {xs : List V} {l : List IV} (n : Nat), RepL K mg cm H xs l → RepL K mg cm H (xs.take n) (l.take n)
  | _, _, 0, _ => by simpa using RepL.nil
  | _, _, n + 1, .nil => by simpa using RepL.nil
  | _, _, n + 1, .cons h r => .cons h (RepL.take n r)
theorem RepL.drop : ∀ {xs : List V} {l : List IV} (n : Nat), RepL K mg cm H xs l → RepL K mg cm H (xs.drop n) (l.drop n)
  | _, _, 0, h => h
  | _, _, n + 1, .nil => by simpa using RepL.nil
  | _, _, n + 1, .cons h r => RepL.drop n r
theorem RepL.set : ∀ {xs : List V} {l : List IV} {x : V} {v : IV} (n : Nat), RepL K mg cm H xs l → Rep K mg cm H x v → RepL K mg cm H (xs.set n x) (l.set n v)
  | _, _, _, _, _, .nil, _ => by simpa using RepL.nil
  | _, _, _, _, 0, .cons h r, q => .cons q r
  | _, _, _, _, n + 1, .cons h r, q => .cons h (RepL.set n r q)
theorem RepL.rep (n : Nat) : ∀ {xs : List V} {l : List IV}, RepL K mg cm H xs l → RepL K mg cm H (List.replicate n xs).flatten (List.replicate n l).flatten := by
  intro xs l r
  induction n with
  | zero => simpa using RepL.nil
  | succ n ih =>
    rw [List.replicate_succ, List.replicate_succ, List.flatten_cons, List.flatten_cons]
    exact r.app ih
theorem RepF.get : ∀ {xs : List (Str × V)} {l : List (Str × IV)} {f : Str} {v : IV}, RepF K mg cm H xs l → l.lookup f = some v → ∃ x, xs.lookup f = some x ∧ Rep K mg cm H x v
  | _, _, _, _, .nil, h => by simp at h
  | _, _, f, v, .cons (f := g) h r, e => by
    rw [List.lookup_cons] at e ⊢
    cases q : f == g with
    | true =>
      rw [q] at e
      simp at e; subst e
      exact ⟨_, rfl, h⟩
    | false =>
      rw [q] at e
      exact RepF.get r e
theorem RepF.none : ∀ {xs : List (Str × V)} {l : List (Str × IV)} {f : Str}, RepF K mg cm H xs l → l.lookup f = none → xs.lookup f = none
  | _, _, _, .nil, _ => rfl
  | _, _, f, .cons (f := g) h r, e => by
    rw [List.lookup_cons] at e ⊢
    cases q : f == g with
    | true => rw [q] at e; cases e
    | false =>
      rw [q] at e
      exact RepF.none r e
theorem RepF.length : ∀ {xs : List (Str × V)} {l : List (Str × IV)}, RepF K mg cm H xs l → xs.length = l.length
  | _, _, .nil => rfl
  | _, _, .cons _ r => by simp [RepF.length r]
def putI (f : Str) (v : IV) : List (Str × IV) → List (Str × IV)
  | [] => [(f, v)]
  | (g, w) :: r => if g = f then (g, v) :: r else (g, w) :: putI f v r
end
end MK
namespace MK
open PySem L2
section
variable (K : PySem.W.Frag) (mg : Str → Option Value)
structure RepO (cm : Wd) (H : Hp) (a : Addr) (fs' : List (Str × V)) (fs : List (Str × IV)) (ls : List (Str × List IV)) : Prop where
  fl : ∀ f v, fs.lookup f = some v → ∃ x, fs'.lookup f = some x ∧ Rep K mg cm H x v
  ol : ∀ f l, ls.lookup f = some l → ∃ b xs, fs'.lookup f = some (.ref b) ∧ (a, b) ∈ cm.ow ∧ H b = some (.lst xs) ∧ RepL K mg cm H xs l ∧ pureL l = true
  dj : ∀ f g b, f ≠ g → ls.lookup f ≠ none → ls.lookup g ≠ none → fs'.lookup f = some (.ref b) → fs'.lookup g ≠ some (.ref b)
  no : ∀ f, fs.lookup f = none → ls.lookup f = none → fs'.lookup f = none
  sm : fs'.length ≤ fs.length + ls.length
def CellOk (cm : Wd) (H : Hp) (a : Addr) : CV → Prop
  | .lst l => ∃ xs, H a = some (.lst xs) ∧ RepL K mg cm H xs l ∧ pureL l = true
  | .ins c fs => ∃ C dx fs', mg c = some (.ref C) ∧ H a = some (.ins C dx fs') ∧ RepF K mg cm H fs' fs ∧ pureF fs = true
  | .own c fs ls => ∃ C dx fs', mg c = some (.ref C) ∧ H a = some (.ins C dx fs') ∧ RepO K mg cm H a fs' fs ls ∧ pureF fs = true
structure RelS (cm : Wd) (st : Sto) (H : Hp) : Prop where
  len : cm.cm.length = st.length
  nd : cm.cm.Nodup
  at' : ∀ (n : Nat) (a : Addr) (c : CV), cm.cm[n]? = some a → st[n]? = some c → CellOk K mg cm H a c
  avs : ∀ a, a ∈ cm.av → ∃ o, H a = some o
  ofn : ∀ a a' b, (a, b) ∈ cm.ow → (a', b) ∈ cm.ow → a = a'
  onc : ∀ a b, (a, b) ∈ cm.ow → b ∉ cm.cm
structure RelC (cm : Wd) (ls : Loc) (σ : L2.St) (H : Hp) : Prop where
  len : ls.length = σ.length
  at' : ∀ (i : Nat) (v : IV), ls[i]? = some (some v) → ∃ x, σ[i]? = some (some x) ∧ Rep K mg cm H x v
structure Rel (cm : Wd) (ls : Loc) (st : Sto) (σ : L2.St) (H : Hp) : Prop where
  sto : RelS K mg cm st H
  loc : RelC K mg cm ls σ H
def ExW (W : WX) (cm : Wd) (c f : Str) (v : IV) (σ : L2.St) (H : Hp) : Prop :=
  ∀ C d y, mg c = some (.ref C) → XF K C f → H d = some (.xd [(f, y)]) → d ∉ cm.av → Rep K mg cm H y v → W (.ref C) (some d) σ H
def Out {α : Type} (W : WX) (σ : L2.St) (cm : Wd) (H : Hp) (G : Wd → Hp → α → Prop) : OX α → Sto → Prop
  | .val a, st' => ∀ cm' H', Ext cm H cm' H' → RelS K mg cm' st' H' → G cm' H' a
  | .exc c f v, st' => ∀ cm' H', Ext cm H cm' H' → RelS K mg cm' st' H' → ExW K mg W cm' c f v σ H'
def Run {α : Type} (W : WX) (σ : L2.St) (H : Hp) (m : Loc → M α) (G : Wd → Hp → α → Prop) : Prop :=
  ∃ cm ls st r st', Rel K mg cm ls st σ H ∧ m ls st = some (r, st') ∧ Out K mg W σ cm H G r st'
def GE (Q : VK) (cm : Wd) (H : Hp) (v : IV) : Prop := ∀ x, Rep K mg cm H x v → Q x H
def GA (Q : List V → Hp → Prop) (cm : Wd) (H : Hp) (l : List IV) : Prop := ∀ xs, RepL K mg cm H xs l → Q xs H
def GS (W : WX) (D : Ends) (cm : Wd) (H : Hp) : Fl → Prop
  | .nx ls => ∀ σ, RelC K mg cm ls σ H → D.nx σ H
  | .bk ls => ∀ σ, RelC K mg cm ls σ H → D.bk σ H
  | .ct ls => ∀ σ, RelC K mg cm ls σ H → D.ct σ H
  | .rt v => ∀ x, Rep K mg cm H x v → D.rt x H
  | .ex ls c f v => ∀ σ, RelC K mg cm ls σ H → ExW K mg W cm c f v σ H
def rdE (W : WX) (m : ME) : TE := fun σ H Q => Run K mg W σ H m (GE K mg Q)
def rdT (W : WX) (m : MT) : TT := fun σ H Q => Run K mg W σ H m fun _ H' b => Q b H'
def rdA (W : WX) (m : MA) : TA := fun σ H Q => Run K mg W σ H m (GA K mg Q)
def OutS (W : WX) (D : Ends) (cm : Wd) (H : Hp) (fl : Fl) (st' : Sto) : Prop := ∀ cm' H', Ext cm H cm' H' → RelS K mg cm' st' H' → GS K mg W D cm' H' fl
def rdS (W : WX) (m : MS) : TS := fun D σ H => ∃ cm ls st fl st', Rel K mg cm ls st σ H ∧ m ls st = some (.val fl, st') ∧ OutS K mg W D cm H fl st'
end
section
variable {K : PySem.W.Frag} {mg : Str → Option Value} {cm cm' : Wd} {st st' : Sto} {H H' : Hp} {ls ls' : Loc} {σ : L2.St} {W : WX} {α β : Type}
theorem RelC.ext (e : Ext cm H cm' H') (h : RelC K mg cm ls σ H) : RelC K mg cm' ls σ H' := ⟨h.len, fun i v q => by
  obtain ⟨x, h1, h2⟩ := h.at' i v q
  exact ⟨x, h1, h2.ext e⟩⟩
theorem Rel.ext (e : Ext cm H cm' H') (h : Rel K mg cm ls st σ H) (s : RelS K mg cm' st' H') : Rel K mg cm' ls st' σ H' := ⟨s, h.loc.ext e⟩
theorem RepO.ext (e : Ext cm H cm' H') {a : Addr} {fs' : List (Str × V)} {fs : List (Str × IV)} {ls : List (Str × List IV)} (h : RepO K mg cm H a fs' fs ls) (ko : ∀ b, (a, b) ∈ cm.ow → H' b = H b) : RepO K mg cm' H' a fs' fs ls where
  fl f v q := by
    obtain ⟨x, h1, h2⟩ := h.fl f v q
    exact ⟨x, h1, h2.ext e⟩
  ol f l q := by
    obtain ⟨b, xs, h1, h2, h3, h4, h5⟩ := h.ol f l q
    exact ⟨b, xs, h1, e.pow _ h2, (ko b h2).trans h3, h4.ext e, h5⟩
  dj := h.dj
  no := h.no
  sm := h.sm
theorem CellOk.ext (e : Ext cm H cm' H') {a : Addr} {c : CV} (h : CellOk K mg cm H a c) (k : H' a = H a) (ko : ∀ b, (a, b) ∈ cm.ow → H' b = H b) : CellOk K mg cm' H' a c := by
  cases c with
  | lst l =>
    obtain ⟨xs, h1, h2, h3⟩ := h
    exact ⟨xs, k.trans h1, h2.ext e, h3⟩
  | ins c fs =>
    obtain ⟨C, dx, fs', h0, h1, h2, h3⟩ := h
    exact ⟨C, dx, fs', h0, k.trans h1, h2.ext e, h3⟩
  | own c fs ls =>
    obtain ⟨C, dx, fs', h0, h1, h2, h3⟩ := h
    exact ⟨C, dx, fs', h0, k.trans h1, h2.ext e ko, h3⟩
theorem RelS.ext (s : RelS K mg cm st H) (e : Ext cm H cm H') (k : ∀ a ∈ cm.ch, H' a = H a) : RelS K mg cm st H' := ⟨s.len, s.nd, fun n a c h1 h2 => (s.at' n a c h1 h2).ext e (k a (Wd.inch (List.mem_of_getElem? h1))) fun b hb => k b (Wd.ino hb), fun a h => by
  obtain ⟨o, q⟩ := s.avs a h
  by_cases hc : a ∈ cm.ch
  · exact ⟨o, by rw [k a hc]; exact q⟩
  · exact ⟨o, e.fr a o q hc⟩, s.ofn, s.onc⟩
theorem RelS.same (s : RelS K mg cm st H) (k : Same H H') : RelS K mg cm st H' := s.ext (Ext.same k) fun a h => by
  obtain ⟨o, q⟩ := s.avs a (Wd.chav h)
  rw [q]; exact k _ _ q
theorem same_new {H : Hp} {p : Addr} {o : HO} (h : H p = none) : Same H (upd H p o) := fun a u e => by rw [upd_ne (ne_of_none e h)]; exact e
theorem RelS.notAv (s : RelS K mg cm st H) {p : Addr} (h : H p = none) : p ∉ cm.av := fun m => by
  obtain ⟨o, e⟩ := s.avs p m
  rw [h] at e; cases e
theorem RelS.notCell (s : RelS K mg cm st H) {p : Addr} (h : H p = none) : p ∉ cm.ch := fun m => s.notAv h (Wd.chav m)
theorem RelS.new (s : RelS K mg cm st H) {p : Addr} {o : HO} (h : H p = none) : RelS K mg cm st (upd H p o) := s.same (same_new h)
theorem Wd.push_ch {p a : Addr} : a ∈ (cm.push p).ch ↔ a ∈ cm.ch ∨ a = p := by
  rw [Wd.mem_ch, Wd.mem_ch]
  show (a ∈ cm.cm ++ [p] ∨ ∃ o, (o, a) ∈ cm.ow) ↔ _
  rw [List.mem_append, List.mem_singleton]
  constructor
  · rintro ((h | h) | h)
    · exact .inl (.inl h)
    · exact .inr h
    · exact .inl (.inr h)
  · rintro ((h | h) | h)
    · exact .inl (.inl h)
    · exact .inr h
    · exact .inl (.inr h)
theorem Ext.push {p : Addr} {o : HO} (h : H p = none) : Ext cm H (cm.push p) (upd H p o) where
  pre := ⟨[p], rfl⟩
  fr := fun a u e n => by rw [upd_ne (ne_of_none e h)]; exact e
  av := fun a u e n m => by
    rcases List.mem_cons.mp m with m | m
    · subst m; rw [h] at e; cases e
    · exact n m
  new := fun a u e n m => by
    rcases Wd.push_ch.mp m with m | m
    · exact n m
    · subst m; rw [h] at e; cases e
  keep := fun a h => List.mem_cons_of_mem _ h
  pow := fun _ h => h
theorem Ext.avoid {p : Addr} {o : HO} (h : H p = none) : Ext cm H (cm.avoid p) (upd H p o) where
  pre := ⟨[], by simp [Wd.avoid]⟩
  fr := fun a u e n => by rw [upd_ne (ne_of_none e h)]; exact e
  av := fun a u e n m => by
    rcases List.mem_cons.mp m with m | m
    · subst m; rw [h] at e; cases e
    · exact n m
  new := fun a u e n => n
  keep := fun a h => List.mem_cons_of_mem _ h
  pow := fun _ h => h
theorem RelS.push (s : RelS K mg cm st H) {p : Addr} {c : CV} (h : H p = none) (e : Ext cm H (cm.push p) H') (k : ∀ a ∈ cm.ch, H' a = H a) (hp : ∃ o, H' p = some o) (hc : CellOk K mg (cm.push p) H' p c) : RelS K mg (cm.push p) (st ++ [c]) H' := by
  refine ⟨by simp [Wd.push, s.len], ?_, fun n a d h1 h2 => ?_, fun a m => ?_, s.ofn, fun a b hb m => ?_⟩
  · show (cm.cm ++ [p]).Nodup
    rw [List.nodup_append]
    exact ⟨s.nd, by simp, fun a ha b hb => by simp at hb; subst hb; exact fun z => s.notCell h (z ▸ Wd.inch ha)⟩
  · have h1' : (cm.cm ++ [p])[n]? = some a := h1
    by_cases hn : n < cm.cm.length
    · rw [List.getElem?_append_left hn] at h1'
      rw [List.getElem?_append_left (by rw [← s.len]; exact hn)] at h2
      exact (s.at' n a d h1' h2).ext e (k a (Wd.inch (List.mem_of_getElem? h1'))) fun b hb => k b (Wd.ino hb)
    · have hn' : n = cm.cm.length := by
        have := (List.getElem?_eq_some_iff.mp h1').1
        simp at this
        omega
      subst hn'
      rw [List.getElem?_append_right (Nat.le_refl _)] at h1'
      rw [s.len, List.getElem?_append_right (Nat.le_refl _)] at h2
      simp at h1' h2
      subst h1' h2
      exact hc
  · rcases List.mem_cons.mp m with m | m
    · subst m; exact hp
    · obtain ⟨o, q⟩ := s.avs a m
      by_cases hc : a ∈ cm.ch
      · exact ⟨o, by rw [k a hc]; exact q⟩
      · exact ⟨o, e.fr a o q hc⟩
  · have m' : b ∈ cm.cm ++ [p] := m
    rcases List.mem_append.mp m' with m' | m'
    · exact s.onc a b hb m'
    · rw [List.mem_singleton] at m'
      subst m'
      exact s.notCell h (Wd.ino hb)
theorem RelS.set (s : RelS K mg cm st H) {n : Nat} {a : Addr} {o : HO} {c : CV} (h : cm.cm[n]? = some a) (hc : CellOk K mg cm (upd H a o) a c) : RelS K mg cm (st.set n c) (upd H a o) := by
  have hm := List.mem_of_getElem? h
  refine ⟨by simp [s.len], s.nd, fun m b d h1 h2 => ?_, fun b m => ?_, s.ofn, s.onc⟩
  · have hn : n < st.length := by rw [← s.len]; exact (List.getElem?_eq_some_iff.mp h).1
    by_cases e : n = m
    · subst e
      rw [h] at h1; cases h1
      rw [List.getElem?_set_self hn] at h2; cases h2
      exact hc
    · rw [List.getElem?_set_ne e] at h2
      have ne : b ≠ a := fun z => by
        subst z
        obtain ⟨i1, e1⟩ := List.getElem?_eq_some_iff.mp h
        obtain ⟨i2, e2⟩ := List.getElem?_eq_some_iff.mp h1
        exact e ((List.getElem_inj s.nd).mp (e1.trans e2.symm))
      exact (s.at' m b d h1 h2).ext (Ext.set hm) (upd_ne ne) fun b' hb => upd_ne fun z => s.onc _ _ hb (z ▸ hm)
  · by_cases e : b = a
    · subst e; exact ⟨o, upd_same⟩
    · obtain ⟨u, q⟩ := s.avs b m
      exact ⟨u, by rw [upd_ne e]; exact q⟩
theorem Run.part {m : Loc → M α} {k : α → M β} {G : Wd → Hp → β → Prop} (h : Run K mg W σ H (fun ls => M.bind (m ls) k) G) :
    ∃ cm ls st, Rel K mg cm ls st σ H ∧ ∃ r st', m ls st = some (r, st') ∧ Out K mg W σ cm H (fun cm' H' a => ∃ r2 st2, k a st' = some (r2, st2) ∧ Out K mg W σ cm' H' G r2 st2) r st' := by
  obtain ⟨cm, ls, st, r, st', R, e, o⟩ := h
  refine ⟨cm, ls, st, R, ?_⟩
  rcases M.bind_inv e with ⟨a, st1, e1, e2⟩ | ⟨c, f, v, e1, rfl⟩
  · refine ⟨_, _, e1, fun cm' H' x s => ⟨r, st', e2, ?_⟩⟩
    cases r with
    | val b => exact fun cm2 H2 x2 s2 => o cm2 H2 (x.trans x2) s2
    | exc c f v => exact fun cm2 H2 x2 s2 => o cm2 H2 (x.trans x2) s2
  · exact ⟨_, _, e1, o⟩
end
theorem PE_imp {X : Cx} {e : Expr} {t t' : TE} (h : PE X e t) (i : ∀ σ H Q, t' σ H Q → t σ H Q) : PE X e t' := ⟨fun pins s σ H Q I q => h.run pins s σ H Q I (i σ H Q q)⟩
theorem PT_imp {X : Cx} {e : Expr} {t t' : TT} (h : PT X e t) (i : ∀ σ H Q, t' σ H Q → t σ H Q) : PT X e t' := ⟨fun pins s σ H Q I q => h.run pins s σ H Q I (i σ H Q q)⟩
theorem PW_imp {X : Cx} {e : Expr} {t t' : TT} (h : PW X e t) (i : ∀ σ H Q, t' σ H Q → t σ H Q) : PW X e t' := ⟨fun wh pins s σ H Q I q => h.run wh pins s σ H Q I (i σ H Q q)⟩
theorem PA_imp {X : Cx} {es : List Expr} {t t' : TA} (h : PA X es t) (i : ∀ σ H Q, t' σ H Q → t σ H Q) : PA X es t' := ⟨fun pos pins s σ H Q I q => h.run pos pins s σ H Q I (i σ H Q q)⟩
theorem PS_imp {X : Cx} {st : Stmt} {t t' : TS} (h : PS X st t) (i : ∀ D σ H, t' D σ H → t D σ H) : PS X st t' := ⟨fun pins s σ H D I q => h.run pins s σ H D I (i D σ H q)⟩
theorem PSs_imp {X : Cx} {st : List Stmt} {t t' : TS} (h : PSs X st t) (i : ∀ D σ H, t' D σ H → t D σ H) : PSs X st t' := ⟨fun pins s σ H D I q => h.run pins s σ H D I (i D σ H q)⟩
end MK
namespace MK
open PySem L2
def lstOf (st : Sto) : IV → Option (List IV)
  | .lst l => some l
  | .cell n => match st[n]? with | some (.lst l) => some l | _ => none
  | _ => none
def asSeq (st : Sto) : IV → Option (List IV)
  | .tup l => some l
  | .scr l => some l
  | v => lstOf st v
mutual
def IV.toD : IV → Option PyData
  | .non => some .none
  | .bl b => some (.bool b)
  | .int i => some (.int i)
  | .str x => some (.str x)
  | .tup l => (toDL l).map .tuple
  | .lst l => (toDL l).map .list
  | .scr l => (toDL l).map .list
  | _ => none
def toDL : List IV → Option (List PyData)
  | [] => some []
  | x :: xs => match x.toD, toDL xs with
    | some d, some ds => some (d :: ds)
    | _, _ => none
end
def IV.data (st : Sto) : IV → Option PyData
  | .cell n => match st[n]? with | some (.lst l) => (toDL l).map .list | _ => none
  | v => v.toD
section
variable {K : PySem.W.Frag} {mg : Str → Option Value} {cm cm' : Wd} {st : Sto} {H H' : Hp} {x y : V} {a b v : IV} {l : List IV}
theorem lstOf_rep (s : RelS K mg cm st H) (h : Rep K mg cm H x a) (e : lstOf st a = some l) : ∃ p xs, x = .ref p ∧ H p = some (.lst xs) ∧ RepL K mg cm H xs l := by
  cases h with
  | lst h r => simp only [lstOf] at e; cases e; exact ⟨_, _, rfl, h.1, r⟩
  | @cell p n h =>
    simp only [lstOf] at e
    cases q : st[n]? with
    | none => rw [q] at e; cases e
    | some c =>
      rw [q] at e
      cases c with
      | ins => cases e
      | own => cases e
      | lst l' =>
        cases e
        obtain ⟨xs, h1, h2, _⟩ := s.at' n p _ h q
        exact ⟨p, xs, rfl, h1, h2⟩
  | _ => cases e
theorem asSeq_rep (s : RelS K mg cm st H) (h : Rep K mg cm H x a) (e : asSeq st a = some l) : ∃ p xs, x = .ref p ∧ (SqL K H p xs ∨ SqT K H p xs) ∧ RepL K mg cm H xs l := by
  cases h with
  | tup h r => simp only [asSeq] at e; cases e; exact ⟨_, _, rfl, .inr h.sq, r⟩
  | scr h r => simp only [asSeq] at e; cases e; exact ⟨_, _, rfl, .inl h.sq, r⟩
  | lst h r =>
    obtain ⟨p, xs, e1, h1, h2⟩ := lstOf_rep s (.lst h r) e
    exact ⟨p, xs, e1, .inl (SqL.of h1), h2⟩
  | cell h =>
    obtain ⟨p, xs, e1, h1, h2⟩ := lstOf_rep s (.cell h) e
    exact ⟨p, xs, e1, .inl (SqL.of h1), h2⟩
  | _ => cases e
mutual
theorem toD_Dp : ∀ (a : IV) {x : V} {d : PyData}, Rep K mg cm H x a → a.toD = some d → Dp K H x d
  | .non, _, _, h, e => by cases h; simp only [IV.toD] at e; cases e; exact .non
  | .bl b, _, _, h, e => by cases h; simp only [IV.toD] at e; cases e; exact .bl _
  | .int i, _, _, h, e => by cases h; simp only [IV.toD] at e; cases e; exact .int _
  | .str z, _, _, h, e => by cases h; simp only [IV.toD] at e; cases e; exact .str _
  | .tup l, _, _, h, e => by
    cases h with
    | tup h r =>
      simp only [IV.toD] at e
      cases q : toDL l with
      | none => rw [q] at e; cases e
      | some ds => rw [q] at e; cases e; exact .tup h.sq (toDL_Dp l r q)
  | .lst l, _, _, h, e => by
    cases h with
    | lst h r =>
      simp only [IV.toD] at e
      cases q : toDL l with
      | none => rw [q] at e; cases e
      | some ds => rw [q] at e; cases e; exact .lst h.sq (toDL_Dp l r q)
  | .scr l, _, _, h, e => by
    cases h with
    | scr h r =>
      simp only [IV.toD] at e
      cases q : toDL l with
      | none => rw [q] at e; cases e
      | some ds => rw [q] at e; cases e; exact .lst h.sq (toDL_Dp l r q)
  | .obj .., _, _, _, e => by simp only [IV.toD] at e; cases e
  | .cell _, _, _, _, e => by simp only [IV.toD] at e; cases e
  | .exn .., _, _, _, e => by simp only [IV.toD] at e; cases e
theorem toDL_Dp : ∀ (l : List IV) {xs : List V} {ds : List PyData}, RepL K mg cm H xs l → toDL l = some ds → DpAll K H xs ds
  | [], _, _, h, e => by cases h; simp only [toDL] at e; cases e; exact .nil
  | a :: l, _, _, h, e => by
    cases h with
    | cons h r =>
      simp only [toDL] at e
      cases q1 : a.toD with
      | none => rw [q1] at e; cases e
      | some d =>
        cases q2 : toDL l with
        | none => rw [q1, q2] at e; cases e
        | some ds => rw [q1, q2] at e; cases e; exact .cons (toD_Dp a h q1) (toDL_Dp l r q2)
end
theorem data_Dp (s : RelS K mg cm st H) (h : Rep K mg cm H x a) {d : PyData} (e : a.data st = some d) : Dp K H x d := by
  by_cases hc : ∃ n, a = .cell n
  · obtain ⟨n, rfl⟩ := hc
    simp only [IV.data] at e
    cases q : st[n]? with
    | none => rw [q] at e; cases e
    | some c =>
      rw [q] at e
      cases c with
      | ins => cases e
      | own => cases e
      | lst l' =>
        obtain ⟨p, xs, rfl, h1, h2⟩ := lstOf_rep (l := l') s h (by simp only [lstOf, q])
        cases q2 : toDL l' with
        | none => simp only [q2] at e; cases e
        | some ds => simp only [q2] at e; cases e; exact .lst (SqL.of h1) (toDL_Dp l' h2 q2)
  · have e' : a.toD = some d := by
      cases a with
      | cell n => exact absurd ⟨n, rfl⟩ hc
      | _ => exact e
    exact toD_Dp a h e'
end
def OpV (K : PySem.W.Frag) (mg : Str → Option Value) (r : R2) (g : Sto → IV → IV → Option IV) : Prop :=
  ∀ (cm : Wd) (st : Sto) (H : Hp) (x y : V) (a b v : IV) (Q : VK), RelS K mg cm st H → Rep K mg cm H x a → Rep K mg cm H y b → g st a b = some v →
    (∀ cm' H' z, Ext cm H cm' H' → RelS K mg cm' st H' → Rep K mg cm' H' z v → Q z H') → r x y H Q
def addI (st : Sto) (a b : IV) : Option IV := match a, b with
  | .int i, .int j => some (.int (i + j))
  | .str x, .str y => if x.length + y.length ≤ 16777216 then some (.str (x ++ y)) else none
  | .tup l, .tup m => if l.length + m.length ≤ 16777216 then some (.tup (l ++ m)) else none
  | a, b => match lstOf st a, lstOf st b with
    | some l, some m => if l.length + m.length ≤ 16777216 then some (.lst (l ++ m)) else none
    | _, _ => none
def rAddI (K : PySem.W.Frag) : R2 := fun x y H Q => rI0 (fun i j => .int (i + j)) x y H Q ∨ (∃ i j, x = .str i ∧ y = .str j ∧ i.length + j.length ≤ sizeLine ∧ Q (.str (i ++ j)) H) ∨ rCatA K x y H Q ∨ rCat x y H Q
theorem op_addI {X : Cx} : OpR X (binaryOp .Add) (rAddI X.K) := by
  intro pins s σ H x y v u Q I rx ry h
  rcases h with h | h | h | h
  · exact op_add pins s σ H x y v u Q I rx ry h
  · exact op_add_str pins s σ H x y v u Q I rx ry h
  · exact op_catA pins s σ H x y v u Q I rx ry h
  · exact op_cat pins s σ H x y v u Q I rx ry h
theorem v_add {K : PySem.W.Frag} {mg : Str → Option Value} : OpV K mg (rAddI K) addI := by
  intro cm st H x y a b v Q s hx hy e k
  have z := sizeLine_eq
  have lists : ∀ l m, lstOf st a = some l → lstOf st b = some m → l.length + m.length ≤ 16777216 → v = .lst (l ++ m) → rAddI K x y H Q := by
    intro l m e1 e2 e3 e4
    obtain ⟨p, xs, rfl, h1, h2⟩ := lstOf_rep s hx e1
    obtain ⟨q, ys, rfl, h3, h4⟩ := lstOf_rep s hy e2
    have l1 := h2.length
    have l2 := h4.length
    refine .inr (.inr (.inr ⟨p, q, xs, ys, rfl, rfl, h1, h3, by omega, fun c hc => ?_⟩))
    have E : Ext cm H cm (upd H c (.lst (xs ++ ys))) := Ext.new' hc
    subst e4
    exact k cm _ _ E (s.new hc) (.lst ⟨upd_same, s.notAv hc⟩ ((h2.ext E).app (h4.ext E)))
  have last : (match lstOf st a, lstOf st b with
    | some l, some m => if l.length + m.length ≤ 16777216 then some (IV.lst (l ++ m)) else none
    | _, _ => none) = some v → rAddI K x y H Q := by
    intro e
    cases e1 : lstOf st a with
    | none => rw [e1] at e; simp at e
    | some l =>
      cases e2 : lstOf st b with
      | none => rw [e1, e2] at e; simp at e
      | some m =>
        rw [e1, e2] at e
        simp only at e
        split at e
        · cases e; exact lists l m e1 e2 (by assumption) rfl
        · cases e
  cases a <;> cases b <;> first
    | exact last e
    | skip
  case int.int i j =>
    simp only [addI] at e
    cases e
    cases hx
    cases hy
    exact .inl ⟨_, _, rfl, rfl, k cm H _ (Ext.refl _ _) s (.int _)⟩
  case str.str i j =>
    simp only [addI] at e
    split at e
    · cases e
      cases hx
      cases hy
      exact .inr (.inl ⟨_, _, rfl, rfl, by omega, k cm H _ (Ext.refl _ _) s (.str _)⟩)
    · cases e
  case tup.tup l m =>
    simp only [addI] at e
    split at e
    · cases e
      cases hx with
      | @tup p xs _ h1 h2 =>
        cases hy with
        | @tup q ys _ h3 h4 =>
          have l1 := h2.length
          have l2 := h4.length
          refine .inr (.inr (.inl ⟨_, _, xs, ys, rfl, rfl, h1.sq, h3.sq, by omega, fun e => ?_, fun _ e => ?_, fun _ _ c hc => ?_⟩))
          · subst e; cases h2; exact k cm H _ (Ext.refl _ _) s (.tup h3 h4)
          · subst e; cases h4; exact k cm H _ (Ext.refl _ _) s (by rw [List.append_nil]; exact .tup h1 h2)
          · have E : Ext cm H cm (upd H c (.tup (xs ++ ys))) := Ext.new' hc
            exact k cm _ _ E (s.new hc) (.tup (.inl ⟨.inl upd_same, s.notAv hc⟩) ((h2.ext E).app (h4.ext E)))
    · cases e
end MK
namespace MK
open PySem L2
section
variable {K : PySem.W.Frag} {mg : Str → Option Value}
def subI (_ : Sto) (a b : IV) : Option IV := match a, b with
  | .int i, .int j => some (.int (i - j))
  | _, _ => none
theorem v_sub : OpV K mg (rI0 fun i j => .int (i - j)) subI := by
  intro cm st H x y a b v Q s hx hy e k
  cases a <;> cases b <;> simp only [subI] at e <;> cases e
  cases hx; cases hy
  exact ⟨_, _, rfl, rfl, k cm H _ (Ext.refl _ _) s (.int _)⟩
def mulI (_ : Sto) (a b : IV) : Option IV := match a, b with
  | .int i, .int j => if i.natAbs.log2 + j.natAbs.log2 < 1000000 then some (.int (i * j)) else none
  | .tup l, .int j => if l ≠ [] ∧ 2 ≤ j ∧ j ≤ 1000 ∧ l.length ≤ 1000 then some (.tup (List.replicate j.toNat l).flatten) else none
  | _, _ => none
def rMulI (K : PySem.W.Frag) : R2 := fun x y H Q => rI CMulW (fun i j => .int (i * j)) x y H Q ∨ rRepT K x y H Q
theorem op_mulI {X : Cx} : OpR X (binaryOp .Mult) (rMulI X.K) := by
  intro pins s σ H x y v u Q I rx ry h
  rcases h with h | h
  · exact op_mulW pins s σ H x y v u Q I rx ry h
  · exact op_repT pins s σ H x y v u Q I rx ry h
theorem v_mul : OpV K mg (rMulI K) mulI := by
  intro cm st H x y a b v Q s hx hy e k
  cases a <;> cases b <;> simp only [mulI] at e <;> try cases e
  case int.int i j =>
    split at e
    · cases e; cases hx; cases hy
      exact .inl ⟨_, _, rfl, rfl, by assumption, k cm H _ (Ext.refl _ _) s (.int _)⟩
    · cases e
  case tup.int l j =>
    split at e
    · rename_i hc
      cases e; cases hy
      cases hx with
      | @tup p xs _ h1 h2 =>
        have l1 := h2.length
        refine .inr ⟨_, _, xs, rfl, rfl, h1.sq, fun z => ?_, hc.2.1, hc.2.2.1, by omega, fun c hn => ?_⟩
        · subst z; cases h2; exact hc.1 rfl
        · have E : Ext cm H cm (upd H c (.tup (List.replicate j.toNat xs).flatten)) := Ext.new' hn
          exact k cm _ _ E (s.new hn) (.tup (.inl ⟨.inl upd_same, s.notAv hn⟩) ((h2.ext E).rep _))
    · cases e
def fdivI (_ : Sto) (a b : IV) : Option IV := match a, b with
  | .int i, .int j => if 0 < j ∧ j.natAbs.log2 < 9000 then some (.int (i / j)) else none
  | _, _ => none
theorem v_fdiv : OpV K mg (rI CDivW fun i j => .int (i / j)) fdivI := by
  intro cm st H x y a b v Q s hx hy e k
  cases a <;> cases b <;> simp only [fdivI] at e <;> try cases e
  split at e
  · cases e; cases hx; cases hy
    exact ⟨_, _, rfl, rfl, by assumption, k cm H _ (Ext.refl _ _) s (.int _)⟩
  · cases e
def modI (_ : Sto) (a b : IV) : Option IV := match a, b with
  | .int i, .int j => if 0 < j then some (.int (i % j)) else none
  | _, _ => none
theorem v_mod : OpV K mg (rI (fun _ j => 0 < j) fun i j => .int (i % j)) modI := by
  intro cm st H x y a b v Q s hx hy e k
  cases a <;> cases b <;> simp only [modI] at e <;> try cases e
  split at e
  · cases e; cases hx; cases hy
    exact ⟨_, _, rfl, rfl, by assumption, k cm H _ (Ext.refl _ _) s (.int _)⟩
  · cases e
def powI (_ : Sto) (a b : IV) : Option IV := match a, b with
  | .int i, .int j => if 0 ≤ j ∧ j ≤ 1000000 ∧ i.natAbs < 2 ^ 64 then some (.int (i ^ j.toNat)) else none
  | _, _ => none
theorem v_pow : OpV K mg (rI CPow fun i j => .int (i ^ j.toNat)) powI := by
  intro cm st H x y a b v Q s hx hy e k
  cases a <;> cases b <;> simp only [powI] at e <;> try cases e
  split at e
  · cases e; cases hx; cases hy
    exact ⟨_, _, rfl, rfl, by assumption, k cm H _ (Ext.refl _ _) s (.int _)⟩
  · cases e
def cmpI (p : Int → Int → Bool) (_ : Sto) (a b : IV) : Option IV := match a, b with
  | .int i, .int j => some (.bl (p i j))
  | _, _ => none
theorem v_cmp {p : Int → Int → Bool} : OpV K mg (rI0 fun i j => .bl (p i j)) (cmpI p) := by
  intro cm st H x y a b v Q s hx hy e k
  cases a <;> cases b <;> simp only [cmpI] at e <;> cases e
  cases hx; cases hy
  exact ⟨_, _, rfl, rfl, k cm H _ (Ext.refl _ _) s (.bl _)⟩
def eqB (st : Sto) (a b : IV) : Option Bool := match a.data st, b.data st with
  | some d, some e => if SeqAt.shaped d = true ∧ SeqAt.shaped e = true then some (PyData.eqv d e) else none
  | _, _ => none
def eqI (st : Sto) (a b : IV) : Option IV := (eqB st a b).map .bl
def neI (st : Sto) (a b : IV) : Option IV := (eqB st a b).map fun c => .bl (!c)
theorem eqB_data {cm : Wd} {st : Sto} {H : Hp} {x y : V} {a b : IV} {c : Bool} (s : RelS K mg cm st H) (hx : Rep K mg cm H x a) (hy : Rep K mg cm H y b) (e : eqB st a b = some c) :
    ∃ d d', Dp K H x d ∧ Dp K H y d' ∧ SeqAt.shaped d = true ∧ SeqAt.shaped d' = true ∧ c = PyData.eqv d d' := by
  unfold eqB at e
  cases e1 : a.data st with
  | none => rw [e1] at e; simp at e
  | some d =>
    cases e2 : b.data st with
    | none => rw [e1, e2] at e; simp at e
    | some d' =>
      rw [e1, e2] at e
      simp only at e
      split at e
      · rename_i h
        cases e
        exact ⟨d, d', data_Dp s hx e1, data_Dp s hy e2, h.1, h.2, rfl⟩
      · cases e
theorem v_eq : OpV K mg (rEqD K) eqI := by
  intro cm st H x y a b v Q s hx hy e k
  unfold eqI at e
  cases q : eqB st a b with
  | none => rw [q] at e; cases e
  | some c =>
    rw [q] at e; cases e
    obtain ⟨d, d', h1, h2, h3, h4, rfl⟩ := eqB_data s hx hy q
    exact ⟨d, d', h1, h2, h3, h4, k cm H _ (Ext.refl _ _) s (.bl _)⟩
theorem v_ne : OpV K mg (rNeD K) neI := by
  intro cm st H x y a b v Q s hx hy e k
  unfold neI at e
  cases q : eqB st a b with
  | none => rw [q] at e; cases e
  | some c =>
    rw [q] at e; cases e
    obtain ⟨d, d', h1, h2, h3, h4, rfl⟩ := eqB_data s hx hy q
    exact ⟨d, d', h1, h2, h3, h4, k cm H _ (Ext.refl _ _) s (.bl _)⟩
def isB (a b : IV) : Option Bool := match b with
  | .non => (match a with | .non => some true | _ => some false)
  | .bl c => (match a with | .bl d => some (d == c) | _ => none)
  | _ => none
def isI (_ : Sto) (a b : IV) : Option IV := (isB a b).map .bl
def isNotI (_ : Sto) (a b : IV) : Option IV := (isB a b).map fun c => .bl (!c)
def rIsI : R2 := fun x y H Q => (y = .non ∧ Q (.bl (decide (x = .non))) H) ∨ rIsB x y H Q
def rIsNotI : R2 := fun x y H Q => (y = .non ∧ Q (.bl (!decide (x = .non))) H) ∨ rNotB x y H Q
theorem op_isI {X : Cx} : OpR X (compareOp .Is) rIsI := by
  intro pins s σ H x y v u Q I rx ry h
  rcases h with h | h
  · exact op_isN pins s σ H x y v u Q I rx ry h
  · exact op_isBl pins s σ H x y v u Q I rx ry h
theorem op_isNotI {X : Cx} : OpR X (compareOp .IsNot) rIsNotI := by
  intro pins s σ H x y v u Q I rx ry h
  rcases h with h | h
  · exact op_notN pins s σ H x y v u Q I rx ry h
  · exact op_notBl pins s σ H x y v u Q I rx ry h
theorem isB_rep {cm : Wd} {H : Hp} {x y : V} {a b : IV} {c : Bool} (hx : Rep K mg cm H x a) (hy : Rep K mg cm H y b) (e : isB a b = some c) :
    (y = .non ∧ c = decide (x = .non)) ∨ ∃ p q : Bool, x = .bl p ∧ y = .bl q ∧ c = decide (p = q) := by
  cases b with
  | non =>
    cases hy
    refine .inl ⟨rfl, ?_⟩
    cases hx <;> simp [isB] at e <;> subst e <;> simp
  | bl q =>
    cases hy
    cases a with
    | bl p =>
      cases hx
      simp only [isB] at e
      cases e
      refine .inr ⟨_, _, rfl, rfl, ?_⟩
      cases p <;> cases q <;> rfl
    | _ => simp [isB] at e
  | _ => simp [isB] at e
theorem v_is : OpV K mg rIsI isI := by
  intro cm st H x y a b v Q s hx hy e k
  unfold isI at e
  cases q : isB a b with
  | none => rw [q] at e; cases e
  | some c =>
    rw [q] at e; cases e
    have k' := k cm H (.bl c) (Ext.refl _ _) s (.bl _)
    rcases isB_rep hx hy q with ⟨h1, rfl⟩ | ⟨p1, p2, h1, h2, rfl⟩
    · exact .inl ⟨h1, k'⟩
    · exact .inr ⟨p1, p2, h1, h2, k'⟩
theorem v_isNot : OpV K mg rIsNotI isNotI := by
  intro cm st H x y a b v Q s hx hy e k
  unfold isNotI at e
  cases q : isB a b with
  | none => rw [q] at e; cases e
  | some c =>
    rw [q] at e; cases e
    have k' := k cm H (.bl (!c)) (Ext.refl _ _) s (.bl _)
    rcases isB_rep hx hy q with ⟨h1, rfl⟩ | ⟨p1, p2, h1, h2, rfl⟩
    · exact .inl ⟨h1, k'⟩
    · exact .inr ⟨p1, p2, h1, h2, k'⟩
def IV.flat : IV → Bool
  | .non => true
  | .bl _ => true
  | .int _ => true
  | .str _ => true
  | _ => false
def eqF : IV → IV → Bool
  | .non, .non => true
  | .bl a, .bl b => a == b
  | .bl a, .int b => (if a then 1 else 0) == b
  | .int a, .bl b => a == (if b then 1 else 0)
  | .int a, .int b => a == b
  | .str a, .str b => a == b
  | _, _ => false
def inB (st : Sto) (a b : IV) : Option Bool := match asSeq st b with
  | some l => if a.flat = true ∧ l.all IV.flat = true then some (l.any fun z => eqF z a) else
      match b.data st, a.data st with
      | some (.list ds), some d => if SeqAt.shaped d = true ∧ SeqAt.shaped (.list ds) = true then some (ds.any fun z => PyData.eqv z d) else none
      | _, _ => none
  | none => none
def inI (st : Sto) (a b : IV) : Option IV := (inB st a b).map .bl
def notInI (st : Sto) (a b : IV) : Option IV := (inB st a b).map fun c => .bl (!c)
def rInI (K : PySem.W.Frag) : R2 := fun x y H Q => rIn K false x y H Q ∨ rInD K x y H Q
def rNotInI (K : PySem.W.Frag) : R2 := fun x y H Q => rIn K true x y H Q ∨ rNotInD K x y H Q
theorem op_inI {X : Cx} (hu : X.A.units + 65 < cLine) : OpR X (compareOp .In) (rInI X.K) := by
  intro pins s σ H x y v u Q I rx ry h
  rcases h with h | h
  · exact op_in_seq pins s σ H x y v u Q I rx ry h
  · exact op_inD hu pins s σ H x y v u Q I rx ry h
theorem op_notInI {X : Cx} (hu : X.A.units + 65 < cLine) : OpR X (compareOp .NotIn) (rNotInI X.K) := by
  intro pins s σ H x y v u Q I rx ry h
  rcases h with h | h
  · exact op_notIn_seq pins s σ H x y v u Q I rx ry h
  · exact op_notInD hu pins s σ H x y v u Q I rx ry h
theorem flat_rep {cm : Wd} {H : Hp} {x : V} {a : IV} (h : Rep K mg cm H x a) (f : a.flat = true) : flatV x = true := by
  cases h <;> simp [IV.flat] at f <;> rfl
theorem flatL_rep {cm : Wd} {H : Hp} : ∀ {xs : List V} {l : List IV}, RepL K mg cm H xs l → l.all IV.flat = true → xs.all flatV = true
  | _, _, .nil, _ => rfl
  | _, _, .cons h r, f => by
    rw [List.all_cons, Bool.and_eq_true] at f
    rw [List.all_cons, flat_rep h f.1, flatL_rep r f.2]; rfl
theorem eqF_rep {cm : Wd} {H : Hp} {x y : V} {a b : IV} (hx : Rep K mg cm H x a) (hy : Rep K mg cm H y b) (f : a.flat = true) (f' : b.flat = true) : eqV x y = eqF a b := by
  cases hx <;> simp [IV.flat] at f <;> cases hy <;> simp [IV.flat] at f' <;> rfl
theorem anyF_rep {cm : Wd} {H : Hp} {x : V} {a : IV} (hx : Rep K mg cm H x a) (f : a.flat = true) : ∀ {xs : List V} {l : List IV}, RepL K mg cm H xs l → l.all IV.flat = true → inV x xs = l.any fun z => eqF z a
  | _, _, .nil, _ => rfl
  | _, _, .cons h r, f' => by
    rw [List.all_cons, Bool.and_eq_true] at f'
    have q := anyF_rep hx f r f'.2
    unfold inV at q ⊢
    rw [List.any_cons, List.any_cons, q, eqF_rep h hx f'.1 f]
theorem inB_rep {cm : Wd} {st : Sto} {H : Hp} {x y : V} {a b : IV} {c : Bool} (s : RelS K mg cm st H) (hx : Rep K mg cm H x a) (hy : Rep K mg cm H y b) (e : inB st a b = some c) :
    (∃ p xs, y = .ref p ∧ (SqL K H p xs ∨ SqT K H p xs) ∧ flatV x = true ∧ xs.all flatV = true ∧ c = inV x xs) ∨
    ∃ d ds, Dp K H x d ∧ Dp K H y (.list ds) ∧ SeqAt.shaped d = true ∧ SeqAt.shaped (.list ds) = true ∧ c = ds.any fun z => PyData.eqv z d := by
  unfold inB at e
  cases e1 : asSeq st b with
  | none => rw [e1] at e; cases e
  | some l =>
    rw [e1] at e
    simp only at e
    split at e
    · rename_i h
      cases e
      obtain ⟨p, xs, h1, h2, h3⟩ := asSeq_rep s hy e1
      exact .inl ⟨p, xs, h1, h2, flat_rep hx h.1, flatL_rep h3 h.2, (anyF_rep hx h.1 h3 h.2).symm⟩
    · split at e
      · rename_i ds d h1 h2
        split at e
        · rename_i h3
          cases e
          exact .inr ⟨d, ds, data_Dp s hx h2, data_Dp s hy h1, h3.1, h3.2, rfl⟩
        · cases e
      · cases e
theorem v_in : OpV K mg (rInI K) inI := by
  intro cm st H x y a b v Q s hx hy e k
  unfold inI at e
  cases q : inB st a b with
  | none => rw [q] at e; cases e
  | some c =>
    rw [q] at e; cases e
    have k' := k cm H (.bl c) (Ext.refl _ _) s (.bl _)
    rcases inB_rep s hx hy q with ⟨p, xs, h1, h2, h3, h4, rfl⟩ | ⟨d, ds, h1, h2, h3, h4, rfl⟩
    · exact .inl ⟨p, xs, h1, h2, h3, h4, by rw [if_neg (by decide)]; exact k'⟩
    · exact .inr ⟨d, ds, h1, h2, h3, h4, k'⟩
theorem v_notIn : OpV K mg (rNotInI K) notInI := by
  intro cm st H x y a b v Q s hx hy e k
  unfold notInI at e
  cases q : inB st a b with
  | none => rw [q] at e; cases e
  | some c =>
    rw [q] at e; cases e
    have k' := k cm H (.bl (!c)) (Ext.refl _ _) s (.bl _)
    rcases inB_rep s hx hy q with ⟨p, xs, h1, h2, h3, h4, rfl⟩ | ⟨d, ds, h1, h2, h3, h4, rfl⟩
    · exact .inl ⟨p, xs, h1, h2, h3, h4, by rw [if_pos rfl]; exact k'⟩
    · exact .inr ⟨d, ds, h1, h2, h3, h4, k'⟩
def itemI (st : Sto) (a b : IV) : Option IV := match b with
  | .int i => (match a with
    | .str z => if z.length ≤ 16777216 then (atI z.cps.toList i).map fun c => .str ⟨#[c]⟩ else none
    | a => (asSeq st a).bind fun l => atI l i)
  | _ => none
theorem atI_rep {cm : Wd} {H : Hp} {xs : List V} {l : List IV} {i : Int} {v : IV} (r : RepL K mg cm H xs l) (e : atI l i = some v) : ∃ x, atI xs i = some x ∧ Rep K mg cm H x v := by
  unfold atI at e ⊢
  rw [r.length]
  cases q : ixN l.length i with
  | none => rw [q] at e; cases e
  | some j =>
    rw [q] at e
    obtain ⟨x, h1, h2⟩ := r.get e
    exact ⟨x, h1, h2⟩
theorem v_item : OpV K mg (rIx K) itemI := by
  intro cm st H x y a b v Q s hx hy e k
  have z := sizeLine_eq
  cases b with
  | int i =>
    cases hy
    have seq : (asSeq st a).bind (fun l => atI l i) = some v → rIx K x (.int i) H Q := fun e => by
      cases e1 : asSeq st a with
      | none => rw [e1] at e; cases e
      | some l =>
        rw [e1] at e
        obtain ⟨p, xs, h1, h2, h3⟩ := asSeq_rep s hx e1
        obtain ⟨w, h4, h5⟩ := atI_rep h3 e
        have k' := k cm H w (Ext.refl _ _) s h5
        rcases h2 with h2 | h2
        · exact .inl ⟨p, xs, i, w, h1, rfl, h2, h4, k'⟩
        · exact .inr (.inl ⟨p, xs, i, w, h1, rfl, h2, h4, k'⟩)
    cases a with
    | str z' =>
      cases hx
      simp only [itemI] at e
      split at e
      · cases q : atI z'.cps.toList i with
        | none => rw [q] at e; cases e
        | some c =>
          rw [q] at e; cases e
          exact .inr (.inr ⟨z', i, c, rfl, rfl, by omega, q, k cm H _ (Ext.refl _ _) s (.str _)⟩)
      · cases e
    | _ => exact seq e
  | _ => simp [itemI] at e
end
end MK
namespace MK
open PySem L2
section
variable {K : PySem.W.Frag} {mg : Str → Option Value} {σ : L2.St} {H : Hp} {W : WX} {α β : Type}
theorem rd1 {fa : ME} {k : IV → M IV} {Q : VK} (h : rdE K mg W (fun ls => M.bind (fa ls) k) σ H Q) :
    rdE K mg W fa σ H fun x H1 => ∃ cm st a r st', RelS K mg cm st H1 ∧ Rep K mg cm H1 x a ∧ k a st = some (r, st') ∧ Out K mg W σ cm H1 (GE K mg Q) r st' := by
  obtain ⟨cm, ls, st, R, r, st', e, o⟩ := Run.part h
  refine ⟨cm, ls, st, r, st', R, e, ?_⟩
  cases r with
  | val a =>
    intro cm' H' x s
    obtain ⟨r2, st2, e2, o2⟩ := o cm' H' x s
    exact fun y hy => ⟨cm', st', a, r2, st2, s, hy, e2, o2⟩
  | exc c f v => exact o
theorem rd2 {fa fb : ME} {k : IV → IV → M IV} {Q : VK} (h : rdE K mg W (fun ls => M.bind (fa ls) fun a => M.bind (fb ls) fun b => k a b) σ H Q) :
    rdE K mg W fa σ H fun x H1 => rdE K mg W fb σ H1 fun y H2 => ∃ cm st a b r st', RelS K mg cm st H2 ∧ Rep K mg cm H2 x a ∧ Rep K mg cm H2 y b ∧ k a b st = some (r, st') ∧ Out K mg W σ cm H2 (GE K mg Q) r st' := by
  obtain ⟨cm, ls, st, r, st', R, e, o⟩ := h
  rcases M.bind_inv e with ⟨a, st1, e1, e2⟩ | ⟨c, f, v, e1, rfl⟩
  · refine ⟨cm, ls, st, _, st1, R, e1, fun cm1 H1 x1 s1 y hy => ?_⟩
    rcases M.bind_inv e2 with ⟨b, st2, e3, e4⟩ | ⟨c, f, v, e3, rfl⟩
    · refine ⟨cm1, ls, st1, _, st2, R.ext x1 s1, e3, fun cm2 H2 x2 s2 z hz => ?_⟩
      refine ⟨cm2, st2, a, b, r, st', s2, hy.ext x2, hz, e4, ?_⟩
      cases r with
      | val b => exact fun cm3 H3 x3 s3 => o cm3 H3 ((x1.trans x2).trans x3) s3
      | exc c f v => exact fun cm3 H3 x3 s3 => o cm3 H3 ((x1.trans x2).trans x3) s3
    · exact ⟨cm1, ls, st1, _, st', R.ext x1 s1, e3, fun cm2 H2 x2 s2 => o cm2 H2 (x1.trans x2) s2⟩
  · exact ⟨cm, ls, st, _, st', R, e1, o⟩
def opM (g : Sto → IV → IV → Option IV) (a b : IV) : M IV := fun st => (g st a b).map fun v => (.val v, st)
def m2 (g : Sto → IV → IV → Option IV) (fa fb : ME) : ME := fun ls => M.bind (fa ls) fun a => M.bind (fb ls) fun b => opM g a b
theorem rd_op {r : R2} {g : Sto → IV → IV → Option IV} {fa fb : ME} {Q : VK} (ho : OpV K mg r g) (h : rdE K mg W (m2 g fa fb) σ H Q) : tOp r (rdE K mg W fa) (rdE K mg W fb) σ H Q := by
  refine rdE_mono (rd2 h) fun x H1 h1 => rdE_mono h1 fun y H2 h2 => ?_
  obtain ⟨cm, st, a, b, o, st', s, hx, hy, e, q⟩ := h2
  unfold opM at e
  cases q1 : g st a b with
  | none => rw [q1] at e; cases e
  | some v =>
    rw [q1] at e
    cases e
    exact ho cm st H2 x y a b v Q s hx hy q1 fun cm' H' z E s' hz => q cm' H' E s' z hz
where
  rdE_mono {f : ME} {σ : L2.St} {H : Hp} {Q Q' : VK} (h : rdE K mg W f σ H Q) (i : ∀ x H, Q x H → Q' x H) : rdE K mg W f σ H Q' := by
    obtain ⟨cm, ls, st, r, st', R, e, o⟩ := h
    refine ⟨cm, ls, st, r, st', R, e, ?_⟩
    cases r with
    | val a => exact fun cm' H' x s y hy => i y H' (o cm' H' x s y hy)
    | exc c f v => exact o
theorem rdE_mono {f : ME} {σ : L2.St} {H : Hp} {Q Q' : VK} (h : rdE K mg W f σ H Q) (i : ∀ x H, Q x H → Q' x H) : rdE K mg W f σ H Q' := rd_op.rdE_mono h i
end
section
variable {X : Cx} {W : WX} {a b c e : Expr} {fa fb fc : ME} {pos : Pos}
abbrev PE' (X : Cx) (W : WX) (e : Expr) (m : ME) : Prop := PE X e (rdE X.K X.mg W m)
abbrev PT' (X : Cx) (W : WX) (e : Expr) (m : MT) : Prop := PT X e (rdT X.K X.mg W m)
abbrev PA' (X : Cx) (W : WX) (es : List Expr) (m : MA) : Prop := PA X es (rdA X.K X.mg W m)
def mVar (i : Nat) : ME := fun ls => match ls[i]? with
  | some (some v) => M.ret v
  | _ => M.stuck
theorem e_var (i : Nat) {x : Str} (hN : X.N[i]? = some x := by rfl) (hv : Vis X.env.scope x := by first | exact Or.inl rfl | exact Or.inr (Or.inl rfl) | exact Or.inr (Or.inr rfl)) (hd : (x == ("__debug__" : Str)) = false := by decide)
    (hcd : (x == ("__classdict__" : Str)) = false := by decide) : PE' X W (.Name x pos) (mVar i) := by
  refine PE_imp (pe_var hN hv hd hcd) fun σ H Q h => ?_
  obtain ⟨cm, ls, st, r, st', R, e, o⟩ := h
  unfold mVar at e
  cases q : ls[i]? with
  | none => simp only [q] at e; cases e
  | some w =>
    cases w with
    | none => simp only [q] at e; cases e
    | some v =>
      simp only [q] at e
      cases e
      obtain ⟨y, h1, h2⟩ := R.loc.at' i v q
      exact ⟨y, h1, o cm H (Ext.refl _ _) R.sto y h2⟩
def mC (v : IV) : ME := fun _ => M.ret v
theorem rd_c {K : PySem.W.Frag} {mg : Str → Option Value} {σ : L2.St} {H : Hp} {Q : VK} {v : IV} {x : V} (hx : ∀ cm, Rep K mg cm H x v) (h : rdE K mg W (mC v) σ H Q) : tC x σ H Q := by
  obtain ⟨cm, ls, st, r, st', R, e, o⟩ := h
  cases e
  exact o cm H (Ext.refl _ _) R.sto x (hx cm)
theorem e_int {i j} : PE' X W (.Constant (.int i) j pos) (mC (.int i)) := PE_imp pe_int fun _ _ _ h => rd_c (fun _ => .int _) h
theorem e_bl {i j} : PE' X W (.Constant (.bool i) j pos) (mC (.bl i)) := PE_imp pe_bl fun _ _ _ h => rd_c (fun _ => .bl _) h
theorem e_non {j} : PE' X W (.Constant .none j pos) (mC .non) := PE_imp pe_non fun _ _ _ h => rd_c (fun _ => .non) h
theorem e_str {i j} : PE' X W (.Constant (.str i) j pos) (mC (.str i)) := PE_imp pe_str fun _ _ _ h => rd_c (fun _ => .str _) h
theorem e_globI {x : Str} {i : Int} {t : Tok} (hg : Gl X x) (hm : X.mg x = some (.int i t)) (hd : (x == ("__debug__" : Str)) = false := by decide) : PE' X W (.Name x pos) (mC (.int i)) :=
  PE_imp (pe_glob (v := .int i) hg hm ⟨t, rfl⟩ hd) fun _ _ _ h => rd_c (fun _ => .int _) h
theorem e_add (ha : PE' X W a fa) (hb : PE' X W b fb) : PE' X W (.BinOp a .Add b pos) (m2 addI fa fb) := PE_imp (pe_op op_addI ha hb) fun _ _ _ h => rd_op v_add h
theorem e_sub (ha : PE' X W a fa) (hb : PE' X W b fb) : PE' X W (.BinOp a .Sub b pos) (m2 subI fa fb) := PE_imp (pe_op op_sub ha hb) fun _ _ _ h => rd_op v_sub h
theorem e_mul (ha : PE' X W a fa) (hb : PE' X W b fb) : PE' X W (.BinOp a .Mult b pos) (m2 mulI fa fb) := PE_imp (pe_op op_mulI ha hb) fun _ _ _ h => rd_op v_mul h
theorem e_fdiv (ha : PE' X W a fa) (hb : PE' X W b fb) : PE' X W (.BinOp a .FloorDiv b pos) (m2 fdivI fa fb) := PE_imp (pe_op op_fdivW ha hb) fun _ _ _ h => rd_op v_fdiv h
theorem e_mod (ha : PE' X W a fa) (hb : PE' X W b fb) : PE' X W (.BinOp a .Mod b pos) (m2 modI fa fb) := PE_imp (pe_op op_mod ha hb) fun _ _ _ h => rd_op v_mod h
theorem e_pow (ha : PE' X W a fa) (hb : PE' X W b fb) : PE' X W (.BinOp a .Pow b pos) (m2 powI fa fb) := PE_imp (pe_op op_pow ha hb) fun _ _ _ h => rd_op v_pow h
structure CmpV (X : Cx) (op : CmpOp) (g : Sto → IV → IV → Option IV) : Prop where
  ex : ∃ r, OpR X (compareOp op) r ∧ OpV X.K X.mg r g
  ne : op ≠ .In ∧ op ≠ .NotIn ∨ True
theorem c_lt : CmpV X .Lt (cmpI fun i j => decide (i < j)) := ⟨⟨_, op_lt, v_cmp⟩, .inr trivial⟩
theorem c_le : CmpV X .LtE (cmpI fun i j => decide (i ≤ j)) := ⟨⟨_, op_le, v_cmp⟩, .inr trivial⟩
theorem c_gt : CmpV X .Gt (cmpI fun i j => decide (j < i)) := ⟨⟨_, op_gt, v_cmp⟩, .inr trivial⟩
theorem c_ge : CmpV X .GtE (cmpI fun i j => decide (j ≤ i)) := ⟨⟨_, op_ge, v_cmp⟩, .inr trivial⟩
theorem c_is : CmpV X .Is isI := ⟨⟨_, op_isI, v_is⟩, .inr trivial⟩
theorem c_isNot : CmpV X .IsNot isNotI := ⟨⟨_, op_isNotI, v_isNot⟩, .inr trivial⟩
theorem c_eq (hu : X.A.units + 64 < cLine) : CmpV X .Eq eqI := ⟨⟨_, op_eqD hu, v_eq⟩, .inr trivial⟩
theorem c_ne (hu : X.A.units + 64 < cLine) : CmpV X .NotEq neI := ⟨⟨_, op_neD hu, v_ne⟩, .inr trivial⟩
theorem c_in (hu : X.A.units + 65 < cLine) : CmpV X .In inI := ⟨⟨_, op_inI hu, v_in⟩, .inr trivial⟩
theorem c_notIn (hu : X.A.units + 65 < cLine) : CmpV X .NotIn notInI := ⟨⟨_, op_notInI hu, v_notIn⟩, .inr trivial⟩
theorem e_cmp {op : CmpOp} {g : Sto → IV → IV → Option IV} (hc : CmpV X op g) (ha : PE' X W a fa) (hb : PE' X W b fb) (hm : behindInMarks op b = false := by first | exact nomark _ | with_unfolding_all rfl) : PE' X W (.Compare a [op] [b] pos) (m2 g fa fb) := by
  obtain ⟨r, h1, h2⟩ := hc.ex
  exact PE_imp (pe_cmpR h1 ha hb hm) fun _ _ _ h => rd_op h2 h
def mB (m : ME) : MT := fun ls => M.bind (m ls) fun v => match v with | .bl b => M.ret b | _ => M.stuck
theorem rd_B {K : PySem.W.Frag} {mg : Str → Option Value} {σ : L2.St} {H : Hp} {Q : Bool → Hp → Prop} {m : ME} (h : rdT K mg W (mB m) σ H Q) : tTest (rdE K mg W m) σ H Q := by
  obtain ⟨cm, ls, st, R, r, st', e, o⟩ := Run.part h
  refine ⟨cm, ls, st, r, st', R, e, ?_⟩
  cases r with
  | val a =>
    intro cm' H' x s y hy
    obtain ⟨r2, st2, e2, o2⟩ := o cm' H' x s
    cases a with
    | bl b =>
      cases e2
      cases hy
      exact ⟨b, rfl, o2 cm' H' (Ext.refl _ _) s⟩
    | _ => cases e2
  | exc c f v => exact o
theorem t_cmp {op : CmpOp} {g : Sto → IV → IV → Option IV} (hc : CmpV X op g) (ha : PE' X W a fa) (hb : PE' X W b fb) (hm : behindInMarks op b = false := by first | exact nomark _ | with_unfolding_all rfl) : PT' X W (.Compare a [op] [b] pos) (mB (m2 g fa fb)) := by
  obtain ⟨r, h1, h2⟩ := hc.ex
  refine PT_imp (pt_cmpR h1 ha hb hm) fun σ H Q h => ?_
  obtain ⟨cm, ls, st, r, st', R, e, o⟩ := rd_B h
  exact rd_op h2 ⟨cm, ls, st, r, st', R, e, o⟩
end
end MK
namespace MK
open PySem L2
def truthI (st : Sto) : IV → Option Bool
  | .non => some false
  | .bl b => some b
  | .int i => some (i != 0)
  | .str y => if y.length ≤ 16777216 then some ((y.length : Int) != 0) else none
  | .tup l => some (!l.isEmpty)
  | .lst l => some (!l.isEmpty)
  | .scr l => some (!l.isEmpty)
  | .cell n => match st[n]? with | some (.lst l) => some (!l.isEmpty) | _ => none
  | _ => none
def truthM (v : IV) : M Bool := fun st => (truthI st v).map fun b => (.val b, st)
def mT (m : ME) : MT := fun ls => M.bind (m ls) truthM
section
variable {K : PySem.W.Frag} {mg : Str → Option Value} {σ : L2.St} {H : Hp} {W : WX} {cm : Wd} {st : Sto} {x : V} {a : IV}
theorem isEmpty_rep {xs : List V} {l : List IV} (r : RepL K mg cm H xs l) : (!xs.isEmpty) = !l.isEmpty := by cases r <;> rfl
theorem truth_rep {b : Bool} (s : RelS K mg cm st H) (h : Rep K mg cm H x a) (e : truthI st a = some b) : TruV K x H b := by
  have z := sizeLine_eq
  have seq : ∀ l, asSeq st a = some l → b = !l.isEmpty → TruV K x H b := fun l e1 e2 => by
    obtain ⟨p, xs, rfl, h2, h3⟩ := asSeq_rep s h e1
    have q := isEmpty_rep h3
    rcases h2 with h2 | h2
    · exact .inl ⟨xs, h2, by rw [q]; exact e2⟩
    · exact .inr (.inl ⟨xs, h2, by rw [q]; exact e2⟩)
  cases a with
  | non => cases h; cases e; rfl
  | bl => cases h; cases e; rfl
  | int => cases h; cases e; rfl
  | str y =>
    cases h
    simp only [truthI] at e
    split at e
    · cases e; exact ⟨by omega, rfl⟩
    · cases e
  | tup l => cases e; exact seq l rfl rfl
  | lst l => cases e; exact seq l rfl rfl
  | scr l => cases e; exact seq l rfl rfl
  | cell n =>
    simp only [truthI] at e
    cases q : st[n]? with
    | none => rw [q] at e; cases e
    | some c =>
      rw [q] at e
      cases c with
      | ins => cases e
      | own => cases e
      | lst l => cases e; exact seq l (by simp only [asSeq, lstOf, q]) rfl
  | _ => cases e
theorem rdT_mono {f : MT} {σ : L2.St} {H : Hp} {Q Q' : Bool → Hp → Prop} (h : rdT K mg W f σ H Q) (i : ∀ x H, Q x H → Q' x H) : rdT K mg W f σ H Q' := by
  obtain ⟨cm, ls, st, r, st', R, e, o⟩ := h
  refine ⟨cm, ls, st, r, st', R, e, ?_⟩
  cases r with
  | val a => exact fun cm' H' x s => i a H' (o cm' H' x s)
  | exc c f v => exact o
theorem rdA_mono {f : MA} {σ : L2.St} {H : Hp} {Q Q' : List V → Hp → Prop} (h : rdA K mg W f σ H Q) (i : ∀ x H, Q x H → Q' x H) : rdA K mg W f σ H Q' := by
  obtain ⟨cm, ls, st, r, st', R, e, o⟩ := h
  refine ⟨cm, ls, st, r, st', R, e, ?_⟩
  cases r with
  | val a => exact fun cm' H' x s y hy => i y H' (o cm' H' x s y hy)
  | exc c f v => exact o
theorem rd_T {m : ME} {Q : Bool → Hp → Prop} (h : rdT K mg W (mT m) σ H Q) : (fun σ H Q => rdE K mg W m σ H fun x H' => ∃ k, TruV K x H' k ∧ Q k H') σ H Q := by
  obtain ⟨cm, ls, st, R, r, st', e, o⟩ := Run.part h
  refine ⟨cm, ls, st, r, st', R, e, ?_⟩
  cases r with
  | val a =>
    intro cm' H' x s y hy
    obtain ⟨r2, st2, e2, o2⟩ := o cm' H' x s
    unfold truthM at e2
    cases q : truthI st' a with
    | none => rw [q] at e2; cases e2
    | some b =>
      rw [q] at e2; cases e2
      exact ⟨b, truth_rep s hy q, o2 cm' H' (Ext.refl _ _) s⟩
  | exc c f v => exact o
end
section
variable {X : Cx} {W : WX} {a b c e : Expr} {fa fb fc : ME} {ta tb tc : MT} {pos : Pos} {rest : List Expr}
theorem t_val (ha : PE' X W a fa) (he : ∀ whole, isTrue a X.env whole = (do let v ← whole; standAt a.pos; holding [v] (truthy v)) := by intro _; rfl) : PT' X W a (mT fa) :=
  PT_imp (pt_truth ha he) fun _ _ _ h => rd_T h
def mNot (m : MT) : MT := fun ls => M.bind (m ls) fun b => M.ret (!b)
theorem t_not (h : PT' X W a ta) : PT' X W (.UnaryOp .Not a pos) (mNot ta) := by
  refine PT_imp (pt_not h) fun σ H Q h => ?_
  obtain ⟨cm, ls, st, R, r, st', e, o⟩ := Run.part h
  refine ⟨cm, ls, st, r, st', R, e, ?_⟩
  cases r with
  | val a =>
    intro cm' H' x s
    obtain ⟨r2, st2, e2, o2⟩ := o cm' H' x s
    cases e2
    exact o2 cm' H' (Ext.refl _ _) s
  | exc c f v => exact o
def mIte {α : Type} (c : MT) (t f : Loc → M α) : Loc → M α := fun ls => M.bind (c ls) fun b => if b = true then t ls else f ls
section
variable {K : PySem.W.Frag} {mg : Str → Option Value}
theorem rd_ite {α : Type} {σ : L2.St} {H : Hp} {c : MT} {t f : Loc → M α} {G : Wd → Hp → α → Prop} (h : Run K mg W σ H (mIte c t f) G) (hG : ∀ cm H cm' H' a, Ext cm H cm' H' → G cm' H' a → G cm' H' a := by intros; assumption) :
    rdT K mg W c σ H fun b H1 => Run K mg W σ H1 (if b = true then t else f) G := by
  obtain ⟨cm, ls, st, r, st', R, e, o⟩ := h
  rcases M.bind_inv e with ⟨b, st1, e1, e2⟩ | ⟨c', f', v, e1, rfl⟩
  · refine ⟨cm, ls, st, _, st1, R, e1, fun cm1 H1 x1 s1 => ⟨cm1, ls, st1, r, st', R.ext x1 s1, ?_, ?_⟩⟩
    · cases b <;> exact e2
    · cases r with
      | val a => exact fun cm2 H2 x2 s2 => o cm2 H2 (x1.trans x2) s2
      | exc c f v => exact fun cm2 H2 x2 s2 => o cm2 H2 (x1.trans x2) s2
  · exact ⟨cm, ls, st, _, st', R, e1, o⟩
end
def mTB (b : Bool) : MT := fun _ => M.ret b
theorem rd_tb {K : PySem.W.Frag} {mg : Str → Option Value} {σ : L2.St} {H : Hp} {b : Bool} {Q : Bool → Hp → Prop} (h : rdT K mg W (mTB b) σ H Q) : Q b H := by
  obtain ⟨cm, ls, st, r, st', R, e, o⟩ := h
  cases e
  exact o cm H (Ext.refl _ _) R.sto
abbrev PW' (X : Cx) (W : WX) (e : Expr) (m : MT) : Prop := PW X e (rdT X.K X.mg W m)
theorem w_and1 (h : PT' X W a ta) : PW' X W (.BoolOp .And [a] pos) ta := pw_and1 h
theorem w_or1 (h : PT' X W a ta) : PW' X W (.BoolOp .Or [a] pos) ta := pw_or1 h
theorem w_and (ha : PT' X W a ta) (hb : PW' X W (.BoolOp .And (b :: rest) pos) tb) : PW' X W (.BoolOp .And (a :: b :: rest) pos) (mIte ta tb (mTB false)) := by
  refine PW_imp (pw_and ha hb) fun σ H Q h => rdT_mono (rd_ite h) fun k H1 h1 => ?_
  cases k with
  | true => exact h1
  | false => exact rd_tb h1
theorem w_or (ha : PT' X W a ta) (hb : PW' X W (.BoolOp .Or (b :: rest) pos) tb) : PW' X W (.BoolOp .Or (a :: b :: rest) pos) (mIte ta (mTB true) tb) := by
  refine PW_imp (pw_or ha hb) fun σ H Q h => rdT_mono (rd_ite h) fun k H1 h1 => ?_
  cases k with
  | true => exact rd_tb h1
  | false => exact h1
theorem t_w (h : PW' X W a ta) : PT' X W a ta := h.pt
theorem e_ifx (hc : PT' X W c tc) (ha : PE' X W a fa) (hb : PE' X W b fb) : PE' X W (.IfExp c a b pos) (mIte tc fa fb) := by
  refine PE_imp (pe_ifExp hc ha hb) fun σ H Q h => rdT_mono (rd_ite h) fun k H1 h1 => ?_
  cases k <;> exact h1
def mNotV (m : ME) : ME := fun ls => M.bind (m ls) fun v => M.bind (truthM v) fun b => M.ret (.bl (!b))
theorem truthM_inv {v : IV} {st st' : Sto} {r : OX Bool} (h : truthM v st = some (r, st')) : ∃ b, truthI st v = some b ∧ r = .val b ∧ st' = st := by
  unfold truthM at h
  cases q : truthI st v with
  | none => rw [q] at h; cases h
  | some b => rw [q] at h; cases h; exact ⟨b, rfl, rfl, rfl⟩
theorem e_notV (h : PE' X W a fa) : PE' X W (.UnaryOp .Not a pos) (mNotV fa) := by
  refine PE_imp (pe_notT h) fun σ H Q h => rdE_mono (rd1 h) fun x H1 h1 => ?_
  obtain ⟨cm, st, v, r, st', s, hx, e, o⟩ := h1
  rcases M.bind_inv e with ⟨b, st1, e1, e2⟩ | ⟨c, f, v, e1, rfl⟩
  · obtain ⟨b', q, h1, rfl⟩ := truthM_inv e1
    cases h1
    cases e2
    exact ⟨b, truth_rep s hx q, o cm H1 (Ext.refl _ _) s _ (.bl _)⟩
  · obtain ⟨b', q, h1, _⟩ := truthM_inv e1
    cases h1
def mAndV (fa fb : ME) : ME := fun ls => M.bind (fa ls) fun v => M.bind (truthM v) fun b => if b = true then fb ls else M.ret v
theorem e_and1 (h : PE' X W a fa) {op} : PE' X W (.BoolOp op [a] pos) fa := pe_one h
theorem rd_andor {K : PySem.W.Frag} {mg : Str → Option Value} {σ : L2.St} {H : Hp} {Q : VK} {k : Loc → IV → Bool → M IV} (h : rdE K mg W (fun ls => M.bind (fa ls) fun v => M.bind (truthM v) fun b => k ls v b) σ H Q) :
    rdE K mg W fa σ H fun x H1 => ∃ b, TruV K x H1 b ∧ ∃ cm ls st v r st', Rel K mg cm ls st σ H1 ∧ Rep K mg cm H1 x v ∧ k ls v b st = some (r, st') ∧ Out K mg W σ cm H1 (GE K mg Q) r st' := by
  obtain ⟨cm, ls, st, r, st', R, e, o⟩ := h
  rcases M.bind_inv e with ⟨v, st1, e1, e2⟩ | ⟨c, f, v, e1, rfl⟩
  · refine ⟨cm, ls, st, _, st1, R, e1, fun cm1 H1 x1 s1 y hy => ?_⟩
    rcases M.bind_inv e2 with ⟨b, st2, e3, e4⟩ | ⟨c, f, v, e3, rfl⟩
    · obtain ⟨b', q, h1, rfl⟩ := truthM_inv e3
      cases h1
      refine ⟨b, truth_rep s1 hy q, cm1, ls, _, v, r, st', R.ext x1 s1, hy, e4, ?_⟩
      cases r with
      | val a => exact fun cm2 H2 x2 s2 => o cm2 H2 (x1.trans x2) s2
      | exc c f v => exact fun cm2 H2 x2 s2 => o cm2 H2 (x1.trans x2) s2
    · obtain ⟨b', q, h1, _⟩ := truthM_inv e3
      cases h1
  · exact ⟨cm, ls, st, _, st', R, e1, o⟩
theorem e_and (ha : PE' X W a fa) (hb : PE' X W (.BoolOp .And (b :: rest) pos) fb) : PE' X W (.BoolOp .And (a :: b :: rest) pos) (mAndV fa fb) := by
  refine PE_imp (pe_andT ha hb) fun σ H Q h => rdE_mono (rd_andor h) fun x H1 h1 => ?_
  obtain ⟨k, t, cm, ls, st, v, r, st', R, hx, e, o⟩ := h1
  refine ⟨k, t, ?_⟩
  cases k with
  | true => exact ⟨cm, ls, st, r, st', R, e, o⟩
  | false =>
    cases e
    exact o cm H1 (Ext.refl _ _) R.sto x hx
def negI : IV → Option IV
  | .int i => some (.int (-i))
  | _ => none
def m1 (g : IV → Option IV) (m : ME) : ME := fun ls => M.bind (m ls) fun v => M.opt (g v)
theorem e_neg (h : PE' X W a fa) : PE' X W (.UnaryOp .USub a pos) (m1 negI fa) := by
  refine PE_imp (pe_un un_neg h) fun σ H Q h => rdE_mono (rd1 h) fun x H1 h1 => ?_
  obtain ⟨cm, st, v, r, st', s, hx, e, o⟩ := h1
  cases v <;> simp only [negI, M.opt] at e <;> cases e
  cases hx
  exact ⟨_, rfl, o cm H1 (Ext.refl _ _) s _ (.int _)⟩
end
end MK
namespace MK
open PySem L2
def newL (c : Bool) (l : List IV) : M IV := fun st => match c with
  | false => some (.val (.lst l), st)
  | true => if pureL l = true then some (.val (.cell st.length), st ++ [.lst l]) else none
section
variable {K : PySem.W.Frag} {mg : Str → Option Value} {σ : L2.St} {H H' : Hp} {W : WX} {cm : Wd} {st st' : Sto} {Q : VK} {c : Bool} {l : List IV} {xs : List V} {r : OX IV} {p : Addr}
theorem newL_at (s : RelS K mg cm st H) (e : newL c l st = some (r, st')) (n : H p = none) (E : Ext cm H (cm.push p) H') (E0 : Ext cm H cm H') (k : ∀ a ∈ cm.ch, H' a = H a) (h : H' p = some (.lst xs)) (hr : RepL K mg (cm.avoid p) H' xs l)
    (o : Out K mg W σ cm H (GE K mg Q) r st') : Q (.ref p) H' := by
  have hp := s.notAv n
  cases c with
  | false =>
    cases e
    exact o cm H' E0 (s.ext E0 k) (.ref p) (.lst ⟨h, hp⟩ (hr.weak Weak.unavoid))
  | true =>
    simp only [newL] at e
    split at e
    · rename_i q
      cases e
      refine o (cm.push p) H' E (s.push n E k ⟨_, h⟩ ⟨xs, h, hr.weak Weak.push, q⟩) (.ref p) (.cell ?_)
      show (cm.cm ++ [p])[st.length]? = some p
      rw [← s.len, List.getElem?_append_right (Nat.le_refl _)]
      simp
    · cases e
theorem newL_new (s : RelS K mg cm st H) (e : newL c l st = some (r, st')) (n : H p = none) (hr : RepL K mg cm H xs l)
    (o : Out K mg W σ cm H (GE K mg Q) r st') : Q (.ref p) (upd H p (.lst xs)) :=
  newL_at s e n (Ext.push n) (Ext.new' n) (fun a m => upd_ne fun z => s.notCell n (z ▸ m)) upd_same (hr.ext (Ext.avoid n)) o
end
def mNil : MA := fun _ => M.ret []
def mCons (f : ME) (g : MA) : MA := fun ls => M.bind (f ls) fun v => M.bind (g ls) fun l => M.ret (v :: l)
def mTup (g : MA) : ME := fun ls => M.bind (g ls) fun l => if l.length ≤ 16777216 then M.ret (.tup l) else M.stuck
def mLst (c : Bool) (g : MA) : ME := fun ls => M.bind (g ls) fun l => if l.length ≤ 16777216 then newL c l else M.stuck
section
variable {K : PySem.W.Frag} {mg : Str → Option Value} {σ : L2.St} {H : Hp} {W : WX}
theorem rdA1 {α : Type} {fa : MA} {k : List IV → M α} {G : Wd → Hp → α → Prop} (h : Run K mg W σ H (fun ls => M.bind (fa ls) k) G) :
    rdA K mg W fa σ H fun xs H1 => ∃ cm st l r st', RelS K mg cm st H1 ∧ RepL K mg cm H1 xs l ∧ k l st = some (r, st') ∧ Out K mg W σ cm H1 G r st' := by
  obtain ⟨cm, ls, st, R, r, st', e, o⟩ := Run.part h
  refine ⟨cm, ls, st, r, st', R, e, ?_⟩
  cases r with
  | val a =>
    intro cm' H' x s
    obtain ⟨r2, st2, e2, o2⟩ := o cm' H' x s
    exact fun y hy => ⟨cm', st', a, r2, st2, s, hy, e2, o2⟩
  | exc c f v => exact o
theorem rd_nil {Q : List V → Hp → Prop} (h : rdA K mg W mNil σ H Q) : tNil σ H Q := by
  obtain ⟨cm, ls, st, r, st', R, e, o⟩ := h
  cases e
  exact o cm H (Ext.refl _ _) R.sto [] .nil
theorem rd_cons {f : ME} {g : MA} {Q : List V → Hp → Prop} (h : rdA K mg W (mCons f g) σ H Q) : tCons (rdE K mg W f) (rdA K mg W g) σ H Q := by
  obtain ⟨cm, ls, st, r, st', R, e, o⟩ := h
  rcases M.bind_inv e with ⟨a, st1, e1, e2⟩ | ⟨c, f, v, e1, rfl⟩
  · refine ⟨cm, ls, st, _, st1, R, e1, fun cm1 H1 x1 s1 y hy => ?_⟩
    rcases M.bind_inv e2 with ⟨b, st2, e3, e4⟩ | ⟨c, f, v, e3, rfl⟩
    · refine ⟨cm1, ls, st1, _, st2, R.ext x1 s1, e3, fun cm2 H2 x2 s2 z hz => ?_⟩
      cases e4
      exact o cm2 H2 (x1.trans x2) s2 (y :: z) (.cons (hy.ext x2) hz)
    · exact ⟨cm1, ls, st1, _, st', R.ext x1 s1, e3, fun cm2 H2 x2 s2 => o cm2 H2 (x1.trans x2) s2⟩
  · exact ⟨cm, ls, st, _, st', R, e1, o⟩
end
section
variable {X : Cx} {W : WX} {a b c e : Expr} {es : List Expr} {fa fb fc : ME} {g : MA} {pos : Pos}
theorem a_nil : PA' X W [] mNil := PA_imp pa_nil fun _ _ _ h => rd_nil h
theorem a_cons (ha : PE' X W e fa) (hr : PA' X W es g) (hs : starEach (e :: es) X.env = (false, eval e X.env) :: starEach es X.env := by rfl) : PA' X W (e :: es) (mCons fa g) := PA_imp (pa_cons ha hr hs) fun _ _ _ h => rd_cons h
theorem e_tup {x1} (h : PA' X W es g) : PE' X W (.Tuple es x1 pos) (mTup g) := by
  refine PE_imp (pe_tup h) fun σ H Q h => rdA_mono (rdA1 h) fun xs H1 h1 => ?_
  obtain ⟨cm, st, l, r, st', s, hx, e, o⟩ := h1
  split at e
  · cases e
    refine ⟨by rw [hx.length, sizeLine_eq]; assumption, fun p hp => ?_⟩
    exact o cm _ (Ext.new' hp) (s.new hp) _ (.tup (.inl ⟨.inl upd_same, s.notAv hp⟩) (hx.ext (Ext.new' hp)))
  · cases e
theorem e_lst (c : Bool) (h : PA' X W es g) : PE' X W (.List es pos) (mLst c g) := by
  refine PE_imp (pe_lst h) fun σ H Q h => rdA_mono (rdA1 h) fun xs H1 h1 => ?_
  obtain ⟨cm, st, l, r, st', s, hx, e, o⟩ := h1
  split at e
  · exact ⟨by rw [hx.length, sizeLine_eq]; assumption, fun p hp => newL_new s e hp hx o⟩
  · cases e
theorem e_ix (ha : PE' X W a fa) (hb : PE' X W b fb) (hs : PlainIx b := by intro _ _; rfl) : PE' X W (.Subscript a b pos) (m2 itemI fa fb) := PE_imp (pe_ix ix_seq ha hb hs) fun _ _ _ h => rd_op v_item h
abbrev MO := Loc → M (Option Int)
def mNoPart : MO := fun _ => M.ret none
def mPart (f : ME) : MO := fun ls => M.bind (f ls) fun v => match v with | .int i => M.ret (some i) | _ => M.stuck
def rdO (K : PySem.W.Frag) (mg : Str → Option Value) (W : WX) (m : MO) : TO := fun σ H Q => Run K mg W σ H m fun _ H' o => Q o H'
abbrev PO' (X : Cx) (W : WX) (e : Option Expr) (m : MO) : Prop := PO X e (rdO X.K X.mg W m)
theorem PO_imp {X : Cx} {e : Option Expr} {t t' : TO} (h : PO X e t) (i : ∀ σ H Q, t' σ H Q → t σ H Q) : PO X e t' := ⟨fun pins s σ H Q I q => h.run pins s σ H Q I (i σ H Q q)⟩
theorem o_none : PO' X W none mNoPart := PO_imp po_none fun σ H Q h => by
  obtain ⟨cm, ls, st, r, st', R, e, o⟩ := h
  cases e
  exact o cm H (Ext.refl _ _) R.sto
theorem o_some (h : PE' X W e fa) : PO' X W (some e) (mPart fa) := PO_imp (po_some h) fun σ H Q h => by
  obtain ⟨cm, ls, st, R, r, st', e, o⟩ := Run.part h
  refine ⟨cm, ls, st, r, st', R, e, ?_⟩
  cases r with
  | val a =>
    intro cm' H' x s y hy
    obtain ⟨r2, st2, e2, o2⟩ := o cm' H' x s
    cases a with
    | int i =>
      cases e2
      cases hy
      exact ⟨i, rfl, o2 cm' H' (Ext.refl _ _) s⟩
    | _ => cases e2
  | exc c f v => exact o
def cutI (xs : List IV) (lo hi : Option Int) : List IV := (xs.drop (HT.sIx xs.length 0 lo)).take (HT.sIx xs.length xs.length hi - HT.sIx xs.length 0 lo)
theorem cut_rep {K : PySem.W.Frag} {mg : Str → Option Value} {cm : Wd} {H : Hp} {xs : List V} {l : List IV} (h : RepL K mg cm H xs l) (lo hi : Option Int) : RepL K mg cm H (cutV xs lo hi) (cutI l lo hi) := by
  unfold cutV cutI
  rw [h.length]
  exact (h.drop _).take _
def slM (c : Bool) (a : IV) (lo hi : Option Int) : M IV := fun st => match a with
  | .str z => if z.length ≤ 16777216 then some (.val (.str (cutS z lo hi)), st) else none
  | .tup l => some (.val (.tup (cutI l lo hi)), st)
  | .scr l => newL c (cutI l lo hi) st
  | a => match lstOf st a with
    | some l => newL c (cutI l lo hi) st
    | none => none
def mSl (c : Bool) (f : ME) (lo hi : MO) : ME := fun ls => M.bind (f ls) fun a => M.bind (lo ls) fun l => M.bind (hi ls) fun h => slM c a l h
def rSlI (K : PySem.W.Frag) : V → Option Int → Option Int → Hp → VK → Prop := fun x lo hi H Q => rSlL K x lo hi H Q ∨ rSlA K x lo hi H Q ∨ rSlS x lo hi H Q
theorem sl_I {X : Cx} : SlR X (rSlI X.K) := sl_list.or (sl_tupA.or sl_str)
theorem cutI_all {l : List IV} {lo hi : Option Int} (h : HT.sIx l.length 0 lo = 0 ∧ HT.sIx l.length l.length hi = l.length) : cutI l lo hi = l := by
  unfold cutI
  rw [h.1, h.2]
  simp
theorem e_sl (c : Bool) {lo hi : Option Expr} {ml mh : MO} {p2 : Pos} (ha : PE' X W a fa) (hl : PO' X W lo ml) (hh : PO' X W hi mh) : PE' X W (.Subscript a (.Slice lo hi none p2) pos) (mSl c fa ml mh) := by
  refine PE_imp (pe_slice sl_I ha hl hh) fun σ H Q h => ?_
  obtain ⟨cm, ls, st, r, st', R, e, o⟩ := h
  rcases M.bind_inv e with ⟨v, st1, e1, e2⟩ | ⟨c, f, v, e1, rfl⟩
  · refine ⟨cm, ls, st, _, st1, R, e1, fun cm1 H1 x1 s1 y hy => ?_⟩
    rcases M.bind_inv e2 with ⟨lo', st2, e3, e4⟩ | ⟨c, f, v, e3, rfl⟩
    · refine ⟨cm1, ls, st1, _, st2, R.ext x1 s1, e3, fun cm2 H2 x2 s2 => ?_⟩
      rcases M.bind_inv e4 with ⟨hi', st3, e5, e6⟩ | ⟨c, f, v, e5, rfl⟩
      · refine ⟨cm2, ls, st2, _, st3, (R.ext x1 s1).ext x2 s2, e5, fun cm3 H3 x3 s3 => ?_⟩
        have hy' := (hy.ext x2).ext x3
        have o' : Out X.K X.mg W σ cm3 H3 (GE X.K X.mg Q) r st' := by
          cases r with
          | val a => exact fun cm4 H4 x4 s4 => o cm4 H4 (((x1.trans x2).trans x3).trans x4) s4
          | exc c f v => exact fun cm4 H4 x4 s4 => o cm4 H4 (((x1.trans x2).trans x3).trans x4) s4
        have lists : ∀ l, lstOf st3 v = some l → newL c (cutI l lo' hi') st3 = some (r, st') → rSlI X.K y lo' hi' H3 Q := fun l q1 q2 => by
          obtain ⟨p, xs, rfl, h1, h2⟩ := lstOf_rep s3 hy' q1
          exact .inl ⟨p, xs, rfl, SqL.of h1, fun p hp => newL_new s3 q2 hp (cut_rep h2 lo' hi') o'⟩
        cases v with
        | str z =>
          cases hy'
          simp only [slM] at e6
          split at e6
          · cases e6
            exact .inr (.inr ⟨z, rfl, by rw [sizeLine_eq]; assumption, o' cm3 H3 (Ext.refl _ _) s3 _ (.str _)⟩)
          · cases e6
        | tup l =>
          cases e6
          cases hy' with
          | @tup p xs _ h1 h2 =>
            refine .inr (.inl ⟨p, xs, rfl, h1.sq, fun w => ?_, fun w q hq => ?_⟩)
            · refine o' cm3 H3 (Ext.refl _ _) s3 _ ?_
              rw [cutI_all (by rw [← h2.length]; exact w)]
              exact .tup h1 h2
            · exact o' cm3 _ (Ext.new' hq) (s3.new hq) _ (.tup (.inl ⟨.inl upd_same, s3.notAv hq⟩) ((cut_rep h2 lo' hi').ext (Ext.new' hq)))
        | scr l =>
          cases hy' with
          | @scr p xs _ h1 h2 =>
            exact .inl ⟨p, xs, rfl, h1.sq, fun p hp => newL_new s3 e6 hp (cut_rep h2 lo' hi') o'⟩
        | lst l => exact lists l rfl e6
        | cell n =>
          simp only [slM] at e6
          cases q : lstOf st3 (.cell n) with
          | none => rw [q] at e6; cases e6
          | some l => rw [q] at e6; exact lists l q e6
        | _ => cases e6
      · exact ⟨cm2, ls, st2, _, st', (R.ext x1 s1).ext x2 s2, e5, fun cm3 H3 x3 s3 => o cm3 H3 ((x1.trans x2).trans x3) s3⟩
    · exact ⟨cm1, ls, st1, _, st', R.ext x1 s1, e3, fun cm2 H2 x2 s2 => o cm2 H2 (x1.trans x2) s2⟩
  · exact ⟨cm, ls, st, _, st', R, e1, o⟩
end
end MK
namespace MK
open PySem L2
def intsOf : List IV → Option (List Int)
  | [] => some []
  | .int i :: l => (intsOf l).map (i :: ·)
  | _ :: _ => none
def boolsOf : List IV → Option (List Bool)
  | [] => some []
  | .bl i :: l => (boolsOf l).map (i :: ·)
  | _ :: _ => none
theorem intsOf_map (l : List Int) : intsOf (l.map .int) = some l := by
  induction l with
  | nil => rfl
  | cons a l ih => simp [intsOf, ih]
theorem boolsOf_map (l : List Bool) : boolsOf (l.map .bl) = some l := by
  induction l with
  | nil => rfl
  | cons a l ih => simp [boolsOf, ih]
theorem intsOf_eq : ∀ {l : List IV} {ns : List Int}, intsOf l = some ns → l = ns.map .int
  | [], _, h => by cases h; rfl
  | a :: l, ns, h => by
    cases a <;> simp only [intsOf] at h <;> try cases h
    rename_i i
    cases q : intsOf l with
    | none => rw [q] at h; cases h
    | some ms => rw [q] at h; cases h; rw [intsOf_eq q]; rfl
theorem boolsOf_eq : ∀ {l : List IV} {ns : List Bool}, boolsOf l = some ns → l = ns.map .bl
  | [], _, h => by cases h; rfl
  | a :: l, ns, h => by
    cases a <;> simp only [boolsOf] at h <;> try cases h
    rename_i i
    cases q : boolsOf l with
    | none => rw [q] at h; cases h
    | some ms => rw [q] at h; cases h; rw [boolsOf_eq q]; rfl
section
variable {K : PySem.W.Frag} {mg : Str → Option Value} {cm : Wd} {H : Hp}
theorem ints_rep : ∀ {ns : List Int} {xs : List V}, RepL K mg cm H xs (ns.map .int) → xs = ns.map V.int
  | [], _, .nil => rfl
  | i :: ns, _, .cons h r => by cases h; rw [ints_rep r]; rfl
theorem rep_ints (ns : List Int) : RepL K mg cm H (ns.map V.int) (ns.map .int) := by
  induction ns with
  | nil => exact .nil
  | cons i ns ih => exact .cons (.int i) ih
theorem bools_rep : ∀ {ns : List Bool} {xs : List V}, RepL K mg cm H xs (ns.map .bl) → xs = ns.map V.bl
  | [], _, .nil => rfl
  | i :: ns, _, .cons h r => by cases h; rw [bools_rep r]; rfl
end
def CallV (K : PySem.W.Frag) (mg : Str → Option Value) (r : List V → Hp → VK → Prop) (g : List IV → M IV) : Prop :=
  ∀ (W : WX) (σ : L2.St) (cm : Wd) (st : Sto) (H : Hp) (xs : List V) (l : List IV) (o : OX IV) (st' : Sto) (Q : VK), RelS K mg cm st H → RepL K mg cm H xs l → g l st = some (o, st') → Out K mg W σ cm H (GE K mg Q) o st' → r xs H Q
def mCall (g : List IV → M IV) (a : MA) : ME := fun ls => M.bind (a ls) g
section
variable {X : Cx} {W : WX} {e : Expr} {es : List Expr} {ga : MA} {x : Str} {p pos : Pos} {id : String} {r : List V → Hp → VK → Prop} {g : List IV → M IV}
theorem e_callB (hc : CallR X (.builtin id) r) (hv : CallV X.K X.mg r g) (hg : Gl X x) (hm : X.mg x = none) (hb : bootBuiltins x = some (.builtin id)) (ha : PA' X W (e :: es) ga) (hn : x ≠ "__name__" := by decide) (hdb : (x == ("__debug__" : Str)) = false := by decide)
    (he : starEach (e :: es) X.env = (false, eval e X.env) :: starEach es X.env := by rfl) (hpl : (backTo pos (starEach es X.env)).any (·.1) = false := by rfl) : PE' X W (.Call (.Name x p) (e :: es) [] pos) (mCall g ga) := by
  refine PE_imp (pe_callB hc hg hm hb ha hn hdb he hpl) fun σ H Q h => rdA_mono (rdA1 h) fun xs H1 h1 => ?_
  obtain ⟨cm, st, l, r, st', s, hx, e, o⟩ := h1
  exact hv W σ cm st H1 xs l r st' Q s hx e o
theorem e_callTy (hc : CallR X (.type id) r) (hv : CallV X.K X.mg r g) (hg : Gl X x) (hm : X.mg x = none) (hb : bootBuiltins x = some (.type id)) (ha : PA' X W (e :: es) ga) (hn : x ≠ "__name__" := by decide) (hdb : (x == ("__debug__" : Str)) = false := by decide)
    (he : starEach (e :: es) X.env = (false, eval e X.env) :: starEach es X.env := by rfl) (hpl : (backTo pos (starEach es X.env)).any (·.1) = false := by rfl) : PE' X W (.Call (.Name x p) (e :: es) [] pos) (mCall g ga) := by
  refine PE_imp (pe_callTy hc hg hm hb ha hn hdb he hpl) fun σ H Q h => rdA_mono (rdA1 h) fun xs H1 h1 => ?_
  obtain ⟨cm, st, l, r, st', s, hx, e, o⟩ := h1
  exact hv W σ cm st H1 xs l r st' Q s hx e o
end
def pv1 (g : Sto → IV → Option IV) : List IV → M IV := fun l st => match l with
  | [a] => (g st a).map fun v => (.val v, st)
  | _ => none
def pv2 (g : Sto → IV → IV → Option IV) : List IV → M IV := fun l st => match l with
  | [a, b] => (g st a b).map fun v => (.val v, st)
  | _ => none
section
variable {K : PySem.W.Frag} {mg : Str → Option Value}
theorem callV1 {r : List V → Hp → VK → Prop} {g : Sto → IV → Option IV}
    (h : ∀ (cm : Wd) (st : Sto) (H : Hp) (x : V) (a v : IV) (Q : VK), RelS K mg cm st H → Rep K mg cm H x a → g st a = some v → (∀ cm' H' z, Ext cm H cm' H' → RelS K mg cm' st H' → Rep K mg cm' H' z v → Q z H') → r [x] H Q) : CallV K mg r (pv1 g) := by
  intro W σ cm st H xs l o st' Q s hx e out
  cases hx with
  | nil => cases e
  | cons h1 h2 =>
    cases h2 with
    | cons _ _ => cases e
    | nil =>
      rename_i x a
      simp only [pv1] at e
      cases q : g st a with
      | none => rw [q] at e; cases e
      | some v => rw [q] at e; cases e; exact h cm _ H x a v Q s h1 q fun cm' H' z E s' hz => out cm' H' E s' z hz
theorem callV2 {r : List V → Hp → VK → Prop} {g : Sto → IV → IV → Option IV}
    (h : ∀ (cm : Wd) (st : Sto) (H : Hp) (x y : V) (a b v : IV) (Q : VK), RelS K mg cm st H → Rep K mg cm H x a → Rep K mg cm H y b → g st a b = some v → (∀ cm' H' z, Ext cm H cm' H' → RelS K mg cm' st H' → Rep K mg cm' H' z v → Q z H') → r [x, y] H Q) : CallV K mg r (pv2 g) := by
  intro W σ cm st H xs l o st' Q s hx e out
  cases hx with
  | nil => cases e
  | cons h1 h2 =>
    cases h2 with
    | nil => cases e
    | cons h2 h3 =>
      cases h3 with
      | cons _ _ => cases e
      | nil =>
        rename_i x a y b
        simp only [pv2] at e
        cases q : g st a b with
        | none => rw [q] at e; cases e
        | some v => rw [q] at e; cases e; exact h cm _ H x y a b v Q s h1 h2 q fun cm' H' z E s' hz => out cm' H' E s' z hz
def lenI (st : Sto) : IV → Option IV
  | .str z => if z.length ≤ 16777216 then some (.int z.length) else none
  | a => (asSeq st a).map fun l => .int l.length
theorem v_len : CallV K mg (fun xs H Q => ∃ x n, xs = [x] ∧ LenV K x H n ∧ Q (.int n) H) (pv1 lenI) := callV1 fun cm st H x a v Q s hx e k => by
  have seq : ∀ l, asSeq st a = some l → v = .int l.length → ∃ x' n, [x] = [x'] ∧ LenV K x' H n ∧ Q (.int n) H := fun l q1 q2 => by
    obtain ⟨p, xs, rfl, h2, h3⟩ := asSeq_rep s hx q1
    subst q2
    refine ⟨_, l.length, rfl, ?_, k cm H _ (Ext.refl _ _) s (.int _)⟩
    rcases h2 with h2 | h2
    · exact .inl ⟨xs, h2, h3.length.symm⟩
    · exact .inr ⟨xs, h2, h3.length.symm⟩
  have gen : (asSeq st a).map (fun l => IV.int l.length) = some v → ∃ x' n, [x] = [x'] ∧ LenV K x' H n ∧ Q (.int n) H := fun e => by
    cases q : asSeq st a with
    | none => rw [q] at e; cases e
    | some l => rw [q] at e; cases e; exact seq l q rfl
  cases a with
  | str z =>
    cases hx
    simp only [lenI] at e
    split at e
    · cases e
      exact ⟨_, z.length, rfl, ⟨by rw [sizeLine_eq]; assumption, rfl⟩, k cm H _ (Ext.refl _ _) s (.int _)⟩
    · cases e
  | _ => exact gen e
def intI (_ : Sto) : IV → Option IV
  | .int i => some (.int i)
  | .bl b => some (.int (if b then 1 else 0))
  | _ => none
theorem v_int : CallV K mg (fun xs H Q => (∃ i, xs = [V.int i] ∧ Q (.int i) H) ∨ ∃ k, xs = [V.bl k] ∧ Q (.int (if k then 1 else 0)) H) (pv1 intI) := callV1 fun cm st H x a v Q s hx e k => by
  cases a <;> simp only [intI] at e <;> cases e <;> cases hx
  · exact .inr ⟨_, rfl, k cm H _ (Ext.refl _ _) s (.int _)⟩
  · exact .inl ⟨_, rfl, k cm H _ (Ext.refl _ _) s (.int _)⟩
def absI (_ : Sto) : IV → Option IV
  | .int i => some (.int (if i < 0 then -i else i))
  | _ => none
theorem v_abs : CallV K mg (fun xs H Q => ∃ i, xs = [V.int i] ∧ Q (.int (if i < 0 then -i else i)) H) (pv1 absI) := callV1 fun cm st H x a v Q s hx e k => by
  cases a <;> simp only [absI] at e <;> cases e <;> cases hx
  exact ⟨_, rfl, k cm H _ (Ext.refl _ _) s (.int _)⟩
def max2I (_ : Sto) (a b : IV) : Option IV := match a, b with
  | .int i, .int j => some (.int (if j > i then j else i))
  | _, _ => none
theorem v_max2 : CallV K mg (fun xs H Q => ∃ i j, xs = [V.int i, .int j] ∧ Q (.int (if j > i then j else i)) H) (pv2 max2I) := callV2 fun cm st H x y a b v Q s hx hy e k => by
  cases a <;> cases b <;> simp only [max2I] at e <;> cases e
  cases hx; cases hy
  exact ⟨_, _, rfl, k cm H _ (Ext.refl _ _) s (.int _)⟩
def min2I (_ : Sto) (a b : IV) : Option IV := match a, b with
  | .int i, .int j => some (.int (if j < i then j else i))
  | _, _ => none
theorem v_min2 : CallV K mg (fun xs H Q => ∃ i j, xs = [V.int i, .int j] ∧ Q (.int (if j < i then j else i)) H) (pv2 min2I) := callV2 fun cm st H x y a b v Q s hx hy e k => by
  cases a <;> cases b <;> simp only [min2I] at e <;> cases e
  cases hx; cases hy
  exact ⟨_, _, rfl, k cm H _ (Ext.refl _ _) s (.int _)⟩
def seqL (st : Sto) : IV → Option (List IV)
  | .scr l => some l
  | a => lstOf st a
theorem seqL_rep {cm : Wd} {st : Sto} {H : Hp} {x : V} {a : IV} {l : List IV} (s : RelS K mg cm st H) (h : Rep K mg cm H x a) (e : seqL st a = some l) : ∃ p xs, x = .ref p ∧ SqL K H p xs ∧ RepL K mg cm H xs l := by
  cases h with
  | scr h r => simp only [seqL] at e; cases e; exact ⟨_, _, rfl, h.sq, r⟩
  | lst h r =>
    obtain ⟨p, xs, e1, h1, h2⟩ := lstOf_rep s (.lst h r) e
    exact ⟨p, xs, e1, SqL.of h1, h2⟩
  | cell h =>
    obtain ⟨p, xs, e1, h1, h2⟩ := lstOf_rep s (.cell h) e
    exact ⟨p, xs, e1, SqL.of h1, h2⟩
  | _ => cases e
def intsAt (st : Sto) (a : IV) : Option (List Int) := (seqL st a).bind intsOf
theorem intsAt_rep {cm : Wd} {st : Sto} {H : Hp} {x : V} {a : IV} {ns : List Int} (s : RelS K mg cm st H) (h : Rep K mg cm H x a) (e : intsAt st a = some ns) : ∃ p, x = .ref p ∧ SqL K H p (ns.map V.int) := by
  unfold intsAt at e
  cases q : seqL st a with
  | none => rw [q] at e; cases e
  | some l =>
    rw [q] at e
    obtain ⟨p, xs, e1, h1, h2⟩ := seqL_rep s h q
    have e' := intsOf_eq e
    subst e'
    have e2 := ints_rep h2
    subst e2
    exact ⟨p, e1, h1⟩
def sumI (st : Sto) (a : IV) : Option IV := (intsAt st a).map fun ns => .int ns.sum
theorem v_sum : CallV K mg (rSum K) (pv1 sumI) := callV1 fun cm st H x a v Q s hx e k => by
  unfold sumI at e
  cases q : intsAt st a with
  | none => rw [q] at e; cases e
  | some ns =>
    rw [q] at e; cases e
    obtain ⟨p, rfl, h⟩ := intsAt_rep s hx q
    exact ⟨p, ns, rfl, h, k cm H _ (Ext.refl _ _) s (.int _)⟩
def maxL : List Int → Option Int
  | [] => none
  | a :: l => some (l.foldl max a)
theorem foldl_max_ge (l : List Int) : ∀ a, a ≤ l.foldl max a ∧ ∀ y ∈ l, y ≤ l.foldl max a := by
  induction l with
  | nil => intro a; exact ⟨Int.le_refl _, fun y h => by cases h⟩
  | cons b l ih =>
    intro a
    obtain ⟨h1, h2⟩ := ih (max a b)
    refine ⟨Int.le_trans (Int.le_max_left a b) h1, fun y h => ?_⟩
    rcases List.mem_cons.mp h with h | h
    · subst h; exact Int.le_trans (Int.le_max_right a y) h1
    · exact h2 y h
theorem foldl_max_mem (l : List Int) : ∀ a, l.foldl max a = a ∨ l.foldl max a ∈ l := by
  induction l with
  | nil => intro a; exact .inl rfl
  | cons b l ih =>
    intro a
    rcases ih (max a b) with h | h
    · rcases Int.le_total a b with q | q
      · rw [List.foldl_cons, h, Int.max_eq_right q]; exact .inr List.mem_cons_self
      · rw [List.foldl_cons, h, Int.max_eq_left q]; exact .inl rfl
    · exact .inr (List.mem_cons_of_mem _ h)
theorem maxL_of {l : List Int} {m n : Int} (h : maxL l = some n) (h1 : m ∈ l) (h2 : ∀ y ∈ l, y ≤ m) : m = n := by
  cases l with
  | nil => cases h
  | cons a l =>
    simp only [maxL] at h; cases h
    obtain ⟨g1, g2⟩ := foldl_max_ge l a
    have le : m ≤ l.foldl max a := by
      rcases List.mem_cons.mp h1 with q | q
      · rw [q]; exact g1
      · exact g2 m q
    have ge : l.foldl max a ≤ m := by
      rcases foldl_max_mem l a with q | q
      · rw [q]; exact h2 a List.mem_cons_self
      · exact h2 _ (List.mem_cons_of_mem _ q)
    omega
def maxI (st : Sto) (a : IV) : Option IV := ((intsAt st a).bind maxL).map .int
theorem v_max : CallV K mg (rMax K) (pv1 maxI) := callV1 fun cm st H x a v Q s hx e k => by
  unfold maxI at e
  cases q : intsAt st a with
  | none => rw [q] at e; cases e
  | some ns =>
    rw [q] at e
    cases q2 : maxL ns with
    | none => simp [q2] at e
    | some n =>
      simp [q2] at e; subst e
      obtain ⟨p, rfl, h⟩ := intsAt_rep s hx q
      refine ⟨p, ns, rfl, h, ?_, fun m h1 h2 => ?_⟩
      · cases ns with
        | nil => cases q2
        | cons => simp
      · rw [maxL_of q2 h1 h2]; exact k cm H _ (Ext.refl _ _) s (.int _)
def boolsAt (st : Sto) (a : IV) : Option (List Bool) := (seqL st a).bind boolsOf
theorem boolsAt_rep {cm : Wd} {st : Sto} {H : Hp} {x : V} {a : IV} {ns : List Bool} (s : RelS K mg cm st H) (h : Rep K mg cm H x a) (e : boolsAt st a = some ns) : ∃ p, x = .ref p ∧ SqL K H p (ns.map V.bl) := by
  unfold boolsAt at e
  cases q : seqL st a with
  | none => rw [q] at e; cases e
  | some l =>
    rw [q] at e
    obtain ⟨p, xs, e1, h1, h2⟩ := seqL_rep s h q
    have e' := boolsOf_eq e
    subst e'
    have e2 := bools_rep h2
    subst e2
    exact ⟨p, e1, h1⟩
def allI (st : Sto) (a : IV) : Option IV := (boolsAt st a).map fun bs => .bl (bs.all id)
theorem v_all : CallV K mg (rAll K) (pv1 allI) := callV1 fun cm st H x a v Q s hx e k => by
  unfold allI at e
  cases q : boolsAt st a with
  | none => rw [q] at e; cases e
  | some ns =>
    rw [q] at e; cases e
    obtain ⟨p, rfl, h⟩ := boolsAt_rep s hx q
    exact ⟨p, ns, rfl, h, k cm H _ (Ext.refl _ _) s (.bl _)⟩
def sortI (l : List Int) : List Int := l.mergeSort (fun a b => decide (a ≤ b))
theorem sortI_perm (l : List Int) : (sortI l).Perm l := List.mergeSort_perm l _
theorem sortI_le (l : List Int) : (sortI l).Pairwise (· ≤ ·) := by
  have h := List.pairwise_mergeSort (le := fun a b : Int => decide (a ≤ b)) (by intro a b c h1 h2; simp at *; omega) (by intro a b; simp; omega) l
  exact h.imp (fun h => by simpa using h)
theorem perm_le_eq : ∀ {l m : List Int}, l.Perm m → l.Pairwise (· ≤ ·) → m.Pairwise (· ≤ ·) → l = m := fun {l m} p h1 h2 => p.eq_of_pairwise (fun a b _ _ h h' => by omega) h1 h2
theorem sortI_of {l m : List Int} (p : m.Perm l) (h : m.Pairwise (· ≤ ·)) : m = sortI l := perm_le_eq (p.trans (sortI_perm l).symm) h (sortI_le l)
def sortM (c : Bool) : List IV → M IV := fun l st => match l with
  | [a] => (match intsAt st a with
    | some ns => newL c ((sortI ns).map .int) st
    | none => none)
  | _ => none
theorem v_sorted (c : Bool) : CallV K mg (rSortedI K) (sortM c) := by
  intro W σ cm st H xs l o st' Q s hx e out
  cases hx with
  | nil => cases e
  | cons h1 h2 =>
    cases h2 with
    | cons _ _ => cases e
    | nil =>
      rename_i x a
      simp only [sortM] at e
      cases q : intsAt st a with
      | none => rw [q] at e; cases e
      | some ns =>
        rw [q] at e
        obtain ⟨p, rfl, h⟩ := intsAt_rep s h1 q
        refine ⟨p, ns, rfl, h, fun ms d hp hl hd => ?_⟩
        rw [sortI_of hp hl]
        exact newL_new s e hd (rep_ints _) out
def tupleI (st : Sto) : IV → Option IV
  | .tup l => some (.tup l)
  | a => (seqL st a).map .tup
theorem v_tuple : CallV K mg (fun xs H Q => ∃ p ys, xs = [V.ref p] ∧ ((SqL K H p ys ∧ ∀ l, H l = none → Q (.ref l) (upd H l (.tup ys))) ∨ (SqT K H p ys ∧ Q (.ref p) H))) (pv1 tupleI) := callV1 fun cm st H x a v Q s hx e k => by
  have gen : (seqL st a).map IV.tup = some v → ∃ p ys, [x] = [V.ref p] ∧ ((SqL K H p ys ∧ ∀ l, H l = none → Q (.ref l) (upd H l (.tup ys))) ∨ (SqT K H p ys ∧ Q (.ref p) H)) := fun e => by
    cases q : seqL st a with
    | none => rw [q] at e; cases e
    | some l =>
      rw [q] at e; cases e
      obtain ⟨p, ys, rfl, h1, h2⟩ := seqL_rep s hx q
      exact ⟨p, ys, rfl, .inl ⟨h1, fun d hd => k cm _ _ (Ext.new' hd) (s.new hd) (.tup (.inl ⟨.inl upd_same, s.notAv hd⟩) (h2.ext (Ext.new' hd)))⟩⟩
  cases a with
  | tup l =>
    cases e
    cases hx with
    | @tup p xs _ h1 h2 => exact ⟨p, xs, rfl, .inr ⟨h1.sq, k cm H _ (Ext.refl _ _) s (.tup h1 h2)⟩⟩
  | _ => exact gen e
end
end MK
namespace MK
open PySem L2
inductive Ty where
  | nn | bool | int | str | tup | lst
def Ty.nm : Ty → String
  | .nn => "NoneType" | .bool => "bool" | .int => "int" | .str => "str" | .tup => "tuple" | .lst => "list"
def Ty.isa : Ty → Ty → Bool
  | .nn, .nn => true | .bool, .bool => true | .bool, .int => true | .int, .int => true | .str, .str => true | .tup, .tup => true | .lst, .lst => true
  | _, _ => false
theorem Ty.kit : ∀ t T : Ty, kitB t.nm T.nm = some (t.isa T) := by
  intro t T
  cases t <;> cases T <;> decide +kernel
def tyI (st : Sto) : IV → Option Ty
  | .non => some .nn
  | .bl _ => some .bool
  | .int _ => some .int
  | .str _ => some .str
  | .tup _ => some .tup
  | .lst _ => some .lst
  | .scr _ => some .lst
  | .cell n => match st[n]? with | some (.lst _) => some .lst | _ => none
  | _ => none
def isiM (T : Ty) (v : IV) : M IV := fun st => (tyI st v).map fun t => (.val (.bl (t.isa T)), st)
section
variable {K : PySem.W.Frag} {mg : Str → Option Value} {cm : Wd} {st : Sto} {H : Hp} {x : V} {a : IV}
theorem ty_rep {t : Ty} (s : RelS K mg cm st H) (h : Rep K mg cm H x a) (e : tyI st a = some t) : TyX K H x (.type t.nm) := by
  cases h with
  | non => cases e; exact .base .non
  | bl => cases e; exact .base (.bl _)
  | int => cases e; exact .base (.int _)
  | str => cases e; exact .base (.str _)
  | tup h r =>
    cases e
    rcases h with ⟨h | ⟨o, h⟩, _⟩ | ⟨o, its, n, h1, h2, _⟩
    · exact .base (.tup h)
    · exact .fTuple h
    · exact .kTuple h1 h2
  | lst h r => cases e; exact .base (.lst h.1)
  | scr h r =>
    cases e
    rcases h with ⟨⟨o, h⟩, _⟩ | ⟨o, its, n, h1, h2, _⟩
    · exact .base (.frz h)
    · exact .kList h1 h2
  | @cell p n h =>
    simp only [tyI] at e
    cases q : st[n]? with
    | none => rw [q] at e; cases e
    | some c =>
      rw [q] at e
      cases c with
      | ins => cases e
      | own => cases e
      | lst l =>
        cases e
        obtain ⟨xs, h1, _⟩ := s.at' n p _ h q
        exact .base (.lst h1)
  | _ => cases e
end
def mIsi (T : Ty) (f : ME) : ME := fun ls => M.bind (f ls) (isiM T)
section
variable {X : Cx} {W : WX} {a b c e : Expr} {es : List Expr} {fa fb : ME} {g : MA} {p p2 p3 pos : Pos}
theorem e_isi (T : Ty) {nm : Str} (hm : X.mg "isinstance" = none) (hg : Gl X "isinstance") (hnm : nm = Str.ofString T.nm) (hg2 : Gl X nm) (hm2 : X.mg nm = none) (hb2 : bootBuiltins nm = some (.type T.nm)) (ha : PE' X W a fa)
    (hn : nm ≠ "__name__" := by decide) (hd : (nm == ("__debug__" : Str)) = false := by decide)
    (he : starEach [a, .Name nm p2] X.env = (false, eval a X.env) :: starEach [.Name nm p2] X.env := by rfl) (he2 : starEach [.Name nm p2] X.env = (false, eval (.Name nm p2) X.env) :: starEach [] X.env := by rfl)
    (hpl : (backTo pos (starEach [.Name nm p2] X.env)).any (·.1) = false := by rfl) : PE' X W (.Call (.Name "isinstance" p) [a, .Name nm p2] [] pos) (mIsi T fa) := by
  refine PE_imp (pe_callB call_isi hg hm PyProof.Rows.boot_isinstance (pa_cons ha (pa_cons (pe_bltn (v := .ty T.nm) hg2 hm2 hb2 rfl hn hd) pa_nil he2) he) (by decide) (by decide) he hpl) fun σ H Q h => rdE_mono (rd1 h) fun x H1 h1 => ?_
  obtain ⟨cm, st, v, r, st', s, hx, e, o⟩ := h1
  unfold isiM at e
  cases q : tyI st v with
  | none => rw [q] at e; cases e
  | some t =>
    rw [q] at e; cases e
    exact ⟨x, .ty T.nm, .type t.nm, .type T.nm, t.isa T, rfl, .ty _, ty_rep s hx q, kit_ty (Ty.kit t T), o cm H1 (Ext.refl _ _) s _ (.bl _)⟩
def MtV (K : PySem.W.Frag) (mg : Str → Option Value) (T : String) (r : V → List V → Hp → VK → Prop) (g : IV → List IV → M IV) : Prop :=
  ∀ (W : WX) (σ : L2.St) (cm : Wd) (st : Sto) (H : Hp) (x : V) (a : IV) (xs : List V) (l : List IV) (o : OX IV) (st' : Sto) (Q : VK), RelS K mg cm st H → Rep K mg cm H x a → RepL K mg cm H xs l → g a l st = some (o, st') → Out K mg W σ cm H (GE K mg Q) o st' → r x xs H Q
def recvM (v : IV) : M IV := fun st => match lstOf st v with
  | some _ => some (.val v, st)
  | none => none
def mMt (g : IV → List IV → M IV) (f : ME) (a : MA) : ME := fun ls => M.bind (f ls) fun v => M.bind (recvM v) fun v => M.bind (a ls) fun l => g v l
theorem recvM_inv {v : IV} {st st' : Sto} {r : OX IV} (h : recvM v st = some (r, st')) : r = .val v ∧ st' = st ∧ ∃ l, lstOf st v = some l := by
  unfold recvM at h
  cases q : lstOf st v with
  | none => rw [q] at h; cases h
  | some l => rw [q] at h; cases h; exact ⟨rfl, rfl, l, rfl⟩
theorem rd_mt {K : PySem.W.Frag} {mg : Str → Option Value} {σ : L2.St} {H : Hp} {Q : VK} {r : V → List V → Hp → VK → Prop} {g : IV → List IV → M IV} {f : ME} {ga : MA} (hv : MtV K mg "list" r g) (h : rdE K mg W (mMt g f ga) σ H Q) : tBM K "list" r (rdE K mg W f) (rdA K mg W ga) σ H Q := by
  obtain ⟨cm, ls, st, r', st', R, e, o⟩ := h
  rcases M.bind_inv e with ⟨v, st1, e1, e2⟩ | ⟨c, f, v, e1, rfl⟩
  · refine ⟨cm, ls, st, _, st1, R, e1, fun cm1 H1 x1 s1 y hy => ?_⟩
    rcases M.bind_inv e2 with ⟨v', st2, e3, e4⟩ | ⟨c, f, v, e3, rfl⟩
    · obtain ⟨q1, rfl, l, q2⟩ := recvM_inv e3
      cases q1
      obtain ⟨p, xs, rfl, h1, h2⟩ := lstOf_rep s1 hy q2
      refine ⟨.inl ⟨rfl, xs, SqL.of h1⟩, ?_⟩
      rcases M.bind_inv e4 with ⟨as, st3, e5, e6⟩ | ⟨c, f, v, e5, rfl⟩
      · refine ⟨cm1, ls, _, _, st3, R.ext x1 s1, e5, fun cm2 H2 x2 s2 ys hys => ?_⟩
        refine hv W σ cm2 st3 H2 _ v ys as r' st' Q s2 (hy.ext x2) hys e6 ?_
        cases r' with
        | val a => exact fun cm3 H3 x3 s3 => o cm3 H3 ((x1.trans x2).trans x3) s3
        | exc c f v => exact fun cm3 H3 x3 s3 => o cm3 H3 ((x1.trans x2).trans x3) s3
      · exact ⟨cm1, ls, _, _, st', R.ext x1 s1, e5, fun cm2 H2 x2 s2 => o cm2 H2 (x1.trans x2) s2⟩
    · obtain ⟨q1, _⟩ := recvM_inv e3
      cases q1
  · exact ⟨cm, ls, st, _, st', R, e1, o⟩
def appM (a : IV) (l : List IV) : M IV := fun st => match a, l with
  | .cell n, [v] => (match st[n]? with
    | some (.lst m) => if v.pure = true ∧ m.length < 16777216 then some (.val .non, st.set n (.lst (m ++ [v]))) else none
    | _ => none)
  | _, _ => none
theorem pureL_app : ∀ {l m : List IV}, pureL l = true → pureL m = true → pureL (l ++ m) = true
  | [], _, _, h => h
  | a :: l, m, h, h' => by
    simp only [pureL, Bool.and_eq_true] at h
    simp only [List.cons_append, pureL, Bool.and_eq_true]
    exact ⟨h.1, pureL_app h.2 h'⟩
theorem pureL_take : ∀ {l : List IV} (n : Nat), pureL l = true → pureL (l.take n) = true
  | _, 0, _ => by simp [pureL]
  | [], _ + 1, _ => by simp [pureL]
  | a :: l, n + 1, h => by
    simp only [pureL, Bool.and_eq_true] at h
    simp only [List.take_succ_cons, pureL, Bool.and_eq_true]
    exact ⟨h.1, pureL_take n h.2⟩
theorem pureL_drop : ∀ {l : List IV} (n : Nat), pureL l = true → pureL (l.drop n) = true
  | _, 0, h => h
  | [], _ + 1, h => h
  | a :: l, n + 1, h => by
    simp only [pureL, Bool.and_eq_true] at h
    exact pureL_drop n h.2
theorem pureL_set : ∀ {l : List IV} {v : IV} (n : Nat), pureL l = true → v.pure = true → pureL (l.set n v) = true
  | [], _, _, h, _ => h
  | a :: l, v, 0, h, h' => by
    simp only [pureL, Bool.and_eq_true] at h
    simp only [List.set_cons_zero, pureL, Bool.and_eq_true]
    exact ⟨h', h.2⟩
  | a :: l, v, n + 1, h, h' => by
    simp only [pureL, Bool.and_eq_true] at h
    simp only [List.set_cons_succ, pureL, Bool.and_eq_true]
    exact ⟨h.1, pureL_set n h.2 h'⟩
theorem cell_put {K : PySem.W.Frag} {mg : Str → Option Value} {σ : L2.St} {H : Hp} {cm : Wd} {st : Sto} {n : Nat} {p : Addr} {ys : List V} {m : List IV} (s : RelS K mg cm st H) (hn : cm.cm[n]? = some p) (r : RepL K mg cm H ys m) (q : pureL m = true) :
    Ext cm H cm (upd H p (.lst ys)) ∧ RelS K mg cm (st.set n (.lst m)) (upd H p (.lst ys)) :=
  have E : Ext cm H cm (upd H p (.lst ys)) := Ext.set (List.mem_of_getElem? hn)
  ⟨E, s.set hn ⟨ys, upd_same, r.ext E, q⟩⟩
theorem cell_at {K : PySem.W.Frag} {mg : Str → Option Value} {H : Hp} {cm : Wd} {st : Sto} {n : Nat} {x : V} {m : List IV} (s : RelS K mg cm st H) (h : Rep K mg cm H x (.cell n)) (q : st[n]? = some (.lst m)) :
    ∃ p xs, x = .ref p ∧ cm.cm[n]? = some p ∧ H p = some (.lst xs) ∧ RepL K mg cm H xs m ∧ pureL m = true := by
  cases h with
  | @cell p n h =>
    obtain ⟨xs, h1, h2, h3⟩ := s.at' n p _ h q
    exact ⟨p, xs, rfl, h, h1, h2, h3⟩
theorem rep1 {K : PySem.W.Frag} {mg : Str → Option Value} {H : Hp} {cm : Wd} {xs : List V} {v : IV} (h : RepL K mg cm H xs [v]) : ∃ x, xs = [x] ∧ Rep K mg cm H x v := by
  cases h with
  | cons h r => cases r; exact ⟨_, rfl, h⟩
theorem rep2 {K : PySem.W.Frag} {mg : Str → Option Value} {H : Hp} {cm : Wd} {xs : List V} {v w : IV} (h : RepL K mg cm H xs [v, w]) : ∃ x y, xs = [x, y] ∧ Rep K mg cm H x v ∧ Rep K mg cm H y w := by
  cases h with
  | cons h r => obtain ⟨y, rfl, h2⟩ := rep1 r; exact ⟨_, _, rfl, h, h2⟩
theorem v_app {K : PySem.W.Frag} {mg : Str → Option Value} : MtV K mg "list" rAppend appM := by
  intro W σ cm st H x a xs l o st' Q s hx hl e out
  unfold appM at e
  split at e
  · rename_i n v
    split at e
    · rename_i m q
      split at e
      · rename_i hc
        cases e
        obtain ⟨p, ys, rfl, h1, h2, h3, h4⟩ := cell_at s hx q
        obtain ⟨y, rfl, hy⟩ := rep1 hl
        obtain ⟨E, s'⟩ := cell_put (σ := σ) s h1 (h3.app (.cons hy .nil)) (pureL_app h4 (by simp [pureL, hc.1]))
        exact ⟨p, ys, y, rfl, rfl, h2, by rw [h3.length, sizeLine_eq]; exact hc.2, out cm _ E s' _ .non⟩
      · cases e
    · cases e
  · cases e
def insM (a : IV) (l : List IV) : M IV := fun st => match a, l with
  | .cell n, [.int i, v] => (match st[n]? with
    | some (.lst m) => if v.pure = true ∧ m.length < 16777216 ∧ 0 ≤ i ∧ i < 2 ^ 63 then some (.val .non, st.set n (.lst (m.take i.toNat ++ [v] ++ m.drop i.toNat))) else none
    | _ => none)
  | _, _ => none
theorem v_ins {K : PySem.W.Frag} {mg : Str → Option Value} : MtV K mg "list" (fun x vs H Q => ∃ (l : Addr) (xs : List V) (i : Int) (y : V), x = .ref l ∧ vs = [.int i, y] ∧ H l = some (.lst xs) ∧ xs.length < sizeLine ∧ 0 ≤ i ∧ i < 2 ^ 63 ∧
    Q .non (upd H l (.lst (xs.take i.toNat ++ [y] ++ xs.drop i.toNat)))) insM := by
  intro W σ cm st H x a xs l o st' Q s hx hl e out
  unfold insM at e
  split at e
  · rename_i n i v
    split at e
    · rename_i m q
      split at e
      · rename_i hc
        cases e
        obtain ⟨p, ys, rfl, h1, h2, h3, h4⟩ := cell_at s hx q
        obtain ⟨y1, y, rfl, hy1, hy⟩ := rep2 hl
        cases hy1
        obtain ⟨E, s'⟩ := cell_put (σ := σ) s h1 (((h3.take i.toNat).app (.cons hy .nil)).app (h3.drop i.toNat)) (pureL_app (pureL_app (pureL_take _ h4) (by simp [pureL, hc.1])) (pureL_drop _ h4))
        exact ⟨p, ys, i, y, rfl, rfl, h2, by rw [h3.length, sizeLine_eq]; exact hc.2.1, hc.2.2.1, hc.2.2.2, out cm _ E s' _ .non⟩
      · cases e
    · cases e
  · cases e
theorem e_append {apos cpos : Pos} (ho : PE' X W a fa) (hl : PA' X W (e :: es) g)
    (hbase : attributeBase a "append" X.env (eval a X.env) = eval a X.env := by rfl)
    (hfew : ((backTo cpos (starEach (e :: es) X.env)).all (fun x => !x.1) && (backToKw cpos (keywordEach [] X.env)).all (fun x => x.1.isSome)
      && decide ((e :: es).length + ([] : List Keyword).length + (if ([] : List Keyword).isEmpty then 0 else 1) < 30)) = true := by rfl)
    (hline : (apos.endLine == cpos.line) = true := by rfl) (hs : starEach (e :: es) X.env = (false, eval e X.env) :: starEach es X.env := by rfl) (hplain : (backTo cpos (starEach es X.env)).any (·.1) = false := by rfl) :
    PE' X W (.Call (.Attribute a "append" apos) (e :: es) [] cpos) (mMt appM fa g) :=
  PE_imp (pe_bm PySem.F.plainAttrs_list PySem.F.slot_list_append PySem.F.type_list_append mt_append ho hl hbase hfew hline hs hplain) fun _ _ _ h => rd_mt v_app h
theorem e_insert {apos cpos : Pos} (ho : PE' X W a fa) (hl : PA' X W (e :: es) g)
    (hbase : attributeBase a "insert" X.env (eval a X.env) = eval a X.env := by rfl)
    (hfew : ((backTo cpos (starEach (e :: es) X.env)).all (fun x => !x.1) && (backToKw cpos (keywordEach [] X.env)).all (fun x => x.1.isSome)
      && decide ((e :: es).length + ([] : List Keyword).length + (if ([] : List Keyword).isEmpty then 0 else 1) < 30)) = true := by rfl)
    (hline : (apos.endLine == cpos.line) = true := by rfl) (hs : starEach (e :: es) X.env = (false, eval e X.env) :: starEach es X.env := by rfl) (hplain : (backTo cpos (starEach es X.env)).any (·.1) = false := by rfl) :
    PE' X W (.Call (.Attribute a "insert" apos) (e :: es) [] cpos) (mMt insM fa g) :=
  PE_imp (pe_bm PySem.F.plainAttrs_list PySem.F.slot_list_insert PySem.F.type_list_insert mt_insert ho hl hbase hfew hline hs hplain) fun _ _ _ h => rd_mt v_ins h
def FldOk (K : PySem.W.Frag) (mg : Str → Option Value) (c f : Str) : Prop := ∀ C, mg c = some (.ref C) → Cls K C ∧ NoAttr K C f
def fldM (c f : Str) (v : IV) : M IV := fun st => match v with
  | .obj c' fs => if c' = c then (fs.lookup f).map fun v => (.val v, st) else none
  | .cell n => (match st[n]? with
    | some (.ins c' fs) => if c' = c then (fs.lookup f).map fun v => (.val v, st) else none
    | _ => none)
  | _ => none
def mFld (c f : Str) (m : ME) : ME := fun ls => M.bind (m ls) (fldM c f)
theorem e_fld (c : Str) {f : Str} (ho : PE' X W a fa) (hf : FldOk X.K X.mg c f) (hb : attributeBase a f X.env (eval a X.env) = eval a X.env := by rfl) : PE' X W (.Attribute a f pos) (mFld c f fa) := by
  refine PE_imp (pe_fld ho hb) fun σ H Q h => rdE_mono (rd1 h) fun x H1 h1 => ?_
  obtain ⟨cm, st, v, r, st', s, hx, e, o⟩ := h1
  unfold fldM at e
  split at e
  · rename_i c' fs
    split at e
    · rename_i hc
      subst hc
      cases q : fs.lookup f with
      | none => rw [q] at e; cases e
      | some w =>
        rw [q] at e; cases e
        cases hx with
        | @obj p C dx _ fs' _ hm h1 h2 h3 =>
          obtain ⟨y, h4, h5⟩ := h3.get q
          exact ⟨p, C, dx, fs', y, rfl, h1, (hf C hm).1, (hf C hm).2, h4, o cm H1 (Ext.refl _ _) s _ h5⟩
    · cases e
  · rename_i n
    split at e
    · rename_i c' fs q0
      split at e
      · rename_i hc
        subst hc
        cases q : fs.lookup f with
        | none => rw [q] at e; cases e
        | some w =>
          rw [q] at e; cases e
          cases hx with
          | @cell p _ hn =>
            obtain ⟨C, dx, fs', hm, h1, h3, _⟩ := s.at' n p _ hn q0
            obtain ⟨y, h4, h5⟩ := h3.get q
            exact ⟨p, C, dx, fs', y, rfl, h1, (hf C hm).1, (hf C hm).2, h4, o cm H1 (Ext.refl _ _) s _ h5⟩
      · cases e
    · cases e
  · cases e
end
end MK
namespace MK
open PySem PySem.Spec PyProof.Rows L2
abbrev XW (E : XK) : WX := fun c d _ H => E c d H
def spM (K : PySem.W.Frag) (mg : Str → Option Value) (n : Nat) (g : MF) : Sp := fun vs H Q E => vs.length = n ∧ ∃ cm st l r st', RelS K mg cm st H ∧ RepL K mg cm H vs l ∧ g l st = some (r, st') ∧ Out K mg (XW E) [] cm H (GE K mg Q) r st'
structure DefOk (P : Program) (w : World) (K : PySem.W.Frag) (mg : Str → Option Value) (base : Heap) (k : Nat) (x : Str) (ps : List Str) (g : MF) : Prop where
  ex : ∃ f fd, mg x = some (.ref f) ∧ PySem.W.keepIn K (.ref f) = true ∧ Binds K fd ps [] ∧ FnOk P w K mg base (L2.CX P w) k f fd ps (spM K mg ps.length g)
theorem DefOk.mono {P : Program} {w : World} {K : PySem.W.Frag} {mg : Str → Option Value} {base : Heap} {j k : Nat} {x : Str} {ps : List Str} {g : MF} (h : DefOk P w K mg base j x ps g) (hk : j ≤ k) : DefOk P w K mg base k x ps g := by
  obtain ⟨f, fd, h1, h2, h3, h4⟩ := h.ex
  exact ⟨⟨f, fd, h1, h2, h3, h4.mono hk⟩⟩
theorem spM_imp {K : PySem.W.Frag} {mg : Str → Option Value} {n : Nat} {g g' : MF} (h : ∀ l st r, g' l st = some r → g l st = some r) : ∀ vs H Q E, spM K mg n g' vs H Q E → spM K mg n g vs H Q E := by
  intro vs H Q E ⟨hl, cm, st, l, r, st', s, hr, e, o⟩
  exact ⟨hl, cm, st, l, r, st', s, hr, h _ _ _ e, o⟩
theorem DefOk.imp {P : Program} {w : World} {K : PySem.W.Frag} {mg : Str → Option Value} {base : Heap} {k : Nat} {x : Str} {ps : List Str} {g g' : MF} (h : DefOk P w K mg base k x ps g) (i : ∀ l st r, g' l st = some r → g l st = some r) : DefOk P w K mg base k x ps g' := by
  obtain ⟨f, fd, h1, h2, h3, h4⟩ := h.ex
  exact ⟨⟨f, fd, h1, h2, h3, h4.imp (spM_imp i)⟩⟩
theorem out_call {K : PySem.W.Frag} {mg : Str → Option Value} {W : WX} {σ : L2.St} {cm : Wd} {H : Hp} {Q : VK} {r : OX IV} {st' : Sto} (o : Out K mg W σ cm H (GE K mg Q) r st') : Out K mg (XW (WE W σ)) [] cm H (GE K mg Q) r st' := by
  cases r with
  | val a => exact o
  | exc c f v => exact o
section
variable {X : Cx} {W : WX} {e : Expr} {es : List Expr} {ga : MA} {k : Nat} {x : Str} {ps : List Str} {g : MF} {p pos : Pos}
def mCallD (n : Nat) (g : List IV → M IV) (a : MA) : ME := fun ls => M.bind (a ls) fun l => if l.length = n then g l else M.stuck
theorem e_call (F : DefOk X.prog X.w X.K X.mg X.base k x ps g) (hr : Room k X.A) (hg : Gl X x) (tk : Takes X W) (ha : PA' X W (e :: es) ga) (hdb : (x == ("__debug__" : Str)) = false := by decide)
    (he : starEach (e :: es) X.env = (false, eval e X.env) :: starEach es X.env := by rfl) (hpl : (backTo pos (starEach es X.env)).any (·.1) = false := by rfl) : PE' X W (.Call (.Name x p) (e :: es) [] pos) (mCallD ps.length g ga) := by
  obtain ⟨f, fd, h1, h2, h3, h4⟩ := F.ex
  refine PE_imp (pe_callS h4 hr hg h1 h2 h3 (fun σ => passAt tk σ) ha hdb he hpl) fun σ H Q h => rdA_mono (rdA1 h) fun xs H1 hh => ?_
  obtain ⟨cm, st, l, r, st', s, hx, e, o⟩ := hh
  split at e
  · exact ⟨by rw [hx.length]; assumption, cm, st, l, r, st', s, hx, e, out_call o⟩
  · cases e
end
def closeM (keep : Bool) (k : Nat) (v : IV) (st : Sto) : Option (OX IV × Sto) :=
  if keep = true ∨ st.length = k then some (.val v, st) else match v with
    | .cell n => if n < k then some (.val (.cell n), st.take k) else (match st[n]? with
      | some (.lst l) => some (.val (.lst l), st.take k)
      | some (.ins c fs) => some (.val (.obj c fs), st.take k)
      | some (.own _ _ _) => none
      | none => none)
    | v => if v.pure = true then some (.val v, st.take k) else none
def finM (keep : Bool) (n : Nat) (body : MS) : MF := fun l st => match body (l.map some ++ List.replicate (n - l.length) none) st with
  | some (.val (.nx _), st') => closeM keep st.length .non st'
  | some (.val (.rt v), st') => closeM keep st.length v st'
  | some (.val (.ex _ c f v), st') => if st'.length = st.length then some (.exc c f v, st') else if v.pure = true then some (.exc c f v, st'.take st.length) else none
  | _ => none
section
variable {K : PySem.W.Frag} {mg : Str → Option Value} {σ : L2.St} {H H1 : Hp} {W : WX} {cm cm1 : Wd} {st st1 st' : Sto} {Q : VK} {r : OX IV} {v : IV} {x : V}
theorem pure_of : ∀ {fs : List (Str × IV)} {f : Str} {v : IV}, pureF fs = true → fs.lookup f = some v → v.pure = true
  | [], _, _, _, h => by cases h
  | (g, w) :: r, f, v, p, h => by
    simp only [pureF, Bool.and_eq_true] at p
    rw [List.lookup_cons] at h
    split at h
    · cases h; exact p.1
    · exact pure_of p.2 h
def Wd.back (cm cm1 : Wd) : Wd := ⟨cm.cm, cm1.ow, cm1.ow.map (·.2) ++ cm.av, fun a h => List.mem_append_right _ (cm.sub a h), fun p h => List.mem_append_left _ (List.mem_map.mpr ⟨p, h, rfl⟩)⟩
theorem back_in (E : Ext cm H cm1 H1) {a : Addr} (h : a ∈ cm.cm) : a ∈ cm1.cm := by
  obtain ⟨l, e⟩ := E.pre
  rw [e]; exact List.mem_append_left _ h
theorem back_ow {a : Addr} (h : a ∈ cm1.ow.map (·.2)) : a ∈ cm1.ch := List.mem_append_right _ h
theorem back_ch (E : Ext cm H cm1 H1) {a : Addr} (h : a ∈ (cm.back cm1).ch) : a ∈ cm1.ch := by
  rcases List.mem_append.mp h with h | h
  · exact Wd.inch (back_in E h)
  · exact back_ow h
theorem cut_of (E : Ext cm H cm1 H1) : Cut cm1 H1 (cm.back cm1) H1 := ⟨fun a _ _ n m => by
  rcases List.mem_append.mp m with m | m
  · exact n (Wd.chav (back_ow m))
  · exact n (E.keep a m), fun _ _ h _ => h⟩
theorem relS_cut (s : RelS K mg cm st H) (E : Ext cm H cm1 H1) (s1 : RelS K mg cm1 st1 H1) : RelS K mg (cm.back cm1) (st1.take st.length) H1 ∧ Ext cm H (cm.back cm1) H1 := by
  have hlen : cm.cm.length ≤ cm1.cm.length := by
    obtain ⟨l, e⟩ := E.pre
    rw [e, List.length_append]; omega
  refine ⟨⟨?_, s.nd, fun n a c h1 h2 => ?_, fun a h => ?_, s1.ofn, fun a b h m => s1.onc a b h (back_in E m)⟩, ⟨⟨[], by simp [Wd.back]⟩, E.fr, fun a o h n m => ?_, fun a o h n m => E.new a o h n (back_ch E m), fun a h => List.mem_append_right _ h, E.pow⟩⟩
  · show cm.cm.length = _
    rw [List.length_take, ← s1.len, ← s.len]; omega
  · have h1' : cm.cm[n]? = some a := h1
    have hn : n < cm.cm.length := (List.getElem?_eq_some_iff.mp h1').1
    rw [List.getElem?_take_of_lt (by rw [← s.len]; exact hn)] at h2
    have q := s1.at' n a c (E.at h1') h2
    cases c with
    | lst l => obtain ⟨xs, q1, q2, q3⟩ := q; exact ⟨xs, q1, q2.cut (cut_of E) q3, q3⟩
    | ins c fs => obtain ⟨C, dx, fs', q0, q1, q2, q3⟩ := q; exact ⟨C, dx, fs', q0, q1, q2.cut (cut_of E) q3, q3⟩
    | own c fs ls =>
      obtain ⟨C, dx, fs', q0, q1, q2, q3⟩ := q
      refine ⟨C, dx, fs', q0, q1, ⟨fun f v z => ?_, fun f l z => ?_, q2.dj, q2.no, q2.sm⟩, q3⟩
      · obtain ⟨x, z1, z2⟩ := q2.fl f v z
        exact ⟨x, z1, z2.cut (cut_of E) (pure_of q3 z)⟩
      · obtain ⟨b, xs, z1, z2, z3, z4, z5⟩ := q2.ol f l z
        exact ⟨b, xs, z1, z2, z3, z4.cut (cut_of E) z5, z5⟩
  · rcases List.mem_append.mp h with h | h
    · exact s1.avs a (Wd.chav (back_ow h))
    · exact s1.avs a (E.keep a h)
  · rcases List.mem_append.mp m with m | m
    · exact E.new a o h (fun z => n (Wd.chav z)) (back_ow m)
    · exact n m
theorem new_cell_free (s : RelS K mg cm st H) (E : Ext cm H cm1 H1) (s1 : RelS K mg cm1 st1 H1) {n : Nat} {p : Addr} (h : cm1.cm[n]? = some p) (hn : ¬ n < st.length) : p ∉ cm.av := fun m => by
  obtain ⟨o, q⟩ := s.avs p m
  by_cases hc : p ∈ cm.ch
  · rcases Wd.mem_ch.mp hc with hc | ⟨o', hc⟩
    case inr => exact s1.onc _ _ (E.pow _ hc) (List.mem_of_getElem? h)
    obtain ⟨i, hi⟩ := List.getElem?_of_mem hc
    have hi' := (List.getElem?_eq_some_iff.mp hi).1
    have h2 := E.at hi
    obtain ⟨i1, e1⟩ := List.getElem?_eq_some_iff.mp h
    obtain ⟨i2, e2⟩ := List.getElem?_eq_some_iff.mp h2
    have := (List.getElem_inj s1.nd).mp (e1.trans e2.symm)
    rw [s.len] at hi'
    omega
  · exact E.new p o q hc (Wd.inch (List.mem_of_getElem? h))
theorem new_cell_back (s : RelS K mg cm st H) (E : Ext cm H cm1 H1) (s1 : RelS K mg cm1 st1 H1) {n : Nat} {p : Addr} (h : cm1.cm[n]? = some p) (hn : ¬ n < st.length) : p ∉ (cm.back cm1).av := fun m => by
  rcases List.mem_append.mp m with m | m
  · obtain ⟨q, hq, rfl⟩ := List.mem_map.mp m
    exact s1.onc q.1 q.2 hq (List.mem_of_getElem? h)
  · exact new_cell_free s E s1 h hn m
theorem close_ok {keep : Bool} (s : RelS K mg cm st H) (e : closeM keep st.length v st1 = some (r, st')) (o : Out K mg W σ cm H (GE K mg Q) r st') (E : Ext cm H cm1 H1) (s1 : RelS K mg cm1 st1 H1) (hx : Rep K mg cm1 H1 x v) : Q x H1 := by
  unfold closeM at e
  split at e
  · cases e; exact o cm1 H1 E s1 x hx
  · obtain ⟨s2, E2⟩ := relS_cut s E s1
    have hp : ∀ {v : IV}, Rep K mg cm1 H1 x v → (if v.pure = true then some (OX.val v, st1.take st.length) else none) = some (r, st') → Q x H1 := fun {v} hx e => by
      split at e
      · cases e
        exact o _ H1 E2 s2 x (hx.cut (cut_of E) (by assumption))
      · cases e
    cases v with
    | cell n =>
      simp only at e
      cases hx with
      | @cell p _ h =>
        split at e
        · rename_i hn
          cases e
          refine o _ H1 E2 s2 _ (.cell ?_)
          show cm.cm[n]? = some p
          obtain ⟨l, q⟩ := E.pre
          rw [q, List.getElem?_append_left (by rw [s.len]; exact hn)] at h
          exact h
        · rename_i hn
          have free := new_cell_back s E s1 h hn
          split at e
          · rename_i l q
            cases e
            obtain ⟨xs, q1, q2, q3⟩ := s1.at' n p _ h q
            exact o _ H1 E2 s2 _ (.lst ⟨q1, free⟩ (q2.cut (cut_of E) q3))
          · rename_i c fs q
            cases e
            obtain ⟨C, dx, fs', q0, q1, q2, q3⟩ := s1.at' n p _ h q
            exact o _ H1 E2 s2 _ (.obj q0 q1 free (q2.cut (cut_of E) q3))
          · cases e
          · cases e
    | _ => exact hp hx e
end
section
variable {P : Program} {w : World} {K : PySem.W.Frag} {mg : Str → Option Value} {base : Heap}
theorem start_rel {cm : Wd} {st : Sto} {H : Hp} {vs : List V} {l : List IV} {N : List Str} (s : RelS K mg cm st H) (h : RepL K mg cm H vs l) : Rel K mg cm (l.map some ++ List.replicate (N.length - l.length) none) st (L2.start N vs) H := by
  refine ⟨s, ?_, fun i v e => ?_⟩
  · unfold L2.start
    simp [h.length]
  · unfold L2.start
    by_cases hi : i < l.length
    · rw [List.getElem?_append_left (by simpa using hi), List.getElem?_map] at e
      cases q : l[i]? with
      | none => rw [q] at e; cases e
      | some w =>
        rw [q] at e; cases e
        obtain ⟨x, h1, h2⟩ := h.get q
        refine ⟨x, ?_, h2⟩
        rw [List.getElem?_append_left (by rw [List.length_map, h.length]; exact hi), List.getElem?_map, h1]; rfl
    · rw [List.getElem?_append_right (by simpa using hi), List.getElem?_replicate] at e
      split at e <;> cases e
theorem body_end {keep : Bool} {N : List Str} {n : Nat} {body : MS} {vs : List V} {H : Hp} {Q : VK} {E : XK} (h : spM K mg n (finM keep N.length body) vs H Q E) : rdS K mg (XW E) body { nx := fun _ H' => Q .non H', rt := Q } (L2.start N vs) H := by
  obtain ⟨_, cm, st, l, r, st', s, hl, e, o⟩ := h
  unfold finM at e
  cases q : body (l.map some ++ List.replicate (N.length - l.length) none) st with
  | none => rw [q] at e; cases e
  | some p =>
    obtain ⟨fl, st1⟩ := p
    rw [q] at e
    cases fl with
    | exc c f v => cases e
    | val fl =>
      refine ⟨cm, _, st, fl, st1, start_rel s hl, q, ?_⟩
      intro cm1 H1 E1 s1
      cases fl with
      | nx ls => exact fun σ _ => close_ok s e o E1 s1 .non
      | rt v => exact fun x hx => close_ok s e o E1 s1 hx
      | bk ls => cases e
      | ct ls => cases e
      | ex ls c f v =>
        intro σ _ C d y hm hxf hd hav hy
        simp only at e
        split at e
        · cases e
          exact o cm1 H1 E1 s1 C d y hm hxf hd hav hy
        · split at e
          · cases e
            obtain ⟨s2, E2⟩ := relS_cut s E1 s1
            exact o _ H1 E2 s2 C d y hm hxf hd ((cut_of E1).sub d _ hd hav) (hy.cut (cut_of E1) (by assumption))
          · cases e
theorem tk_def {N : List Str} {qual : Str} {sc : Scope} {f : Addr} {cdv : Value} {A : Around} {outer : List Env} {s : Shared} {H : Hp} {E : XK} : Takes (cxOf (L2.CX P w) P w K mg base N qual sc f cdv A outer s H E) (XW E) := takes_of rfl rfl rfl rfl
theorem po_def {N : List Str} {qual : Str} {sc : Scope} {f : Addr} {cdv : Value} {A : Around} {outer : List Env} {s : Shared} {H : Hp} {E : XK} :
    PassesOwn (model P w) (cxOf (L2.CX P w) P w K mg base N qual sc f cdv A outer s H E).A (cxOf (L2.CX P w) P w K mg base N qual sc f cdv A outer s H E).env (cxOf (L2.CX P w) P w K mg base N qual sc f cdv A outer s H E).xe := passes_of (X := cxOf (L2.CX P w) P w K mg base N qual sc f cdv A outer s H E) rfl
end
end MK
namespace MK
open PySem L2
def liftS {α : Type} (m : Loc → M α) (k : α → Loc → M Fl) : MS := fun ls st => match m ls st with
  | some (.val v, st') => k v ls st'
  | some (.exc c f v, st') => some (.val (.ex ls c f v), st')
  | none => none
def mSeq (f g : MS) : MS := fun ls => M.bind (f ls) fun fl => match fl with
  | .nx ls' => g ls'
  | fl => M.ret fl
def mPass : MS := fun ls => M.ret (.nx ls)
def mExpr (m : ME) : MS := liftS m fun _ ls => M.ret (.nx ls)
def mRet (m : ME) : MS := liftS m fun v _ => M.ret (.rt v)
def mIfS (c : MT) (t f : MS) : MS := liftS c fun b ls => if b = true then t ls else f ls
def mSet (i : Nat) (m : ME) : MS := liftS m fun v ls => M.ret (.nx (ls.set i (some v)))
abbrev PS' (X : Cx) (W : WX) (s : Stmt) (m : MS) : Prop := PS X s (rdS X.K X.mg W m)
abbrev PSs' (X : Cx) (W : WX) (s : List Stmt) (m : MS) : Prop := PSs X s (rdS X.K X.mg W m)
section
variable {K : PySem.W.Frag} {mg : Str → Option Value} {σ : L2.St} {H : Hp} {W : WX} {D : Ends} {α : Type}
theorem rd_lift {m : Loc → M α} {k : α → Loc → M Fl} (h : rdS K mg W (liftS m k) D σ H) :
    ∃ cm ls st r st', Rel K mg cm ls st σ H ∧ m ls st = some (r, st') ∧ Out K mg W σ cm H (fun cm' H' a => ∃ fl st2, k a ls st' = some (.val fl, st2) ∧ OutS K mg W D cm' H' fl st2) r st' := by
  obtain ⟨cm, ls, st, fl, st', R, e, o⟩ := h
  unfold liftS at e
  cases q : m ls st with
  | none => rw [q] at e; cases e
  | some p =>
    obtain ⟨r1, st1⟩ := p
    rw [q] at e
    refine ⟨cm, ls, st, r1, st1, R, q, ?_⟩
    cases r1 with
    | val a => exact fun cm1 H1 x1 s1 => ⟨fl, st', e, fun cm2 H2 x2 s2 => o cm2 H2 (x1.trans x2) s2⟩
    | exc c f v =>
      cases e
      exact fun cm1 H1 x1 s1 => o cm1 H1 x1 s1 σ (R.loc.ext x1)
theorem rd_liftE {m : ME} {k : IV → Loc → M Fl} (h : rdS K mg W (liftS m k) D σ H) :
    rdE K mg W m σ H fun x H1 => ∃ cm ls st v fl st2, Rel K mg cm ls st σ H1 ∧ Rep K mg cm H1 x v ∧ k v ls st = some (.val fl, st2) ∧ OutS K mg W D cm H1 fl st2 := by
  obtain ⟨cm, ls, st, r, st', R, e, o⟩ := rd_lift h
  refine ⟨cm, ls, st, r, st', R, e, ?_⟩
  cases r with
  | val a =>
    intro cm1 H1 x1 s1 y hy
    obtain ⟨fl, st2, e2, o2⟩ := o cm1 H1 x1 s1
    exact ⟨cm1, ls, st', a, fl, st2, R.ext x1 s1, hy, e2, o2⟩
  | exc c f v => exact o
theorem rd_liftT {m : MT} {k : Bool → Loc → M Fl} (h : rdS K mg W (liftS m k) D σ H) :
    rdT K mg W m σ H fun b H1 => ∃ cm ls st fl st2, Rel K mg cm ls st σ H1 ∧ k b ls st = some (.val fl, st2) ∧ OutS K mg W D cm H1 fl st2 := by
  obtain ⟨cm, ls, st, r, st', R, e, o⟩ := rd_lift h
  refine ⟨cm, ls, st, r, st', R, e, ?_⟩
  cases r with
  | val a =>
    intro cm1 H1 x1 s1
    obtain ⟨fl, st2, e2, o2⟩ := o cm1 H1 x1 s1
    exact ⟨cm1, ls, st', fl, st2, R.ext x1 s1, e2, o2⟩
  | exc c f v => exact o
theorem RelC.set {cm : Wd} {ls : Loc} {x : V} {v : IV} (h : RelC K mg cm ls σ H) (i : Nat) (hx : Rep K mg cm H x v) : RelC K mg cm (ls.set i (some v)) (σ.set i (some x)) H := ⟨by simp [h.len], fun j w e => by
  by_cases hi : i = j
  · subst hi
    by_cases hl : i < ls.length
    · rw [List.getElem?_set_self hl] at e
      cases e
      exact ⟨x, by rw [List.getElem?_set_self (by rw [← h.len]; exact hl)], hx⟩
    · rw [List.getElem?_eq_none (by simpa using hl)] at e; cases e
  · rw [List.getElem?_set_ne hi] at e ⊢
    exact h.at' j w e⟩
end
section
variable {X : Cx} {W : WX} {a b c e : Expr} {es : List Expr} {fa fb : ME} {tc : MT} {g : MA} {p p2 p3 pos : Pos} {s : Stmt} {ss : List Stmt} {m n : MS}
theorem ss_nil : PSs' X W [] mPass := PSs_imp pss_nil fun D σ H h => by
  obtain ⟨cm, ls, st, fl, st', R, e, o⟩ := h
  cases e
  exact o cm H (Ext.refl _ _) R.sto σ R.loc
theorem rd_seq {K : PySem.W.Frag} {mg : Str → Option Value} {σ : L2.St} {H : Hp} {D : Ends} (h : rdS K mg W (mSeq m n) D σ H) : tSeq (rdS K mg W m) (rdS K mg W n) D σ H := by
  obtain ⟨cm, ls, st, r, st', R, e, o⟩ := h
  rcases M.bind_inv e with ⟨fl, st1, e1, e2⟩ | ⟨c, f, v, e1, q⟩
  · refine ⟨cm, ls, st, _, st1, R, e1, fun cm1 H1 x1 s1 => ?_⟩
    cases fl with
    | nx ls' => exact fun σ1 R1 => ⟨cm1, ls', st1, r, st', ⟨s1, R1⟩, e2, fun cm2 H2 x2 s2 => o cm2 H2 (x1.trans x2) s2⟩
    | rt v => cases e2; exact o cm1 H1 x1 s1
    | bk v => cases e2; exact o cm1 H1 x1 s1
    | ct v => cases e2; exact o cm1 H1 x1 s1
    | ex ls c f v => cases e2; exact o cm1 H1 x1 s1
  · cases q
theorem ss_cons (h1 : PS' X W s m) (h2 : PSs' X W ss n) : PSs' X W (s :: ss) (mSeq m n) := PSs_imp (pss_cons h1 h2) fun _ _ _ h => rd_seq h
theorem ss_one (h : PS' X W s m) : PSs' X W [s] m := pss_one h
theorem s_expr (he : PE' X W e fa) (hs : swapsWith e none pos.line X.env = pure false := by rfl) : PS' X W (.Expr e pos) (mExpr fa) := PS_imp (ps_expr he hs) fun D σ H h => rdE_mono (rd_liftE h) fun x H1 h1 => by
  obtain ⟨cm, ls, st, v, fl, st2, R, hx, e, o⟩ := h1
  cases e
  exact o cm H1 (Ext.refl _ _) R.sto σ R.loc
theorem s_ret (he : PE' X W e fa) : PS' X W (.Return (some e) pos) (mRet fa) := PS_imp (ps_ret he) fun D σ H h => rdE_mono (rd_liftE h) fun x H1 h1 => by
  obtain ⟨cm, ls, st, v, fl, st2, R, hx, e, o⟩ := h1
  cases e
  exact o cm H1 (Ext.refl _ _) R.sto x hx
theorem s_if {sa sb : List Stmt} {c : Expr} (hc : PT' X W c tc) (ha : PSs' X W sa m) (hb : PSs' X W sb n) : PS' X W (.If c sa sb pos) (mIfS tc m n) := PS_imp (ps_if hc ha hb) fun D σ H h => rdT_mono (rd_liftT h) fun b H1 h1 => by
  obtain ⟨cm, ls, st, fl, st2, R, e, o⟩ := h1
  cases b with
  | true => exact ⟨cm, ls, st, fl, st2, R, e, o⟩
  | false => exact ⟨cm, ls, st, fl, st2, R, e, o⟩
abbrev MG := Loc → IV → Option Loc
def gSet (i : Nat) : MG := fun ls v => some (ls.set i (some v))
def rdG (K : PySem.W.Frag) (mg : Str → Option Value) (t : MG) : TG := fun x σ H Q => ∃ cm ls v ls', RelC K mg cm ls σ H ∧ Rep K mg cm H x v ∧ t ls v = some ls' ∧ ∀ σ', RelC K mg cm ls' σ' H → Q σ' H
abbrev PG' (X : Cx) (e : Expr) (t : MG) : Prop := PG X e (rdG X.K X.mg t)
theorem PG_imp {X : Cx} {e : Expr} {t t' : TG} (h : PG X e t) (i : ∀ x σ H Q, t' x σ H Q → t x σ H Q) : PG X e t' := ⟨fun pins s σ H v u Q I r q => h.run pins s σ H v u Q I r (i v σ H Q q)⟩
theorem PGs_imp {X : Cx} {e : List Expr} {t t' : TGs} (h : PGs X e t) (i : ∀ x σ H Q, t' x σ H Q → t x σ H Q) : PGs X e t' := ⟨fun pins s σ H v u Q I r q => h.run pins s σ H v u Q I r (i v σ H Q q)⟩
theorem g_name (i : Nat) {x : Str} (hN : X.N.Nodup) (hi : X.N[i]? = some x := by rfl) (hx : L2.Loc X.env.scope x := by first | exact Or.inl rfl | exact Or.inr rfl) (hf : X.fn x = true ∨ X.env.scope.names.lookup x = some .local := by first | exact .inl rfl | exact .inr rfl) : PG' X (.Name x pos) (gSet i) :=
  PG_imp (pg_name hN hi hx hf) fun x σ H Q h => by
    obtain ⟨cm, ls, v, ls', R, hx, e, k⟩ := h
    cases e
    exact k _ (R.set i hx)
abbrev MGs := Loc → List IV → Option Loc
def gsNil : MGs := fun ls l => match l with | [] => some ls | _ => none
def gsCons (t : MG) (u : MGs) : MGs := fun ls l => match l with
  | v :: r => (t ls v).bind fun ls' => u ls' r
  | [] => none
def gTupI (n : Nat) (u : MGs) : MG := fun ls v => match v with
  | .tup l => if l.length = n then u ls l else none
  | _ => none
def rdGs (K : PySem.W.Frag) (mg : Str → Option Value) (t : MGs) : TGs := fun xs σ H Q => ∃ cm ls l ls', RelC K mg cm ls σ H ∧ RepL K mg cm H xs l ∧ t ls l = some ls' ∧ ∀ σ', RelC K mg cm ls' σ' H → Q σ' H
abbrev PGs' (X : Cx) (e : List Expr) (t : MGs) : Prop := PGs X e (rdGs X.K X.mg t)
theorem gs_nil : PGs' X [] gsNil := PGs_imp pgs_nil fun xs σ H Q h => by
  obtain ⟨cm, ls, l, ls', R, hx, e, k⟩ := h
  cases hx with
  | nil => cases e; exact ⟨rfl, k σ R⟩
  | cons => cases e
theorem gs_cons {t : MG} {u : MGs} (h1 : PG' X e t) (h2 : PGs' X es u) (hs : (assignEach (e :: es) X.env).map (·.2) = assign e X.env :: (assignEach es X.env).map (·.2) := by rfl) : PGs' X (e :: es) (gsCons t u) := PGs_imp (pgs_cons h1 h2 hs) fun xs σ H Q h => by
  obtain ⟨cm, ls, l, ls', R, hx, e, k⟩ := h
  cases hx with
  | nil => cases e
  | @cons x xs v l h r =>
    simp only [gsCons] at e
    cases q : t ls v with
    | none => rw [q] at e; cases e
    | some ls1 =>
      rw [q] at e
      exact ⟨x, xs, rfl, cm, ls, v, ls1, R, h, q, fun σ' R' => ⟨cm, ls1, l, ls', R', r, e, k⟩⟩
theorem g_tup {n : Nat} {t : MGs} {kk : Nat} (hc : X.calm = true) (h : PGs' X es t) (hn : (assignEach es X.env).length = n := by rfl) (hst : (assignEach es X.env).findIdx? (·.1) = none := by rfl) : PG' X (.Tuple es kk pos) (gTupI n t) := PG_imp (pg_tup hc h hn hst) fun x σ H Q h => by
  obtain ⟨cm, ls, v, ls', R, hx, e, k⟩ := h
  cases hx with
  | @tup p xs l h1 h2 =>
    simp only [gTupI] at e
    split at e
    · exact ⟨p, xs, rfl, h1.sq, by rw [h2.length]; assumption, cm, ls, l, ls', R, h2, e, k⟩
    · cases e
  | _ => cases e
theorem s_set (i : Nat) {x : Str} {pos' : Pos} (hN : X.N.Nodup) (he : PE' X W e fa) (hi : X.N[i]? = some x := by rfl) (hx : L2.Loc X.env.scope x := by first | exact Or.inl rfl | exact Or.inr rfl) (hs : swapsWith e (some (.Name x pos')) pos.line X.env = pure false := by rfl) (hf : X.fn x = true ∨ X.env.scope.names.lookup x = some .local := by first | exact .inl rfl | exact .inr rfl) :
    PS' X W (.Assign [.Name x pos'] e pos) (mSet i fa) := PS_imp (ps_set hN hi hx he hs hf) fun D σ H h => rdE_mono (rd_liftE h) fun x H1 h1 => by
  obtain ⟨cm, ls, st, v, fl, st2, R, hx, e, o⟩ := h1
  cases e
  exact o cm H1 (Ext.refl _ _) R.sto _ (R.loc.set i hx)
def mAsg (t : MG) (m : ME) : MS := liftS m fun v ls => match t ls v with
  | some ls' => M.ret (.nx ls')
  | none => M.stuck
theorem s_asg {tg : Expr} {t : MG} (he : PE' X W e fa) (hg : PG' X tg t) (hs : swapsWithSole [tg] e pos.line X.env = pure false := by rfl) (hw : swappedStores [tg] e X.env = pure none := by rfl) (h1 : (assignEach [tg] X.env).map (·.2) = [assign tg X.env] := by rfl) :
    PS' X W (.Assign [tg] e pos) (mAsg t fa) := PS_imp (ps_asg he hg hs hw h1) fun D σ H h => rdE_mono (rd_liftE h) fun x H1 h1 => by
  obtain ⟨cm, ls, st, v, fl, st2, R, hx, e, o⟩ := h1
  cases q : t ls v with
  | none => rw [q] at e; cases e
  | some ls' =>
    rw [q] at e; cases e
    exact ⟨cm, ls, v, ls', R.loc, hx, q, fun σ' R' => o cm H1 (Ext.refl _ _) R.sto σ' R'⟩
def setAll : List Nat → List IV → Loc → Option Loc
  | [], [], ls => some ls
  | i :: is, v :: vs, ls => setAll is vs (ls.set i (some v))
  | _, _, _ => none
def mPar (is : List Nat) (g : MA) : MS := liftS g fun l ls => match setAll is l ls with
  | some ls' => M.ret (.nx ls')
  | none => M.stuck
theorem rd_liftA {K : PySem.W.Frag} {mg : Str → Option Value} {σ : L2.St} {H : Hp} {D : Ends} {m : MA} {k : List IV → Loc → M Fl} (h : rdS K mg W (liftS m k) D σ H) :
    rdA K mg W m σ H fun xs H1 => ∃ cm ls st l fl st2, Rel K mg cm ls st σ H1 ∧ RepL K mg cm H1 xs l ∧ k l ls st = some (.val fl, st2) ∧ OutS K mg W D cm H1 fl st2 := by
  obtain ⟨cm, ls, st, r, st', R, e, o⟩ := rd_lift h
  refine ⟨cm, ls, st, r, st', R, e, ?_⟩
  cases r with
  | val a =>
    intro cm1 H1 x1 s1 y hy
    obtain ⟨fl, st2, e2, o2⟩ := o cm1 H1 x1 s1
    exact ⟨cm1, ls, st', a, fl, st2, R.ext x1 s1, hy, e2, o2⟩
  | exc c f v => exact o
theorem s_par3 (i j l : Nat) {x y z : Str} {px py pz pt : Pos} {kt k2 pt2} (hc : X.calm = true) (hN : X.N.Nodup) (ha : PA' X W [a, b, c] g) (hi : X.N[i]? = some x := by rfl) (hj : X.N[j]? = some y := by rfl) (hl : X.N[l]? = some z := by rfl) (hij : i ≠ j := by decide) (hil : i ≠ l := by decide) (hjl : j ≠ l := by decide)
    (hx : X.env.scope.names.lookup x = some .local := by rfl) (hy : X.env.scope.names.lookup y = some .local := by rfl) (hz : X.env.scope.names.lookup z = some .local := by rfl)
    (hw : swappedStores [.Tuple [.Name x px, .Name y py, .Name z pz] kt pt] (.Tuple [a, b, c] k2 pt2) X.env = pure (some [x, y, z]) := by rfl)
    (hs : swapsWithSole [.Tuple [.Name x px, .Name y py, .Name z pz] kt pt] (.Tuple [a, b, c] k2 pt2) pos.line X.env = pure false := by rfl) :
    PS' X W (.Assign [.Tuple [.Name x px, .Name y py, .Name z pz] kt pt] (.Tuple [a, b, c] k2 pt2) pos) (mPar [i, j, l] g) := PS_imp (ps_par3 hc hN hi hj hl hij hil hjl hx hy hz ha hw hs) fun D σ H h => rdA_mono (rd_liftA h) fun xs H1 h1 => by
  obtain ⟨cm, ls, st, l', fl, st2, R, hl, e, o⟩ := h1
  cases hl with
  | nil => cases e
  | cons h1 r =>
    cases r with
    | nil => cases e
    | cons h2 r =>
      cases r with
      | nil => cases e
      | cons h3 r =>
        cases r with
        | cons => cases e
        | nil => cases e; exact ⟨_, _, _, rfl, o cm H1 (Ext.refl _ _) R.sto _ (((R.loc.set i h1).set j h2).set l h3)⟩
def putM (o i v : IV) : M Unit := fun st => match o, i with
  | .cell n, .int k => (match st[n]? with
    | some (.lst m) => (match ixN m.length k with
      | some j => if v.pure = true then some (.val (), st.set n (.lst (m.set j v))) else none
      | none => none)
    | _ => none)
  | _, _ => none
def mPut (o i m : ME) : MS := liftS (fun ls => M.bind (m ls) fun v => M.bind (o ls) fun a => M.bind (i ls) fun k => putM a k v) fun _ ls => M.ret (.nx ls)
theorem rd_put {K : PySem.W.Frag} {mg : Str → Option Value} {σ : L2.St} {H : Hp} {D : Ends} {fo fi : ME} (h : rdS K mg W (mPut fo fi fa) D σ H) : tAsg (rdE K mg W fa) (gSub (rdE K mg W fo) (rdE K mg W fi) rSetL) D σ H := by
  obtain ⟨cm, ls, st, r, st', R, e, o⟩ := rd_lift h
  rcases M.bind_inv e with ⟨v, st1, e1, e2⟩ | ⟨c, f, v, e1, rfl⟩
  · refine ⟨cm, ls, st, _, st1, R, e1, fun cm1 H1 x1 s1 y hy => ?_⟩
    rcases M.bind_inv e2 with ⟨a, st2, e3, e4⟩ | ⟨c, f, v, e3, rfl⟩
    · refine ⟨cm1, ls, st1, _, st2, R.ext x1 s1, e3, fun cm2 H2 x2 s2 z hz => ?_⟩
      rcases M.bind_inv e4 with ⟨k, st3, e5, e6⟩ | ⟨c, f, v, e5, rfl⟩
      · refine ⟨cm2, ls, st2, _, st3, (R.ext x1 s1).ext x2 s2, e5, fun cm3 H3 x3 s3 w hw => ?_⟩
        unfold putM at e6
        split at e6
        · rename_i n kk
          cases hw
          split at e6
          · rename_i mm q
            split at e6
            · rename_i j qj
              split at e6
              · rename_i hp
                cases e6
                obtain ⟨p, xs, rfl, g1, g2, g3, g4⟩ := cell_at s3 (hz.ext x3) q
                have hy3 := (hy.ext x2).ext x3
                obtain ⟨E, s4⟩ := cell_put (σ := σ) s3 g1 (g3.set j hy3) (pureL_set j g4 hp)
                obtain ⟨fl, st5, e7, o7⟩ := o cm3 _ (((x1.trans x2).trans x3).trans E) s4
                cases e7
                exact ⟨p, xs, kk, j, rfl, rfl, g2, by rw [g3.length]; exact qj, o7 cm3 _ (Ext.refl _ _) s4 σ (((R.ext x1 s1).ext x2 s2).ext (x3.trans E) s4).loc⟩
              · cases e6
            · cases e6
          · cases e6
        · cases e6
      · exact ⟨cm2, ls, st2, _, st', (R.ext x1 s1).ext x2 s2, e5, fun cm3 H3 x3 s3 => o cm3 H3 ((x1.trans x2).trans x3) s3⟩
    · exact ⟨cm1, ls, st1, _, st', R.ext x1 s1, e3, fun cm2 H2 x2 s2 => o cm2 H2 (x1.trans x2) s2⟩
  · exact ⟨cm, ls, st, _, st', R, e1, o⟩
theorem s_put {o i : Expr} {fo fi : ME} (ho : PE' X W o fo) (hi : PE' X W i fi) (he : PE' X W e fa)
    (ha : ∀ v, assign (.Subscript o i p) X.env v = (do
      let ov ← holding [v] (eval o X.env)
      let iv ← holding [v, ov] (eval i X.env)
      standAt p
      holding [v, ov, iv] (setItem ov iv v)
      release [v, ov, iv] []) := by intro _; rfl)
    (hs : swapsWithSole [.Subscript o i p] e pos.line X.env = pure false := by rfl) (hw : swappedStores [.Subscript o i p] e X.env = pure none := by rfl) (h1 : (assignEach [.Subscript o i p] X.env).map (·.2) = [assign (.Subscript o i p) X.env] := by rfl) :
    PS' X W (.Assign [.Subscript o i p] e pos) (mPut fo fi fa) := PS_imp (ps_asg he (pg_sub ho hi set_list ha) hs hw h1) fun D σ H h => rd_put h
end
end MK
namespace MK
open PySem PySem.Spec PyProof.Rows L2
section
variable {K : PySem.W.Frag} {mg : Str → Option Value} {cm cm' : Wd} {H H' : Hp}
structure Tr (cm : Wd) (H : Hp) (cm' : Wd) (H' : Hp) : Prop where
  ce : ∀ (n : Nat) (a : Addr), cm.cm[n]? = some a → cm'.cm[n]? = some a
  fr : ∀ a o, H a = some o → a ∉ cm.av → H' a = some o ∧ a ∉ cm'.av
theorem Tr.rd (e : Tr cm H cm' H') {a : Addr} {u : HO} (h : Rd H a u) (n : a ∉ cm.av) : Rd H' a u ∧ a ∉ cm'.av := by
  rcases h with h | ⟨o, h⟩
  · exact ⟨.inl (e.fr _ _ h n).1, (e.fr _ _ h n).2⟩
  · exact ⟨.inr ⟨o, (e.fr _ _ h n).1⟩, (e.fr _ _ h n).2⟩
mutual
theorem Rep.tr (e : Tr cm H cm' H') : ∀ {x : V} {v : IV}, Rep K mg cm H x v → Rep K mg cm' H' x v
  | _, _, .non => .non
  | _, _, .bl b => .bl b
  | _, _, .int i => .int i
  | _, _, .str x => .str x
  | _, _, .tup h r => .tup (h.imp (fun h => e.rd h.1 h.2) id) (RepL.tr e r)
  | _, _, .lst h r => .lst (e.fr _ _ h.1 h.2) (RepL.tr e r)
  | _, _, .scr h r => .scr (h.imp (fun ⟨⟨o, h⟩, n⟩ => ⟨⟨o, (e.fr _ _ h n).1⟩, (e.fr _ _ h n).2⟩) id) (RepL.tr e r)
  | _, _, .obj hc h n r => .obj hc (e.fr _ _ h n).1 (e.fr _ _ h n).2 (RepF.tr e r)
  | _, _, .cell h => .cell (e.ce _ _ h)
  | _, _, .exn g c h n r => .exn g c (e.fr _ _ h n).1 (e.fr _ _ h n).2 (Rep.tr e r)
  | _, _, .rng h n => .rng (e.fr _ _ h n).1 (e.fr _ _ h n).2
  | _, _, .err g c h n h' n' r => .err g c (e.fr _ _ h n).1 (e.fr _ _ h n).2 (e.fr _ _ h' n').1 (e.fr _ _ h' n').2 (Rep.tr e r)
theorem RepL.tr (e : Tr cm H cm' H') : ∀ {xs : List V} {l : List IV}, RepL K mg cm H xs l → RepL K mg cm' H' xs l
  | _, _, .nil => .nil
  | _, _, .cons h r => .cons (Rep.tr e h) (RepL.tr e r)
theorem RepF.tr (e : Tr cm H cm' H') : ∀ {xs : List (Str × V)} {l : List (Str × IV)}, RepF K mg cm H xs l → RepF K mg cm' H' xs l
  | _, _, .nil => .nil
  | _, _, .cons h r => .cons (Rep.tr e h) (RepF.tr e r)
end
theorem RepO.tr (e : Tr cm H cm' H') (pw : ∀ p, p ∈ cm.ow → p ∈ cm'.ow) {a : Addr} {fs' : List (Str × V)} {fs : List (Str × IV)} {ls : List (Str × List IV)} (h : RepO K mg cm H a fs' fs ls) (ko : ∀ b, (a, b) ∈ cm.ow → H' b = H b) : RepO K mg cm' H' a fs' fs ls where
  fl f v q := by
    obtain ⟨x, h1, h2⟩ := h.fl f v q
    exact ⟨x, h1, h2.tr e⟩
  ol f l q := by
    obtain ⟨b, xs, h1, h2, h3, h4, h5⟩ := h.ol f l q
    exact ⟨b, xs, h1, pw _ h2, (ko b h2).trans h3, h4.tr e, h5⟩
  dj := h.dj
  no := h.no
  sm := h.sm
theorem CellOk.tr (e : Tr cm H cm' H') (pw : ∀ p, p ∈ cm.ow → p ∈ cm'.ow) {a : Addr} {c : CV} (h : CellOk K mg cm H a c) (k : H' a = H a) (ko : ∀ b, (a, b) ∈ cm.ow → H' b = H b) : CellOk K mg cm' H' a c := by
  cases c with
  | lst l =>
    obtain ⟨xs, h1, h2, h3⟩ := h
    exact ⟨xs, k.trans h1, h2.tr e, h3⟩
  | ins c fs =>
    obtain ⟨C, dx, fs', h0, h1, h2, h3⟩ := h
    exact ⟨C, dx, fs', h0, k.trans h1, h2.tr e, h3⟩
  | own c fs ls =>
    obtain ⟨C, dx, fs', h0, h1, h2, h3⟩ := h
    exact ⟨C, dx, fs', h0, k.trans h1, h2.tr e pw ko, h3⟩
end
section
variable {K : PySem.W.Frag} {mg : Str → Option Value} {cm cm' : Wd} {H H' : Hp} {ls : Loc} {σ : L2.St}
theorem Ext.tr (e : Ext cm H cm' H') : Tr cm H cm' H' := ⟨fun _ _ h => e.at h, fun _ _ h n => e.at2 h n⟩
theorem Tr.trans {cm1 : Wd} {H1 : Hp} (a : Tr cm H cm' H') (b : Tr cm' H' cm1 H1) : Tr cm H cm1 H1 := ⟨fun n x h => b.ce n x (a.ce n x h), fun x o h n => b.fr x o (a.fr x o h n).1 (a.fr x o h n).2⟩
theorem Tr.refl : Tr cm H cm H := ⟨fun _ _ h => h, fun _ _ h n => ⟨h, n⟩⟩
theorem Tr.fzT (e : Tr cm H cm' H') {a : Addr} {xs : List V} (h : FzT K cm H a xs) : FzT K cm' H' a xs := h.imp (fun h => e.rd h.1 h.2) id
theorem Tr.fzS (e : Tr cm H cm' H') {a : Addr} {xs : List V} (h : FzS K cm H a xs) : FzS K cm' H' a xs := h.imp (fun ⟨⟨o, h⟩, n⟩ => ⟨⟨o, (e.fr _ _ h n).1⟩, (e.fr _ _ h n).2⟩) id
theorem Tr.fzL (e : Tr cm H cm' H') {a : Addr} {xs : List V} (h : FzL cm H a xs) : FzL cm' H' a xs := e.fr _ _ h.1 h.2
theorem RelC.tr (e : Tr cm H cm' H') (h : RelC K mg cm ls σ H) : RelC K mg cm' ls σ H' := ⟨h.len, fun i v q => by
  obtain ⟨x, h1, h2⟩ := h.at' i v q
  exact ⟨x, h1, h2.tr e⟩⟩
end
open Classical in
abbrev Src := List IV × Option Nat
abbrev MI := Loc → M Src
def srcOk : Option Nat → List IV → Sto → Prop
  | none, _, _ => True
  | some n, l, st => st[n]? = some (.lst l)
structure Walks (K : PySem.W.Frag) (mg : Str → Option Value) (J : It) (p : Src) (cm : Wd) (H : Hp) : Prop where
  stop : ∀ (i : Nat) (cm1 : Wd) (H1 : Hp) (st1 : Sto), Tr cm H cm1 H1 → RelS K mg cm1 st1 H1 → srcOk p.2 p.1 st1 → p.1.length ≤ i → J.stop i H1
  go : ∀ (i : Nat) (cm1 : Wd) (H1 : Hp) (st1 : Sto) (v : IV), Tr cm H cm1 H1 → RelS K mg cm1 st1 H1 → srcOk p.2 p.1 st1 → p.1[i]? = some v → J.go i H1 ∧ ∀ x H2, J.yld i H1 x H2 → Same H1 H2 ∧ Rep K mg cm1 H2 x v
def rdI (K : PySem.W.Frag) (mg : Str → Option Value) (W : WX) (m : MI) : TI := fun σ H R => Run K mg W σ H m fun cm' H' p => ∀ J, Walks K mg J p cm' H' → R J H'
abbrev PI' (X : Cx) (W : WX) (tg e : Expr) (m : MI) : Prop := PI X tg e (rdI X.K X.mg W m)
theorem PI_imp {X : Cx} {tg e : Expr} {t t' : TI} (h : PI X tg e t) (i : ∀ σ H R, t' σ H R → t σ H R) : PI X tg e t' := ⟨fun pins s σ H R I q => h.run pins s σ H R I (i σ H R q)⟩
section
variable {K : PySem.W.Frag} {mg : Str → Option Value} {σ : L2.St} {H : Hp} {W : WX} {cm : Wd} {st : Sto} {x : V} {a : IV} {l : List IV}
theorem rdI1 {fa : ME} {k : IV → M Src} {R : It → Hp → Prop} (h : rdI K mg W (fun ls => M.bind (fa ls) k) σ H R) :
    rdE K mg W fa σ H fun x H1 => ∃ cm st a p st', RelS K mg cm st H1 ∧ Rep K mg cm H1 x a ∧ k a st = some (p, st') ∧ Out K mg W σ cm H1 (fun cm' H' p => ∀ J, Walks K mg J p cm' H' → R J H') p st' := by
  obtain ⟨cm, ls, st, R, r, st', e, o⟩ := Run.part h
  refine ⟨cm, ls, st, r, st', R, e, ?_⟩
  cases r with
  | val a =>
    intro cm' H' x s
    obtain ⟨r2, st2, e2, o2⟩ := o cm' H' x s
    exact fun y hy => ⟨cm', st', a, r2, st2, s, hy, e2, o2⟩
  | exc c f v => exact o
def srcM (v : IV) : M Src := fun st => match v with
  | .tup l => some (.val (l, none), st)
  | .lst l => some (.val (l, none), st)
  | .scr l => some (.val (l, none), st)
  | .cell n => (match st[n]? with
    | some (.lst l) => some (.val (l, some n), st)
    | _ => none)
  | _ => none
theorem walks_T {p : Addr} {xs : List V} (h : FzT K cm H p xs) (r : RepL K mg cm H xs l) : Walks K mg (Itt K p) (l, none) cm H where
  stop := fun i cm1 H1 st1 e s _ hi => ⟨xs, (e.fzT h).sq, by rw [r.length]; exact hi⟩
  go := fun i cm1 H1 st1 v e s _ hi => by
    obtain ⟨x, h1, h2⟩ := r.get hi
    refine ⟨⟨xs, x, (e.fzT h).sq, h1⟩, fun y H2 hy => ?_⟩
    obtain ⟨rfl, hy⟩ := hy
    have q := hy xs (e.fzT h).sq
    rw [h1] at q; cases q
    exact ⟨Same.refl _, h2.tr e⟩
theorem walks_L {p : Addr} {xs : List V} (h : ∀ cm1 H1, Tr cm H cm1 H1 → SqL K H1 p xs) (r : RepL K mg cm H xs l) : Walks K mg (Itl K p) (l, none) cm H where
  stop := fun i cm1 H1 st1 e s _ hi => ⟨xs, h cm1 H1 e, by rw [r.length]; exact hi⟩
  go := fun i cm1 H1 st1 v e s _ hi => by
    obtain ⟨x, h1, h2⟩ := r.get hi
    refine ⟨⟨xs, x, h cm1 H1 e, h1⟩, fun y H2 hy => ?_⟩
    obtain ⟨rfl, hy⟩ := hy
    have q := hy xs (h cm1 _ e)
    rw [h1] at q; cases q
    exact ⟨Same.refl _, h2.tr e⟩
theorem walks_C {p : Addr} {n : Nat} (h : cm.cm[n]? = some p) : Walks K mg (Itl K p) (l, some n) cm H where
  stop := fun i cm1 H1 st1 e s q hi => by
    obtain ⟨xs, h1, h2, _⟩ := s.at' n p _ (e.ce _ _ h) q
    exact ⟨xs, SqL.of h1, by rw [h2.length]; exact hi⟩
  go := fun i cm1 H1 st1 v e s q hi => by
    obtain ⟨xs, h1, h2, _⟩ := s.at' n p _ (e.ce _ _ h) q
    obtain ⟨x, h3, h4⟩ := h2.get hi
    refine ⟨⟨xs, x, SqL.of h1, h3⟩, fun y H2 hy => ?_⟩
    obtain ⟨rfl, hy⟩ := hy
    have q := hy xs (SqL.of h1)
    rw [h3] at q; cases q
    exact ⟨Same.refl _, h4⟩
end
def iSeq (K : PySem.W.Frag) (tl : TE) : TI := fun σ H R => tl σ H fun x H1 => ∃ a, x = .ref a ∧ (((∃ xs, SqL K H1 a xs) ∧ R (Itl K a) H1) ∨ ((∃ xs, SqT K H1 a xs) ∧ R (Itt K a) H1))
theorem pi_seq {X : Cx} {tg l : Expr} {tl : TE} (hl : PE X l tl) : PI X tg l (iSeq X.K tl) := by
  refine ⟨fun pins s σ H R I h => ?_⟩
  refine thn (hl.run pins s σ H _ I h) fun v s1 ⟨x, H1, I1, r1, q1⟩ => ?_
  obtain ⟨a, e, ⟨⟨xs, hq⟩, q⟩ | ⟨⟨xs, hq⟩, q⟩⟩ := q1
  · subst e
    cases r1
    obtain ⟨its, rv, p, hz⟩ := I1.list hq
    refine wpAny_pyIter_list p.isList ?_
    refine ⟨s1.heap.objs.size, [s1.heap.objs.size], _, _, H1, rfl, I1.kept (t' := s1.toks) fun b o e => Heap.get?_push_of_some _ e, turn_list a _, ⟨_, Heap.get?_push_size _ rfl, rfl, rfl⟩, fun b hb => ?_, q⟩
    have e : b = s1.heap.objs.size := by simpa using hb
    subst e
    exact I1.fpOk (Nat.le_refl _) (I1.hok.fresh (Nat.le_refl _))
  · subst e
    cases r1
    obtain ⟨its, rv, p, hz⟩ := I1.tuple hq
    refine wpAny_pyIter_tuple (show s1.heap.IsTuple a its.toArray from p) ?_
    refine ⟨s1.heap.objs.size, [s1.heap.objs.size], _, _, H1, rfl, I1.kept (t' := s1.toks) fun b o e => Heap.get?_push_of_some _ e, turn_tuple a _, ⟨_, Heap.get?_push_size _ rfl, rfl, rfl⟩, fun b hb => ?_, q⟩
    have e : b = s1.heap.objs.size := by simpa using hb
    subst e
    exact I1.fpOk (Nat.le_refl _) (I1.hok.fresh (Nat.le_refl _))
def mSrc (m : ME) : MI := fun ls => M.bind (m ls) srcM
def rangeI (lo : Int) (n : Nat) : List IV := (List.range n).map fun (i : Nat) => IV.int (lo + (i : Int))
def rng1M (l : List IV) : M Src := fun st => match l with
  | [.int j] => if -(2 ^ 62) ≤ j ∧ j < 2 ^ 62 then some (.val (rangeI 0 j.toNat, none), st) else none
  | _ => none
def mRng1 (g : MA) : MI := fun ls => M.bind (g ls) rng1M
theorem rangeI_get {lo : Int} {n i : Nat} {v : IV} (h : (rangeI lo n)[i]? = some v) : i < n ∧ v = .int (lo + i) := by
  unfold rangeI at h
  rw [List.getElem?_map] at h
  cases q : (List.range n)[i]? with
  | none => rw [q] at h; cases h
  | some j =>
    rw [q] at h
    obtain ⟨h1, h2⟩ := List.getElem?_eq_some_iff.mp q
    simp at h1 h2
    subst h2
    cases h
    exact ⟨h1, rfl⟩
theorem walks_R {K : PySem.W.Frag} {mg : Str → Option Value} {cm : Wd} {H : Hp} (lo : Int) (n : Nat) : Walks K mg (Itr lo n) (rangeI lo n, none) cm H where
  stop := fun i cm1 H1 st1 e s _ hi => by
    have : (rangeI lo n).length = n := by unfold rangeI; simp
    rw [this] at hi
    exact hi
  go := fun i cm1 H1 st1 v e s _ hi => by
    obtain ⟨h1, rfl⟩ := rangeI_get hi
    refine ⟨h1, fun y H2 hy => ?_⟩
    obtain ⟨rfl, rfl⟩ := hy
    exact ⟨Same.refl _, .int _⟩
section
variable {X : Cx} {W : WX} {tg a b e : Expr} {fa : ME} {g : MA} {p pos : Pos}
theorem i_seq (h : PE' X W e fa) : PI' X W tg e (mSrc fa) := PI_imp (pi_seq h) fun σ H R h => rdE_mono (rdI1 h) fun x H1 h1 => by
  obtain ⟨cm, st, v, r, st', s, hx, e, o⟩ := h1
  cases v with
  | tup l =>
    cases e
    cases hx with
    | tup h1 h2 => exact ⟨_, rfl, .inr ⟨⟨_, h1.sq⟩, o cm H1 (Ext.refl _ _) s _ (walks_T h1 h2)⟩⟩
  | lst l =>
    cases e
    cases hx with
    | lst h1 h2 => exact ⟨_, rfl, .inl ⟨⟨_, h1.sq⟩, o cm H1 (Ext.refl _ _) s _ (walks_L (fun cm1 H1 e => (e.fzL h1).sq) h2)⟩⟩
  | scr l =>
    cases e
    cases hx with
    | scr h1 h2 => exact ⟨_, rfl, .inl ⟨⟨_, h1.sq⟩, o cm H1 (Ext.refl _ _) s _ (walks_L (fun cm1 H1 e => (e.fzS h1).sq) h2)⟩⟩
  | cell n =>
    simp only [srcM] at e
    split at e
    · rename_i l q
      cases e
      cases hx with
      | @cell p _ h =>
        obtain ⟨xs, h1, h2, _⟩ := s.at' n p _ h q
        exact ⟨_, rfl, .inl ⟨⟨_, SqL.of h1⟩, o cm H1 (Ext.refl _ _) s _ (walks_C h)⟩⟩
    · cases e
  | _ => cases e
theorem rdIA {K : PySem.W.Frag} {mg : Str → Option Value} {σ : L2.St} {H : Hp} {k : List IV → M Src} {R : It → Hp → Prop} (h : rdI K mg W (fun ls => M.bind (g ls) k) σ H R) :
    rdA K mg W g σ H fun xs H1 => ∃ cm st l p st', RelS K mg cm st H1 ∧ RepL K mg cm H1 xs l ∧ k l st = some (p, st') ∧ Out K mg W σ cm H1 (fun cm' H' p => ∀ J, Walks K mg J p cm' H' → R J H') p st' := rdA1 h
theorem i_rng1 (hg : Gl X "range") (hm : X.mg "range" = none) (ha : PA' X W [a] g) (hs : starEach [a] X.env = [(false, eval a X.env)] := by rfl) : PI' X W tg (.Call (.Name "range" p) [a] [] pos) (mRng1 g) := PI_imp (pi_range1 hg hm ha hs) fun σ H R h => rdA_mono (rdIA h) fun xs H1 h1 => by
  obtain ⟨cm, st, l, r, st', s, hx, e, o⟩ := h1
  unfold rng1M at e
  split at e
  · split at e
    · rename_i j hj
      cases e
      obtain ⟨y, rfl, hy⟩ := rep1 hx
      cases hy
      exact ⟨j, rfl, hj.1, hj.2, o cm H1 (Ext.refl _ _) s _ (walks_R 0 j.toNat)⟩
    · cases e
  · cases e
end
open Classical in
noncomputable def forL (t : MG) (body : MS) (l0 : List IV) (k : Option Nat) : List IV → Loc → M Fl
  | [], ls => fun st => if srcOk k l0 st then some (.val (.nx ls), st) else none
  | v :: vs, ls => fun st => if srcOk k l0 st then (match t ls v with
    | some ls1 => M.bind (body ls1) (fun fl => match fl with
      | .nx ls2 => forL t body l0 k vs ls2
      | .ct ls2 => forL t body l0 k vs ls2
      | .bk ls2 => M.ret (.nx ls2)
      | fl => M.ret fl) st
    | none => none) else none
noncomputable def mFor (src : MI) (t : MG) (body : MS) : MS := liftS src fun p ls => forL t body p.1 p.2 p.1 ls
section
variable {X : Cx} {W : WX} {tg iter : Expr} {src : MI} {t : MG} {body : MS} {sb : List Stmt} {pos : Pos}
theorem rd_for {K : PySem.W.Frag} {mg : Str → Option Value} {σ : L2.St} {H : Hp} {D : Ends} (h : rdS K mg W (mFor src t body) D σ H) : tFor (rdI K mg W src) (rdG K mg t) (rdS K mg W body) D σ H := by
  obtain ⟨cm, ls, st, r, st', R, e, o⟩ := rd_lift h
  refine ⟨cm, ls, st, r, st', R, e, ?_⟩
  cases r with
  | exc c f v => exact o
  | val p =>
    intro cm1 H1 x1 s1 J wk
    obtain ⟨fl, st2, e2, o2⟩ := o cm1 H1 x1 s1
    refine ⟨fun i m σ' H' => m = p.1.length - i ∧ i ≤ p.1.length ∧ ∃ cm2 ls2 st2 fl st3, Ext cm1 H1 cm2 H' ∧ Rel K mg cm2 ls2 st2 σ' H' ∧ forL t body p.1 p.2 (p.1.drop i) ls2 st2 = some (.val fl, st3) ∧ OutS K mg W D cm2 H' fl st3,
      ⟨p.1.length, by simp, Nat.zero_le _, cm1, ls, st', fl, st2, Ext.refl _ _, R.ext x1 s1, by simpa using e2, o2⟩, ?_⟩
    rintro i m σ2 H2 ⟨rfl, hi, cm2, ls2, st2, fl, st3, x2, R2, e2, o2⟩
    by_cases hlt : i < p.1.length
    · have hd : p.1.drop i = p.1[i] :: p.1.drop (i + 1) := List.drop_eq_getElem_cons hlt
      rw [hd] at e2
      simp only [forL] at e2
      split at e2
      · rename_i hok
        cases q : t ls2 p.1[i] with
        | none => rw [q] at e2; cases e2
        | some ls3 =>
          rw [q] at e2
          obtain ⟨g1, g2⟩ := wk.go i cm2 H2 st2 p.1[i] x2.tr R2.sto hok (by simp [hlt])
          refine .inr ⟨g1, fun σ' H' => i + 1 ≤ p.1.length ∧ ∃ cm2 ls2 st2 fl st3, Ext cm1 H1 cm2 H' ∧ Rel K mg cm2 ls2 st2 σ' H' ∧ forL t body p.1 p.2 (p.1.drop (i + 1)) ls2 st2 = some (.val fl, st3) ∧ OutS K mg W D cm2 H' fl st3,
            fun σ' H' h => ⟨p.1.length - (i + 1), by omega, rfl, h.1, h.2⟩, fun x H3 hy => ?_⟩
          obtain ⟨g3, g4⟩ := g2 x H3 hy
          have E3 : Ext cm2 H2 cm2 H3 := Ext.same g3
          have S3 := R2.sto.same g3
          refine ⟨cm2, ls2, p.1[i], ls3, (R2.ext E3 S3).loc, g4, q, fun σ4 R4 => ?_⟩
          rcases M.bind_inv e2 with ⟨fl1, st4, e4, e5⟩ | ⟨c, f, v, e4, q4⟩
          · refine ⟨cm2, ls3, st2, fl1, st4, ⟨S3, R4⟩, e4, fun cm5 H5 x5 s5 => ?_⟩
            have E5 : Ext cm1 H1 cm5 H5 := (x2.trans E3).trans x5
            have O5 : OutS K mg W D cm5 H5 fl st3 := fun cm6 H6 x6 s6 => o2 cm6 H6 ((E3.trans x5).trans x6) s6
            cases fl1 with
            | nx ls5 => exact fun σ5 R5 => ⟨hlt, cm5, ls5, st4, fl, st3, E5, ⟨s5, R5⟩, e5, O5⟩
            | ct ls5 => exact fun σ5 R5 => ⟨hlt, cm5, ls5, st4, fl, st3, E5, ⟨s5, R5⟩, e5, O5⟩
            | bk ls5 => cases e5; exact fun σ5 R5 => O5 cm5 H5 (Ext.refl _ _) s5 σ5 R5
            | rt v => cases e5; exact fun x hx => O5 cm5 H5 (Ext.refl _ _) s5 x hx
            | ex ls5 c f v => cases e5; exact fun σ5 R5 => O5 cm5 H5 (Ext.refl _ _) s5 σ5 R5
          · cases q4
      · cases e2
    · have hd : p.1.drop i = [] := List.drop_eq_nil_of_le (by omega)
      rw [hd] at e2
      simp only [forL] at e2
      split at e2
      · rename_i hok
        cases e2
        exact .inl ⟨wk.stop i cm2 H2 st2 x2.tr R2.sto hok (by omega), o2 cm2 H2 (Ext.refl _ _) R2.sto σ2 R2.loc⟩
      · cases e2
theorem s_for (hp : PassesOwn (model X.prog X.w) X.A X.env X.xe) (hc : X.calm = true) (hi : PI' X W tg iter src) (hg : PG' X tg t) (hb : PSs' X W sb body)
    (hs : ∀ x, foldedSetIterable iter X.env x = pure x := by intro _; rfl) : PS' X W (.For tg iter sb [] pos) (mFor src t body) := PS_imp (ps_for hp hc hi hg hb hs) fun D σ H h => rd_for h
end
end MK
namespace MK
open PySem PySem.Spec PyProof.Rows L2
section
variable {K : PySem.W.Frag} {mg : Str → Option Value} {σ : L2.St} {H H1 : Hp} {W : WX} {cm cm1 : Wd} {st st1 st' : Sto} {Q : VK} {c : Bool} {l : List IV} {xs : List V} {r : OX IV} {D : Addr}
structure Making (K : PySem.W.Frag) (mg : Str → Option Value) (cm : Wd) (H : Hp) (cm1 : Wd) (H1 : Hp) (st1 : Sto) (D : Addr) (xs : List V) (l : List IV) : Prop where
  ext : Ext cm H cm1 H1
  sto : RelS K mg cm1 st1 H1
  av : D ∈ cm1.av
  nc : D ∉ cm1.ch
  at' : H1 D = some (.lst xs)
  rep : RepL K mg cm1 H1 xs l
theorem RelS.avoid (s : RelS K mg cm st H) (n : H D = none) {o : HO} : RelS K mg (cm.avoid D) st (upd H D o) := by
  have E : Ext cm H (cm.avoid D) (upd H D o) := Ext.avoid n
  refine ⟨s.len, s.nd, fun i a c h1 h2 => ?_, fun a m => ?_, s.ofn, s.onc⟩
  · have h1' : cm.cm[i]? = some a := h1
    exact (s.at' i a c h1' h2).ext E (upd_ne fun z => s.notCell n (z ▸ Wd.inch (List.mem_of_getElem? h1'))) fun b hb => upd_ne fun z => s.notCell n (z ▸ Wd.ino hb)
  · rcases List.mem_cons.mp m with m | m
    · subst m; exact ⟨_, upd_same⟩
    · obtain ⟨o, q⟩ := s.avs a m
      have ne : a ≠ D := fun z => s.notAv n (z ▸ m)
      exact ⟨o, by rw [upd_ne ne]; exact q⟩
theorem Tr.at (h : D ∈ cm1.av) {o : HO} : Tr cm1 H1 cm1 (upd H1 D o) := ⟨fun _ _ h => h, fun a u e na => ⟨(upd_ne (fun z : a = D => na (z ▸ h))).trans e, na⟩⟩
theorem RelS.beside (s : RelS K mg cm1 st1 H1) (av : D ∈ cm1.av) (nc : D ∉ cm1.ch) {o : HO} : RelS K mg cm1 st1 (upd H1 D o) := by
  refine ⟨s.len, s.nd, fun i a c h1 h2 => ?_, fun a h => ?_, s.ofn, s.onc⟩
  · exact (s.at' i a c h1 h2).tr (Tr.at av) (fun _ h => h) (upd_ne fun z => nc (z ▸ Wd.inch (List.mem_of_getElem? h1))) fun b hb => upd_ne fun z => nc (z ▸ Wd.ino hb)
  · by_cases z : a = D
    · subst z; exact ⟨_, upd_same⟩
    · obtain ⟨o, q⟩ := s.avs a h
      exact ⟨o, by rw [upd_ne z]; exact q⟩
theorem Ext.beside (e : Ext cm H cm1 H1) (n : H D = none) {o : HO} : Ext cm H cm1 (upd H1 D o) :=
  ⟨e.pre, fun a u h na => (upd_ne (ne_of_none h n)).trans (e.fr a u h na), e.av, e.new, e.keep, e.pow⟩
theorem Making.mk0 (s : RelS K mg cm st H) (n : H D = none) : Making K mg cm H (cm.avoid D) (upd H D (.lst [])) st D [] [] where
  ext := Ext.avoid n
  sto := s.avoid n
  av := List.mem_cons_self
  nc := s.notCell n
  at' := upd_same
  rep := .nil
theorem Making.step (m : Making K mg cm H cm1 H1 st1 D xs l) (n : H D = none) {cm2 : Wd} {H2 : Hp} {st2 : Sto} (E : Ext cm1 H1 cm2 H2) (s : RelS K mg cm2 st2 H2) : Making K mg cm H cm2 H2 st2 D xs l where
  ext := m.ext.trans E
  sto := s
  av := E.keep D m.av
  nc := E.new D _ m.at' m.nc
  at' := E.fr D _ m.at' m.nc
  rep := m.rep.ext E
theorem Making.add (m : Making K mg cm H cm1 H1 st1 D xs l) (n : H D = none) {y : V} {v : IV} (hy : Rep K mg cm1 H1 y v) : Making K mg cm H cm1 (upd H1 D (.lst (xs ++ [y]))) st1 D (xs ++ [y]) (l ++ [v]) :=
  ⟨m.ext.beside n, m.sto.beside m.av m.nc, m.av, m.nc, upd_same, (m.rep.tr (Tr.at m.av)).app (.cons (hy.tr (Tr.at m.av)) .nil)⟩
def Wd.free (w : Wd) (D : Addr) (h : D ∉ w.ch) : Wd := ⟨w.cm, w.ow, w.av.filter (fun a => decide (a ≠ D)), fun a m => List.mem_filter.mpr ⟨w.sub a m, by
  have : a ≠ D := fun z => h (z ▸ Wd.inch m)
  simpa using this⟩, fun p m => List.mem_filter.mpr ⟨w.so p m, by
  have : p.2 ≠ D := fun z => h (z ▸ Wd.ino m)
  simpa using this⟩⟩
def Wd.cell (w : Wd) (D : Addr) (h : D ∈ w.av) : Wd := ⟨w.cm ++ [D], w.ow, w.av, fun a m => by
  rcases List.mem_append.mp m with m | m
  · exact w.sub a m
  · rw [List.mem_singleton] at m; subst m; exact h, w.so⟩
theorem Tr.free (h : D ∉ cm1.ch) : Tr cm1 H1 (cm1.free D h) H1 := ⟨fun _ _ h => h, fun a o h na => ⟨h, fun z => na (List.mem_filter.mp z).1⟩⟩
theorem Tr.cell (h : D ∈ cm1.av) : Tr cm1 H1 (cm1.cell D h) H1 := ⟨fun i a h => by
  show (cm1.cm ++ [D])[i]? = some a
  rw [List.getElem?_append_left (List.getElem?_eq_some_iff.mp h).1]; exact h, fun a o h na => ⟨h, na⟩⟩
theorem RelS.free (s : RelS K mg cm1 st1 H1) (h : D ∉ cm1.ch) : RelS K mg (cm1.free D h) st1 H1 :=
  ⟨s.len, s.nd, fun i a c h1 h2 => (s.at' i a c h1 h2).tr (Tr.free h) (fun _ h => h) rfl fun _ _ => rfl, fun a m => s.avs a (List.mem_filter.mp m).1, s.ofn, s.onc⟩
theorem Ext.free (e : Ext cm H cm1 H1) (h : D ∉ cm1.ch) (n : D ∉ cm.av) : Ext cm H (cm1.free D h) H1 :=
  ⟨e.pre, e.fr, fun a o q na z => e.av a o q na (List.mem_filter.mp z).1, e.new, fun a m => List.mem_filter.mpr ⟨e.keep a m, by
    have : a ≠ D := fun z => n (z ▸ m)
    simpa using this⟩, e.pow⟩
theorem cell_ch {a : Addr} {h : D ∈ cm1.av} (m : a ∈ (cm1.cell D h).ch) : a ∈ cm1.ch ∨ a = D := by
  rcases Wd.mem_ch.mp m with m | ⟨o, m⟩
  · have m' : a ∈ cm1.cm ++ [D] := m
    rcases List.mem_append.mp m' with m | m
    · exact .inl (Wd.inch m)
    · exact .inr (List.mem_singleton.mp m)
  · exact .inl (Wd.ino m)
theorem Ext.cell (e : Ext cm H cm1 H1) (h : D ∈ cm1.av) (n : H D = none) : Ext cm H (cm1.cell D h) H1 := by
  refine ⟨?_, e.fr, e.av, fun a o q na z => ?_, e.keep, e.pow⟩
  · obtain ⟨l', q'⟩ := e.pre
    exact ⟨l' ++ [D], by rw [← List.append_assoc, ← q']; rfl⟩
  · rcases cell_ch z with z | z
    · exact e.new a o q na z
    · subst z; rw [n] at q; cases q
theorem RelS.cell (s : RelS K mg cm1 st1 H1) (h : D ∈ cm1.av) (nc : D ∉ cm1.ch) {c : CV} (hc : CellOk K mg (cm1.cell D h) H1 D c) : RelS K mg (cm1.cell D h) (st1 ++ [c]) H1 := by
  refine ⟨by simp [Wd.cell, s.len], ?_, fun i a c h1 h2 => ?_, s.avs, s.ofn, fun a b hb m => ?_⟩
  · show (cm1.cm ++ [D]).Nodup
    rw [List.nodup_append]
    exact ⟨s.nd, by simp, fun a ha b hb => by simp at hb; subst hb; exact fun z => nc (z ▸ Wd.inch ha)⟩
  · have h1' : (cm1.cm ++ [D])[i]? = some a := h1
    by_cases hi : i < cm1.cm.length
    · rw [List.getElem?_append_left hi] at h1'
      rw [List.getElem?_append_left (by rw [← s.len]; exact hi)] at h2
      exact (s.at' i a c h1' h2).tr (Tr.cell h) (fun _ h => h) rfl fun _ _ => rfl
    · have hi' : i = cm1.cm.length := by
        have := (List.getElem?_eq_some_iff.mp h1').1
        simp at this
        omega
      subst hi'
      rw [List.getElem?_append_right (Nat.le_refl _)] at h1'
      rw [s.len, List.getElem?_append_right (Nat.le_refl _)] at h2
      simp at h1' h2
      subst h1' h2
      exact hc
  · have m' : b ∈ cm1.cm ++ [D] := m
    rcases List.mem_append.mp m' with m | m
    · exact s.onc a b hb m
    · rw [List.mem_singleton] at m; subst m; exact nc (Wd.ino hb)
theorem Making.done (m : Making K mg cm H cm1 H1 st1 D xs l) (s0 : RelS K mg cm st H) (n : H D = none) (e : newL c l st1 = some (r, st')) (o : Out K mg W σ cm H (GE K mg Q) r st') : Q (.ref D) H1 := by
  cases c with
  | false =>
    cases e
    refine o (cm1.free D m.nc) H1 (m.ext.free m.nc (s0.notAv n)) (m.sto.free m.nc) _ (.lst ⟨m.at', ?_⟩ (m.rep.tr (Tr.free m.nc)))
    intro z
    have := (List.mem_filter.mp z).2
    simp at this
  | true =>
    simp only [newL] at e
    split at e
    · rename_i q
      cases e
      refine o (cm1.cell D m.av) H1 (m.ext.cell m.av n) (m.sto.cell m.av m.nc ⟨xs, m.at', m.rep.tr (Tr.cell m.av), q⟩) _ (.cell ?_)
      show (cm1.cm ++ [D])[st1.length]? = some D
      rw [← m.sto.len, List.getElem?_append_right (Nat.le_refl _)]
      simp
    · cases e
end
abbrev W0 : WX := fun _ _ _ _ => False
def M.nox {α : Type} (m : M α) : M α := fun st => match m st with
  | some (.val a, st') => some (.val a, st')
  | _ => none
theorem M.nox_inv {α : Type} {m : M α} {st st' : Sto} {r : OX α} (h : M.nox m st = some (r, st')) : ∃ a, r = .val a ∧ m st = some (.val a, st') := by
  unfold M.nox at h
  split at h
  · cases h; exact ⟨_, rfl, by assumption⟩
  · cases h
theorem M.nox_run {α : Type} {m : M α} {st st' : Sto} {a : α} (h : m st = some (.val a, st')) : M.nox m st = some (.val a, st') := by unfold M.nox; rw [h]
def wipeI (ls : Loc) : List Nat → Loc
  | [] => ls
  | v :: vs => (wipeI ls vs).set v none
open Classical in
noncomputable def compL (t : MG) (c : MT) (e : ME) (l0 : List IV) (k : Option Nat) (ls : Loc) : List IV → M (List IV)
  | [] => fun st => if srcOk k l0 st then some (.val [], st) else none
  | v :: vs => fun st => if srcOk k l0 st then (match t ls v with
    | some ls1 => M.bind (M.nox (c ls1)) (fun b => if b = true then M.bind (M.nox (e ls1)) fun y => M.bind (compL t c e l0 k ls vs) fun ys => M.ret (y :: ys) else compL t c e l0 k ls vs) st
    | none => none) else none
noncomputable def mLc (cell : Bool) (src : MI) (vs : List Nat) (t : MG) (c : MT) (e : ME) : ME := fun ls => M.bind (src ls) fun p => M.bind (M.nox (compL t c e p.1 p.2 (wipeI ls vs) p.1)) fun l => if l.length ≤ 16777215 then newL cell l else M.stuck
def CT (K : PySem.W.Frag) (mg : Str → Option Value) (vs : List Nat) (t : MG) (g : TG) : Prop :=
  ∀ (x : V) (σ : L2.St) (H : Hp) (Q : L2.St → Hp → Prop) (cm : Wd) (ls : Loc) (v : IV) (ls' : Loc), RelC K mg cm ls σ H → Rep K mg cm H x v → t ls v = some ls' →
    (∀ σ', RelC K mg cm ls' σ' H → σ'.length = σ.length → (∀ j, j ∉ vs → σ'[j]? = σ[j]?) → Q σ' H) → g x σ H Q
theorem ct_name {K : PySem.W.Frag} {mg : Str → Option Value} (i : Nat) : CT K mg [i] (gSet i) (gName i) := by
  intro x σ H Q cm ls v ls' R hx e k
  cases e
  exact k _ (R.set i hx) (by simp) fun j hj => by rw [List.getElem?_set_ne (fun z => hj (by simp [z]))]
theorem wipe_in {σ : L2.St} {i : Nat} : ∀ {vs : List Nat}, i ∈ vs → i < σ.length → (wipe σ vs)[i]? = some none
  | [], h, _ => by cases h
  | v :: vs, h, hl => by
    unfold wipe
    by_cases e : v = i
    · subst e
      rw [List.getElem?_set_self (by rw [wipe_length]; exact hl)]
    · rw [List.getElem?_set_ne e]
      exact wipe_in ((List.mem_cons.mp h).resolve_left fun z => e z.symm) hl
theorem wipe_eq {σ σ' : L2.St} {vs : List Nat} (hl : σ'.length = σ.length) (h : ∀ j, j ∉ vs → σ'[j]? = σ[j]?) : wipe σ' vs = wipe σ vs := by
  apply List.ext_getElem?
  intro i
  by_cases hi : i ∈ vs
  · by_cases hl2 : i < σ.length
    · rw [wipe_in hi hl2, wipe_in hi (by rw [hl]; exact hl2)]
    · rw [List.getElem?_eq_none (by rw [wipe_length]; omega), List.getElem?_eq_none (by rw [wipe_length]; omega)]
  · rw [wipe_out hi, wipe_out hi, h i hi]
theorem wipe_wipe {σ : L2.St} {vs : List Nat} : wipe (wipe σ vs) vs = wipe σ vs := wipe_eq (wipe_length σ vs) fun j hj => wipe_out hj
theorem wipeI_length (ls : Loc) : ∀ vs : List Nat, (wipeI ls vs).length = ls.length
  | [] => rfl
  | v :: vs => by unfold wipeI; rw [List.length_set, wipeI_length ls vs]
theorem wipeI_some {ls : Loc} {i : Nat} {x : IV} : ∀ {vs : List Nat}, (wipeI ls vs)[i]? = some (some x) → ls[i]? = some (some x) ∧ i ∉ vs
  | [], h => ⟨h, by simp⟩
  | v :: vs, h => by
    unfold wipeI at h
    by_cases hi : v = i
    · subst hi
      by_cases hv : v < (wipeI ls vs).length
      · rw [List.getElem?_set_self hv] at h; cases h
      · rw [List.getElem?_eq_none (by simpa using hv)] at h; cases h
    · rw [List.getElem?_set_ne hi] at h
      obtain ⟨h1, h2⟩ := wipeI_some h
      exact ⟨h1, by simp only [List.mem_cons, not_or]; exact ⟨fun e => hi e.symm, h2⟩⟩
section
variable {K : PySem.W.Frag} {mg : Str → Option Value} {σ : L2.St} {H : Hp} {W : WX} {cm : Wd} {ls : Loc}
theorem RelC.wipe (h : RelC K mg cm ls σ H) (vs : List Nat) : RelC K mg cm (wipeI ls vs) (L2.wipe σ vs) H := ⟨by rw [wipeI_length, wipe_length]; exact h.len, fun i v e => by
  obtain ⟨h1, h2⟩ := wipeI_some e
  obtain ⟨x, h3, h4⟩ := h.at' i v h1
  exact ⟨x, by rw [wipe_out h2]; exact h3, h4⟩⟩
theorem rd_lc {cell : Bool} {src : MI} {vs : List Nat} {t : MG} {g : TG} {c : MT} {e : ME} {Q : VK} (ct : CT K mg vs t g) (h : rdE K mg W (mLc cell src vs t c e) σ H Q) : tLc (rdI K mg W src) g (rdT K mg W0 c) (rdE K mg W0 e) vs σ H Q := by
  obtain ⟨cm, ls, st, r, st', R, e0, o⟩ := h
  have zl := sizeLine_eq
  rcases M.bind_inv e0 with ⟨p, st1, e1, e2⟩ | ⟨c, f, v, e1, rfl⟩
  · refine ⟨cm, ls, st, _, st1, R, e1, fun cm1 H1 x1 s1 J wk D hD => ?_⟩
    rcases M.bind_inv e2 with ⟨l, st2, e3, e4⟩ | ⟨c, f, v, e3, rfl⟩
    · obtain ⟨l', q1, e3'⟩ := M.nox_inv e3
      cases q1
      split at e4
      · rename_i hlen
        have o1 : Out K mg W σ cm1 H1 (GE K mg Q) r st' := by
          cases r with
          | val a => exact fun cm2 H2 x2 s2 => o cm2 H2 (x1.trans x2) s2
          | exc c f v => exact fun cm2 H2 x2 s2 => o cm2 H2 (x1.trans x2) s2
        have R1 := (R.loc.ext x1).wipe vs
        refine ⟨fun i m H2 => m = p.1.length - i ∧ i ≤ p.1.length ∧ ∃ cm2 st3 xs accI rest, Making K mg cm1 H1 cm2 H2 st3 D xs accI ∧ compL t c e p.1 p.2 (wipeI ls vs) (p.1.drop i) st3 = some (.val rest, st2) ∧ accI ++ rest = l,
          ⟨p.1.length, by simp, Nat.zero_le _, cm1.avoid D, st1, [], [], l, Making.mk0 s1 hD, by simpa using e3', rfl⟩, ?_⟩
        rintro i m H2 ⟨rfl, hi, cm2, st3, xs, accI, rest, mk, e5, hl⟩
        by_cases hlt : i < p.1.length
        · have hd : p.1.drop i = p.1[i] :: p.1.drop (i + 1) := List.drop_eq_getElem_cons hlt
          rw [hd] at e5
          simp only [compL] at e5
          split at e5
          · rename_i hok
            cases q : t (wipeI ls vs) p.1[i] with
            | none => rw [q] at e5; cases e5
            | some ls3 =>
              rw [q] at e5
              obtain ⟨g1, g2⟩ := wk.go i cm2 H2 st3 p.1[i] mk.ext.tr mk.sto hok (by simp [hlt])
              refine .inr ⟨g1, fun H' => i + 1 ≤ p.1.length ∧ ∃ cm2 st3 xs accI rest, Making K mg cm1 H1 cm2 H' st3 D xs accI ∧ compL t c e p.1 p.2 (wipeI ls vs) (p.1.drop (i + 1)) st3 = some (.val rest, st2) ∧ accI ++ rest = l,
                fun H' h => ⟨p.1.length - (i + 1), by omega, rfl, h.1, h.2⟩, fun x H3 hy => ?_⟩
              obtain ⟨g3, g4⟩ := g2 x H3 hy
              have E3 : Ext cm2 H2 cm2 H3 := Ext.same g3
              have mk3 := mk.step hD E3 (mk.sto.same g3)
              refine ct x (wipe σ vs) H3 _ cm2 (wipeI ls vs) p.1[i] ls3 (R1.ext mk3.ext) g4 q fun σ4 R4 hl4 ha4 => ⟨?_, ?_⟩
              · rw [wipe_eq hl4 ha4, wipe_wipe]
              · rcases M.bind_inv e5 with ⟨b, st4, e6, e7⟩ | ⟨c', f, v, e6, q6⟩
                · obtain ⟨b', q7, e6'⟩ := M.nox_inv e6
                  cases q7
                  refine ⟨cm2, ls3, st3, _, st4, ⟨mk3.sto, R4⟩, e6', fun cm5 H5 x5 s5 => ?_⟩
                  have mk5 := mk3.step hD x5 s5
                  cases b with
                  | false => exact ⟨hlt, cm5, st4, xs, accI, rest, mk5, e7, hl⟩
                  | true =>
                    rcases M.bind_inv e7 with ⟨y, st6, e8, e9⟩ | ⟨c', f, v, e8, q8⟩
                    · obtain ⟨y', q9, e8'⟩ := M.nox_inv e8
                      cases q9
                      refine ⟨cm5, ls3, st4, _, st6, ⟨s5, R4.ext x5⟩, e8', fun cm6 H6 x6 s6 yv hy6 => ?_⟩
                      have mk6 := mk5.step hD x6 s6
                      rcases M.bind_inv e9 with ⟨ys, st7, e10, e11⟩ | ⟨c', f, v, e10, q10⟩
                      · cases e11
                        refine ⟨xs, mk6.at', ?_, hlt, cm6, st6, xs ++ [yv], accI ++ [y], ys, mk6.add hD hy6, e10, by rw [List.append_assoc]; exact hl⟩
                        have l1 := mk6.rep.length
                        have l2 := congrArg List.length hl
                        rw [List.length_append] at l2
                        omega
                      · cases q10
                    · cases q8
                · cases q6
          · cases e5
        · have hd : p.1.drop i = [] := List.drop_eq_nil_of_le (by omega)
          rw [hd] at e5
          simp only [compL] at e5
          split at e5
          · rename_i hok
            cases e5
            rw [List.append_nil] at hl
            subst hl
            exact .inl ⟨wk.stop i cm2 H2 st2 mk.ext.tr mk.sto hok (by omega), mk.done s1 hD e4 o1⟩
          · cases e5
      · cases e4
    · obtain ⟨_, q, _⟩ := M.nox_inv e3
      cases q
  · exact ⟨cm, ls, st, _, st', R, e1, o⟩
end
end MK
namespace MK
open PySem PySem.Spec PyProof.Rows L2
abbrev PTs' (X : Cx) (W : WX) (ifs : List Expr) (m : MT) : Prop := PTs X ifs (rdT X.K X.mg W m)
theorem PTs_imp {X : Cx} {ifs : List Expr} {t t' : TT} (h : PTs X ifs t) (i : ∀ σ H Q, t' σ H Q → t σ H Q) : PTs X ifs t' := ⟨fun pins s σ H Q I q => h.run pins s σ H Q I (i σ H Q q)⟩
section
variable {X : Cx} {W : WX} {tg iter elt e : Expr} {ifs : List Expr} {own : List (Str × Nat)} {scope : Scope} {pos spos : Pos} {src : MI} {t : MG} {g : TG} {c : MT} {m : ME} {tc : MT} {fa : ME}
theorem ts_nil : PTs' X W [] (mTB true) := PTs_imp pts_nil fun _ _ _ h => rd_tb h
theorem ts_one {a : Expr} (h : PT' X W a tc) : PTs' X W [a] tc := pts_one h
theorem e_lc (cell : Bool) (own : List (Str × Nat)) (ct : CT X.K X.mg (own.map (·.2)) t g) (hc : X.calm = true) (hN : X.N.Nodup) (hi : PI' X W tg iter src) (ok : BlkOk X.N X.env.scope scope own)
    (hg : ∀ (s : Shared) (H : Hp) (C : Addr) (cl : List (Str × Addr)) (fp : List Addr), PG (X.blk s H scope (compEnvC scope cl C X.env) fp) tg g)
    (ht : ∀ (s : Shared) (H : Hp) (C : Addr) (cl : List (Str × Addr)) (fp : List Addr), PTs' (X.blk s H scope (compEnvC scope cl C X.env) fp) W0 ifs c)
    (he : ∀ (s : Shared) (H : Hp) (C : Addr) (cl : List (Str × Addr)) (fp : List Addr), PE' (X.blk s H scope (compEnvC scope cl C X.env) fp) W0 elt m) (hs : ∀ x, foldedSetIterable iter X.env x = pure x := by intro _; rfl) :
    PE' X W (.ListComp elt [⟨tg, iter, ifs, 0⟩] scope pos) (mLc cell src (own.map (·.2)) t c m) :=
  PE_imp (pe_lc hc hN hi ok hg ht he hs) fun _ _ _ h => rd_lc ct h
theorem s_setLc (cell : Bool) (i : Nat) (own : List (Str × Nat)) {y : Str} {py : Pos} (ct : CT X.K X.mg (own.map (·.2)) t g) (hc : X.calm = true) (hN : X.N.Nodup) (hi : PI' X W tg iter src) (ok : BlkOk X.N X.env.scope scope own)
    (hg : ∀ (s : Shared) (H : Hp) (C : Addr) (cl : List (Str × Addr)) (fp : List Addr), PG (X.blk s H scope (compEnvC scope cl C X.env) fp) tg g)
    (ht : ∀ (s : Shared) (H : Hp) (C : Addr) (cl : List (Str × Addr)) (fp : List Addr), PTs' (X.blk s H scope (compEnvC scope cl C X.env) fp) W0 ifs c)
    (he : ∀ (s : Shared) (H : Hp) (C : Addr) (cl : List (Str × Addr)) (fp : List Addr), PE' (X.blk s H scope (compEnvC scope cl C X.env) fp) W0 elt m)
    (hy : X.N[i]? = some y := by rfl) (hyl : X.env.scope.names.lookup y = some .local := by rfl)
    (hsw : swapsWith (.ListComp elt [⟨tg, iter, ifs, 0⟩] scope pos) (some (.Name y py)) spos.line X.env = pure true := by exact sw_true rfl rfl rfl (by decide +kernel)) (hs : ∀ x, foldedSetIterable iter X.env x = pure x := by intro _; rfl) :
    PS' X W (.Assign [.Name y py] (.ListComp elt [⟨tg, iter, ifs, 0⟩] scope pos) spos) (mSet i (mLc cell src (own.map (·.2)) t c m)) :=
  PS_imp (ps_setLc hc hN hy hyl hsw hi ok hg ht he hs) fun D σ H h => rd_lc ct (rdE_mono (rd_liftE h) fun x H1 h1 => by
    obtain ⟨cm, ls, st, v, fl, st2, R, hx, e, o⟩ := h1
    cases e
    exact o cm H1 (Ext.refl _ _) R.sto _ (R.loc.set i hx))
end
section
variable {X : Cx} {CX : CXT} {k : Nat} {f C : Addr} {fd : FuncData} {ps : List Str} {sp : Sp} {E : L2.St → XK} {x : Str} {p pos : Pos} {e : Expr} {es : List Expr} {ta : TA}
def tMakeS (C : Addr) (sp : Sp) (E : L2.St → XK) (t : TA) : TE := fun σ H Q => t σ H fun vs H1 => ∀ x dx, H1 x = none → H1 dx = none → dx ≠ x →
  sp (.ref x :: vs) (upd (upd H1 dx (.own x)) x (.ins C dx [])) (fun v H2 => v = .non ∧ Q (.ref x) H2) (E σ)
theorem run_makeS {pins : List (Addr × Obj)} {σ : L2.St} {H : Hp} {s : Shared} {Q : VK} {us : List Value} {vs : List V} {E : XK} (M : Mk X.K C f) (F : FnOk X.prog X.w X.K X.mg X.base CX k f fd ps sp) (hr : Room (k + 1) X.A) (hb : Binds X.K fd ps [])
    (hx : PassesAt CX X σ E) (I : Inv X pins σ H s) (r : Vals vs us)
    (h : ∀ x dx, H x = none → H dx = none → dx ≠ x → sp (.ref x :: vs) (upd (upd H dx (.own x)) x (.ins C dx [])) (fun v H2 => v = .non ∧ Q (.ref x) H2) E) :
    wpAny (model X.prog X.w) X.A (call (.ref C) us) (EP X pins σ Q) X.xe s := by
  have hq := h (s.heap.objs.size + 1) s.heap.objs.size (I.hok.fresh (Nat.le_succ _)) (I.hok.fresh (Nat.le_refl _)) (Nat.ne_of_lt (Nat.lt_succ_self _))
  have I2 := Inv.made (C := C) I
  have r2 : Vals (V.ref (s.heap.objs.size + 1) :: vs) (Value.ref (s.heap.objs.size + 1) :: us) := .cons rfl r
  have hl : (Value.ref (s.heap.objs.size + 1) :: us).length = ps.length := by
    have e := r2.length
    rw [F.len _ _ _ _ hq] at e
    exact e.symm
  have b := hb _ (Value.ref (s.heap.objs.size + 1) :: us) I2.kIn (by rw [List.append_nil]; exact hl)
  rw [List.append_nil] at b
  refine wpAny_call (make_map (f := f) I.kIn M.makes M.init (beq_iff_eq.mp M.fn) (codeAny_mono (F.run _ X.stack _ _ ⟨Value.ref (s.heap.objs.size + 1) :: us, []⟩ (Value.ref (s.heap.objs.size + 1) :: us) _ _ E (hr.make C us [])
    (I2.env0.make C us []) b r2 hq) fun r s' hq' => ?_))
  cases r with
  | error e => exact hx pins _ _ e s' I2 hq'
  | ok fl =>
    cases fl with
    | ret u =>
      obtain ⟨v, H', I3, rv, ev, q3⟩ := I2.after hq'
      subst ev
      exact ⟨rv, ⟨V.ref (s.heap.objs.size + 1), H', I3, rfl, q3⟩⟩
    | next => exact False.elim hq'
    | brk => exact False.elim hq'
    | cont => exact False.elim hq'
theorem pe_makeS (M : Mk X.K C f) (F : FnOk X.prog X.w X.K X.mg X.base CX k f fd ps sp) (hr : Room (k + 1) X.A) (hg : Gl X x) (hm : X.mg x = some (.ref C)) (hb : Binds X.K fd ps []) (hx : ∀ σ, PassesAt CX X σ (E σ))
    (ha : PA X (e :: es) ta) (hdb : (x == ("__debug__" : Str)) = false := by decide) (he : starEach (e :: es) X.env = (false, eval e X.env) :: starEach es X.env := by rfl) (hpl : (backTo pos (starEach es X.env)).any (·.1) = false := by rfl) :
    PE X (.Call (.Name x p) (e :: es) [] pos) (tMakeS C sp E ta) := by
  refine ⟨fun pins s σ H Q I h => ?_⟩
  refine wpAny_Call_Name_kw (ld_glob I hg hm ?_ hdb)
  refine PySem.W.callWith_K (h₀ := X.base) I.ok.mod.kin M.kp (thn (ha.run pos pins s σ H _ I h) fun us s1 ⟨vs, H1, I1, r, q⟩ => ⟨I1.kIn, ?_⟩) he hpl
  exact run_makeS M F hr hb (hx σ) I1 r q
end
structure ClsOk (P : Program) (w : World) (K : PySem.W.Frag) (mg : Str → Option Value) (base : Heap) (k : Nat) (c : Str) (ps : List Str) (g : MF) : Prop where
  ex : ∃ C f fd, mg c = some (.ref C) ∧ Mk K C f ∧ Binds K fd ps [] ∧ FnOk P w K mg base (L2.CX P w) k f fd ps (spM K mg ps.length g)
theorem ClsOk.mono {P : Program} {w : World} {K : PySem.W.Frag} {mg : Str → Option Value} {base : Heap} {j k : Nat} {x : Str} {ps : List Str} {g : MF} (h : ClsOk P w K mg base j x ps g) (hk : j ≤ k) : ClsOk P w K mg base k x ps g := by
  obtain ⟨C, f, fd, h1, h2, h3, h4⟩ := h.ex
  exact ⟨⟨C, f, fd, h1, h2, h3, h4.mono hk⟩⟩
theorem ClsOk.imp {P : Program} {w : World} {K : PySem.W.Frag} {mg : Str → Option Value} {base : Heap} {k : Nat} {x : Str} {ps : List Str} {g g' : MF} (h : ClsOk P w K mg base k x ps g) (i : ∀ l st r, g' l st = some r → g l st = some r) : ClsOk P w K mg base k x ps g' := by
  obtain ⟨C, f, fd, h1, h2, h3, h4⟩ := h.ex
  exact ⟨⟨C, f, fd, h1, h2, h3, h4.imp (spM_imp i)⟩⟩
def makeM (cell : Bool) (c : Str) (n : Nat) (g : MF) (l : List IV) : M IV := fun st => if l.length + 1 = n then (match g (.cell st.length :: l) (st ++ [.ins c []]) with
  | some (.val .non, st') => if st'.length = st.length + 1 then (match cell with
    | true => some (.val (.cell st.length), st')
    | false => (match st'[st.length]? with
      | some (.ins c' fs) => some (.val (.obj c' fs), st'.take st.length)
      | _ => none)) else none
  | some (.exc c' f v, st') => if v.pure = true then some (.exc c' f v, st'.take st.length) else none
  | _ => none) else none
def mMake (cell : Bool) (c : Str) (n : Nat) (g : MF) (a : MA) : ME := fun ls => M.bind (a ls) (makeM cell c n g)
section
variable {X : Cx} {W : WX} {e : Expr} {es : List Expr} {ga : MA} {k : Nat} {c : Str} {ps : List Str} {g : MF} {p pos : Pos}
theorem e_make (cell : Bool) (F : ClsOk X.prog X.w X.K X.mg X.base k c ps g) (hr : Room (k + 1) X.A) (hg : Gl X c) (tk : Takes X W) (ha : PA' X W (e :: es) ga) (hdb : (c == ("__debug__" : Str)) = false := by decide)
    (he : starEach (e :: es) X.env = (false, eval e X.env) :: starEach es X.env := by rfl) (hpl : (backTo pos (starEach es X.env)).any (·.1) = false := by rfl) : PE' X W (.Call (.Name c p) (e :: es) [] pos) (mMake cell c ps.length g ga) := by
  obtain ⟨C, f, fd, h1, h2, h3, h4⟩ := F.ex
  refine PE_imp (pe_makeS h2 h4 hr hg h1 h3 (fun σ => passAt tk σ) ha hdb he hpl) fun σ H Q h => rdA_mono (rdA1 h) fun xs H1 hh => ?_
  obtain ⟨cm, st, l, r, st', s, hx, e, o⟩ := hh
  intro x dx nx ndx ne
  have nxd : (upd H1 dx (.own x)) x = none := by rw [upd_ne (Ne.symm ne)]; exact nx
  have E1 : Ext cm H1 cm (upd H1 dx (.own x)) := Ext.new' ndx
  have s1 := s.new (o := .own x) ndx
  have E2 : Ext cm (upd H1 dx (.own x)) (cm.push x) (upd (upd H1 dx (.own x)) x (.ins C dx [])) := Ext.push nxd
  have s2 : RelS X.K X.mg (cm.push x) (st ++ [.ins c []]) (upd (upd H1 dx (.own x)) x (.ins C dx [])) := s1.push nxd E2 (fun a m => upd_ne fun z => s1.notCell nxd (z ▸ m)) ⟨_, upd_same⟩ ⟨C, dx, [], h1, upd_same, .nil, rfl⟩
  have E12 := E1.trans E2
  unfold makeM at e
  split at e
  · rename_i hl
    have hcell : (cm.push x).cm[st.length]? = some x := by
      show (cm.cm ++ [x])[st.length]? = some x
      rw [← s.len, List.getElem?_append_right (Nat.le_refl _)]; simp
    cases q : g (.cell st.length :: l) (st ++ [.ins c []]) with
    | none => rw [q] at e; cases e
    | some pr =>
      obtain ⟨r1, st1⟩ := pr
      rw [q] at e
      refine ⟨by rw [List.length_cons, hx.length]; exact hl, cm.push x, _, _, r1, st1, s2, .cons (.cell hcell) (hx.ext E12), q, ?_⟩
      cases r1 with
      | exc c' f' v =>
        intro cm3 H3 x3 s3 C' d y hm hxf hd hav hy
        simp only at e
        split at e
        · cases e
          have E3 := E12.trans x3
          obtain ⟨s4, E4⟩ := relS_cut s E3 s3
          exact o _ H3 E4 s4 C' d y hm hxf hd ((cut_of E3).sub d _ hd hav) (hy.cut (cut_of E3) (by assumption))
        · cases e
      | val v =>
        intro cm3 H3 x3 s3 y hy
        cases v with
        | non =>
          cases hy
          refine ⟨rfl, ?_⟩
          have E3 := E12.trans x3
          simp only at e
          split at e
          · cases cell with
            | true =>
              cases e
              exact o cm3 H3 E3 s3 _ (.cell (x3.at hcell))
            | false =>
              simp only at e
              split at e
              · rename_i c' fs q2
                cases e
                obtain ⟨s4, E4⟩ := relS_cut s E3 s3
                have hc3 := x3.at hcell
                obtain ⟨C', dx', fs', q0, q1, q3, q4⟩ := s3.at' _ _ _ hc3 q2
                exact o _ H3 E4 s4 _ (.obj q0 q1 (new_cell_back s E3 s3 hc3 (by omega)) (q3.cut (cut_of E3) q4))
              · cases e
          · cases e
        | _ => cases e
  · cases e
end
def putFM (c f : Str) (o v : IV) : M Unit := fun st => match o with
  | .cell n => (match st[n]? with
    | some (.ins c' fs) => if c' = c ∧ v.pure = true ∧ fs.length < 1000 then some (.val (), st.set n (.ins c (putI f v fs))) else none
    | _ => none)
  | _ => none
def mPutF (c f : Str) (o m : ME) : MS := liftS (fun ls => M.bind (m ls) fun v => M.bind (o ls) fun a => putFM c f a v) fun _ ls => M.ret (.nx ls)
theorem pureF_put : ∀ {fs : List (Str × IV)} {f : Str} {v : IV}, pureF fs = true → v.pure = true → pureF (putI f v fs) = true
  | [], f, v, _, h => by simp [putI, pureF, h]
  | (g, w) :: r, f, v, h, h' => by
    simp only [pureF, Bool.and_eq_true] at h
    unfold putI
    split
    · simp only [pureF, Bool.and_eq_true]; exact ⟨h', h.2⟩
    · simp only [pureF, Bool.and_eq_true]; exact ⟨h.1, pureF_put h.2 h'⟩
theorem RepF.put {K : PySem.W.Frag} {mg : Str → Option Value} {cm : Wd} {H : Hp} {x : V} {v : IV} {f : Str} (hx : Rep K mg cm H x v) : ∀ {xs : List (Str × V)} {fs : List (Str × IV)}, RepF K mg cm H xs fs → RepF K mg cm H (putF f x xs) (putI f v fs)
  | _, _, .nil => .cons hx .nil
  | _, _, .cons (f := g) h r => by
    unfold putF putI
    split
    · exact .cons hx r
    · exact .cons h (RepF.put hx r)
section
variable {X : Cx} {W : WX} {e ob : Expr} {fo fa : ME} {c f : Str} {p pos : Pos}
theorem s_fld (c : Str) (ho : PE' X W ob fo) (he : PE' X W e fa) (hf : FldOk X.K X.mg c f) (hs : swapsWith e (some (.Attribute ob f p)) pos.line X.env = pure false := by rfl) : PS' X W (.Assign [.Attribute ob f p] e pos) (mPutF c f fo fa) := by
  refine PS_imp (ps_fld ho he hs) fun D σ H h => ?_
  obtain ⟨cm, ls, st, r, st', R, e, o⟩ := rd_lift h
  rcases M.bind_inv e with ⟨v, st1, e1, e2⟩ | ⟨c, f, v, e1, rfl⟩
  · refine ⟨cm, ls, st, _, st1, R, e1, fun cm1 H1 x1 s1 y hy => ?_⟩
    rcases M.bind_inv e2 with ⟨a, st2, e3, e4⟩ | ⟨c, f, v, e3, rfl⟩
    · refine ⟨cm1, ls, st1, _, st2, R.ext x1 s1, e3, fun cm2 H2 x2 s2 z hz => ?_⟩
      unfold putFM at e4
      split at e4
      · rename_i n
        split at e4
        · rename_i c' fs q
          split at e4
          · rename_i hc
            obtain ⟨rfl, hp, hlen⟩ := hc
            cases e4
            cases hz with
            | @cell p _ hn =>
              obtain ⟨C, dx, fs', hm, g1, g2, g3⟩ := s2.at' n p _ hn q
              have hy2 := hy.ext x2
              have E : Ext cm2 H2 cm2 (upd H2 p (.ins C dx (putF f y fs'))) := Ext.set (List.mem_of_getElem? hn)
              have s3 := s2.set hn (o := .ins C dx (putF f y fs')) (c := .ins c' (putI f v fs)) ⟨C, dx, _, hm, upd_same, (RepF.put hy2 g2).ext E, pureF_put g3 hp⟩
              obtain ⟨fl, st5, e7, o7⟩ := o cm2 _ ((x1.trans x2).trans E) s3
              cases e7
              exact ⟨p, C, dx, fs', rfl, g1, (hf C hm).1, (hf C hm).2, by rw [g2.length]; exact hlen, o7 cm2 _ (Ext.refl _ _) s3 σ ((R.ext x1 s1).ext (x2.trans E) s3).loc⟩
          · cases e4
        · cases e4
      · cases e4
    · exact ⟨cm1, ls, st1, _, st', R.ext x1 s1, e3, fun cm2 H2 x2 s2 => o cm2 H2 (x1.trans x2) s2⟩
  · exact ⟨cm, ls, st, _, st', R, e1, o⟩
end
def mRaise (c f : Str) (m : ME) : MS := liftS m fun v ls => M.ret (.ex ls c f v)
def spX (K : PySem.W.Frag) (f : Str) : Sp := fun vs H Q _ => ∃ (a C : Addr) (y : V), vs = [.ref a, y] ∧ OexC K C ∧ PySem.W.findIn K (.ref C) f = some none ∧ H a = some (exo a C none) ∧ ∀ dx, H dx = none → dx ≠ a → Q .non (upd (upd H dx (exd dx [(f, y)])) a (exo a C (some dx)))
structure ExcOk (P : Program) (w : World) (K : PySem.W.Frag) (mg : Str → Option Value) (base : Heap) (c f : Str) : Prop where
  ex : ∃ C fI fd ps, mg c = some (.ref C) ∧ OexC K C ∧ PySem.W.findIn K (.ref C) f = some none ∧ PySem.W.findIn K (.ref C) "__init__" = some (some (.ref fI)) ∧ PySem.W.typeIn K (.ref fI) = some (.type "function") ∧ XF K C f ∧ Binds K fd ps [] ∧ FnOk P w K mg base (L2.CX P w) 1 fI fd ps (spX K f)
section
variable {X : Cx} {W : WX} {e : Expr} {fa : ME} {c f : Str} {p p2 pos : Pos}
theorem s_raise (F : ExcOk X.prog X.w X.K X.mg X.base c f) (hc : X.calm = true) (hr : Room 2 X.A) (hg : Gl X c) (tk : Takes X W) (ha : PE' X W e fa) (hdb : (c == ("__debug__" : Str)) = false := by decide)
    (hs : starEach [e] X.env = (false, eval e X.env) :: starEach [] X.env := by rfl) (hpl : (backTo pos (starEach [] X.env)).any (·.1) = false := by rfl) : PS' X W (.Raise (some (.Call (.Name c p) [e] [] pos)) none p2) (mRaise c f fa) := by
  obtain ⟨C, fI, fd, ps, h1, h2, h3, h4, h5, h8, h6, h7⟩ := F.ex
  refine PS_imp (ps_raise hc tk (pmk_oex h2 h4 h5 h7 hr h6 .nil passL hg h1 (pa_cons ha pa_nil hs) hdb hs hpl)) fun D σ H h => rdE_mono (rd_liftE h) fun x H1 hh => ?_
  obtain ⟨cm, ls, st, v, fl, st2, R, hx, e, o⟩ := hh
  cases e
  refine ⟨by show 1 ≤ 1000; decide, fun a ha => ?_⟩
  refine ⟨a, C, x, rfl, h2, h3, upd_same, fun dx hdx hne => ⟨rfl, dx, [(f, x)], upd_same, ?_, ?_, ?_⟩⟩
  · rw [upd_ne hne, upd_same]
  · rw [upd_ne hne] at hdx; exact hdx
  · rw [upd_ne hne] at hdx
    have eH : upd (del (upd (upd (upd H1 a (exo a C none)) dx (exd dx [(f, x)])) a (exo a C (some dx))) a) dx (.xd [(f, x)]) = upd H1 dx (.xd [(f, x)]) := by
      funext b
      by_cases hb : b = dx
      · subst hb; rw [upd_same, upd_same]
      · rw [upd_ne hb, upd_ne hb]
        by_cases hba : b = a
        · subst hba; rw [del_same]; exact ha.symm
        · rw [del_ne hba, upd_ne hba, upd_ne hb, upd_ne hba]
    rw [eH]
    exact o cm _ (Ext.new' hdx) (R.sto.new hdx) σ (R.loc.ext (Ext.new' hdx)) C dx x h1 h8 upd_same (R.sto.notAv hdx) (hx.ext (Ext.new' hdx))
end
end MK
section
set_option maxHeartbeats 2000000
namespace MK
open PySem PySem.Spec PyProof.Rows L2
def endsA (D : Ends) (i : Nat) : Ends := { nx := fun σ' H' => D.nx (σ'.set i none) H', rt := D.rt, bk := fun σ' H' => D.bk (σ'.set i none) H', ct := fun σ' H' => D.ct (σ'.set i none) H' }
abbrev ClA := Value × Nat × (Addr → Value → Option Addr → TS)
def wManyA (K : PySem.W.Frag) (Wout : WX) (D : Ends) : List ClA → WX
  | [] => Wout
  | (c, i, ts) :: r => fun cls d σ H => ∃ b, PySem.W.exmOne K cls c = some b ∧ (b = true → ∀ a, H a = none → ts a cls d (endsA D i) (σ.set i (some (.ref a))) H) ∧ (b = false → wManyA K Wout D r cls d σ H)
inductive HdsA (X : Cx) : List ExceptHandler → List ClA → Prop
  | nil : HdsA X [] []
  | cons {x n : Str} {c : Value} {i : Nat} {ts : Addr → Value → Option Addr → TS} {b₀ : Stmt} {suite : List Stmt} {np pos' : Pos} {hds : List ExceptHandler} {l : List ClA} (hi : X.N[i]? = some n) (hln : X.env.kindOf n = some .local) (hc : Names X x c)
      (hsu : ∀ (a : Addr) (oe : Obj) (cls : Value) (d : Option Addr) (pn : List (Addr × Obj)), Zc cls d oe → (∃ vs, oe.data = .fields vs) → PSs (X.suite a ((a, oe) :: pn)) (b₀ :: suite) (ts a cls d)) (r : HdsA X hds l) :
      HdsA X (.ExceptHandler (some (.Name x np)) (some n) (b₀ :: suite) pos' :: hds) ((c, i, ts) :: l)
section
variable {X : Cx} {body : List Stmt} {h₀ : ExceptHandler} {hds : List ExceptHandler} {l : List ClA} {pos : Pos} {tb : WX → TS} {Wout : WX}
theorem ps_try_manyA (hs : X.stack = X.env :: X.outer) (hf : X.env.frame = some X.env.locals) (hN : X.N.Nodup) (tk : Takes X Wout)
    (hb : ∀ (W : WX) (pn : List (Addr × Obj)) (xe : Value → Shared → Prop), Takes (X.tr pn xe) W → PassesOwn (model X.prog X.w) X.A X.env xe → PSs (X.tr pn xe) body (tb W))
    (hh : HdsA X (h₀ :: hds) l) : PS X (.Try body (h₀ :: hds) [] [] pos) (fun D σ H => tb (wManyA X.K Wout D l) D σ H) := by
  refine ⟨fun pins s σ H D I h => ?_⟩
  have ok := I.ok
  have hfr : X.A.frames = some (X.env :: X.outer) := by rw [ok.frames, hs]
  refine wpAny_Try_except ?_
  refine wpAny_mono ((hb (wManyA X.K Wout D l) (X.pn ++ pins) (fun e s₁ => wpAny (model X.prog X.w) X.A (noteFrame e X.env) (fun _ s₂ => wpAny (model X.prog X.w) X.A (setFlight e none) (fun _ s₃ =>
    wpAny (model X.prog X.w) X.A (handleBy e X.env (h₀ :: hds)) (SP X pins D) X.xe s₃) X.xe s₂) X.xe s₁) (fun u s' xx => ?_) PassesOwn.looking).run [] s σ H D (I.toTry _) h) (fun f s1 hsp => ?_) (fun e s1 he => he)
  · -- the catch
    obtain ⟨a, B, sI, pins', σ', H', cls, d, rfl, J', nb, up, sky, na, os, ag, w⟩ := xx
    have J : Inv X pins σ' H' sI := J'.ofTry ok
    have sky' : Sky B (X.env :: X.outer) a (Zc cls d) X.env.locals s'.heap := by rw [← hs]; exact sky
    show wpAny (model X.prog X.w) X.A (noteFrame (.ref a) X.env) _ _ _
    refine Sky.land Zc.steady hfr hf sky' fun h3 fl3 up3 => ?_
    have J3 : Inv X pins σ' H' { s' with heap := h3 } := J.landed nb fl3.1 (up.trans up3) os ag
    obtain ⟨oe3, vs3, he3, hz3, hd3⟩ := fl3.there
    have notFr : ∀ {h : Heap} {o : Obj} {vs : Array Value}, h.FunFrames B (X.env :: X.outer) → h.get? a = some o → o.data = .fields vs → a ∉ frs (X.env :: X.outer) := fun {h o vs} ff e dd hm => by
      obtain ⟨_, o', e', hnf⟩ := ff.mem hm
      rw [e] at e'; cases e'
      exact hnf _ dd
    have nfr := notFr fl3.2.2.1 he3 hd3
    have nL : a ≠ X.env.locals := fun z => nfr (List.mem_filterMap.mpr ⟨X.env, List.mem_cons_self, by rw [hf, z]⟩)
    have nF : a ∉ X.fs := fun hm => by
      obtain ⟨e, he, q⟩ := List.mem_filterMap.mp hm
      exact nfr (List.mem_filterMap.mpr ⟨e, List.mem_cons_of_mem _ he, q⟩)
    have S3 := J3.suite he3 hd3 na nL nF
    have go : ∀ {hds' : List ExceptHandler} {l' : List ClA}, HdsA X hds' l' → wManyA X.K Wout D l' cls d σ' H' →
        wpAny (model X.prog X.w) X.A (handleBy (.ref a) X.env hds') (SP X pins D) X.xe { s' with heap := h3 } := by
      intro hds' l' hk
      induction hk with
      | nil =>
        intro w
        refine wpAny_handleBy_nil ?_
        obtain ⟨k1, k2, k3, oe, vs, T, oT, ts', he, hz, hd, h1, hr⟩ := id fl3
        unfold PySem.passOn
        refine wpAny_bind (wpAny_field he hd h1 ?_)
        rw [if_neg (show ¬ ((Value.ref T == Value.none) = true) from by simp)]
        have fin : wpAny (model X.prog X.w) X.A (setFlight (.ref a) X.env.frame) (fun _ s4 => wpAny (model X.prog X.w) X.A (throw (.ref a) : Sem Flow) (SP X pins D) X.xe s4) X.xe { s' with heap := h3 } := by
          rw [hf]
          refine HandSPX.setFlight_upZ fl3 fun h4 hh4 up4 => wpAny_throw (tk _ _ ?_)
          exact ⟨a, B, sI, pins, σ', H', cls, d, rfl, J, nb, (up.trans up3).trans up4, .inr (.inr (by rw [hs]; exact hh4)), na, os, ag, w⟩
        first
          | exact wpAny_bind (wpAny_pure (wpAny_bind fin))
          | exact wpAny_bind fin
      | @cons x n c i ts b₀ suite np pos' hds2 l2 hi hln hc hsu r ih =>
        intro w
        have hloc : L2.Loc X.env.scope n := .inl hln
        obtain ⟨b, hb1, hyes, hno⟩ := w
        refine wpAny_handleBy_cons (codeAny_handlers_test ?_) (by intro q; cases q)
        have LT : PySem.W.Looks (model X.prog X.w) h3 (typeOf (.ref a)) cls := fun A Q E s k q => wpAny_typeOf_ref (k _ _ he3) (by rw [hz3.1]; exact q)
        have LM := PySem.W.exm_one (M := model X.prog X.w) (J3.kIn) LT hb1
        have test : ∀ {Q : Value → Shared → Prop} {E : Value → Shared → Prop}, Q c { s' with heap := h3 } → wpAny (model X.prog X.w) (X.A.mark (some (.ref a))) (eval (.Name x np) X.env) Q E { s' with heap := h3 } := fun {Q E} q => by
          obtain ⟨hg, hdbg, hm | ⟨hm, hv, hnn⟩⟩ := hc
          · exact ld_glob (X := X.suite a ((a, oe3) :: (X.pn ++ pins))) S3 hg hm q hdbg
          · exact ld_blt (X := X.suite a ((a, oe3) :: (X.pn ++ pins))) S3 hg hm hv q hnn hdbg
        refine test (LM.here ?_)
        cases b with
        | true =>
          refine codeAny_handlers_suite_as ?_
          refine HandSPX.lands_againZ fl3 fun h4 fl4 up4 => ?_
          have J4 : Inv X pins σ' H' { s' with heap := h4 } := J.landed nb fl4.1 ((up.trans up3).trans up4) os ag
          obtain ⟨oe4, vs4, he4, hz4, hd4⟩ := fl4.there
          have S4 := J4.suite he4 hd4 na nL nF
          refine store_ok (X := X.suite a ((a, oe4) :: (X.pn ++ pins))) (v := .ref a) S4 hN hi hloc rfl (fun s5 S5 => ?_) (.inr hln)
          refine wpAny_mono ((hsu a oe4 cls d (X.pn ++ pins) hz4 ⟨_, hd4⟩).run [] s5 _ H' _ S5 (hyes rfl a na)) (fun f s6 hsp => ?_) (fun _ _ z => False.elim z)
          have end_ : ∀ {σ6 : L2.St} {H6 : Hp} {Q : Shared → Prop}, Inv (X.suite a ((a, oe4) :: (X.pn ++ pins))) [] σ6 H6 s6 → (∀ s7, Inv X pins (σ6.set i none) H6 s7 → Q s7) →
              wpAny (model X.prog X.w) X.A (do bindName X.env n .none; unbindBehindTheSuite X.env n pos') (fun _ s7 => Q s7) X.xe s6 := fun {σ6 H6 Q} S6 hq => gone_ok (S6.unsuite ok) hN hi hln hq
          cases f with
          | next =>
            obtain ⟨σ6, H6, S6, q6⟩ := hsp
            exact end_ S6 fun s7 J7 => ⟨_, _, J7, q6⟩
          | brk =>
            obtain ⟨σ6, H6, S6, q6⟩ := hsp
            exact end_ S6 fun s7 J7 => ⟨_, _, J7, q6⟩
          | cont =>
            obtain ⟨σ6, H6, S6, q6⟩ := hsp
            exact end_ S6 fun s7 J7 => ⟨_, _, J7, q6⟩
          | ret u =>
            obtain ⟨v6, σ6, H6, S6, r6, q6⟩ := hsp
            exact end_ S6 fun s7 J7 => ⟨_, _, _, J7, r6, q6⟩
        | false =>
          show wpAny _ X.A (handleBy (.ref a) X.env hds2) _ _ _
          exact ih (hno rfl)
    exact go hh w
  · cases f with
    | next =>
      obtain ⟨σ', H', J', q⟩ := hsp
      exact wpAny_execs_nil ⟨σ', H', J'.ofTry ok, q⟩
    | brk =>
      obtain ⟨σ', H', J', q⟩ := hsp
      exact ⟨σ', H', J'.ofTry ok, q⟩
    | cont =>
      obtain ⟨σ', H', J', q⟩ := hsp
      exact ⟨σ', H', J'.ofTry ok, q⟩
    | ret u =>
      obtain ⟨v, σ', H', J', r, q⟩ := hsp
      exact ⟨v, σ', H', J'.ofTry ok, r, q⟩
end
end MK
end
namespace MK
open PySem PySem.Spec PyProof.Rows L2
abbrev Su := Addr → Value → Option Addr → MS
open Classical in
noncomputable def runCl (i : Nat) (fsu : Su) (ls : Loc) (c f : Str) (v : IV) : M Fl := fun st =>
  if h : ∃ r, ∀ (a : Addr) (C d : Addr), fsu a (.ref C) (some d) (ls.set i (some (.exn a (.ref C) d f v c))) st = some r then some h.choose else none
theorem runCl_eq {i : Nat} {fsu : Su} {ls : Loc} {c f : Str} {v : IV} {st : Sto} {r : OX Fl × Sto} (h : ∀ (a : Addr) (C d : Addr), fsu a (.ref C) (some d) (ls.set i (some (.exn a (.ref C) d f v c))) st = some r) : runCl i fsu ls c f v st = some r := by
  unfold runCl
  have hx : ∃ r, ∀ (a : Addr) (C d : Addr), fsu a (.ref C) (some d) (ls.set i (some (.exn a (.ref C) d f v c))) st = some r := ⟨r, h⟩
  rw [dif_pos hx]
  have q := hx.choose_spec 0 0 0
  rw [h 0 0 0] at q
  exact q.symm
theorem runCl_inv {i : Nat} {fsu : Su} {ls : Loc} {c f : Str} {v : IV} {st : Sto} {r : OX Fl × Sto} (e : runCl i fsu ls c f v st = some r) : ∀ (a : Addr) (C d : Addr), fsu a (.ref C) (some d) (ls.set i (some (.exn a (.ref C) d f v c))) st = some r := by
  unfold runCl at e
  split at e
  · rename_i h
    cases e
    exact h.choose_spec
  · cases e
abbrev Cl := Str × Nat × Su
noncomputable def tryCl (sub : Str → Str → Option Bool) : List Cl → Loc → Str → Str → IV → M Fl
  | [], ls, c, f, v => M.ret (.ex ls c f v)
  | (x, i, fsu) :: r, ls, c, f, v => match sub c x with
    | some true => M.bind (runCl i fsu ls c f v) fun fl => match fl with
      | .nx ls' => M.ret (.nx (ls'.set i none))
      | .bk ls' => M.ret (.bk (ls'.set i none))
      | .ct ls' => M.ret (.ct (ls'.set i none))
      | .rt w => M.ret (.rt w)
      | .ex .. => M.stuck
    | some false => tryCl sub r ls c f v
    | none => M.stuck
noncomputable def mTry (sub : Str → Str → Option Bool) (body : MS) (cl : List Cl) : MS := fun ls => M.bind (body ls) fun fl => match fl with
  | .ex ls' c f v => tryCl sub cl ls' c f v
  | fl => M.ret fl
def SubOk (K : PySem.W.Frag) (mg : Str → Option Value) (sub : Str → Str → Option Bool) : Prop := ∀ c x b C Cx, sub c x = some b → mg c = some (.ref C) → mg x = some (.ref Cx) → PySem.W.exmOne K (.ref C) (.ref Cx) = some b
inductive HdsM (X : Cx) : List ExceptHandler → List Cl → Prop
  | nil : HdsM X [] []
  | cons {x n : Str} {i : Nat} {fsu : Su} {b₀ : Stmt} {suite : List Stmt} {np pos' : Pos} {hds : List ExceptHandler} {l : List Cl} (hi : X.N[i]? = some n) (hln : X.env.kindOf n = some .local) (hg : Gl X x) (hd : (x == ("__debug__" : Str)) = false) (hm : ∃ C, X.mg x = some (.ref C))
      (hsu : ∀ (a : Addr) (oe : Obj) (cls : Value) (d : Option Addr) (pn : List (Addr × Obj)), Zc cls d oe → (∃ vs, oe.data = .fields vs) → PSs' (X.suite a ((a, oe) :: pn)) W0 (b₀ :: suite) (fsu a cls d)) (r : HdsM X hds l) :
      HdsM X (.ExceptHandler (some (.Name x np)) (some n) (b₀ :: suite) pos' :: hds) ((x, i, fsu) :: l)
theorem RelC.unset {K : PySem.W.Frag} {mg : Str → Option Value} {cm : Wd} {ls : Loc} {σ : L2.St} {H : Hp} (h : RelC K mg cm ls σ H) (i : Nat) : RelC K mg cm (ls.set i none) (σ.set i none) H := ⟨by simp [h.len], fun j w e => by
  by_cases hi : i = j
  · subst hi
    by_cases hl : i < ls.length
    · rw [List.getElem?_set_self hl] at e; cases e
    · rw [List.getElem?_eq_none (by simpa using hl)] at e; cases e
  · rw [List.getElem?_set_ne hi] at e ⊢
    exact h.at' j w e⟩
section
variable {X : Cx} {W : WX} {body : List Stmt} {h₀ : ExceptHandler} {hds : List ExceptHandler} {cl : List Cl} {pos : Pos} {fb : MS} {sub : Str → Str → Option Bool}
def clA (K : PySem.W.Frag) (mg : Str → Option Value) (c : Value) (q : Cl) : ClA := (c, q.2.1, fun a cls d => rdS K mg W0 (q.2.2 a cls d))
theorem hds_of : ∀ {hds : List ExceptHandler} {cl : List Cl}, HdsM X hds cl → ∃ l : List ClA, HdsA X hds l ∧ Paired (fun q p => ∃ C, X.mg q.1 = some (.ref C) ∧ p = clA X.K X.mg (.ref C) q) cl l
  | _, _, .nil => ⟨[], .nil, .nil⟩
  | _, _, .cons hi hln hg hd ⟨C, hm⟩ hsu r => by
    obtain ⟨l, h1, h2⟩ := hds_of r
    exact ⟨_, .cons (c := .ref C) hi hln ⟨hg, hd, .inl hm⟩ hsu h1, .cons ⟨C, hm, rfl⟩ h2⟩
theorem try_w {K : PySem.W.Frag} {mg : Str → Option Value} (hsub : SubOk K mg sub) {D : Ends} {cm : Wd} {H : Hp} {σ : L2.St} {ls : Loc} {st st' : Sto} {c f : Str} {v : IV} {fl : Fl} {C d : Addr} {y : V} (s : RelS K mg cm st H) (R : RelC K mg cm ls σ H)
    (hm : mg c = some (.ref C)) (hxf : XF K C f) (hd : H d = some (.xd [(f, y)])) (hav : d ∉ cm.av) (hy : Rep K mg cm H y v) :
    ∀ {cl : List Cl} {l : List ClA}, Paired (fun q p => ∃ C, mg q.1 = some (.ref C) ∧ p = clA K mg (.ref C) q) cl l → tryCl sub cl ls c f v st = some (.val fl, st') → OutS K mg W D cm H fl st' → wManyA K W D l (.ref C) (some d) σ H
  | _, _, .nil, e, o => by
    cases e
    exact o cm H (Ext.refl _ _) s σ R C d y hm hxf hd hav hy
  | (x, i, fsu) :: cl, _, .cons ⟨Cx, hx, hp⟩ r, e, o => by
    subst hp
    simp only [tryCl] at e
    cases q : sub c x with
    | none => rw [q] at e; cases e
    | some b =>
      rw [q] at e
      refine ⟨b, hsub c x b C Cx q hm hx, fun hb a ha => ?_, fun hb => ?_⟩
      · subst hb
        simp only at e
        rcases M.bind_inv e with ⟨fl1, st1, e1, e2⟩ | ⟨c', f', v', e1, q1⟩
        · have e1' := runCl_inv e1 a C d
          refine ⟨cm, _, st, fl1, st1, ⟨s, R.set i (.exn hm hxf hd hav hy)⟩, e1', fun cm1 H1 x1 s1 => ?_⟩
          cases fl1 with
          | nx ls1 => cases e2; exact fun σ1 R1 => o cm1 H1 x1 s1 _ (R1.unset i)
          | bk ls1 => cases e2; exact fun σ1 R1 => o cm1 H1 x1 s1 _ (R1.unset i)
          | ct ls1 => cases e2; exact fun σ1 R1 => o cm1 H1 x1 s1 _ (R1.unset i)
          | rt w => cases e2; exact fun x hx => o cm1 H1 x1 s1 x hx
          | ex ls1 c f v => cases e2
        · cases q1
      · subst hb
        exact try_w hsub s R hm hxf hd hav hy r e o
theorem s_try (hs : X.stack = X.env :: X.outer) (hf : X.env.frame = some X.env.locals) (hN : X.N.Nodup) (tk : Takes X W) (hsub : SubOk X.K X.mg sub)
    (hb : ∀ (W : WX) (pn : List (Addr × Obj)) (xe : Value → Shared → Prop), Takes (X.tr pn xe) W → PassesOwn (model X.prog X.w) X.A X.env xe → PSs' (X.tr pn xe) W body fb) (hh : HdsM X (h₀ :: hds) cl) : PS' X W (.Try body (h₀ :: hds) [] [] pos) (mTry sub fb cl) := by
  obtain ⟨l, h1, h2⟩ := hds_of hh
  refine PS_imp (ps_try_manyA (tb := fun W => rdS X.K X.mg W fb) hs hf hN tk hb h1) fun D σ H h => ?_
  obtain ⟨cm, ls, st, fl, st', R, e, o⟩ := h
  rcases M.bind_inv e with ⟨fl1, st1, e1, e2⟩ | ⟨c, f, v, e1, q⟩
  · refine ⟨cm, ls, st, fl1, st1, R, e1, fun cm1 H1 x1 s1 => ?_⟩
    cases fl1 with
    | nx ls1 => cases e2; exact o cm1 H1 x1 s1
    | bk ls1 => cases e2; exact o cm1 H1 x1 s1
    | ct ls1 => cases e2; exact o cm1 H1 x1 s1
    | rt v => cases e2; exact o cm1 H1 x1 s1
    | ex ls1 c f v => exact fun σ1 R1 C d y hm hxf hd hav hy => try_w hsub s1 R1 hm hxf hd hav hy h2 e2 fun cm2 H2 x2 s2 => o cm2 H2 (x1.trans x2) s2
  · cases q
end
open Classical in
noncomputable def xfM (a : Addr) (cls : Value) (d : Option Addr) (f : Str) (x : IV) : M IV := match x with
  | .exn a' cls' d' f' v _ => if a' = a ∧ cls' = cls ∧ some d' = d ∧ f' = f ∧ ∃ C, cls = .ref C then M.ret v else M.stuck
  | _ => M.stuck
noncomputable def mXf (a : Addr) (cls : Value) (d : Option Addr) (f : Str) (m : ME) : ME := fun ls => M.bind (m ls) (xfM a cls d f)
theorem xfM_run (a C : Addr) (d : Addr) (c f : Str) (v : IV) : xfM a (.ref C) (some d) f (.exn a (.ref C) d f v c) = M.ret v := by
  unfold xfM
  exact if_pos ⟨rfl, rfl, rfl, rfl, C, rfl⟩
section
variable {X : Cx} {W : WX} {a C : Addr} {oe : Obj} {d : Option Addr} {pn : List (Addr × Obj)} {e : Expr} {m : ME} {pos : Pos} {f : Str} {cls : Value}
def tXfA (K : PySem.W.Frag) (a : Addr) (cls : Value) (d : Option Addr) (f : Str) (te : TE) : TE := fun σ H Q => te σ H fun x H1 => x = .ref a ∧ ∃ (C dd : Addr) (fs : List (Str × V)) (v : V), cls = .ref C ∧ XF K C f ∧ d = some dd ∧ H1 dd = some (.xd fs) ∧ fs.lookup f = some v ∧ Q v H1
theorem pe_xfA (hz : Zc cls d oe) (hf : ∃ vs, oe.data = .fields vs) {te : TE} (he : PE (X.suite a ((a, oe) :: pn)) e te) (hb : attributeBase e f X.env (eval e X.env) = eval e X.env := by rfl) :
    PE (X.suite a ((a, oe) :: pn)) (.Attribute e f pos) (tXfA X.K a cls d f te) := by
  refine ⟨fun pins s σ H Q I h => ?_⟩
  refine attr_of hb (thn (he.run pins s σ H _ I h) fun u s1 hh => ?_)
  obtain ⟨x, H1, I1, rx, ex, C, dd, fs, v, ec, ⟨T, hno⟩, ed, ea, l, q⟩ := hh
  subst ex
  obtain rfl : u = Value.ref a := rx
  subst ec
  subst ed
  obtain ⟨ha, _⟩ := I1.pin (a, oe) (List.mem_append_left _ List.mem_cons_self)
  obtain ⟨vs, hd⟩ := hf
  have hx : ObjOk X.prog X.w H1 s1.heap dd (.xd fs) := I1.hok dd _ ea
  obtain ⟨mA, hns, hr⟩ := hx
  obtain ⟨od, ho, hl⟩ := lookIn_ns hns
  obtain ⟨u, hu, ru⟩ := RelO.some_of (v := v) (o := mA f) (by rw [← l]; exact hr f)
  have J : PySem.W.InstAt s1.heap a oe C (some od) := ⟨ha, hz.1, by unfold PySem.W.notCls; rw [hd] <;> rfl, by rw [hz.2]; exact ho⟩
  exact HandSPX.exc_get I1.kIn J T.ga T.gg T.exC (PySem.W.findObj_own T.hdC hno rfl (by rw [hl, hu])) (handed_of ru) ⟨v, H1, I1.tok _, ru, q⟩
theorem e_xf (hz : Zc cls d oe) (hf : ∃ vs, oe.data = .fields vs) (he : PE' (X.suite a ((a, oe) :: pn)) W e m) (hb : attributeBase e f X.env (eval e X.env) = eval e X.env := by rfl) :
    PE' (X.suite a ((a, oe) :: pn)) W (.Attribute e f pos) (mXf a cls d f m) := by
  refine PE_imp (pe_xfA hz hf he hb) fun σ H Q h => rdE_mono (rd1 h) fun x H1 h1 => ?_
  obtain ⟨cm, st, v, r, st', s, hx, e, o⟩ := h1
  unfold xfM at e
  split at e
  · split at e
    · rename_i hc
      obtain ⟨rfl, rfl, rfl, rfl, C', hC⟩ := hc
      cases e
      cases hx with
      | err => cases hC
      | rng => cases hC
      | exn g h0 h1 hn h2 =>
        refine ⟨rfl, _, _, _, _, rfl, h0, rfl, h1, by simp [List.lookup], o cm H1 (Ext.refl _ _) s _ h2⟩
    · cases e
  · cases e
end
end MK
namespace MK
open PySem L2
section
variable {K : PySem.W.Frag} {mg : Str → Option Value} {σ : L2.St} {H : Hp} {W : WX}
theorem rd2L {α : Type} {fa fb : ME} {k : Loc → IV → IV → M α} {G : Wd → Hp → α → Prop} (h : Run K mg W σ H (fun ls => M.bind (fa ls) fun a => M.bind (fb ls) fun b => k ls a b) G) :
    rdE K mg W fa σ H fun x H1 => rdE K mg W fb σ H1 fun y H2 => ∃ cm ls st a b r st', Rel K mg cm ls st σ H2 ∧ Rep K mg cm H2 x a ∧ Rep K mg cm H2 y b ∧ k ls a b st = some (r, st') ∧ Out K mg W σ cm H2 G r st' := by
  obtain ⟨cm, ls, st, r, st', R, e, o⟩ := h
  rcases M.bind_inv e with ⟨a, st1, e1, e2⟩ | ⟨c, f, v, e1, rfl⟩
  · refine ⟨cm, ls, st, _, st1, R, e1, fun cm1 H1 x1 s1 y hy => ?_⟩
    rcases M.bind_inv e2 with ⟨b, st2, e3, e4⟩ | ⟨c, f, v, e3, rfl⟩
    · refine ⟨cm1, ls, st1, _, st2, R.ext x1 s1, e3, fun cm2 H2 x2 s2 z hz => ?_⟩
      refine ⟨cm2, ls, st2, a, b, r, st', (R.ext x1 s1).ext x2 s2, hy.ext x2, hz, e4, ?_⟩
      cases r with
      | val b => exact fun cm3 H3 x3 s3 => o cm3 H3 ((x1.trans x2).trans x3) s3
      | exc c f v => exact fun cm3 H3 x3 s3 => o cm3 H3 ((x1.trans x2).trans x3) s3
    · exact ⟨cm1, ls, st1, _, st', R.ext x1 s1, e3, fun cm2 H2 x2 s2 => o cm2 H2 (x1.trans x2) s2⟩
  · exact ⟨cm, ls, st, _, st', R, e1, o⟩
def mChain (g g' : Sto → IV → IV → Option IV) (fa fb fc : ME) : ME := fun ls => M.bind (fa ls) fun a => M.bind (fb ls) fun b => M.bind (opM g a b) fun z => match z with
  | .bl true => M.bind (fc ls) fun c => opM g' b c
  | .bl false => M.ret (.bl false)
  | _ => M.stuck
theorem rd_chain {r r' : R2} {g g' : Sto → IV → IV → Option IV} {fa fb fc : ME} {Q : VK} (ho : OpV K mg r g) (ho' : OpV K mg r' g') (h : rdE K mg W (mChain g g' fa fb fc) σ H Q) : tChain r r' (rdE K mg W fa) (rdE K mg W fb) (rdE K mg W fc) σ H Q := by
  refine rdE_mono (rd2L (k := fun ls a b => M.bind (opM g a b) fun z => match z with
    | .bl true => M.bind (fc ls) fun c => opM g' b c
    | .bl false => M.ret (.bl false)
    | _ => M.stuck) h) fun x H1 h1 => rdE_mono h1 fun y H2 h2 => ?_
  obtain ⟨cm, ls, st, a, b, r, st', R, hx, hy, e, o⟩ := h2
  cases q1 : g st a b with
  | none => simp only [M.bind, opM, q1, Option.map] at e; cases e
  | some z =>
    simp only [M.bind, opM, q1, Option.map] at e
    refine ho cm st H2 x y a b z _ R.sto hx hy q1 fun cm' H' z' E s' hz => ?_
    cases z with
    | bl k =>
      cases hz
      refine ⟨k, rfl, ?_⟩
      cases k with
      | false =>
        cases e
        simp only [Bool.false_eq_true, if_false]
        exact o cm' H' E s' _ (.bl _)
      | true =>
        simp only [if_true]
        have e' : M.bind (fc ls) (fun c => opM g' b c) st = some (r, st') := e
        have o' : Out K mg W σ cm' H' (GE K mg Q) r st' := by
          cases r with
          | val b => exact fun cm3 H3 x3 s3 => o cm3 H3 (E.trans x3) s3
          | exc c f v => exact fun cm3 H3 x3 s3 => o cm3 H3 (E.trans x3) s3
        rcases M.bind_inv e' with ⟨c, st2, e3, e4⟩ | ⟨c, f, v, e3, rfl⟩
        · refine ⟨cm', ls, st, _, st2, R.ext E s', e3, fun cm2 H2' x2 s2 w hw => ?_⟩
          unfold opM at e4
          cases q2 : g' st2 b c with
          | none => rw [q2] at e4; cases e4
          | some v =>
            rw [q2] at e4
            cases e4
            exact ho' cm2 _ H2' y w b c v Q s2 ((hy.ext E).ext x2) hw q2 fun cm3 H3 z3 x3 s3 h3 => o cm3 H3 ((E.trans x2).trans x3) s3 z3 h3
        · exact ⟨cm', ls, st, _, st', R.ext E s', e3, o'⟩
    | _ => cases e
end
section
variable {X : Cx} {W : WX} {a b c e : Expr} {fa fb fc : ME} {pos : Pos} {op op' : CmpOp} {g g' : Sto → IV → IV → Option IV}
theorem e_chain (hc : CmpV X op g) (hc' : CmpV X op' g') (ha : PE' X W a fa) (hb : PE' X W b fb) (hcc : PE' X W c fc) (hm : lastMarks [op, op'] [b, c] = false := by with_unfolding_all rfl) :
    PE' X W (.Compare a [op, op'] [b, c] pos) (mChain g g' fa fb fc) := by
  obtain ⟨r, h1, h2⟩ := hc.ex
  obtain ⟨r', h3, h4⟩ := hc'.ex
  exact PE_imp (pe_chain h1 h3 ha hb hcc hm) fun _ _ _ h => rd_chain h2 h4 h
theorem t_chain (hc : CmpV X op g) (hc' : CmpV X op' g') (ha : PE' X W a fa) (hb : PE' X W b fb) (hcc : PE' X W c fc) (hm : lastMarks [op, op'] [b, c] = false := by with_unfolding_all rfl) :
    PT' X W (.Compare a [op, op'] [b, c] pos) (mB (mChain g g' fa fb fc)) := by
  obtain ⟨r, h1, h2⟩ := hc.ex
  obtain ⟨r', h3, h4⟩ := hc'.ex
  exact PT_imp (pt_chain h1 h3 ha hb hcc hm) fun _ _ _ h => rd_chain h2 h4 (rd_B h)
end
def rgBounds (i j : Int) : Bool := decide (-(2 ^ 62) ≤ i) && decide (i < 2 ^ 62) && decide (-(2 ^ 62) ≤ j) && decide (j < 2 ^ 62) && decide ((j - i).toNat ≤ 2 ^ 24)
theorem rgBounds_ok {i j : Int} (h : rgBounds i j = true) : RgOk i j := by
  unfold rgBounds at h
  simp only [Bool.and_eq_true, decide_eq_true_eq] at h
  exact ⟨h.1.1.1.1, h.1.1.1.2, h.1.1.2, h.1.2, h.2⟩
def rgArgs : List IV → Option (Int × Int)
  | [.int j] => some (0, j)
  | [.int i, .int j] => some (i, j)
  | _ => none
def lstRgM (c : Bool) (l : List IV) : M IV := fun st => match rgArgs l with
  | some (i, j) => if rgBounds i j = true then newL c (rangeI i (j - i).toNat) st else none
  | none => none
def mLstRg (c : Bool) (g : MA) : ME := fun ls => M.bind (g ls) (lstRgM c)
theorem rg_rep {K : PySem.W.Frag} {mg : Str → Option Value} {cm : Wd} {H : Hp} (i j : Int) : RepL K mg cm H (rgV i j) (rangeI i (j - i).toNat) := by
  unfold rgV rangeI
  have : ∀ l : List Nat, RepL K mg cm H (l.map fun k => V.int (i + (k : Nat))) (l.map fun (k : Nat) => IV.int (i + (k : Int))) := fun l => by
    induction l with
    | nil => exact .nil
    | cons a l ih => exact .cons (.int _) ih
  exact this _
section
variable {X : Cx} {W : WX} {a b : Expr} {fa fb : ME} {p p2 pos pos2 : Pos}
theorem rdP1 {σ : L2.St} {H : Hp} {k : List IV → M IV} {Q : VK} (h : rdE X.K X.mg W (fun ls => M.bind (mCons fa mNil ls) k) σ H Q) :
    rdE X.K X.mg W fa σ H fun x H1 => ∃ cm st a r st', RelS X.K X.mg cm st H1 ∧ Rep X.K X.mg cm H1 x a ∧ k [a] st = some (r, st') ∧ Out X.K X.mg W σ cm H1 (GE X.K X.mg Q) r st' := by
  refine rd1 (k := fun a => k [a]) ?_
  obtain ⟨cm, ls, st, r, st', R, e, o⟩ := h
  refine ⟨cm, ls, st, r, st', R, ?_, o⟩
  rw [← e]
  unfold M.bind mCons
  simp only [M.bind]
  cases fa ls st with
  | none => rfl
  | some p =>
    obtain ⟨o1, s1⟩ := p
    cases o1 <;> rfl
variable (hg : Gl X "range") (hm : X.mg "range" = none)
include hg hm
theorem e_lstRg1 (c : Bool) (hk : X.calm = true) (hl : Gl X "list") (hml : X.mg "list" = none) (ha : PE' X W a fa) (na : starEach [a] X.env = (false, eval a X.env) :: starEach [] X.env := by rfl) : PE' X W (.Call (.Name "list" p2) [.Call (.Name "range" p) [a] [] pos] [] pos2) (mLstRg c (mCons fa mNil)) := by
  refine PE_imp (pe_listRg hk hl hml (prg_1 hg hm ha na)) fun σ H Q h => rdE_mono (rdP1 h) fun x H1 h1 => ?_
  obtain ⟨cm, st, v, r, st', s, hx, e, o⟩ := h1
  cases v with
  | int n =>
    cases hx
    simp only [lstRgM, rgArgs] at e
    split at e
    · exact ⟨n, rfl, rgBounds_ok (by assumption), fun q hq => newL_new s e hq (rg_rep 0 n) o⟩
    · cases e
  | _ => cases e
end
end MK
namespace MK
open PySem PySem.Spec PyProof.Rows L2
structure MetOk (P : Program) (w : World) (K : PySem.W.Frag) (mg : Str → Option Value) (base : Heap) (k : Nat) (c m : Str) (ps : List Str) (g : MF) : Prop where
  ex : ∃ C f fd, mg c = some (.ref C) ∧ PySem.W.findIn K (.ref C) m = some (some (.ref f)) ∧ PySem.W.isFn K (.ref f) = true ∧ Binds K fd ps [] ∧ FnOk P w K mg base (L2.CX P w) k f fd ps (spM K mg ps.length g)
theorem MetOk.mono {P : Program} {w : World} {K : PySem.W.Frag} {mg : Str → Option Value} {base : Heap} {j k : Nat} {c m : Str} {ps : List Str} {g : MF} (h : MetOk P w K mg base j c m ps g) (hk : j ≤ k) : MetOk P w K mg base k c m ps g := by
  obtain ⟨C, f, fd, h1, h2, h3, h4, h5⟩ := h.ex
  exact ⟨⟨C, f, fd, h1, h2, h3, h4, h5.mono hk⟩⟩
theorem MetOk.imp {P : Program} {w : World} {K : PySem.W.Frag} {mg : Str → Option Value} {base : Heap} {k : Nat} {c m : Str} {ps : List Str} {g g' : MF} (h : MetOk P w K mg base k c m ps g) (i : ∀ l st r, g' l st = some r → g l st = some r) : MetOk P w K mg base k c m ps g' := by
  obtain ⟨C, f, fd, h1, h2, h3, h4, h5⟩ := h.ex
  exact ⟨⟨C, f, fd, h1, h2, h3, h4, h5.imp (spM_imp i)⟩⟩
def clsI (st : Sto) : IV → Option Str
  | .obj c _ => some c
  | .cell n => match st[n]? with
    | some (.ins c _) => some c
    | _ => none
  | _ => none
theorem clsI_rep {K : PySem.W.Frag} {mg : Str → Option Value} {cm : Wd} {st : Sto} {H : Hp} {x : V} {a : IV} {c : Str} (s : RelS K mg cm st H) (h : Rep K mg cm H x a) (e : clsI st a = some c) : ∃ p C dx fs, x = .ref p ∧ mg c = some (.ref C) ∧ H p = some (.ins C dx fs) := by
  cases h with
  | obj h1 h2 h3 h4 => cases e; exact ⟨_, _, _, _, rfl, h1, h2⟩
  | @cell p n h =>
    simp only [clsI] at e
    split at e
    · rename_i q
      cases e
      obtain ⟨C, dx, fs', h0, h1, _⟩ := s.at' n p _ h q
      exact ⟨p, C, dx, fs', rfl, h0, h1⟩
    · cases e
  | _ => cases e
inductive TyA where
  | b (t : Ty)
  | o (c : Str)
def tyA (st : Sto) (a : IV) : Option TyA := match tyI st a with
  | some t => some (.b t)
  | none => (clsI st a).map .o
structure InsT (K : PySem.W.Frag) (C : Addr) : Prop where
  cl : Cls K C
  si : SlX.SIsi K C
structure IsOk (K : PySem.W.Frag) (mg : Str → Option Value) (c : Str) (os : List Str) : Prop where
  ex : ∃ C, mg c = some (.ref C)
  it : ∀ c' ∈ c :: os, ∀ C', mg c' = some (.ref C') → InsT K C'
  ty : ∀ C, mg c = some (.ref C) → ∀ T : Ty, PySem.W.kitOne K (.type T.nm) (.ref C) = some false ∧ PySem.W.notFirst K C (.type T.nm) = true
  ot : ∀ C, mg c = some (.ref C) → ∀ c' ∈ os, ∀ C', mg c' = some (.ref C') → PySem.W.kitOne K (.ref C') (.ref C) = some false ∧ PySem.W.notFirst K C (.ref C') = true
def isC (c : Str) (os : List Str) : TyA → Option Bool
  | .b _ => some false
  | .o c' => if c' = c then some true else if c' ∈ os then some false else none
theorem kit_refl {K : PySem.W.Frag} {t : Value} : PySem.W.kitOne K t t = some true := by
  unfold PySem.W.kitOne
  rw [if_pos (by simp)]
theorem isC_ty {K : PySem.W.Frag} {mg : Str → Option Value} {cm : Wd} {st : Sto} {H : Hp} {x : V} {a : IV} {c : Str} {os : List Str} {t : TyA} {b : Bool} {C : Addr} (F : IsOk K mg c os) (hC : mg c = some (.ref C)) (s : RelS K mg cm st H) (h : Rep K mg cm H x a) (e : tyA st a = some t) (e2 : isC c os t = some b) :
    ∃ u, TyX K H x u ∧ PySem.W.kitOne K u (.ref C) = some b ∧ PySem.W.notFirst K C u = true := by
  unfold tyA at e
  cases q : tyI st a with
  | some T =>
    rw [q] at e
    cases e
    cases e2
    exact ⟨_, ty_rep s h q, (F.ty C hC T).1, (F.ty C hC T).2⟩
  | none =>
    rw [q] at e
    cases q2 : clsI st a with
    | none => rw [q2] at e; cases e
    | some c' =>
      rw [q2] at e
      cases e
      obtain ⟨p, C', dx, fs, rfl, h1, h2⟩ := clsI_rep s h q2
      have ty : ∀ c' ∈ c :: os, mg c' = some (.ref C') → TyX K H (.ref p) (.ref C') := fun c' hc' hm => by
        have I := F.it c' hc' C' hm
        exact .base (.ins h2 I.cl I.si.ca I.si.cn I.si.ct I.si.cm)
      simp only [isC] at e2
      split at e2
      · rename_i hc
        cases e2
        subst hc
        rw [hC] at h1
        cases h1
        exact ⟨_, ty _ List.mem_cons_self hC, kit_refl, by simp [PySem.W.notFirst]⟩
      · split at e2
        · rename_i hm
          cases e2
          exact ⟨_, ty _ (List.mem_cons_of_mem _ hm) h1, (F.ot C hC c' hm C' h1).1, (F.ot C hC c' hm C' h1).2⟩
        · cases e2
def isCM (c : Str) (os : List Str) (v : IV) : M IV := fun st => ((tyA st v).bind (isC c os)).map fun b => (.val (.bl b), st)
def mIsC (c : Str) (os : List Str) (f : ME) : ME := fun ls => M.bind (f ls) (isCM c os)
section
variable {X : Cx} {W : WX} {a b e : Expr} {fa fb : ME} {c : Str} {os : List Str} {k : Nat} {ps : List Str} {g : MF} {p p2 pos : Pos}
theorem e_isC (F : IsOk X.K X.mg c os) (hm : X.mg "isinstance" = none) (hg : Gl X "isinstance") (hg2 : Gl X c) (ha : PE' X W a fa) (hd : (c == ("__debug__" : Str)) = false := by decide)
    (he : starEach [a, .Name c p2] X.env = (false, eval a X.env) :: starEach [.Name c p2] X.env := by rfl) (he2 : starEach [.Name c p2] X.env = (false, eval (.Name c p2) X.env) :: starEach [] X.env := by rfl)
    (hpl : (backTo pos (starEach [.Name c p2] X.env)).any (·.1) = false := by rfl) : PE' X W (.Call (.Name "isinstance" p) [a, .Name c p2] [] pos) (mIsC c os fa) := by
  obtain ⟨C, hC⟩ := F.ex
  refine PE_imp (pe_callB call_isi hg hm PyProof.Rows.boot_isinstance (pa_cons ha (pa_cons (pe_glob (v := .ref C) hg2 hC rfl hd) pa_nil he2) he) (by decide) (by decide) he hpl) fun σ H Q h => rdE_mono (rd1 h) fun x H1 h1 => ?_
  obtain ⟨cm, st, v, r, st', s, hx, e, o⟩ := h1
  unfold isCM at e
  cases q : tyA st v with
  | none => rw [q] at e; cases e
  | some t =>
    rw [q] at e
    cases q2 : isC c os t with
    | none => simp only [Option.bind, q2] at e; cases e
    | some b =>
      simp only [Option.bind, q2, Option.map] at e
      cases e
      obtain ⟨u, h1, h2, _⟩ := isC_ty F hC s hx q q2
      exact ⟨x, .ref C, u, .ref C, b, rfl, .own C, h1, h2, o cm H1 (Ext.refl _ _) s _ (.bl _)⟩
def lenOM (c : Str) (g : MF) (l : List IV) : M IV := fun st => match l with
  | [a] => if clsI st a = some c then (match g [a] st with
    | some (.val (.int i), st') => if 0 ≤ i ∧ i < 2 ^ 63 then some (.val (.int i), st') else none
    | _ => none) else (lenI st a).map fun v => (.val v, st)
  | _ => none
def rLenO (K : PySem.W.Frag) (mg : Str → Option Value) (c : Str) (g : MF) : List V → Hp → VK → Prop := fun xs H Q =>
  (∃ a C dx fs, xs = [.ref a] ∧ mg c = some (.ref C) ∧ H a = some (.ins C dx fs) ∧ spM K mg 1 g [.ref a] H (fun v H2 => ∃ i, v = .int i ∧ (0 ≤ i ∧ i < 2 ^ 63) ∧ Q v H2) E0) ∨ ∃ x n, xs = [x] ∧ LenV K x H n ∧ Q (.int n) H
theorem run_in1 {CX : CXT} {f : Addr} {fd : FuncData} {sp : Sp} {E : XK} {pins : List (Addr × Obj)} {σ : L2.St} {H : Hp} {s : Shared} {Q : VK} {us : List Value} {vs : List V} {A : Around} (F : FnOk X.prog X.w X.K X.mg X.base CX k f fd ps sp) (hr : Room k A) (e0 : Env0 X.prog X.w X.K X.mg X.base A X.stack s H) (hb : Binds X.K fd ps []) (hx : Passes CX X E)
    (I : Inv X pins σ H s) (r : Vals vs us) (h : sp vs H Q E) : wpAny (model X.prog X.w) A (call (.ref f) us) (EP X pins σ Q) X.xe s := by
  have hl : us.length = ps.length := by rw [← r.length]; exact F.len _ _ _ _ h
  have b := hb s us I.kIn (by rw [List.append_nil]; exact hl)
  rw [List.append_nil] at b
  refine wpAny_call (codeAny_mono (F.run A X.stack s H ⟨us, []⟩ us vs Q E hr e0 b r h) fun r s' hq => ?_)
  cases r with
  | error e => exact hx pins σ H s e s' I hq
  | ok fl =>
    cases fl with
    | ret u => exact I.after hq
    | next => exact False.elim hq
    | brk => exact False.elim hq
    | cont => exact False.elim hq
theorem call_lenO (F : MetOk X.prog X.w X.K X.mg X.base k c "__len__" ps g) (hn : ps.length = 1) (hr : Room (k + 1) X.A) : CallR X (.builtin "len") (rLenO X.K X.mg c g) := by
  intro pins s σ H xs us Q I r h
  rcases h with ⟨a, C, dx, fs, rfl, hC, hH, hsp⟩ | h
  · obtain ⟨C', f, fd, h1, h2, h3, h4, h5⟩ := F.ex
    rw [hC] at h1
    cases h1
    obtain ⟨u, rfl, ru⟩ := r.one
    cases (show u = Value.ref a from ru)
    obtain ⟨mA, O, _⟩ := ins_get I.hok hH
    obtain ⟨od, J, _⟩ := O.look
    obtain ⟨m, hF⟩ := I.fr
    have hsp' : spM X.K X.mg ps.length g [.ref a] H (fun v H2 => ∃ i, v = .int i ∧ (0 ≤ i ∧ i < 2 ^ 63) ∧ Q v H2) E0 := by rw [hn]; exact hsp
    refine PySem.W.len_K hF I.ok.mod.kin J h2 h3 (wpAny_mono (run_in1 (us := [.ref a]) (vs := [.ref a]) h5 hr.in1 I.env0.in1 h4 passL I (.cons rfl .nil) hsp') (fun v s' z => ?_) fun _ _ x => x)
    obtain ⟨z', H', I', rz, i, rfl, hi, q⟩ := z
    obtain ⟨t, e⟩ := (show ∃ t, v = Value.int i t from rz)
    cases e
    exact ⟨hi, .int i, H', I'.tok (s'.toks + 1), ⟨s'.toks, rfl⟩, q⟩
  · exact call_len pins s σ H xs us Q I r h
theorem v_lenO {K : PySem.W.Frag} {mg : Str → Option Value} : CallV K mg (rLenO K mg c g) (lenOM c g) := by
  intro W σ cm st H xs l o st' Q s hx e out
  unfold lenOM at e
  split at e
  · rename_i a
    obtain ⟨x, rfl, hx1⟩ := rep1 hx
    split at e
    · rename_i hc
      obtain ⟨p, C, dx, fs, rfl, h1, h2⟩ := clsI_rep s hx1 hc
      split at e
      · rename_i i st1 hg
        split at e
        · rename_i hi
          cases e
          refine .inl ⟨p, C, dx, fs, rfl, h1, h2, rfl, cm, st, [a], _, _, s, hx, hg, fun cm' H' E s' z hz => ?_⟩
          cases hz
          exact ⟨i, rfl, hi, out cm' H' E s' _ (.int i)⟩
        · cases e
      · cases e
    · exact .inr (v_len W σ cm st H [x] [a] o st' Q s hx e out)
  · cases e
theorem e_lenO (F : MetOk X.prog X.w X.K X.mg X.base k c "__len__" ps g) (hn : ps.length = 1) (hr : Room (k + 1) X.A) (hg : Gl X "len") (hm : X.mg "len" = none) {ga : MA} {es : List Expr} (ha : PA' X W (e :: es) ga)
    (he : starEach (e :: es) X.env = (false, eval e X.env) :: starEach es X.env := by rfl) (hpl : (backTo pos (starEach es X.env)).any (·.1) = false := by rfl) : PE' X W (.Call (.Name "len" p) (e :: es) [] pos) (mCall (lenOM c g) ga) :=
  e_callB (call_lenO F hn hr) v_lenO hg hm (by decide +kernel) ha (by decide) (by decide) he hpl
def eqOM (c : Str) (os : List Str) (g : MF) (a b : IV) : M IV := fun st => if clsI st a = some c ∧ ((tyA st b).bind (isC c os)).isSome = true then (match g [a, b] st with
  | some (.val (.bl r), st') => some (.val (.bl r), st')
  | _ => none) else (eqI st a b).map fun v => (.val v, st)
def mEqO (c : Str) (os : List Str) (g : MF) (fa fb : ME) : ME := fun ls => M.bind (fa ls) fun a => M.bind (fb ls) fun b => eqOM c os g a b
def rEqO (K : PySem.W.Frag) (mg : Str → Option Value) (c : Str) (g : MF) : R2 := fun x y H Q =>
  (∃ a C dx fs u, x = .ref a ∧ mg c = some (.ref C) ∧ H a = some (.ins C dx fs) ∧ TyX K H y u ∧ PySem.W.notFirst K C u = true ∧ spM K mg 2 g [x, y] H (fun v H2 => ∃ i, v = .bl i ∧ Q v H2) E0) ∨ rEqD K x y H Q
theorem rd_eqO {K : PySem.W.Frag} {mg : Str → Option Value} {σ : L2.St} {H : Hp} {Q : VK} (F : IsOk K mg c os) (h : rdE K mg W (mEqO c os g fa fb) σ H Q) : tOp (rEqO K mg c g) (rdE K mg W fa) (rdE K mg W fb) σ H Q := by
  refine rdE_mono (rd2 h) fun x H1 h1 => rdE_mono h1 fun y H2 h2 => ?_
  obtain ⟨cm, st, a, b, o, st', s, hx, hy, e, q⟩ := h2
  unfold eqOM at e
  split at e
  · rename_i hc
    obtain ⟨hc1, hc2⟩ := hc
    obtain ⟨p, C, dx, fs, rfl, h1, h2⟩ := clsI_rep s hx hc1
    cases q1 : tyA st b with
    | none => rw [q1] at hc2; simp at hc2
    | some t =>
      cases q2 : isC c os t with
      | none => rw [q1] at hc2; simp [q2] at hc2
      | some r =>
        obtain ⟨u, t1, _, t3⟩ := isC_ty F h1 s hy q1 q2
        split at e
        · rename_i r st1 hg
          cases e
          refine .inl ⟨p, C, dx, fs, u, rfl, h1, h2, t1, t3, rfl, cm, st, [a, b], _, _, s, .cons hx (.cons hy .nil), hg, fun cm' H' E s' z hz => ?_⟩
          cases hz
          exact ⟨r, rfl, q cm' H' E s' _ (.bl r)⟩
        · cases e
  · cases q1 : eqI st a b with
    | none => rw [q1] at e; cases e
    | some v =>
      rw [q1] at e
      cases e
      exact .inr (v_eq cm _ H2 x y a b v Q s hx hy q1 fun cm' H' z E s' hz => q cm' H' E s' z hz)
end
end MK
namespace MK
open PySem PySem.Spec PyProof.Rows L2
theorem hu65 {k : Nat} {A : Around} (hr : Room k A) : A.units + 65 < cLine := by have := hr.un; omega
def BindsAll (fd : FuncData) (ps : List Str) : Prop := ∀ us : List Value, us.length = ps.length → bindArgs fd ⟨us, []⟩ = pure (ps.zip us)
theorem BindsAll.binds {K : PySem.W.Frag} {fd : FuncData} {ps : List Str} (h : BindsAll fd ps) : Binds K fd ps [] := .all h
structure FunOk (K : PySem.W.Frag) (mg : Str → Option Value) (x : Str) (st : Stmt) (ps : List Str) : Prop where
  ex : ∃ f fd, mg x = some (.ref f) ∧ Fun K x x st f fd ∧ BindsAll fd ps
structure MetFun (K : PySem.W.Frag) (mg : Str → Option Value) (c m qual : Str) (st : Stmt) (ps : List Str) : Prop where
  ex : ∃ C f fd, mg c = some (.ref C) ∧ PySem.W.findIn K (.ref C) m = some (some (.ref f)) ∧ PySem.W.isFn K (.ref f) = true ∧ Fun K m qual st f fd ∧ BindsAll fd ps
structure ClsFun (K : PySem.W.Frag) (mg : Str → Option Value) (c qual : Str) (st : Stmt) (ps : List Str) : Prop where
  ex : ∃ C f fd, mg c = some (.ref C) ∧ Mk K C f ∧ Fun K "__init__" qual st f fd ∧ BindsAll fd ps
structure ExcFun (K : PySem.W.Frag) (mg : Str → Option Value) (c f qual : Str) (st : Stmt) (ps : List Str) : Prop where
  ex : ∃ C fI fd, mg c = some (.ref C) ∧ OexC K C ∧ PySem.W.findIn K (.ref C) f = some none ∧ PySem.W.findIn K (.ref C) "__init__" = some (some (.ref fI)) ∧ PySem.W.typeIn K (.ref fI) = some (.type "function") ∧ XF K C f ∧ Fun K "__init__" qual st fI fd ∧ BindsAll fd ps
section
variable {P : Program} {w : World} {K : PySem.W.Frag} {mg : Str → Option Value} {base : Heap} {x c m f qual : Str} {st : Stmt} {N ps : List Str} {k : Nat} {body : MS}
abbrev Body (P : Program) (w : World) (K : PySem.W.Frag) (mg : Str → Option Value) (base : Heap) (N : List Str) (qual : Str) (st : Stmt) (k : Nat) (body : MS) : Prop :=
  ∀ (f : Addr) (cdv : Value) (A : Around) (outer : List Env) (s : Shared) (H : Hp) (E : XK), Room k (A.deeper (envOfC qual (defScope st) s.heap.objs.size f cdv)) → PSs (cxOf (L2.CX P w) P w K mg base N qual (defScope st) f cdv A outer s H E) (defBody st) (rdS K mg (XW E) body)
theorem fn_ok {f : Addr} {fd : FuncData} (keep : Bool) (F : Fun K x qual st f fd) (S : FnScope N ps (defScope st)) (h : Body P w K mg base N qual st k body) : FnOk P w K mg base (L2.CX P w) (k + 1) f fd ps (spM K mg ps.length (finM keep N.length body)) :=
  F.okX S (fun vs H Q E h => h.1) fun cdv A outer s H vs Q E hr hsp => ⟨_, h f cdv A outer s H E hr, body_end hsp⟩
theorem def_okF (keep : Bool) (F : FunOk K mg x st ps) (S : FnScope N ps (defScope st)) (h : Body P w K mg base N x st k body) : DefOk P w K mg base (k + 1) x ps (finM keep N.length body) := by
  obtain ⟨f, fd, h1, h2, h3⟩ := F.ex
  exact ⟨⟨f, fd, h1, h2.kp, h3.binds, fn_ok keep h2 S h⟩⟩
theorem def_zero (F : FunOk K mg x st ps) : DefOk P w K mg base k x ps (fun _ _ => none) := by
  obtain ⟨f, fd, h1, h2, h3⟩ := F.ex
  refine ⟨⟨f, fd, h1, h2.kp, h3.binds, fun vs H Q E h => h.1, fun A outer s H args us vs Q E hr e0 hb hv h => ?_⟩⟩
  obtain ⟨_, _, _, _, _, _, _, _, e, _⟩ := h
  cases e
theorem met_ok (keep : Bool) (F : MetFun K mg c m qual st ps) (S : FnScope N ps (defScope st)) (h : Body P w K mg base N qual st k body) : MetOk P w K mg base (k + 1) c m ps (finM keep N.length body) := by
  obtain ⟨C, f, fd, h1, h2, h3, h4, h5⟩ := F.ex
  exact ⟨⟨C, f, fd, h1, h2, h3, h5.binds, fn_ok keep h4 S h⟩⟩
theorem cls_ok (keep : Bool) (F : ClsFun K mg c qual st ps) (S : FnScope N ps (defScope st)) (h : Body P w K mg base N qual st k body) : ClsOk P w K mg base (k + 1) c ps (finM keep N.length body) := by
  obtain ⟨C, f, fd, h1, h2, h3, h4⟩ := F.ex
  exact ⟨⟨C, f, fd, h1, h2, h4.binds, fn_ok keep h3 S h⟩⟩
theorem exc_ok {v : Str} (F : ExcFun K mg c f qual st ["self", v]) (S : FnScope ["self", v] ["self", v] (defScope st))
    (h : ∀ (g : Addr) (cdv : Value) (A : Around) (outer : List Env) (s : Shared) (H : Hp) (E : XK), PSs (cxOf (L2.CX P w) P w K mg base ["self", v] qual (defScope st) g cdv A outer s H E) (defBody st) (tOst K f (tVar 0) (tVar 1))) : ExcOk P w K mg base c f := by
  obtain ⟨C, fI, fd, h1, h2, h3, h4, h5, h6, h7, h8⟩ := F.ex
  refine ⟨⟨C, fI, fd, ["self", v], h1, h2, h3, h4, h5, h6, h8.binds, h7.okX S (fun vs H Q E h => ?_) fun cdv A outer s H vs Q E hr hsp => ⟨_, h fI cdv A outer s H E, ?_⟩⟩⟩
  · obtain ⟨a, C, y, rfl, _⟩ := h
    rfl
  · obtain ⟨a, C, y, rfl, t1, t2, t3, k⟩ := hsp
    exact ⟨y, rfl, .ref a, rfl, a, C, rfl, t1, t2, .inl ⟨t3, fun dx hdx ne => k dx hdx ne⟩⟩
theorem e_gI {X : Cx} {W : WX} {pos : Pos} {x : Str} {i : Int} (hm : ∃ t, X.mg x = some (.int i t)) (hg : Gl X x := by rfl) (hd : (x == ("__debug__" : Str)) = false := by decide) : PE' X W (.Name x pos) (mC (.int i)) := by
  obtain ⟨t, hm⟩ := hm
  exact e_globI hg hm hd
end
def subT (tab : List (Str × Str × Bool)) (c x : Str) : Option Bool := match tab with
  | [] => none
  | (c', x', b) :: r => if c = c' ∧ x = x' then some b else subT r c x
theorem subOk_of {K : PySem.W.Frag} {mg : Str → Option Value} : ∀ {tab : List (Str × Str × Bool)}, (∀ t ∈ tab, ∀ C Cx, mg t.1 = some (.ref C) → mg t.2.1 = some (.ref Cx) → PySem.W.exmOne K (.ref C) (.ref Cx) = some t.2.2) → SubOk K mg (subT tab)
  | [], _ => fun c x b C Cx h _ _ => by cases h
  | (c', x', b') :: r, h => fun c x b C Cx e h1 h2 => by
    unfold subT at e
    split at e
    · rename_i q
      cases e
      obtain ⟨rfl, rfl⟩ := q
      exact h _ List.mem_cons_self C Cx h1 h2
    · exact subOk_of (fun t m => h t (List.mem_cons_of_mem _ m)) c x b C Cx e h1 h2
def spLaw (K : PySem.W.Frag) : Sp := fun vs H Q _ => ∃ (a : Addr) (ns : List Int), vs = [.ref a] ∧ SqL K H a (ns.map V.int) ∧ ns.length ≤ 63 ∧ Only H ∧ ∀ H', Q (.bl true) H'
theorem sp_law {K : PySem.W.Frag} {mg : Str → Option Value} {g : MF} (hg : ∀ ns : List Int, ns.length ≤ 63 → ∃ st', g [.scr (ns.map .int)] [] = some (.val (.bl true), st')) : ∀ vs H Q E, spLaw K vs H Q E → spM K mg 1 g vs H Q E := by
  intro vs H Q E ⟨a, ns, e, hs, hl, hO, k⟩
  subst e
  obtain ⟨st', e⟩ := hg ns hl
  refine ⟨rfl, ⟨[], [], [], fun _ h => h, fun _ h => (by cases h)⟩, [], [.scr (ns.map .int)], _, st', ⟨rfl, .nil, fun n a c h => by simp at h, fun a h => by simp at h, fun _ _ _ h => (by cases h), fun _ _ h => (by cases h)⟩, .cons (.scr ?_ (rep_ints ns)) .nil, e, fun cm' H' E s x hx => ?_⟩
  · rcases hs with (h | ⟨o, h⟩) | h
    · rcases hO a with z | ⟨o, xs, z⟩
      · rw [z] at h; cases h
      · rw [z] at h; cases h
    · exact .inl ⟨⟨o, h⟩, by simp⟩
    · exact .inr h
  · cases hx
    exact k H'
theorem law_fn {P : Program} {w : World} {K : PySem.W.Frag} {mg : Str → Option Value} {base : Heap} {f : Addr} {fd : FuncData} {qual : Str} {st : Stmt} {N : List Str} {k : Nat} {body : MS} {x : Str} (F : Fun K x qual st f fd) (S : FnScope N ["script"] (defScope st)) (h : Body P w K mg base N qual st k body)
    (hg : ∀ ns : List Int, ns.length ≤ 63 → ∃ st', finM false N.length body [.scr (ns.map .int)] [] = some (.val (.bl true), st')) : FnOk P w K mg base (L2.CX P w) (k + 1) f fd ["script"] (spLaw K) :=
  (fn_ok false F S h).imp (sp_law hg)
end MK
namespace MK
open PySem PySem.Spec PyProof.Rows L2
section
variable {K : PySem.W.Frag} {h : Heap} {mg : Str → Option Value} {x c m f qual : Str} {st : Stmt} {ps : List Str}
theorem FunOk.of (X : K.In h) (G : h.Ns mainGlobals mg) {fa : Addr} {od an : Option Addr} {sl : Array (Option Value)} {oc kV dc pm cd ct : Value}
    (a : PySem.W.nsIn K mainGlobals x = some (some (.ref fa))) (l : K.lookup fa = some ⟨oc, od, .func (PySem.W.fnOf x x (defArgs st) (defBody st) (defScope st) .none kV dc pm an cd ct), sl⟩) (c : PySem.W.codeIn K cd x = true) (k : PySem.W.keepIn K (.ref fa) = true)
    (b : ∀ (kV dc pm cd ct : Value) (an : Option Addr), BindsAll (PySem.W.fnOf x x (defArgs st) (defBody st) (defScope st) .none kV dc pm an cd ct) ps) : FunOk K mg x st ps :=
  ⟨⟨fa, _, PySem.W.mg_of X G a, fun_mk l c k, b _ _ _ _ _ _⟩⟩
theorem MetFun.of (X : K.In h) (G : h.Ns mainGlobals mg) {fa C : Addr} {od an : Option Addr} {sl : Array (Option Value)} {oc kV dc pm cd ct : Value}
    (aC : PySem.W.nsIn K mainGlobals c = some (some (.ref C))) (a : PySem.W.findIn K (.ref C) m = some (some (.ref fa))) (i : PySem.W.isFn K (.ref fa) = true)
    (l : K.lookup fa = some ⟨oc, od, .func (PySem.W.fnOf m qual (defArgs st) (defBody st) (defScope st) .none kV dc pm an cd ct), sl⟩) (cc : PySem.W.codeIn K cd qual = true) (k : PySem.W.keepIn K (.ref fa) = true)
    (b : ∀ (kV dc pm cd ct : Value) (an : Option Addr), BindsAll (PySem.W.fnOf m qual (defArgs st) (defBody st) (defScope st) .none kV dc pm an cd ct) ps) : MetFun K mg c m qual st ps :=
  ⟨⟨C, fa, _, PySem.W.mg_of X G aC, a, i, fun_mk l cc k, b _ _ _ _ _ _⟩⟩
theorem ClsFun.of (X : K.In h) (G : h.Ns mainGlobals mg) {fa C : Addr} {od an : Option Addr} {sl : Array (Option Value)} {oc kV dc pm cd ct : Value}
    (aC : PySem.W.nsIn K mainGlobals c = some (some (.ref C))) (a : PySem.W.findIn K (.ref C) "__init__" = some (some (.ref fa))) (i : PySem.W.isFn K (.ref fa) = true)
    (l : K.lookup fa = some ⟨oc, od, .func (PySem.W.fnOf "__init__" qual (defArgs st) (defBody st) (defScope st) .none kV dc pm an cd ct), sl⟩) (cc : PySem.W.codeIn K cd qual = true) (k : PySem.W.keepIn K (.ref fa) = true)
    (mk : PySem.W.makesIn K C = true) (kc : PySem.W.keepIn K (.ref C) = true)
    (b : ∀ (kV dc pm cd ct : Value) (an : Option Addr), BindsAll (PySem.W.fnOf "__init__" qual (defArgs st) (defBody st) (defScope st) .none kV dc pm an cd ct) ps) : ClsFun K mg c qual st ps :=
  ⟨⟨C, fa, _, PySem.W.mg_of X G aC, ⟨mk, a, i, kc⟩, fun_mk l cc k, b _ _ _ _ _ _⟩⟩
theorem ExcFun.of (X : K.In h) (G : h.Ns mainGlobals mg) {fa C : Addr} {od an : Option Addr} {sl : Array (Option Value)} {oc kV dc pm cd ct : Value}
    {nm q : Str} {N : Addr} {bs bm : List Value} {sn : List Str} {sub : List Value} {ab : Bool} {col : Option Bool} {dd : Option Addr} {m0 m1 m2 m3 m5 : Option Value}
    (aC : PySem.W.nsIn K mainGlobals c = some (some (.ref C)))
    (xL : K.lookup C = some (excClassObj nm q C N bs bm true sn sub ab col dd m0 m1 m2 m3 m5 "ValueError.__new__")) (rv : PySem.HandSPX.refsVE bm = true)
    (sa : PySem.W.findIn K (.ref C) "__setattr__" = some (some (.builtin "object.__setattr__"))) (ga : PySem.W.findIn K (.ref C) "__getattribute__" = some (some (.builtin "BaseException.__getattribute__"))) (gg : PySem.W.findIn K (.ref C) "__getattr__" = some none)
    (nf : PySem.W.findIn K (.ref C) f = some none) (a : PySem.W.findIn K (.ref C) "__init__" = some (some (.ref fa))) (t : PySem.W.typeIn K (.ref fa) = some (.type "function"))
    (l : K.lookup fa = some ⟨oc, od, .func (PySem.W.fnOf "__init__" qual (defArgs st) (defBody st) (defScope st) .none kV dc pm an cd ct), sl⟩) (cc : PySem.W.codeIn K cd qual = true) (k : PySem.W.keepIn K (.ref fa) = true)
    (kC : PySem.W.keepIn K (.ref C) = true) (eC : PySem.W.subIn K (.ref C) (.type "BaseException") = some true) (tC : PySem.W.typeIn K (.ref C) = some (.type "type")) (hC : PySem.W.hasDictIn K C = true)
    (b : ∀ (kV dc pm cd ct : Value) (an : Option Addr), BindsAll (PySem.W.fnOf "__init__" qual (defArgs st) (defBody st) (defScope st) .none kV dc pm an cd ct) ps) : ExcFun K mg c f qual st ps :=
  ⟨⟨C, fa, _, PySem.W.mg_of X G aC, ⟨⟨nm, q, N, bs, bm, sn, sub, ab, col, dd, m0, m1, m2, m3, m5, xL, rv⟩, sa, eC, tC, kC⟩, nf, a, t, ⟨⟨ga, gg, eC, hC⟩, nf⟩, fun_mk l cc k, b _ _ _ _ _ _⟩⟩
theorem kit_sub {t : Value} {C : Addr} {b : Bool} (hn : (t == .ref C) = false) (i : PySem.W.isClsIn K C = true) (tC : PySem.W.typeIn K (.ref C) = some (.type "type")) (s : PySem.W.subIn K t (.ref C) = some b) : PySem.W.kitOne K t (.ref C) = some b := by
  unfold PySem.W.kitOne
  rw [if_neg (by rw [hn]; decide)]
  show (if ((PySem.W.clsIn K C).isSome && PySem.W.typeIn K (.ref C) == some (.type "type")) = true then PySem.W.subIn K t (.ref C) else none) = some b
  have i' : (PySem.W.clsIn K C).isSome = true := i
  rw [if_pos (by rw [i', tC]; rfl)]
  exact s
theorem exm_sub {C Cx : Addr} {b : Bool} (e : PySem.W.subIn K (.ref Cx) (.type "BaseException") = some true) (i : PySem.W.isClsIn K Cx = true) (tC : PySem.W.typeIn K (.ref Cx) = some (.type "type")) (s : PySem.W.subIn K (.ref C) (.ref Cx) = some b) : PySem.W.exmOne K (.ref C) (.ref Cx) = some b := by
  have e1 : (PySem.W.subIn K (.ref Cx) (.type "BaseException") == some true) = true := by rw [e]; rfl
  have e2 : ((PySem.W.clsIn K Cx).isSome && PySem.W.typeIn K (.ref Cx) == some (.type "type")) = true := by
    have i' : (PySem.W.clsIn K Cx).isSome = true := i
    rw [i', tC]; rfl
  show (if (PySem.W.subIn K (.ref Cx) (.type "BaseException") == some true) = true then (if ((PySem.W.clsIn K Cx).isSome && PySem.W.typeIn K (.ref Cx) == some (.type "type")) = true then PySem.W.subIn K (.ref C) (.ref Cx) else none) else none) = some b
  rw [if_pos e1, if_pos e2]
  exact s
structure Own (K : PySem.W.Frag) (mg : Str → Option Value) (c : Str) (C : Addr) : Prop where
  m : mg c = some (.ref C)
  i : InsT K C
  cl : PySem.W.isClsIn K C = true
  t : PySem.W.typeIn K (.ref C) = some (.type "type")
theorem Own.of (X : K.In h) (G : h.Ns mainGlobals mg) {C : Addr} (aC : PySem.W.nsIn K mainGlobals c = some (some (.ref C)))
    (pg : PySem.W.plainGet K C Str.empty = true) (hd : PySem.W.hasDictIn K C = true) (po : PySem.W.plainOver K C = true) (sa : PySem.W.findIn K (.ref C) "__setattr__" = some (some (.builtin "object.__setattr__")))
    (ca : PySem.W.findIn K (.ref C) "__class__" = some (some (.builtin "object.__class__"))) (cn : PySem.W.specialIn K (.builtin "object.__class__") "__get__" = some (some (.builtin "getset_descriptor.__get__")))
    (ct : PySem.W.takesIn K (.builtin "object.__class__") = some true) (cm : PySem.W.mroIn K C (.type "object") = some true) (cl : PySem.W.isClsIn K C = true) (t : PySem.W.typeIn K (.ref C) = some (.type "type")) : Own K mg c C :=
  ⟨PySem.W.mg_of X G aC, ⟨⟨pg, hd, po, sa⟩, ⟨ca, cn, ct, cm⟩⟩, cl, t⟩
theorem IsOk.of {C : Addr} (o : Own K mg c C) (s1 : PySem.W.subIn K (.type "NoneType") (.ref C) = some false) (s2 : PySem.W.subIn K (.type "bool") (.ref C) = some false) (s3 : PySem.W.subIn K (.type "int") (.ref C) = some false)
    (s4 : PySem.W.subIn K (.type "str") (.ref C) = some false) (s5 : PySem.W.subIn K (.type "tuple") (.ref C) = some false) (s6 : PySem.W.subIn K (.type "list") (.ref C) = some false) : IsOk K mg c [] := by
  have ty : ∀ T : Ty, PySem.W.subIn K (.type T.nm) (.ref C) = some false := fun T => by cases T <;> assumption
  refine ⟨⟨C, o.m⟩, fun c' hc C' h => ?_, fun C' h T => ?_, fun C' h c' hc => by cases hc⟩
  · simp at hc
    subst hc
    rw [o.m] at h; cases h
    exact o.i
  · rw [o.m] at h; cases h
    refine ⟨kit_sub rfl o.cl o.t (ty T), ?_⟩
    unfold PySem.W.notFirst
    rw [ty T]
    simp
theorem FldOk.of {C : Addr} (o : Own K mg c C) (n : PySem.W.findIn K (.ref C) f = some none) : FldOk K mg c f := fun C' h => by
  rw [o.m] at h; cases h
  exact ⟨o.i.cl, n⟩
def SubRow (K : PySem.W.Frag) (mg : Str → Option Value) (t : Str × Str × Bool) : Prop := ∀ C Cx, mg t.1 = some (.ref C) → mg t.2.1 = some (.ref Cx) → PySem.W.exmOne K (.ref C) (.ref Cx) = some t.2.2
theorem SubRow.of (X : K.In h) (G : h.Ns mainGlobals mg) {c x : Str} {b : Bool} {C Cx : Addr} (a : PySem.W.nsIn K mainGlobals c = some (some (.ref C))) (ax : PySem.W.nsIn K mainGlobals x = some (some (.ref Cx)))
    (e : PySem.W.subIn K (.ref Cx) (.type "BaseException") = some true) (i : PySem.W.isClsIn K Cx = true) (tC : PySem.W.typeIn K (.ref Cx) = some (.type "type")) (s : PySem.W.subIn K (.ref C) (.ref Cx) = some b) : SubRow K mg (c, x, b) := by
  intro C' Cx' h1 h2
  rw [PySem.W.mg_of X G a] at h1
  rw [PySem.W.mg_of X G ax] at h2
  cases h1; cases h2
  exact exm_sub e i tC s
end
end MK
namespace MK
open PySem L2
class Rule (P : Prop) (H : outParam Prop) : Prop where
  ok : H → P
abbrev EX := Str → Str → IV → Sto → Prop
def we {α : Type} (m : M α) (st : Sto) (E : EX) (Q : α → Sto → Prop) : Prop := ∃ r st', m st = some (r, st') ∧ match r with
  | .val a => Q a st'
  | .exc c f v => E c f v st'
abbrev noX : EX := fun _ _ _ _ => False
section
variable {α β : Type} {m : M α} {k : α → M β} {st : Sto} {E : EX} {Q : α → Sto → Prop} {R : β → Sto → Prop}
theorem we_run {a : α} {st' : Sto} (e : m st = some (.val a, st')) (q : Q a st') : we m st E Q := ⟨_, _, e, q⟩
theorem we_mono {Q' : α → Sto → Prop} (h : we m st E Q) (i : ∀ a st', Q a st' → Q' a st') : we m st E Q' := by
  obtain ⟨r, st', e, q⟩ := h
  refine ⟨r, st', e, ?_⟩
  cases r with
  | val a => exact i _ _ q
  | exc c f v => exact q
theorem we_monoX {E' : EX} {Q' : α → Sto → Prop} (h : we m st E Q) (j : ∀ c f v st', E c f v st' → E' c f v st') (i : ∀ a st', Q a st' → Q' a st') : we m st E' Q' := by
  obtain ⟨r, st', e, q⟩ := h
  refine ⟨r, st', e, ?_⟩
  cases r with
  | val a => exact i _ _ q
  | exc c f v => exact j _ _ _ _ q
theorem we_nox {Q' : α → Sto → Prop} (h : we m st noX Q) (i : ∀ a st', Q a st' → Q' a st') : we m st E Q' := we_monoX h (fun _ _ _ _ z => z.elim) i
theorem we_bind (h : we m st E fun a st' => we (k a) st' E R) : we (M.bind m k) st E R := by
  obtain ⟨r, st', e, q⟩ := h
  cases r with
  | val a =>
    obtain ⟨r2, st2, e2, q2⟩ := q
    exact ⟨r2, st2, by rw [M.bind_run e]; exact e2, q2⟩
  | exc c f v => exact ⟨_, _, M.bind_run_exc e, q⟩
theorem we_noxM (h : we m st noX Q) : we (M.nox m) st E Q := by
  obtain ⟨r, st', e, q⟩ := h
  cases r with
  | val a => exact ⟨_, _, M.nox_run e, q⟩
  | exc c f v => exact q.elim
theorem we_lift {m : Loc → M α} {k : α → Loc → M Fl} {ls : Loc} {R : Fl → Sto → Prop} (h : we (m ls) st (fun c f v st' => R (.ex ls c f v) st') fun a st' => we (k a ls) st' E R) : we (liftS m k ls) st E R := by
  obtain ⟨r, st', e, q⟩ := h
  cases r with
  | val a =>
    obtain ⟨r2, st2, e2, q2⟩ := q
    exact ⟨r2, st2, by unfold liftS; rw [e]; exact e2, q2⟩
  | exc c f v => exact ⟨.val (.ex ls c f v), st', by unfold liftS; rw [e], q⟩
end
section
variable {st : Sto} {E : EX} {ls : Loc} {Q : IV → Sto → Prop} {QA : List IV → Sto → Prop} {QB : Bool → Sto → Prop} {QF : Fl → Sto → Prop} {fa fb fc m : ME} {ga : MA} {c tc ta tb : MT} {f g : MS}
theorem we_var {i : Nat} {v : IV} (h : ls[i]? = some (some v)) (q : Q v st) : we (mVar i ls) st E Q := by
  refine ⟨.val v, st, ?_, q⟩
  unfold mVar
  rw [h]; rfl
theorem we_c {v : IV} (q : Q v st) : we (mC v ls) st E Q := ⟨_, _, rfl, q⟩
instance i_we_c {v : IV} : Rule (we (mC v ls) st E Q) (Q v st) := ⟨we_c⟩
theorem we_m2 {o : Sto → IV → IV → Option IV} (h : we (fa ls) st E fun a st1 => we (fb ls) st1 E fun b st2 => ∃ v, o st2 a b = some v ∧ Q v st2) : we (m2 o fa fb ls) st E Q :=
  we_bind (we_mono h fun a st1 h1 => we_bind (we_mono h1 fun b st2 ⟨v, e, q⟩ => ⟨.val v, st2, by unfold opM; rw [e]; rfl, q⟩))
instance i_we_m2 {o : Sto → IV → IV → Option IV} : Rule (we (m2 o fa fb ls) st E Q) (we (fa ls) st E fun a st1 => we (fb ls) st1 E fun b st2 => ∃ v, o st2 a b = some v ∧ Q v st2) := ⟨we_m2⟩
theorem we_m1 {o : IV → Option IV} (h : we (fa ls) st E fun a st1 => ∃ v, o a = some v ∧ Q v st1) : we (m1 o fa ls) st E Q :=
  we_bind (we_mono h fun a st1 ⟨v, e, q⟩ => ⟨.val v, st1, by rw [e]; rfl, q⟩)
instance i_we_m1 {o : IV → Option IV} : Rule (we (m1 o fa ls) st E Q) (we (fa ls) st E fun a st1 => ∃ v, o a = some v ∧ Q v st1) := ⟨we_m1⟩
theorem we_B (h : we (m ls) st E fun v st1 => ∃ b, v = .bl b ∧ QB b st1) : we (mB m ls) st E QB :=
  we_bind (we_mono h fun a st1 ⟨v, e, q⟩ => by subst e; exact ⟨_, _, rfl, q⟩)
instance i_we_B  : Rule (we (mB m ls) st E QB) (we (m ls) st E fun v st1 => ∃ b, v = .bl b ∧ QB b st1) := ⟨we_B⟩
theorem we_T (h : we (m ls) st E fun v st1 => ∃ b, truthI st1 v = some b ∧ QB b st1) : we (mT m ls) st E QB :=
  we_bind (we_mono h fun a st1 ⟨v, e, q⟩ => ⟨.val v, st1, by unfold truthM; rw [e]; rfl, q⟩)
instance i_we_T  : Rule (we (mT m ls) st E QB) (we (m ls) st E fun v st1 => ∃ b, truthI st1 v = some b ∧ QB b st1) := ⟨we_T⟩
theorem we_not (h : we (tc ls) st E fun b st1 => QB (!b) st1) : we (mNot tc ls) st E QB := we_bind (we_mono h fun a st1 q => ⟨_, _, rfl, q⟩)
instance i_we_not  : Rule (we (mNot tc ls) st E QB) (we (tc ls) st E fun b st1 => QB (!b) st1) := ⟨we_not⟩
theorem we_notV (h : we (m ls) st E fun v st1 => ∃ b, truthI st1 v = some b ∧ Q (.bl (!b)) st1) : we (mNotV m ls) st E Q :=
  we_bind (we_mono h fun a st1 ⟨b, e, q⟩ => we_bind ⟨.val b, st1, by unfold truthM; rw [e]; rfl, ⟨_, _, rfl, q⟩⟩)
instance i_we_notV  : Rule (we (mNotV m ls) st E Q) (we (m ls) st E fun v st1 => ∃ b, truthI st1 v = some b ∧ Q (.bl (!b)) st1) := ⟨we_notV⟩
theorem we_ite {α : Type} {t f : Loc → M α} {Q : α → Sto → Prop} (h : we (c ls) st E fun b st1 => (b = true → we (t ls) st1 E Q) ∧ (b = false → we (f ls) st1 E Q)) : we (mIte c t f ls) st E Q :=
  we_bind (we_mono h fun b st1 ⟨h1, h2⟩ => by
    cases b with
    | true => exact h1 rfl
    | false => exact h2 rfl)
instance i_we_ite {α : Type} {t f : Loc → M α} {Q : α → Sto → Prop} : Rule (we (mIte c t f ls) st E Q) (we (c ls) st E fun b st1 => (b = true → we (t ls) st1 E Q) ∧ (b = false → we (f ls) st1 E Q)) := ⟨we_ite⟩
theorem we_TB {b : Bool} (q : QB b st) : we (mTB b ls) st E QB := ⟨_, _, rfl, q⟩
instance i_we_TB {b : Bool} : Rule (we (mTB b ls) st E QB) (QB b st) := ⟨we_TB⟩
theorem we_andV (h : we (fa ls) st E fun v st1 => ∃ b, truthI st1 v = some b ∧ (b = true → we (fb ls) st1 E Q) ∧ (b = false → Q v st1)) : we (mAndV fa fb ls) st E Q :=
  we_bind (we_mono h fun v st1 ⟨b, e, h1, h2⟩ => we_bind ⟨.val b, st1, by unfold truthM; rw [e]; rfl, by
    cases b with
    | true => exact h1 rfl
    | false => exact ⟨_, _, rfl, h2 rfl⟩⟩)
instance i_we_andV  : Rule (we (mAndV fa fb ls) st E Q) (we (fa ls) st E fun v st1 => ∃ b, truthI st1 v = some b ∧ (b = true → we (fb ls) st1 E Q) ∧ (b = false → Q v st1)) := ⟨we_andV⟩
theorem we_chain {o o' : Sto → IV → IV → Option IV} (h : we (fa ls) st E fun a st1 => we (fb ls) st1 E fun b st2 => ∃ z, o st2 a b = some (.bl z) ∧ (z = true → we (fc ls) st2 E fun w st3 => ∃ v, o' st3 b w = some v ∧ Q v st3) ∧ (z = false → Q (.bl false) st2)) : we (mChain o o' fa fb fc ls) st E Q :=
  we_bind (we_mono h fun a st1 h1 => we_bind (we_mono h1 fun b st2 ⟨z, e, h2, h3⟩ => we_bind ⟨.val (.bl z), st2, by unfold opM; rw [e]; rfl, by
    cases z with
    | true => exact we_bind (we_mono (h2 rfl) fun w st3 ⟨v, e, q⟩ => ⟨.val v, st3, by unfold opM; rw [e]; rfl, q⟩)
    | false => exact ⟨_, _, rfl, h3 rfl⟩⟩))
instance i_we_chain {o o' : Sto → IV → IV → Option IV} : Rule (we (mChain o o' fa fb fc ls) st E Q) (we (fa ls) st E fun a st1 => we (fb ls) st1 E fun b st2 => ∃ z, o st2 a b = some (.bl z) ∧ (z = true → we (fc ls) st2 E fun w st3 => ∃ v, o' st3 b w = some v ∧ Q v st3) ∧ (z = false → Q (.bl false) st2)) := ⟨we_chain⟩
theorem we_nil (q : QA [] st) : we (mNil ls) st E QA := ⟨_, _, rfl, q⟩
instance i_we_nil  : Rule (we (mNil ls) st E QA) (QA [] st) := ⟨we_nil⟩
theorem we_cons (h : we (fa ls) st E fun v st1 => we (ga ls) st1 E fun l st2 => QA (v :: l) st2) : we (mCons fa ga ls) st E QA :=
  we_bind (we_mono h fun v st1 h1 => we_bind (we_mono h1 fun l st2 q => ⟨_, _, rfl, q⟩))
instance i_we_cons  : Rule (we (mCons fa ga ls) st E QA) (we (fa ls) st E fun v st1 => we (ga ls) st1 E fun l st2 => QA (v :: l) st2) := ⟨we_cons⟩
theorem we_tup (h : we (ga ls) st E fun l st1 => l.length ≤ 16777216 ∧ Q (.tup l) st1) : we (mTup ga ls) st E Q :=
  we_bind (we_mono h fun l st1 ⟨z, q⟩ => by rw [if_pos z]; exact ⟨_, _, rfl, q⟩)
instance i_we_tup  : Rule (we (mTup ga ls) st E Q) (we (ga ls) st E fun l st1 => l.length ≤ 16777216 ∧ Q (.tup l) st1) := ⟨we_tup⟩
theorem we_newF {l : List IV} (q : Q (.lst l) st) : we (newL false l) st E Q := ⟨_, _, rfl, q⟩
instance i_we_newF {l : List IV} : Rule (we (newL false l) st E Q) (Q (.lst l) st) := ⟨we_newF⟩
theorem we_newT {l : List IV} (p : pureL l = true) (q : Q (.cell st.length) (st ++ [.lst l])) : we (newL true l) st E Q := ⟨.val (.cell st.length), _, by unfold newL; simp only [p, if_true], q⟩
theorem we_lst {b : Bool} (h : we (ga ls) st E fun l st1 => l.length ≤ 16777216 ∧ we (newL b l) st1 E Q) : we (mLst b ga ls) st E Q :=
  we_bind (we_mono h fun l st1 ⟨z, q⟩ => by rw [if_pos z]; exact q)
instance i_we_lst {b : Bool} : Rule (we (mLst b ga ls) st E Q) (we (ga ls) st E fun l st1 => l.length ≤ 16777216 ∧ we (newL b l) st1 E Q) := ⟨we_lst⟩
theorem we_call {g : List IV → M IV} (h : we (ga ls) st E fun l st1 => we (g l) st1 E Q) : we (mCall g ga ls) st E Q := we_bind h
instance i_we_call {g : List IV → M IV} : Rule (we (mCall g ga ls) st E Q) (we (ga ls) st E fun l st1 => we (g l) st1 E Q) := ⟨we_call⟩
theorem we_pv1 {o : Sto → IV → Option IV} {a v : IV} (e : o st a = some v) (q : Q v st) : we (pv1 o [a]) st E Q := ⟨.val v, st, by unfold pv1; simp only [e]; rfl, q⟩
theorem we_pv2 {o : Sto → IV → IV → Option IV} {a b v : IV} (e : o st a b = some v) (q : Q v st) : we (pv2 o [a, b]) st E Q := ⟨.val v, st, by unfold pv2; simp only [e]; rfl, q⟩
theorem we_callD {n : Nat} {g : List IV → M IV} (h : we (ga ls) st E fun l st1 => l.length = n ∧ we (g l) st1 E Q) : we (mCallD n g ga ls) st E Q :=
  we_bind (we_mono h fun l st1 ⟨z, q⟩ => by rw [if_pos z]; exact q)
instance i_we_callD {n : Nat} {g : List IV → M IV} : Rule (we (mCallD n g ga ls) st E Q) (we (ga ls) st E fun l st1 => l.length = n ∧ we (g l) st1 E Q) := ⟨we_callD⟩
theorem we_isi {T : Ty} (h : we (m ls) st E fun v st1 => ∃ t, tyI st1 v = some t ∧ Q (.bl (t.isa T)) st1) : we (mIsi T m ls) st E Q :=
  we_bind (we_mono h fun v st1 ⟨t, e, q⟩ => ⟨.val (.bl (t.isa T)), st1, by unfold isiM; rw [e]; rfl, q⟩)
instance i_we_isi {T : Ty} : Rule (we (mIsi T m ls) st E Q) (we (m ls) st E fun v st1 => ∃ t, tyI st1 v = some t ∧ Q (.bl (t.isa T)) st1) := ⟨we_isi⟩
theorem we_isC {c : Str} {os : List Str} (h : we (m ls) st E fun v st1 => ∃ t b, tyA st1 v = some t ∧ isC c os t = some b ∧ Q (.bl b) st1) : we (mIsC c os m ls) st E Q :=
  we_bind (we_mono h fun v st1 ⟨t, b, e, e2, q⟩ => ⟨.val (.bl b), st1, by unfold isCM; rw [e]; show ((isC c os t).map fun b => (OX.val (IV.bl b), st1)) = _; rw [e2]; rfl, q⟩)
instance i_we_isC {c : Str} {os : List Str} : Rule (we (mIsC c os m ls) st E Q) (we (m ls) st E fun v st1 => ∃ t b, tyA st1 v = some t ∧ isC c os t = some b ∧ Q (.bl b) st1) := ⟨we_isC⟩
theorem we_fld {c f : Str} (h : we (m ls) st E fun v st1 => ∃ w, fldM c f v st1 = some (.val w, st1) ∧ Q w st1) : we (mFld c f m ls) st E Q :=
  we_bind (we_mono h fun v st1 ⟨w, e, q⟩ => ⟨.val w, st1, e, q⟩)
instance i_we_fld {c f : Str} : Rule (we (mFld c f m ls) st E Q) (we (m ls) st E fun v st1 => ∃ w, fldM c f v st1 = some (.val w, st1) ∧ Q w st1) := ⟨we_fld⟩
theorem we_recv {n : Nat} {k : List IV} {Q : IV → Sto → Prop} (e : st[n]? = some (.lst k)) (q : Q (.cell n) st) : we (recvM (.cell n)) st E Q := ⟨.val (.cell n), st, by unfold recvM lstOf; simp only [e], q⟩
theorem we_mt {o : IV → List IV → M IV} (h : we (m ls) st E fun v st1 => ∃ n k, v = .cell n ∧ st1[n]? = some (.lst k) ∧ we (ga ls) st1 E fun l st2 => we (o (.cell n) l) st2 E Q) : we (mMt o m ga ls) st E Q :=
  we_bind (we_mono h fun v st1 ⟨n, k, e, z, h1⟩ => by
    subst e
    exact we_bind (we_recv z (we_bind h1)))
instance i_we_mt {o : IV → List IV → M IV} : Rule (we (mMt o m ga ls) st E Q) (we (m ls) st E fun v st1 => ∃ n k, v = .cell n ∧ st1[n]? = some (.lst k) ∧ we (ga ls) st1 E fun l st2 => we (o (.cell n) l) st2 E Q) := ⟨we_mt⟩
theorem we_app {n : Nat} {k : List IV} {x : IV} (e : st[n]? = some (.lst k)) (p : x.pure = true) (z : k.length < 16777216) (q : Q .non (st.set n (.lst (k ++ [x])))) : we (appM (.cell n) [x]) st E Q :=
  ⟨.val .non, _, by unfold appM; simp only [e, p, z, and_self, if_true], q⟩
theorem we_ins {n : Nat} {k : List IV} {x : IV} {i : Int} (e : st[n]? = some (.lst k)) (p : x.pure = true) (z : k.length < 16777216) (h0 : 0 ≤ i) (h1 : i < 2 ^ 63) (q : Q .non (st.set n (.lst (k.take i.toNat ++ [x] ++ k.drop i.toNat)))) : we (insM (.cell n) [.int i, x]) st E Q :=
  ⟨.val .non, _, by unfold insM; simp only [e, p, z, h0, h1, and_self, if_true], q⟩
theorem we_noPart {Q : Option Int → Sto → Prop} (q : Q none st) : we (mNoPart ls) st E Q := ⟨_, _, rfl, q⟩
instance i_we_noPart {Q : Option Int → Sto → Prop} : Rule (we (mNoPart ls) st E Q) (Q none st) := ⟨we_noPart⟩
theorem we_part {Q : Option Int → Sto → Prop} (h : we (m ls) st E fun v st1 => ∃ i, v = .int i ∧ Q (some i) st1) : we (mPart m ls) st E Q :=
  we_bind (we_mono h fun v st1 ⟨i, e, q⟩ => by subst e; exact ⟨_, _, rfl, q⟩)
instance i_we_part {Q : Option Int → Sto → Prop} : Rule (we (mPart m ls) st E Q) (we (m ls) st E fun v st1 => ∃ i, v = .int i ∧ Q (some i) st1) := ⟨we_part⟩
theorem we_sl {b : Bool} {lo hi : MO} (h : we (m ls) st E fun v st1 => we (lo ls) st1 E fun l st2 => we (hi ls) st2 E fun h st3 => we (slM b v l h) st3 E Q) : we (mSl b m lo hi ls) st E Q :=
  we_bind (we_mono h fun v st1 h1 => we_bind (we_mono h1 fun l st2 h2 => we_bind h2))
instance i_we_sl {b : Bool} {lo hi : MO} : Rule (we (mSl b m lo hi ls) st E Q) (we (m ls) st E fun v st1 => we (lo ls) st1 E fun l st2 => we (hi ls) st2 E fun h st3 => we (slM b v l h) st3 E Q) := ⟨we_sl⟩
theorem we_lc {b : Bool} {src : MI} {vs : List Nat} {t : MG} (h : we (src ls) st E fun p st1 => we (compL t tc m p.1 p.2 (wipeI ls vs) p.1) st1 noX fun l st2 => l.length ≤ 16777215 ∧ we (newL b l) st2 E Q) : we (mLc b src vs t tc m ls) st E Q :=
  we_bind (we_mono h fun p st1 h1 => we_bind (we_noxM (we_mono h1 fun l st2 ⟨z, q⟩ => by rw [if_pos z]; exact q)))
instance i_we_lc {b : Bool} {src : MI} {vs : List Nat} {t : MG} : Rule (we (mLc b src vs t tc m ls) st E Q) (we (src ls) st E fun p st1 => we (compL t tc m p.1 p.2 (wipeI ls vs) p.1) st1 noX fun l st2 => l.length ≤ 16777215 ∧ we (newL b l) st2 E Q) := ⟨we_lc⟩
theorem compL_inv {t : MG} {l0 : List IV} {k : Option Nat} {Q : List IV → Sto → Prop} (I : List IV → List IV → Sto → Prop)
    (nil : ∀ acc st, I [] acc st → srcOk k l0 st) (step : ∀ v r acc st, I (v :: r) acc st → srcOk k l0 st ∧ ∃ ls1, t ls v = some ls1 ∧ we (tc ls1) st noX fun b st1 => (b = true → we (m ls1) st1 noX fun y st2 => I r (acc ++ [y]) st2) ∧ (b = false → I r acc st1)) :
    ∀ (r acc : List IV) (st : Sto), I r acc st → (∀ l st', I [] (acc ++ l) st' → Q l st') → we (compL t tc m l0 k ls r) st noX Q
  | [], acc, st, h, q => ⟨.val [], st, by unfold compL; rw [if_pos (nil _ _ h)], q [] st (by simpa using h)⟩
  | v :: r, acc, st, h, q => by
    obtain ⟨z, ls1, e, hw⟩ := step v r acc st h
    have key : we (M.bind (M.nox (tc ls1)) fun b => if b = true then M.bind (M.nox (m ls1)) fun y => M.bind (compL t tc m l0 k ls r) fun ys => M.ret (y :: ys) else compL t tc m l0 k ls r) st noX Q := by
      refine we_bind (we_noxM (we_mono hw fun b st1 ⟨h1, h2⟩ => ?_))
      cases b with
      | true =>
        refine we_bind (we_noxM (we_mono (h1 rfl) fun y st2 hy => we_bind (we_mono (compL_inv I nil step r (acc ++ [y]) st2 hy (Q := fun l st' => I [] (acc ++ [y] ++ l) st') fun l st' h => h) fun l st3 h3 => ?_)))
        exact ⟨_, _, rfl, q _ _ (by simpa using h3)⟩
      | false => exact compL_inv I nil step r acc st1 (h2 rfl) q
    obtain ⟨r1, s1, e1, q1⟩ := key
    exact ⟨r1, s1, by unfold compL; rw [if_pos z, e]; exact e1, q1⟩
theorem compL_pure {t : MG} {l0 : List IV} {k : Option Nat} {Q : List IV → Sto → Prop} {r : List IV} (pc : IV → Bool) (pe : IV → IV) (z : srcOk k l0 st) (step : ∀ v ∈ r, ∃ ls1, t ls v = some ls1 ∧ tc ls1 st = some (.val (pc v), st) ∧ (pc v = true → m ls1 st = some (.val (pe v), st)))
    (q : Q ((r.filter pc).map pe) st) : we (compL t tc m l0 k ls r) st noX Q := by
  refine ⟨.val ((r.filter pc).map pe), st, ?_, q⟩
  clear q
  induction r with
  | nil => unfold compL; rw [if_pos z]; rfl
  | cons v r ih =>
    obtain ⟨ls1, e1, e2, e3⟩ := step v List.mem_cons_self
    have ih' := ih fun w hw => step w (List.mem_cons_of_mem _ hw)
    unfold compL
    rw [if_pos z, e1]
    show M.bind (M.nox (tc ls1)) _ st = _
    rw [M.bind_run (M.nox_run e2)]
    cases q : pc v with
    | true =>
      rw [if_pos rfl, M.bind_run (M.nox_run (e3 q)), M.bind_run ih', List.filter_cons_of_pos q]
      rfl
    | false =>
      rw [if_neg (by decide), List.filter_cons_of_neg (by rw [q]; decide)]
      exact ih'
theorem we_src {QS : Src → Sto → Prop} (h : we (m ls) st E fun v st1 => ∃ p, srcM v st1 = some (.val p, st1) ∧ QS p st1) : we (mSrc m ls) st E QS := we_bind (we_mono h fun v st1 ⟨p, e, q⟩ => ⟨_, _, e, q⟩)
instance i_we_src {QS : Src → Sto → Prop} : Rule (we (mSrc m ls) st E QS) (we (m ls) st E fun v st1 => ∃ p, srcM v st1 = some (.val p, st1) ∧ QS p st1) := ⟨we_src⟩
theorem we_rng1 {QS : Src → Sto → Prop} (h : we (ga ls) st E fun l st1 => ∃ j, l = [.int j] ∧ (-(2 ^ 62) ≤ j ∧ j < 2 ^ 62) ∧ QS (rangeI 0 j.toNat, none) st1) : we (mRng1 ga ls) st E QS :=
  we_bind (we_mono h fun v st1 ⟨j, e, z, q⟩ => by subst e; exact ⟨.val (rangeI 0 j.toNat, none), st1, by unfold rng1M; simp only [z, and_self, if_true], q⟩)
instance i_we_rng1 {QS : Src → Sto → Prop} : Rule (we (mRng1 ga ls) st E QS) (we (ga ls) st E fun l st1 => ∃ j, l = [.int j] ∧ (-(2 ^ 62) ≤ j ∧ j < 2 ^ 62) ∧ QS (rangeI 0 j.toNat, none) st1) := ⟨we_rng1⟩
theorem we_seq (h : we (f ls) st E fun fl st1 => match fl with | .nx ls' => we (g ls') st1 E QF | fl => QF fl st1) : we (mSeq f g ls) st E QF :=
  we_bind (we_mono h fun fl st1 h1 => by
    cases fl with
    | nx ls' => exact h1
    | rt v => exact ⟨_, _, rfl, h1⟩
    | bk l => exact ⟨_, _, rfl, h1⟩
    | ct l => exact ⟨_, _, rfl, h1⟩
    | ex l c f v => exact ⟨_, _, rfl, h1⟩)
instance i_we_seq  : Rule (we (mSeq f g ls) st E QF) (we (f ls) st E fun fl st1 => match fl with | .nx ls' => we (g ls') st1 E QF | fl => QF fl st1) := ⟨we_seq⟩
theorem we_pass (q : QF (.nx ls) st) : we (mPass ls) st E QF := ⟨_, _, rfl, q⟩
instance i_we_pass  : Rule (we (mPass ls) st E QF) (QF (.nx ls) st) := ⟨we_pass⟩
theorem we_expr (h : we (m ls) st (fun c f v st1 => QF (.ex ls c f v) st1) fun _ st1 => QF (.nx ls) st1) : we (mExpr m ls) st E QF := we_lift (we_mono h fun _ _ q => ⟨_, _, rfl, q⟩)
instance i_we_expr  : Rule (we (mExpr m ls) st E QF) (we (m ls) st (fun c f v st1 => QF (.ex ls c f v) st1) fun _ st1 => QF (.nx ls) st1) := ⟨we_expr⟩
theorem we_rt (h : we (m ls) st (fun c f v st1 => QF (.ex ls c f v) st1) fun v st1 => QF (.rt v) st1) : we (mRet m ls) st E QF := we_lift (we_mono h fun _ _ q => ⟨_, _, rfl, q⟩)
instance i_we_rt  : Rule (we (mRet m ls) st E QF) (we (m ls) st (fun c f v st1 => QF (.ex ls c f v) st1) fun v st1 => QF (.rt v) st1) := ⟨we_rt⟩
theorem we_if (h : we (tc ls) st (fun c f v st1 => QF (.ex ls c f v) st1) fun b st1 => (b = true → we (f ls) st1 E QF) ∧ (b = false → we (g ls) st1 E QF)) : we (mIfS tc f g ls) st E QF :=
  we_lift (we_mono h fun b st1 ⟨h1, h2⟩ => by
    cases b with
    | true => exact h1 rfl
    | false => exact h2 rfl)
instance i_we_if  : Rule (we (mIfS tc f g ls) st E QF) (we (tc ls) st (fun c f v st1 => QF (.ex ls c f v) st1) fun b st1 => (b = true → we (f ls) st1 E QF) ∧ (b = false → we (g ls) st1 E QF)) := ⟨we_if⟩
theorem we_set {i : Nat} (h : we (m ls) st (fun c f v st1 => QF (.ex ls c f v) st1) fun v st1 => QF (.nx (ls.set i (some v))) st1) : we (mSet i m ls) st E QF := we_lift (we_mono h fun _ _ q => ⟨_, _, rfl, q⟩)
instance i_we_set {i : Nat} : Rule (we (mSet i m ls) st E QF) (we (m ls) st (fun c f v st1 => QF (.ex ls c f v) st1) fun v st1 => QF (.nx (ls.set i (some v))) st1) := ⟨we_set⟩
theorem we_asg {t : MG} (h : we (m ls) st (fun c f v st1 => QF (.ex ls c f v) st1) fun v st1 => ∃ ls', t ls v = some ls' ∧ QF (.nx ls') st1) : we (mAsg t m ls) st E QF :=
  we_lift (we_mono h fun v st1 ⟨ls', e, q⟩ => ⟨.val (.nx ls'), st1, by rw [e]; rfl, q⟩)
instance i_we_asg {t : MG} : Rule (we (mAsg t m ls) st E QF) (we (m ls) st (fun c f v st1 => QF (.ex ls c f v) st1) fun v st1 => ∃ ls', t ls v = some ls' ∧ QF (.nx ls') st1) := ⟨we_asg⟩
theorem we_par {is : List Nat} (h : we (ga ls) st (fun c f v st1 => QF (.ex ls c f v) st1) fun l st1 => ∃ ls', setAll is l ls = some ls' ∧ QF (.nx ls') st1) : we (mPar is ga ls) st E QF :=
  we_lift (we_mono h fun v st1 ⟨ls', e, q⟩ => ⟨.val (.nx ls'), st1, by rw [e]; rfl, q⟩)
instance i_we_par {is : List Nat} : Rule (we (mPar is ga ls) st E QF) (we (ga ls) st (fun c f v st1 => QF (.ex ls c f v) st1) fun l st1 => ∃ ls', setAll is l ls = some ls' ∧ QF (.nx ls') st1) := ⟨we_par⟩
theorem we_put {i : ME} (h : we (m ls) st (fun c f v st1 => QF (.ex ls c f v) st1) fun v st1 => we (fa ls) st1 (fun c f v st1 => QF (.ex ls c f v) st1) fun a st2 => we (i ls) st2 (fun c f v st1 => QF (.ex ls c f v) st1) fun k st3 =>
    ∃ n j k' l, a = .cell n ∧ k = .int j ∧ st3[n]? = some (.lst l) ∧ ixN l.length j = some k' ∧ v.pure = true ∧ QF (.nx ls) (st3.set n (.lst (l.set k' v)))) : we (mPut fa i m ls) st E QF :=
  we_lift (we_bind (we_mono h fun v st1 h1 => we_bind (we_mono h1 fun a st2 h2 => we_bind (we_mono h2 fun k st3 ⟨n, j, k', l, ea, ek, e1, e2, p, q⟩ => by
    subst ea ek
    exact ⟨.val (), _, by unfold putM; simp only [e1, e2, p, if_true], ⟨_, _, rfl, q⟩⟩))))
instance i_we_put {i : ME} : Rule (we (mPut fa i m ls) st E QF) (we (m ls) st (fun c f v st1 => QF (.ex ls c f v) st1) fun v st1 => we (fa ls) st1 (fun c f v st1 => QF (.ex ls c f v) st1) fun a st2 => we (i ls) st2 (fun c f v st1 => QF (.ex ls c f v) st1) fun k st3 =>
    ∃ n j k' l, a = .cell n ∧ k = .int j ∧ st3[n]? = some (.lst l) ∧ ixN l.length j = some k' ∧ v.pure = true ∧ QF (.nx ls) (st3.set n (.lst (l.set k' v)))) := ⟨we_put⟩
theorem we_raise {c fd : Str} (h : we (m ls) st (fun c f v st1 => QF (.ex ls c f v) st1) fun v st1 => QF (.ex ls c fd v) st1) : we (mRaise c fd m ls) st E QF := we_lift (we_mono h fun _ _ q => ⟨_, _, rfl, q⟩)
instance i_we_raise {c fd : Str} : Rule (we (mRaise c fd m ls) st E QF) (we (m ls) st (fun c f v st1 => QF (.ex ls c f v) st1) fun v st1 => QF (.ex ls c fd v) st1) := ⟨we_raise⟩
theorem we_for {src : MI} {t : MG} (h : we (src ls) st (fun c f v st1 => QF (.ex ls c f v) st1) fun p st1 => we (forL t f p.1 p.2 p.1 ls) st1 E QF) : we (mFor src t f ls) st E QF := we_lift h
instance i_we_for {src : MI} {t : MG} : Rule (we (mFor src t f ls) st E QF) (we (src ls) st (fun c f v st1 => QF (.ex ls c f v) st1) fun p st1 => we (forL t f p.1 p.2 p.1 ls) st1 E QF) := ⟨we_for⟩
theorem forL_inv {t : MG} {l0 : List IV} {k : Option Nat} (I : List IV → Loc → Sto → Prop) (nil : ∀ ls st, I [] ls st → srcOk k l0 st ∧ QF (.nx ls) st)
    (step : ∀ v r ls st, I (v :: r) ls st → srcOk k l0 st ∧ ∃ ls1, t ls v = some ls1 ∧ we (f ls1) st E fun fl st1 => match fl with
      | .nx ls2 => I r ls2 st1
      | .ct ls2 => I r ls2 st1
      | .bk ls2 => QF (.nx ls2) st1
      | fl => QF fl st1) : ∀ (r : List IV) (ls : Loc) (st : Sto), I r ls st → we (forL t f l0 k r ls) st E QF
  | [], ls, st, h => ⟨.val (.nx ls), st, by unfold forL; rw [if_pos (nil _ _ h).1], (nil _ _ h).2⟩
  | v :: r, ls, st, h => by
    obtain ⟨z, ls1, e, hw⟩ := step v r ls st h
    have key := we_bind (k := fun fl => match fl with
      | .nx ls2 => forL t f l0 k r ls2
      | .ct ls2 => forL t f l0 k r ls2
      | .bk ls2 => M.ret (.nx ls2)
      | fl => M.ret fl) (R := QF) (we_mono hw fun fl st1 h1 => by
      cases fl with
      | nx ls2 => exact forL_inv I nil step r ls2 st1 h1
      | ct ls2 => exact forL_inv I nil step r ls2 st1 h1
      | bk ls2 => exact ⟨_, _, rfl, h1⟩
      | rt v => exact ⟨_, _, rfl, h1⟩
      | ex l c f v => exact ⟨_, _, rfl, h1⟩)
    obtain ⟨r1, s1, e1, q1⟩ := key
    exact ⟨r1, s1, by unfold forL; rw [if_pos z, e]; exact e1, q1⟩
end
def closeP (keep : Bool) (k : Nat) (Q : IV → Sto → Prop) (v : IV) (st : Sto) : Prop := ∃ w st', closeM keep k v st = some (.val w, st') ∧ Q w st'
theorem we_fin {keep : Bool} {n : Nat} {body : MS} {l : List IV} {st : Sto} {E : EX} {Q : IV → Sto → Prop} (h : we (body (l.map some ++ List.replicate (n - l.length) none)) st noX fun fl st1 => match fl with
    | .nx _ => closeP keep st.length Q .non st1
    | .rt v => closeP keep st.length Q v st1
    | .ex _ c f v => (st1.length = st.length ∧ E c f v st1) ∨ (st1.length ≠ st.length ∧ v.pure = true ∧ E c f v (st1.take st.length))
    | _ => False) : we (finM keep n body l) st E Q := by
  obtain ⟨r, st1, e, q⟩ := h
  cases r with
  | exc c f v => exact q.elim
  | val fl =>
    cases fl with
    | nx ls =>
      obtain ⟨w, st', e2, q2⟩ := q
      exact ⟨.val w, st', by unfold finM; rw [e]; exact e2, q2⟩
    | rt v =>
      obtain ⟨w, st', e2, q2⟩ := q
      exact ⟨.val w, st', by unfold finM; rw [e]; exact e2, q2⟩
    | bk ls => exact q.elim
    | ct ls => exact q.elim
    | ex ls c f v =>
      rcases q with ⟨z, q⟩ | ⟨z, p, q⟩
      · exact ⟨.exc c f v, st1, by unfold finM; rw [e]; simp only [z, if_true], q⟩
      · exact ⟨.exc c f v, st1.take st.length, by unfold finM; rw [e]; simp only [z, if_false, p, if_true], q⟩
section
variable {keep : Bool} {k : Nat} {st : Sto} {Q : IV → Sto → Prop} {v : IV}
theorem close_len (h : st.length = k) (q : Q v st) : closeP keep k Q v st := ⟨v, st, by unfold closeM; rw [if_pos (.inr h)], q⟩
theorem close_keep (q : Q v st) : closeP true k Q v st := ⟨v, st, by unfold closeM; rw [if_pos (.inl rfl)], q⟩
theorem close_pure (p : v.pure = true) (q : Q v (st.take k)) (h : k ≤ st.length) : closeP false k Q v st := by
  by_cases e : st.length = k
  · refine close_len e ?_
    rw [List.take_of_length_le (Nat.le_of_eq e)] at q
    exact q
  · refine ⟨v, st.take k, ?_, q⟩
    unfold closeM
    rw [if_neg (by simp [e])]
    cases v with
    | cell n => simp [IV.pure] at p
    | _ => exact if_pos p
theorem close_new {n : Nat} {l : List IV} (hn : k ≤ n) (e : st[n]? = some (.lst l)) (q : Q (.lst l) (st.take k)) : closeP false k Q (.cell n) st := by
  have hlt := (List.getElem?_eq_some_iff.mp e).1
  refine ⟨.lst l, st.take k, ?_, q⟩
  unfold closeM
  rw [if_neg (by simp; omega)]
  show (if n < k then _ else _) = _
  rw [if_neg (by omega), e]
end
end MK
namespace MK
open PySem L2
section
variable {st : Sto} {Q : IV → Prop} {i j : Int} {l k : List IV} {a v : IV} {n : Nat} {x y : Str} {b : Bool}
theorem o_add (q : Q (.int (i + j))) : ∃ v, addI st (.int i) (.int j) = some v ∧ Q v := ⟨_, rfl, q⟩
instance i_o_add  : Rule (∃ v, addI st (.int i) (.int j) = some v ∧ Q v) (Q (.int (i + j))) := ⟨o_add⟩
theorem o_addT (h : l.length + k.length ≤ 16777216) (q : Q (.tup (l ++ k))) : ∃ v, addI st (.tup l) (.tup k) = some v ∧ Q v := ⟨.tup (l ++ k), by simp only [addI, h, if_true], q⟩
theorem o_sub (q : Q (.int (i - j))) : ∃ v, subI st (.int i) (.int j) = some v ∧ Q v := ⟨_, rfl, q⟩
instance i_o_sub  : Rule (∃ v, subI st (.int i) (.int j) = some v ∧ Q v) (Q (.int (i - j))) := ⟨o_sub⟩
theorem log2_lt {m : Int} {k : Nat} (h : m.natAbs < 2 ^ k) (hk : 0 < k) : m.natAbs.log2 < k := by
  by_cases z : m.natAbs = 0
  · rw [z]; simpa using hk
  · exact (Nat.log2_lt z).mpr h
theorem o_mul (h1 : -(2 ^ 200) < i ∧ i < 2 ^ 200) (h2 : -(2 ^ 200) < j ∧ j < 2 ^ 200) (q : Q (.int (i * j))) : ∃ v, mulI st (.int i) (.int j) = some v ∧ Q v := by
  refine ⟨_, ?_, q⟩
  have l1 : i.natAbs.log2 < 200 := log2_lt (by omega) (by decide)
  have l2 : j.natAbs.log2 < 200 := log2_lt (by omega) (by decide)
  simp only [mulI]
  rw [if_pos (by omega)]
theorem o_div (h : 0 < j ∧ j < 2 ^ 200) (q : Q (.int (i / j))) : ∃ v, fdivI st (.int i) (.int j) = some v ∧ Q v := by
  have l2 : j.natAbs.log2 < 200 := log2_lt (by omega) (by decide)
  exact ⟨_, by simp only [fdivI]; rw [if_pos ⟨h.1, by omega⟩], q⟩
theorem o_mod (h : 0 < j) (q : Q (.int (i % j))) : ∃ v, modI st (.int i) (.int j) = some v ∧ Q v := ⟨_, by simp only [modI]; rw [if_pos h], q⟩
theorem o_pow (h : 0 ≤ j ∧ j ≤ 1000000) (h2 : -(2 ^ 64) < i ∧ i < 2 ^ 64) (q : Q (.int (i ^ j.toNat))) : ∃ v, powI st (.int i) (.int j) = some v ∧ Q v := ⟨_, by simp only [powI]; rw [if_pos ⟨h.1, h.2, by omega⟩], q⟩
theorem o_cmp {p : Int → Int → Bool} (q : Q (.bl (p i j))) : ∃ v, cmpI p st (.int i) (.int j) = some v ∧ Q v := ⟨_, rfl, q⟩
instance i_o_cmp {p : Int → Int → Bool} : Rule (∃ v, cmpI p st (.int i) (.int j) = some v ∧ Q v) (Q (.bl (p i j))) := ⟨o_cmp⟩
theorem o_neg (q : Q (.int (-i))) : ∃ v, negI (.int i) = some v ∧ Q v := ⟨_, rfl, q⟩
instance i_o_neg  : Rule (∃ v, negI (.int i) = some v ∧ Q v) (Q (.int (-i))) := ⟨o_neg⟩
theorem o_ixT (h : atI l i = some v) (q : Q v) : ∃ w, itemI st (.tup l) (.int i) = some w ∧ Q w := ⟨v, by simp only [itemI, asSeq, Option.bind]; exact h, q⟩
theorem o_ixL (h : atI l i = some v) (q : Q v) : ∃ w, itemI st (.lst l) (.int i) = some w ∧ Q w := ⟨v, by simp only [itemI, asSeq, lstOf, Option.bind]; exact h, q⟩
theorem o_ixS (h : atI l i = some v) (q : Q v) : ∃ w, itemI st (.scr l) (.int i) = some w ∧ Q w := ⟨v, by simp only [itemI, asSeq, Option.bind]; exact h, q⟩
theorem o_ixC (e : st[n]? = some (.lst l)) (h : atI l i = some v) (q : Q v) : ∃ w, itemI st (.cell n) (.int i) = some w ∧ Q w := ⟨v, by simp only [itemI, asSeq, lstOf, e, Option.bind]; exact h, q⟩
theorem atI_get {α : Type} {l : List α} {i : Int} {v : α} (h0 : 0 ≤ i) (h1 : l[i.toNat]? = some v) : atI l i = some v := by
  have hlt := (List.getElem?_eq_some_iff.mp h1).1
  unfold atI ixN
  rw [if_pos h0, if_pos (by omega)]
  exact h1
end
section
variable {st : Sto} {Q : Bool → Prop} {l : List IV} {b : Bool} {n : Nat}
theorem t_bl {E : EX} (q : Q b) : ∃ c, truthI st (.bl b) = some c ∧ Q c := ⟨_, rfl, q⟩
instance i_t_bl : Rule (∃ c, truthI st (.bl b) = some c ∧ Q c) (Q b) := ⟨t_bl (E := noX)⟩
theorem b_bl (q : Q b) : ∃ c, IV.bl b = .bl c ∧ Q c := ⟨_, rfl, q⟩
instance i_b_bl  : Rule (∃ c, IV.bl b = .bl c ∧ Q c) (Q b) := ⟨b_bl⟩
end
theorem way_t {b : Bool} {A B : Prop} (e : b = true) (h : A) : (b = true → A) ∧ (b = false → B) := ⟨fun _ => h, fun z => by (rw [e] at z; cases z)⟩
theorem way_f {b : Bool} {A B : Prop} (e : b = false) (h : B) : (b = true → A) ∧ (b = false → B) := ⟨fun z => by (rw [e] at z; cases z), fun _ => h⟩
theorem we_def {keep : Bool} {n : Nat} {body : MS} {l : List IV} {ls : Loc} {st : Sto} {E : EX} {Q : IV → Sto → Prop} (e : l.map some ++ List.replicate (n - l.length) none = ls) (h : we (body ls) st noX fun fl st1 => match fl with
    | .nx _ => closeP keep st.length Q .non st1
    | .rt v => closeP keep st.length Q v st1
    | .ex _ c f v => (st1.length = st.length ∧ E c f v st1) ∨ (st1.length ≠ st.length ∧ v.pure = true ∧ E c f v (st1.take st.length))
    | _ => False) : we (finM keep n body l) st E Q := we_fin (e ▸ h)
end MK
namespace MK
open PySem L2
section
variable {st : Sto} {E : EX} {Q : IV → Sto → Prop} {QF : Unit → Sto → Prop} {i j : Int} {l k : List IV} {a v : IV} {n : Nat} {b : Bool}
theorem we_int (q : Q (.int i) st) : we (pv1 intI [.int i]) st E Q := we_pv1 rfl q
instance i_we_int  : Rule (we (pv1 intI [.int i]) st E Q) (Q (.int i) st) := ⟨we_int⟩
theorem we_intB (q : Q (.int (if b then 1 else 0)) st) : we (pv1 intI [.bl b]) st E Q := we_pv1 rfl q
instance i_we_intB  : Rule (we (pv1 intI [.bl b]) st E Q) (Q (.int (if b then 1 else 0)) st) := ⟨we_intB⟩
theorem we_abs (q : Q (.int (if i < 0 then -i else i)) st) : we (pv1 absI [.int i]) st E Q := we_pv1 rfl q
instance i_we_abs  : Rule (we (pv1 absI [.int i]) st E Q) (Q (.int (if i < 0 then -i else i)) st) := ⟨we_abs⟩
theorem we_lenT (q : Q (.int l.length) st) : we (pv1 lenI [.tup l]) st E Q := we_pv1 rfl q
instance i_we_lenT  : Rule (we (pv1 lenI [.tup l]) st E Q) (Q (.int l.length) st) := ⟨we_lenT⟩
theorem we_lenL (q : Q (.int l.length) st) : we (pv1 lenI [.lst l]) st E Q := we_pv1 rfl q
instance i_we_lenL  : Rule (we (pv1 lenI [.lst l]) st E Q) (Q (.int l.length) st) := ⟨we_lenL⟩
theorem we_lenS (q : Q (.int l.length) st) : we (pv1 lenI [.scr l]) st E Q := we_pv1 rfl q
instance i_we_lenS  : Rule (we (pv1 lenI [.scr l]) st E Q) (Q (.int l.length) st) := ⟨we_lenS⟩
theorem we_lenC (e : st[n]? = some (.lst l)) (q : Q (.int l.length) st) : we (pv1 lenI [.cell n]) st E Q := we_pv1 (by simp only [lenI, asSeq, lstOf, e]; rfl) q
theorem we_max2 (q : Q (.int (if j > i then j else i)) st) : we (pv2 max2I [.int i, .int j]) st E Q := we_pv2 rfl q
instance i_we_max2  : Rule (we (pv2 max2I [.int i, .int j]) st E Q) (Q (.int (if j > i then j else i)) st) := ⟨we_max2⟩
theorem we_min2 (q : Q (.int (if j < i then j else i)) st) : we (pv2 min2I [.int i, .int j]) st E Q := we_pv2 rfl q
instance i_we_min2  : Rule (we (pv2 min2I [.int i, .int j]) st E Q) (Q (.int (if j < i then j else i)) st) := ⟨we_min2⟩
theorem we_tupleT (q : Q (.tup l) st) : we (pv1 tupleI [.tup l]) st E Q := we_pv1 rfl q
instance i_we_tupleT  : Rule (we (pv1 tupleI [.tup l]) st E Q) (Q (.tup l) st) := ⟨we_tupleT⟩
theorem we_tupleL (q : Q (.tup l) st) : we (pv1 tupleI [.lst l]) st E Q := we_pv1 rfl q
instance i_we_tupleL  : Rule (we (pv1 tupleI [.lst l]) st E Q) (Q (.tup l) st) := ⟨we_tupleL⟩
theorem we_tupleC (e : st[n]? = some (.lst l)) (q : Q (.tup l) st) : we (pv1 tupleI [.cell n]) st E Q := we_pv1 (by simp only [tupleI, seqL, lstOf, e]; rfl) q
theorem we_sort {c : Bool} {ns : List Int} (h : we (newL c ((sortI ns).map .int)) st E Q) (e : intsOf l = some ns) : we (sortM c [.lst l]) st E Q := by
  obtain ⟨r, st', e1, q⟩ := h
  refine ⟨r, st', ?_, q⟩
  unfold sortM intsAt
  simp only [seqL, lstOf, Option.bind, e]
  exact e1
theorem we_allL {bs : List Bool} (e : boolsOf l = some bs) (q : Q (.bl (bs.all id)) st) : we (pv1 allI [.lst l]) st E Q := we_pv1 (by simp only [allI, boolsAt, seqL, lstOf, Option.bind, e]; rfl) q
theorem we_slT {lo hi : Option Int} {c : Bool} (q : Q (.tup (cutI l lo hi)) st) : we (slM c (.tup l) lo hi) st E Q := ⟨_, _, rfl, q⟩
instance i_we_slT {lo hi : Option Int} {c : Bool} : Rule (we (slM c (.tup l) lo hi) st E Q) (Q (.tup (cutI l lo hi)) st) := ⟨we_slT⟩
theorem we_slL {lo hi : Option Int} {c : Bool} (h : we (newL c (cutI l lo hi)) st E Q) : we (slM c (.lst l) lo hi) st E Q := h
instance i_we_slL {lo hi : Option Int} {c : Bool} : Rule (we (slM c (.lst l) lo hi) st E Q) (we (newL c (cutI l lo hi)) st E Q) := ⟨we_slL⟩
theorem we_slS {lo hi : Option Int} {c : Bool} (h : we (newL c (cutI l lo hi)) st E Q) : we (slM c (.scr l) lo hi) st E Q := h
instance i_we_slS {lo hi : Option Int} {c : Bool} : Rule (we (slM c (.scr l) lo hi) st E Q) (we (newL c (cutI l lo hi)) st E Q) := ⟨we_slS⟩
end
theorem set_get {st : Sto} {n : Nat} {c d : CV} (h : st[n]? = some d) : (st.set n c)[n]? = some c := List.getElem?_set_self (List.getElem?_eq_some_iff.mp h).1
structure Only1 (n : Nat) (st st' : Sto) : Prop where
  len : st'.length = st.length
  ne : ∀ m, m ≠ n → st'[m]? = st[m]?
theorem Only1.refl {n : Nat} {st : Sto} : Only1 n st st := ⟨rfl, fun _ _ => rfl⟩
theorem Only1.trans {n : Nat} {a b c : Sto} (h : Only1 n a b) (h' : Only1 n b c) : Only1 n a c := ⟨h'.len.trans h.len, fun m z => (h'.ne m z).trans (h.ne m z)⟩
theorem Only1.set {n : Nat} {st : Sto} {c : CV} : Only1 n st (st.set n c) := ⟨by simp, fun m h => List.getElem?_set_ne (Ne.symm h)⟩
end MK
namespace MK
theorem run_of {α : Type} {m : M α} {st : Sto} {a : α} (h : we m st noX fun v st' => v = a ∧ st' = st) : m st = some (.val a, st) := by
  obtain ⟨r, st', e, q⟩ := h
  cases r with
  | val v => obtain ⟨rfl, rfl⟩ := q; exact e
  | exc c f v => exact q.elim
theorem len_and {l : List IV} {n : Nat} {B : Prop} (h : l.length ≤ n) (b : B) : l.length ≤ n ∧ B := ⟨h, b⟩
theorem eq_and {l : List IV} {n : Nat} {B : Prop} (h : l.length = n) (b : B) : l.length = n ∧ B := ⟨h, b⟩
end MK
namespace MK
open PySem L2
theorem we_putF {st : Sto} {E : EX} {ls : Loc} {QF : Fl → Sto → Prop} {m fo : ME} {c f : Str} (h : we (m ls) st (fun c f v st1 => QF (.ex ls c f v) st1) fun v st1 => we (fo ls) st1 (fun c f v st1 => QF (.ex ls c f v) st1) fun a st2 =>
    ∃ n fs, a = .cell n ∧ st2[n]? = some (.ins c fs) ∧ v.pure = true ∧ fs.length < 1000 ∧ QF (.nx ls) (st2.set n (.ins c (putI f v fs)))) : we (mPutF c f fo m ls) st E QF :=
  we_lift (we_bind (we_mono h fun v st1 h1 => we_bind (we_mono h1 fun a st2 ⟨n, fs, ea, e1, p, z, q⟩ => by
    subst ea
    exact ⟨.val (), _, by unfold putFM; simp only [e1, p, z, and_self, if_true], ⟨_, _, rfl, q⟩⟩)))
instance i_we_putF {st : Sto} {E : EX} {ls : Loc} {QF : Fl → Sto → Prop} {m fo : ME} {c f : Str} : Rule (we (mPutF c f fo m ls) st E QF) (we (m ls) st (fun c f v st1 => QF (.ex ls c f v) st1) fun v st1 => we (fo ls) st1 (fun c f v st1 => QF (.ex ls c f v) st1) fun a st2 =>
    ∃ n fs, a = .cell n ∧ st2[n]? = some (.ins c fs) ∧ v.pure = true ∧ fs.length < 1000 ∧ QF (.nx ls) (st2.set n (.ins c (putI f v fs)))) := ⟨we_putF⟩
end MK
namespace MK
open PySem L2
section
variable {st : Sto} {E : EX} {ls : Loc} {Q : IV → Sto → Prop} {QF : Fl → Sto → Prop} {ga : MA} {c : Str} {n : Nat} {g : MF}
theorem we_make (h : we (ga ls) st E fun l st1 => l.length + 1 = n ∧ we (g (.cell st1.length :: l)) (st1 ++ [.ins c []]) (fun c' f v st' => v.pure = true ∧ E c' f v (st'.take st1.length))
    fun v st' => v = .non ∧ st'.length = st1.length + 1 ∧ ∃ c' fs, st'[st1.length]? = some (.ins c' fs) ∧ Q (.obj c' fs) (st'.take st1.length)) : we (mMake false c n g ga ls) st E Q :=
  we_bind (we_mono h fun l st1 ⟨z, hw⟩ => by
    obtain ⟨r, st', e, q⟩ := hw
    cases r with
    | exc c' f v => exact ⟨.exc c' f v, _, by unfold makeM; rw [if_pos z, e]; exact if_pos q.1, q.2⟩
    | val v =>
      obtain ⟨rfl, hl, c', fs, e2, q⟩ := q
      exact ⟨.val (.obj c' fs), _, by unfold makeM; rw [if_pos z, e]; simp only [hl, if_true, e2], q⟩)
theorem we_try {sub : Str → Str → Option Bool} {body : MS} {cl : List Cl} (h : we (body ls) st E fun fl st1 => match fl with
    | .ex ls' c f v => we (tryCl sub cl ls' c f v) st1 E QF
    | fl => QF fl st1) : we (mTry sub body cl ls) st E QF :=
  we_bind (we_mono h fun fl st1 q => by
    cases fl with
    | ex ls' c f v => exact q
    | nx l => exact ⟨_, _, rfl, q⟩
    | rt v => exact ⟨_, _, rfl, q⟩
    | bk l => exact ⟨_, _, rfl, q⟩
    | ct l => exact ⟨_, _, rfl, q⟩)
instance i_we_try {sub : Str → Str → Option Bool} {body : MS} {cl : List Cl} : Rule (we (mTry sub body cl ls) st E QF) (we (body ls) st E fun fl st1 => match fl with
    | .ex ls' c f v => we (tryCl sub cl ls' c f v) st1 E QF
    | fl => QF fl st1) := ⟨we_try⟩
theorem we_clF {sub : Str → Str → Option Bool} {x f : Str} {i : Nat} {fsu : Su} {r : List Cl} {v : IV} (e : sub c x = some false) (h : we (tryCl sub r ls c f v) st E QF) : we (tryCl sub ((x, i, fsu) :: r) ls c f v) st E QF := by
  obtain ⟨r1, st1, e1, q⟩ := h
  exact ⟨r1, st1, by simp only [tryCl, e]; exact e1, q⟩
theorem we_clR {sub : Str → Str → Option Bool} {x f : Str} {i : Nat} {fsu : Su} {r : List Cl} {v w : IV} {st1 : Sto} (e : sub c x = some true) (h : ∀ (a C d : Addr), fsu a (.ref C) (some d) (ls.set i (some (.exn a (.ref C) d f v c))) st = some (.val (.rt w), st1)) (q : QF (.rt w) st1) :
    we (tryCl sub ((x, i, fsu) :: r) ls c f v) st E QF := by
  refine ⟨.val (.rt w), st1, ?_, q⟩
  simp only [tryCl, e]
  rw [M.bind_run (runCl_eq h)]
  rfl
theorem we_lenO {a : IV} {i : Int} (hc : clsI st a = some c) (e : g [a] st = some (.val (.int i), st)) (h : 0 ≤ i ∧ i < 2 ^ 63) (q : Q (.int i) st) : we (lenOM c g [a]) st E Q := by
  refine ⟨.val (.int i), st, ?_, q⟩
  unfold lenOM
  simp only [hc, if_true, e, h, and_self]
theorem we_eqO {os : List Str} {fa fb : ME} (h : we (fa ls) st E fun a st1 => we (fb ls) st1 E fun b st2 => clsI st2 a = some c ∧ ((tyA st2 b).bind (isC c os)).isSome = true ∧ ∃ r, g [a, b] st2 = some (.val (.bl r), st2) ∧ Q (.bl r) st2) : we (mEqO c os g fa fb ls) st E Q :=
  we_bind (we_mono h fun a st1 h1 => we_bind (we_mono h1 fun b st2 ⟨e1, e2, r, e3, q⟩ => ⟨.val (.bl r), st2, by unfold eqOM; rw [if_pos ⟨e1, e2⟩, e3], q⟩))
instance i_we_eqO {os : List Str} {fa fb : ME} : Rule (we (mEqO c os g fa fb ls) st E Q) (we (fa ls) st E fun a st1 => we (fb ls) st1 E fun b st2 => clsI st2 a = some c ∧ ((tyA st2 b).bind (isC c os)).isSome = true ∧ ∃ r, g [a, b] st2 = some (.val (.bl r), st2) ∧ Q (.bl r) st2) := ⟨we_eqO⟩
def xv : IV → Option (Addr × Value × Addr × Str × IV)
  | .exn a cls d f w _ => some (a, cls, d, f, w)
  | _ => none
theorem xv_eq {v w : IV} {a d : Addr} {cls : Value} {f : Str} (h : xv v = some (a, cls, d, f, w)) : ∃ c, v = .exn a cls d f w c := by
  cases v <;> simp only [xv] at h <;> cases h
  exact ⟨_, rfl⟩
theorem we_xf {a C d : Addr} {f : Str} {m : ME} (h : we (m ls) st E fun v st1 => ∃ w, xv v = some (a, .ref C, d, f, w) ∧ Q w st1) : we (mXf a (.ref C) (some d) f m ls) st E Q :=
  we_bind (we_mono h fun v st1 ⟨w, e, q⟩ => by
    obtain ⟨c, rfl⟩ := xv_eq e
    exact ⟨.val w, st1, by rw [xfM_run]; rfl, q⟩)
instance i_we_xf {a C d : Addr} {f : Str} {m : ME} : Rule (we (mXf a (.ref C) (some d) f m ls) st E Q) (we (m ls) st E fun v st1 => ∃ w, xv v = some (a, .ref C, d, f, w) ∧ Q w st1) := ⟨we_xf⟩
end
end MK
section
set_option maxHeartbeats 2000000
namespace MK
open PySem PySem.Spec PyProof.Rows L2
abbrev testsRun (ts : List Expr) (en : Env) : Sem Bool :=
  forIn ts true fun t good => if good = true then (do let b ← isTrue t en (eval t en); pure (ForInStep.yield b)) else pure (ForInStep.yield good)
def clauseTurn (e : Expr) (ci : Nat) (it acc : Value) (tg : Expr) (ts : List Expr) (p0 : Pos) (en : Env) (inner : Sem Unit) : Sem Fin := do
  standAt p0
  let nx ← pyNext it
  match nx with
  | none => pure (Fin.done Flow.next)
  | some u => do
    letOwnedTupleGo tg it u
    assign tg en u
    let good ← testsRun ts en
    if good = true then inner >>= fun _ => again (.compLoop e ci it acc en) else again (.compLoop e ci it acc en)
def addElt (elt : Expr) (acc : Value) (en : Env) : Sem Unit := do
  let u ← eval elt en
  standAt elt.pos
  let _ ← call (.builtin "set.add") [acc, u]
def nextClause (e : Expr) (ci : Nat) (i1 : Expr) (acc : Value) (en : Env) : Sem Unit := do
  let x ← eval i1 en
  standAt i1.pos
  let y ← foldedSetIterable i1 en x
  let _ ← runOwn (.compStart e (ci + 1) (← holding [y] (pyIter y)) acc en) en
section
variable {elt t0 i0 t1 i1 : Expr} {ts0 ts1 : List Expr} {sc : Scope} {pos : Pos} {it acc : Value} {en : Env}
theorem turn_one : compTurn (.SetComp elt [⟨t0, i0, ts0, 0⟩] sc pos) 0 it acc en = clauseTurn (.SetComp elt [⟨t0, i0, ts0, 0⟩] sc pos) 0 it acc t0 ts0 i0.pos en (addElt elt acc en) := by rfl
theorem turn_first : compTurn (.SetComp elt [⟨t0, i0, ts0, 0⟩, ⟨t1, i1, ts1, 0⟩] sc pos) 0 it acc en =
    clauseTurn (.SetComp elt [⟨t0, i0, ts0, 0⟩, ⟨t1, i1, ts1, 0⟩] sc pos) 0 it acc t0 ts0 i0.pos en (nextClause (.SetComp elt [⟨t0, i0, ts0, 0⟩, ⟨t1, i1, ts1, 0⟩] sc pos) 0 i1 acc en) := by
  unfold clauseTurn nextClause
  simp only [bind_assoc, pure_bind]
  rfl
theorem turn_second : compTurn (.SetComp elt [⟨t0, i0, ts0, 0⟩, ⟨t1, i1, ts1, 0⟩] sc pos) 1 it acc en =
    clauseTurn (.SetComp elt [⟨t0, i0, ts0, 0⟩, ⟨t1, i1, ts1, 0⟩] sc pos) 1 it acc t1 ts1 i1.pos en (addElt elt acc en) := by rfl
end
section
variable {P : Program} {w : World} {A : Around} {R : Result → Shared → Prop} {s : Shared} {elt tg : Expr} {gs : List Comprehension} {sc : Scope} {ps : Pos} {ci : Nat} {it acc : Value} {ts : List Expr} {p0 : Pos} {en : Env} {inner : Sem Unit}
abbrev NoX : Value → Shared → Prop := fun _ _ => False
theorem clause_loop (shape : compTurn (.SetComp elt gs sc ps) ci it acc en = clauseTurn (.SetComp elt gs sc ps) ci it acc tg ts p0 en inner) (J : Nat → Shared → Prop)
    (turn : ∀ m s, J m s → wpAny (model P w) A (pyNext it) (fun r z => match r with
      | none => R (.ok .next) z
      | some u => wpAny (model P w) A (letOwnedTupleGo tg it u) (fun _ z1 => wpAny (model P w) A (assign tg en u) (fun _ z2 => wpAny (model P w) A (testsRun ts en) (fun good z3 =>
          (good = true → wpAny (model P w) A inner (fun _ z4 => ∃ m', m' < m ∧ J m' z4) NoX z3) ∧ (good = false → ∃ m', m' < m ∧ J m' z3)) NoX z2) NoX z1) NoX z) NoX s)
    (m : Nat) (h : J m s) : codeAny (model P w) A (.compLoop (.SetComp elt gs sc ps) ci it acc en) R s := by
  have wk : ∀ {α : Type} {t : Sem α} {Q : α → Shared → Prop} {E : Value → Shared → Prop} {z : Shared}, wpAny (model P w) A t Q NoX z → wpAny (model P w) A t Q E z := fun h => wpAny_mono h (fun _ _ q => q) fun _ _ z => z.elim
  refine codeAny_loop rfl J (fun m z hJ => ?_) m h
  show wpAny _ A ((compTurn (.SetComp elt gs sc ps) ci it acc en).onRaise fun x => do noteFrame x en; theTreesLotGoes x) _ _ z
  rw [shape]
  refine wpAny_noted (wpAny_bind (wpAny_standAt (wpAny_bind (wpAny_mono (turn m z hJ) (fun r z1 h1 => ?_) fun _ _ k => k.elim))))
  cases r with
  | none => exact wpAny_pure h1
  | some u =>
    refine wpAny_bind (wpAny_mono h1 (fun _ z2 h2 => ?_) fun _ _ k => k.elim)
    refine wpAny_bind (wpAny_mono h2 (fun _ z3 h3 => ?_) fun _ _ k => k.elim)
    refine wpAny_bind (wpAny_mono h3 (fun good z4 h4 => ?_) fun _ _ k => k.elim)
    cases good with
    | false => exact wpAny_pure ⟨rfl, h4.2 rfl⟩
    | true => exact wpAny_bind (wpAny_mono (h4.1 rfl) (fun _ z5 h5 => wpAny_pure ⟨rfl, h5⟩) fun _ _ k => k.elim)
end
section
variable {Y : Cx} {elt tg : Expr} {gs : List Comprehension} {sc : Scope} {ps : Pos} {ci : Nat} {it : Addr} {acc : Value} {ts : List Expr} {p0 : Pos} {inner : Sem Unit} {J : It} {fp : List Addr} {tn : Nat → Heap → Prop} {g : TG} {tt : TT} {pins : List (Addr × Obj)} {R : Result → Shared → Prop}
theorem clause_walk (hxe : Y.xe = NoX) (hc : Y.calm = true) (shape : compTurn (.SetComp elt gs sc ps) ci (.ref it) acc Y.env = clauseTurn (.SetComp elt gs sc ps) ci (.ref it) acc tg ts p0 Y.env inner) (T : Turn Y.prog Y.w Y.K tg J fp it tn) (pg : PG Y tg g) (pt : PTs Y ts tt)
    (st : ∀ {H : Hp}, (∀ b ∈ fp, H b = none) → ∀ b ∈ fp, FpOk Y pins H b) {σ0 : L2.St} {vs vi : List Nat} (hvi : ∀ i ∈ vi, i ∈ vs) (hσ : wipe σ0 vs = σ0) {In : (Hp → Prop) → L2.St → Hp → Prop} {Qe : Hp → Prop} {W : Nat → Nat → Hp → Prop}
    (turn : ∀ i m H, W i m H → (J.stop i H ∧ Qe H) ∨ (J.go i H ∧ ∃ Nx : Hp → Prop, (∀ H', Nx H' → ∃ m', m' < m ∧ W (i + 1) m' H') ∧ ∀ x H', J.yld i H x H' → g x σ0 H' fun σ2 H2 => wipe σ2 vs = wipe σ0 vs ∧ tt σ2 H2 fun b H3 =>
      if b = true then In Nx σ2 H3 else Nx H3))
    (hin : ∀ (pl : List (Addr × Obj)) (s : Shared) (σ2 : L2.St) (H : Hp) (Nx : Hp → Prop), Inv Y (pins ++ pl) σ2 H s → In Nx σ2 H → wpAny (model Y.prog Y.w) Y.A inner (fun _ s' => ∃ H', Inv Y (pins ++ pl) (wipe σ2 vi) H' s' ∧ Nx H') NoX s)
    (fin : ∀ s H, Inv Y pins σ0 H s → Qe H → R (.ok .next) s) {s : Shared} {H : Hp} (I : Inv Y pins σ0 H s) (t0 : tn 0 s.heap) (f0 : ∀ b ∈ fp, H b = none) (w0 : ∃ m, W 0 m H) :
    codeAny (model Y.prog Y.w) Y.A (.compLoop (.SetComp elt gs sc ps) ci (.ref it) acc Y.env) R s := by
  obtain ⟨m, w0⟩ := w0
  refine clause_loop shape (fun m z => ∃ i H, Inv Y pins σ0 H z ∧ tn i z.heap ∧ (∀ b ∈ fp, H b = none) ∧ W i m H) ?_ m ⟨0, H, I, t0, f0, w0⟩
  rintro m z ⟨i, H, I, ti, fi, wi⟩
  rcases turn i m H wi with ⟨stop, qe⟩ | ⟨go, Nx, hNx, step⟩
  · refine thn (T.done Y rfl rfl rfl hc i pins z σ0 H NoX I (st fi) ti stop) fun r z1 h1 => ?_
    obtain ⟨rfl, I1⟩ := h1
    exact fin z1 H I1 qe
  · refine thn (T.item Y rfl rfl rfl hc i pins z σ0 H NoX I (st fi) ti go) fun r z1 h1 => ?_
    obtain ⟨u, rfl, h1⟩ := h1
    refine thn h1 fun _ z2 h2 => ?_
    obtain ⟨x, H2, I2, r2, y2, t2, f2⟩ := h2
    have P2 := I2.pinned (st f2) (T.obj _ _ t2)
    have a3 := pg.run _ z2 σ0 H2 x u _ P2 r2 (step x H2 y2)
    rw [hxe] at a3
    refine thn a3 fun _ z3 h3 => ?_
    obtain ⟨σ3, H3, I3, e3, q3⟩ := h3
    have a4 := pt.run _ z3 σ3 H3 _ I3 q3
    rw [hxe] at a4
    refine thn a4 fun good z4 h4 => ?_
    obtain ⟨H4, I4, q4⟩ := h4
    have len3 : σ0.length = σ3.length := by rw [← wipe_length σ3 vs, e3, wipe_length]
    have kn3 : ∀ (j : Nat) v, σ0[j]? = some (some v) → σ3[j]? = some (some v) ∧ j ∉ vs := fun j v q => by
      rw [← hσ, ← e3] at q
      exact wipe_some q
    -- the turn is over
    have over : ∀ {z' : Shared} {σ' : L2.St} {H' : Hp}, Inv Y (pins ++ pinsAt fp z2.heap) σ' H' z' → σ'.length = σ3.length → (∀ j, j ∉ vs → σ'[j]? = σ3[j]?) → Nx H' →
        ∃ m', m' < m ∧ ∃ i H, Inv Y pins σ0 H z' ∧ tn i z'.heap ∧ (∀ b ∈ fp, H b = none) ∧ W i m' H := fun {z' σ' H'} I' hl hs nx => by
      obtain ⟨m', lt, w'⟩ := hNx H' nx
      have pin' : ∀ b ∈ fp, ∀ o, z2.heap.get? b = some o → z'.heap.get? b = some o ∧ H' b = none := fun b hb o q => by
        have k := I'.pin (b, o) (List.mem_append_right _ (List.mem_append_right _ (mem_pinsAt hb q)))
        exact ⟨k.1, k.2.1⟩
      refine ⟨m', lt, i + 1, H', I'.unpinned.weak (len3.trans hl.symm) (fun j v q => ?_), T.keep _ _ _ t2 (fun b hb o q => (pin' b hb o q).1), fun b hb => ?_, w'⟩
      · obtain ⟨k1, k2⟩ := kn3 j v q
        rw [hs j k2]; exact k1
      · obtain ⟨o, q, _⟩ := T.obj _ _ t2 b hb
        exact (pin' b hb o q).2
    cases good with
    | false =>
      simp only [Bool.false_eq_true, if_false] at q4
      exact ⟨fun k => (by cases k), fun _ => over I4 rfl (fun _ _ => rfl) q4⟩
    | true =>
      simp only [if_true] at q4
      refine ⟨fun _ => thn (hin _ z4 σ3 H4 Nx I4 q4) fun _ z5 h5 => ?_, fun k => (by cases k)⟩
      obtain ⟨H5, I5, nx⟩ := h5
      exact over I5 (wipe_length _ _) (fun j hj => wipe_out fun k => hj (hvi j k)) nx
end
end MK
end
section
set_option maxHeartbeats 2000000
namespace MK
open PySem PySem.Spec PyProof.Rows L2
abbrev noInt : Int → Bool := fun _ => false
abbrev andInt (S : Int → Bool) (k : Int) : Int → Bool := fun j => S j || decide (j = k)
def tSet (w : World) (wi : TI) (g : TG) (tt : TT) (In : Addr → (Hp → Prop) → L2.St → Hp → Prop) (vs : List Nat) : TE := fun σ H Q => wi σ H fun J H1 => ∀ D, H1 D = none →
  ∃ W : Nat → Nat → Hp → Prop, (∃ m, W 0 m (upd H1 D (SetO w D noInt 0))) ∧ ∀ i m H, W i m H → (J.stop i H ∧ Q (.ref D) H) ∨ (J.go i H ∧ ∃ Nx : Hp → Prop, (∀ H', Nx H' → ∃ m', m' < m ∧ W (i + 1) m' H') ∧
    ∀ x H', J.yld i H x H' → g x (wipe σ vs) H' fun σ2 H2 => wipe σ2 vs = wipe (wipe σ vs) vs ∧ tt σ2 H2 fun b H3 => if b = true then In D Nx σ2 H3 else Nx H3)
def inAdd (w : World) (te : TE) (D : Addr) (Nx : Hp → Prop) : L2.St → Hp → Prop := fun σ H => te σ H fun y H1 => ∃ (k : Int) (S : Int → Bool) (n : Nat), y = .int k ∧ H1 D = some (SetO w D S n) ∧ n + 1 < scanBound ∧
  Nx (upd H1 D (SetO w D (andInt S k) (if S k = true then n else n + 1)))
def inNext (w : World) (wi : TI) (g : TG) (tt : TT) (te : TE) (vs : List Nat) (D : Addr) (Nx : Hp → Prop) : L2.St → Hp → Prop := fun σ H => wi σ H fun J H1 =>
  ∃ W : Nat → Nat → Hp → Prop, (∃ m, W 0 m H1) ∧ ∀ i m H, W i m H → (J.stop i H ∧ Nx H) ∨ (J.go i H ∧ ∃ Nz : Hp → Prop, (∀ H', Nz H' → ∃ m', m' < m ∧ W (i + 1) m' H') ∧
    ∀ x H', J.yld i H x H' → g x (wipe σ vs) H' fun σ2 H2 => wipe σ2 vs = wipe (wipe σ vs) vs ∧ tt σ2 H2 fun b H3 => if b = true then inAdd w te D Nz σ2 H3 else Nz H3)
theorem wipe2 (σ : L2.St) (vs : List Nat) : wipe (wipe σ vs) vs = wipe σ vs := wipe_wipe
section
variable {Y : Cx} {pins : List (Addr × Obj)} {s : Shared} {σ : L2.St} {H : Hp} {elt : Expr} {te : TE} {D : Addr} {Nx : Hp → Prop}
theorem add_run (hxe : Y.xe = NoX) (pe : PE Y elt te) (I : Inv Y pins σ H s) (h : inAdd Y.w te D Nx σ H) :
    wpAny (model Y.prog Y.w) Y.A (addElt elt (.ref D) Y.env) (fun _ z => ∃ H', Inv Y pins (wipe σ []) H' z ∧ Nx H') NoX s := by
  have a1 := pe.run pins s σ H _ I h
  rw [hxe] at a1
  unfold addElt
  refine wpAny_bind (thn a1 fun u z h1 => ?_)
  obtain ⟨y, H1, I1, r1, k, S, n, rfl, hD, room, nx⟩ := h1
  have a2 := mt_sadd pins z σ H1 (.ref D) [.int k] (.ref D) [u] (fun v H2 => v = .non ∧ Nx H2) I1 rfl (.cons r1 .nil) ⟨D, k, S, n, rfl, rfl, hD, room, rfl, nx⟩
  rw [hxe] at a2
  refine wpAny_bind (wpAny_standAt (wpAny_bind (thn a2 fun _ z2 h2 => ?_)))
  obtain ⟨y2, H2, I2, r2, _, nx2⟩ := h2
  exact wpAny_pure ⟨H2, I2, nx2⟩
end
section
variable {P : Program} {w : World} {A : Around} {R : Result → Shared → Prop} {s : Shared} {elt t0 i0 t1 i1 : Expr} {ts0 ts1 : List Expr} {sc : Scope} {pos : Pos} {it acc : Value} {en : Env}
theorem start_second (h0 : codeAny (model P w) A (.compLoop (.SetComp elt [⟨t0, i0, ts0, 0⟩, ⟨t1, i1, ts1, 0⟩] sc pos) 1 it acc en) R s)
    (h1 : wpAny (model P w) A (pyIter it) (fun it' z => codeAny (model P w) A (.compLoop (.SetComp elt [⟨t0, i0, ts0, 0⟩, ⟨t1, i1, ts1, 0⟩] sc pos) 1 it' acc en) R z) NoX s) :
    codeAny (model P w) A (.compStart (.SetComp elt [⟨t0, i0, ts0, 0⟩, ⟨t1, i1, ts1, 0⟩] sc pos) 1 it acc en) R s := by
  refine codeAny_of_tree ?_
  show wpAny _ _ (Sem.onRaise (compStart (.SetComp elt [⟨t0, i0, ts0, 0⟩, ⟨t1, i1, ts1, 0⟩] sc pos) 1 it acc en) fun x => do noteFrame x en; standAt theWindowsPlace) _ _ s
  refine wpAny_notedAt ?_
  unfold compStart
  show wpAny _ _ (ask >>= _) _ _ s
  refine wpAny_bind (wpAny_askSetting (wpAny_ite ?_))
  split
  · first
      | exact wpAny_bind (wpAny_pure (wpAny_pure (And.intro rfl h0)))
      | exact wpAny_pure (And.intro rfl h0)
  · refine wpAny_bind (wpAny_rule ?_)
    first
      | exact wpAny_bind (wpAny_standAt (wpAny_bind (wpAny_mono h1 (fun it' z k => wpAny_pure ⟨rfl, k⟩) fun _ _ k => k.elim)))
      | (show wpAny _ _ (standAt i1.pos >>= _) _ _ s; exact wpAny_bind (wpAny_standAt (wpAny_bind (wpAny_mono h1 (fun it' z k => wpAny_pure ⟨rfl, k⟩) fun _ _ k => k.elim))))
end
section
variable {Y : Cx} {pins : List (Addr × Obj)} {s : Shared} {σ : L2.St} {H : Hp} {elt t0 i0 t1 i1 : Expr} {ts0 ts1 : List Expr} {sc : Scope} {pos : Pos} {wi : TI} {g : TG} {tt : TT} {te : TE} {vs : List Nat} {D : Addr} {Nx : Hp → Prop}
theorem next_run (hxe : Y.xe = NoX) (hc : Y.calm = true) (hf : ∀ x, foldedSetIterable i1 Y.env x = pure x) (pi : PI Y t1 i1 wi) (pg : PG Y t1 g) (pt : PTs Y ts1 tt) (pe : PE Y elt te)
    (I : Inv Y pins σ H s) (h : inNext Y.w wi g tt te vs D Nx σ H) :
    wpAny (model Y.prog Y.w) Y.A (nextClause (.SetComp elt [⟨t0, i0, ts0, 0⟩, ⟨t1, i1, ts1, 0⟩] sc pos) 0 i1 (.ref D) Y.env) (fun _ z => ∃ H', Inv Y pins (wipe σ vs) H' z ∧ Nx H') NoX s := by
  have a1 := pi.run pins s σ H _ I h
  rw [hxe] at a1
  unfold nextClause
  refine wpAny_bind (thn a1 fun x z1 h1 => ?_)
  refine wpAny_bind (wpAny_standAt (wpAny_bind (wpAny_of_eq (hf x) (wpAny_bind (wpAny_holding (thn h1 fun v z2 h2 => ?_))))))
  obtain ⟨it, fp, tn, J, H2, rfl, I2, T, t2, f2, W, w0, turn⟩ := h2
  refine wpAny_bind (wpAny_runOwn ?_)
  rw [Around.mark_none]
  have loop : codeAny (model Y.prog Y.w) Y.A (.compLoop (.SetComp elt [⟨t0, i0, ts0, 0⟩, ⟨t1, i1, ts1, 0⟩] sc pos) 1 (.ref it) (.ref D) Y.env) (fun r z => match r with
      | .ok _ => ∃ H', Inv Y pins (wipe σ vs) H' z ∧ Nx H'
      | .error _ => False) z2 := by
    refine clause_walk (vs := vs) (vi := []) (σ0 := wipe σ vs) hxe hc turn_second T pg pt (fun hn b hb => ⟨hn b hb, (f2 b hb).2⟩) (fun i k => by cases k) (wipe2 σ vs) turn (fun pl s' σ2 H' Nz I' q => add_run hxe pe I' q) (fun z H' I' q => ⟨H', I', q⟩)
      (I2.weak (wipe_length _ _) fun j v q => (wipe_some q).1) t2 (fun b hb => (f2 b hb).1) w0
  refine codeAny_mono (start_second loop (T.self Y.A 0 _ _ _ t2 loop)) fun r z hr => ?_
  cases r with
  | ok f =>
    first
      | exact wpAny_pure hr
      | exact hr
  | error x => exact hr.elim
end
section
variable {X : Cx} {elt tg iter : Expr} {ts : List Expr} {rest : List Comprehension} {scope : Scope} {own : List (Str × Nat)} {pos : Pos} {wi : TI} {g : TG} {tt : TT} {In : Addr → (Hp → Prop) → L2.St → Hp → Prop} {inner : Value → Env → Sem Unit} {vi : List Nat}
theorem pe_set (hc : X.calm = true) (hN : X.N.Nodup) (hi : PI X tg iter wi) (ok : BlkOk X.N X.env.scope scope own) (hvi : ∀ i ∈ vi, i ∈ own.map (·.2))
    (shape : ∀ it acc en, compTurn (.SetComp elt (⟨tg, iter, ts, 0⟩ :: rest) scope pos) 0 it acc en = clauseTurn (.SetComp elt (⟨tg, iter, ts, 0⟩ :: rest) scope pos) 0 it acc tg ts iter.pos en (inner acc en))
    (hg : ∀ (s : Shared) (H : Hp) (C : Addr) (cl : List (Str × Addr)) (fp : List Addr), PG (X.blk s H scope (compEnvC scope cl C X.env) fp) tg g) (ht : ∀ (s : Shared) (H : Hp) (C : Addr) (cl : List (Str × Addr)) (fp : List Addr), PTs (X.blk s H scope (compEnvC scope cl C X.env) fp) ts tt)
    (hin : ∀ (s : Shared) (H : Hp) (C : Addr) (cl : List (Str × Addr)) (fp : List Addr) (pl : List (Addr × Obj)) (s' : Shared) (σ2 : L2.St) (H' : Hp) (D : Addr) (Nx : Hp → Prop), Inv (X.blk s H scope (compEnvC scope cl C X.env) fp) pl σ2 H' s' → In D Nx σ2 H' →
      wpAny (model X.prog X.w) X.A (inner (.ref D) (compEnvC scope cl C X.env)) (fun _ z => ∃ H2, Inv (X.blk s H scope (compEnvC scope cl C X.env) fp) pl (wipe σ2 vi) H2 z ∧ Nx H2) NoX s')
    (hs : ∀ x, foldedSetIterable iter X.env x = pure x := by intro _; rfl) : PE X (.SetComp elt (⟨tg, iter, ts, 0⟩ :: rest) scope pos) (tSet X.w wi g tt In (own.map (·.2))) := by
  refine ⟨fun pins s σ H Q I h => ?_⟩
  have caught : ∀ y ∈ scope.names, y.2 = .free → ∃ c, X.env.cells.lookup y.1 = some c := fun y hy e => I.ok.has _ (ok.free y hy e)
  rw [PySem.arm_eval_SetComp]
  refine wpAny_comprehension_free (use := none) rfl hs (closure_ok caught) ok.kind (fun y hy e => (ok.uniq y hy).trans (by rw [e])) (thn (hi.run pins s σ H _ I h) fun v s1 h1 => thn h1 fun itv s2 h2 => ?_)
  obtain ⟨it, fp, tn, J, H2, rfl, I2, T, t2, f2, q⟩ := h2
  refine PpSet.newSet_ok (newEnv_comp ?_)
  generalize hD : s2.heap.objs.size = D
  have hDn : H2 D = none := I2.hok.fresh (Nat.le_of_eq hD)
  obtain ⟨W, w0, turn⟩ := q D hDn
  generalize hs3 : ({ s2 with heap := s2.heap.push { cls := .type "set", dict := none, data := .set #[] 0 (.fresh 0 0 (!X.w.params.followText "set-order")) } } : Shared) = s3
  have I3 : Inv X pins σ (upd H2 D (SetO X.w D noInt 0)) s3 := by
    subst hs3 hD
    exact I2.laid (t' := s2.toks) (fun b o e => Heap.get?_push_of_some _ e) (Nat.le_refl _) (setO_new (setR_fresh X.w))
  have e3 : s3.heap = s2.heap.push { cls := .type "set", dict := none, data := .set #[] 0 (.fresh 0 0 (!X.w.params.followText "set-order")) } := by subst hs3; rfl
  have f3 : ∀ b ∈ fp, FpOk X pins (upd H2 D (SetO X.w D noInt 0)) b ∧ b < s3.heap.objs.size := fun b hb => by
    obtain ⟨o, q, _⟩ := T.obj _ _ t2 b hb
    have lt := Heap.lt_size q
    refine ⟨⟨?_, (f2 b hb).2⟩, by rw [e3, Heap.size_push]; exact Nat.lt_succ_of_lt lt⟩
    rw [upd_ne fun z => absurd lt (by rw [z, hD]; exact Nat.lt_irrefl _)]; exact (f2 b hb).1
  have t3 : tn 0 s3.heap := T.keep _ _ _ t2 fun b _ o q => by rw [e3]; exact Heap.get?_push_of_some _ q
  have I4 := block_start I3 ok hN f3
  have pg := hg s3 (upd H2 D (SetO X.w D noInt 0)) s3.heap.objs.size (cellsFrom (s3.heap.objs.size + 1) scope.names (cloFrom X.env.cells scope.names [])) fp
  have pt := ht s3 (upd H2 D (SetO X.w D noInt 0)) s3.heap.objs.size (cellsFrom (s3.heap.objs.size + 1) scope.names (cloFrom X.env.cells scope.names [])) fp
  have pin := hin s3 (upd H2 D (SetO X.w D noInt 0)) s3.heap.objs.size (cellsFrom (s3.heap.objs.size + 1) scope.names (cloFrom X.env.cells scope.names [])) fp
  have eL : (compEnvC scope (cellsFrom (s3.heap.objs.size + 1) scope.names (cloFrom X.env.cells scope.names [])) s3.heap.objs.size X.env).locals = s3.heap.objs.size := rfl
  show codeAny _ _ (.compStart (.SetComp elt (⟨tg, iter, ts, 0⟩ :: rest) scope pos) 0 (.ref it) (.ref D) (compEnvC scope (cellsFrom (s3.heap.objs.size + 1) scope.names (cloFrom X.env.cells scope.names [])) s3.heap.objs.size X.env)) (compPost (model X.prog X.w) X.A X.xe none (EP X pins σ Q) (.ref D) s3.heap.objs.size) _
  generalize compEnvC scope (cellsFrom (s3.heap.objs.size + 1) scope.names (cloFrom X.env.cells scope.names [])) s3.heap.objs.size X.env = ce at I4 pg pt pin eL ⊢
  generalize hH3 : upd H2 D (SetO X.w D noInt 0) = H3 at I3 I4 pg pt pin w0 f3
  generalize hs4 : ({ s3 with heap := pushCells (s3.heap.push { cls := .type "dict", data := .dict #[] }) scope.names } : Shared) = s4 at I4 ⊢
  have t4 : tn 0 s4.heap := T.keep _ _ _ t3 fun b _ o q => by subst hs4; exact pushCells_keeps _ _ _ _ (Heap.get?_push_of_some _ q)
  have st : ∀ {H : Hp}, (∀ b ∈ fp, H b = none) → ∀ b ∈ fp, FpOk (X.blk s3 H3 scope ce fp) [] H b := fun {H} hn b hb =>
    ⟨hn b hb, (I4.ok.exf b hb).1, I4.ok.exfs b hb, .inl hb, fun x c q => (I4.ok.exf b hb).2 x c q, fun p hp => by cases hp⟩
  have loop : codeAny (model X.prog X.w) X.A (.compLoop (.SetComp elt (⟨tg, iter, ts, 0⟩ :: rest) scope pos) 0 (.ref it) (.ref D) ce) (compPost (model X.prog X.w) X.A X.xe none (EP X pins σ Q) (.ref D) s3.heap.objs.size) s4 := by
    refine clause_walk (Y := X.blk s3 H3 scope ce fp) (pins := []) (vs := own.map (·.2)) (vi := vi) (σ0 := wipe σ (own.map (·.2))) rfl hc (shape _ _ _) T pg pt st hvi (wipe2 _ _) turn (fun pl s' σ2 H' Nx I' q => pin ([] ++ pl) s' σ2 H' D Nx I' q) (fun z H' I' q => ?_) I4 t4 (fun b hb => (f3 b hb).1.1) w0
    have I7 : Inv X pins σ H' z := I3.call' (ch := fp) I'.os I'.base I'.hok I'.bare fun b hb => by
      obtain ⟨a1, a2, a3, a4, a5, a6⟩ := (f3 b hb).1
      exact ⟨a4, a2, a5, a6⟩
    obtain ⟨m, hm, _⟩ := I'.loc
    have nC : H' s3.heap.objs.size = none := by rw [← eL]; exact I'.free
    have hm : z.heap.Ns ce.locals m := hm
    rw [eL] at hm
    refine ⟨m, hm, fun h'' sb => ?_⟩
    obtain ⟨k0, k1, k2, k3, k4, k5⟩ := I3.fpOk (H' := H') (Nat.le_refl _) nC
    exact ⟨.ref D, H', I7.turned (t' := z.toks) (fun b o hb q => (sb.2 b hb).trans q) k0 k1 k3 k4 k5, rfl, q⟩
  exact codeAny_compStart_set loop (T.self X.A 0 _ _ _ t4 loop)
end
end MK
end
section
set_option maxHeartbeats 2000000
namespace MK
open PySem PySem.Spec PyProof.Rows L2
def insI (acc : List Int) (k : Int) : List Int := if k ∈ acc then acc else acc ++ [k]
def insL (acc l : List Int) : List Int := l.foldl insI acc
theorem insL_app (acc l m : List Int) : insL acc (l ++ m) = insL (insL acc l) m := List.foldl_append
theorem insI_mem {acc : List Int} {k j : Int} : j ∈ insI acc k ↔ j ∈ acc ∨ j = k := by
  unfold insI
  split
  · exact ⟨.inl, fun h => h.elim id fun e => e ▸ by assumption⟩
  · simp
theorem insI_nodup {acc : List Int} {k : Int} (h : acc.Nodup) : (insI acc k).Nodup := by
  unfold insI
  split
  · exact h
  · rename_i hk
    rw [List.nodup_append]
    exact ⟨h, by simp, fun a ha b hb => by simp at hb; subst hb; exact fun e => hk (e ▸ ha)⟩
theorem insI_len (acc : List Int) (k : Int) : acc.length ≤ (insI acc k).length := by unfold insI; split <;> simp
theorem insL_mem {l acc : List Int} {j : Int} : j ∈ insL acc l ↔ j ∈ acc ∨ j ∈ l := by
  unfold insL
  induction l generalizing acc with
  | nil => simp
  | cons a l ih => rw [List.foldl_cons, ih, insI_mem, List.mem_cons, or_assoc]
theorem insL_nodup {l acc : List Int} (h : acc.Nodup) : (insL acc l).Nodup := by
  unfold insL
  induction l generalizing acc with
  | nil => exact h
  | cons a l ih => exact ih (insI_nodup h)
theorem insL_len (l acc : List Int) : acc.length ≤ (insL acc l).length := by
  unfold insL
  induction l generalizing acc with
  | nil => exact Nat.le_refl _
  | cons a l ih => exact Nat.le_trans (insI_len acc a) (ih _)
def sortS (l : List Int) : List Int := sortI (insL [] l)
theorem sortS_of {l ns : List Int} (h : ns.Pairwise (· < ·)) (m : ∀ k : Int, k ∈ ns ↔ k ∈ insL [] l) : ns = sortS l := by
  have nd : ns.Nodup := h.imp (fun q => Int.ne_of_lt q)
  have p : ns.Perm (insL [] l) := (List.perm_ext_iff_of_nodup nd (insL_nodup List.nodup_nil)).mpr m
  exact sortI_of p (h.imp fun q => Int.le_of_lt q)
def setH (w : World) (D : Addr) (acc : List Int) : HO := SetO w D (fun j => decide (j ∈ acc)) acc.length
theorem setH_add {w : World} {D : Addr} {acc : List Int} {k : Int} : SetO w D (andInt (fun j => decide (j ∈ acc)) k) (if (decide (k ∈ acc)) = true then acc.length else acc.length + 1) = setH w D (insI acc k) := by
  have e1 : (andInt (fun j => decide (j ∈ acc)) k) = fun j => decide (j ∈ insI acc k) := by
    funext j
    show (decide (j ∈ acc) || decide (j = k)) = decide (j ∈ insI acc k)
    rw [Bool.eq_iff_iff]
    simp [insI_mem]
  have e2 : (if (decide (k ∈ acc)) = true then acc.length else acc.length + 1) = (insI acc k).length := by
    unfold insI
    by_cases h : k ∈ acc
    · rw [if_pos (decide_eq_true h), if_pos h]
    · rw [if_neg (by simpa using h), if_neg h]; simp
  rw [e1, e2]; rfl
abbrev MB := Loc → M (List Int)
def mInt (e : ME) : MB := fun ls => M.bind (e ls) fun v => match v with
  | .int i => M.ret [i]
  | _ => M.stuck
open Classical in
noncomputable def compB (t : MG) (c : MT) (inn : MB) (l0 : List IV) (k : Option Nat) (ls : Loc) : List IV → M (List Int)
  | [] => fun st => if srcOk k l0 st then some (.val [], st) else none
  | v :: vs => fun st => if srcOk k l0 st then (match t ls v with
    | some ls1 => M.bind (M.nox (c ls1)) (fun b => if b = true then M.bind (M.nox (inn ls1)) fun ys => M.bind (compB t c inn l0 k ls vs) fun zs => M.ret (ys ++ zs) else compB t c inn l0 k ls vs) st
    | none => none) else none
noncomputable def mClause (src : MI) (vs : List Nat) (t : MG) (c : MT) (inn : MB) : MB := fun ls => M.bind (src ls) fun p => M.nox (compB t c inn p.1 p.2 (wipeI ls vs) p.1)
structure MakS (K : PySem.W.Frag) (mg : Str → Option Value) (w : World) (cm : Wd) (H : Hp) (cm1 : Wd) (H1 : Hp) (st1 : Sto) (D : Addr) (acc : List Int) : Prop where
  ext : Ext cm H cm1 H1
  sto : RelS K mg cm1 st1 H1
  av : D ∈ cm1.av
  nc : D ∉ cm1.ch
  at' : H1 D = some (setH w D acc)
section
variable {K : PySem.W.Frag} {mg : Str → Option Value} {w : World} {H H1 : Hp} {cm cm1 : Wd} {st st1 : Sto} {D : Addr} {acc : List Int}
theorem MakS.mk0 (s : RelS K mg cm st H) (n : H D = none) : MakS K mg w cm H (cm.avoid D) (upd H D (setH w D [])) st D [] where
  ext := Ext.avoid n
  sto := s.avoid n
  av := List.mem_cons_self
  nc := s.notCell n
  at' := upd_same
theorem MakS.step (m : MakS K mg w cm H cm1 H1 st1 D acc) {cm2 : Wd} {H2 : Hp} {st2 : Sto} (E : Ext cm1 H1 cm2 H2) (s : RelS K mg cm2 st2 H2) : MakS K mg w cm H cm2 H2 st2 D acc :=
  ⟨m.ext.trans E, s, E.keep D m.av, E.new D _ m.at' m.nc, E.fr D _ m.at' m.nc⟩
theorem MakS.add (m : MakS K mg w cm H cm1 H1 st1 D acc) (n : H D = none) (k : Int) : MakS K mg w cm H cm1 (upd H1 D (setH w D (insI acc k))) st1 D (insI acc k) :=
  ⟨m.ext.beside n, m.sto.beside m.av m.nc, m.av, m.nc, upd_same⟩
theorem MakS.addTr (m : MakS K mg w cm H cm1 H1 st1 D acc) (k : Int) : Tr cm1 H1 cm1 (upd H1 D (setH w D (insI acc k))) :=
  ⟨fun _ _ h => h, fun a o h na => ⟨(upd_ne (fun z : a = D => na (z ▸ m.av))).trans h, na⟩⟩
theorem clause_turns {J : It} {p : Src} {t : MG} {g : TG} {c : MT} {inn : MB} {vs : List Nat} {ls : Loc} {σ0 : L2.St} {st2 : Sto} {l : List Int} {In : Addr → (Hp → Prop) → L2.St → Hp → Prop} {Qe : Hp → Prop} {acc0 : List Int}
    (ct : CT K mg vs t g) (wk : Walks K mg J p cm1 H1) (mk : MakS K mg w cm H cm1 H1 st1 D acc0) (R0 : RelC K mg cm1 ls σ0 H1)
    (e0 : compB t c inn p.1 p.2 ls p.1 st1 = some (.val l, st2)) (hB : (insL acc0 l).length < 64)
    (hin : ∀ (cm2 : Wd) (H2 : Hp) (st3 st4 : Sto) (σ2 : L2.St) (ls2 : Loc) (acc : List Int) (ys : List Int) (Nx : Hp → Prop), MakS K mg w cm H cm2 H2 st3 D acc → RelC K mg cm2 ls2 σ2 H2 → inn ls2 st3 = some (.val ys, st4) → (insL acc ys).length < 64 →
      (∀ cm3 H3, Tr cm2 H2 cm3 H3 → MakS K mg w cm H cm3 H3 st4 D (insL acc ys) → Nx H3) → In D Nx σ2 H2)
    (hq : ∀ cm2 H2, Tr cm1 H1 cm2 H2 → MakS K mg w cm H cm2 H2 st2 D (insL acc0 l) → Qe H2) :
    ∃ W : Nat → Nat → Hp → Prop, (∃ m, W 0 m H1) ∧ ∀ i m H, W i m H → (J.stop i H ∧ Qe H) ∨ (J.go i H ∧ ∃ Nx : Hp → Prop, (∀ H', Nx H' → ∃ m', m' < m ∧ W (i + 1) m' H') ∧
      ∀ x H', J.yld i H x H' → g x σ0 H' fun σ2 H2 => wipe σ2 vs = wipe σ0 vs ∧ rdT K mg W0 c σ2 H2 fun b H3 => if b = true then In D Nx σ2 H3 else Nx H3) := by
  refine ⟨fun i m H2 => m = p.1.length - i ∧ i ≤ p.1.length ∧ ∃ cm2 st3 acc rest, Tr cm1 H1 cm2 H2 ∧ MakS K mg w cm H cm2 H2 st3 D acc ∧ compB t c inn p.1 p.2 ls (p.1.drop i) st3 = some (.val rest, st2) ∧ insL acc rest = insL acc0 l,
    ⟨p.1.length, by simp, Nat.zero_le _, cm1, st1, acc0, l, Tr.refl, mk, by simpa using e0, rfl⟩, ?_⟩
  rintro i m H2 ⟨rfl, hi, cm2, st3, acc, rest, T2, mk2, e5, hl⟩
  by_cases hlt : i < p.1.length
  · rw [List.drop_eq_getElem_cons hlt] at e5
    simp only [compB] at e5
    split at e5
    · rename_i hok
      cases q : t ls p.1[i] with
      | none => rw [q] at e5; cases e5
      | some ls3 =>
        rw [q] at e5
        obtain ⟨g1, g2⟩ := wk.go i cm2 H2 st3 p.1[i] T2 mk2.sto hok (by simp [hlt])
        refine .inr ⟨g1, fun H' => i + 1 ≤ p.1.length ∧ ∃ cm2 st3 acc rest, Tr cm1 H1 cm2 H' ∧ MakS K mg w cm H cm2 H' st3 D acc ∧ compB t c inn p.1 p.2 ls (p.1.drop (i + 1)) st3 = some (.val rest, st2) ∧ insL acc rest = insL acc0 l,
          fun H' h => ⟨p.1.length - (i + 1), by omega, rfl, h.1, h.2⟩, fun x H3 hy => ?_⟩
        obtain ⟨g3, g4⟩ := g2 x H3 hy
        have E3 : Ext cm2 H2 cm2 H3 := Ext.same g3
        have mk3 := mk2.step E3 (mk2.sto.same g3)
        have T3 := T2.trans E3.tr
        refine ct x σ0 H3 _ cm2 ls p.1[i] ls3 (R0.tr T3) g4 q fun σ4 R4 hl4 ha4 => ⟨wipe_eq hl4 ha4, ?_⟩
        rcases M.bind_inv e5 with ⟨b, st4, e6, e7⟩ | ⟨c', f, v, _, q6⟩
        · obtain ⟨b', q7, e6'⟩ := M.nox_inv e6
          cases q7
          refine ⟨cm2, ls3, st3, _, st4, ⟨mk3.sto, R4⟩, e6', fun cm5 H5 x5 s5 => ?_⟩
          have mk5 := mk3.step x5 s5
          have T5 := T3.trans x5.tr
          cases b with
          | false =>
            simp only [Bool.false_eq_true, if_false] at e7 ⊢
            exact ⟨hlt, cm5, st4, acc, rest, T5, mk5, e7, hl⟩
          | true =>
            simp only [if_true] at e7 ⊢
            rcases M.bind_inv e7 with ⟨ys, st5, e8, e9⟩ | ⟨c', f, v, _, q6⟩
            · obtain ⟨ys', q8, e8'⟩ := M.nox_inv e8
              cases q8
              rcases M.bind_inv e9 with ⟨zs, st6, e10, e11⟩ | ⟨c', f, v, _, q6⟩
              · cases e11
                rw [insL_app] at hl
                refine hin cm5 H5 st4 st5 σ4 ls3 acc ys _ mk5 (R4.ext x5) e8' (Nat.lt_of_le_of_lt (insL_len zs _) (by rw [hl]; exact hB)) fun cm6 H6 T6 mk6 => ?_
                exact ⟨hlt, cm6, st5, insL acc ys, zs, T5.trans T6, mk6, e10, hl⟩
              · cases q6
            · cases q6
        · cases q6
    · cases e5
  · rw [List.drop_eq_nil_of_le (by omega)] at e5
    simp only [compB] at e5
    split at e5
    · rename_i hok
      cases e5
      refine .inl ⟨wk.stop i cm2 H2 st2 T2 mk2.sto hok (by omega), hq cm2 H2 T2 ?_⟩
      rw [← hl]; exact mk2
    · cases e5
theorem in_add {e : ME} {σ2 : L2.St} {ls2 : Loc} {st3 st4 : Sto} {ys : List Int} {Nx : Hp → Prop} (n : H D = none) (mk : MakS K mg w cm H cm1 H1 st3 D acc) (R : RelC K mg cm1 ls2 σ2 H1)
    (h : mInt e ls2 st3 = some (.val ys, st4)) (hB : (insL acc ys).length < 64) (k : ∀ cm3 H3, Tr cm1 H1 cm3 H3 → MakS K mg w cm H cm3 H3 st4 D (insL acc ys) → Nx H3) : inAdd w (rdE K mg W0 e) D Nx σ2 H1 := by
  rcases M.bind_inv h with ⟨v, st5, e1, e2⟩ | ⟨_, _, _, _, q⟩
  · cases v with
    | int i =>
      cases e2
      refine ⟨cm1, ls2, st3, _, st4, ⟨mk.sto, R⟩, e1, fun cm5 H5 x5 s5 x hx => ?_⟩
      cases hx
      have mk5 := mk.step x5 s5
      have hl : acc.length < 64 := Nat.lt_of_le_of_lt (insL_len _ acc) hB
      refine ⟨i, _, _, rfl, mk5.at', by show acc.length + 1 < 4096; omega, ?_⟩
      rw [setH_add]
      exact k cm5 _ (x5.tr.trans (mk5.addTr i)) (mk5.add n i)
    | _ => cases e2
  · cases q
theorem in_next {src1 : MI} {t1 : MG} {g1 : TG} {c1 : MT} {e : ME} {vs1 : List Nat} {σ2 : L2.St} {ls2 : Loc} {st3 st4 : Sto} {ys : List Int} {Nx : Hp → Prop} (ct : CT K mg vs1 t1 g1) (n : H D = none) (mk : MakS K mg w cm H cm1 H1 st3 D acc) (R : RelC K mg cm1 ls2 σ2 H1)
    (h : mClause src1 vs1 t1 c1 (mInt e) ls2 st3 = some (.val ys, st4)) (hB : (insL acc ys).length < 64) (k : ∀ cm3 H3, Tr cm1 H1 cm3 H3 → MakS K mg w cm H cm3 H3 st4 D (insL acc ys) → Nx H3) :
    inNext w (rdI K mg W0 src1) g1 (rdT K mg W0 c1) (rdE K mg W0 e) vs1 D Nx σ2 H1 := by
  rcases M.bind_inv h with ⟨p, st5, e1, e2⟩ | ⟨_, _, _, _, q⟩
  · obtain ⟨ys', q, e2⟩ := M.nox_inv e2
    cases q
    refine ⟨cm1, ls2, st3, _, st5, ⟨mk.sto, R⟩, e1, fun cm5 H5 x5 s5 J wk => ?_⟩
    exact clause_turns ct wk (mk.step x5 s5) ((R.ext x5).wipe vs1) e2 hB (fun cm6 H6 st6 st7 σ6 ls6 acc6 ys6 Nx6 mk6 R6 h6 hB6 k6 => in_add n mk6 R6 h6 hB6 k6) fun cm6 H6 T6 mk6 => k cm6 H6 (x5.tr.trans T6) mk6
  · cases q
end
theorem CT.sub {K : PySem.W.Frag} {mg : Str → Option Value} {vs vs' : List Nat} {t : MG} {g : TG} (h : CT K mg vs t g) (i : ∀ j ∈ vs, j ∈ vs') : CT K mg vs' t g :=
  fun x σ H Q cm ls v ls' R hx e k => h x σ H Q cm ls v ls' R hx e fun σ' R' hl hk => k σ' R' hl fun j hj => hk j fun z => hj (i j z)
def mSortSet (cell : Bool) (m : MB) : ME := fun ls => M.bind (m ls) fun l => if (insL [] l).length < 64 then newL cell ((sortS l).map .int) else M.stuck
theorem rd_set {K : PySem.W.Frag} {mg : Str → Option Value} {w : World} {σ : L2.St} {H : Hp} {W : WX} {cell : Bool} {src : MI} {vs : List Nat} {t : MG} {g : TG} {c : MT} {inn : MB} {In : Addr → (Hp → Prop) → L2.St → Hp → Prop} {Q : VK} (ct : CT K mg vs t g)
    (hin : ∀ (cm : Wd) (H : Hp) (D : Addr), H D = none → ∀ (cm2 : Wd) (H2 : Hp) (st3 st4 : Sto) (σ2 : L2.St) (ls2 : Loc) (acc : List Int) (ys : List Int) (Nx : Hp → Prop), MakS K mg w cm H cm2 H2 st3 D acc → RelC K mg cm2 ls2 σ2 H2 → inn ls2 st3 = some (.val ys, st4) →
      (insL acc ys).length < 64 → (∀ cm3 H3, Tr cm2 H2 cm3 H3 → MakS K mg w cm H cm3 H3 st4 D (insL acc ys) → Nx H3) → In D Nx σ2 H2)
    (h : rdE K mg W (mSortSet cell (mClause src vs t c inn)) σ H Q) : tSet w (rdI K mg W src) g (rdT K mg W0 c) In vs σ H fun x H1 => rSortedSet w [x] H1 Q := by
  obtain ⟨cm, ls, st, r, st', R, e0, o⟩ := h
  rcases M.bind_inv e0 with ⟨l, st1, e1, e2⟩ | ⟨c', f, v, e1, rfl⟩
  · rcases M.bind_inv e1 with ⟨p, st2, e3, e4⟩ | ⟨c', f, v, e3, q⟩
    · refine ⟨cm, ls, st, _, st2, R, e3, fun cm1 H1 x1 s1 J wk D hD => ?_⟩
      obtain ⟨l', q1, e4'⟩ := M.nox_inv e4
      cases q1
      split at e2
      · rename_i hlen
        have mk := MakS.mk0 (w := w) s1 hD
        have T0 : Tr cm1 H1 (cm1.avoid D) (upd H1 D (setH w D [])) := mk.ext.tr
        have z : SetO w D noInt 0 = setH w D [] := by
          unfold setH
          have : noInt = fun j => decide (j ∈ ([] : List Int)) := by funext j; simp
          rw [this]; rfl
        rw [z]
        have wk' : Walks K mg J p (cm1.avoid D) (upd H1 D (setH w D [])) := ⟨fun i cm2 H2 st3 T => wk.stop i cm2 H2 st3 (T0.trans T), fun i cm2 H2 st3 v T => wk.go i cm2 H2 st3 v (T0.trans T)⟩
        refine clause_turns (acc0 := []) ct wk' mk (((R.loc.ext x1).wipe vs).tr T0) e4' hlen (hin cm1 H1 D hD) fun cm2 H2 T2 mk2 => ?_
        refine ⟨D, _, _, rfl, mk2.at', hlen, fun ns d ha hm hn hd => ?_⟩
        have e : ns = sortS l := sortS_of ha fun k => (hm k).trans (by simp)
        rw [e]
        have o2 : Out K mg W σ cm2 H2 (GE K mg Q) r st' := by
          have E2 := x1.trans mk2.ext
          cases r with
          | val a => exact fun cm3 H3 x3 s3 => o cm3 H3 (E2.trans x3) s3
          | exc c f v => exact fun cm3 H3 x3 s3 => o cm3 H3 (E2.trans x3) s3
        exact newL_new mk2.sto e2 hd (rep_ints _) o2
      · cases e2
    · cases q
  · rcases M.bind_inv e1 with ⟨p, st2, e3, e4⟩ | ⟨c'', f', v', e3, q⟩
    · obtain ⟨_, q, _⟩ := M.nox_inv e4
      cases q
    · cases q
      exact ⟨cm, ls, st, _, st', R, e3, fun cm1 H1 x1 s1 => o cm1 H1 x1 s1⟩
section
variable {X : Cx} {W : WX} {tg iter elt tg1 iter1 : Expr} {ifs ifs1 : List Expr} {scope : Scope} {pos p cpos : Pos} {src src1 : MI} {t t1 : MG} {g g1 : TG} {c c1 : MT} {m : ME}
theorem e_sortSet1 (cell : Bool) (own : List (Str × Nat)) (hg0 : Gl X "sorted") (hm : X.mg "sorted" = none) (ct : CT X.K X.mg (own.map (·.2)) t g) (hc : X.calm = true) (hN : X.N.Nodup) (hi : PI' X W tg iter src) (ok : BlkOk X.N X.env.scope scope own)
    (hg : ∀ (s : Shared) (H : Hp) (C : Addr) (cl : List (Str × Addr)) (fp : List Addr), PG (X.blk s H scope (compEnvC scope cl C X.env) fp) tg g)
    (ht : ∀ (s : Shared) (H : Hp) (C : Addr) (cl : List (Str × Addr)) (fp : List Addr), PTs' (X.blk s H scope (compEnvC scope cl C X.env) fp) W0 ifs c)
    (he : ∀ (s : Shared) (H : Hp) (C : Addr) (cl : List (Str × Addr)) (fp : List Addr), PE' (X.blk s H scope (compEnvC scope cl C X.env) fp) W0 elt m) (hs : ∀ x, foldedSetIterable iter X.env x = pure x := by intro _; rfl)
    (hst : starEach [.SetComp elt [⟨tg, iter, ifs, 0⟩] scope pos] X.env = (false, eval (.SetComp elt [⟨tg, iter, ifs, 0⟩] scope pos) X.env) :: starEach [] X.env := by rfl) :
    PE' X W (.Call (.Name "sorted" p) [.SetComp elt [⟨tg, iter, ifs, 0⟩] scope pos] [] cpos) (mSortSet cell (mClause src (own.map (·.2)) t c (mInt m))) := by
  have a := pe_set (pos := pos) (ts := ifs) (tt := rdT X.K X.mg W0 c) (inner := addElt elt) (vi := []) (In := inAdd X.w (rdE X.K X.mg W0 m)) hc hN hi ok (fun i k => by cases k) (fun _ _ _ => turn_one) hg ht (fun s H C cl fp pl s' σ2 H' D Nx I q => add_run (Y := X.blk s H scope (compEnvC scope cl C X.env) fp) rfl (he s H C cl fp) I q) hs
  exact PE_imp (pe_callB (cr_sortedSet hc) hg0 hm (by rfl) (pa_cons a pa_nil hst) (by decide) (by decide) hst (by rfl)) fun σ H Q h => rd_set ct (fun cm H D n cm2 H2 st3 st4 σ2 ls2 acc ys Nx mk R e hB k => in_add n mk R e hB k) h
theorem e_sortSet2 (cell : Bool) (own : List (Str × Nat)) (vs1 : List Nat) (hg0 : Gl X "sorted") (hm : X.mg "sorted" = none) (ct : CT X.K X.mg (own.map (·.2)) t g) (ct1 : CT X.K X.mg vs1 t1 g1) (hv : ∀ i ∈ vs1, i ∈ own.map (·.2)) (hc : X.calm = true) (hN : X.N.Nodup) (hi : PI' X W tg iter src) (ok : BlkOk X.N X.env.scope scope own)
    (hg : ∀ (s : Shared) (H : Hp) (C : Addr) (cl : List (Str × Addr)) (fp : List Addr), PG (X.blk s H scope (compEnvC scope cl C X.env) fp) tg g)
    (ht : ∀ (s : Shared) (H : Hp) (C : Addr) (cl : List (Str × Addr)) (fp : List Addr), PTs' (X.blk s H scope (compEnvC scope cl C X.env) fp) W0 ifs c)
    (hi1 : ∀ (s : Shared) (H : Hp) (C : Addr) (cl : List (Str × Addr)) (fp : List Addr), PI' (X.blk s H scope (compEnvC scope cl C X.env) fp) W0 tg1 iter1 src1)
    (hg1 : ∀ (s : Shared) (H : Hp) (C : Addr) (cl : List (Str × Addr)) (fp : List Addr), PG (X.blk s H scope (compEnvC scope cl C X.env) fp) tg1 g1)
    (ht1 : ∀ (s : Shared) (H : Hp) (C : Addr) (cl : List (Str × Addr)) (fp : List Addr), PTs' (X.blk s H scope (compEnvC scope cl C X.env) fp) W0 ifs1 c1)
    (he : ∀ (s : Shared) (H : Hp) (C : Addr) (cl : List (Str × Addr)) (fp : List Addr), PE' (X.blk s H scope (compEnvC scope cl C X.env) fp) W0 elt m) (hs : ∀ x, foldedSetIterable iter X.env x = pure x := by intro _; rfl)
    (hs1 : ∀ env x, foldedSetIterable iter1 env x = pure x := by intro _ _; rfl)
    (hst : starEach [.SetComp elt [⟨tg, iter, ifs, 0⟩, ⟨tg1, iter1, ifs1, 0⟩] scope pos] X.env = (false, eval (.SetComp elt [⟨tg, iter, ifs, 0⟩, ⟨tg1, iter1, ifs1, 0⟩] scope pos) X.env) :: starEach [] X.env := by rfl) :
    PE' X W (.Call (.Name "sorted" p) [.SetComp elt [⟨tg, iter, ifs, 0⟩, ⟨tg1, iter1, ifs1, 0⟩] scope pos] [] cpos) (mSortSet cell (mClause src (own.map (·.2)) t c (mClause src1 vs1 t1 c1 (mInt m)))) := by
  have a := pe_set (pos := pos) (ts := ifs) (tt := rdT X.K X.mg W0 c) (inner := nextClause (.SetComp elt [⟨tg, iter, ifs, 0⟩, ⟨tg1, iter1, ifs1, 0⟩] scope pos) 0 iter1) (vi := vs1) (In := inNext X.w (rdI X.K X.mg W0 src1) g1 (rdT X.K X.mg W0 c1) (rdE X.K X.mg W0 m) vs1) hc hN hi ok hv (fun _ _ _ => turn_first) hg ht
    (fun s H C cl fp pl s' σ2 H' D Nx I q => next_run (Y := X.blk s H scope (compEnvC scope cl C X.env) fp) rfl hc (hs1 _) (hi1 s H C cl fp) (hg1 s H C cl fp) (ht1 s H C cl fp) (he s H C cl fp) I q) hs
  exact PE_imp (pe_callB (cr_sortedSet hc) hg0 hm (by rfl) (pa_cons a pa_nil hst) (by decide) (by decide) hst (by rfl)) fun σ H Q h => rd_set ct (fun cm H D n cm2 H2 st3 st4 σ2 ls2 acc ys Nx mk R e hB k => in_next ct1 n mk R e hB k) h
end
end MK
end
section
set_option maxHeartbeats 2000000
namespace MK
open PySem PySem.Spec PyProof.Rows L2
theorem newEnum {v : Value} {o : Obj} {Hh : Heap → Prop} (B : Begins v o Hh) :
    Meets (Builtin.«enumerate.__new__» ⟨[.type "enumerate", v], []⟩) (fun _ R s => Hh s.heap ∧
      R (.ok (.ret (.ref (s.heap.push o).objs.size))) { s with heap := (s.heap.push o).push { cls := .type "enumerate", data := .fields #[.none, .bool false, .ref s.heap.objs.size, rawInt 0, .none, .none] } }) :=
  .of_wp fun prog w A R s h => by
    obtain ⟨hp, gs, dr, tk, os⟩ := s
    obtain ⟨h1, h2⟩ := h
    have hsub := sub_enumerate
    have it : ∀ {A' : Around} {E : Value → Shared → Prop} {Q : Value → Shared → Prop}, Q (.ref hp.objs.size) ⟨hp.push o, gs, dr, tk, os⟩ → wpAny (model prog w) A' (pyIter v) Q E ⟨hp, gs, dr, tk, os⟩ := fun q => B.iter prog w _ _ ⟨hp, gs, dr, tk, os⟩ _ h1 q
    wp_walk using it
    refine wpAny_stack_any fun st => wpAny_pure ?_
    split
    · rename_i c _ _ _ _ _
      cases (c == Value.type "enumerate") <;> (wp_walk using it; exact ⟨_, rfl, h2⟩)
    · wp_walk using it
      exact ⟨_, rfl, h2⟩
section
variable {P : Program} {w : World} {A : Around} {E : Value → Shared → Prop} {s : Shared}
theorem call_enum {v : Value} {o : Obj} {Hh : Heap → Prop} {Q : Value → Shared → Prop} (B : Begins v o Hh) (h1 : Hh s.heap)
    (h : ∀ h', IsEnum h' (s.heap.objs.size + 1) s.heap.objs.size 0 .none → h'.get? s.heap.objs.size = some o → (∀ b u, s.heap.get? b = some u → h'.get? b = some u) → Q (.ref (s.heap.objs.size + 1)) { s with heap := h' }) :
    wpAny (model P w) A (call (.type "enumerate") [v]) Q E s := by
  refine callType_new F.called_enumerate (by decide) (F.typeCall_enumerate_1 _) (F.newCall_enumerate_1 _) (fun obj => F.args_object_init_2 obj _) F.entry_enumerate_new (newEnum B) ⟨h1, ?_⟩
  have hz : (s.heap.push o).objs.size = s.heap.objs.size + 1 := Heap.size_push ..
  have he := Heap.get?_push_size (s.heap.push o) (o := { cls := .type "enumerate", data := .fields #[.none, .bool false, .ref s.heap.objs.size, rawInt 0, .none, .none] }) rfl
  rw [hz] at he
  rw [hz]
  exact ⟨⟨_, he, rfl⟩, h _ he (Heap.get?_push_of_some _ (Heap.get?_push_size _ B.free)) fun b u q => Heap.get?_push_of_some _ (Heap.get?_push_of_some _ q)⟩
end
def ItE (K : PySem.W.Frag) (a : Addr) (n : Nat) : It :=
  ⟨fun i H => ∃ (xs : List V) (x : V), SqT K H a xs ∧ xs.length = n ∧ xs[i]? = some x, fun i H v H' => ∃ T x, v = .ref T ∧ H T = none ∧ H' = upd H T (.tup [.int (i : Nat), x]) ∧ ∀ xs, SqT K H a xs → xs[i]? = some x, fun i H => n ≤ i ∧ ∃ xs : List V, SqT K H a xs ∧ xs.length = n⟩
theorem turn_enumT {P : Program} {w : World} {K : PySem.W.Frag} {elts : List Expr} {kk : Nat} {tpos : Pos} (a e it : Addr) (n : Nat) (hea : e ≠ a) (hia : it ≠ a) (hne : e ≠ it) :
    Turn P w K (.Tuple elts kk tpos) (ItE K a n) [e, it] e (fun i h => (∃ old, IsEnum h e it ((i : Nat) : Int) old) ∧ h.IsTupleIter it a i ∧ i ≤ n) where
  mem := List.mem_cons_self
  obj := fun i h st b hb => by
    obtain ⟨⟨old, he⟩, ⟨o, ho, hc, hd⟩, _⟩ := st
    rcases List.mem_cons.mp hb with z | z
    · subst z; exact ⟨_, he, fun v q => nomatch q⟩
    · have z := List.mem_singleton.mp z
      subst z; exact ⟨o, ho, fun v q => by rw [hd] at q; cases q⟩
  keep := fun i h h' st k => by
    obtain ⟨⟨old, he⟩, hi, hn⟩ := st
    exact ⟨⟨old, k e (by simp) _ he⟩, hi.at fun o q => k it (by simp) o q, hn⟩
  item := by
    intro X hP hw hK hc i pins s σ H E I hf st go
    subst hP hw hK
    obtain ⟨⟨old, he⟩, hit, hn⟩ := st
    obtain ⟨xs, x, hq, hl, hx⟩ := go
    have ltn : i < n := by rw [← hl]; exact (List.getElem?_eq_some_iff.mp hx).1
    obtain ⟨its, rv, tp, _⟩ := I.tuple hq
    obtain ⟨u, hu, ru⟩ := rv.get hx
    have ht : s.heap.IsTuple a its.toArray := tp
    have le : e < s.heap.objs.size := Heap.lt_size he
    have li : it < s.heap.objs.size := by obtain ⟨_, q, _⟩ := hit; exact Heap.lt_size q
    have ix : i < its.toArray.size := by
      have := (List.getElem?_eq_some_iff.mp hu).1
      simpa using this
    refine wpAny_pyNext_enum_itemD (Draws.tuple (A := X.A.in1) (I.ok.hd hc) it a (Ne.symm hia) its.toArray) he ⟨hit, ht⟩ ix hne (fun z => by
      rcases List.mem_cons.mp z with z | z
      · exact hne z
      · exact hea (List.mem_singleton.mp z)) fun y h' tk hy ho hst hT hsz hk => ?_
    have ey : y = u := by
      have hy : its.toArray[i]? = some y := hy
      rw [List.getElem?_toArray, hu] at hy
      exact (Option.some.inj hy).symm
    subst ey
    refine ⟨_, rfl, wpAny_letOwnedTupleGo_enum (s := { s with heap := h', toks := tk + 1 }) ho fun h'' he' sb => ?_⟩
    have hT2 := (sb.2 _ (Nat.ne_of_gt le)).trans hT
    have new : ObjOk X.prog X.w (upd H s.heap.objs.size (.tup [.int (i : Nat), x])) h'' s.heap.objs.size (.tup [.int (i : Nat), x]) :=
      ⟨by show 2 ≤ sizeLine; decide, [.int i tk, y], .cons ⟨_, rfl⟩ (.cons ru .nil), ⟨_, hT2, rfl, _, rfl⟩⟩
    have I1 : Inv X pins σ (upd H s.heap.objs.size (.tup [.int (i : Nat), x])) { s with heap := h'', toks := tk + 1 } := by
      refine I.turnedNew (ch := [e, it]) (fun b ob hb q => ?_) hf (Nat.le_refl _) new
      have b1 : b ≠ e := fun z => hb (by simp [z])
      have b2 : b ≠ it := fun z => hb (by simp [z])
      exact (sb.2 b b1).trans (hk b ob b1 b2 q)
    refine ⟨.ref s.heap.objs.size, _, I1, rfl, ⟨_, x, rfl, I.hok.fresh (Nat.le_refl _), rfl, fun ys hy => by rw [I.tuple_inj hy hq]; exact hx⟩, ⟨⟨y, ?_⟩, hst.1.at fun o q => (sb.2 it (Ne.symm hne)).trans q, ltn⟩, fun b hb => ?_⟩
    · rw [show ((i + 1 : Nat) : Int) = (i : Int) + 1 by omega]; exact he'
    · have lb : b < s.heap.objs.size := by
        rcases List.mem_cons.mp hb with z | z
        · subst z; exact le
        · rw [List.mem_singleton.mp z]; exact li
      exact (upd_ne (Nat.ne_of_lt lb)).trans (hf b hb).1
  done := by
    intro X hP hw hK hc i pins s σ H E I hf st go
    subst hP hw hK
    obtain ⟨⟨old, he⟩, hit, hn⟩ := st
    obtain ⟨hge, xs, hq, hx⟩ := go
    obtain ⟨its, rv, tp, _⟩ := I.tuple hq
    have ht : s.heap.IsTuple a its.toArray := tp
    obtain ⟨f0, f1, f2, f3, f4, f5⟩ := hf it (by simp)
    have el : its.toArray.size = i := by
      rw [List.size_toArray, ← rv.length, hx]; exact Nat.le_antisymm hge hn
    subst el
    exact wpAny_pyNext_enum_endD (Draws.tuple (A := X.A.in1) (I.ok.hd hc) it a (Ne.symm hia) its.toArray) he ⟨hit, ht⟩ fun h' eb => ⟨rfl, I.turned (t' := s.toks) (fun b o hb q => eb b o hb q) f0 f1 f3 f4 f5⟩
  self := fun A i s Q E st h => by
    obtain ⟨⟨_, he⟩, _⟩ := st
    exact wpAny_pyIter_enum he h
def iEnum2 (K : PySem.W.Frag) (ta : TA) : TI := fun σ H R => ta σ H fun vs H1 => ∃ a xs, vs = [.ref a] ∧ ((SqL K H1 a xs ∧ R (Ite K a) H1) ∨ (SqT K H1 a xs ∧ R (ItE K a xs.length) H1))
theorem pi_enum2 {X : Cx} {e : Expr} {ta : TA} {p pos tpos : Pos} {elts : List Expr} {kk : Nat} (hg : Gl X "enumerate") (hm : X.mg "enumerate" = none) (ha : PA X [e] ta) (hs : starEach [e] X.env = [(false, eval e X.env)] := by rfl) :
    PI X (.Tuple elts kk tpos) (.Call (.Name "enumerate" p) [e] [] pos) (iEnum2 X.K ta) := by
  refine ⟨fun pins s σ H R I h => ?_⟩
  refine Call_ (ld_blt I hg hm boot_enumerate (PyProof.Rows.callWith_type1 (thn (ha.run pos pins s σ H _ I h) fun us s1 h1 => ?_) hs rfl))
  obtain ⟨vs, H1, I1, r1, a, xs, ex, h1⟩ := h1
  subst ex
  rw [Vals.ref1 r1]
  have new : ∀ b, b ∈ [s1.heap.objs.size + 1, s1.heap.objs.size] → s1.heap.objs.size ≤ b := fun b hb => by
    rcases List.mem_cons.mp hb with z | z
    · rw [z]; exact Nat.le_succ _
    · rw [List.mem_singleton.mp z]; exact Nat.le_refl _
  rcases h1 with ⟨hq, q⟩ | ⟨hq, q⟩
  · obtain ⟨its, rv, lp, _⟩ := I1.list hq
    refine call_enumerate_list lp.isList fun h' he hit hsz hk => wpAny_pyIter_enum he ?_
    exact ⟨_, _, _, _, H1, rfl, I1.kept (t' := s1.toks) hk, turn_enum a (s1.heap.objs.size + 1) s1.heap.objs.size, ⟨⟨.none, he⟩, hit, Nat.succ_ne_self _⟩, fun b hb => I1.fpOk (new b hb) (I1.hok.fresh (new b hb)), q⟩
  · obtain ⟨its, rv, tp, _⟩ := I1.tuple hq
    have ht : s1.heap.IsTuple a its.toArray := tp
    have la : a < s1.heap.objs.size := by obtain ⟨o, q, _⟩ := ht; exact Heap.lt_size q
    refine call_enum (begins_tuple a its.toArray) ht fun h' he hit hk => wpAny_pyIter_enum he ?_
    exact ⟨_, _, _, _, H1, rfl, I1.kept (t' := s1.toks) hk, turn_enumT a (s1.heap.objs.size + 1) s1.heap.objs.size xs.length (Nat.ne_of_gt (Nat.lt_succ_of_lt la)) (Nat.ne_of_gt la) (Nat.succ_ne_self _), ⟨⟨.none, he⟩, ⟨_, hit, rfl, rfl⟩, Nat.zero_le _⟩, fun b hb => I1.fpOk (new b hb) (I1.hok.fresh (new b hb)), q⟩
def enumL (l : List IV) : List IV := l.mapIdx fun i v => .tup [.int (i : Nat), v]
def enumM (l : List IV) : M Src := fun st => match l with
  | [.tup l] => some (.val (enumL l, none), st)
  | [.lst l] => some (.val (enumL l, none), st)
  | _ => none
def mEnum (g : MA) : MI := fun ls => M.bind (g ls) enumM
theorem enumL_get {l : List IV} {i : Nat} {v : IV} (h : (enumL l)[i]? = some v) : ∃ u, l[i]? = some u ∧ v = .tup [.int (i : Nat), u] := by
  unfold enumL at h
  rw [List.getElem?_mapIdx] at h
  cases q : l[i]? with
  | none => rw [q] at h; cases h
  | some u => rw [q] at h; cases h; exact ⟨u, rfl, rfl⟩
theorem enumL_len (l : List IV) : (enumL l).length = l.length := by unfold enumL; simp
section
variable {K : PySem.W.Frag} {mg : Str → Option Value} {cm : Wd} {H : Hp}
theorem rep_pair {cm1 : Wd} {st1 : Sto} {H1 : Hp} {T : Addr} {i : Nat} {x : V} {u : IV} (s : RelS K mg cm1 st1 H1) (hT : H1 T = none) (r : Rep K mg cm1 H1 x u) : Rep K mg cm1 (upd H1 T (.tup [.int (i : Nat), x])) (.ref T) (.tup [.int (i : Nat), u]) :=
  .tup (.inl ⟨.inl upd_same, s.notAv hT⟩) (.cons (.int _) (.cons (r.ext (Ext.new' hT)) .nil))
theorem walks_ET {p : Addr} {xs : List V} {l : List IV} (h : FzT K cm H p xs) (r : RepL K mg cm H xs l) : Walks K mg (ItE K p xs.length) (enumL l, none) cm H where
  stop := fun i cm1 H1 st1 e s _ hi => by
    rw [enumL_len, ← r.length] at hi
    exact ⟨hi, xs, (e.fzT h).sq, rfl⟩
  go := fun i cm1 H1 st1 v e s _ hi => by
    obtain ⟨u, h1, rfl⟩ := enumL_get hi
    obtain ⟨x, h2, h3⟩ := r.get h1
    refine ⟨⟨xs, x, (e.fzT h).sq, rfl, h2⟩, fun y H2 hy => ?_⟩
    obtain ⟨T, x', rfl, hT, rfl, hx⟩ := hy
    have q := hx xs (e.fzT h).sq
    rw [h2] at q; cases q
    exact ⟨same_new hT, rep_pair s hT (h3.tr e)⟩
theorem walks_EL {p : Addr} {xs : List V} {l : List IV} (h : FzL cm H p xs) (r : RepL K mg cm H xs l) : Walks K mg (Ite K p) (enumL l, none) cm H where
  stop := fun i cm1 H1 st1 e s _ hi => by
    rw [enumL_len, ← r.length] at hi
    exact ⟨xs, (e.fzL h).sq, hi⟩
  go := fun i cm1 H1 st1 v e s _ hi => by
    obtain ⟨u, h1, rfl⟩ := enumL_get hi
    obtain ⟨x, h2, h3⟩ := r.get h1
    refine ⟨⟨xs, x, (e.fzL h).sq, h2⟩, fun y H2 hy => ?_⟩
    obtain ⟨T, x', rfl, hT, rfl, hx⟩ := hy
    have q := hx xs (e.fzL h).sq
    rw [h2] at q; cases q
    exact ⟨same_new hT, rep_pair s hT (h3.tr e)⟩
end
section
variable {X : Cx} {W : WX} {a : Expr} {g : MA} {p pos tpos : Pos} {elts : List Expr} {kk : Nat}
theorem i_enum (hg : Gl X "enumerate") (hm : X.mg "enumerate" = none) (ha : PA' X W [a] g) (hs : starEach [a] X.env = [(false, eval a X.env)] := by rfl) : PI' X W (.Tuple elts kk tpos) (.Call (.Name "enumerate" p) [a] [] pos) (mEnum g) :=
  PI_imp (pi_enum2 hg hm ha hs) fun σ H R h => rdA_mono (rdIA h) fun xs H1 h1 => by
    obtain ⟨cm, st, l, r, st', s, hx, e, o⟩ := h1
    unfold enumM at e
    split at e
    · cases e
      obtain ⟨y, rfl, hy⟩ := rep1 hx
      cases hy with
      | @tup q ys _ h1 h2 => exact ⟨q, ys, rfl, .inr ⟨h1.sq, o cm H1 (Ext.refl _ _) s _ (walks_ET h1 h2)⟩⟩
    · cases e
      obtain ⟨y, rfl, hy⟩ := rep1 hx
      cases hy with
      | @lst q ys _ h1 h2 => exact ⟨q, ys, rfl, .inl ⟨h1.sq, o cm H1 (Ext.refl _ _) s _ (walks_EL h1 h2)⟩⟩
    · cases e
end
theorem ct_two {K : PySem.W.Frag} {mg : Str → Option Value} (i j : Nat) : CT K mg [i, j] (gTupI 2 (gsCons (gSet i) (gsCons (gSet j) gsNil))) (gTup K 2 (gCons (gName i) (gCons (gName j) gNil))) := by
  intro x σ H Q cm ls v ls' R hx e k
  cases hx with
  | @tup p xs l h1 h2 =>
    simp only [gTupI] at e
    split at e
    · rename_i hl
      cases h2 with
      | nil => cases hl
      | @cons y1 ys v1 l1 r1 rr =>
        cases rr with
        | nil => cases hl
        | @cons y2 ys v2 l2 r2 rr =>
          cases rr with
          | cons => simp at hl
          | nil =>
            cases e
            refine ⟨p, _, rfl, h1.sq, rfl, y1, _, rfl, y2, _, rfl, rfl, k _ ?_ (by simp) fun m hm => ?_⟩
            · exact (R.set i r1).set j r2
            · rw [List.getElem?_set_ne (fun z => hm (by simp [z])), List.getElem?_set_ne (fun z => hm (by simp [z]))]
    · cases e
  | _ => cases e
theorem pg_two {X : Cx} {i j : Nat} {x y : Str} {p1 p2 pos : Pos} {kk : Nat} (hc : X.calm = true) (h1 : PG X (.Name x p1) (gName i)) (h2 : PG X (.Name y p2) (gName j)) (hn : (assignEach [.Name x p1, .Name y p2] X.env).length = 2 := by rfl)
    (hst : (assignEach [.Name x p1, .Name y p2] X.env).findIdx? (·.1) = none := by rfl) (hs1 : (assignEach [.Name x p1, .Name y p2] X.env).map (·.2) = assign (.Name x p1) X.env :: (assignEach [.Name y p2] X.env).map (·.2) := by rfl)
    (hs2 : (assignEach [.Name y p2] X.env).map (·.2) = assign (.Name y p2) X.env :: (assignEach [] X.env).map (·.2) := by rfl) : PG X (.Tuple [.Name x p1, .Name y p2] kk pos) (gTup X.K 2 (gCons (gName i) (gCons (gName j) gNil))) :=
  pg_tup hc (pgs_cons h1 (pgs_cons h2 pgs_nil hs2) hs1) hn hst
end MK
end
section
set_option maxHeartbeats 2000000
namespace MK
open PySem PySem.Spec PyProof.Rows L2
def ltL : List Int → List Int → Bool
  | [], [] => false
  | [], _ :: _ => true
  | _ :: _, [] => false
  | a :: l, b :: m => if a = b then ltL l m else decide (a < b)
theorem ltL_asym : ∀ l m : List Int, ltL l m = true → ltL m l = false
  | [], [], h => by cases h
  | [], _ :: _, _ => rfl
  | _ :: _, [], h => by cases h
  | a :: l, b :: m, h => by
    unfold ltL at h ⊢
    by_cases e : a = b
    · subst e
      rw [if_pos rfl] at h ⊢
      exact ltL_asym l m h
    · rw [if_neg e] at h
      rw [if_neg (fun z => e z.symm)]
      have := of_decide_eq_true h
      exact decide_eq_false (by omega)
theorem ltL_tr : ∀ x y z : List Int, ltL y x = false → ltL z y = false → ltL z x = false
  | [], [], [], _, _ => rfl
  | _, [], _ :: _, _, _ => by
    rename_i x c z h1 h2
    cases x with
    | nil => rfl
    | cons a x => cases h1
  | a :: x, b :: y, [], _, h2 => by cases h2
  | [], b :: y, [], _, h2 => by cases h2
  | a :: x, [], [], h1, _ => by cases h1
  | [], b :: y, c :: z, _, _ => rfl
  | a :: x, b :: y, c :: z, h1, h2 => by
    unfold ltL at h1 h2 ⊢
    by_cases e1 : b = a
    · subst e1
      rw [if_pos rfl] at h1
      by_cases e2 : c = b
      · subst e2
        rw [if_pos rfl] at h2 ⊢
        exact ltL_tr x y z h1 h2
      · rw [if_neg e2] at h2 ⊢; exact h2
    · rw [if_neg e1] at h1
      have k1 := of_decide_eq_false h1
      by_cases e2 : c = b
      · subst e2
        rw [if_neg e1]; exact h1
      · rw [if_neg e2] at h2
        have k2 := of_decide_eq_false h2
        rw [if_neg (by omega)]
        exact decide_eq_false (by omega)
theorem ltL_eq : ∀ l m : List Int, ltL l m = false → ltL m l = false → l = m
  | [], [], _, _ => rfl
  | [], _ :: _, h, _ => by cases h
  | _ :: _, [], _, h => by cases h
  | a :: l, b :: m, h1, h2 => by
    unfold ltL at h1 h2
    by_cases e : a = b
    · subst e
      rw [if_pos rfl] at h1 h2
      rw [ltL_eq l m h1 h2]
    · rw [if_neg e] at h1
      rw [if_neg (fun z => e z.symm)] at h2
      have k1 := of_decide_eq_false h1
      have k2 := of_decide_eq_false h2
      omega
def TupInts (h : Heap) (v : Value) (ns : List Int) : Prop := ∃ (t : Addr) (its : List Value), v = .ref t ∧ h.IsTuple t its.toArray ∧ IntsAre its ns
section
variable {P : Program} {w : World} {A : Around} {E : Value → Shared → Prop} {s : Shared} {M : Model}
theorem TupInts.keeps {h h' : Heap} {v : Value} {ns : List Int} (t : TupInts h v ns) (k : ∀ b o, h.get? b = some o → o.cls = .type "tuple" → h'.get? b = some o) : TupInts h' v ns := by
  obtain ⟨a, its, e, hT, i⟩ := t
  obtain ⟨o, ho, hc, n, hd⟩ := hT
  exact ⟨a, its, e, ⟨o, k a o ho hc, hc, n, hd⟩, i⟩
end
abbrev tupI (ns : List Int) : IV := .tup (ns.map .int)
def sortLL (l : List (List Int)) : List (List Int) := l.mergeSort fun a b => !ltL b a
theorem sortLL_perm (l : List (List Int)) : (sortLL l).Perm l := List.mergeSort_perm l _
theorem sortLL_le (l : List (List Int)) : (sortLL l).Pairwise fun a b => ltL b a = false := by
  have h := List.pairwise_mergeSort (le := fun a b : List Int => !ltL b a) (by
    intro a b c h1 h2
    simp only [Bool.not_eq_true'] at *
    exact ltL_tr a b c h1 h2) (by
    intro a b
    cases q : ltL b a with
    | false => simp
    | true => simp [ltL_asym _ _ q]) l
  exact h.imp fun h => by simpa using h
end MK
end
namespace MK
open PySem L2
section
variable {st : Sto} {E : EX} {ls : Loc} {Q : IV → Sto → Prop} {QS : Src → Sto → Prop} {QB : List Int → Sto → Prop} {ga : MA} {m : ME} {tc : MT} {l : List IV} {c : Bool}
theorem we_enum (h : we (ga ls) st E fun l st1 => we (enumM l) st1 E QS) : we (mEnum ga ls) st E QS := we_bind h
instance i_we_enum  : Rule (we (mEnum ga ls) st E QS) (we (ga ls) st E fun l st1 => we (enumM l) st1 E QS) := ⟨we_enum⟩
theorem we_enumT (q : QS (enumL l, none) st) : we (enumM [.tup l]) st E QS := ⟨_, _, rfl, q⟩
instance i_we_enumT  : Rule (we (enumM [.tup l]) st E QS) (QS (enumL l, none) st) := ⟨we_enumT⟩
theorem we_enumL (q : QS (enumL l, none) st) : we (enumM [.lst l]) st E QS := ⟨_, _, rfl, q⟩
instance i_we_enumL  : Rule (we (enumM [.lst l]) st E QS) (QS (enumL l, none) st) := ⟨we_enumL⟩
theorem we_mInt (h : we (m ls) st E fun v st1 => ∃ i, v = .int i ∧ QB [i] st1) : we (mInt m ls) st E QB :=
  we_bind (we_mono h fun v st1 h => by
    obtain ⟨i, rfl, q⟩ := h
    exact ⟨.val [i], st1, rfl, q⟩)
instance i_we_mInt  : Rule (we (mInt m ls) st E QB) (we (m ls) st E fun v st1 => ∃ i, v = .int i ∧ QB [i] st1) := ⟨we_mInt⟩
theorem we_clause {src : MI} {vs : List Nat} {t : MG} {inn : MB} (h : we (src ls) st E fun p st1 => we (compB t tc inn p.1 p.2 (wipeI ls vs) p.1) st1 noX QB) : we (mClause src vs t tc inn ls) st E QB :=
  we_bind (we_mono h fun p st1 q => we_noxM q)
instance i_we_clause {src : MI} {vs : List Nat} {t : MG} {inn : MB} : Rule (we (mClause src vs t tc inn ls) st E QB) (we (src ls) st E fun p st1 => we (compB t tc inn p.1 p.2 (wipeI ls vs) p.1) st1 noX QB) := ⟨we_clause⟩
theorem we_sortSet {b : MB} (h : we (b ls) st E fun l st1 => (insL [] l).length < 64 ∧ we (newL c ((sortS l).map .int)) st1 E Q) : we (mSortSet c b ls) st E Q :=
  we_bind (we_mono h fun l st1 h => by
    rw [if_pos h.1]; exact h.2)
instance i_we_sortSet {b : MB} : Rule (we (mSortSet c b ls) st E Q) (we (b ls) st E fun l st1 => (insL [] l).length < 64 ∧ we (newL c ((sortS l).map .int)) st1 E Q) := ⟨we_sortSet⟩
theorem compB_pure {α : Type} {t : MG} {inn : MB} {l0 : List IV} {k : Option Nat} {as : List α} (g : α → IV) (p : α → Bool) (f : α → List Int) (z : srcOk k l0 st)
    (step : ∀ a ∈ as, ∃ ls1, t ls (g a) = some ls1 ∧ we (tc ls1) st noX (fun b st' => b = p a ∧ st' = st) ∧ (p a = true → we (inn ls1) st noX fun v st' => v = f a ∧ st' = st)) (q : QB ((as.filter p).flatMap f) st) :
    we (compB t tc inn l0 k ls (as.map g)) st noX QB := by
  refine ⟨.val ((as.filter p).flatMap f), st, ?_, q⟩
  clear q
  induction as with
  | nil => simp only [List.map_nil]; unfold compB; rw [if_pos z]; rfl
  | cons a as ih =>
    obtain ⟨ls1, e1, e2, e3⟩ := step a List.mem_cons_self
    have e2 := run_of e2
    have ih' := ih fun w hw => step w (List.mem_cons_of_mem _ hw)
    simp only [List.map_cons]
    unfold compB
    rw [if_pos z, e1]
    show M.bind (M.nox (tc ls1)) _ st = _
    rw [M.bind_run (M.nox_run e2)]
    cases q : p a with
    | true =>
      rw [if_pos rfl, M.bind_run (M.nox_run (run_of (e3 q))), M.bind_run ih', List.filter_cons_of_pos q]
      rfl
    | false =>
      rw [if_neg (by decide), List.filter_cons_of_neg (by rw [q]; decide)]
      exact ih'
theorem compL_map {α : Type} {t : MG} {l0 : List IV} {k : Option Nat} {QL : List IV → Sto → Prop} {as : List α} (g : α → IV) (p : α → Bool) (f : α → IV) (z : srcOk k l0 st)
    (step : ∀ a ∈ as, ∃ ls1, t ls (g a) = some ls1 ∧ we (tc ls1) st noX (fun b st' => b = p a ∧ st' = st) ∧ (p a = true → we (m ls1) st noX fun v st' => v = f a ∧ st' = st)) (q : QL ((as.filter p).map f) st) :
    we (compL t tc m l0 k ls (as.map g)) st noX QL := by
  refine ⟨.val ((as.filter p).map f), st, ?_, q⟩
  clear q
  induction as with
  | nil => simp only [List.map_nil]; unfold compL; rw [if_pos z]; rfl
  | cons a as ih =>
    obtain ⟨ls1, e1, e2, e3⟩ := step a List.mem_cons_self
    have e2 := run_of e2
    have ih' := ih fun w hw => step w (List.mem_cons_of_mem _ hw)
    simp only [List.map_cons]
    unfold compL
    rw [if_pos z, e1]
    show M.bind (M.nox (tc ls1)) _ st = _
    rw [M.bind_run (M.nox_run e2)]
    cases q : p a with
    | true =>
      rw [if_pos rfl, M.bind_run (M.nox_run (run_of (e3 q))), M.bind_run ih', List.filter_cons_of_pos q]
      rfl
    | false =>
      rw [if_neg (by decide), List.filter_cons_of_neg (by rw [q]; decide)]
      exact ih'
end
theorem inB_ints {st : Sto} {c : Int} {ns : List Int} : inB st (.int c) (.tup (ns.map .int)) = some (decide (c ∈ ns)) := by
  have hf : (ns.map IV.int).all IV.flat = true := by simp [IV.flat]
  simp only [inB, asSeq]
  rw [if_pos ⟨rfl, hf⟩]
  congr 1
  rw [Bool.eq_iff_iff]
  simp only [List.any_eq_true, decide_eq_true_eq, List.mem_map]
  constructor
  · rintro ⟨_, ⟨i, hi, rfl⟩, e⟩
    have : i = c := by simpa [eqF] using e
    exact this ▸ hi
  · intro h
    exact ⟨_, ⟨c, h, rfl⟩, by simp [eqF]⟩
section
variable {st : Sto} {c : Int} {ns : List Int} {Q : IV → Prop}
theorem o_inT (q : Q (.bl (decide (c ∈ ns)))) : ∃ v, inI st (.int c) (tupI ns) = some v ∧ Q v := ⟨_, by unfold inI tupI; rw [inB_ints]; rfl, q⟩
instance i_o_inT  : Rule (∃ v, inI st (.int c) (tupI ns) = some v ∧ Q v) (Q (.bl (decide (c ∈ ns)))) := ⟨o_inT⟩
theorem o_notInT (q : Q (.bl (!decide (c ∈ ns)))) : ∃ v, notInI st (.int c) (tupI ns) = some v ∧ Q v := ⟨_, by unfold notInI tupI; rw [inB_ints]; rfl, q⟩
instance i_o_notInT  : Rule (∃ v, notInI st (.int c) (tupI ns) = some v ∧ Q v) (Q (.bl (!decide (c ∈ ns)))) := ⟨o_notInT⟩
end
def rngL (n : Int) : List Int := (List.range n.toNat).map fun (i : Nat) => (i : Int)
theorem rngL_mem {n i : Int} : i ∈ rngL n ↔ 0 ≤ i ∧ i < n := by
  unfold rngL
  simp only [List.mem_map, List.mem_range]
  constructor
  · rintro ⟨a, h, rfl⟩; omega
  · rintro ⟨h0, h1⟩; exact ⟨i.toNat, by omega, by omega⟩
theorem rngL_pw {n : Int} : (rngL n).Pairwise (· < ·) := by
  unfold rngL
  rw [List.pairwise_map]
  exact List.pairwise_lt_range.imp fun h => by omega
theorem rngL_len {n : Int} : (rngL n).length = n.toNat := by unfold rngL; simp
theorem rangeI_rng {n : Int} : rangeI 0 n.toNat = (rngL n).map .int := by
  unfold rangeI rngL
  rw [List.map_map]
  congr 1
  funext i
  simp
theorem pw_ext : ∀ {l m : List Int}, l.Pairwise (· < ·) → m.Pairwise (· < ·) → (∀ i, i ∈ l ↔ i ∈ m) → l = m := fun {l m} h1 h2 h => by
  have n1 : l.Nodup := h1.imp fun q => Int.ne_of_lt q
  have n2 : m.Nodup := h2.imp fun q => Int.ne_of_lt q
  exact perm_le_eq ((List.perm_ext_iff_of_nodup n1 n2).mpr h) (h1.imp fun q => Int.le_of_lt q) (h2.imp fun q => Int.le_of_lt q)
def getM (ms : List (List Int)) (i : Int) : List Int := ms.getD i.toNat []
theorem enumL_tups (ms : List (List Int)) : enumL (ms.map tupI) = (rngL ms.length).map fun i => .tup [.int i, tupI (getM ms i)] := by
  apply List.ext_getElem?
  intro i
  unfold enumL rngL getM
  rw [List.getElem?_mapIdx, List.getElem?_map, List.getElem?_map, List.getElem?_map]
  by_cases h : i < ms.length
  · rw [List.getElem?_eq_getElem h, List.getElem?_range (by simpa using h)]
    simp [h]
  · rw [List.getElem?_eq_none (by omega), List.getElem?_eq_none (by simpa using h)]
    rfl
theorem atI_map {α β : Type} {l : List α} {f : α → β} {i : Int} {d : α} (h0 : 0 ≤ i) (h1 : i < l.length) : atI (l.map f) i = some (f (l.getD i.toNat d)) := by
  have hl : i.toNat < l.length := by omega
  refine atI_get h0 ?_
  rw [List.getElem?_map, List.getElem?_eq_getElem hl]
  simp [hl]
end MK
section
set_option maxHeartbeats 2000000
namespace MK
open PySem PySem.Spec PyProof.Rows L2
section
variable {prog : Program} {w : World} {A : Around} {E : Value → Shared → Prop} {s : Shared} {K : PySem.W.Frag} {x C L f : Addr} {h₀ : Heap} {m : Str → Option Value} {ox : Obj} {od : Option Obj} {b tb : Value}
theorem ne_tree (u v : Value) : Builtin.«object.__ne__» ⟨[u, v], []⟩ = (cRoomFor "comparison" [u, v] >>= fun _ => callSpecialIfBound? u "__eq__" [v] >>= fun r => match r with
    | some .notImplemented => ret .notImplemented
    | none => ret .notImplemented
    | some r => truthy r >>= fun t => ret (.bool (!t))) := by kernel_rfl
theorem ifBound_B {M : Model} {name : Str} {id : String} {args : List Value} {Q : Option Value → Shared → Prop} (X : K.In s.heap) (I : PySem.W.InstAt s.heap x ox C od) (hs : PySem.W.findIn K (.ref C) name = some (some (.builtin id))) (hb : ∀ self, bindSpecial (.builtin id) self = pure (.builtin id, [self]))
    (h : wpAny M A (call (.builtin id) (.ref x :: args)) (fun v => Q (some v)) E s) : wpAny M A (callSpecialIfBound? (.ref x) name args) Q E s := by
  have done : wpAny M A (call (.builtin id) ([.ref x] ++ args) >>= fun v => pure (some v)) Q E s := wpAny_bind (wpAny_mono h (fun v z q => wpAny_pure q) fun _ _ e => e)
  simp only [callSpecialIfBound?, bindSpecialIfBound?]
  refine wpAny_holding (wpAny_bind (wpAny_bind (wpAny_bind (I.type.here ((PySem.W.looks_findIn X hs).here ?_)))))
  refine wpAny_bind (wpAny_askSetting (wpAny_ite ?_))
  split
  · exact wpAny_bind (wpAny_of_eq (hb _) (wpAny_pure done))
  · exact wpAny_tryCatch (wpAny_bind (wpAny_of_eq (hb _) (wpAny_pure done)))
theorem cmpNe_K {Q : Value → Shared → Prop} (hu : A.units + 2 < cLine) (X : K.In s.heap) (I : PySem.W.InstAt s.heap x ox C od) (hb : PySem.W.Looks (model prog w) s.heap (typeOf b) tb) (hn : PySem.W.notFirst K C tb = true)
    (hne : PySem.W.findIn K (.ref C) "__ne__" = some (some (.builtin "object.__ne__"))) (hp : PySem.W.plainOver K C = true) (hs : PySem.W.findIn K (.ref C) "__eq__" = some (some (.ref f))) (hf : PySem.W.isFn K (.ref f) = true)
    (h : wpAny (model prog w) A.in1 (call (.ref f) [.ref x, b]) (fun v z => ∃ r, v = .bool r ∧ Q (.bool (!r)) z) E s) : wpAny (model prog w) A (richCompare .NotEq (.ref x) b) Q E s := by
  obtain ⟨cd, hc, ho⟩ := PySem.W.any_some hp
  have ne : cd.mro.isEmpty = false := by cases q : cd.mro with | nil => rw [q] at ho; cases ho | cons _ _ => rfl
  have sub : PySem.W.Looks (model prog w) s.heap (isInstance (.ref x) (.type "object")) true := I.type.andThen (PySem.W.looks_mroIn X (by unfold PySem.W.mroIn; rw [hc, Option.bind_some, if_neg (by rw [ne]; decide), PySem.W.only_has ho]))
  have SL := PySem.F.slot_object_ne
  have body : wpAny (model prog w) A (call (.builtin "object.__ne__") [.ref x, b]) (fun v z => ∃ r, v = .bool r ∧ Q (.bool r) z) E s := by
    refine wpAny_call (codeAny_call_builtin SL.plain PySem.F.entry_object_ne (@PySem.W.check_slot (model prog w) _ _ s "object.__ne__" "object" "__ne__" (.ref x) [b] [] _ (by decide +kernel) (by decide +kernel) sub (PySem.F.args_object_ne_2 (.ref x) b) ?_))
    rw [ne_tree]
    refine wpAny_bind (wpAny_cRoomFor (by show A.units + 1 < cLine; omega) ?_)
    refine wpAny_bind (PySem.W.ifBound_K X I hs hf (wpAny_mono h (fun v z hv => ?_) fun _ _ e => e))
    obtain ⟨r, rfl, q⟩ := hv
    dsimp only
    exact wpAny_bind (wpAny_truthy_bool (wpAny_pure ⟨!r, rfl, q⟩))
  have one : wpAny (model prog w) A (tryCompare (.ref x) (cmpInfo .NotEq).2.1 b) (fun r z => ∃ v, r = some v ∧ Q v z) E s := by
    unfold tryCompare
    refine wpAny_bind (ifBound_B X I hne SL.bind (wpAny_mono body (fun v z hv => ?_) fun _ _ e => e))
    obtain ⟨r, rfl, q⟩ := hv
    exact wpAny_pure ⟨_, rfl, q⟩
  unfold richCompare
  simp only [oneThing_ref]
  refine wpAny_holding (wpAny_bind (wpAny_cRoomFor (by omega) (wpAny_bind (I.type.here (wpAny_bind (hb.here ?_))))))
  have out : ∀ {r : Option Value} {z : Shared} {k : Sem Value}, (∃ v, r = some v ∧ Q v z) → wpAny (model prog w) A (match r with | some v => pure v | none => k) Q E z := fun {r z k} ⟨v, e, q⟩ => by
    subst e; exact wpAny_pure q
  split
  · rename_i q
    have e : PySem.W.subIn K tb (.ref C) = some false := by
      rcases Bool.or_eq_true_iff.mp hn with e | e
      · rw [beq_iff_eq.mp e] at q; simp at q
      · exact beq_iff_eq.mp e
    refine wpAny_bind ((PySem.W.looks_subIn X e).here ?_)
    simp only [Bool.false_eq_true, if_false]
    refine wpAny_bind (wpAny_mono one (fun r z hz => ?_) fun _ _ e => e)
    obtain ⟨v, rfl, hv⟩ := hz
    exact wpAny_pure hv
  · refine wpAny_bind (wpAny_pure ?_)
    simp only [Bool.false_eq_true, if_false]
    refine wpAny_bind (wpAny_mono one (fun r z hz => ?_) fun _ _ e => e)
    obtain ⟨v, rfl, hv⟩ := hz
    exact wpAny_pure hv
end
theorem spM_mono {K : PySem.W.Frag} {mg : Str → Option Value} {n : Nat} {g : MF} {vs : List V} {H : Hp} {Q Q' : VK} {E : XK} (h : spM K mg n g vs H Q E) (i : ∀ v H, Q v H → Q' v H) : spM K mg n g vs H Q' E := by
  obtain ⟨hl, cm, st, l, r, st', s, hr, e, o⟩ := h
  refine ⟨hl, cm, st, l, r, st', s, hr, e, ?_⟩
  cases r with
  | val a => exact fun cm' H' x s' z hz => i _ _ (o cm' H' x s' z hz)
  | exc c f v => exact o
structure NeOk (K : PySem.W.Frag) (mg : Str → Option Value) (c : Str) : Prop where
  ex : ∃ C, mg c = some (.ref C) ∧ PySem.W.findIn K (.ref C) "__ne__" = some (some (.builtin "object.__ne__")) ∧ PySem.W.plainOver K C = true
theorem NeOk.of {K : PySem.W.Frag} {h : Heap} {mg : Str → Option Value} {c : Str} {C : Addr} (X : K.In h) (G : h.Ns mainGlobals mg) (aC : PySem.W.nsIn K mainGlobals c = some (some (.ref C))) (n : PySem.W.findIn K (.ref C) "__ne__" = some (some (.builtin "object.__ne__"))) (p : PySem.W.plainOver K C = true) : NeOk K mg c :=
  ⟨⟨C, PySem.W.mg_of X G aC, n, p⟩⟩
def notB : IV → M IV := fun v => match v with
  | .bl r => M.ret (.bl (!r))
  | _ => M.stuck
def mNeO (c : Str) (os : List Str) (g : MF) (fa fb : ME) : ME := fun ls => M.bind (mEqO c os g fa fb ls) notB
def rNeO (K : PySem.W.Frag) (mg : Str → Option Value) (c : Str) (g : MF) : R2 := fun x y H Q =>
  (∃ a C dx fs u, x = .ref a ∧ mg c = some (.ref C) ∧ H a = some (.ins C dx fs) ∧ TyX K H y u ∧ PySem.W.notFirst K C u = true ∧ spM K mg 2 g [x, y] H (fun v H2 => ∃ i, v = .bl i ∧ Q (.bl (!i)) H2) E0) ∨ rNeD K x y H Q
section
variable {X : Cx} {W : WX} {c : Str} {os ps : List Str} {g : MF} {k : Nat} {fa fb : ME} {a b : Expr} {pos : Pos}
theorem op_neO (N : NeOk X.K X.mg c) (F : MetOk X.prog X.w X.K X.mg X.base k c "__eq__" ps g) (hn : ps.length = 2) (hr : Room (k + 1) X.A) : OpR X (compareOp .NotEq) (rNeO X.K X.mg c g) := by
  intro pins s σ H x y v u Q I rx ry h
  rcases h with ⟨a, C, dx, fs, tb, rfl, hC, hH, hty, hnf, hsp⟩ | h
  · obtain ⟨C', f, fd, h1, h2, h3, h4, h5⟩ := F.ex
    rw [hC] at h1
    cases h1
    obtain ⟨C', n1, n2, n3⟩ := N.ex
    rw [hC] at n1
    cases n1
    cases (show v = Value.ref a from rx)
    obtain ⟨mA, O, _⟩ := ins_get I.hok hH
    obtain ⟨od, J, _⟩ := O.look
    obtain ⟨P, Z, hp, _⟩ := kit_of I ry hty
    have hsp' : spM X.K X.mg ps.length g [.ref a, y] H (fun v H2 => ∃ i, v = .bl i ∧ Q (.bl (!i)) H2) E0 := by rw [hn]; exact hsp
    refine cmpNe_K (tb := tb) (by have := hr.un; omega) I.kIn J (Z.ty _ _ I.kIn hp) hnf n2 n3 h2 h3 (wpAny_mono (run_in1 (us := [.ref a, u]) (vs := [.ref a, y]) h5 hr.in1 I.env0.in1 h4 passL I (.cons rfl (.cons ry .nil)) hsp') (fun w s' z => ?_) fun _ _ x => x)
    obtain ⟨z', H', I', rz, i, rfl, q⟩ := z
    cases (show w = Value.bool i from rz)
    exact ⟨i, rfl, .bl (!i), H', I', rfl, q⟩
  · exact op_neD hr.units pins s σ H x y v u Q I rx ry h
theorem rd_neO {K : PySem.W.Frag} {mg : Str → Option Value} {σ : L2.St} {H : Hp} {Q : VK} (F : IsOk K mg c os) (h : rdE K mg W (mNeO c os g fa fb) σ H Q) : tOp (rNeO K mg c g) (rdE K mg W fa) (rdE K mg W fb) σ H Q := by
  have h2 : rdE K mg W (mEqO c os g fa fb) σ H fun x H1 => ∃ r, x = .bl r ∧ Q (.bl (!r)) H1 := rdE_mono (rd1 h) fun x H1 h1 => by
    obtain ⟨cm, st, a, r, st', s, hx, e, o⟩ := h1
    cases a <;> simp only [notB] at e <;> try cases e
    cases hx
    exact ⟨_, rfl, o cm H1 (Ext.refl _ _) s _ (.bl _)⟩
  refine rdE_mono (rd_eqO F h2) fun x H1 h1 => rdE_mono h1 fun y H2 h2 => ?_
  rcases h2 with ⟨a, C, dx, fs, u, e1, e2, e3, e4, e5, e6⟩ | ⟨d, e, h3, h4, h5, h6, r, hr, q⟩
  · refine .inl ⟨a, C, dx, fs, u, e1, e2, e3, e4, e5, spM_mono e6 fun v H3 hv => ?_⟩
    obtain ⟨i, rfl, r, hr, q⟩ := hv
    cases hr
    exact ⟨i, rfl, q⟩
  · cases hr
    exact .inr ⟨d, e, h3, h4, h5, h6, q⟩
theorem t_neO (N : NeOk X.K X.mg c) (I : IsOk X.K X.mg c os) (F : MetOk X.prog X.w X.K X.mg X.base k c "__eq__" ps g) (hn : ps.length = 2) (hr : Room (k + 1) X.A) (ha : PE' X W a fa) (hb : PE' X W b fb) (hm : behindInMarks .NotEq b = false := by first | exact nomark _ | with_unfolding_all rfl) : PT' X W (.Compare a [.NotEq] [b] pos) (mB (mNeO c os g fa fb)) :=
  PT_imp (pt_cmpR (op_neO N F hn hr) ha hb hm) fun _ _ _ h => rd_neO I (rd_B h)
end
section
variable {st : Sto} {E : EX} {ls : Loc} {Q : IV → Sto → Prop} {fa fb : ME} {c : Str} {os : List Str} {g : MF}
theorem we_neO (h : we (mEqO c os g fa fb ls) st E fun v st1 => ∃ r, v = .bl r ∧ Q (.bl (!r)) st1) : we (mNeO c os g fa fb ls) st E Q :=
  we_bind (we_mono h fun v st1 h => by
    obtain ⟨r, rfl, q⟩ := h
    exact ⟨.val (.bl (!r)), st1, rfl, q⟩)
end
end MK
end
section
set_option maxHeartbeats 2000000
namespace MK
open PySem PySem.Spec PyProof.Rows L2
theorem co_slot_next : Slot "itertools.combinations" "__next__" "itertools.combinations.__next__" :=
  .of (owner := "itertools.combinations") (n := "__next__") (by rw [typeLookup_type, builtinLookup_eq_fast]; kernel_rfl) (by decide +kernel) (by decide +kernel) (by decide +kernel) (.inl (by decide +kernel)) (by rw [isSubtype_type]; kernel_rfl)
theorem co_entry_next : entryFor table "itertools.combinations.__next__" = some Builtin.«itertools.combinations.__next__» := entryFor_of_fast (by kernel_rfl)
theorem co_args_next (a : Value) : argsOk "itertools.combinations.__next__" ⟨[a], []⟩ := by unfold argsOk; kernel_rfl
theorem co_slot_iter : Slot "itertools.combinations" "__iter__" "itertools.combinations.__iter__" :=
  .of (owner := "itertools.combinations") (n := "__iter__") (by rw [typeLookup_type, builtinLookup_eq_fast]; kernel_rfl) (by decide +kernel) (by decide +kernel) (by decide +kernel) (.inl (by decide +kernel)) (by rw [isSubtype_type]; kernel_rfl)
theorem co_entry_iter : entryFor table "itertools.combinations.__iter__" = some Builtin.«dict_keyiterator.__iter__» :=
  entryFor_alias (id' := "dict_keyiterator.__iter__") (by kernel_rfl) rfl (by decide +kernel) (by kernel_rfl)
theorem co_args_iter (a : Value) : argsOk "itertools.combinations.__iter__" ⟨[a], []⟩ := by unfold argsOk; kernel_rfl
theorem co_slot_init : Slot "itertools.combinations" "__init__" "object.__init__" :=
  .of (owner := "object") (n := "__init__") (by rw [typeLookup_type, builtinLookup_eq_fast]; kernel_rfl) (by decide +kernel) (by decide +kernel) (by decide +kernel) (.inl (by decide +kernel)) (by rw [isSubtype_type]; kernel_rfl)
theorem co_entry_new : entryFor table "itertools.combinations.__new__" = some Builtin.«itertools.combinations.__new__» := entryFor_of_fast (by kernel_rfl)
theorem co_mro : mroOf (.type "itertools.combinations") = pure [.type "itertools.combinations", .type "object"] := by kernel_rfl
theorem co_look_new : typeLookup (.type "itertools.combinations") "__new__" = pure (some (.builtin "itertools.combinations.__new__")) := by rw [typeLookup_type, builtinLookup_eq_fast]; kernel_rfl
theorem co_called : TypeCalled "itertools.combinations" "itertools.combinations.__new__" "object.__init__" :=
  ⟨by decide +kernel, by decide +kernel, ⟨_, _, co_mro⟩, madeBy_type co_mro co_look_new (by decide +kernel), by decide +kernel, by rw [isSubtype_type]; kernel_rfl, co_slot_init⟩
theorem co_typeCall (a b : Value) : checkTypeCall "itertools.combinations" ⟨[a, b], []⟩ = pure () := by kernel_rfl
theorem co_newCall (a b : Value) : checkBuiltinCall "itertools.combinations.__new__" ⟨[.type "itertools.combinations", a, b], []⟩ = pure () := by kernel_rfl
def nextC (n : Nat) (ix : List Nat) : Option (List Nat) :=
  match (List.range ix.length).reverse.find? (fun i => ix.getD i 0 != i + n - ix.length) with
  | none => none
  | some i => some (ix.take i ++ (List.range (ix.length - i)).map fun j => ix.getD i 0 + 1 + j)
theorem co_rest (v : Value) (r : Int) (t : Tok) : Builtin.Itertools.itClassAndRest "combinations" ⟨[.type "itertools.combinations", v, .int r t], []⟩ = pure (.type "itertools.combinations", [v, .int r t]) := by kernel_rfl
theorem co_bind (v w : Value) : Builtin.Itertools.itBindNamed "combinations" ["iterable", "r"] 2 2 [v, w] [] = pure [some v, some w] := by kernel_rfl
def CmbAt (h : Heap) (it P : Addr) (st : Int) (last : Value) (ix : List Nat) : Prop :=
  h.get? it = some { cls := .type "itertools.combinations", dict := none, data := .fields (Value.ref P :: rawInt st :: last :: ix.map fun (i : Nat) => rawInt i).toArray, slots := #[] }
theorem raws_back (ix : List Nat) : ((ix.map fun (i : Nat) => rawInt i).map fun v => match v with | .int n _ => n.toNat | _ => 0) = ix := by
  rw [List.map_map]
  induction ix with
  | nil => rfl
  | cons a l ih => rw [List.map_cons, ih]; rfl
section
variable {prog : Program} {w : World} {A : Around} {E : Value → Shared → Prop} {s : Shared} {it P : Addr} {st : Int} {last : Value} {ix nx : List Nat} {items : Array Value}
theorem cmb_type (h : CmbAt s.heap it P st last ix) : s.TypeIs (.ref it) "itertools.combinations" := ⟨_, h, rfl⟩
theorem nums_at {Q : List Nat → Shared → Prop} (h : CmbAt s.heap it P st last ix) (q : Q ix s) : wpAny (model prog w) A (Builtin.Itertools.itNumbersFrom (.ref it) 3) Q E s := by
  unfold Builtin.Itertools.itNumbersFrom
  refine wpAny_bind (wpAny_load h ?_)
  dsimp only
  refine wpAny_pure ?_
  have e : (List.drop 3 (Value.ref P :: rawInt st :: last :: ix.map fun (i : Nat) => rawInt i)).map (fun v => match v with | .int n _ => n.toNat | _ => 0) = ix := raws_back ix
  exact Eq.mpr (congrArg (fun l => Q l s) e) q
theorem pool_at {Q : Array Value → Shared → Prop} (h : s.heap.IsTuple P items) (q : Q items s) : wpAny (model prog w) A (Builtin.Itertools.itPoolItems (.ref P)) Q E s := by
  obtain ⟨o, ho, _, n, hd⟩ := h
  unfold Builtin.Itertools.itPoolItems
  exact wpAny_bind (wpAny_seqItems ho hd (wpAny_pure q))
def picks (items : Array Value) (ix : List Nat) : List Value := ix.map fun i => items.getD i .none
theorem hand_out {Q : Fin → Shared → Prop} (h : CmbAt s.heap it P st last ix) (hT : s.heap.IsTuple P items) (hP : P ≠ it) (hl : ix.length ≤ 1000)
    (q : ∀ h', CmbAt h' it P st (.ref s.heap.objs.size) ix → h'.get? s.heap.objs.size = some { cls := .type "tuple", data := .seq (picks items ix).toArray } → h'.objs.size = s.heap.objs.size + 1 → (∀ b o, b ≠ it → s.heap.get? b = some o → h'.get? b = some o) → Q (.done (.ret (.ref s.heap.objs.size))) { s with heap := h' }) :
    wpAny (model prog w) A (((Builtin.Itertools.itPoolItems (.ref P) >>= fun xs => newTuple (ix.map fun i => xs.getD i .none)) >>= fun t => field (.ref it) 2 >>= fun old => setField (.ref it) 2 t >>= fun _ => letGo [old] [t] >>= fun _ => ret t : Sem Fin)) Q E s := by
  have lt : it < s.heap.objs.size := Heap.lt_size h
  refine wpAny_bind (wpAny_bind (pool_at hT (wpAny_newTuple ?_ (by rw [List.length_map, sizeLine_eq]; omega))))
  have h1 : CmbAt (s.heap.push { cls := .type "tuple", data := .seq (ix.map fun i => items.getD i .none).toArray }) it P st last ix := Heap.get?_push_of_some _ h
  refine wpAny_bind (wpAny_field h1 rfl (x := last) (by simp) ?_)
  refine wpAny_bind (wpAny_setField_rec h1 (by simp) fun h' e' sb => wpAny_bind (wpAny_letGo ?_))
  refine wpAny_pure ?_
  have e2 : CmbAt h' it P st (.ref s.heap.objs.size) ix := by
    unfold CmbAt
    rw [e']
    simp
  refine q h' e2 ?_ ?_ fun b o hb ho => (sb.2 b hb).trans (Heap.get?_push_of_some _ ho)
  · exact (sb.2 _ (Nat.ne_of_gt lt)).trans (Heap.get?_push_size _ rfl)
  · rw [sb.1, Heap.size_push]
end
end MK
end
section
set_option maxHeartbeats 2000000
namespace MK
open PySem PySem.Spec PyProof.Rows L2
section
variable {prog : Program} {w : World} {A : Around} {E : Value → Shared → Prop} {s : Shared} {it P : Addr} {st : Int} {last : Value} {ix nx : List Nat} {items : Array Value}
theorem co_next_first {Q : Option Value → Shared → Prop} (h : CmbAt s.heap it P 0 last ix) (hT : s.heap.IsTuple P items) (hP : P ≠ it) (hl : ix.length ≤ 1000)
    (q : ∀ h', CmbAt h' it P 1 (.ref s.heap.objs.size) ix → h'.get? s.heap.objs.size = some { cls := .type "tuple", data := .seq (picks items ix).toArray } → (∀ b o, b ≠ it → s.heap.get? b = some o → h'.get? b = some o) → Q (some (.ref s.heap.objs.size)) { s with heap := h' }) :
    wpAny (model prog w) A (pyNext (.ref it)) Q E s := by
  have hT0 := cmb_type h
  unfold pyNext
  refine wpAny_bind (wpAny_attempt (wpAny_callSpecial?_slot (name := Str.ofString "__next__") hT0 co_slot_next
    (wpAny_call_entry co_slot_next hT0 co_entry_next ?_ (co_args_next _))))
  refine wpAny_bind (wpAny_pure ?_)
  show wpAny _ _ (field (.ref it) 0 >>= _) _ _ s
  refine wpAny_bind (wpAny_field h rfl (x := .ref P) rfl ?_)
  refine wpAny_bind (nums_at h ?_)
  refine wpAny_bind ?_
  unfold Builtin.Itertools.itIntField
  refine wpAny_bind (wpAny_field h rfl (x := rawInt 0) rfl (wpAny_pure ?_))
  dsimp only
  refine wpAny_bind (wpAny_setField_rec h (by simp) fun h1 e1 sb => ?_)
  replace e1 : CmbAt h1 it P 1 last ix := by
    unfold CmbAt
    rw [e1]
    simp
  replace sb : Heap.SameBut it s.heap h1 := sb
  have hT1 : h1.IsTuple P items := by
    obtain ⟨o, ho, r⟩ := hT
    exact ⟨o, (sb.2 P hP).trans ho, r⟩
  refine hand_out (s := { s with heap := h1 }) e1 hT1 hP hl fun h2 e2 t2 z2 k2 => ?_
  have ez : h1.objs.size = s.heap.objs.size := sb.1
  refine ⟨_, rfl, wpAny_pure ?_⟩
  have qq := q h2 (by rw [← ez]; exact e2) (by rw [← ez]; exact t2) fun b o hb ho => k2 b o hb ((sb.2 b hb).trans ho)
  rw [← ez] at qq
  exact qq
theorem set_nums {Q : Unit → Shared → Prop} (h : CmbAt s.heap it P st last ix) (hl : nx.length ≤ 1000)
    (q : ∀ h', CmbAt h' it P st last nx → Heap.SameBut it s.heap h' → Q () { s with heap := h' }) : wpAny (model prog w) A (Builtin.Itertools.itSetNumbersFrom (.ref it) 3 nx) Q E s := by
  unfold Builtin.Itertools.itSetNumbersFrom
  have ea : (Value.ref P :: rawInt st :: last :: ix.map fun (i : Nat) => rawInt i).toArray.extract 0 3 ++ (nx.map fun (n : Nat) => rawInt n).toArray = (Value.ref P :: rawInt st :: last :: nx.map fun (i : Nat) => rawInt i).toArray := by
    simp
  refine wpAny_updateFields h rfl (q _ ?_ (Heap.SameBut.update ..)) ?_
  · unfold CmbAt
    rw [Heap.get?_update_self _ h rfl]
    simp only [Obj.mapFields]
    rw [ea]
  · show (_ : Array Value).size ≤ _
    rw [ea, sizeLine_eq]
    simp
    omega
theorem int_at {Q : Int → Shared → Prop} (h : CmbAt s.heap it P st last ix) (q : Q st s) : wpAny (model prog w) A (Builtin.Itertools.itIntField (.ref it) 1) Q E s := by
  unfold Builtin.Itertools.itIntField
  exact wpAny_bind (wpAny_field h rfl (x := rawInt st) rfl (wpAny_pure q))
theorem co_next_more {Q : Option Value → Shared → Prop} (h : CmbAt s.heap it P 1 last ix) (hT : s.heap.IsTuple P items) (hP : P ≠ it) (hn : nextC items.size ix = some nx) (hl : nx.length ≤ 1000)
    (q : ∀ h', CmbAt h' it P 1 (.ref s.heap.objs.size) nx → h'.get? s.heap.objs.size = some { cls := .type "tuple", data := .seq (picks items nx).toArray } → (∀ b o, b ≠ it → s.heap.get? b = some o → h'.get? b = some o) → Q (some (.ref s.heap.objs.size)) { s with heap := h' }) :
    wpAny (model prog w) A (pyNext (.ref it)) Q E s := by
  have hT0 := cmb_type h
  unfold pyNext
  refine wpAny_bind (wpAny_attempt (wpAny_callSpecial?_slot (name := Str.ofString "__next__") hT0 co_slot_next
    (wpAny_call_entry co_slot_next hT0 co_entry_next ?_ (co_args_next _))))
  refine wpAny_bind (wpAny_pure ?_)
  show wpAny _ _ (field (.ref it) 0 >>= _) _ _ s
  refine wpAny_bind (wpAny_field h rfl (x := .ref P) rfl ?_)
  refine wpAny_bind (nums_at h ?_)
  refine wpAny_bind (int_at h ?_)
  dsimp only
  refine wpAny_bind (pool_at hT ?_)
  split
  · rename_i next heq
    have e : next = nx := Option.some.inj (heq.symm.trans hn)
    subst e
    refine wpAny_bind (set_nums h hl fun h1 e1 sb => ?_)
    have hT1 : h1.IsTuple P items := by
      obtain ⟨o, ho, r⟩ := hT
      exact ⟨o, (sb.2 P hP).trans ho, r⟩
    refine hand_out (s := { s with heap := h1 }) e1 hT1 hP hl fun h2 e2 t2 z2 k2 => ?_
    have ez : h1.objs.size = s.heap.objs.size := sb.1
    refine ⟨_, rfl, wpAny_pure ?_⟩
    have qq := q h2 (by rw [← ez]; exact e2) (by rw [← ez]; exact t2) fun b o hb ho => k2 b o hb ((sb.2 b hb).trans ho)
    rw [← ez] at qq
    exact qq
  · rename_i heq
    exact absurd (heq.symm.trans hn) (by simp)
end
end MK
end
section
set_option maxHeartbeats 2000000
namespace MK
open PySem PySem.Spec PyProof.Rows L2
section
variable {prog : Program} {w : World} {A : Around} {E : Value → Shared → Prop} {s : Shared} {it P : Addr} {st : Int} {last : Value} {ix nx : List Nat} {items : Array Value}
theorem co_next_end {Q : Option Value → Shared → Prop} (hh : A.handled = none) (h : CmbAt s.heap it P 1 last ix) (hT : s.heap.IsTuple P items) (hn : nextC items.size ix = none)
    (hQ : ∀ h', Heap.ExtBut it s.heap h' → Q none { s with heap := h' }) : wpAny (model prog w) A (pyNext (.ref it)) Q E s := by
  have hT0 := cmb_type h
  unfold pyNext
  refine wpAny_bind (wpAny_attempt (wpAny_callSpecial?_slot (name := Str.ofString "__next__") hT0 co_slot_next
    (wpAny_call_entry co_slot_next hT0 co_entry_next ?_ (co_args_next _))))
  refine wpAny_bind (wpAny_pure ?_)
  show wpAny _ _ (field (.ref it) 0 >>= _) _ _ s
  refine wpAny_bind (wpAny_field h rfl (x := .ref P) rfl ?_)
  refine wpAny_bind (nums_at h ?_)
  refine wpAny_bind (int_at h ?_)
  dsimp only
  refine wpAny_bind (pool_at hT ?_)
  split
  · rename_i next heq
    exact absurd (heq.symm.trans hn) (by simp)
  · show wpAny _ _ (setField (.ref it) 1 (rawInt 2) >>= _) _ _ s
    refine wpAny_bind (wpAny_setField h rfl (by simp) ?_)
    show wpAny _ _ (newExc (.type "StopIteration") [] >>= _) _ _ _
    refine wpAny_bind ?_
    simp only [newExc, newTuple]
    refine wpAny_bind (wpAny_newObj_type ?_ (by size_fits))
    refine wpAny_bind (m := firstArgMember _ _) (wpAny_of_eq (a := Value.none) (by first | rfl | (simp only [firstArgMember]; rfl)) ?_)
    refine wpAny_newObj_type ?_ (by size_fits)
    simp only [raiseNew]
    refine wpAny_bind (wpAny_handled ?_)
    rw [show A.in1.handled = none from hh]
    refine wpAny_bind (wpAny_pure (wpAny_throw ?_))
    refine wpAny_bind (wpAny_isInstance (T := "StopIteration") (b := true) ⟨_, Heap.get?_push_size _ rfl, rfl⟩ isSubtype_stop ?_)
    exact wpAny_pure (hQ _ (((Heap.SameBut.update ..).extBut.push _).push _))
end
structure CmbOk (n : Nat) (L : List (List Nat)) (r : Nat) : Prop where
  first : L[0]? = some (List.range r)
  next : ∀ i ix, L[i]? = some ix → nextC n ix = L[i + 1]?
  lt : ∀ ix ∈ L, ∀ j ∈ ix, j < n
  len : ∀ ix ∈ L, ix.length ≤ 1000
def ItC (L : List (List Nat)) : It :=
  ⟨fun i _ => i < L.length, fun i H v H' => ∃ T ix, v = .ref T ∧ H T = none ∧ H' = upd H T (.tup (ix.map fun (j : Nat) => V.int j)) ∧ L[i]? = some ix, fun i _ => L.length ≤ i⟩
def CmbTn (P it : Addr) (n : Nat) (L : List (List Nat)) (i : Nat) (h : Heap) : Prop :=
  ∃ items last ix, h.IsTuple P items ∧ ItemsOf (fun j v => ∃ t, v = .int (j : Nat) t) items n ∧ ((i = 0 ∧ L[0]? = some ix ∧ CmbAt h it P 0 last ix) ∨ (∃ k, i = k + 1 ∧ L[k]? = some ix ∧ CmbAt h it P 1 last ix))
theorem picks_rel {items : Array Value} {n : Nat} (hi : ItemsOf (fun j v => ∃ t, v = .int (j : Nat) t) items n) : ∀ {ix : List Nat}, (∀ j ∈ ix, j < n) → Vals (ix.map fun (j : Nat) => V.int j) (picks items ix)
  | [], _ => .nil
  | a :: l, h => .cons (by
      have la : a < items.size := by rw [hi.1]; exact h a (by simp)
      obtain ⟨t, e⟩ := hi.2 a _ (Array.getElem?_eq_getElem la)
      refine ⟨t, ?_⟩
      show items.getD a .none = _
      rw [Array.getD_eq_getD_getElem?, Array.getElem?_eq_getElem la]
      exact e) (picks_rel hi fun j hj => h j (by simp [hj]))
theorem turn_comb {P0 : Program} {w : World} {K : PySem.W.Frag} {tg : Expr} {n r : Nat} {L : List (List Nat)} (hL : CmbOk n L r) (P it : Addr) (hP : P ≠ it) :
    Turn P0 w K tg (ItC L) [it, P] it (CmbTn P it n L) where
  mem := List.mem_cons_self
  obj := fun i h st b hb => by
    obtain ⟨items, last, ix, ⟨o, ho, hc, m, hd⟩, _, q⟩ := st
    rcases List.mem_cons.mp hb with z | z
    · subst z
      rcases q with ⟨_, _, q⟩ | ⟨_, _, _, q⟩
      · exact ⟨_, q, fun v z => nomatch z⟩
      · exact ⟨_, q, fun v z => nomatch z⟩
    · have z := List.mem_singleton.mp z
      subst z; exact ⟨o, ho, fun v q => by rw [hd] at q; cases q⟩
  keep := fun i h h' st k => by
    obtain ⟨items, last, ix, ⟨o, ho, hr⟩, hi, q⟩ := st
    refine ⟨items, last, ix, ⟨o, k P (by simp) _ ho, hr⟩, hi, ?_⟩
    rcases q with ⟨q1, q2, q⟩ | ⟨kk, q1, q2, q⟩
    · exact .inl ⟨q1, q2, k it (by simp) _ q⟩
    · exact .inr ⟨kk, q1, q2, k it (by simp) _ q⟩
  item := by
    intro X hP0 hw hK hc i pins s σ H E I hf st go
    subst hP0 hw hK
    obtain ⟨items, last, ix, hT, hi, q⟩ := st
    have go : i < L.length := go
    obtain ⟨nx, hnx⟩ : ∃ nx, L[i]? = some nx := ⟨_, List.getElem?_eq_getElem go⟩
    have hm : nx ∈ L := List.mem_of_getElem? hnx
    have li : it < s.heap.objs.size := by
      rcases q with ⟨_, _, q⟩ | ⟨_, _, _, q⟩ <;> exact Heap.lt_size q
    have lp : P < s.heap.objs.size := by obtain ⟨o, ho, _⟩ := hT; exact Heap.lt_size ho
    have fin : ∀ h', CmbAt h' it P 1 (.ref s.heap.objs.size) nx → h'.get? s.heap.objs.size = some { cls := .type "tuple", data := .seq (picks items nx).toArray } → (∀ b o, b ≠ it → s.heap.get? b = some o → h'.get? b = some o) →
        (∃ u, (some (Value.ref s.heap.objs.size)) = some u ∧ wpAny (model X.prog X.w) X.A (letOwnedTupleGo tg (.ref it) u) (fun _ s2 => ∃ x H', Inv X pins σ H' s2 ∧ RelV x u ∧ (ItC L).yld i H x H' ∧ CmbTn P it n L (i + 1) s2.heap ∧ ∀ b ∈ [it, P], H' b = none) E { s with heap := h' }) := fun h' e' t' k' => by
      refine ⟨_, rfl, go_of (s := { s with heap := h' }) (n := "itertools.combinations") e' rfl rfl (by decide) ?_⟩
      have pr := picks_rel hi (hL.lt nx hm)
      have new : ObjOk X.prog X.w (upd H s.heap.objs.size (.tup (nx.map fun (j : Nat) => V.int j))) h' s.heap.objs.size (.tup (nx.map fun (j : Nat) => V.int j)) :=
        ⟨by have := hL.len nx hm; rw [List.length_map, sizeLine_eq]; omega, picks items nx, pr, ⟨_, t', rfl, _, rfl⟩⟩
      have I1 : Inv X pins σ (upd H s.heap.objs.size (.tup (nx.map fun (j : Nat) => V.int j))) { s with heap := h', toks := s.toks } :=
        I.turnedNew (ch := [it, P]) (fun b ob hb q => k' b ob (fun z => hb (by simp [z])) q) hf (Nat.le_refl _) new
      refine ⟨.ref s.heap.objs.size, _, I1, rfl, ⟨_, nx, rfl, I.hok.fresh (Nat.le_refl _), rfl, hnx⟩, ⟨items, _, nx, ?_, hi, .inr ⟨i, rfl, hnx, e'⟩⟩, fun b hb => ?_⟩
      · obtain ⟨o, ho, hr⟩ := hT
        exact ⟨o, k' P o hP ho, hr⟩
      · have lb : b < s.heap.objs.size := by
          rcases List.mem_cons.mp hb with z | z
          · subst z; exact li
          · rw [List.mem_singleton.mp z]; exact lp
        exact (upd_ne (Nat.ne_of_lt lb)).trans (hf b hb).1
    rcases q with ⟨q1, q2, q⟩ | ⟨k, q1, q2, q⟩
    · subst q1
      rw [q2] at hnx; cases hnx
      exact co_next_first q hT hP (hL.len _ hm) fun h' e' t' k' => fin h' e' t' k'
    · subst q1
      have hx := hL.next k ix q2
      rw [hnx, ← hi.1] at hx
      exact co_next_more q hT hP hx (hL.len _ hm) fun h' e' t' k' => fin h' e' t' k'
  done := by
    intro X hP0 hw hK hc i pins s σ H E I hf st go
    subst hP0 hw hK
    obtain ⟨items, last, ix, hT, hi, q⟩ := st
    have go : L.length ≤ i := go
    obtain ⟨f0, f1, f2, f3, f4, f5⟩ := hf it (by simp)
    rcases q with ⟨q1, q2, q⟩ | ⟨k, q1, q2, q⟩
    · subst q1
      have := (List.getElem?_eq_some_iff.mp hL.first).1
      omega
    · subst q1
      have hx := hL.next k ix q2
      rw [List.getElem?_eq_none go, ← hi.1] at hx
      exact co_next_end ((I.ok.hd hc)) q hT hx fun h' eb => ⟨rfl, I.turned (t' := s.toks) (fun b o hb q => eb b o hb q) f0 f1 f3 f4 f5⟩
  self := fun A i s Q E st h => by
    obtain ⟨items, last, ix, hT, hi, q⟩ := st
    have hTI : s.TypeIs (.ref it) "itertools.combinations" := by
      rcases q with ⟨_, _, q⟩ | ⟨_, _, _, q⟩ <;> exact cmb_type q
    refine wpAny_pyIter_slot hTI co_slot_iter (wpAny_call_entry co_slot_iter hTI co_entry_iter ?_ (co_args_iter _))
    show wpAny _ _ (ret (.ref it)) _ _ s
    exact wpAny_pure ⟨_, rfl, "itertools.combinations", _, hTI, co_slot_next.lookup, h⟩
section
variable {prog : Program} {w : World} {A : Around} {E : Value → Shared → Prop} {s : Shared} {r : Addr} {n k : Nat} {t0 t1 t2 t3 : Tok}
theorem co_new {Q₁ : Value → Shared → Prop} (hh : A.handled = none) (hr : IsRange s.heap r 0 n 1 t0 t1 t2) (hn : n ≤ 1000) (hk : k ≤ n)
    (h : ∀ (h1 : Heap) (tk : Nat) (items : Array Value), (∀ b o, s.heap.get? b = some o → h1.get? b = some o) → ItemsOf (fun j v => ∃ t, v = .int (j : Nat) t) items n →
      Q₁ (.ref (h1.objs.size + 1)) { s with heap := (h1.push { cls := .type "tuple", data := .seq items }).push { cls := .type "itertools.combinations", data := .fields (Value.ref h1.objs.size :: rawInt 0 :: .none :: (List.range k).map fun (i : Nat) => rawInt i).toArray }, toks := tk }) :
    codeAny (model prog w) A (.call (.builtin "itertools.combinations.__new__") ⟨[.type "itertools.combinations", .ref r, .int k t3], []⟩) (wants Q₁ E) s := by
  refine codeAny_of_tree ?_
  show wpAny _ A.in1 (do checkBuiltinCall "itertools.combinations.__new__" ⟨[.type "itertools.combinations", .ref r, .int k t3], []⟩; again (.builtin "itertools.combinations.__new__" ⟨[.type "itertools.combinations", .ref r, .int k t3], []⟩)) _ _ s
  refine wpAny_bind (wpAny_of_eq (co_newCall _ _) (wpAny_pure ⟨plainId_quiet (by decide +kernel) _, codeAny_builtin co_entry_new ?_⟩))
  rw [Around.under_plainId (by decide +kernel) _]
  unfold Builtin.«itertools.combinations.__new__»
  refine wpAny_bind ?_
  show wpAny _ _ (Builtin.Itertools.itClassAndRest "combinations" ⟨[.type "itertools.combinations", .ref r, .int k t3], []⟩ >>= _) _ _ s
  refine wpAny_bind (wpAny_of_eq (co_rest _ _ _) ?_)
  dsimp only
  refine wpAny_bind (wpAny_of_eq (co_bind _ _) ?_)
  dsimp only
  have i1 : Builtin.Itertools.itSsizeArg (Value.int (↑k) t3) = pure (k : Int) := by
    unfold Builtin.Itertools.itSsizeArg
    rw [show asIndex (Value.int (↑k) t3) = pure (k : Int) from rfl]
    rw [pure_bind]
    rw [if_neg (by simp; omega)]
  refine wpAny_bind (wpAny_of_eq i1 ?_)
  refine wpAny_bind (collect_range (A := A.in1) hh hr (small_one (by omega) (by omega) (by omega) (by omega)) (n := n) (by have := rangeSize_one 0 (n : Int); rw [this]; split <;> omega) (by omega) fun h1 tk acc k1 hi => ?_)
  rw [if_neg (by omega), if_neg (by unfold Builtin.Itertools.itTooMany; simp; omega)]
  have hz : acc.size = n := hi.1
  refine wpAny_bind (wpAny_newTuple ?_ (by rw [sizeLine_eq]; simp; omega))
  refine wpAny_pure ?_
  dsimp only
  unfold Builtin.Itertools.itNewRecord
  refine wpAny_bind ?_
  rw [show typeHasDict (.type "itertools.combinations") = false by kernel_rfl]
  simp only [Bool.not_false, if_true]
  have hl : acc.toList.length = n := by simpa using hi.1
  rw [hl, if_neg (by omega)]
  have e := h h1 tk acc k1 ⟨hi.1, fun j v q => by
      obtain ⟨t, e⟩ := hi.2 j v q
      exact ⟨t, by rw [e]; simp⟩⟩
  refine wpAny_newObj_type ?_ ?_
  · refine wpAny_pure ?_
    show Q₁ (.ref (h1.push { cls := .type "tuple", data := .seq acc.toList.toArray }).objs.size) _
    rw [Heap.size_push]
    simpa using e
  · show (_ : Array Value).size ≤ _
    rw [sizeLine_eq]; simp; omega
theorem call_comb {Q : Value → Shared → Prop} (hh : A.handled = none) (hr : IsRange s.heap r 0 n 1 t0 t1 t2) (hn : n ≤ 1000) (hk : k ≤ n)
    (h : ∀ (h1 : Heap) (tk : Nat) (items : Array Value), (∀ b o, s.heap.get? b = some o → h1.get? b = some o) → ItemsOf (fun j v => ∃ t, v = .int (j : Nat) t) items n →
      Q (.ref (h1.objs.size + 1)) { s with heap := (h1.push { cls := .type "tuple", data := .seq items }).push { cls := .type "itertools.combinations", data := .fields (Value.ref h1.objs.size :: rawInt 0 :: .none :: (List.range k).map fun (i : Nat) => rawInt i).toArray }, toks := tk }) :
    wpAny (model prog w) A (call (.type "itertools.combinations") [.ref r, .int k t3]) Q E s := by
  refine callType_codes (Q₁ := fun obj s₁ => s₁.TypeIs obj "itertools.combinations" ∧ Q obj s₁) co_called (co_typeCall _ _) F.entry_object_init
    (co_new (A := A.in1) hh hr hn hk fun h1 tk items k1 hi => ⟨?_, h h1 tk items k1 hi⟩) fun obj s₁ h₁ => ?_
  · have e := Heap.get?_push_size (h1.push { cls := .type "tuple", data := .seq items }) (o := { cls := .type "itertools.combinations", data := .fields (Value.ref h1.objs.size :: rawInt 0 :: .none :: (List.range k).map fun (i : Nat) => rawInt i).toArray }) rfl
    rw [Heap.size_push] at e
    exact ⟨_, e, rfl⟩
  · exact ⟨h₁.1, by unfold argsOk; kernel_rfl, object_init_meets co_called.init.lookup co_called.made (by decide) prog w A.in1 _ s₁ ⟨h₁.1, rfl, h₁.2⟩⟩
end
def iComb (L : Nat → Nat → List (List Nat)) (ta : TA) (tb : TE) : TI := fun σ H R => ta σ H fun vs H1 => ∃ n : Nat, vs = [.int (n : Nat)] ∧ n ≤ 1000 ∧ tb σ H1 fun y H2 => ∃ k : Nat, y = .int (k : Nat) ∧ k ≤ n ∧ CmbOk n (L n k) k ∧ R (ItC (L n k)) H2
theorem pi_comb {X : Cx} {tg a b : Expr} {ta : TA} {tb : TE} {p p2 pos pos2 : Pos} {L : Nat → Nat → List (List Nat)} (hc : X.calm = true) (hg : Gl X "range") (hm : X.mg "range" = none) (hg2 : Gl X "combinations") (hm2 : X.mg "combinations" = some (.type "itertools.combinations"))
    (ha : PA X [a] ta) (hb : PE X b tb) (hs : starEach [a] X.env = [(false, eval a X.env)] := by rfl)
    (hs2 : starEach [.Call (.Name "range" p) [a] [] pos, b] X.env = (false, eval (.Call (.Name "range" p) [a] [] pos) X.env) :: starEach [b] X.env := by rfl) (hs3 : starEach [b] X.env = (false, eval b X.env) :: starEach [] X.env := by rfl) :
    PI X tg (.Call (.Name "combinations" p2) [.Call (.Name "range" p) [a] [] pos, b] [] pos2) (iComb L ta tb) := by
  refine ⟨fun pins s σ H R I h => ?_⟩
  refine Call_ (ld_glob I hg2 hm2 (PyProof.Rows.callWith_type1 ?_ hs2 (by rw [hs3]; rfl)))
  refine args_cons ?_ hs2
  refine Call_ (ld_blt I hg hm boot_range (PyProof.Rows.callWith_type1 (thn (ha.run pos pins s σ H _ I h) fun us s1 h1 => ?_) hs rfl))
  obtain ⟨vs, H1, I1, r1, q1⟩ := h1
  obtain ⟨m, e1, hm, q1⟩ := q1
  subst e1
  cases r1 with
  | cons rr rn =>
    cases rn
    obtain ⟨t, rfl⟩ := rr
    refine call_range_1 ?_
    have I2 : Inv X pins σ H1 { s1 with heap := s1.heap.push { cls := .type "range", data := .fields #[.int 0 s1.toks, .int (m : Nat) t, .int 1 (s1.toks + 1)] }, toks := s1.toks + 1 + 1 } := I1.kept fun b u e => Heap.get?_push_of_some _ e
    have I3 : Inv X ((s1.heap.objs.size, { cls := .type "range", dict := none, data := .fields #[.int 0 s1.toks, .int (m : Nat) t, .int 1 (s1.toks + 1)], slots := #[] }) :: pins) σ H1 { s1 with heap := s1.heap.push { cls := .type "range", data := .fields #[.int 0 s1.toks, .int (m : Nat) t, .int 1 (s1.toks + 1)] }, toks := s1.toks + 1 + 1 } := I2.pins_of fun p hp => by
      rcases List.mem_cons.mp hp with z | z
      · subst z
        exact ⟨Heap.get?_push_size _ rfl, I1.hok.fresh (Nat.le_refl _), Nat.ne_of_gt I1.lt, I1.nofs (Nat.le_refl _), fun v q => nomatch q⟩
      · exact I2.pin p (List.mem_append_right _ z)
    refine args_cons (thn (hb.run _ _ σ H1 _ I3 q1) fun v s2 h2 => ?_) hs3
    obtain ⟨y, H2, I4, r4, k, e2, hk, hL, q⟩ := h2
    subst e2
    obtain ⟨t3, rfl⟩ := r4
    have hr : IsRange s2.heap s1.heap.objs.size 0 (m : Nat) 1 s1.toks t (s1.toks + 1) := (I4.pin _ (List.mem_append_right _ List.mem_cons_self)).1
    have I5 : Inv X pins σ H2 s2 := I4.pins_of fun p hp => I4.pin p (List.mem_append_right _ (List.mem_cons_of_mem _ hp))
    refine args_nil ?_
    refine call_comb (I5.ok.hd hc) hr hm hk fun h1 tk items k1 hi => ?_
    have I6 : Inv X pins σ H2 { s2 with heap := h1, toks := tk } := I5.kept k1
    have I7 : Inv X pins σ H2 { s2 with heap := (h1.push { cls := .type "tuple", data := .seq items }).push { cls := .type "itertools.combinations", data := .fields (Value.ref h1.objs.size :: rawInt 0 :: .none :: (List.range k).map fun (i : Nat) => rawInt i).toArray }, toks := tk } :=
      I6.kept fun b u e => Heap.get?_push_of_some _ (Heap.get?_push_of_some _ e)
    have e9 := Heap.get?_push_size (h1.push { cls := .type "tuple", data := .seq items }) (o := { cls := .type "itertools.combinations", data := .fields (Value.ref h1.objs.size :: rawInt 0 :: .none :: (List.range k).map fun (i : Nat) => rawInt i).toArray }) rfl
    rw [Heap.size_push] at e9
    have hP : h1.objs.size ≠ h1.objs.size + 1 := by omega
    have T := turn_comb (P0 := X.prog) (w := X.w) (K := X.K) (tg := tg) hL h1.objs.size (h1.objs.size + 1) hP
    have T0 : CmbTn h1.objs.size (h1.objs.size + 1) m (L m k) 0 ((h1.push { cls := .type "tuple", data := .seq items }).push { cls := .type "itertools.combinations", data := .fields (Value.ref h1.objs.size :: rawInt 0 :: .none :: (List.range k).map fun (i : Nat) => rawInt i).toArray }) :=
      ⟨items, .none, List.range k, ⟨_, Heap.get?_push_of_some _ (Heap.get?_push_size _ rfl), rfl, _, rfl⟩, hi, .inl ⟨rfl, hL.first, e9⟩⟩
    refine T.self X.A 0 _ _ _ T0 ?_
    refine ⟨h1.objs.size + 1, _, _, _, H2, rfl, I7, T, T0, fun b hb => ?_, q⟩
    have ge : h1.objs.size ≤ b := by
      rcases List.mem_cons.mp hb with z | z
      · rw [z]; exact Nat.le_succ _
      · rw [List.mem_singleton.mp z]; exact Nat.le_refl _
    exact I6.fpOk ge (I6.hok.fresh ge)
end MK
end
section
set_option maxHeartbeats 2000000
namespace MK
open PySem PySem.Spec PyProof.Rows L2
def combF (n : Nat) : Nat → List Nat → List (List Nat)
  | 0, ix => [ix]
  | f + 1, ix => ix :: (match nextC n ix with | none => [] | some nx => combF n f nx)
def combL (n r : Nat) : List (List Nat) := combF n 40 (List.range r)
def combChk (n r : Nat) : Bool := (combL n r)[0]? == some (List.range r) && (List.range (combL n r).length).all (fun i => nextC n ((combL n r).getD i []) == (combL n r)[i + 1]?) && (combL n r).all (fun ix => ix.all (fun j => decide (j < n)) && decide (ix.length ≤ 1000))
theorem comb_chk : ∀ n, n < 8 → ∀ r, r < 8 → r ≤ n → combChk n r = true := by decide +kernel
theorem comb_ok {n r : Nat} (hn : n ≤ 7) (hr : r ≤ n) : CmbOk n (combL n r) r := by
  have h := comb_chk n (by omega) r (by omega) hr
  unfold combChk at h
  simp only [Bool.and_eq_true, List.all_eq_true, beq_iff_eq, decide_eq_true_eq, List.mem_range] at h
  obtain ⟨⟨h1, h2⟩, h3⟩ := h
  refine ⟨h1, fun i ix e => ?_, fun ix hx j hj => (h3 ix hx).1 j hj, fun ix hx => (h3 ix hx).2⟩
  have q := h2 i (List.getElem?_eq_some_iff.mp e).1
  rw [List.getD_eq_getElem?_getD, e] at q
  exact q
theorem rep_nats {K : PySem.W.Frag} {mg : Str → Option Value} {cm : Wd} {H : Hp} : ∀ ix : List Nat, RepL K mg cm H (ix.map fun (j : Nat) => V.int j) (ix.map fun (j : Nat) => IV.int j)
  | [] => .nil
  | a :: l => .cons (.int _) (rep_nats l)
def combI (n r : Nat) : List IV := (combL n r).map fun ix => .tup (ix.map fun (j : Nat) => .int j)
def mComb (g : MA) (fb : ME) : MI := fun ls => M.bind (g ls) fun vs => match vs with
  | [.int n] => if 0 ≤ n ∧ n ≤ 7 then M.bind (fb ls) fun r st => (match r with
      | .int r => if 0 ≤ r ∧ r ≤ n then some (.val (combI n.toNat r.toNat, none), st) else none
      | _ => none) else M.stuck
  | _ => M.stuck
section
variable {K : PySem.W.Frag} {mg : Str → Option Value} {cm : Wd} {H : Hp}
theorem walks_C' (n r : Nat) : Walks K mg (ItC (combL n r)) (combI n r, none) cm H where
  stop := fun i cm1 H1 st1 e s _ hi => by
    have : (combI n r).length = (combL n r).length := by unfold combI; simp
    rw [this] at hi
    exact hi
  go := fun i cm1 H1 st1 v e s _ hi => by
    unfold combI at hi
    rw [List.getElem?_map] at hi
    cases q : (combL n r)[i]? with
    | none => rw [q] at hi; cases hi
    | some ix =>
      rw [q] at hi; cases hi
      refine ⟨(List.getElem?_eq_some_iff.mp q).1, fun y H2 hy => ?_⟩
      obtain ⟨T, ix', rfl, hT, rfl, hx⟩ := hy
      rw [q] at hx; cases hx
      refine ⟨same_new hT, ?_⟩
      exact .tup (.inl ⟨.inl upd_same, s.notAv hT⟩) (rep_nats ix)
theorem rd_comb {σ : L2.St} {W : WX} {g : MA} {fb : ME} {R : It → Hp → Prop} (h : rdI K mg W (mComb g fb) σ H R) : iComb combL (rdA K mg W g) (rdE K mg W fb) σ H R := by
  obtain ⟨cm, ls, st, r, st', R0, e, o⟩ := h
  rcases M.bind_inv e with ⟨vs, st1, e1, e2⟩ | ⟨c, f, v, e1, rfl⟩
  · refine ⟨cm, ls, st, _, st1, R0, e1, fun cm1 H1 x1 s1 xs hx => ?_⟩
    split at e2
    · rename_i n
      split at e2
      · rename_i hn
        obtain ⟨y, rfl, hy⟩ := rep1 hx
        cases hy
        have en : ((n.toNat : Nat) : Int) = n := Int.toNat_of_nonneg hn.1
        refine ⟨n.toNat, by rw [en], by omega, ?_⟩
        rcases M.bind_inv e2 with ⟨b, st2, e3, e4⟩ | ⟨c, f, v, e3, rfl⟩
        · refine ⟨cm1, ls, st1, _, st2, R0.ext x1 s1, e3, fun cm2 H2 x2 s2 z hz => ?_⟩
          split at e4
          · rename_i k
            split at e4
            · rename_i hk
              cases e4
              cases hz
              have ek : ((k.toNat : Nat) : Int) = k := Int.toNat_of_nonneg hk.1
              exact ⟨k.toNat, by rw [ek], by omega, comb_ok (by omega) (by omega), o cm2 H2 (x1.trans x2) s2 _ (walks_C' n.toNat k.toNat)⟩
            · cases e4
          · cases e4
        · exact ⟨cm1, ls, st1, _, st', R0.ext x1 s1, e3, fun cm2 H2 x2 s2 => o cm2 H2 (x1.trans x2) s2⟩
      · cases e2
    · cases e2
  · exact ⟨cm, ls, st, _, st', R0, e1, o⟩
end
section
variable {X : Cx} {W : WX} {tg a b : Expr} {g : MA} {fb : ME} {p p2 pos pos2 : Pos}
theorem i_comb (hc : X.calm = true) (hg : Gl X "range") (hm : X.mg "range" = none) (hg2 : Gl X "combinations") (hm2 : X.mg "combinations" = some (.type "itertools.combinations"))
    (ha : PA' X W [a] g) (hb : PE' X W b fb) (hs : starEach [a] X.env = [(false, eval a X.env)] := by rfl)
    (hs2 : starEach [.Call (.Name "range" p) [a] [] pos, b] X.env = (false, eval (.Call (.Name "range" p) [a] [] pos) X.env) :: starEach [b] X.env := by rfl) (hs3 : starEach [b] X.env = (false, eval b X.env) :: starEach [] X.env := by rfl) :
    PI' X W tg (.Call (.Name "combinations" p2) [.Call (.Name "range" p) [a] [] pos, b] [] pos2) (mComb g fb) :=
  PI_imp (pi_comb hc hg hm hg2 hm2 ha hb hs hs2 hs3) fun σ H R h => rd_comb h
end
end MK
end
section
set_option maxHeartbeats 2000000
namespace MK
open PySem PySem.Spec PyProof.Rows L2
section
variable {X : Cx} {W : WX} {e : Expr} {fa : ME} {c f : Str} {p p2 pos : Pos}
def ErrC (K : PySem.W.Frag) (mg : Str → Option Value) (c : Str) : Prop := ∃ C, mg c = some (.ref C) ∧ ExcC K C
def ErrRow (K : PySem.W.Frag) (mg : Str → Option Value) (t : Str × Str × Bool) : Prop := ∃ C D, mg t.1 = some (.ref C) ∧ mg t.2.1 = some (.ref D) ∧ PySem.W.kitOne K (.ref C) (.ref D) = some t.2.2
section
variable {K : PySem.W.Frag} {mg : Str → Option Value} {h : Heap}
theorem ErrC.of {c : Str} {C : Addr} (X : K.In h) (G : h.Ns mainGlobals mg) (aC : PySem.W.nsIn K mainGlobals c = some (some (.ref C))) (hg : PySem.W.findIn K (.ref C) "__getattribute__" = some (some (.builtin "BaseException.__getattribute__"))) (hk : PySem.W.findIn K (.ref C) "__getattr__" = some none)
    (hs : PySem.W.subIn K (.ref C) (.type "BaseException") = some true) (hd : PySem.W.hasDictIn K C = true) (ha : PySem.W.findIn K (.ref C) "__class__" = some (some (.builtin "object.__class__"))) (hn : PySem.W.specialIn K (.builtin "object.__class__") "__get__" = some (some (.builtin "getset_descriptor.__get__")))
    (ht : PySem.W.takesIn K (.builtin "object.__class__") = some true) (hm : PySem.W.mroIn K C (.type "object") = some true) : ErrC K mg c := ⟨C, PySem.W.mg_of X G aC, ⟨hg, hk, hs, hd, ha, hn, ht, hm⟩⟩
theorem ErrRow.of {c D : Str} {b : Bool} {C Dv : Addr} (X : K.In h) (G : h.Ns mainGlobals mg) (aC : PySem.W.nsIn K mainGlobals c = some (some (.ref C))) (aD : PySem.W.nsIn K mainGlobals D = some (some (.ref Dv))) (hne : (Value.ref C == Value.ref Dv) = false) (i : PySem.W.isClsIn K Dv = true) (tC : PySem.W.typeIn K (.ref Dv) = some (.type "type"))
    (s : PySem.W.subIn K (.ref C) (.ref Dv) = some b) : ErrRow K mg (c, D, b) := ⟨C, Dv, PySem.W.mg_of X G aC, PySem.W.mg_of X G aD, kit_sub hne i tC s⟩
end
variable {a : Expr}
end
end MK
end
namespace MK
open PySem PySem.Spec PyProof.Rows L2
def ErrRowB (K : PySem.W.Frag) (mg : Str → Option Value) (T : String) (t : Str × Bool) : Prop := ∃ C, mg t.1 = some (.ref C) ∧ PySem.W.kitOne K (.ref C) (.type T) = some t.2
section
variable {K : PySem.W.Frag} {mg : Str → Option Value} {h : Heap} {T : String}
theorem ErrRowB.of {c : Str} {b : Bool} {C : Addr} (X : K.In h) (G : h.Ns mainGlobals mg) (aC : PySem.W.nsIn K mainGlobals c = some (some (.ref C))) (s : PySem.W.subIn K (.ref C) (.type T) = some b) (k : PySem.W.kitMeta T = true := by decide +kernel) : ErrRowB K mg T (c, b) := ⟨C, PySem.W.mg_of X G aC, by
  unfold PySem.W.kitOne
  rw [if_neg (by intro z; cases z)]
  show (if PySem.W.kitMeta T = true then PySem.W.subIn K (.ref C) (.type T) else none) = _
  rw [if_pos k]
  exact s⟩
end
end MK
section
set_option maxHeartbeats 2000000
namespace MK
open PySem PySem.Spec PyProof.Rows L2
def CmbI (P it : Addr) (items : Array Value) (L : List (List Nat)) (i : Nat) (h : Heap) : Prop :=
  h.IsTuple P items ∧ ∃ last ix, ((i = 0 ∧ L[0]? = some ix ∧ CmbAt h it P 0 last ix) ∨ (∃ k, i = k + 1 ∧ L[k]? = some ix ∧ CmbAt h it P 1 last ix))
theorem CmbI.keep {P it : Addr} {items : Array Value} {L : List (List Nat)} {i : Nat} {h h' : Heap} (c : CmbI P it items L i h) (k1 : ∀ o, h.get? P = some o → h'.get? P = some o) (k2 : ∀ o, h.get? it = some o → h'.get? it = some o) : CmbI P it items L i h' := by
  obtain ⟨⟨o, ho, r⟩, last, ix, q⟩ := c
  refine ⟨⟨o, k1 _ ho, r⟩, last, ix, ?_⟩
  rcases q with ⟨q1, q2, q⟩ | ⟨kk, q1, q2, q⟩
  · exact .inl ⟨q1, q2, k2 _ q⟩
  · exact .inr ⟨kk, q1, q2, k2 _ q⟩
theorem CmbI.type {P it : Addr} {items : Array Value} {L : List (List Nat)} {i : Nat} {s : Shared} (c : CmbI P it items L i s.heap) : s.TypeIs (.ref it) "itertools.combinations" := by
  obtain ⟨_, last, ix, q⟩ := c
  rcases q with ⟨_, _, q⟩ | ⟨_, _, _, q⟩ <;> exact cmb_type q
structure Gvn (items : Array Value) (L : List (List Nat)) (S it : Addr) (Ts : List Addr) (h : Heap) : Prop where
  nd : Ts.Nodup
  gt : ∀ T ∈ Ts, S < T
  ne : ∀ T ∈ Ts, T ≠ it
  at' : ∀ (j : Nat) (T : Addr), Ts[j]? = some T → ∃ ix : List Nat, L[j]? = some ix ∧ h.get? T = some { cls := .type "tuple", data := .seq (picks items ix).toArray }
theorem Gvn.keep {items : Array Value} {L : List (List Nat)} {S it : Addr} {Ts : List Addr} {h h' : Heap} (g : Gvn items L S it Ts h) (k : ∀ b o, b ≠ S → b ≠ it → h.get? b = some o → h'.get? b = some o) : Gvn items L S it Ts h' :=
  ⟨g.nd, g.gt, g.ne, fun j T e => by
    obtain ⟨ix, e1, e2⟩ := g.at' j T e
    have m := List.mem_of_getElem? e
    exact ⟨ix, e1, k T _ (Nat.ne_of_gt (g.gt T m)) (g.ne T m) e2⟩⟩
theorem Gvn.nil {items : Array Value} {L : List (List Nat)} {S it : Addr} {h : Heap} : Gvn items L S it [] h := ⟨List.nodup_nil, fun _ h => (by cases h), fun _ h => (by cases h), fun j T e => (by simp at e)⟩
theorem Gvn.add {items : Array Value} {L : List (List Nat)} {S it : Addr} {Ts : List Addr} {h h' : Heap} {T : Addr} {ix : List Nat} (g : Gvn items L S it Ts h) (k : ∀ b o, b ≠ it → h.get? b = some o → h'.get? b = some o)
    (hT : h.get? T = none) (h1 : S < T) (h2 : T ≠ it) (hx : L[Ts.length]? = some ix) (e : h'.get? T = some { cls := .type "tuple", data := .seq (picks items ix).toArray }) : Gvn items L S it (Ts ++ [T]) h' := by
  have hn : T ∉ Ts := fun m => by
    obtain ⟨j, hj⟩ := List.getElem?_of_mem m
    obtain ⟨ix, _, q⟩ := g.at' j T hj
    rw [hT] at q; cases q
  refine ⟨List.nodup_append.mpr ⟨g.nd, by simp, fun a ha b hb => by simp at hb; subst hb; exact fun z => hn (z ▸ ha)⟩, fun U m => ?_, fun U m => ?_, fun j U q => ?_⟩
  · rcases List.mem_append.mp m with m | m
    · exact g.gt U m
    · simp at m; subst m; exact h1
  · rcases List.mem_append.mp m with m | m
    · exact g.ne U m
    · simp at m; subst m; exact h2
  · by_cases hlt : j < Ts.length
    · rw [List.getElem?_append_left hlt] at q
      obtain ⟨ix, e1, e2⟩ := g.at' j U q
      exact ⟨ix, e1, k U _ (g.ne U (List.mem_of_getElem? q)) e2⟩
    · have hj := (List.getElem?_eq_some_iff.mp q).1
      simp at hj
      have : j = Ts.length := by omega
      subst this
      rw [List.getElem?_append_right (Nat.le_refl _)] at q
      simp at q
      subst q
      exact ⟨ix, hx, e⟩
end MK
end
section
set_option maxHeartbeats 2000000
namespace MK
open PySem PySem.Spec PyProof.Rows L2
section
variable {K : PySem.W.Frag} {mg : Str → Option Value} {cm : Wd} {H : Hp} {W : WX} {σ : L2.St}
theorem Out.tr {α : Type} {G : Wd → Hp → α → Prop} {cm' : Wd} {H' : Hp} {r : OX α} {st' : Sto} (x : Ext cm H cm' H') (o : Out K mg W σ cm H G r st') : Out K mg W σ cm' H' G r st' := by
  cases r with
  | val b => exact fun cm2 H2 x2 s2 => o cm2 H2 (x.trans x2) s2
  | exc c f v => exact fun cm2 H2 x2 s2 => o cm2 H2 (x.trans x2) s2
end
end MK
end
set_option maxHeartbeats 4000000
namespace MK
open PySem PySem.Spec PyProof.Rows L2
open PySem.AutoSeq1 (wpAny_loadPart')
def TupC (K : PySem.W.Frag) (mg : Str → Option Value) (x : Str) (vs : List V) : Prop := ∃ (A : Addr) (o : Obj) (its : Array Value) (n : Nat), mg x = some (.ref A) ∧ K.lookup A = some o ∧ o.cls = .type "tuple" ∧ o.data = .seq its n ∧ its.size ≤ sizeLine ∧ Vals vs its.toList
theorem TupC.of {K : PySem.W.Frag} {mg : Str → Option Value} {h : Heap} {x : Str} {vs : List V} (X : K.In h) (G : h.Ns mainGlobals mg) {A : Addr} {d : Option Addr} {its : Array Value} {n : Nat} {sl : Array (Option Value)} (a : PySem.W.nsIn K mainGlobals x = some (some (.ref A)))
    (l : K.lookup A = some ⟨.type "tuple", d, .seq its n, sl⟩) (hz : vs.length ≤ 1000) (hv : Vals vs its.toList) : TupC K mg x vs := by
  refine ⟨A, _, its, n, PySem.W.mg_of X G a, l, rfl, rfl, ?_, hv⟩
  have : vs.length = its.size := hv.length
  rw [sizeLine_eq]; omega
end MK
section
set_option maxHeartbeats 2000000
namespace MK
open PySem PySem.Spec PyProof.Rows L2
def insTI (acc : List (List Int)) (k : List Int) : List (List Int) := if k ∈ acc then acc else acc ++ [k]
def insTL (acc l : List (List Int)) : List (List Int) := l.foldl insTI acc
theorem insTI_mem {acc : List (List Int)} {k j : List Int} : j ∈ insTI acc k ↔ j ∈ acc ∨ j = k := by
  unfold insTI
  split
  · exact ⟨.inl, fun h => h.elim id fun e => e ▸ by assumption⟩
  · simp
theorem insTI_nodup {acc : List (List Int)} {k : List Int} (h : acc.Nodup) : (insTI acc k).Nodup := by
  unfold insTI
  split
  · exact h
  · rename_i hk
    rw [List.nodup_append]
    exact ⟨h, by simp, fun a ha b hb => by simp at hb; subst hb; exact fun e => hk (e ▸ ha)⟩
theorem insTL_mem {l acc : List (List Int)} {j : List Int} : j ∈ insTL acc l ↔ j ∈ acc ∨ j ∈ l := by
  unfold insTL
  induction l generalizing acc with
  | nil => simp
  | cons a l ih => rw [List.foldl_cons, ih, insTI_mem, List.mem_cons, or_assoc]
theorem insTL_nodup {l acc : List (List Int)} (h : acc.Nodup) : (insTL acc l).Nodup := by
  unfold insTL
  induction l generalizing acc with
  | nil => exact h
  | cons a l ih => exact ih (insTI_nodup h)
structure MakT (K : PySem.W.Frag) (mg : Str → Option Value) (P : Program) (w : World) (cm : Wd) (H : Hp) (cm1 : Wd) (H1 : Hp) (st1 : Sto) (D : Addr) (acc : List (List Int)) : Prop where
  ext : Ext cm H cm1 H1
  sto : RelS K mg cm1 st1 H1
  av : D ∈ cm1.av
  nc : D ∉ cm1.ch
  at' : ∃ L : List (Addr × List Int), H1 D = some (SetTO P w D L) ∧ (∀ p ∈ L, FzT K cm1 H1 p.1 (p.2.map V.int)) ∧ (L.map (·.2)).Perm acc
section
variable {K : PySem.W.Frag} {mg : Str → Option Value} {P : Program} {w : World} {H H1 : Hp} {cm cm1 : Wd} {st st1 : Sto} {D : Addr} {acc : List (List Int)}
theorem MakT.trL (m : MakT K mg P w cm H cm1 H1 st1 D acc) (L : List (Addr × List Int)) : Tr cm1 H1 cm1 (upd H1 D (SetTO P w D L)) :=
  ⟨fun _ _ h => h, fun a o h na => ⟨(upd_ne (fun z : a = D => na (z ▸ m.av))).trans h, na⟩⟩
theorem MakT.add (m : MakT K mg P w cm H cm1 H1 st1 D acc) (n : H D = none) {L : List (Addr × List Int)} {acc' : List (List Int)} (hL : ∀ p ∈ L, FzT K cm1 H1 p.1 (p.2.map V.int)) (hp : (L.map (·.2)).Perm acc') : MakT K mg P w cm H cm1 (upd H1 D (SetTO P w D L)) st1 D acc' := by
  have T := m.trL L
  exact ⟨m.ext.beside n, m.sto.beside m.av m.nc, m.av, m.nc, L, upd_same, fun p hp' => T.fzT (hL p hp'), hp⟩
end
end MK
end
section
set_option maxHeartbeats 2000000
namespace MK
open PySem PySem.Spec PyProof.Rows L2
def SqB (K : PySem.W.Frag) (b : Bool) (H : Hp) (a : Addr) (xs : List V) : Prop := if b = true then SqT K H a xs else SqL K H a xs
def HasB (b : Bool) (h : Heap) (a : Addr) (items : Array Value) : Prop := if b = true then h.IsTuple a items else h.IsList a items
def IterB (b : Bool) (h : Heap) (it a : Addr) (i : Nat) : Prop := if b = true then h.IsTupleIter it a i else h.IsListIter it a i
theorem IterB.at {b : Bool} {h h' : Heap} {it a : Addr} {i : Nat} (r : IterB b h it a i) (k : ∀ o, h.get? it = some o → h'.get? it = some o) : IterB b h' it a i := by
  cases b
  · exact Heap.IsListIter.at r k
  · exact Heap.IsTupleIter.at r k
theorem IterB.obj {b : Bool} {h : Heap} {it a : Addr} {i : Nat} (r : IterB b h it a i) : ∃ o, h.get? it = some o ∧ ∀ v, o.data ≠ .cell v := by
  cases b
  · obtain ⟨o, e, _, d⟩ := r
    exact ⟨o, e, fun v q => by rw [d] at q; cases q⟩
  · obtain ⟨o, e, _, d⟩ := r
    exact ⟨o, e, fun v q => by rw [d] at q; cases q⟩
theorem HasB.lt {b : Bool} {h : Heap} {a : Addr} {items : Array Value} (r : HasB b h a items) : a < h.objs.size := by
  cases b
  · obtain ⟨o, e, _⟩ := r; exact Heap.lt_size e
  · obtain ⟨o, e, _⟩ := r; exact Heap.lt_size e
structure ZipT (b1 b2 : Bool) (a1 a2 z TI TO i1 i2 : Addr) (n1 n2 i : Nat) (h : Heap) : Prop where
  zip : IsZip h z TI TO .none
  its : IsTupOf2 h TI (.ref i1) (.ref i2)
  out : ∃ u v, IsTupOf2 h TO u v
  one : IterB b1 h i1 a1 i
  two : IterB b2 h i2 a2 i
  le1 : i ≤ n1
  le2 : i ≤ n2
theorem ZipT.keep {b1 b2 : Bool} {a1 a2 z TI TO i1 i2 : Addr} {n1 n2 i : Nat} {h h' : Heap} (t : ZipT b1 b2 a1 a2 z TI TO i1 i2 n1 n2 i h) (k : ∀ b ∈ [z, TI, TO, i1, i2], ∀ o, h.get? b = some o → h'.get? b = some o) : ZipT b1 b2 a1 a2 z TI TO i1 i2 n1 n2 i h' where
  zip := k z (by simp) _ t.zip
  its := k TI (by simp) _ t.its
  out := let ⟨u, v, e⟩ := t.out; ⟨u, v, k TO (by simp) _ e⟩
  one := t.one.at fun o e => k i1 (by simp) o e
  two := t.two.at fun o e => k i2 (by simp) o e
  le1 := t.le1
  le2 := t.le2
section
variable {K : PySem.W.Frag} {mg : Str → Option Value} {cm : Wd} {H : Hp}
def FzB (K : PySem.W.Frag) (b : Bool) (cm : Wd) (H : Hp) (a : Addr) (xs : List V) : Prop := if b = true then FzT K cm H a xs else FzL cm H a xs
theorem FzB.sq {b : Bool} {a : Addr} {xs : List V} (h : FzB K b cm H a xs) : SqB K b H a xs := by
  cases b
  · exact FzL.sq h
  · exact FzT.sq h
theorem FzB.tr {b : Bool} {cm' : Wd} {H' : Hp} (e : Tr cm H cm' H') {a : Addr} {xs : List V} (h : FzB K b cm H a xs) : FzB K b cm' H' a xs := by
  cases b
  · exact e.fzL h
  · exact e.fzT h
end
end MK
end
section
set_option maxHeartbeats 2000000
namespace MK
open PySem PySem.Spec PyProof.Rows L2
inductive TabE (w : World) : List DictEntry → List (Str × Str) → Prop where
  | nil : TabE w [] []
  | cons {k v : Str} {t u : Tok} {n : Int} {es : List DictEntry} {tab : List (Str × Str)} : n = hashStr w k → TabE w es tab → TabE w (⟨n, .str k t, .str v u⟩ :: es) ((k, v) :: tab)
def DictC (w : World) (K : PySem.W.Frag) (mg : Str → Option Value) (x : Str) (tab : List (Str × Str)) : Prop :=
  ∃ (A : Addr) (o : Obj) (es : Array DictEntry) (ep : Nat), mg x = some (.ref A) ∧ (A == sysModules) = false ∧ K.lookup A = some o ∧ o.ExactDict ∧ o.data = .dict es ep ∧ TabE w es.toList tab
theorem DictC.of {w : World} {K : PySem.W.Frag} {mg : Str → Option Value} {h : Heap} {x : Str} {tab : List (Str × Str)} (X : K.In h) (G : h.Ns mainGlobals mg) {A : Addr} {es : Array DictEntry} {ep : Nat} (a : PySem.W.nsIn K mainGlobals x = some (some (.ref A)))
    (l : K.lookup A = some ⟨.type "dict", none, .dict es ep, #[]⟩) (n : (A == sysModules) = false) (e : TabE w es.toList tab) : DictC w K mg x tab := ⟨A, _, es, ep, PySem.W.mg_of X G a, n, l, ⟨rfl, rfl, rfl⟩, rfl, e⟩
end MK
end
section
set_option maxHeartbeats 2000000
namespace MK
open PySem PySem.Spec PyProof.Rows L2
theorem putF_self {f : Str} {x : V} : ∀ fs : List (Str × V), (putF f x fs).lookup f = some x
  | [] => by simp [putF]
  | (g, w) :: r => by
    unfold putF
    split
    · rename_i h
      subst h
      simp
    · rename_i h
      rw [List.lookup_cons]
      have : (f == g) = false := beq_eq_false_iff_ne.mpr (Ne.symm h)
      rw [this]
      exact putF_self r
theorem putF_ne {f g : Str} {x : V} (h : g ≠ f) : ∀ fs : List (Str × V), (putF f x fs).lookup g = fs.lookup g
  | [] => by simp [putF, h]
  | (k, w) :: r => by
    unfold putF
    split
    · rename_i hk
      subst hk
      rw [List.lookup_cons, List.lookup_cons, beq_eq_false_iff_ne.mpr h]
    · rw [List.lookup_cons, List.lookup_cons, putF_ne h r]
theorem putF_len {f : Str} {x : V} : ∀ fs : List (Str × V), (putF f x fs).length = fs.length + if fs.lookup f = none then 1 else 0
  | [] => by simp [putF]
  | (k, w) :: r => by
    unfold putF
    split
    · rename_i hk
      subst hk
      simp
    · rename_i hk
      have : (f == k) = false := beq_eq_false_iff_ne.mpr (Ne.symm hk)
      rw [List.length_cons, putF_len r, List.lookup_cons, this, List.length_cons]
      dsimp only
      omega
def putA {α : Type} (f : Str) (v : α) : List (Str × α) → List (Str × α)
  | [] => [(f, v)]
  | (g, w) :: r => if g = f then (g, v) :: r else (g, w) :: putA f v r
theorem putI_A (f : Str) (v : IV) : ∀ fs : List (Str × IV), putI f v fs = putA f v fs
  | [] => rfl
  | (g, w) :: r => by
    unfold putI putA
    rw [putI_A f v r]
theorem putA_self {α : Type} {f : Str} {x : α} : ∀ fs : List (Str × α), (putA f x fs).lookup f = some x
  | [] => by simp [putA]
  | (g, w) :: r => by
    unfold putA
    split
    · rename_i h
      subst h
      simp
    · rename_i h
      rw [List.lookup_cons]
      have : (f == g) = false := beq_eq_false_iff_ne.mpr (Ne.symm h)
      rw [this]
      exact putA_self r
theorem putA_ne {α : Type} {f g : Str} {x : α} (h : g ≠ f) : ∀ fs : List (Str × α), (putA f x fs).lookup g = fs.lookup g
  | [] => by simp [putA, h]
  | (k, w) :: r => by
    unfold putA
    split
    · rename_i hk
      subst hk
      rw [List.lookup_cons, List.lookup_cons, beq_eq_false_iff_ne.mpr h]
    · rw [List.lookup_cons, List.lookup_cons, putA_ne h r]
theorem putA_len {α : Type} {f : Str} {x : α} : ∀ fs : List (Str × α), (putA f x fs).length = fs.length + if (fs.lookup f).isNone = true then 1 else 0
  | [] => by simp [putA]
  | (k, w) :: r => by
    unfold putA
    split
    · rename_i hk
      subst hk
      simp
    · rename_i hk
      have : (f == k) = false := beq_eq_false_iff_ne.mpr (Ne.symm hk)
      rw [List.length_cons, putA_len r, List.lookup_cons, this, List.length_cons]
      dsimp only
      omega
section
variable {K : PySem.W.Frag} {mg : Str → Option Value} {cm cm' : Wd} {st : Sto} {H H' : Hp} {a b : Addr} {fs' : List (Str × V)} {fs : List (Str × IV)} {ls : List (Str × List IV)} {f : Str} {n : Nat}
theorem RepO.put {x : V} {v : IV} (h : RepO K mg cm H a fs' fs ls) (hf : ls.lookup f = none) (hx : Rep K mg cm H x v) : RepO K mg cm H a (putF f x fs') (putI f v fs) ls := by
  rw [putI_A]
  refine ⟨fun g w q => ?_, fun g l q => ?_, fun g k b' hne hg hk e1 e2 => ?_, fun g q1 q2 => ?_, ?_⟩
  · by_cases e : g = f
    · subst e
      rw [putA_self] at q
      cases q
      exact ⟨x, putF_self _, hx⟩
    · rw [putA_ne e] at q
      rw [putF_ne e]
      exact h.fl g w q
  · have e : g ≠ f := fun e => by rw [e, hf] at q; cases q
    rw [putF_ne e]
    exact h.ol g l q
  · have e : g ≠ f := fun e => hg (by rw [e]; exact hf)
    have e' : k ≠ f := fun e => hk (by rw [e]; exact hf)
    rw [putF_ne e] at e1
    rw [putF_ne e'] at e2
    exact h.dj g k b' hne hg hk e1 e2
  · have e : g ≠ f := fun e => by rw [e, putA_self] at q1; cases q1
    rw [putA_ne e] at q1
    rw [putF_ne e]
    exact h.no g q1 q2
  · have z := h.sm
    rw [putF_len, putA_len]
    by_cases e : fs'.lookup f = none
    · have e2 : fs.lookup f = none := by
        cases q : fs.lookup f with
        | none => rfl
        | some v =>
          obtain ⟨x, h1, _⟩ := h.fl f v q
          rw [e] at h1; cases h1
      rw [if_pos e, e2]
      simp
      omega
    · rw [if_neg e]
      omega
theorem RelS.setO (s : RelS K mg cm st H) {o : HO} {c : CV} (h : cm.cm[n]? = some a) (hb : (a, b) ∈ cm.ow) (hc : CellOk K mg cm (upd H b o) a c) : RelS K mg cm (st.set n c) (upd H b o) := by
  have hm := List.mem_of_getElem? h
  refine ⟨by simp [s.len], s.nd, fun m a' d h1 h2 => ?_, fun a' m => ?_, s.ofn, s.onc⟩
  · have hn : n < st.length := by rw [← s.len]; exact (List.getElem?_eq_some_iff.mp h).1
    by_cases e : n = m
    · subst e
      rw [h] at h1; cases h1
      rw [List.getElem?_set_self hn] at h2; cases h2
      exact hc
    · rw [List.getElem?_set_ne e] at h2
      have ne : a' ≠ a := fun z => by
        subst z
        obtain ⟨i1, e1⟩ := List.getElem?_eq_some_iff.mp h
        obtain ⟨i2, e2⟩ := List.getElem?_eq_some_iff.mp h1
        exact e ((List.getElem_inj s.nd).mp (e1.trans e2.symm))
      refine (s.at' m a' d h1 h2).ext (Ext.setO (Wd.ino hb)) (upd_ne fun z => s.onc _ _ hb (z ▸ List.mem_of_getElem? h1)) fun b' hb' => upd_ne fun z => ?_
      subst z
      exact ne (s.ofn _ _ _ hb' hb)
  · by_cases e : a' = b
    · subst e; exact ⟨o, upd_same⟩
    · obtain ⟨u, q⟩ := s.avs a' m
      exact ⟨u, by rw [upd_ne e]; exact q⟩
theorem pureL_dl {l : List IV} (h : pureL l = true) : pureL l.dropLast = true := by
  induction l with
  | nil => rfl
  | cons v l ih =>
    simp only [pureL, Bool.and_eq_true] at h
    cases l with
    | nil => rfl
    | cons w l =>
      rw [List.dropLast_cons_of_ne_nil (by simp)]
      simp only [pureL, Bool.and_eq_true]
      exact ⟨h.1, ih h.2⟩
theorem RepO.lst (h : RepO K mg cm H a fs' fs ls) {xs : List V} {l l0 : List IV} (h0 : ls.lookup f = some l0) (h1 : fs'.lookup f = some (.ref b)) (hb : (a, b) ∈ cm.ow) (hr : RepL K mg cm (upd H b (.lst xs)) xs l) (hp : pureL l = true) (E : Ext cm H cm (upd H b (.lst xs))) : RepO K mg cm (upd H b (.lst xs)) a fs' fs (putA f l ls) := by
  refine ⟨fun g w q => ?_, fun g l' q => ?_, fun g k b' hne hg hk e1 e2 => ?_, fun g q1 q2 => ?_, ?_⟩
  · obtain ⟨x, z1, z2⟩ := h.fl g w q
    exact ⟨x, z1, z2.ext E⟩
  · by_cases e : g = f
    · subst e
      rw [putA_self] at q
      cases q
      exact ⟨b, xs, h1, hb, upd_same, hr, hp⟩
    · rw [putA_ne e] at q
      obtain ⟨b', xs', z1, z2, z3, z4, z5⟩ := h.ol g l' q
      refine ⟨b', xs', z1, z2, ?_, z4.ext E, z5⟩
      rw [upd_ne fun z => ?_]
      · exact z3
      · subst z
        exact h.dj g f _ e (by rw [q]; simp) (by rw [h0]; simp) z1 h1
  · refine h.dj g k b' hne (fun z => hg ?_) (fun z => hk ?_) e1 e2
    · have e : g ≠ f := fun e => by rw [e, h0] at z; cases z
      rw [putA_ne e]; exact z
    · have e : k ≠ f := fun e => by rw [e, h0] at z; cases z
      rw [putA_ne e]; exact z
  · have e : g ≠ f := fun e => by rw [e, putA_self] at q2; cases q2
    rw [putA_ne e] at q2
    exact h.no g q1 q2
  · have z := h.sm
    rw [putA_len, h0]
    simpa using z
def Wd.gain (w : Wd) (a b : Addr) (h : b ∈ w.av) : Wd := ⟨w.cm, (a, b) :: w.ow, w.av, w.sub, fun p m => by
  rcases List.mem_cons.mp m with m | m
  · rw [m]; exact h
  · exact w.so p m⟩
theorem gain_ch {w : Wd} {a b x : Addr} {h : b ∈ w.av} (m : x ∈ (w.gain a b h).ch) : x ∈ w.ch ∨ x = b := by
  rcases Wd.mem_ch.mp m with m | ⟨o, m⟩
  · exact .inl (Wd.inch m)
  · rcases List.mem_cons.mp m with m | m
    · cases m; exact .inr rfl
    · exact .inl (Wd.ino m)
theorem Tr.gain {w : Wd} {h : b ∈ w.av} {o : HO} (hm : a ∈ w.cm) : Tr w H (w.gain a b h) (upd H a o) := ⟨fun _ _ h => h, fun x u e na => ⟨(upd_ne (fun z : x = a => na (by rw [z]; exact w.sub a hm))).trans e, na⟩⟩
theorem RepO.new (h : RepO K mg cm H a fs' fs ls) (hf : fs.lookup f = none) (hav : b ∈ cm.av) (nc : b ∉ cm.ch) (hH : H b = some (.lst [])) {o : HO} (hm : a ∈ cm.cm) (so : ∀ b', (a, b') ∈ cm.ow → b' ∉ cm.cm) : RepO K mg (cm.gain a b hav) (upd H a o) a (putF f (.ref b) fs') fs (putA f [] ls) := by
  have T : Tr cm H (cm.gain a b hav) (upd H a o) := Tr.gain hm
  refine ⟨fun g w q => ?_, fun g l' q => ?_, fun g k b' hne hg hk e1 e2 => ?_, fun g q1 q2 => ?_, ?_⟩
  · have e : g ≠ f := fun e => by rw [e, hf] at q; cases q
    obtain ⟨x, z1, z2⟩ := h.fl g w q
    exact ⟨x, by rw [putF_ne e]; exact z1, z2.tr T⟩
  · by_cases e : g = f
    · subst e
      rw [putA_self] at q
      cases q
      exact ⟨b, [], putF_self _, List.mem_cons_self, (upd_ne (show b ≠ a from fun z => nc (by rw [z]; exact Wd.inch hm))).trans hH, .nil, rfl⟩
    · rw [putA_ne e] at q
      obtain ⟨b', xs', z1, z2, z3, z4, z5⟩ := h.ol g l' q
      exact ⟨b', xs', by rw [putF_ne e]; exact z1, List.mem_cons_of_mem _ z2, (upd_ne (show b' ≠ a from fun z => so b' z2 (by rw [z]; exact hm))).trans z3, z4.tr T, z5⟩
  · have other : ∀ {g : Str}, g ≠ f → (putA f [] ls).lookup g ≠ none → ls.lookup g ≠ none := fun {g} e z => by rw [putA_ne e] at z; exact z
    have old : ∀ {g : Str} {b' : Addr}, g ≠ f → ls.lookup g ≠ none → fs'.lookup g = some (.ref b') → b' ∈ cm.ch := fun {g b'} e z q => by
      cases q2 : ls.lookup g with
      | none => exact absurd q2 z
      | some l' =>
        obtain ⟨b2, _, z1, z2, _⟩ := h.ol g l' q2
        rw [q] at z1
        cases z1
        exact Wd.ino z2
    by_cases e : g = f
    · subst e
      have e' : k ≠ g := fun z => hne z.symm
      rw [putF_self] at e1
      cases e1
      rw [putF_ne e'] at e2
      exact nc (old e' (other e' hk) e2)
    · by_cases e' : k = f
      · subst e'
        rw [putF_self] at e2
        cases e2
        rw [putF_ne e] at e1
        exact nc (old e (other e hg) e1)
      · rw [putF_ne e] at e1
        rw [putF_ne e'] at e2
        exact h.dj g k b' hne (other e hg) (other e' hk) e1 e2
  · have e : g ≠ f := fun e => by rw [e, putA_self] at q2; cases q2
    rw [putA_ne e] at q2
    rw [putF_ne e]
    exact h.no g q1 q2
  · have z := h.sm
    rw [putF_len, putA_len]
    by_cases e : fs'.lookup f = none
    · have e2 : ls.lookup f = none := by
        cases q : ls.lookup f with
        | none => rfl
        | some l =>
          obtain ⟨b', xs, h1, _⟩ := h.ol f l q
          rw [e] at h1; cases h1
      rw [if_pos e, e2]
      simp
      omega
    · rw [if_neg e]
      omega
theorem RelS.gain (s : RelS K mg cm st H) (h : cm.cm[n]? = some a) (hav : b ∈ cm.av) (nc : b ∉ cm.ch) {o : HO} {c : CV} (hc : CellOk K mg (cm.gain a b hav) (upd H a o) a c) : RelS K mg (cm.gain a b hav) (st.set n c) (upd H a o) := by
  have hm := List.mem_of_getElem? h
  have T : Tr cm H (cm.gain a b hav) (upd H a o) := Tr.gain hm
  refine ⟨by simp [Wd.gain, s.len], s.nd, fun m a' d h1 h2 => ?_, fun a' m => ?_, fun x x' y m1 m2 => ?_, fun x y m1 => ?_⟩
  · have h1' : cm.cm[m]? = some a' := h1
    have hn : n < st.length := by rw [← s.len]; exact (List.getElem?_eq_some_iff.mp h).1
    by_cases e : n = m
    · subst e
      rw [h] at h1'; cases h1'
      rw [List.getElem?_set_self hn] at h2; cases h2
      exact hc
    · rw [List.getElem?_set_ne e] at h2
      have ne : a' ≠ a := fun z => by
        subst z
        obtain ⟨i1, e1⟩ := List.getElem?_eq_some_iff.mp h
        obtain ⟨i2, e2⟩ := List.getElem?_eq_some_iff.mp h1'
        exact e ((List.getElem_inj s.nd).mp (e1.trans e2.symm))
      exact (s.at' m a' d h1' h2).tr T (fun _ h => List.mem_cons_of_mem _ h) (upd_ne ne) fun b' hb' => upd_ne fun z => s.onc _ _ hb' (z ▸ hm)
  · by_cases e : a' = a
    · subst e; exact ⟨o, upd_same⟩
    · obtain ⟨u, q⟩ := s.avs a' m
      exact ⟨u, by rw [upd_ne e]; exact q⟩
  · rcases List.mem_cons.mp m1 with m1 | m1
    · cases m1
      rcases List.mem_cons.mp m2 with m2 | m2
      · cases m2; rfl
      · exact absurd (Wd.ino m2) nc
    · rcases List.mem_cons.mp m2 with m2 | m2
      · cases m2; exact absurd (Wd.ino m1) nc
      · exact s.ofn _ _ _ m1 m2
  · rcases List.mem_cons.mp m1 with m1 | m1
    · cases m1
      exact fun z => nc (Wd.inch z)
    · exact s.onc _ _ m1
end
end MK
end
section
set_option maxHeartbeats 2000000
namespace MK
open PySem PySem.Spec PyProof.Rows L2
def fldOM (c f : Str) (v : IV) : M IV := fun st => match v with
  | .cell n => (match st[n]? with
    | some (.own c' fs _) => if c' = c then (match fs.lookup f with
      | some w => some (.val w, st)
      | none => none) else none
    | _ => none)
  | _ => none
def mFldO (c f : Str) (m : ME) : ME := fun ls => M.bind (m ls) (fldOM c f)
def lenOwnM (c f : Str) (v : IV) : M IV := fun st => match v with
  | .cell n => (match st[n]? with
    | some (.own c' _ lls) => if c' = c then (match lls.lookup f with
      | some l => some (.val (.int l.length), st)
      | none => none) else none
    | _ => none)
  | _ => none
def mLenF (c f : Str) (m : ME) : ME := fun ls => M.bind (m ls) (lenOwnM c f)
def popOM (c f : Str) (v : IV) : M IV := fun st => match v with
  | .cell n => (match st[n]? with
    | some (.own c' fs lls) => if c' = c then (match lls.lookup f with
      | some l => (match l[l.length - 1]? with
        | some w => some (.val w, st.set n (.own c fs (putA f l.dropLast lls)))
        | none => none)
      | none => none) else none
    | _ => none)
  | _ => none
def mPopO (c f : Str) (m : ME) : ME := fun ls => M.bind (m ls) (popOM c f)
section
variable {X : Cx} {W : WX} {a : Expr} {fa : ME} {c f : Str} {pos p ap : Pos}
theorem e_fldO (c : Str) {f : Str} (ho : PE' X W a fa) (hf : FldOk X.K X.mg c f) (hb : attributeBase a f X.env (eval a X.env) = eval a X.env := by rfl) : PE' X W (.Attribute a f pos) (mFldO c f fa) := by
  refine PE_imp (pe_fld ho hb) fun σ H Q h => rdE_mono (rd1 h) fun x H1 h1 => ?_
  obtain ⟨cm, st, v, r, st', s, hx, e, o⟩ := h1
  unfold fldOM at e
  split at e
  · rename_i n
    split at e
    · rename_i c' fs ls q0
      split at e
      · rename_i hc
        subst hc
        cases q : fs.lookup f with
        | none => rw [q] at e; cases e
        | some w =>
          rw [q] at e; cases e
          cases hx with
          | @cell p _ hn =>
            obtain ⟨C, dx, fs', hm, h1, h3, _⟩ := s.at' n p _ hn q0
            obtain ⟨y, h4, h5⟩ := h3.fl f _ q
            exact ⟨p, C, dx, fs', y, rfl, h1, (hf C hm).1, (hf C hm).2, h4, o cm H1 (Ext.refl _ _) s _ h5⟩
      · cases e
    · cases e
  · cases e
theorem e_lenF (c : Str) {f : Str} (ho : PE' X W a fa) (hf : FldOk X.K X.mg c f) (hg : Gl X "len") (hm : X.mg "len" = none) (hb : attributeBase a f X.env (eval a X.env) = eval a X.env := by rfl)
    (he : starEach [.Attribute a f ap] X.env = (false, eval (.Attribute a f ap) X.env) :: starEach [] X.env := by rfl) (hpl : (backTo pos (starEach [] X.env)).any (·.1) = false := by rfl) : PE' X W (.Call (.Name "len" p) [.Attribute a f ap] [] pos) (mLenF c f fa) := by
  refine PE_imp (pe_callB call_len hg hm boot_len (pa_cons (pe_fld ho hb) pa_nil he) (by decide) (by decide) he hpl) fun σ H Q h => rdE_mono (rd1 h) fun x H1 h1 => ?_
  obtain ⟨cm, st, v, r, st', s, hx, e, o⟩ := h1
  unfold lenOwnM at e
  split at e
  · rename_i n
    split at e
    · rename_i c' fs ls q0
      split at e
      · rename_i hc
        subst hc
        cases q : ls.lookup f with
        | none => rw [q] at e; cases e
        | some l =>
          rw [q] at e; cases e
          cases hx with
          | @cell p _ hn =>
            obtain ⟨C, dx, fs', hm, h1, h3, _⟩ := s.at' n p _ hn q0
            obtain ⟨b, xs, z1, z2, z3, z4, z5⟩ := h3.ol f _ q
            exact ⟨p, C, dx, fs', .ref b, rfl, h1, (hf C hm).1, (hf C hm).2, z1, .ref b, l.length, rfl, .inl ⟨xs, SqL.of z3, z4.length.symm⟩, o cm H1 (Ext.refl _ _) s _ (.int _)⟩
      · cases e
    · cases e
  · cases e
theorem e_popO (c : Str) {f : Str} (ho : PE' X W a fa) (hf : FldOk X.K X.mg c f) (hb : attributeBase a f X.env (eval a X.env) = eval a X.env := by rfl)
    (hbase : attributeBase (.Attribute a f ap) "pop" X.env (eval (.Attribute a f ap) X.env) = eval (.Attribute a f ap) X.env := by rfl) (hline : (p.endLine == pos.line) = true := by rfl) : PE' X W (.Call (.Attribute (.Attribute a f ap) "pop" p) [] [] pos) (mPopO c f fa) := by
  refine PE_imp (pe_bm0 PySem.F.plainAttrs_list PySem.F.slot_list_pop PySem.F.type_list_pop mt_pop (pe_fld ho hb) hbase hline) fun σ H Q h => rdE_mono (rd1 h) fun x H1 h1 => ?_
  obtain ⟨cm, st, v, r, st', s, hx, e, o⟩ := h1
  unfold popOM at e
  split at e
  · rename_i n
    split at e
    · rename_i c' fs ls q0
      split at e
      · rename_i hc
        subst hc
        cases q : ls.lookup f with
        | none => rw [q] at e; cases e
        | some l =>
          simp only [q] at e
          split at e
          · rename_i w hw
            cases e
            cases hx with
            | @cell p _ hn =>
              obtain ⟨C, dx, fs', hm, h1, h3, h4⟩ := s.at' n p _ hn q0
              obtain ⟨b, xs, z1, z2, z3, z4, z5⟩ := h3.ol f _ q
              obtain ⟨y, y1, y2⟩ := z4.get hw
              have E : Ext cm H1 cm (upd H1 b (.lst xs.dropLast)) := Ext.setO (Wd.ino z2)
              have z6 : RepL X.K X.mg cm H1 xs.dropLast l.dropLast := by
                rw [List.dropLast_eq_take, List.dropLast_eq_take, z4.length]
                exact z4.take _
              have ne : p ≠ b := fun z => s.onc _ _ z2 (z ▸ List.mem_of_getElem? hn)
              have s2 := s.setO hn z2 (o := .lst xs.dropLast) (c := .own c' fs (putA f l.dropLast ls)) ⟨C, dx, fs', hm, (upd_ne ne).trans h1, h3.lst q z1 z2 (z6.ext E) (pureL_dl z5) E, h4⟩
              refine ⟨p, C, dx, fs', .ref b, rfl, h1, (hf C hm).1, (hf C hm).2, z1, .inl ⟨rfl, _, SqL.of z3⟩, b, xs, y, rfl, rfl, z3, ?_, o cm _ E s2 _ (y2.ext E)⟩
              rw [z4.length]
              exact y1
          · cases e
      · cases e
    · cases e
  · cases e
end
def putOM (c f : Str) (o v : IV) : M Unit := fun st => match o with
  | .cell n => (match st[n]? with
    | some (.own c' fs lls) => if c' = c ∧ v.pure = true ∧ fs.length + lls.length < 1000 ∧ lls.lookup f = none then some (.val (), st.set n (.own c (putI f v fs) lls)) else none
    | _ => none)
  | _ => none
def mPutO (c f : Str) (o m : ME) : MS := liftS (fun ls => M.bind (m ls) fun v => M.bind (o ls) fun a => putOM c f a v) fun _ ls => M.ret (.nx ls)
def newOM (c f : Str) (o : IV) : M Unit := fun st => match o with
  | .cell n => (match st[n]? with
    | some (.own c' fs lls) => if c' = c ∧ fs.length + lls.length < 1000 ∧ fs.lookup f = none then some (.val (), st.set n (.own c fs (putA f [] lls))) else none
    | _ => none)
  | _ => none
def mNewO (c f : Str) (o : ME) : MS := liftS (fun ls => M.bind (o ls) fun a => newOM c f a) fun _ ls => M.ret (.nx ls)
section
variable {X : Cx} {W : WX} {e ob : Expr} {fo fa : ME} {c f : Str} {p pos lp : Pos}
theorem s_fldO (c : Str) (ho : PE' X W ob fo) (he : PE' X W e fa) (hf : FldOk X.K X.mg c f) (hs : swapsWith e (some (.Attribute ob f p)) pos.line X.env = pure false := by rfl) : PS' X W (.Assign [.Attribute ob f p] e pos) (mPutO c f fo fa) := by
  refine PS_imp (ps_fld ho he hs) fun D σ H h => ?_
  obtain ⟨cm, ls, st, r, st', R, e, o⟩ := rd_lift h
  rcases M.bind_inv e with ⟨v, st1, e1, e2⟩ | ⟨c, f, v, e1, rfl⟩
  · refine ⟨cm, ls, st, _, st1, R, e1, fun cm1 H1 x1 s1 y hy => ?_⟩
    rcases M.bind_inv e2 with ⟨a, st2, e3, e4⟩ | ⟨c, f, v, e3, rfl⟩
    · refine ⟨cm1, ls, st1, _, st2, R.ext x1 s1, e3, fun cm2 H2 x2 s2 z hz => ?_⟩
      unfold putOM at e4
      split at e4
      · rename_i n
        split at e4
        · rename_i c' fs lls q
          split at e4
          · rename_i hc
            obtain ⟨rfl, hp, hlen, hno⟩ := hc
            cases e4
            cases hz with
            | @cell p _ hn =>
              obtain ⟨C, dx, fs', hm, g1, g2, g3⟩ := s2.at' n p _ hn q
              have hin := List.mem_of_getElem? hn
              have E : Ext cm2 H2 cm2 (upd H2 p (.ins C dx (putF f y fs'))) := Ext.set hin
              have s3 := s2.set hn (o := .ins C dx (putF f y fs')) (c := .own c' (putI f v fs) lls) ⟨C, dx, _, hm, upd_same, (g2.put hno (hy.ext x2)).ext E fun b hb => upd_ne fun z => s2.onc _ _ hb (z ▸ hin), pureF_put g3 hp⟩
              obtain ⟨fl, st5, e7, o7⟩ := o cm2 _ ((x1.trans x2).trans E) s3
              cases e7
              have := g2.sm
              exact ⟨p, C, dx, fs', rfl, g1, (hf C hm).1, (hf C hm).2, by omega, o7 cm2 _ (Ext.refl _ _) s3 σ ((R.ext x1 s1).ext (x2.trans E) s3).loc⟩
          · cases e4
        · cases e4
      · cases e4
    · exact ⟨cm1, ls, st1, _, st', R.ext x1 s1, e3, fun cm2 H2 x2 s2 => o cm2 H2 (x1.trans x2) s2⟩
  · exact ⟨cm, ls, st, _, st', R, e1, o⟩
theorem s_newO (c : Str) (ho : PE' X W ob fo) (hf : FldOk X.K X.mg c f) (hs : swapsWith (.List [] lp) (some (.Attribute ob f p)) pos.line X.env = pure false := by rfl) : PS' X W (.Assign [.Attribute ob f p] (.List [] lp) pos) (mNewO c f fo) := by
  refine PS_imp (ps_fld ho (pe_lst pa_nil) hs) fun D σ H h => ?_
  refine ⟨by decide, fun l hl => ?_⟩
  obtain ⟨cm, ls, st, r, st', R, e, o⟩ := rd_lift h
  have s0 := R.sto.avoid hl (o := .lst [])
  have E0 : Ext cm H (cm.avoid l) (upd H l (.lst [])) := Ext.avoid hl
  rcases M.bind_inv e with ⟨a, st2, e3, e4⟩ | ⟨c, f, v, e1, rfl⟩
  · refine ⟨cm.avoid l, ls, st, _, st2, ⟨s0, R.loc.ext E0⟩, e3, fun cm2 H2 x2 s2 z hz => ?_⟩
    have E2 := E0.trans x2
    have nc0 : l ∉ (cm.avoid l).ch := R.sto.notCell hl
    have hav : l ∈ cm2.av := x2.keep l List.mem_cons_self
    have nc : l ∉ cm2.ch := x2.new l _ upd_same nc0
    have hH : H2 l = some (.lst []) := x2.fr l _ upd_same nc0
    unfold newOM at e4
    split at e4
    · rename_i n
      split at e4
      · rename_i c' fs lls q
        split at e4
        · rename_i hc
          obtain ⟨rfl, hlen, hno⟩ := hc
          cases e4
          cases hz with
          | @cell p _ hn =>
            obtain ⟨C, dx, fs', hm, g1, g2, g3⟩ := s2.at' n p _ hn q
            have hin := List.mem_of_getElem? hn
            have s3 := s2.gain hn hav nc (o := .ins C dx (putF f (.ref l) fs')) (c := .own c' fs (putA f [] lls)) ⟨C, dx, _, hm, upd_same, g2.new hno hav nc hH hin fun b hb => s2.onc _ _ hb, g3⟩
            have E3 : Ext cm H (cm2.gain p l hav) (upd H2 p (.ins C dx (putF f (.ref l) fs'))) := by
              refine ⟨E2.pre, fun x u q na => ?_, E2.av, fun x u q na m => ?_, E2.keep, fun w m => List.mem_cons_of_mem _ (E2.pow w m)⟩
              · exact (upd_ne fun z : x = p => E2.new x u q na (by rw [z]; exact Wd.inch hin)).trans (E2.fr x u q na)
              · rcases gain_ch m with m | m
                · exact E2.new x u q na m
                · subst m; rw [hl] at q; cases q
            obtain ⟨fl, st5, e7, o7⟩ := o _ _ E3 s3
            cases e7
            have := g2.sm
            exact ⟨p, C, dx, fs', rfl, g1, (hf C hm).1, (hf C hm).2, by omega, o7 _ _ (Ext.refl _ _) s3 σ (R.loc.ext E3)⟩
        · cases e4
      · cases e4
    · cases e4
  · exact ⟨cm.avoid l, ls, st, _, st', ⟨s0, R.loc.ext E0⟩, e1, fun cm2 H2 x2 s2 => o cm2 H2 (E0.trans x2) s2⟩
end
end MK
end
section
set_option maxHeartbeats 2000000
namespace MK
open PySem PySem.Spec PyProof.Rows L2
structure CallOk (K : PySem.W.Frag) (mg : Str → Option Value) (c m : Str) : Prop where
  cl : ∀ C, mg c = some (.ref C) → Cls K C
  kp : ∀ C f, mg c = some (.ref C) → PySem.W.findIn K (.ref C) m = some (some (.ref f)) → PySem.W.keepIn K (.ref f) = true
theorem CallOk.of {K : PySem.W.Frag} {h : Heap} {mg : Str → Option Value} {c m : Str} {C f : Addr} (o : Own K mg c C) (a : PySem.W.findIn K (.ref C) m = some (some (.ref f))) (k : PySem.W.keepIn K (.ref f) = true) : CallOk K mg c m where
  cl C' h := by rw [o.m] at h; cases h; exact o.i.cl
  kp C' f' h h' := by
    rw [o.m] at h; cases h
    rw [a] at h'; cases h'
    exact k
def chkM (c m : Str) (v : IV) : M IV := fun st => match v with
  | .cell n => (match st[n]? with
    | some (.own c' fs lls) => if c' = c ∧ fs.lookup m = none ∧ lls.lookup m = none then some (.val (.cell n), st) else none
    | _ => none)
  | _ => none
def mMeth (c m : Str) (k : Nat) (g : MF) (fo : ME) (ga : MA) : ME := fun ls => M.bind (fo ls) fun a => M.bind (chkM c m a) fun a => M.bind (ga ls) fun l => if l.length + 1 = k then g (a :: l) else M.stuck
section
variable {X : Cx} {CX : CXT} {k : Nat} {f C : Addr} {fd : FuncData} {ps : List Str} {sp : Sp} {E : L2.St → XK} {m : Str} {p pos apos : Pos} {e o : Expr} {es : List Expr} {ta : TE} {t : TA}
def tMethX (C : Addr) (m : Str) (sp : Sp) (E : L2.St → XK) (ta : TE) (t : TA) : TE := fun σ H Q => ta σ H fun x H1 => ∃ a dx fs, x = .ref a ∧ H1 a = some (.ins C dx fs) ∧ fs.lookup m = none ∧
  t σ H1 fun vs H2 => sp (x :: vs) H2 Q (E σ)
theorem pe_methX {pl : Sem Bool} (he : PE X o ta) (cl : Cls X.K C) (hm : Meth X.K C m f) (F : FnOk X.prog X.w X.K X.mg X.base CX k f fd ps sp) (hr : Room k X.A) (hb : Binds X.K fd ps []) (hx : ∀ σ, PassesAt CX X σ (E σ)) (ha : PA X (e :: es) t)
    (hst : starEach (e :: es) X.env = (false, eval e X.env) :: starEach es X.env) (hpl : (backTo pos (starEach es X.env)).any (·.1) = false)
    (ht : eval (.Call (.Attribute o m apos) (e :: es) [] pos) X.env = (eval o X.env >>= fun ov => standAt apos.atName >>= fun _ => holding [ov] (getMethod ov m pl) >>= fun fb => callWith pos fb.1 fb.2 (backTo pos (starEach (e :: es) X.env)) (backToKw pos (keywordEach [] X.env)))) :
    PE X (.Call (.Attribute o m apos) (e :: es) [] pos) (tMethX C m sp E ta t) := by
  constructor
  intro pins s0 σ H0 Q0 I0 h0
  refine PySem.W.methodCall_KW (pl := pl) (thn (he.run pins s0 σ H0 _ I0 h0) fun u s1 h1 => ?_) ht
  obtain ⟨x, H1, I1, rx, a, dx, fs, rfl, ea, l, q⟩ := h1
  obtain rfl : u = Value.ref a := rx
  refine getmeth_ok (I := I1) (e := ea) (c := cl) (k := hm) (l := l) ?_
  refine PySem.W.callWith_K (first := [.ref a]) (h₀ := X.base) I1.ok.mod.kin hm.kp (thn (ha.run pos pins s1 σ H1 _ I1 q) fun us s2 h2 => ?_) hst hpl
  obtain ⟨vs, H2, I2, r, q2⟩ := h2
  exact ⟨I2.kIn, run_fnSD (us := .ref a :: us) (vs := .ref a :: vs) (dvs := []) (ds := []) F hr hb .nil (hx σ) I2 (.cons rfl r) (by rw [List.append_nil]; exact q2)⟩
theorem pe_methX0 {pl : Sem Bool} (he : PE X o ta) (cl : Cls X.K C) (hm : Meth X.K C m f) (F : FnOk X.prog X.w X.K X.mg X.base CX k f fd ps sp) (hr : Room k X.A) (hb : Binds X.K fd ps []) (hx : ∀ σ, PassesAt CX X σ (E σ))
    (ht : eval (.Call (.Attribute o m apos) [] [] pos) X.env = (eval o X.env >>= fun ov => standAt apos.atName >>= fun _ => holding [ov] (getMethod ov m pl) >>= fun fb => callWith pos fb.1 fb.2 (backTo pos (starEach [] X.env)) (backToKw pos (keywordEach [] X.env)))) :
    PE X (.Call (.Attribute o m apos) [] [] pos) (tMethX C m sp E ta tNil) := by
  constructor
  intro pins s0 σ H0 Q0 I0 h0
  refine PySem.W.methodCall_KW (pl := pl) (thn (he.run pins s0 σ H0 _ I0 h0) fun u s1 h1 => ?_) ht
  obtain ⟨x, H1, I1, rx, a, dx, fs, rfl, ea, l, q⟩ := h1
  obtain rfl : u = Value.ref a := rx
  refine getmeth_ok (I := I1) (e := ea) (c := cl) (k := hm) (l := l) ?_
  exact PySem.W.callWith_K0 (first := [.ref a]) I1.kIn hm.kp (run_fnSD (us := [.ref a]) (vs := [.ref a]) (dvs := []) (ds := []) F hr hb .nil (hx σ) I1 (.cons rfl .nil) (by rw [List.append_nil]; exact q))
end
section
variable {X : Cx} {W : WX} {e ob : Expr} {es : List Expr} {fo : ME} {ga : MA} {k : Nat} {c m : Str} {ps : List Str} {g : MF} {p pos : Pos} {pl : Sem Bool}
theorem chk_inv {K : PySem.W.Frag} {mg : Str → Option Value} {cm : Wd} {st st' : Sto} {H : Hp} {x : V} {v : IV} {r : OX IV} (s : RelS K mg cm st H) (hx : Rep K mg cm H x v) (e : chkM c m v st = some (r, st')) :
    ∃ n p C dx fs', v = .cell n ∧ r = .val (.cell n) ∧ st' = st ∧ x = .ref p ∧ cm.cm[n]? = some p ∧ mg c = some (.ref C) ∧ H p = some (.ins C dx fs') ∧ fs'.lookup m = none := by
  unfold chkM at e
  split at e
  · rename_i n
    split at e
    · rename_i c' fs lls q0
      split at e
      · rename_i hc
        obtain ⟨rfl, h1, h2⟩ := hc
        cases e
        cases hx with
        | @cell p _ hn =>
          obtain ⟨C, dx, fs', hm, g1, g2, _⟩ := s.at' n p _ hn q0
          exact ⟨n, p, C, dx, fs', rfl, rfl, rfl, rfl, hn, hm, g1, g2.no m h1 h2⟩
      · cases e
    · cases e
  · cases e
theorem rd_meth {C : Addr} {f : Addr} {n : Nat} (hC : X.mg c = some (.ref C)) {σ : L2.St} {H : Hp} {Q : VK} (h : rdE X.K X.mg W (mMeth c m n g fo ga) σ H Q) : tMethX C m (spM X.K X.mg n g) (WE W) (rdE X.K X.mg W fo) (rdA X.K X.mg W ga) σ H Q := by
  obtain ⟨cm, ls, st, r, st', R, e, o⟩ := h
  rcases M.bind_inv e with ⟨v, st1, e1, e2⟩ | ⟨c', f', v, e1, rfl⟩
  · refine ⟨cm, ls, st, _, st1, R, e1, fun cm1 H1 x1 s1 x hx => ?_⟩
    rcases M.bind_inv e2 with ⟨v2, st2, e3, e4⟩ | ⟨c', f', w, e3, rfl⟩
    · obtain ⟨n', q, C', dx, fs', rfl, hr, rfl, rfl, hn, hC', hH, hno⟩ := chk_inv s1 hx e3
      cases hr
      rw [hC] at hC'
      cases hC'
      refine ⟨q, dx, fs', rfl, hH, hno, ?_⟩
      rcases M.bind_inv e4 with ⟨l, st3, e5, e6⟩ | ⟨c', f', w, e5, rfl⟩
      · refine ⟨cm1, ls, st2, _, st3, R.ext x1 s1, e5, fun cm2 H2 x2 s2 vs hvs => ?_⟩
        split at e6
        · rename_i hl
          refine ⟨by rw [List.length_cons, hvs.length]; exact hl, cm2, st3, _, r, st', s2, .cons (.cell (x2.at hn)) hvs, e6, ?_⟩
          refine out_call ?_
          cases r with
          | val a => exact fun cm3 H3 x3 s3 => o cm3 H3 ((x1.trans x2).trans x3) s3
          | exc c' f' w => exact fun cm3 H3 x3 s3 => o cm3 H3 ((x1.trans x2).trans x3) s3
        · cases e6
      · exact ⟨cm1, ls, st2, _, st', R.ext x1 s1, e5, fun cm2 H2 x2 s2 => o cm2 H2 (x1.trans x2) s2⟩
    · obtain ⟨_, _, _, _, _, _, hr, _⟩ := chk_inv s1 hx e3
      cases hr
  · exact ⟨cm, ls, st, _, st', R, e1, o⟩
theorem e_meth (F : MetOk X.prog X.w X.K X.mg X.base k c m ps g) (co : CallOk X.K X.mg c m) (hr : Room k X.A) (tk : Takes X W) (ho : PE' X W ob fo) (ha : PA' X W (e :: es) ga)
    (hst : starEach (e :: es) X.env = (false, eval e X.env) :: starEach es X.env := by rfl) (hpl : (backTo pos (starEach es X.env)).any (·.1) = false := by rfl)
    (ht : eval (.Call (.Attribute ob m p) (e :: es) [] pos) X.env = (eval ob X.env >>= fun ov => standAt p.atName >>= fun _ => holding [ov] (getMethod ov m pl) >>= fun fb => callWith pos fb.1 fb.2 (backTo pos (starEach (e :: es) X.env)) (backToKw pos (keywordEach [] X.env))) := by rfl) :
    PE' X W (.Call (.Attribute ob m p) (e :: es) [] pos) (mMeth c m ps.length g fo ga) := by
  obtain ⟨C, f, fd, h1, h2, h3, h4, h5⟩ := F.ex
  exact PE_imp (pe_methX ho (co.cl C h1) ⟨h2, h3, co.kp C f h1 h2⟩ h5 hr h4 (fun σ => passAt tk σ) ha hst hpl ht) fun σ H Q h => rd_meth (f := f) h1 h
theorem e_meth0 (F : MetOk X.prog X.w X.K X.mg X.base k c m ps g) (co : CallOk X.K X.mg c m) (hr : Room k X.A) (tk : Takes X W) (ho : PE' X W ob fo)
    (ht : eval (.Call (.Attribute ob m p) [] [] pos) X.env = (eval ob X.env >>= fun ov => standAt p.atName >>= fun _ => holding [ov] (getMethod ov m pl) >>= fun fb => callWith pos fb.1 fb.2 (backTo pos (starEach [] X.env)) (backToKw pos (keywordEach [] X.env))) := by rfl) :
    PE' X W (.Call (.Attribute ob m p) [] [] pos) (mMeth c m ps.length g fo mNil) := by
  obtain ⟨C, f, fd, h1, h2, h3, h4, h5⟩ := F.ex
  exact PE_imp (pe_methX0 ho (co.cl C h1) ⟨h2, h3, co.kp C f h1 h2⟩ h5 hr h4 (fun σ => passAt tk σ) ht) fun σ H Q h => by
    have z := rd_meth (f := f) h1 h
    refine rdE_mono z fun x H1 hh => ?_
    obtain ⟨a, dx, fs, e1, e2, e3, hn⟩ := hh
    refine ⟨a, dx, fs, e1, e2, e3, ?_⟩
    obtain ⟨cm, ls, st, r, st', R, e, o⟩ := hn
    cases e
    exact o cm _ (Ext.refl _ _) R.sto [] .nil
end
end MK
end
section
set_option maxHeartbeats 2000000
namespace MK
open PySem PySem.Spec PyProof.Rows L2
def makeOM (c : Str) (n : Nat) (g : MF) (l : List IV) : M IV := fun st => if l.length + 1 = n then (match g (.cell st.length :: l) (st ++ [.own c [] []]) with
  | some (.val .non, st') => if st'.length = st.length + 1 then some (.val (.cell st.length), st') else none
  | _ => none) else none
def mMakeO (c : Str) (n : Nat) (g : MF) (a : MA) : ME := fun ls => M.bind (a ls) (makeOM c n g)
section
variable {X : Cx} {W : WX} {e : Expr} {es : List Expr} {ga : MA} {k : Nat} {c : Str} {ps : List Str} {g : MF} {p pos : Pos}
theorem repO_nil {K : PySem.W.Frag} {mg : Str → Option Value} {cm : Wd} {H : Hp} {a : Addr} : RepO K mg cm H a [] [] [] where
  fl f v h := by cases h
  ol f l h := by cases h
  dj f g b _ h := absurd rfl h
  no f _ _ := rfl
  sm := Nat.le_refl _
theorem e_makeO (F : ClsOk X.prog X.w X.K X.mg X.base k c ps g) (hr : Room (k + 1) X.A) (hg : Gl X c) (tk : Takes X W) (ha : PA' X W (e :: es) ga) (hdb : (c == ("__debug__" : Str)) = false := by decide)
    (he : starEach (e :: es) X.env = (false, eval e X.env) :: starEach es X.env := by rfl) (hpl : (backTo pos (starEach es X.env)).any (·.1) = false := by rfl) : PE' X W (.Call (.Name c p) (e :: es) [] pos) (mMakeO c ps.length g ga) := by
  obtain ⟨C, f, fd, h1, h2, h3, h4⟩ := F.ex
  refine PE_imp (pe_makeS h2 h4 hr hg h1 h3 (fun σ => passAt tk σ) ha hdb he hpl) fun σ H Q h => rdA_mono (rdA1 h) fun xs H1 hh => ?_
  obtain ⟨cm, st, l, r, st', s, hx, e, o⟩ := hh
  intro x dx nx ndx ne
  have nxd : (upd H1 dx (.own x)) x = none := by rw [upd_ne (Ne.symm ne)]; exact nx
  have E1 : Ext cm H1 cm (upd H1 dx (.own x)) := Ext.new' ndx
  have s1 := s.new (o := .own x) ndx
  have E2 : Ext cm (upd H1 dx (.own x)) (cm.push x) (upd (upd H1 dx (.own x)) x (.ins C dx [])) := Ext.push nxd
  have s2 : RelS X.K X.mg (cm.push x) (st ++ [.own c [] []]) (upd (upd H1 dx (.own x)) x (.ins C dx [])) := s1.push nxd E2 (fun a m => upd_ne fun z => s1.notCell nxd (z ▸ m)) ⟨_, upd_same⟩ ⟨C, dx, [], h1, upd_same, repO_nil, rfl⟩
  have E12 := E1.trans E2
  unfold makeOM at e
  split at e
  · rename_i hl
    have hcell : (cm.push x).cm[st.length]? = some x := by
      show (cm.cm ++ [x])[st.length]? = some x
      rw [← s.len, List.getElem?_append_right (Nat.le_refl _)]; simp
    cases q : g (.cell st.length :: l) (st ++ [.own c [] []]) with
    | none => rw [q] at e; cases e
    | some pr =>
      obtain ⟨r1, st1⟩ := pr
      rw [q] at e
      refine ⟨by rw [List.length_cons, hx.length]; exact hl, cm.push x, _, _, r1, st1, s2, .cons (.cell hcell) (hx.ext E12), q, ?_⟩
      cases r1 with
      | exc c' f' v => cases e
      | val v =>
        intro cm3 H3 x3 s3 y hy
        cases v with
        | non =>
          cases hy
          refine ⟨rfl, ?_⟩
          simp only at e
          split at e
          · cases e
            exact o cm3 H3 (E12.trans x3) s3 _ (.cell (x3.at hcell))
          · cases e
        | _ => cases e
  · cases e
end
def mAppO (c f fa fb : Str) (i : Nat) : MS := fun ls st => match ls[i]? with
  | some (some (.cell n)) => (match st[n]? with
    | some (.own c' fs lls) => if c' = c then (match lls.lookup f, fs.lookup fa, fs.lookup fb with
      | some l, some v, some w => if l.length < 16777216 then some (.val (.nx ls), st.set n (.own c fs (putA f (l ++ [.tup [v, w]]) lls))) else none
      | _, _, _ => none) else none
    | _ => none)
  | _ => none
section
variable {X : Cx} {W : WX} {c f fa fb x : Str} {p0 p1 p2 p3 p4 p5 p6 p7 pos cpos tp : Pos}
theorem pureL_one {l : List IV} {v w : IV} (h : pureL l = true) (hv : v.pure = true) (hw : w.pure = true) : pureL (l ++ [.tup [v, w]]) = true := by
  induction l with
  | nil => simp [pureL, IV.pure, hv, hw]
  | cons a l ih =>
    simp only [pureL, Bool.and_eq_true] at h
    simp only [List.cons_append, pureL, Bool.and_eq_true]
    exact ⟨h.1, ih h.2⟩
theorem s_appO (i : Nat) (c : Str) {x1} (hf : FldOk X.K X.mg c f) (ha : FldOk X.K X.mg c fa) (hb : FldOk X.K X.mg c fb) (hN : X.N[i]? = some x := by rfl) (hv : Vis X.env.scope x := by first | exact Or.inl rfl | exact Or.inr (Or.inl rfl) | exact Or.inr (Or.inr rfl))
    (hd : (x == ("__debug__" : Str)) = false := by decide) (hcd : (x == ("__classdict__" : Str)) = false := by decide)
    (b1 : attributeBase (.Name x p0) f X.env (eval (.Name x p0) X.env) = eval (.Name x p0) X.env := by rfl) (b2 : attributeBase (.Name x p3) fa X.env (eval (.Name x p3) X.env) = eval (.Name x p3) X.env := by rfl) (b3 : attributeBase (.Name x p5) fb X.env (eval (.Name x p5) X.env) = eval (.Name x p5) X.env := by rfl)
    (h3 : starEach [.Attribute (.Name x p5) fb p6] X.env = (false, eval (.Attribute (.Name x p5) fb p6) X.env) :: starEach [] X.env := by rfl)
    (h2 : starEach [.Attribute (.Name x p3) fa p4, .Attribute (.Name x p5) fb p6] X.env = (false, eval (.Attribute (.Name x p3) fa p4) X.env) :: starEach [.Attribute (.Name x p5) fb p6] X.env := by rfl)
    (h1 : starEach [.Tuple [.Attribute (.Name x p3) fa p4, .Attribute (.Name x p5) fb p6] x1 tp] X.env = (false, eval (.Tuple [.Attribute (.Name x p3) fa p4, .Attribute (.Name x p5) fb p6] x1 tp) X.env) :: starEach [] X.env := by rfl)
    (hbase : attributeBase (.Attribute (.Name x p0) f p1) "append" X.env (eval (.Attribute (.Name x p0) f p1) X.env) = eval (.Attribute (.Name x p0) f p1) X.env := by rfl)
    (hfew : ((backTo cpos (starEach [.Tuple [.Attribute (.Name x p3) fa p4, .Attribute (.Name x p5) fb p6] x1 tp] X.env)).all (fun x => !x.1) && (backToKw cpos (keywordEach [] X.env)).all (fun x => x.1.isSome)
      && decide ([Expr.Tuple [.Attribute (.Name x p3) fa p4, .Attribute (.Name x p5) fb p6] x1 tp].length + ([] : List Keyword).length + (if ([] : List Keyword).isEmpty then 0 else 1) < 30)) = true := by rfl)
    (hline : (p2.endLine == cpos.line) = true := by rfl) (hplain : (backTo cpos (starEach [] X.env)).any (·.1) = false := by rfl)
    (hs : swapsWith (.Call (.Attribute (.Attribute (.Name x p0) f p1) "append" p2) [.Tuple [.Attribute (.Name x p3) fa p4, .Attribute (.Name x p5) fb p6] x1 tp] [] cpos) none pos.line X.env = pure false := by rfl) :
    PS' X W (.Expr (.Call (.Attribute (.Attribute (.Name x p0) f p1) "append" p2) [.Tuple [.Attribute (.Name x p3) fa p4, .Attribute (.Name x p5) fb p6] x1 tp] [] cpos) pos) (mAppO c f fa fb i) := by
  refine PS_imp (ps_expr (pe_bm PySem.F.plainAttrs_list PySem.F.slot_list_append PySem.F.type_list_append mt_append (pe_fld (pe_var hN hv hd hcd) b1) (pa_cons (pe_tup (pa_cons (pe_fld (pe_var hN hv hd hcd) b2) (pa_cons (pe_fld (pe_var hN hv hd hcd) b3) pa_nil h3) h2)) pa_nil h1) hbase hfew hline h1 hplain) hs) fun D σ H h => ?_
  obtain ⟨cm, ls, st, fl, st', R, e, o⟩ := h
  unfold mAppO at e
  split at e
  · rename_i n q
    split at e
    · rename_i c' fs lls q0
      split at e
      · rename_i hc
        subst hc
        split at e
        · rename_i l v w ql qv qw
          split at e
          · rename_i hlen
            cases e
            obtain ⟨y0, hσ, hx⟩ := R.loc.at' i _ q
            cases hx with
            | @cell p _ hn =>
              obtain ⟨C, dx, fs', hm, g1, g2, g3⟩ := R.sto.at' n p _ hn q0
              obtain ⟨b, xs, z1, z2, z3, z4, z5⟩ := g2.ol f l ql
              obtain ⟨y, y1, y2⟩ := g2.fl fa v qv
              obtain ⟨u, u1, u2⟩ := g2.fl fb w qw
              refine ⟨.ref p, hσ, p, C, dx, fs', .ref b, rfl, g1, (hf C hm).1, (hf C hm).2, z1, .inl ⟨rfl, xs, SqL.of z3⟩, .ref p, hσ, p, C, dx, fs', y, rfl, g1, (ha C hm).1, (ha C hm).2, y1, .ref p, hσ, p, C, dx, fs', u, rfl, g1, (hb C hm).1, (hb C hm).2, u1, by show 2 ≤ sizeLine; decide, fun t ht => ?_⟩
              have E1 : Ext cm H cm (upd H t (.tup [y, u])) := Ext.new' ht
              have s1 := R.sto.new (o := .tup [y, u]) ht
              have tb : b ≠ t := fun z => by rw [z, ht] at z3; cases z3
              have tp : p ≠ t := fun z => by rw [z, ht] at g1; cases g1
              have g2' := g2.ext E1 fun b' hb' => upd_ne fun z => R.sto.notCell ht (z ▸ Wd.ino hb')
              have E2 : Ext cm (upd H t (.tup [y, u])) cm (upd (upd H t (.tup [y, u])) b (.lst (xs ++ [.ref t]))) := Ext.setO (Wd.ino z2)
              have rt : Rep X.K X.mg cm (upd H t (.tup [y, u])) (.ref t) (.tup [v, w]) := .tup (.inl ⟨.inl upd_same, R.sto.notAv ht⟩) (.cons (y2.ext E1) (.cons (u2.ext E1) .nil))
              have ne : p ≠ b := fun z => R.sto.onc _ _ z2 (z ▸ List.mem_of_getElem? hn)
              have s2 := s1.setO hn z2 (o := .lst (xs ++ [.ref t])) (c := .own c' fs (putA f (l ++ [.tup [v, w]]) lls)) ⟨C, dx, fs', hm, (upd_ne ne).trans ((upd_ne tp).trans g1), g2'.lst ql z1 z2 (((z4.ext E1).app (.cons rt .nil)).ext E2) (pureL_one z5 (pure_of g3 qv) (pure_of g3 qw)) E2, g3⟩
              exact ⟨b, xs, .ref t, rfl, rfl, (upd_ne tb).trans z3, by rw [z4.length]; exact hlen, o cm _ (E1.trans E2) s2 σ (R.loc.ext (E1.trans E2))⟩
          · cases e
        · cases e
      · cases e
    · cases e
  · cases e
end
end MK
end
section
set_option maxHeartbeats 2000000
namespace MK
open PySem PySem.Spec PyProof.Rows L2
section
variable {P : Program} {w : World} {A : Around} {E : Value → Shared → Prop} {s : Shared} {K : PySem.W.Frag} {x y C : Addr} {ox oy : Obj} {od od' : Option Obj}
theorem objeq_one {Q : Value → Shared → Prop} (X : K.In s.heap) (I : PySem.W.InstAt s.heap x ox C od) (hm : PySem.W.mroIn K C (.type "object") = some true) (q : Q (.bool true) s) : wpAny (model P w) A (call (.builtin "object.__eq__") [.ref x, .ref x]) Q E s :=
  wpAny_call (codeAny_call_builtin F.cmp_object.eq.plain F.cmpEntry_eq (PySem.W.check_slot
    F.cmpKind_eq F.cmpSplit_eq (I.type.andThen (PySem.W.looks_mroIn X hm))
    (F.cmpArgs_eq _ _) (objEq_entry_same q)))
theorem objeq_two {Q : Value → Shared → Prop} (X : K.In s.heap) (I : PySem.W.InstAt s.heap x ox C od) (J : PySem.W.InstAt s.heap y oy C od') (ne : x ≠ y) (hm : PySem.W.mroIn K C (.type "object") = some true) (q : Q .notImplemented s) : wpAny (model P w) A (call (.builtin "object.__eq__") [.ref x, .ref y]) Q E s :=
  wpAny_call (codeAny_call_builtin F.cmp_object.eq.plain F.cmpEntry_eq (PySem.W.check_slot
    F.cmpKind_eq F.cmpSplit_eq (I.type.andThen (PySem.W.looks_mroIn X hm))
    (F.cmpArgs_eq _ _) (objEq_entry_other ne I.at_ J.at_ (by rw [I.cls]; exact fun z => by cases z) q)))
theorem cmp_id (hu : A.units < cLine) (X : K.In s.heap) (I : PySem.W.InstAt s.heap x ox C od) (J : PySem.W.InstAt s.heap y oy C od') (hm : PySem.W.mroIn K C (.type "object") = some true)
    (hs : PySem.W.findIn K (.ref C) "__eq__" = some (some (.builtin "object.__eq__"))) {Q : Value → Shared → Prop} (q : Q (.bool (decide (x = y))) s) : wpAny (model P w) A (richCompare .Eq (.ref x) (.ref y)) Q E s := by
  simp only [richCompare, cmpInfo_Eq, oneThing_ref]
  refine wpAny_holding (wpAny_bind (wpAny_cRoomFor hu (wpAny_bind (I.type.here (wpAny_bind (J.type.here ?_))))))
  rw [if_neg (by simp)]
  refine wpAny_bind (wpAny_pure ?_)
  simp only [Bool.false_eq_true, if_false, Bool.not_false, if_true]
  by_cases e : x = y
  · subst e
    have one : wpAny (model P w) A (tryCompare (.ref x) "__eq__" (.ref x)) (fun r s' => r = some (.bool true) ∧ s' = s) E s := by
      unfold tryCompare
      exact wpAny_bind (HN.ifBound_objEq X I hs (objeq_one X I hm (wpAny_pure ⟨rfl, rfl⟩)))
    refine wpAny_bind (wpAny_mono one (fun r s1 z => ?_) fun _ _ e => e)
    obtain ⟨rfl, rfl⟩ := z
    rw [decide_eq_true rfl] at q
    exact wpAny_pure q
  · have one : ∀ {a b : Addr} {oa ob : Obj} {d d' : Option Obj}, PySem.W.InstAt s.heap a oa C d → PySem.W.InstAt s.heap b ob C d' → a ≠ b → wpAny (model P w) A (tryCompare (.ref a) "__eq__" (.ref b)) (fun r s' => r = none ∧ s' = s) E s := fun I J ne => by
      unfold tryCompare
      exact wpAny_bind (HN.ifBound_objEq X I hs (objeq_two X I J ne hm (wpAny_pure ⟨rfl, rfl⟩)))
    refine wpAny_bind (wpAny_mono (one I J e) (fun r s1 z => ?_) fun _ _ e => e)
    obtain ⟨rfl, rfl⟩ := z
    refine wpAny_bind (wpAny_mono (one J I (Ne.symm e)) (fun r s2 z => ?_) fun _ _ e => e)
    obtain ⟨rfl, rfl⟩ := z
    rw [decide_eq_false e] at q
    refine wpAny_bind (wpAny_rule (wpAny_bind ?_))
    exact wpAny_isSame_ref_other e I.at_ J.at_ (by rw [I.cls]; exact fun z => by cases z) (wpAny_pure q)
end
structure IdOk (K : PySem.W.Frag) (mg : Str → Option Value) (c : Str) : Prop where
  ex : ∃ C, mg c = some (.ref C) ∧ PySem.W.findIn K (.ref C) "__eq__" = some (some (.builtin "object.__eq__")) ∧ PySem.W.mroIn K C (.type "object") = some true
theorem IdOk.of {K : PySem.W.Frag} {h : Heap} {mg : Str → Option Value} {c : Str} {C : Addr} (X : K.In h) (G : h.Ns mainGlobals mg) (aC : PySem.W.nsIn K mainGlobals c = some (some (.ref C)))
    (n : PySem.W.findIn K (.ref C) "__eq__" = some (some (.builtin "object.__eq__"))) (m : PySem.W.mroIn K C (.type "object") = some true) : IdOk K mg c := ⟨⟨C, PySem.W.mg_of X G aC, n, m⟩⟩
def cellO (st : Sto) (c : Str) : IV → Option Nat
  | .cell n => match st[n]? with
    | some (.own c' _ _) => if c' = c then some n else none
    | _ => none
  | _ => none
def eqIdI (c : Str) (st : Sto) (a b : IV) : Option IV := match cellO st c a, cellO st c b with
  | some n, some m => some (.bl (decide (n = m)))
  | _, _ => none
def rEqId (K : PySem.W.Frag) (mg : Str → Option Value) (c : Str) : R2 := fun x y H Q => ∃ a b C dx fs dy gs, x = .ref a ∧ y = .ref b ∧ mg c = some (.ref C) ∧ H a = some (.ins C dx fs) ∧ H b = some (.ins C dy gs) ∧ Q (.bl (decide (a = b))) H
section
variable {X : Cx} {W : WX} {a b e : Expr} {fa fb : ME} {c : Str} {pos : Pos}
theorem op_eqId (N : IdOk X.K X.mg c) (hu : X.A.units < cLine) : OpR X (compareOp .Eq) (rEqId X.K X.mg c) := by
  intro pins s σ H x y v u Q I rx ry h
  obtain ⟨a, b, C, dx, fs, dy, gs, rfl, rfl, hC, h1, h2, q⟩ := h
  cases (show v = Value.ref a from rx)
  cases (show u = Value.ref b from ry)
  obtain ⟨C', e1, e2, e3⟩ := N.ex
  rw [hC] at e1
  cases e1
  obtain ⟨mA, O, _⟩ := ins_get I.hok h1
  obtain ⟨od, J, _⟩ := O.look
  obtain ⟨mB, O', _⟩ := ins_get I.hok h2
  obtain ⟨od', J', _⟩ := O'.look
  exact cmp_id hu I.kIn J J' e3 e2 ⟨.bl (decide (a = b)), H, I, rfl, q⟩
theorem v_eqId {K : PySem.W.Frag} {mg : Str → Option Value} : OpV K mg (rEqId K mg c) (eqIdI c) := by
  intro cm st H x y a b v Q s hx hy e out
  have one : ∀ {x : V} {a : IV} {n : Nat}, Rep K mg cm H x a → cellO st c a = some n → ∃ p C dx fs, x = .ref p ∧ cm.cm[n]? = some p ∧ mg c = some (.ref C) ∧ H p = some (.ins C dx fs) := fun {x a n} hx e0 => by
    clear e
    unfold cellO at e0
    split at e0
    · rename_i m
      split at e0
      · rename_i c' fs lls q
        split at e0
        · rename_i hc
          subst hc
          cases e0
          cases hx with
          | @cell p _ hn =>
            obtain ⟨C, dx, fs', hm, g1, _⟩ := s.at' _ p _ hn q
            exact ⟨p, C, dx, fs', rfl, hn, hm, g1⟩
        · cases e0
      · cases e0
    · cases e0
  unfold eqIdI at e
  split at e
  · rename_i n m q1 q2
    cases e
    obtain ⟨p, C, dx, fs, rfl, h1, h2, h3⟩ := one hx q1
    obtain ⟨p', C', dx', fs', rfl, h1', h2', h3'⟩ := one hy q2
    rw [h2] at h2'
    cases h2'
    refine ⟨p, p', C, dx, fs, dx', fs', rfl, rfl, h2, h3, h3', ?_⟩
    have e : decide (p = p') = decide (n = m) := by
      rw [Bool.eq_iff_iff, decide_eq_true_eq, decide_eq_true_eq]
      constructor
      · rintro rfl
        obtain ⟨i1, e1⟩ := List.getElem?_eq_some_iff.mp h1
        obtain ⟨i2, e2⟩ := List.getElem?_eq_some_iff.mp h1'
        exact (List.getElem_inj s.nd).mp (e1.trans e2.symm)
      · rintro rfl
        rw [h1] at h1'
        cases h1'
        rfl
    rw [e]
    exact out _ _ _ (Ext.refl _ _) s (.bl _)
  · cases e
theorem c_eqId (N : IdOk X.K X.mg c) (hu : X.A.units + 64 < cLine) : CmpV X .Eq (eqIdI c) := ⟨⟨_, op_eqId N (by omega), v_eqId⟩, .inr trivial⟩
end
end MK
end
namespace MK
open PySem L2
section
variable {st : Sto} {E : EX} {ls : Loc} {Q : IV → Sto → Prop} {QF : Fl → Sto → Prop} {m fo : ME} {ga : MA} {c f fa fb : Str} {g : MF}
theorem we_fldO (h : we (m ls) st E fun v st1 => ∃ n fs lls w, v = .cell n ∧ st1[n]? = some (.own c fs lls) ∧ fs.lookup f = some w ∧ Q w st1) : we (mFldO c f m ls) st E Q :=
  we_bind (we_mono h fun v st1 ⟨n, fs, lls, w, ev, e1, e2, q⟩ => by
    subst ev
    exact ⟨.val w, st1, by unfold fldOM; simp only [e1, e2, if_true], q⟩)
theorem we_lenF (h : we (m ls) st E fun v st1 => ∃ n fs lls l, v = .cell n ∧ st1[n]? = some (.own c fs lls) ∧ lls.lookup f = some l ∧ Q (.int l.length) st1) : we (mLenF c f m ls) st E Q :=
  we_bind (we_mono h fun v st1 ⟨n, fs, lls, l, ev, e1, e2, q⟩ => by
    subst ev
    exact ⟨.val (.int l.length), st1, by unfold lenOwnM; simp only [e1, e2, if_true], q⟩)
theorem we_popO (h : we (m ls) st E fun v st1 => ∃ n fs lls l w, v = .cell n ∧ st1[n]? = some (.own c fs lls) ∧ lls.lookup f = some l ∧ l[l.length - 1]? = some w ∧ Q w (st1.set n (.own c fs (putA f l.dropLast lls)))) : we (mPopO c f m ls) st E Q :=
  we_bind (we_mono h fun v st1 ⟨n, fs, lls, l, w, ev, e1, e2, e3, q⟩ => by
    subst ev
    exact ⟨.val w, _, by unfold popOM; simp only [e1, e2, e3, if_true], q⟩)
theorem we_putO (h : we (m ls) st (fun c f v st1 => QF (.ex ls c f v) st1) fun v st1 => we (fo ls) st1 (fun c f v st1 => QF (.ex ls c f v) st1) fun a st2 =>
    ∃ n fs lls, a = .cell n ∧ st2[n]? = some (.own c fs lls) ∧ v.pure = true ∧ fs.length + lls.length < 1000 ∧ lls.lookup f = none ∧ QF (.nx ls) (st2.set n (.own c (putI f v fs) lls))) : we (mPutO c f fo m ls) st E QF :=
  we_lift (we_bind (we_mono h fun v st1 h1 => we_bind (we_mono h1 fun a st2 ⟨n, fs, lls, ea, e1, p, z, e2, q⟩ => by
    subst ea
    exact ⟨.val (), _, by unfold putOM; simp only [e1, p, z, e2, and_self, if_true], ⟨_, _, rfl, q⟩⟩)))
theorem we_newO (h : we (fo ls) st (fun c f v st1 => QF (.ex ls c f v) st1) fun a st2 =>
    ∃ n fs lls, a = .cell n ∧ st2[n]? = some (.own c fs lls) ∧ fs.length + lls.length < 1000 ∧ fs.lookup f = none ∧ QF (.nx ls) (st2.set n (.own c fs (putA f [] lls)))) : we (mNewO c f fo ls) st E QF :=
  we_lift (we_bind (we_mono h fun a st2 ⟨n, fs, lls, ea, e1, z, e2, q⟩ => by
    subst ea
    exact ⟨.val (), _, by unfold newOM; simp only [e1, z, e2, and_self, if_true], ⟨_, _, rfl, q⟩⟩))
theorem we_appO {i n : Nat} {fs : List (Str × IV)} {lls : List (Str × List IV)} {l : List IV} {v w : IV} (h : ls[i]? = some (some (.cell n))) (e1 : st[n]? = some (.own c fs lls)) (e2 : lls.lookup f = some l) (e3 : fs.lookup fa = some v) (e4 : fs.lookup fb = some w) (z : l.length < 16777216)
    (q : QF (.nx ls) (st.set n (.own c fs (putA f (l ++ [.tup [v, w]]) lls)))) : we (mAppO c f fa fb i ls) st E QF :=
  ⟨.val (.nx ls), _, by unfold mAppO; simp only [h, e1, e2, e3, e4, z, if_true], q⟩
theorem we_meth {k : Nat} (h : we (fo ls) st E fun v st1 => ∃ n fs lls, v = .cell n ∧ st1[n]? = some (.own c fs lls) ∧ fs.lookup f = none ∧ lls.lookup f = none ∧ we (ga ls) st1 E fun l st2 => l.length + 1 = k ∧ we (g (.cell n :: l)) st2 E Q) : we (mMeth c f k g fo ga ls) st E Q :=
  we_bind (we_mono h fun v st1 ⟨n, fs, lls, ev, e1, e2, e3, h1⟩ => by
    subst ev
    refine we_bind ⟨.val (.cell n), st1, by unfold chkM; simp only [e1, e2, e3, and_self, if_true], ?_⟩
    exact we_bind (we_mono h1 fun l st2 ⟨hl, h2⟩ => by rw [if_pos hl]; exact h2))
theorem we_makeO {k : Nat} (h : we (ga ls) st E fun l st1 => l.length + 1 = k ∧ we (g (.cell st1.length :: l)) (st1 ++ [.own c [] []]) noX fun v st2 => v = .non ∧ st2.length = st1.length + 1 ∧ Q (.cell st1.length) st2) : we (mMakeO c k g ga ls) st E Q :=
  we_bind (we_mono h fun l st1 ⟨hl, h2⟩ => by
    obtain ⟨r, st2, e, q⟩ := h2
    cases r with
    | exc c f v => exact q.elim
    | val v =>
      obtain ⟨rfl, hs, q⟩ := q
      exact ⟨.val (.cell st1.length), st2, by unfold makeOM; rw [if_pos hl, e]; simp only [hs, if_true], q⟩)
theorem o_eqId {n k : Nat} {fs fs' : List (Str × IV)} {lls lls' : List (Str × List IV)} {Q : IV → Prop} (e1 : st[n]? = some (.own c fs lls)) (e2 : st[k]? = some (.own c fs' lls')) (q : Q (.bl (decide (n = k)))) : ∃ v, eqIdI c st (.cell n) (.cell k) = some v ∧ Q v :=
  ⟨_, by unfold eqIdI cellO; simp only [e1, e2, if_true], q⟩
instance i_we_fldO : Rule (we (mFldO c f m ls) st E Q) (we (m ls) st E fun v st1 => ∃ n fs lls w, v = .cell n ∧ st1[n]? = some (.own c fs lls) ∧ fs.lookup f = some w ∧ Q w st1) := ⟨we_fldO⟩
instance i_we_lenF : Rule (we (mLenF c f m ls) st E Q) (we (m ls) st E fun v st1 => ∃ n fs lls l, v = .cell n ∧ st1[n]? = some (.own c fs lls) ∧ lls.lookup f = some l ∧ Q (.int l.length) st1) := ⟨we_lenF⟩
instance i_we_popO : Rule (we (mPopO c f m ls) st E Q) (we (m ls) st E fun v st1 => ∃ n fs lls l w, v = .cell n ∧ st1[n]? = some (.own c fs lls) ∧ lls.lookup f = some l ∧ l[l.length - 1]? = some w ∧ Q w (st1.set n (.own c fs (putA f l.dropLast lls)))) := ⟨we_popO⟩
instance i_we_putO : Rule (we (mPutO c f fo m ls) st E QF) (we (m ls) st (fun c f v st1 => QF (.ex ls c f v) st1) fun v st1 => we (fo ls) st1 (fun c f v st1 => QF (.ex ls c f v) st1) fun a st2 =>
    ∃ n fs lls, a = .cell n ∧ st2[n]? = some (.own c fs lls) ∧ v.pure = true ∧ fs.length + lls.length < 1000 ∧ lls.lookup f = none ∧ QF (.nx ls) (st2.set n (.own c (putI f v fs) lls))) := ⟨we_putO⟩
instance i_we_newO : Rule (we (mNewO c f fo ls) st E QF) (we (fo ls) st (fun c f v st1 => QF (.ex ls c f v) st1) fun a st2 =>
    ∃ n fs lls, a = .cell n ∧ st2[n]? = some (.own c fs lls) ∧ fs.length + lls.length < 1000 ∧ fs.lookup f = none ∧ QF (.nx ls) (st2.set n (.own c fs (putA f [] lls)))) := ⟨we_newO⟩
instance i_we_meth {k : Nat} : Rule (we (mMeth c f k g fo ga ls) st E Q) (we (fo ls) st E fun v st1 => ∃ n fs lls, v = .cell n ∧ st1[n]? = some (.own c fs lls) ∧ fs.lookup f = none ∧ lls.lookup f = none ∧ we (ga ls) st1 E fun l st2 => l.length + 1 = k ∧ we (g (.cell n :: l)) st2 E Q) := ⟨we_meth⟩
end
end MK
namespace MK
open PySem L2
section
variable {X : Cx} {K : PySem.W.Frag} {mg : Str → Option Value}
theorem maxOf_L : ∀ (ns : List Int) (n : Int), PySem.W.maxOf n ns = ns.foldl max n
  | [], _ => rfl
  | a :: l, n => by
    have ih := maxOf_L l
    unfold PySem.W.maxOf at ih ⊢
    rw [List.foldl_cons, List.foldl_cons, ih]
    congr 1
    show (if decide (n < a) = true then a else n) = max n a
    by_cases h : n < a
    · rw [if_pos (decide_eq_true h)]; omega
    · rw [if_neg (by simpa using h)]; omega
def rMaxT (K : PySem.W.Frag) : List V → Hp → VK → Prop := fun vs H Q => ∃ (a : Addr) (n : Int) (ns : List Int), vs = [V.ref a] ∧ SqT K H a ((n :: ns).map V.int) ∧ Q (.int (ns.foldl max n)) H
theorem cr_maxT (hu : X.A.units + 65 < cLine) (hc : X.calm = true) : CallR X (.builtin "max") (rMaxT X.K) := by
  intro pins s σ H vs us Q I r h
  obtain ⟨a, n, ns, rfl, hs, q⟩ := h
  obtain ⟨its, rv, hl, _⟩ := I.tuple hs
  rw [Vals.ref1 r]
  refine PySem.W.max_tuple_datum (x := n) (xs := ns) (I.ok.hd hc) hl (PySem.W.HoldAll.of_ints (by rw [show its.toArray.toList = its from rfl]; exact Vals.ints rv)) (by show X.A.units + 1 + 0 < _; omega) fun i v h' tk hi hv hk => ?_
  have e : ∃ t, v = .int (ns.foldl max n) t := by
    rw [maxOf_L] at hv
    obtain ⟨as, rd⟩ := hv
    cases rd
    exact ⟨_, rfl⟩
  obtain ⟨t, rfl⟩ := e
  exact ⟨.int _, H, I.kept (t' := tk) hk, ⟨_, rfl⟩, q⟩
def maxTI (_ : Sto) (a : IV) : Option IV := match a with
  | .tup l => ((intsOf l).bind maxL).map .int
  | _ => none
theorem v_maxT : CallV K mg (rMaxT K) (pv1 maxTI) := callV1 fun cm st H x a v Q s hx e k => by
  cases hx with
  | tup h r =>
    rename_i l
    unfold maxTI at e
    cases q : intsOf l with
    | none => simp only [q] at e; cases e
    | some ns =>
      simp only [q] at e
      cases ns with
      | nil => cases e
      | cons n ns =>
        have e' := intsOf_eq q
        subst e'
        have e2 := ints_rep r
        subst e2
        cases e
        exact ⟨_, n, ns, rfl, h.sq, k cm H _ (Ext.refl _ _) s (.int _)⟩
  | _ => cases e
theorem we_maxTI {st : Sto} {E : EX} {Q : IV → Sto → Prop} {ns : List Int} {m : Int} (h : maxL ns = some m) (q : Q (.int m) st) : we (pv1 maxTI [.tup (ns.map .int)]) st E Q :=
  we_pv1 (by unfold maxTI; simp only [intsOf_map, Option.bind_some, h]; rfl) q
end
end MK
section
set_option maxHeartbeats 2000000
namespace MK
open PySem PySem.Spec PyProof.Rows L2
def entO (e : DictEntry) : Option (Str × Int × Str) := match e.key, e.val with
  | .str x _, .str v _ => some (x, e.hash, v)
  | _, _ => none
def dicO (a : Addr) (K : PySem.W.Frag) : Option (List (Option (Str × Int × Str))) := match K.lookup a with
  | some ⟨.type c, none, .dict es _, sl⟩ => if c = "dict" ∧ sl = #[] ∧ (a == sysModules) = false then some (es.toList.map entO) else none
  | _ => none
abbrev TabM : Type := Str × List (Str × Str)
abbrev AlM : Type := Bool × List He.FnW × List (Option (List (Option (Str × Int × Str))))
def obsM (ex : PySem.W.Frag → Bool) (fn : List He.DefD) (ts : List TabM) (K : PySem.W.Frag) : AlM :=
  (ex K && fn.all (fun d => d.ok K), fn.map (fun d => He.fnW K d.at_), ts.map fun t => dicO (He.ga K t.1) K)
def valM (fn : List He.DefD) (ts : List TabM) (w : World) : AlM := (true, fn.map He.DefD.val, ts.map fun t => some (t.2.map fun q => some (q.1, hashStr w q.1, q.2)))
def SaysM (ex : PySem.W.Frag → Bool) (fn : List He.DefD) (ts : List TabM) (w : World) (K : PySem.W.Frag) : Prop := obsM ex fn ts K = valM fn ts w
def hookM (as : List Addr) (ex : PySem.W.Frag → Bool) (fn : List He.DefD) (ts : List TabM) : PySem.W.Hook where
  α := AlM
  obs s := obsM ex fn ts (He.frG s.heap.get? as)
  val w := valM fn ts w
  says w h := ∃ K : PySem.W.Frag, K.In h ∧ SaysM ex fn ts w K
  of := fun _ _ e => Exists.intro _ (And.intro He.frG_in e)
  keeps := fun _ _ _ y k => by
    obtain ⟨K, i, c⟩ := y
    exact ⟨K, i.keeps k, c⟩
def obM (as : List Addr) (ex : PySem.W.Frag → Bool) (fn : List He.DefD) (ts : List TabM) (s : PySem.W.SharedT) : AlM := obsM ex fn ts (He.frG (HandSHeadRun.getT s) as)
theorem obM_eq (as : List Addr) (ex : PySem.W.Frag → Bool) (fn : List He.DefD) (ts : List TabM) (s : PySem.W.SharedT) : obM as ex fn ts s = (hookM as ex fn ts).obs s.abs := by
  have e := funext (HandSHeadRun.getT_eq s)
  unfold obM
  rw [e]
  rfl
section
variable {ex : PySem.W.Frag → Bool} {fn : List He.DefD} {ts : List TabM} {w : World} {K : PySem.W.Frag} {h : Heap} {mg : Str → Option Value}
theorem SaysM.exB (c : SaysM ex fn ts w K) : ex K = true := (He.ba (congrArg (fun z : AlM => z.1) c)).1
theorem SaysM.fnD (c : SaysM ex fn ts w K) (i : Nat) {d : He.DefD} (q : fn[i]? = some d := by rfl) : ∃ fd, FunD K d.name d.qual d.params d.body d.scope (d.dvs K) (d.kws K) (He.fAd K d.at_) fd := by
  have a := (He.ba (congrArg (fun z : AlM => z.1) c)).2
  have b := congrArg (fun l : List He.FnW => l[i]?) (congrArg (fun z : AlM => z.2.1) c)
  simp only [obsM, valM, List.getElem?_map, q, Option.map_some] at b
  exact He.DefD.funD (Option.some.inj b) (List.all_eq_true.mp a d (List.mem_of_getElem? q))
theorem tabE_of {w : World} : ∀ {es : List DictEntry} {t : List (Str × Str)}, es.map entO = t.map (fun q => some (q.1, hashStr w q.1, q.2)) → TabE w es t
  | [], [], _ => .nil
  | [], _ :: _, q => nomatch q
  | _ :: _, [], q => nomatch q
  | ⟨n, k, v⟩ :: es, (a, b) :: t, q => by
    rw [List.map_cons, List.map_cons] at q
    injection q with q1 q2
    have r := tabE_of q2
    unfold entO at q1
    dsimp only at q1
    split at q1
    · cases q1
      exact .cons rfl r
    · cases q1
theorem SaysM.tab (c : SaysM ex fn ts w K) (i : Nat) {t : TabM} (q : ts[i]? = some t := by rfl) (g : mg t.1 = some (.ref (He.ga K t.1))) : DictC w K mg t.1 t.2 := by
  have b := congrArg (fun l : List (Option (List (Option (Str × Int × Str)))) => l[i]?) (congrArg (fun z : AlM => z.2.2) c)
  simp only [obsM, valM, List.getElem?_map, q, Option.map_some] at b
  have b := Option.some.inj b
  unfold dicO at b
  split at b
  · rename_i cl es ep sl hl
    split at b
    · rename_i z
      obtain ⟨rfl, rfl, z3⟩ := z
      exact ⟨_, _, es, ep, g, z3, hl, ⟨rfl, rfl, rfl⟩, rfl, tabE_of (Option.some.inj b)⟩
    · cases b
  · cases b
theorem exAt {l : List (PySem.W.Frag → Bool)} (c : (l.all fun f => f K) = true) (i : Nat) {f : PySem.W.Frag → Bool} (q : l[i]? = some f := by rfl) : f K = true := List.all_eq_true.mp c f (List.mem_of_getElem? q)
abbrev ov (K : PySem.W.Frag) (c : Str) : Value := .ref (He.ga K c)
def frB (x : Str) (K : PySem.W.Frag) : Bool := He.eqO (PySem.W.nsIn K mainGlobals x) (some none)
def glB (x : Str) (K : PySem.W.Frag) : Bool := He.eqO (PySem.W.nsIn K mainGlobals x) (some (some (ov K x)))
def imB (x : Str) (v : Value) (K : PySem.W.Frag) : Bool := He.eqO (PySem.W.nsIn K mainGlobals x) (some (some v))
theorem frB.ok {x : Str} (X : K.In h) (G : h.Ns mainGlobals mg) (c : frB x K = true) : mg x = none := PySem.W.mg_none_of X G (He.eqO_ok c)
theorem glB.ok {x : Str} (X : K.In h) (G : h.Ns mainGlobals mg) (c : glB x K = true) : mg x = some (ov K x) := PySem.W.mg_of X G (He.eqO_ok c)
theorem glB.rf {x : Str} (X : K.In h) (G : h.Ns mainGlobals mg) (c : glB x K = true) : ∃ C, mg x = some (.ref C) := ⟨_, glB.ok X G c⟩
theorem imB.ok {x : Str} {v : Value} (X : K.In h) (G : h.Ns mainGlobals mg) (c : imB x v K = true) : mg x = some v := PySem.W.mg_of X G (He.eqO_ok c)
def itB (x : Str) (i : Int) (K : PySem.W.Frag) : Bool := (He.Fa.int x i).ok K
def stB (x z : Str) (K : PySem.W.Frag) : Bool := (He.Fa.str x z).ok K
theorem itB.ok {x : Str} {i : Int} (X : K.In h) (G : h.Ns mainGlobals mg) (c : itB x i K = true) : ∃ t, mg x = some (.int i t) := He.int_ok X G c
theorem stB.ok {x z : Str} (X : K.In h) (G : h.Ns mainGlobals mg) (c : stB x z K = true) : ∃ t, mg x = some (.str z t) := He.str_ok X G c
def tpB (x : Str) (vs : List V) (K : PySem.W.Frag) : Bool := match K.lookup (He.ga K x) with
  | some ⟨.type c, _, .seq its _, _⟩ => glB x K && (decide (c = "tuple") && (decide (vs.length ≤ 1000) && He.relAll vs its.toList))
  | _ => false
theorem tpB.ok {x : Str} {vs : List V} (X : K.In h) (G : h.Ns mainGlobals mg) (c : tpB x vs K = true) : TupC K mg x vs := by
  unfold tpB at c
  split at c
  · rename_i cl d its n sl hl
    obtain ⟨c1, c2⟩ := He.ba c
    obtain ⟨c2, c3⟩ := He.ba c2
    obtain ⟨c3, c4⟩ := He.ba c3
    cases (of_decide_eq_true c2)
    exact TupC.of X G (He.eqO_ok c1) hl (of_decide_eq_true c3) (He.relAll_ok c4)
  · cases c
theorem fun_ofD {x qual : Str} {st : Stmt} {f : Addr} {fd : FuncData} (F : FunD K x qual (defArgs st) (defBody st) (defScope st) [] [] f fd) : Fun K x qual st f fd := by
  obtain ⟨oc, od, dV, kV, doc, pm, an, cdv, ct, osl, e, lk, cd, dd, kk⟩ := F.ex
  rcases dd with ⟨_, rfl⟩ | ⟨z, _⟩
  · exact ⟨⟨oc, od, kV, doc, pm, an, cdv, ct, osl, e, lk, cd⟩, F.kp⟩
  · exact absurd rfl z
abbrev Bnd (x qual : Str) (st : Stmt) (ps : List Str) : Prop := ∀ (kV dc pm cd ct : Value) (an : Option Addr), BindsAll (PySem.W.fnOf x qual (defArgs st) (defBody st) (defScope st) .none kV dc pm an cd ct) ps
theorem bnd_ofD {x qual : Str} {st : Stmt} {f : Addr} {fd : FuncData} {ps : List Str} (F : FunD K x qual (defArgs st) (defBody st) (defScope st) [] [] f fd) (b : Bnd x qual st ps) : BindsAll fd ps := by
  obtain ⟨oc, od, kV, doc, pm, an, cdv, ct, osl, e, lk, cd⟩ := (fun_ofD F).ex
  subst e
  exact b kV doc pm cdv ct an
abbrev dGl (x : Str) (st : Stmt) : He.DefD := ⟨(x, none), x, x, defArgs st, defBody st, defScope st, [], []⟩
abbrev dMe (c m qual : Str) (st : Stmt) : He.DefD := ⟨(c, some m), m, qual, defArgs st, defBody st, defScope st, [], []⟩
theorem FunOk.ofD {x : Str} {st : Stmt} {ps : List Str} (X : K.In h) (G : h.Ns mainGlobals mg) (c : SaysM ex fn ts w K) (i : Nat) (g : glB x K = true) (b : Bnd x x st ps) (q : fn[i]? = some (dGl x st) := by rfl) : FunOk K mg x st ps := by
  obtain ⟨fd, F⟩ := c.fnD i q
  exact ⟨_, fd, glB.ok X G g, fun_ofD F, bnd_ofD F b⟩
def meB (c m : Str) (K : PySem.W.Frag) : Bool := He.eqO (PySem.W.findIn K (ov K c) m) (some (some (.ref (He.ma K (He.ga K c) m)))) && PySem.W.isFn K (.ref (He.ma K (He.ga K c) m))
theorem MetFun.ofD {cl m qual : Str} {st : Stmt} {ps : List Str} (X : K.In h) (G : h.Ns mainGlobals mg) (c : SaysM ex fn ts w K) (i : Nat) (g : glB cl K = true) (f : meB cl m K = true) (b : Bnd m qual st ps) (q : fn[i]? = some (dMe cl m qual st) := by rfl) : MetFun K mg cl m qual st ps := by
  obtain ⟨fd, F⟩ := c.fnD i q
  obtain ⟨f1, f2⟩ := He.ba f
  exact ⟨_, _, fd, glB.ok X G g, He.eqO_ok f1, f2, fun_ofD F, bnd_ofD F b⟩
def mkB (c : Str) (K : PySem.W.Frag) : Bool := meB c "__init__" K && (PySem.W.makesIn K (He.ga K c) && PySem.W.keepIn K (ov K c))
theorem ClsFun.ofD {cl qual : Str} {st : Stmt} {ps : List Str} (X : K.In h) (G : h.Ns mainGlobals mg) (c : SaysM ex fn ts w K) (i : Nat) (g : glB cl K = true) (f : mkB cl K = true) (b : Bnd "__init__" qual st ps) (q : fn[i]? = some (dMe cl "__init__" qual st) := by rfl) : ClsFun K mg cl qual st ps := by
  obtain ⟨fd, F⟩ := c.fnD i q
  obtain ⟨f1, f2⟩ := He.ba f
  obtain ⟨f3, f4⟩ := He.ba f1
  obtain ⟨f5, f6⟩ := He.ba f2
  exact ⟨_, _, fd, glB.ok X G g, ⟨f5, He.eqO_ok f3, f4, f6⟩, fun_ofD F, bnd_ofD F b⟩
def xlB (C : Addr) (K : PySem.W.Frag) : Bool := match K.lookup C with
  | some ⟨.type y, _, .cls cd, sl⟩ => (match cd.mro, sl.toList with
    | .ref D :: bm, [_, _, _, _, some (.builtin n), _] => decide (y = "type" ∧ D = C ∧ n = "ValueError.__new__" ∧ cd.hasDel = false ∧ cd.hasDict = true) && PySem.HandSPX.refsVE bm
    | _, _ => false)
  | _ => false
theorem xlB.ok {C : Addr} (c : xlB C K = true) : ∃ (nm q : Str) (N : Addr) (bs bm : List Value) (sn : List Str) (sub : List Value) (ab : Bool) (col : Option Bool) (dd : Option Addr) (m0 m1 m2 m3 m5 : Option Value),
    K.lookup C = some (excClassObj nm q C N bs bm true sn sub ab col dd m0 m1 m2 m3 m5 "ValueError.__new__") ∧ PySem.HandSPX.refsVE bm = true := by
  unfold xlB at c
  split at c
  · rename_i y dd cd sl hl
    split at c
    · rename_i D bm m0 m1 m2 m3 n m5 hm hs
      obtain ⟨c1, c2⟩ := He.ba c
      obtain ⟨rfl, rfl, rfl, e4, e5⟩ := of_decide_eq_true c1
      obtain ⟨nm, bs, mro, ns, qn, hd, sn, sub, ab, col, del⟩ := cd
      dsimp only at hm e4 e5
      subst hm e4 e5
      obtain ⟨l⟩ := sl
      have hs : l = _ := hs
      subst hs
      exact ⟨nm, qn, ns, bs, bm, sn, sub, ab, col, dd, m0, m1, m2, m3, m5, hl, c2⟩
    · cases c
  · cases c
def xcB (c f : Str) (K : PySem.W.Frag) : Bool := xlB (He.ga K c) K && (He.eqO (PySem.W.findIn K (ov K c) "__setattr__") (some (some (.builtin "object.__setattr__"))) && (He.eqO (PySem.W.findIn K (ov K c) "__getattribute__") (some (some (.builtin "BaseException.__getattribute__"))) &&
  (He.eqO (PySem.W.findIn K (ov K c) "__getattr__") (some none) && (He.eqO (PySem.W.findIn K (ov K c) f) (some none) && (meB c "__init__" K && (PySem.W.keepIn K (ov K c) && (decide (PySem.W.subIn K (ov K c) (.type "BaseException") = some true) &&
  (decide (PySem.W.typeIn K (ov K c) = some (.type "type")) && PySem.W.hasDictIn K (He.ga K c)))))))))
theorem ExcFun.ofD {cl f qual : Str} {st : Stmt} {ps : List Str} (X : K.In h) (G : h.Ns mainGlobals mg) (c : SaysM ex fn ts w K) (i : Nat) (g : glB cl K = true) (q : xcB cl f K = true) (b : Bnd "__init__" qual st ps) (e : fn[i]? = some (dMe cl "__init__" qual st) := by rfl) : ExcFun K mg cl f qual st ps := by
  obtain ⟨fd, F⟩ := c.fnD i e
  obtain ⟨q1, q⟩ := He.ba q
  obtain ⟨q2, q⟩ := He.ba q
  obtain ⟨q3, q⟩ := He.ba q
  obtain ⟨q4, q⟩ := He.ba q
  obtain ⟨q5, q⟩ := He.ba q
  obtain ⟨q6, q⟩ := He.ba q
  obtain ⟨q7, q⟩ := He.ba q
  obtain ⟨q8, q⟩ := He.ba q
  obtain ⟨q9, q10⟩ := He.ba q
  obtain ⟨q6a, q6b⟩ := He.ba q6
  obtain ⟨nm, q, N, bs, bm, sn, sub, ab, col, dd, m0, m1, m2, m3, m5, xL, rv⟩ := xlB.ok q1
  have tf : PySem.W.typeIn K (.ref (He.ma K (He.ga K cl) "__init__")) = some (.type "function") := by
    have z : (PySem.W.typeIn K (.ref (He.ma K (He.ga K cl) "__init__")) == some (.type "function")) = true := q6b
    exact eq_of_beq z
  exact ⟨_, _, fd, glB.ok X G g, ⟨⟨nm, q, N, bs, bm, sn, sub, ab, col, dd, m0, m1, m2, m3, m5, xL, rv⟩, He.eqO_ok q2, of_decide_eq_true q8, of_decide_eq_true q9, q7⟩, He.eqO_ok q5, He.eqO_ok q6a, tf, ⟨⟨He.eqO_ok q3, He.eqO_ok q4, of_decide_eq_true q8, q10⟩, He.eqO_ok q5⟩, fun_ofD F, bnd_ofD F b⟩
def sbB (c x : Str) (b : Bool) (K : PySem.W.Frag) : Bool := decide (PySem.W.subIn K (ov K x) (.type "BaseException") = some true) && (PySem.W.isClsIn K (He.ga K x) && (decide (PySem.W.typeIn K (ov K x) = some (.type "type")) && decide (PySem.W.subIn K (ov K c) (ov K x) = some b)))
theorem sbB.ok {c x : Str} {b : Bool} (X : K.In h) (G : h.Ns mainGlobals mg) (g1 : glB c K = true) (g2 : glB x K = true) (q : sbB c x b K = true) : SubRow K mg (c, x, b) := by
  obtain ⟨q1, q⟩ := He.ba q
  obtain ⟨q2, q⟩ := He.ba q
  obtain ⟨q3, q4⟩ := He.ba q
  exact SubRow.of X G (He.eqO_ok g1) (He.eqO_ok g2) (of_decide_eq_true q1) q2 (of_decide_eq_true q3) (of_decide_eq_true q4)
def rwB (l : List (Str × Str × Bool)) (K : PySem.W.Frag) : Bool := l.all fun t => glB t.1 K && (glB t.2.1 K && sbB t.1 t.2.1 t.2.2 K)
theorem rwB.ok {l : List (Str × Str × Bool)} (X : K.In h) (G : h.Ns mainGlobals mg) (q : rwB l K = true) : SubOk K mg (subT l) := subOk_of fun t ht => by
  obtain ⟨q1, q2⟩ := He.ba (List.all_eq_true.mp q t ht)
  obtain ⟨q2, q3⟩ := He.ba q2
  exact sbB.ok X G q1 q2 q3
def ecB (c : Str) (K : PySem.W.Frag) : Bool := glB c K && (He.eqO (PySem.W.findIn K (ov K c) "__getattribute__") (some (some (.builtin "BaseException.__getattribute__"))) && (He.eqO (PySem.W.findIn K (ov K c) "__getattr__") (some none) && (decide (PySem.W.subIn K (ov K c) (.type "BaseException") = some true) &&
  (PySem.W.hasDictIn K (He.ga K c) && (He.eqO (PySem.W.findIn K (ov K c) "__class__") (some (some (.builtin "object.__class__"))) && (He.eqO (PySem.W.specialIn K (.builtin "object.__class__") "__get__") (some (some (.builtin "getset_descriptor.__get__"))) &&
  (decide (PySem.W.takesIn K (.builtin "object.__class__") = some true) && decide (PySem.W.mroIn K (He.ga K c) (.type "object") = some true))))))))
theorem ecB.ok {c : Str} (X : K.In h) (G : h.Ns mainGlobals mg) (q : ecB c K = true) : ErrC K mg c := by
  obtain ⟨q1, q⟩ := He.ba q
  obtain ⟨q2, q⟩ := He.ba q
  obtain ⟨q3, q⟩ := He.ba q
  obtain ⟨q4, q⟩ := He.ba q
  obtain ⟨q5, q⟩ := He.ba q
  obtain ⟨q6, q⟩ := He.ba q
  obtain ⟨q7, q⟩ := He.ba q
  obtain ⟨q8, q9⟩ := He.ba q
  exact ErrC.of X G (He.eqO_ok q1) (He.eqO_ok q2) (He.eqO_ok q3) (of_decide_eq_true q4) q5 (He.eqO_ok q6) (He.eqO_ok q7) (of_decide_eq_true q8) (of_decide_eq_true q9)
def owB (c : Str) (K : PySem.W.Frag) : Bool := PySem.W.plainGet K (He.ga K c) Str.empty && (PySem.W.hasDictIn K (He.ga K c) && (PySem.W.plainOver K (He.ga K c) && (He.eqO (PySem.W.findIn K (ov K c) "__setattr__") (some (some (.builtin "object.__setattr__"))) &&
  (He.eqO (PySem.W.findIn K (ov K c) "__class__") (some (some (.builtin "object.__class__"))) && (He.eqO (PySem.W.specialIn K (.builtin "object.__class__") "__get__") (some (some (.builtin "getset_descriptor.__get__"))) &&
  (decide (PySem.W.takesIn K (.builtin "object.__class__") = some true) && (decide (PySem.W.mroIn K (He.ga K c) (.type "object") = some true) && (PySem.W.isClsIn K (He.ga K c) && decide (PySem.W.typeIn K (ov K c) = some (.type "type"))))))))))
theorem owB.ok {c : Str} (X : K.In h) (G : h.Ns mainGlobals mg) (g : glB c K = true) (q : owB c K = true) : Own K mg c (He.ga K c) := by
  obtain ⟨q1, q⟩ := He.ba q
  obtain ⟨q2, q⟩ := He.ba q
  obtain ⟨q3, q⟩ := He.ba q
  obtain ⟨q4, q⟩ := He.ba q
  obtain ⟨q5, q⟩ := He.ba q
  obtain ⟨q6, q⟩ := He.ba q
  obtain ⟨q7, q⟩ := He.ba q
  obtain ⟨q8, q⟩ := He.ba q
  obtain ⟨q9, q10⟩ := He.ba q
  exact Own.of X G (He.eqO_ok g) q1 q2 q3 (He.eqO_ok q4) (He.eqO_ok q5) (He.eqO_ok q6) (of_decide_eq_true q7) (of_decide_eq_true q8) q9 (of_decide_eq_true q10)
def ioB (c : Str) (K : PySem.W.Frag) : Bool := ["NoneType", "bool", "int", "str", "tuple", "list"].all fun t => decide (PySem.W.subIn K (.type t) (ov K c) = some false)
theorem ioB.ok {c : Str} (o : Own K mg c (He.ga K c)) (q : ioB c K = true) : IsOk K mg c [] := by
  have z := List.all_eq_true.mp q
  exact IsOk.of o (of_decide_eq_true (z "NoneType" (by simp))) (of_decide_eq_true (z "bool" (by simp))) (of_decide_eq_true (z "int" (by simp))) (of_decide_eq_true (z "str" (by simp))) (of_decide_eq_true (z "tuple" (by simp))) (of_decide_eq_true (z "list" (by simp)))
def flB (c f : Str) (K : PySem.W.Frag) : Bool := He.eqO (PySem.W.findIn K (ov K c) f) (some none)
theorem flB.ok {c f : Str} (o : Own K mg c (He.ga K c)) (q : flB c f K = true) : FldOk K mg c f := FldOk.of o (He.eqO_ok q)
def caB (c m : Str) (K : PySem.W.Frag) : Bool := He.eqO (PySem.W.findIn K (ov K c) m) (some (some (.ref (He.ma K (He.ga K c) m)))) && PySem.W.keepIn K (.ref (He.ma K (He.ga K c) m))
theorem caB.ok {c m : Str} (X : K.In h) (o : Own K mg c (He.ga K c)) (q : caB c m K = true) : CallOk K mg c m := by
  obtain ⟨q1, q2⟩ := He.ba q
  exact CallOk.of (h := h) o (He.eqO_ok q1) q2
def neB (c : Str) (K : PySem.W.Frag) : Bool := glB c K && (He.eqO (PySem.W.findIn K (ov K c) "__ne__") (some (some (.builtin "object.__ne__"))) && PySem.W.plainOver K (He.ga K c))
theorem neB.ok {c : Str} (X : K.In h) (G : h.Ns mainGlobals mg) (q : neB c K = true) : NeOk K mg c := by
  obtain ⟨q1, q⟩ := He.ba q
  obtain ⟨q2, q3⟩ := He.ba q
  exact NeOk.of X G (He.eqO_ok q1) (He.eqO_ok q2) q3
def idB (c : Str) (K : PySem.W.Frag) : Bool := glB c K && (He.eqO (PySem.W.findIn K (ov K c) "__eq__") (some (some (.builtin "object.__eq__"))) && decide (PySem.W.mroIn K (He.ga K c) (.type "object") = some true))
theorem idB.ok {c : Str} (X : K.In h) (G : h.Ns mainGlobals mg) (q : idB c K = true) : IdOk K mg c := by
  obtain ⟨q1, q⟩ := He.ba q
  obtain ⟨q2, q3⟩ := He.ba q
  exact IdOk.of X G (He.eqO_ok q1) (He.eqO_ok q2) (of_decide_eq_true q3)
end
theorem map3 {α β γ δ : Type} {o : Option α} {A : α → β} {B : α → γ} {C : α → δ} {a : β} {b : γ} {c : δ} (h1 : o.map A = some a) (h2 : o.map B = some b) (h3 : o.map C = some c) : o.map (fun x => (A x, B x, C x)) = some (a, b, c) := by
  cases o with
  | none => cases h1
  | some x =>
    cases h1
    cases h2
    cases h3
    rfl
theorem walkM {l : PySem.W.OpenLaw} {q : Program} {loose : List Str} {XP : (Str → Option Value) → Heap → Prop} {d : DefRec} {as : List Addr} {ex : PySem.W.Frag → Bool} {fn : List He.DefD} {ts : List TabM} (k : Nat) (hr : Room k callerA) (hn : l.most = some 63) (hdf : d.params.defaults = [])
    (F : ∀ (w : World) (mg : Str → Option Value) (fa : Addr) (h : Heap) (K : PySem.W.Frag), K.In h → SaysM ex fn ts w K → h.Ns mainGlobals mg → mg d.name = some (.ref fa) →
      ∃ fd : FuncData, BindsAll fd ["script"] ∧ ∀ base : Heap, K.In base → base.Ns mainGlobals mg → FnOk l.prog w K mg base (L2.CX l.prog w) k fa fd ["script"] (spLaw K)) :
    PySem.W.WalkO q loose XP (hookM as ex fn ts).says l.row.toRowW d [] fun f vs => PySem.call f vs := by
  refine Att.attach_call hn hdf ?_
  intro w s₀ s₁ mg mb fa o pm cd doc a vs ns G Y ho hd hcd hmg hobj hints hlen hg
  obtain ⟨K, KX, c⟩ := Y
  obtain ⟨fd, hb, hF⟩ := F w mg fa _ K KX c G.T.g hmg
  refine law_call (CX := L2.CX l.prog w) (sp := spLaw K) KX G.T.g G.T.b G.T.builtins G.T.nolimit hg hobj hints (Nat.le_trans hlen (by decide)) hr hF ?_ ?_ ?_
  · exact fun s u => .of_eq (hb [u] rfl)
  · exact fun H hO hS => ⟨a, ns, rfl, hS, hlen, hO, fun _ => rfl⟩
  · intro H e s' z
    obtain ⟨_, _, _, _, _, _, _, _, _, _, _, _, z⟩ := z
    exact z.elim
end MK
end
namespace Law
open PySem PySem.Spec PyProof.Rows L2 MK
def top (i : Nat) : Stmt := PySem.Challenge.pw_markfilters_k50_edits_at_a_desk.main.body.getD i (.Pass ⟨0, 0, 0, 0⟩)
abbrev s_wall : Stmt := top 1
abbrev s_is_integer : Stmt := top 3
abbrev s_is_integer_within : Stmt := top 4
abbrev s_is_ascending : Stmt := top 5
abbrev s_lies_within : Stmt := top 7
abbrev s_is_same : Stmt := top 10
abbrev s_InvalidNumber_init : Stmt := inClass (top 13) 0
abbrev s_InvalidMarks_init : Stmt := inClass (top 14) 0
abbrev s_InvalidMark_init : Stmt := inClass (top 15) 0
abbrev s_InvalidKeys_init : Stmt := inClass (top 16) 0
abbrev s_InvalidItem_init : Stmt := inClass (top 17) 0
abbrev s_InvalidBits_init : Stmt := inClass (top 18) 0
abbrev s_Undefined_init : Stmt := inClass (top 21) 0
abbrev s_NothingToUndo_init : Stmt := inClass (top 22) 0
abbrev s_is_mark : Stmt := top 26
abbrev s_are_marks : Stmt := top 27
abbrev s_Marking_init : Stmt := inClass (top 28) 0
abbrev s_Marking_eq : Stmt := inClass (top 28) 1
abbrev s_Marking_len : Stmt := inClass (top 28) 2
abbrev s_are_keys : Stmt := top 29
abbrev s_are_bits : Stmt := top 30
abbrev s_filled : Stmt := top 32
abbrev s_says : Stmt := top 33
abbrev s_wrong : Stmt := top 34
abbrev s_wrong_total : Stmt := top 35
abbrev s_folded : Stmt := top 43
abbrev s_folded_mark : Stmt := top 44
abbrev s_is_item : Stmt := top 80
abbrev s_looked_at : Stmt := top 81
abbrev s_Desk_init : Stmt := inClass (top 82) 0
abbrev s_Desk_add : Stmt := inClass (top 82) 1
abbrev s_Desk_drop : Stmt := inClass (top 82) 2
abbrev s_Desk_turn : Stmt := inClass (top 82) 3
abbrev s_Desk_widen : Stmt := inClass (top 82) 4
abbrev s_Desk_fold : Stmt := inClass (top 82) 5
abbrev s_Desk_watch : Stmt := inClass (top 82) 6
abbrev s_Desk_leave : Stmt := inClass (top 82) 7
abbrev s_Desk_undo : Stmt := inClass (top 82) 8
abbrev s_Desk_redo : Stmt := inClass (top 82) 9
abbrev s_Desk_claim : Stmt := inClass (top 82) 10
abbrev s_Desk_paper : Stmt := inClass (top 82) 11
abbrev s_Desk_report : Stmt := inClass (top 82) 12
abbrev s_Desk_place : Stmt := inClass (top 82) 13
abbrev s_Desk_mark : Stmt := inClass (top 82) 14
abbrev s_Desk_do : Stmt := inClass (top 82) 15
abbrev s_Desk_become : Stmt := inClass (top 82) 16
abbrev s_Desk_kept_for : Stmt := inClass (top 82) 17
abbrev s_Desk_state : Stmt := inClass (top 82) 18
abbrev s_same_state : Stmt := top 83
abbrev s_law_box : Stmt := top 85
abbrev s_law_take : Stmt := top 86
abbrev s_law_pick : Stmt := top 87
abbrev s_law_is_due : Stmt := top 88
abbrev s_law_shuffled : Stmt := top 89
abbrev s_law_marking : Stmt := top 90
abbrev s_law_made : Stmt := top 91
abbrev s_law_edit : Stmt := top 92
abbrev s_law_edited : Stmt := top 93
abbrev s_law_do : Stmt := top 94
abbrev s_law_now : Stmt := top 95
abbrev s_law_deed : Stmt := top 96
abbrev s_law_are_refused : Stmt := top 97
abbrev s_law_is_deep : Stmt := top 98
abbrev s_law_is_walked_back : Stmt := top 99
abbrev s_law : Stmt := top 100
theorem sc_is_integer : FnScope ["value"] ["value"] (defScope s_is_integer) := ⟨rfl, rfl, rfl, by decide +kernel, rfl, by decide +kernel, by decide +kernel⟩
theorem sc_is_integer_within : FnScope ["value", "low", "high"] ["value", "low", "high"] (defScope s_is_integer_within) := ⟨rfl, rfl, rfl, by decide +kernel, rfl, by decide +kernel, by decide +kernel⟩
theorem sc_is_ascending : FnScope ["value", "below", "least", "member"] ["value", "below"] (defScope s_is_ascending) := ⟨rfl, rfl, rfl, by decide +kernel, rfl, by decide +kernel, by decide +kernel⟩
theorem sc_lies_within : FnScope ["part", "whole", "member"] ["part", "whole"] (defScope s_lies_within) := ⟨rfl, rfl, rfl, by decide +kernel, rfl, by decide +kernel, by decide +kernel⟩
theorem sc_InvalidNumber_init : FnScope ["self", "value"] ["self", "value"] (defScope s_InvalidNumber_init) := ⟨rfl, rfl, rfl, by decide +kernel, rfl, by decide +kernel, by decide +kernel⟩
theorem sc_InvalidMarks_init : FnScope ["self", "value"] ["self", "value"] (defScope s_InvalidMarks_init) := ⟨rfl, rfl, rfl, by decide +kernel, rfl, by decide +kernel, by decide +kernel⟩
theorem sc_InvalidMark_init : FnScope ["self", "value"] ["self", "value"] (defScope s_InvalidMark_init) := ⟨rfl, rfl, rfl, by decide +kernel, rfl, by decide +kernel, by decide +kernel⟩
theorem sc_InvalidKeys_init : FnScope ["self", "value"] ["self", "value"] (defScope s_InvalidKeys_init) := ⟨rfl, rfl, rfl, by decide +kernel, rfl, by decide +kernel, by decide +kernel⟩
theorem sc_InvalidItem_init : FnScope ["self", "value"] ["self", "value"] (defScope s_InvalidItem_init) := ⟨rfl, rfl, rfl, by decide +kernel, rfl, by decide +kernel, by decide +kernel⟩
theorem sc_InvalidBits_init : FnScope ["self", "value"] ["self", "value"] (defScope s_InvalidBits_init) := ⟨rfl, rfl, rfl, by decide +kernel, rfl, by decide +kernel, by decide +kernel⟩
theorem sc_Undefined_init : FnScope ["self", "what"] ["self", "what"] (defScope s_Undefined_init) := ⟨rfl, rfl, rfl, by decide +kernel, rfl, by decide +kernel, by decide +kernel⟩
theorem sc_NothingToUndo_init : FnScope ["self", "word"] ["self", "word"] (defScope s_NothingToUndo_init) := ⟨rfl, rfl, rfl, by decide +kernel, rfl, by decide +kernel, by decide +kernel⟩
theorem sc_is_mark : FnScope ["cells", "value"] ["cells", "value"] (defScope s_is_mark) := ⟨rfl, rfl, rfl, by decide +kernel, rfl, by decide +kernel, by decide +kernel⟩
theorem sc_are_marks : FnScope ["cells", "value", "mark"] ["cells", "value"] (defScope s_are_marks) := ⟨rfl, rfl, rfl, by decide +kernel, rfl, by decide +kernel, by decide +kernel⟩
theorem sc_Marking_init : FnScope ["self", "cells", "marks", "mark"] ["self", "cells", "marks"] (defScope s_Marking_init) := ⟨rfl, rfl, rfl, by decide +kernel, rfl, by decide +kernel, by decide +kernel⟩
theorem sc_Marking_eq : FnScope ["self", "other"] ["self", "other"] (defScope s_Marking_eq) := ⟨rfl, rfl, rfl, by decide +kernel, rfl, by decide +kernel, by decide +kernel⟩
theorem sc_Marking_len : FnScope ["self"] ["self"] (defScope s_Marking_len) := ⟨rfl, rfl, rfl, by decide +kernel, rfl, by decide +kernel, by decide +kernel⟩
theorem sc_are_keys : FnScope ["marking", "value"] ["marking", "value"] (defScope s_are_keys) := ⟨rfl, rfl, rfl, by decide +kernel, rfl, by decide +kernel, by decide +kernel⟩
theorem sc_are_bits : FnScope ["marking", "value"] ["marking", "value"] (defScope s_are_bits) := ⟨rfl, rfl, rfl, by decide +kernel, rfl, by decide +kernel, by decide +kernel⟩
theorem sc_filled : FnScope ["marking", "keys", "key", "cell"] ["marking", "keys"] (defScope s_filled) := ⟨rfl, rfl, rfl, by decide +kernel, rfl, by decide +kernel, by decide +kernel⟩
theorem sc_says : FnScope ["marking", "bits", "item", "mark"] ["marking", "bits"] (defScope s_says) := ⟨rfl, rfl, rfl, by decide +kernel, rfl, by decide +kernel, by decide +kernel⟩
theorem sc_wrong : FnScope ["marking", "keys", "yes", "item"] ["marking", "keys"] (defScope s_wrong) := ⟨rfl, rfl, rfl, by decide +kernel, rfl, by decide +kernel, by decide +kernel⟩
theorem sc_wrong_total : FnScope ["marking", "size", "keys"] ["marking", "size"] (defScope s_wrong_total) := ⟨rfl, rfl, rfl, by decide +kernel, rfl, by decide +kernel, by decide +kernel⟩
theorem sc_folded : FnScope ["marking", "half", "mark"] ["marking"] (defScope s_folded) := ⟨rfl, rfl, rfl, by decide +kernel, rfl, by decide +kernel, by decide +kernel⟩
theorem sc_folded_mark : FnScope ["mark", "half", "cell"] ["mark", "half"] (defScope s_folded_mark) := ⟨rfl, rfl, rfl, by decide +kernel, rfl, by decide +kernel, by decide +kernel⟩
theorem sc_is_item : FnScope ["marking", "value"] ["marking", "value"] (defScope s_is_item) := ⟨rfl, rfl, rfl, by decide +kernel, rfl, by decide +kernel, by decide +kernel⟩
theorem sc_Desk_init : FnScope ["self", "marking"] ["self", "marking"] (defScope s_Desk_init) := ⟨rfl, rfl, rfl, by decide +kernel, rfl, by decide +kernel, by decide +kernel⟩
theorem sc_Desk_add : FnScope ["self", "mark"] ["self", "mark"] (defScope s_Desk_add) := ⟨rfl, rfl, rfl, by decide +kernel, rfl, by decide +kernel, by decide +kernel⟩
theorem sc_Desk_drop : FnScope ["self", "item", "marks"] ["self", "item"] (defScope s_Desk_drop) := ⟨rfl, rfl, rfl, by decide +kernel, rfl, by decide +kernel, by decide +kernel⟩
theorem sc_Desk_turn : FnScope ["self", "item", "mark", "marks"] ["self", "item", "mark"] (defScope s_Desk_turn) := ⟨rfl, rfl, rfl, by decide +kernel, rfl, by decide +kernel, by decide +kernel⟩
theorem sc_Desk_widen : FnScope ["self", "cells", "last", "mark"] ["self", "cells"] (defScope s_Desk_widen) := ⟨rfl, rfl, rfl, by decide +kernel, rfl, by decide +kernel, by decide +kernel⟩
theorem sc_Desk_fold : FnScope ["self"] ["self"] (defScope s_Desk_fold) := ⟨rfl, rfl, rfl, by decide +kernel, rfl, by decide +kernel, by decide +kernel⟩
theorem sc_Desk_undo : FnScope ["self", "marking", "watched"] ["self"] (defScope s_Desk_undo) := ⟨rfl, rfl, rfl, by decide +kernel, rfl, by decide +kernel, by decide +kernel⟩
theorem sc_Desk_redo : FnScope ["self", "marking", "watched"] ["self"] (defScope s_Desk_redo) := ⟨rfl, rfl, rfl, by decide +kernel, rfl, by decide +kernel, by decide +kernel⟩
theorem sc_Desk_report : FnScope ["self"] ["self"] (defScope s_Desk_report) := ⟨rfl, rfl, rfl, by decide +kernel, rfl, by decide +kernel, by decide +kernel⟩
theorem sc_Desk_place : FnScope ["self", "question", "at", "other"] ["self", "question"] (defScope s_Desk_place) := ⟨rfl, rfl, rfl, by decide +kernel, rfl, by decide +kernel, by decide +kernel⟩
theorem sc_Desk_mark : FnScope ["self", "cells", "marks"] ["self", "cells", "marks"] (defScope s_Desk_mark) := ⟨rfl, rfl, rfl, by decide +kernel, rfl, by decide +kernel, by decide +kernel⟩
theorem sc_Desk_do : FnScope ["self", "marking", "watched"] ["self", "marking", "watched"] (defScope s_Desk_do) := ⟨rfl, rfl, rfl, by decide +kernel, rfl, by decide +kernel, by decide +kernel⟩
theorem sc_Desk_become : FnScope ["self", "marking", "watched", "looks", "question", "kept", "_", "word"] ["self", "marking", "watched"] (defScope s_Desk_become) := ⟨rfl, rfl, rfl, by decide +kernel, rfl, by decide +kernel, by decide +kernel⟩
theorem sc_Desk_kept_for : FnScope ["self", "question"] ["self", "question"] (defScope s_Desk_kept_for) := ⟨rfl, rfl, rfl, by decide +kernel, rfl, by decide +kernel, by decide +kernel⟩
theorem sc_Desk_state : FnScope ["self", "shown"] ["self"] (defScope s_Desk_state) := ⟨rfl, rfl, rfl, by decide +kernel, rfl, by decide +kernel, by decide +kernel⟩
theorem sc_same_state : FnScope ["one", "other"] ["one", "other"] (defScope s_same_state) := ⟨rfl, rfl, rfl, by decide +kernel, rfl, by decide +kernel, by decide +kernel⟩
theorem sc_law_box : FnScope ["script", "k", "cell", "great"] ["script", "k"] (defScope s_law_box) := ⟨rfl, rfl, rfl, by decide +kernel, rfl, by decide +kernel, by decide +kernel⟩
theorem sc_law_take : FnScope ["box", "many", "got"] ["box", "many"] (defScope s_law_take) := ⟨rfl, rfl, rfl, by decide +kernel, rfl, by decide +kernel, by decide +kernel⟩
theorem sc_law_pick : FnScope ["box", "some"] ["box", "some"] (defScope s_law_pick) := ⟨rfl, rfl, rfl, by decide +kernel, rfl, by decide +kernel, by decide +kernel⟩
theorem sc_law_is_due : FnScope ["told", "due"] ["told", "due"] (defScope s_law_is_due) := ⟨rfl, rfl, rfl, by decide +kernel, rfl, by decide +kernel, by decide +kernel⟩
theorem sc_law_shuffled : FnScope ["box", "some", "found", "one"] ["box", "some"] (defScope s_law_shuffled) := ⟨rfl, rfl, rfl, by decide +kernel, rfl, by decide +kernel, by decide +kernel⟩
theorem sc_law_marking : FnScope ["script", "most", "box", "cells", "many", "how", "marks", "item", "size", "mark"] ["script", "most"] (defScope s_law_marking) := ⟨rfl, rfl, rfl, by decide +kernel, rfl, by decide +kernel, by decide +kernel⟩
theorem sc_law_made : FnScope ["marking"] ["marking"] (defScope s_law_made) := ⟨rfl, rfl, rfl, by decide +kernel, rfl, by decide +kernel, by decide +kernel⟩
theorem sc_law_edit : FnScope ["box", "marking", "cells", "marks", "n", "kind", "mark", "cell"] ["box", "marking"] (defScope s_law_edit) := ⟨rfl, rfl, rfl, by decide +kernel, rfl, by decide +kernel, by decide +kernel⟩
theorem sc_law_edited : FnScope ["marking", "edit", "cells", "marks", "n", "kind", "given", "most", "half", "mark", "cell"] ["marking", "edit"] (defScope s_law_edited) := ⟨rfl, rfl, rfl, by decide +kernel, rfl, by decide +kernel, by decide +kernel⟩
theorem sc_law_do : FnScope ["desk", "edit", "kind", "given"] ["desk", "edit"] (defScope s_law_do) := ⟨rfl, rfl, rfl, by decide +kernel, rfl, by decide +kernel, by decide +kernel⟩
theorem sc_law_now : FnScope ["desk"] ["desk"] (defScope s_law_now) := ⟨rfl, rfl, rfl, by decide +kernel, rfl, by decide +kernel, by decide +kernel⟩
theorem sc_law_deed : FnScope ["desk", "edit", "told", "e"] ["desk", "edit"] (defScope s_law_deed) := ⟨rfl, rfl, rfl, by decide +kernel, rfl, by decide +kernel, by decide +kernel⟩
theorem sc_law_are_refused : FnScope ["desk", "marking", "cells", "marks", "n", "odd", "mark"] ["desk", "marking"] (defScope s_law_are_refused) := ⟨rfl, rfl, rfl, by decide +kernel, rfl, by decide +kernel, by decide +kernel⟩
theorem sc_law_is_deep : FnScope ["box", "marking", "desk", "states", "k", "mark", "now"] ["box", "marking"] (defScope s_law_is_deep) := ⟨rfl, rfl, rfl, by decide +kernel, rfl, by decide +kernel, by decide +kernel⟩
theorem sc_law_is_walked_back : FnScope ["box", "marking", "desk", "states", "k", "now", "at", "mark"] ["box", "marking"] (defScope s_law_is_walked_back) := ⟨rfl, rfl, rfl, by decide +kernel, rfl, by decide +kernel, by decide +kernel⟩
theorem sc_law : FnScope ["script", "state", "box", "made", "desk", "twin", "other", "deeds", "turn", "edit", "due", "old", "before"] ["script"] (defScope s_law) := ⟨rfl, rfl, rfl, by decide +kernel, rfl, by decide +kernel, by decide +kernel⟩
def subTab : List (Str × Str × Bool) := [("InvalidNumber", "InvalidItem", false), ("InvalidNumber", "InvalidMark", false), ("InvalidNumber", "InvalidNumber", true), ("InvalidNumber", "Undefined", false), ("InvalidMarks", "InvalidItem", false), ("InvalidMarks", "InvalidMark", false), ("InvalidMarks", "InvalidNumber", false), ("InvalidMarks", "Undefined", false), ("InvalidMark", "InvalidItem", false), ("InvalidMark", "InvalidMark", true), ("InvalidMark", "InvalidNumber", false), ("InvalidMark", "Undefined", false), ("InvalidKeys", "InvalidItem", false), ("InvalidKeys", "InvalidMark", false), ("InvalidKeys", "InvalidNumber", false), ("InvalidKeys", "Undefined", false), ("InvalidItem", "InvalidItem", true), ("InvalidItem", "InvalidMark", false), ("InvalidItem", "InvalidNumber", false), ("InvalidItem", "Undefined", false), ("InvalidBits", "InvalidItem", false), ("InvalidBits", "InvalidMark", false), ("InvalidBits", "InvalidNumber", false), ("InvalidBits", "Undefined", false), ("Undefined", "InvalidItem", false), ("Undefined", "InvalidMark", false), ("Undefined", "InvalidNumber", false), ("Undefined", "Undefined", true), ("NothingToUndo", "InvalidItem", false), ("NothingToUndo", "InvalidMark", false), ("NothingToUndo", "InvalidNumber", false), ("NothingToUndo", "Undefined", false)]
structure Tx (w : World) (K : PySem.W.Frag) (mg : Str → Option Value) : Prop where
  b_ValueError : mg "ValueError" = none
  b_abs : mg "abs" = none
  b_all : mg "all" = none
  b_bool : mg "bool" = none
  b_enumerate : mg "enumerate" = none
  b_int : mg "int" = none
  b_isinstance : mg "isinstance" = none
  b_len : mg "len" = none
  b_list : mg "list" = none
  b_max : mg "max" = none
  b_min : mg "min" = none
  b_range : mg "range" = none
  b_sorted : mg "sorted" = none
  b_sum : mg "sum" = none
  b_tuple : mg "tuple" = none
  b_combinations : mg "combinations" = some (.type "itertools.combinations")
  c_MOST_CELLS : ∃ t, mg "MOST_CELLS" = some (.int 8 t)
  c_MOST_MARKS : ∃ t, mg "MOST_MARKS" = some (.int 7 t)
  c_MOST_ITEMS : ∃ t, mg "MOST_ITEMS" = some (.int 4 t)
  c_COUNTING : TupC K mg "COUNTING" [.str "wrong", .str "cells"]
  c_ALL_FILLED : ∃ t, mg "ALL_FILLED" = some (.int (-1) t)
  d_ASKED : DictC w K mg "ASKED" [("wrong", "wrong"), ("meets", "meets"), ("strange", "meets"), ("safe", "take"), ("lost", "take"), ("free", "free"), ("fails", "free"), ("cells", "cells")]
  F_wall : FunOk K mg "_wall" s_wall ["k"]
  F_is_integer : FunOk K mg "is_integer" s_is_integer ["value"]
  F_is_integer_within : FunOk K mg "is_integer_within" s_is_integer_within ["value", "low", "high"]
  F_is_ascending : FunOk K mg "is_ascending" s_is_ascending ["value", "below"]
  F_lies_within : FunOk K mg "lies_within" s_lies_within ["part", "whole"]
  F_is_same : FunOk K mg "is_same" s_is_same ["value", "told"]
  X_InvalidNumber : ExcFun K mg "InvalidNumber" "value" "InvalidNumber.__init__" s_InvalidNumber_init ["self", "value"]
  X_InvalidMarks : ExcFun K mg "InvalidMarks" "value" "InvalidMarks.__init__" s_InvalidMarks_init ["self", "value"]
  X_InvalidMark : ExcFun K mg "InvalidMark" "value" "InvalidMark.__init__" s_InvalidMark_init ["self", "value"]
  X_InvalidKeys : ExcFun K mg "InvalidKeys" "value" "InvalidKeys.__init__" s_InvalidKeys_init ["self", "value"]
  X_InvalidItem : ExcFun K mg "InvalidItem" "value" "InvalidItem.__init__" s_InvalidItem_init ["self", "value"]
  X_InvalidBits : ExcFun K mg "InvalidBits" "value" "InvalidBits.__init__" s_InvalidBits_init ["self", "value"]
  X_Undefined : ExcFun K mg "Undefined" "what" "Undefined.__init__" s_Undefined_init ["self", "what"]
  X_NothingToUndo : ExcFun K mg "NothingToUndo" "word" "NothingToUndo.__init__" s_NothingToUndo_init ["self", "word"]
  F_is_mark : FunOk K mg "is_mark" s_is_mark ["cells", "value"]
  F_are_marks : FunOk K mg "are_marks" s_are_marks ["cells", "value"]
  C_Marking : ClsFun K mg "Marking" "Marking.__init__" s_Marking_init ["self", "cells", "marks"]
  M_Marking_eq : MetFun K mg "Marking" "__eq__" "Marking.__eq__" s_Marking_eq ["self", "other"]
  M_Marking_len : MetFun K mg "Marking" "__len__" "Marking.__len__" s_Marking_len ["self"]
  F_are_keys : FunOk K mg "are_keys" s_are_keys ["marking", "value"]
  F_are_bits : FunOk K mg "are_bits" s_are_bits ["marking", "value"]
  F_filled : FunOk K mg "filled" s_filled ["marking", "keys"]
  F_says : FunOk K mg "says" s_says ["marking", "bits"]
  F_wrong : FunOk K mg "wrong" s_wrong ["marking", "keys"]
  F_wrong_total : FunOk K mg "wrong_total" s_wrong_total ["marking", "size"]
  F_folded : FunOk K mg "folded" s_folded ["marking"]
  F_folded_mark : FunOk K mg "folded_mark" s_folded_mark ["mark", "half"]
  F_is_item : FunOk K mg "is_item" s_is_item ["marking", "value"]
  F_looked_at : FunOk K mg "looked_at" s_looked_at ["marking", "question", "kept"]
  C_Desk : ClsFun K mg "Desk" "Desk.__init__" s_Desk_init ["self", "marking"]
  M_Desk_add : MetFun K mg "Desk" "add" "Desk.add" s_Desk_add ["self", "mark"]
  M_Desk_drop : MetFun K mg "Desk" "drop" "Desk.drop" s_Desk_drop ["self", "item"]
  M_Desk_turn : MetFun K mg "Desk" "turn" "Desk.turn" s_Desk_turn ["self", "item", "mark"]
  M_Desk_widen : MetFun K mg "Desk" "widen" "Desk.widen" s_Desk_widen ["self", "cells"]
  M_Desk_fold : MetFun K mg "Desk" "fold" "Desk.fold" s_Desk_fold ["self"]
  M_Desk_watch : MetFun K mg "Desk" "watch" "Desk.watch" s_Desk_watch ["self", "question"]
  M_Desk_leave : MetFun K mg "Desk" "leave" "Desk.leave" s_Desk_leave ["self", "question"]
  M_Desk_undo : MetFun K mg "Desk" "undo" "Desk.undo" s_Desk_undo ["self"]
  M_Desk_redo : MetFun K mg "Desk" "redo" "Desk.redo" s_Desk_redo ["self"]
  M_Desk_claim : MetFun K mg "Desk" "claim" "Desk.claim" s_Desk_claim ["self", "question"]
  M_Desk_paper : MetFun K mg "Desk" "paper" "Desk.paper" s_Desk_paper ["self", "question"]
  M_Desk_report : MetFun K mg "Desk" "report" "Desk.report" s_Desk_report ["self"]
  M_Desk_place : MetFun K mg "Desk" "_place" "Desk._place" s_Desk_place ["self", "question"]
  M_Desk_mark : MetFun K mg "Desk" "_mark" "Desk._mark" s_Desk_mark ["self", "cells", "marks"]
  M_Desk_do : MetFun K mg "Desk" "_do" "Desk._do" s_Desk_do ["self", "marking", "watched"]
  M_Desk_become : MetFun K mg "Desk" "_become" "Desk._become" s_Desk_become ["self", "marking", "watched"]
  M_Desk_kept_for : MetFun K mg "Desk" "_kept_for" "Desk._kept_for" s_Desk_kept_for ["self", "question"]
  M_Desk_state : MetFun K mg "Desk" "_state" "Desk._state" s_Desk_state ["self"]
  F_same_state : FunOk K mg "same_state" s_same_state ["one", "other"]
  F_law_box : FunOk K mg "_law_box" s_law_box ["script", "k"]
  F_law_take : FunOk K mg "_law_take" s_law_take ["box", "many"]
  F_law_pick : FunOk K mg "_law_pick" s_law_pick ["box", "some"]
  F_law_is_due : FunOk K mg "_law_is_due" s_law_is_due ["told", "due"]
  F_law_shuffled : FunOk K mg "_law_shuffled" s_law_shuffled ["box", "some"]
  F_law_marking : FunOk K mg "_law_marking" s_law_marking ["script", "most"]
  F_law_made : FunOk K mg "_law_made" s_law_made ["marking"]
  F_law_edit : FunOk K mg "_law_edit" s_law_edit ["box", "marking"]
  F_law_edited : FunOk K mg "_law_edited" s_law_edited ["marking", "edit"]
  F_law_do : FunOk K mg "_law_do" s_law_do ["desk", "edit"]
  F_law_now : FunOk K mg "_law_now" s_law_now ["desk"]
  F_law_deed : FunOk K mg "_law_deed" s_law_deed ["desk", "edit"]
  F_law_are_refused : FunOk K mg "_law_are_refused" s_law_are_refused ["desk", "marking"]
  F_law_is_deep : FunOk K mg "_law_is_deep" s_law_is_deep ["box", "marking"]
  F_law_is_walked_back : FunOk K mg "_law_is_walked_back" s_law_is_walked_back ["box", "marking"]
  F_law : FunOk K mg "law" s_law ["script"]
  k_Desk_add : CallOk K mg "Desk" "add"
  k_Desk_drop : CallOk K mg "Desk" "drop"
  k_Desk_turn : CallOk K mg "Desk" "turn"
  k_Desk_widen : CallOk K mg "Desk" "widen"
  k_Desk_fold : CallOk K mg "Desk" "fold"
  k_Desk_watch : CallOk K mg "Desk" "watch"
  k_Desk_leave : CallOk K mg "Desk" "leave"
  k_Desk_undo : CallOk K mg "Desk" "undo"
  k_Desk_redo : CallOk K mg "Desk" "redo"
  k_Desk_claim : CallOk K mg "Desk" "claim"
  k_Desk_paper : CallOk K mg "Desk" "paper"
  k_Desk_report : CallOk K mg "Desk" "report"
  k_Desk_place : CallOk K mg "Desk" "_place"
  k_Desk_mark : CallOk K mg "Desk" "_mark"
  k_Desk_do : CallOk K mg "Desk" "_do"
  k_Desk_become : CallOk K mg "Desk" "_become"
  k_Desk_kept_for : CallOk K mg "Desk" "_kept_for"
  k_Desk_state : CallOk K mg "Desk" "_state"
  id_Desk : IdOk K mg "Desk"
  i_Marking : IsOk K mg "Marking" []
  n_Marking : NeOk K mg "Marking"
  f_Marking_cells : FldOk K mg "Marking" "cells"
  f_Marking_marks : FldOk K mg "Marking" "marks"
  i_Desk : IsOk K mg "Desk" []
  f_Desk_marking : FldOk K mg "Desk" "marking"
  f_Desk_watched : FldOk K mg "Desk" "watched"
  f_Desk_many : FldOk K mg "Desk" "many"
  f_Desk__kept : FldOk K mg "Desk" "_kept"
  f_Desk__words : FldOk K mg "Desk" "_words"
  f_Desk__ahead : FldOk K mg "Desk" "_ahead"
  f_Desk__behind : FldOk K mg "Desk" "_behind"
  m_InvalidItem : ∃ C, mg "InvalidItem" = some (.ref C)
  m_InvalidMark : ∃ C, mg "InvalidMark" = some (.ref C)
  m_InvalidNumber : ∃ C, mg "InvalidNumber" = some (.ref C)
  m_Undefined : ∃ C, mg "Undefined" = some (.ref C)
  sub : SubOk K mg (subT subTab)
section
variable {P : Program} {w : World} {K : PySem.W.Frag} {mg : Str → Option Value} {base : Heap}
theorem x_InvalidNumber (T : Tx w K mg) : ExcOk P w K mg base "InvalidNumber" "value" := exc_ok T.X_InvalidNumber sc_InvalidNumber_init fun g cdv A outer s H E => pss_one (ps_ost (pv 0) (pv 1))
theorem x_InvalidMarks (T : Tx w K mg) : ExcOk P w K mg base "InvalidMarks" "value" := exc_ok T.X_InvalidMarks sc_InvalidMarks_init fun g cdv A outer s H E => pss_one (ps_ost (pv 0) (pv 1))
theorem x_InvalidMark (T : Tx w K mg) : ExcOk P w K mg base "InvalidMark" "value" := exc_ok T.X_InvalidMark sc_InvalidMark_init fun g cdv A outer s H E => pss_one (ps_ost (pv 0) (pv 1))
theorem x_InvalidKeys (T : Tx w K mg) : ExcOk P w K mg base "InvalidKeys" "value" := exc_ok T.X_InvalidKeys sc_InvalidKeys_init fun g cdv A outer s H E => pss_one (ps_ost (pv 0) (pv 1))
theorem x_InvalidItem (T : Tx w K mg) : ExcOk P w K mg base "InvalidItem" "value" := exc_ok T.X_InvalidItem sc_InvalidItem_init fun g cdv A outer s H E => pss_one (ps_ost (pv 0) (pv 1))
theorem x_InvalidBits (T : Tx w K mg) : ExcOk P w K mg base "InvalidBits" "value" := exc_ok T.X_InvalidBits sc_InvalidBits_init fun g cdv A outer s H E => pss_one (ps_ost (pv 0) (pv 1))
theorem x_Undefined (T : Tx w K mg) : ExcOk P w K mg base "Undefined" "what" := exc_ok T.X_Undefined sc_Undefined_init fun g cdv A outer s H E => pss_one (ps_ost (pv 0) (pv 1))
theorem x_NothingToUndo (T : Tx w K mg) : ExcOk P w K mg base "NothingToUndo" "word" := exc_ok T.X_NothingToUndo sc_NothingToUndo_init fun g cdv A outer s H E => pss_one (ps_ost (pv 0) (pv 1))
noncomputable def m_is_integer : MS := mRet (mAndV (mIsi .int (mVar 0)) (mNotV (mIsi .bool (mVar 0))))
noncomputable def g_is_integer : MF := finM false 1 m_is_integer
theorem d_is_integer (T : Tx w K mg) : DefOk P w K mg base 1 "is_integer" ["value"] g_is_integer := def_okF false T.F_is_integer sc_is_integer (fun f cdv A outer s H E hr => ss_one (s_ret (e_and (e_isi .int T.b_isinstance (by rfl) (by rfl) (by rfl) T.b_int (by decide +kernel) (e_var 0)) (e_and1 (e_notV (e_isi .bool T.b_isinstance (by rfl) (by rfl) (by rfl) T.b_bool (by decide +kernel) (e_var 0)))))))
noncomputable def m_lies_within : MS := mRet (mCall (pv1 allI) (mCons (mLc false (mSrc (mVar 0)) [2] (gSet 2) (mTB true) (m2 (inI) (mVar 2) (mVar 1))) (mNil)))
noncomputable def g_lies_within : MF := finM false 3 m_lies_within
theorem d_lies_within (T : Tx w K mg) : DefOk P w K mg base 1 "lies_within" ["part", "whole"] g_lies_within := def_okF false T.F_lies_within sc_lies_within (fun f cdv A outer s H E hr => ss_one (s_ret (e_callB (cr_all (by rfl)) v_all (by rfl) T.b_all (by decide +kernel) (a_cons (e_lc false [("member", 2)] (ct_name 2) rfl sc_lies_within.nd (i_seq (e_var 0)) (blkOk_by (by kernel_rfl)) (fun _ _ _ _ _ => (pg_name (i := 2) sc_lies_within.nd rfl (by first | exact Or.inl rfl | exact Or.inr rfl))) (fun _ _ _ _ _ => ts_nil) (fun _ _ _ _ _ => e_cmp (c_in (hu65 hr)) (e_var 2) (e_var 1))) (a_nil)))))
noncomputable def g_is_same : MF := fun _ _ => none
theorem d_is_same (T : Tx w K mg) : DefOk P w K mg base 1 "is_same" ["value", "told"] g_is_same := def_zero T.F_is_same
noncomputable def m_Marking_eq : MS := mRet (mAndV (mIsC "Marking" [] (mVar 1)) (mAndV (m2 (eqI) (mFld "Marking" "cells" (mVar 0)) (mFld "Marking" "cells" (mVar 1))) (m2 (eqI) (mFld "Marking" "marks" (mVar 0)) (mFld "Marking" "marks" (mVar 1)))))
noncomputable def g_Marking_eq : MF := finM false 2 m_Marking_eq
theorem d_Marking_eq (T : Tx w K mg) : MetOk P w K mg base 1 "Marking" "__eq__" ["self", "other"] g_Marking_eq := met_ok false T.M_Marking_eq sc_Marking_eq (fun f cdv A outer s H E hr => ss_one (s_ret (e_and (e_isC T.i_Marking T.b_isinstance (by rfl) (by rfl) (e_var 1)) (e_and (e_cmp (c_eq hr.units) (e_fld "Marking" (e_var 0) (T.f_Marking_cells)) (e_fld "Marking" (e_var 1) (T.f_Marking_cells))) (e_and1 (e_cmp (c_eq hr.units) (e_fld "Marking" (e_var 0) (T.f_Marking_marks)) (e_fld "Marking" (e_var 1) (T.f_Marking_marks))))))))
noncomputable def m_Marking_len : MS := mRet (mCall (pv1 lenI) (mCons (mFld "Marking" "marks" (mVar 0)) (mNil)))
noncomputable def g_Marking_len : MF := finM false 1 m_Marking_len
theorem d_Marking_len (T : Tx w K mg) : MetOk P w K mg base 1 "Marking" "__len__" ["self"] g_Marking_len := met_ok false T.M_Marking_len sc_Marking_len (fun f cdv A outer s H E hr => ss_one (s_ret (e_callB call_len v_len (by rfl) T.b_len (by decide +kernel) (a_cons (e_fld "Marking" (e_var 0) (T.f_Marking_marks)) (a_nil)))))
noncomputable def m_folded_mark : MS := mRet (mCall (pv1 tupleI) (mCons (mSortSet false (mClause (mSrc (mVar 0)) [2] (gSet 2) (mTB true) (mInt (m2 modI (mVar 2) (mVar 1))))) (mNil)))
noncomputable def g_folded_mark : MF := finM false 3 m_folded_mark
theorem d_folded_mark (T : Tx w K mg) : DefOk P w K mg base 1 "folded_mark" ["mark", "half"] g_folded_mark := def_okF false T.F_folded_mark sc_folded_mark (fun f cdv A outer s H E hr => ss_one (s_ret (e_callTy call_tuple_of v_tuple (by rfl) T.b_tuple (by decide +kernel) (a_cons (e_sortSet1 false [("cell", 2)] (by rfl) T.b_sorted (ct_name 2) rfl sc_folded_mark.nd (i_seq (e_var 0)) (blkOk_by (by kernel_rfl)) (fun _ _ _ _ _ => (pg_name (i := 2) sc_folded_mark.nd rfl (by first | exact Or.inl rfl | exact Or.inr rfl))) (fun _ _ _ _ _ => ts_nil) (fun _ _ _ _ _ => e_mod (e_var 2) (e_var 1))) (a_nil)))))
noncomputable def g_looked_at : MF := fun _ _ => none
theorem d_looked_at (T : Tx w K mg) : DefOk P w K mg base 1 "looked_at" ["marking", "question", "kept"] g_looked_at := def_zero T.F_looked_at
noncomputable def m_Desk_init : MS := mSeq (mPutO "Desk" "marking" (mVar 0) (mVar 1)) (mSeq (mPutO "Desk" "watched" (mVar 0) (mTup (mNil))) (mSeq (mPutO "Desk" "many" (mVar 0) (mC (.int 0))) (mSeq (mPutO "Desk" "_kept" (mVar 0) (mTup (mNil))) (mSeq (mPutO "Desk" "_words" (mVar 0) (mTup (mNil))) (mSeq (mNewO "Desk" "_ahead" (mVar 0)) (mNewO "Desk" "_behind" (mVar 0)))))))
noncomputable def g_Desk_init : MF := finM false 2 m_Desk_init
theorem d_Desk_init (T : Tx w K mg) : ClsOk P w K mg base 1 "Desk" ["self", "marking"] g_Desk_init := cls_ok false T.C_Desk sc_Desk_init (fun f cdv A outer s H E hr => ss_cons (s_fldO "Desk" (e_var 0) (e_var 1) (T.f_Desk_marking))
    (ss_cons (s_fldO "Desk" (e_var 0) (e_tup (a_nil)) (T.f_Desk_watched))
    (ss_cons (s_fldO "Desk" (e_var 0) (e_int) (T.f_Desk_many))
    (ss_cons (s_fldO "Desk" (e_var 0) (e_tup (a_nil)) (T.f_Desk__kept))
    (ss_cons (s_fldO "Desk" (e_var 0) (e_tup (a_nil)) (T.f_Desk__words))
    (ss_cons (s_newO "Desk" (e_var 0) (T.f_Desk__ahead))
    (ss_one (s_newO "Desk" (e_var 0) (T.f_Desk__behind)))))))))
noncomputable def m_Desk_report : MS := mRet (mFldO "Desk" "_words" (mVar 0))
noncomputable def g_Desk_report : MF := finM false 1 m_Desk_report
theorem d_Desk_report (T : Tx w K mg) : MetOk P w K mg base 1 "Desk" "report" ["self"] g_Desk_report := met_ok false T.M_Desk_report sc_Desk_report (fun f cdv A outer s H E hr => ss_one (s_ret (e_fldO "Desk" (e_var 0) (T.f_Desk__words))))
noncomputable def m_Desk_state : MS := mSeq (mSet 1 (mTup (mCons (mFld "Marking" "cells" (mFldO "Desk" "marking" (mVar 0))) (mCons (mFld "Marking" "marks" (mFldO "Desk" "marking" (mVar 0))) (mCons (mFldO "Desk" "watched" (mVar 0)) (mCons (mFldO "Desk" "_kept" (mVar 0)) (mNil))))))) (mRet (m2 addI (mVar 1) (mTup (mCons (mLenF "Desk" "_ahead" (mVar 0)) (mCons (mLenF "Desk" "_behind" (mVar 0)) (mNil))))))
noncomputable def g_Desk_state : MF := finM false 2 m_Desk_state
theorem d_Desk_state (T : Tx w K mg) : MetOk P w K mg base 1 "Desk" "_state" ["self"] g_Desk_state := met_ok false T.M_Desk_state sc_Desk_state (fun f cdv A outer s H E hr => ss_cons (s_set 1 sc_Desk_state.nd (e_tup (a_cons (e_fld "Marking" (e_fldO "Desk" (e_var 0) (T.f_Desk_marking)) (T.f_Marking_cells)) (a_cons (e_fld "Marking" (e_fldO "Desk" (e_var 0) (T.f_Desk_marking)) (T.f_Marking_marks)) (a_cons (e_fldO "Desk" (e_var 0) (T.f_Desk_watched)) (a_cons (e_fldO "Desk" (e_var 0) (T.f_Desk__kept)) (a_nil)))))))
    (ss_one (s_ret (e_add (e_var 1) (e_tup (a_cons (e_lenF "Desk" (e_var 0) (T.f_Desk__ahead) (by rfl) T.b_len) (a_cons (e_lenF "Desk" (e_var 0) (T.f_Desk__behind) (by rfl) T.b_len) (a_nil))))))))
noncomputable def m_law_take : MS := mSeq (mIfS (mB (m2 (cmpI fun i j => decide (j < i)) (m2 itemI (mVar 0) (mC (.int 0))) (mC (.int 0)))) (mSeq (mSet 2 (m2 modI (mCall (pv1 intI) (mCons (m2 itemI (mVar 0) (mC (.int 0))) (mNil))) (mVar 1))) (mSeq (mPut (mVar 0) (mC (.int 0)) (m2 fdivI (m2 itemI (mVar 0) (mC (.int 0))) (mVar 1))) (mRet (mVar 2)))) (mPass)) (mSeq (mPut (mVar 0) (mC (.int 1)) (m2 modI (mCall (pv1 intI) (mCons (m2 addI (m2 mulI (m2 itemI (mVar 0) (mC (.int 1))) (mC (.int 39373))) (mC (.int 69621))) (mNil))) (mC (.int 2147483647)))) (mRet (m2 modI (mCall (pv1 intI) (mCons (m2 fdivI (m2 itemI (mVar 0) (mC (.int 1))) (mC (.int 8191))) (mNil))) (mVar 1))))
noncomputable def g_law_take : MF := finM false 3 m_law_take
theorem d_law_take (T : Tx w K mg) : DefOk P w K mg base 1 "_law_take" ["box", "many"] g_law_take := def_okF false T.F_law_take sc_law_take (fun f cdv A outer s H E hr => ss_cons (s_if (t_cmp (c_gt) (e_ix (e_var 0) (e_int)) (e_int)) (ss_cons (s_set 2 sc_law_take.nd (e_mod (e_callTy call_int1 v_int (by rfl) T.b_int (by decide +kernel) (a_cons (e_ix (e_var 0) (e_int)) (a_nil))) (e_var 1)))
    (ss_cons (s_put (e_var 0) (e_int) (e_fdiv (e_ix (e_var 0) (e_int)) (e_var 1)))
    (ss_one (s_ret (e_var 2))))) (ss_nil))
    (ss_cons (s_put (e_var 0) (e_int) (e_mod (e_callTy call_int1 v_int (by rfl) T.b_int (by decide +kernel) (a_cons (e_add (e_mul (e_ix (e_var 0) (e_int)) (e_int)) (e_int)) (a_nil))) (e_int)))
    (ss_one (s_ret (e_mod (e_callTy call_int1 v_int (by rfl) T.b_int (by decide +kernel) (a_cons (e_fdiv (e_ix (e_var 0) (e_int)) (e_int)) (a_nil))) (e_var 1))))))
noncomputable def m_law_is_due : MS := mRet (mIte (mT (mVar 1)) (m2 (isI) (mVar 0) (mC (.bl true))) (m2 (isI) (mVar 0) (mC (.bl false))))
noncomputable def g_law_is_due : MF := finM false 2 m_law_is_due
theorem d_law_is_due (T : Tx w K mg) : DefOk P w K mg base 1 "_law_is_due" ["told", "due"] g_law_is_due := def_okF false T.F_law_is_due sc_law_is_due (fun f cdv A outer s H E hr => ss_one (s_ret (e_ifx (t_val (e_var 1)) (e_cmp (c_is) (e_var 0) (e_bl)) (e_cmp (c_is) (e_var 0) (e_bl)))))
noncomputable def m_law_now : MS := mRet (mTup (mCons (mFld "Marking" "cells" (mFldO "Desk" "marking" (mVar 0))) (mCons (mFld "Marking" "marks" (mFldO "Desk" "marking" (mVar 0))) (mNil))))
noncomputable def g_law_now : MF := finM false 1 m_law_now
theorem d_law_now (T : Tx w K mg) : DefOk P w K mg base 1 "_law_now" ["desk"] g_law_now := def_okF false T.F_law_now sc_law_now (fun f cdv A outer s H E hr => ss_one (s_ret (e_tup (a_cons (e_fld "Marking" (e_fldO "Desk" (e_var 0) (T.f_Desk_marking)) (T.f_Marking_cells)) (a_cons (e_fld "Marking" (e_fldO "Desk" (e_var 0) (T.f_Desk_marking)) (T.f_Marking_marks)) (a_nil))))))
noncomputable def m_is_integer_within : MS := mRet (mAndV (mCallD 1 g_is_integer (mCons (mVar 0) (mNil))) (mChain (cmpI fun i j => decide (i ≤ j)) (cmpI fun i j => decide (i ≤ j)) (mVar 1) (mVar 0) (mVar 2)))
noncomputable def g_is_integer_within : MF := finM false 3 m_is_integer_within
theorem d_is_integer_within (T : Tx w K mg) : DefOk P w K mg base 2 "is_integer_within" ["value", "low", "high"] g_is_integer_within := def_okF false T.F_is_integer_within sc_is_integer_within (fun f cdv A outer s H E hr => ss_one (s_ret (e_and (e_call (d_is_integer T) (hr.mono (by decide)) (by rfl) tk_def (a_cons (e_var 0) (a_nil))) (e_and1 (e_chain (c_le) (c_le) (e_var 1) (e_var 0) (e_var 2))))))
noncomputable def m_is_ascending : MS := mSeq (mIfS (mNot (mT (mIsi .tup (mVar 0)))) (mRet (mC (.bl false))) (mPass)) (mSeq (mSet 2 (mC (.int 0))) (mSeq (mFor (mSrc (mVar 0)) (gSet 3) (mSeq (mIfS (mNot (mT (mCallD 3 g_is_integer_within (mCons (mVar 3) (mCons (mVar 2) (mCons (m2 subI (mVar 1) (mC (.int 1))) (mNil))))))) (mRet (mC (.bl false))) (mPass)) (mSet 2 (m2 addI (mVar 3) (mC (.int 1)))))) (mRet (mC (.bl true)))))
noncomputable def g_is_ascending : MF := finM false 4 m_is_ascending
theorem d_is_ascending (T : Tx w K mg) : DefOk P w K mg base 3 "is_ascending" ["value", "below"] g_is_ascending := def_okF false T.F_is_ascending sc_is_ascending (fun f cdv A outer s H E hr => ss_cons (s_if (t_not (t_val (e_isi .tup T.b_isinstance (by rfl) (by rfl) (by rfl) T.b_tuple (by decide +kernel) (e_var 0)))) (ss_one (s_ret (e_bl))) (ss_nil))
    (ss_cons (s_set 2 sc_is_ascending.nd (e_int))
    (ss_cons (s_for po_def rfl (i_seq (e_var 0)) (g_name 3 sc_is_ascending.nd) (ss_cons (s_if (t_not (t_val (e_call (d_is_integer_within T) (hr.mono (by decide)) (by rfl) tk_def (a_cons (e_var 3) (a_cons (e_var 2) (a_cons (e_sub (e_var 1) (e_int)) (a_nil))))))) (ss_one (s_ret (e_bl))) (ss_nil))
    (ss_one (s_set 2 sc_is_ascending.nd (e_add (e_var 3) (e_int))))))
    (ss_one (s_ret (e_bl))))))
noncomputable def m_is_item : MS := mRet (mCallD 3 g_is_integer_within (mCons (mVar 1) (mCons (mC (.int 0)) (mCons (m2 subI (mCall (lenOM "Marking" g_Marking_len) (mCons (mVar 0) (mNil))) (mC (.int 1))) (mNil)))))
noncomputable def g_is_item : MF := finM false 2 m_is_item
theorem d_is_item (T : Tx w K mg) : DefOk P w K mg base 3 "is_item" ["marking", "value"] g_is_item := def_okF false T.F_is_item sc_is_item (fun f cdv A outer s H E hr => ss_one (s_ret (e_call (d_is_integer_within T) (hr.mono (by decide)) (by rfl) tk_def (a_cons (e_var 1) (a_cons (e_int) (a_cons (e_sub (e_lenO (d_Marking_len T) rfl (hr.mono (by decide)) (by rfl) T.b_len (a_cons (e_var 0) (a_nil))) (e_int)) (a_nil)))))))
noncomputable def m_Desk_place : MS := mSeq (mFor (mEnum (mCons (mFldO "Desk" "watched" (mVar 0)) (mNil))) (gTupI 2 (gsCons (gSet 2) (gsCons (gSet 3) (gsNil)))) (mIfS (mT (mCallD 2 g_is_same (mCons (mVar 1) (mCons (mVar 3) (mNil))))) (mRet (mVar 2)) (mPass))) (mRaise "Undefined" "what" (mC (.str "watched")))
noncomputable def g_Desk_place : MF := finM false 4 m_Desk_place
theorem d_Desk_place (T : Tx w K mg) : MetOk P w K mg base 3 "Desk" "_place" ["self", "question"] g_Desk_place := met_ok false T.M_Desk_place sc_Desk_place (fun f cdv A outer s H E hr => ss_cons (s_for po_def rfl (i_enum (by rfl) T.b_enumerate (a_cons (e_fldO "Desk" (e_var 0) (T.f_Desk_watched)) (a_nil))) (g_tup rfl (gs_cons (g_name 2 sc_Desk_place.nd) (gs_cons (g_name 3 sc_Desk_place.nd) (gs_nil)))) (ss_one (s_if (t_val (e_call (d_is_same T) (hr.mono (by decide)) (by rfl) tk_def (a_cons (e_var 1) (a_cons (e_var 3) (a_nil))))) (ss_one (s_ret (e_var 2))) (ss_nil))))
    (ss_one (s_raise (x_Undefined T) (by rfl) (hr.mono (by decide)) (by rfl) tk_def (e_str))))
noncomputable def m_same_state : MS := mRet (m2 (eqI) (mMeth "Desk" "_state" 1 g_Desk_state (mVar 0) (mNil)) (mMeth "Desk" "_state" 1 g_Desk_state (mVar 1) (mNil)))
noncomputable def g_same_state : MF := finM false 2 m_same_state
theorem d_same_state (T : Tx w K mg) : DefOk P w K mg base 3 "same_state" ["one", "other"] g_same_state := def_okF false T.F_same_state sc_same_state (fun f cdv A outer s H E hr => ss_one (s_ret (e_cmp (c_eq hr.units) (e_meth0 (d_Desk_state T) T.k_Desk_state (hr.mono (by decide)) tk_def (e_var 0)) (e_meth0 (d_Desk_state T) T.k_Desk_state (hr.mono (by decide)) tk_def (e_var 1)))))
noncomputable def m_law_box : MS := mSeq (mSet 2 (m2 addI (m2 mulI (mC (.int 7919)) (mVar 1)) (mC (.int 101)))) (mSeq (mIfS (mB (m2 (cmpI fun i j => decide (i < j)) (mVar 1) (mCall (pv1 lenI) (mCons (mVar 0) (mNil))))) (mSet 2 (mCall (pv1 absI) (mCons (m2 itemI (mVar 0) (mVar 1)) (mNil)))) (mIfS (mB (m2 (cmpI fun i j => decide (j < i)) (mCall (pv1 lenI) (mCons (mVar 0) (mNil))) (mC (.int 0)))) (mSet 2 (m2 addI (m2 mulI (m2 modI (mCall (pv1 intI) (mCons (mCall (pv1 absI) (mCons (m2 itemI (mVar 0) (m2 modI (mCall (pv1 intI) (mCons (mVar 1) (mNil))) (mCall (pv1 lenI) (mCons (mVar 0) (mNil))))) (mNil))) (mNil))) (mC (.int 1000000007))) (mC (.int 31))) (m2 mulI (mC (.int 7919)) (mVar 1)))) (mPass))) (mSeq (mSet 3 (m2 itemI (mLst false (mCons (mC (.int 0)) (mCons (mVar 2) (mNil)))) (mCall (pv1 intI) (mCons (m2 (cmpI fun i j => decide (j ≤ i)) (mVar 2) (m2 powI (mC (.int 10)) (mC (.int 18)))) (mNil))))) (mRet (mLst true (mCons (mVar 3) (mCons (m2 addI (m2 modI (mCall (pv1 intI) (mCons (m2 addI (m2 mulI (m2 modI (mCall (pv1 intI) (mCons (mVar 2) (mNil))) (mC (.int 1000000007))) (mC (.int 48271))) (m2 mulI (mC (.int 613)) (mVar 1))) (mNil))) (mC (.int 2147483647))) (mC (.int 1))) (mNil)))))))
noncomputable def g_law_box : MF := finM true 4 m_law_box
theorem d_law_box (T : Tx w K mg) : DefOk P w K mg base 3 "_law_box" ["script", "k"] g_law_box := def_okF true T.F_law_box sc_law_box (fun f cdv A outer s H E hr => ss_cons (s_set 2 sc_law_box.nd (e_add (e_mul (e_int) (e_var 1)) (e_int)))
    (ss_cons (s_if (t_cmp (c_lt) (e_var 1) (e_callB call_len v_len (by rfl) T.b_len (by decide +kernel) (a_cons (e_var 0) (a_nil)))) (ss_one (s_set 2 sc_law_box.nd (e_callB call_abs v_abs (by rfl) T.b_abs (by decide +kernel) (a_cons (e_ix (e_var 0) (e_var 1)) (a_nil))))) (ss_one (s_if (t_cmp (c_gt) (e_callB call_len v_len (by rfl) T.b_len (by decide +kernel) (a_cons (e_var 0) (a_nil))) (e_int)) (ss_one (s_set 2 sc_law_box.nd (e_add (e_mul (e_mod (e_callTy call_int1 v_int (by rfl) T.b_int (by decide +kernel) (a_cons (e_callB call_abs v_abs (by rfl) T.b_abs (by decide +kernel) (a_cons (e_ix (e_var 0) (e_mod (e_callTy call_int1 v_int (by rfl) T.b_int (by decide +kernel) (a_cons (e_var 1) (a_nil))) (e_callB call_len v_len (by rfl) T.b_len (by decide +kernel) (a_cons (e_var 0) (a_nil))))) (a_nil))) (a_nil))) (e_int)) (e_int)) (e_mul (e_int) (e_var 1))))) (ss_nil))))
    (ss_cons (s_set 3 sc_law_box.nd (e_ix (e_lst false (a_cons (e_int) (a_cons (e_var 2) (a_nil)))) (e_callTy call_int1 v_int (by rfl) T.b_int (by decide +kernel) (a_cons (e_cmp (c_ge) (e_var 2) (e_pow (e_int) (e_int))) (a_nil)))))
    (ss_one (s_ret (e_lst true (a_cons (e_var 3) (a_cons (e_add (e_mod (e_callTy call_int1 v_int (by rfl) T.b_int (by decide +kernel) (a_cons (e_add (e_mul (e_mod (e_callTy call_int1 v_int (by rfl) T.b_int (by decide +kernel) (a_cons (e_var 2) (a_nil))) (e_int)) (e_int)) (e_mul (e_int) (e_var 1))) (a_nil))) (e_int)) (e_int)) (a_nil)))))))))
noncomputable def m_law_pick : MS := mRet (m2 itemI (mVar 1) (mCallD 2 g_law_take (mCons (mVar 0) (mCons (mCall (pv1 lenI) (mCons (mVar 1) (mNil))) (mNil)))))
noncomputable def g_law_pick : MF := finM false 2 m_law_pick
theorem d_law_pick (T : Tx w K mg) : DefOk P w K mg base 3 "_law_pick" ["box", "some"] g_law_pick := def_okF false T.F_law_pick sc_law_pick (fun f cdv A outer s H E hr => ss_one (s_ret (e_ix (e_var 1) (e_call (d_law_take T) (hr.mono (by decide)) (by rfl) tk_def (a_cons (e_var 0) (a_cons (e_callB call_len v_len (by rfl) T.b_len (by decide +kernel) (a_cons (e_var 1) (a_nil))) (a_nil)))))))
noncomputable def m_law_shuffled : MS := mSeq (mSet 2 (mLst true (mNil))) (mSeq (mFor (mSrc (mVar 1)) (gSet 3) (mExpr (mMt insM (mVar 2) (mCons (mCallD 2 g_law_take (mCons (mVar 0) (mCons (m2 addI (mCall (pv1 lenI) (mCons (mVar 2) (mNil))) (mC (.int 1))) (mNil)))) (mCons (mVar 3) (mNil)))))) (mRet (mVar 2)))
noncomputable def g_law_shuffled : MF := finM false 4 m_law_shuffled
theorem d_law_shuffled (T : Tx w K mg) : DefOk P w K mg base 3 "_law_shuffled" ["box", "some"] g_law_shuffled := def_okF false T.F_law_shuffled sc_law_shuffled (fun f cdv A outer s H E hr => ss_cons (s_set 2 sc_law_shuffled.nd (e_lst true (a_nil)))
    (ss_cons (s_for po_def rfl (i_seq (e_var 1)) (g_name 3 sc_law_shuffled.nd) (ss_one (s_expr (e_insert (e_var 2) (a_cons (e_call (d_law_take T) (hr.mono (by decide)) (by rfl) tk_def (a_cons (e_var 0) (a_cons (e_add (e_callB call_len v_len (by rfl) T.b_len (by decide +kernel) (a_cons (e_var 2) (a_nil))) (e_int)) (a_nil)))) (a_cons (e_var 3) (a_nil)))))))
    (ss_one (s_ret (e_var 2)))))
noncomputable def m_law_edited : MS := mSeq (mAsg (gTupI 2 (gsCons (gSet 2) (gsCons (gSet 3) (gsNil)))) (mVar 0)) (mSeq (mSet 4 (mCall (pv1 lenI) (mCons (mVar 3) (mNil)))) (mSeq (mAsg (gTupI 2 (gsCons (gSet 5) (gsCons (gSet 6) (gsNil)))) (mVar 1)) (mSeq (mIfS (mB (m2 (eqI) (mVar 5) (mC (.str "add")))) (mSeq (mIfS (mIte (mB (m2 (eqI) (mVar 4) (mC (.int 7)))) (mTB true) (mB (m2 (cmpI fun i j => decide (j ≤ i)) (mCall (pv1 maxTI) (mCons (m2 itemI (mVar 6) (mC (.int 0))) (mNil))) (mVar 2)))) (mRet (mTup (mCons (mC (.str "mark")) (mCons (m2 itemI (mVar 6) (mC (.int 0))) (mNil))))) (mPass)) (mRet (mTup (mCons (mC (.str "kept")) (mCons (mTup (mCons (mVar 2) (mCons (m2 addI (mVar 3) (mTup (mCons (m2 itemI (mVar 6) (mC (.int 0))) (mNil)))) (mNil)))) (mNil)))))) (mPass)) (mSeq (mIfS (mB (m2 (eqI) (mVar 5) (mC (.str "drop")))) (mSeq (mIfS (mB (m2 (cmpI fun i j => decide (j ≤ i)) (m2 itemI (mVar 6) (mC (.int 0))) (mVar 4))) (mRet (mTup (mCons (mC (.str "item")) (mCons (m2 itemI (mVar 6) (mC (.int 0))) (mNil))))) (mPass)) (mRet (mIte (mB (m2 (eqI) (mVar 4) (mC (.int 1)))) (mTup (mCons (mC (.str "undefined")) (mCons (mC (.str "alone")) (mNil)))) (mTup (mCons (mC (.str "kept")) (mCons (mTup (mCons (mVar 2) (mCons (m2 addI (mSl false (mVar 3) (mNoPart) (mPart (m2 itemI (mVar 6) (mC (.int 0))))) (mSl false (mVar 3) (mPart (m2 addI (m2 itemI (mVar 6) (mC (.int 0))) (mC (.int 1)))) (mNoPart))) (mNil)))) (mNil))))))) (mPass)) (mSeq (mIfS (mB (m2 (eqI) (mVar 5) (mC (.str "turn")))) (mSeq (mIfS (mB (m2 (cmpI fun i j => decide (j ≤ i)) (m2 itemI (mVar 6) (mC (.int 0))) (mVar 4))) (mRet (mTup (mCons (mC (.str "item")) (mCons (m2 itemI (mVar 6) (mC (.int 0))) (mNil))))) (mPass)) (mSeq (mIfS (mB (m2 (cmpI fun i j => decide (j ≤ i)) (mCall (pv1 maxTI) (mCons (m2 itemI (mVar 6) (mC (.int 1))) (mNil))) (mVar 2))) (mRet (mTup (mCons (mC (.str "mark")) (mCons (m2 itemI (mVar 6) (mC (.int 1))) (mNil))))) (mPass)) (mRet (mTup (mCons (mC (.str "kept")) (mCons (mTup (mCons (mVar 2) (mCons (m2 addI (m2 addI (mSl false (mVar 3) (mNoPart) (mPart (m2 itemI (mVar 6) (mC (.int 0))))) (mTup (mCons (m2 itemI (mVar 6) (mC (.int 1))) (mNil)))) (mSl false (mVar 3) (mPart (m2 addI (m2 itemI (mVar 6) (mC (.int 0))) (mC (.int 1)))) (mNoPart))) (mNil)))) (mNil))))))) (mPass)) (mSeq (mIfS (mB (m2 (eqI) (mVar 5) (mC (.str "widen")))) (mSeq (mSet 7 (mCall (pv1 maxI) (mCons (mLc false (mSrc (mVar 3)) [9] (gSet 9) (mTB true) (mCall (pv1 maxTI) (mCons (mVar 9) (mNil)))) (mNil)))) (mRet (mIte (mIte (mB (m2 (cmpI fun i j => decide (j < i)) (m2 itemI (mVar 6) (mC (.int 0))) (mC (.int 8)))) (mTB true) (mB (m2 (cmpI fun i j => decide (i ≤ j)) (m2 itemI (mVar 6) (mC (.int 0))) (mVar 7)))) (mTup (mCons (mC (.str "number")) (mCons (m2 itemI (mVar 6) (mC (.int 0))) (mNil)))) (mTup (mCons (mC (.str "kept")) (mCons (mTup (mCons (m2 itemI (mVar 6) (mC (.int 0))) (mCons (mVar 3) (mNil)))) (mNil))))))) (mPass)) (mSeq (mIfS (mB (m2 (eqI) (m2 modI (mCall (pv1 intI) (mCons (mVar 2) (mNil))) (mC (.int 2))) (mC (.int 1)))) (mRet (mTup (mCons (mC (.str "undefined")) (mCons (mC (.str "odd")) (mNil))))) (mPass)) (mSeq (mSet 8 (m2 fdivI (mVar 2) (mC (.int 2)))) (mRet (mTup (mCons (mC (.str "kept")) (mCons (mTup (mCons (mVar 8) (mCons (mCall (pv1 tupleI) (mCons (mLc false (mSrc (mVar 3)) [9] (gSet 9) (mTB true) (mCall (pv1 tupleI) (mCons (mLc false (mRng1 (mCons (mVar 8) (mNil))) [10] (gSet 10) (mIte (mB (m2 (inI) (mVar 10) (mVar 9))) (mTB true) (mB (m2 (inI) (m2 addI (mVar 10) (mVar 8)) (mVar 9)))) (mVar 10)) (mNil)))) (mNil))) (mNil)))) (mNil)))))))))))))
noncomputable def g_law_edited : MF := finM false 11 m_law_edited
theorem d_law_edited (T : Tx w K mg) : DefOk P w K mg base 3 "_law_edited" ["marking", "edit"] g_law_edited := def_okF false T.F_law_edited sc_law_edited (fun f cdv A outer s H E hr => ss_cons (s_asg (e_var 0) (g_tup rfl (gs_cons (g_name 2 sc_law_edited.nd) (gs_cons (g_name 3 sc_law_edited.nd) (gs_nil)))))
    (ss_cons (s_set 4 sc_law_edited.nd (e_callB call_len v_len (by rfl) T.b_len (by decide +kernel) (a_cons (e_var 3) (a_nil))))
    (ss_cons (s_asg (e_var 1) (g_tup rfl (gs_cons (g_name 5 sc_law_edited.nd) (gs_cons (g_name 6 sc_law_edited.nd) (gs_nil)))))
    (ss_cons (s_if (t_cmp (c_eq hr.units) (e_var 5) (e_str)) (ss_cons (s_if (t_w (w_or (t_cmp (c_eq hr.units) (e_var 4) (e_int)) (w_or1 (t_cmp (c_ge) (e_callB (cr_maxT (hu65 hr) (by rfl)) v_maxT (by rfl) T.b_max (by decide +kernel) (a_cons (e_ix (e_var 6) (e_int)) (a_nil))) (e_var 2))))) (ss_one (s_ret (e_tup (a_cons (e_str) (a_cons (e_ix (e_var 6) (e_int)) (a_nil)))))) (ss_nil))
    (ss_one (s_ret (e_tup (a_cons (e_str) (a_cons (e_tup (a_cons (e_var 2) (a_cons (e_add (e_var 3) (e_tup (a_cons (e_ix (e_var 6) (e_int)) (a_nil)))) (a_nil)))) (a_nil))))))) (ss_nil))
    (ss_cons (s_if (t_cmp (c_eq hr.units) (e_var 5) (e_str)) (ss_cons (s_if (t_cmp (c_ge) (e_ix (e_var 6) (e_int)) (e_var 4)) (ss_one (s_ret (e_tup (a_cons (e_str) (a_cons (e_ix (e_var 6) (e_int)) (a_nil)))))) (ss_nil))
    (ss_one (s_ret (e_ifx (t_cmp (c_eq hr.units) (e_var 4) (e_int)) (e_tup (a_cons (e_str) (a_cons (e_str) (a_nil)))) (e_tup (a_cons (e_str) (a_cons (e_tup (a_cons (e_var 2) (a_cons (e_add (e_sl false (e_var 3) (o_none) (o_some (e_ix (e_var 6) (e_int)))) (e_sl false (e_var 3) (o_some (e_add (e_ix (e_var 6) (e_int)) (e_int))) (o_none))) (a_nil)))) (a_nil)))))))) (ss_nil))
    (ss_cons (s_if (t_cmp (c_eq hr.units) (e_var 5) (e_str)) (ss_cons (s_if (t_cmp (c_ge) (e_ix (e_var 6) (e_int)) (e_var 4)) (ss_one (s_ret (e_tup (a_cons (e_str) (a_cons (e_ix (e_var 6) (e_int)) (a_nil)))))) (ss_nil))
    (ss_cons (s_if (t_cmp (c_ge) (e_callB (cr_maxT (hu65 hr) (by rfl)) v_maxT (by rfl) T.b_max (by decide +kernel) (a_cons (e_ix (e_var 6) (e_int)) (a_nil))) (e_var 2)) (ss_one (s_ret (e_tup (a_cons (e_str) (a_cons (e_ix (e_var 6) (e_int)) (a_nil)))))) (ss_nil))
    (ss_one (s_ret (e_tup (a_cons (e_str) (a_cons (e_tup (a_cons (e_var 2) (a_cons (e_add (e_add (e_sl false (e_var 3) (o_none) (o_some (e_ix (e_var 6) (e_int)))) (e_tup (a_cons (e_ix (e_var 6) (e_int)) (a_nil)))) (e_sl false (e_var 3) (o_some (e_add (e_ix (e_var 6) (e_int)) (e_int))) (o_none))) (a_nil)))) (a_nil)))))))) (ss_nil))
    (ss_cons (s_if (t_cmp (c_eq hr.units) (e_var 5) (e_str)) (ss_cons (s_set 7 sc_law_edited.nd (e_callB (cr_max (by rfl)) v_max (by rfl) T.b_max (by decide +kernel) (a_cons (e_lc false [("mark", 9)] (ct_name 9) rfl sc_law_edited.nd (i_seq (e_var 3)) (blkOk_by (by kernel_rfl)) (fun _ _ _ _ _ => (pg_name (i := 9) sc_law_edited.nd rfl (by first | exact Or.inl rfl | exact Or.inr rfl))) (fun _ _ _ _ _ => ts_nil) (fun _ _ _ _ _ => e_callB (cr_maxT (hu65 hr) (by rfl)) v_maxT (by rfl) T.b_max (by decide +kernel) (a_cons (e_var 9) (a_nil)))) (a_nil))))
    (ss_one (s_ret (e_ifx (t_w (w_or (t_cmp (c_gt) (e_ix (e_var 6) (e_int)) (e_int)) (w_or1 (t_cmp (c_le) (e_ix (e_var 6) (e_int)) (e_var 7))))) (e_tup (a_cons (e_str) (a_cons (e_ix (e_var 6) (e_int)) (a_nil)))) (e_tup (a_cons (e_str) (a_cons (e_tup (a_cons (e_ix (e_var 6) (e_int)) (a_cons (e_var 3) (a_nil)))) (a_nil)))))))) (ss_nil))
    (ss_cons (s_if (t_cmp (c_eq hr.units) (e_mod (e_callTy call_int1 v_int (by rfl) T.b_int (by decide +kernel) (a_cons (e_var 2) (a_nil))) (e_int)) (e_int)) (ss_one (s_ret (e_tup (a_cons (e_str) (a_cons (e_str) (a_nil)))))) (ss_nil))
    (ss_cons (s_set 8 sc_law_edited.nd (e_fdiv (e_var 2) (e_int)))
    (ss_one (s_ret (e_tup (a_cons (e_str) (a_cons (e_tup (a_cons (e_var 8) (a_cons (e_callTy call_tuple_of v_tuple (by rfl) T.b_tuple (by decide +kernel) (a_cons (e_lc false [("mark", 9)] (ct_name 9) rfl sc_law_edited.nd (i_seq (e_var 3)) (blkOk_by (by kernel_rfl)) (fun _ _ _ _ _ => (pg_name (i := 9) sc_law_edited.nd rfl (by first | exact Or.inl rfl | exact Or.inr rfl))) (fun _ _ _ _ _ => ts_nil) (fun _ _ _ _ _ => e_callTy call_tuple_of v_tuple (by rfl) T.b_tuple (by decide +kernel) (a_cons (e_lc false [("cell", 10)] (ct_name 10) rfl sc_law_edited.nd (i_rng1 (by rfl) T.b_range (a_cons (e_var 8) (a_nil))) (blkOk_by (by kernel_rfl)) (fun _ _ _ _ _ => (pg_name (i := 10) sc_law_edited.nd rfl (by first | exact Or.inl rfl | exact Or.inr rfl))) (fun _ _ _ _ _ => ts_one (t_w (w_or (t_cmp (c_in (hu65 hr)) (e_var 10) (e_var 9)) (w_or1 (t_cmp (c_in (hu65 hr)) (e_add (e_var 10) (e_var 8)) (e_var 9)))))) (fun _ _ _ _ _ => e_var 10)) (a_nil)))) (a_nil))) (a_nil)))) (a_nil)))))))))))))))
noncomputable def m_is_mark : MS := mRet (mAndV (mCallD 2 g_is_ascending (mCons (mVar 1) (mCons (mVar 0) (mNil)))) (m2 (cmpI fun i j => decide (j < i)) (mCall (pv1 lenI) (mCons (mVar 1) (mNil))) (mC (.int 0))))
noncomputable def g_is_mark : MF := finM false 2 m_is_mark
theorem d_is_mark (T : Tx w K mg) : DefOk P w K mg base 4 "is_mark" ["cells", "value"] g_is_mark := def_okF false T.F_is_mark sc_is_mark (fun f cdv A outer s H E hr => ss_one (s_ret (e_and (e_call (d_is_ascending T) (hr.mono (by decide)) (by rfl) tk_def (a_cons (e_var 1) (a_cons (e_var 0) (a_nil)))) (e_and1 (e_cmp (c_gt) (e_callB call_len v_len (by rfl) T.b_len (by decide +kernel) (a_cons (e_var 1) (a_nil))) (e_int))))))
noncomputable def m_are_keys : MS := mRet (mCallD 2 g_is_ascending (mCons (mVar 1) (mCons (mCall (lenOM "Marking" g_Marking_len) (mCons (mVar 0) (mNil))) (mNil))))
noncomputable def g_are_keys : MF := finM false 2 m_are_keys
theorem d_are_keys (T : Tx w K mg) : DefOk P w K mg base 4 "are_keys" ["marking", "value"] g_are_keys := def_okF false T.F_are_keys sc_are_keys (fun f cdv A outer s H E hr => ss_one (s_ret (e_call (d_is_ascending T) (hr.mono (by decide)) (by rfl) tk_def (a_cons (e_var 1) (a_cons (e_lenO (d_Marking_len T) rfl (hr.mono (by decide)) (by rfl) T.b_len (a_cons (e_var 0) (a_nil))) (a_nil))))))
noncomputable def m_are_bits : MS := mRet (mCallD 2 g_is_ascending (mCons (mVar 1) (mCons (mFld "Marking" "cells" (mVar 0)) (mNil))))
noncomputable def g_are_bits : MF := finM false 2 m_are_bits
theorem d_are_bits (T : Tx w K mg) : DefOk P w K mg base 4 "are_bits" ["marking", "value"] g_are_bits := def_okF false T.F_are_bits sc_are_bits (fun f cdv A outer s H E hr => ss_one (s_ret (e_call (d_is_ascending T) (hr.mono (by decide)) (by rfl) tk_def (a_cons (e_var 1) (a_cons (e_fld "Marking" (e_var 0) (T.f_Marking_cells)) (a_nil))))))
noncomputable def m_law_marking : MS := mSeq (mSet 2 (mCallD 2 g_law_box (mCons (mVar 0) (mCons (mC (.int 0)) (mNil))))) (mSeq (mSet 3 (mCallD 2 g_law_pick (mCons (mVar 2) (mCons (mLst false (mCons (mC (.int 8)) (mCons (mC (.int 7)) (mCons (mC (.int 6)) (mCons (mC (.int 5)) (mCons (mC (.int 4)) (mCons (mC (.int 3)) (mCons (mC (.int 2)) (mCons (mC (.int 1)) (mNil)))))))))) (mNil))))) (mSeq (mSet 4 (mCallD 2 g_law_pick (mCons (mVar 2) (mCons (mLst false (mCons (mVar 1) (mCons (mVar 1) (mCons (m2 subI (mVar 1) (mC (.int 1))) (mCons (mCall (pv2 max2I) (mCons (mC (.int 1)) (mCons (m2 subI (mVar 1) (mC (.int 2))) (mNil)))) (mCons (mCall (pv2 max2I) (mCons (mC (.int 1)) (mCons (m2 subI (mVar 1) (mC (.int 3))) (mNil)))) (mCons (mCall (pv2 min2I) (mCons (mC (.int 3)) (mCons (mVar 1) (mNil)))) (mCons (mC (.int 2)) (mCons (mC (.int 1)) (mNil)))))))))) (mNil))))) (mSeq (mSet 5 (mCallD 2 g_law_take (mCons (mVar 2) (mCons (mC (.int 4)) (mNil))))) (mSeq (mSet 6 (mLst true (mNil))) (mSeq (mFor (mRng1 (mCons (mVar 4) (mNil))) (gSet 7) (mSeq (mSet 8 (m2 itemI (mLst false (mCons (m2 addI (mC (.int 1)) (mCallD 2 g_law_take (mCons (mVar 2) (mCons (mVar 3) (mNil))))) (mCons (mCall (pv2 min2I) (mCons (mVar 3) (mCons (mC (.int 2)) (mNil)))) (mCons (m2 fdivI (m2 addI (mVar 3) (mC (.int 1))) (mC (.int 2))) (mCons (mCall (pv2 min2I) (mCons (mVar 3) (mCons (mC (.int 3)) (mNil)))) (mNil)))))) (mVar 5))) (mSeq (mSet 9 (mCall (pv1 tupleI) (mCons (mCall (sortM false) (mCons (mSl false (mCallD 2 g_law_shuffled (mCons (mVar 2) (mCons (mLstRg false (mCons (mVar 3) (mNil))) (mNil)))) (mNoPart) (mPart (mVar 8))) (mNil))) (mNil)))) (mSeq (mIfS (mIte (mB (m2 (neI) (mVar 6) (mLst false (mNil)))) (mB (m2 (eqI) (mCallD 2 g_law_take (mCons (mVar 2) (mCons (mC (.int 8)) (mNil)))) (mC (.int 0)))) (mTB false)) (mSet 9 (mCallD 2 g_law_pick (mCons (mVar 2) (mCons (mVar 6) (mNil))))) (mPass)) (mExpr (mMt appM (mVar 6) (mCons (mVar 9) (mNil)))))))) (mRet (mTup (mCons (mVar 3) (mCons (mCall (pv1 tupleI) (mCons (mVar 6) (mNil))) (mNil))))))))))
noncomputable def g_law_marking : MF := finM false 10 m_law_marking
theorem d_law_marking (T : Tx w K mg) : DefOk P w K mg base 4 "_law_marking" ["script", "most"] g_law_marking := def_okF false T.F_law_marking sc_law_marking (fun f cdv A outer s H E hr => ss_cons (s_set 2 sc_law_marking.nd (e_call (d_law_box T) (hr.mono (by decide)) (by rfl) tk_def (a_cons (e_var 0) (a_cons (e_int) (a_nil)))))
    (ss_cons (s_set 3 sc_law_marking.nd (e_call (d_law_pick T) (hr.mono (by decide)) (by rfl) tk_def (a_cons (e_var 2) (a_cons (e_lst false (a_cons (e_int) (a_cons (e_int) (a_cons (e_int) (a_cons (e_int) (a_cons (e_int) (a_cons (e_int) (a_cons (e_int) (a_cons (e_int) (a_nil)))))))))) (a_nil)))))
    (ss_cons (s_set 4 sc_law_marking.nd (e_call (d_law_pick T) (hr.mono (by decide)) (by rfl) tk_def (a_cons (e_var 2) (a_cons (e_lst false (a_cons (e_var 1) (a_cons (e_var 1) (a_cons (e_sub (e_var 1) (e_int)) (a_cons (e_callB (call_max2 (by rfl)) v_max2 (by rfl) T.b_max (by decide +kernel) (a_cons (e_int) (a_cons (e_sub (e_var 1) (e_int)) (a_nil)))) (a_cons (e_callB (call_max2 (by rfl)) v_max2 (by rfl) T.b_max (by decide +kernel) (a_cons (e_int) (a_cons (e_sub (e_var 1) (e_int)) (a_nil)))) (a_cons (e_callB (call_min2 (by rfl)) v_min2 (by rfl) T.b_min (by decide +kernel) (a_cons (e_int) (a_cons (e_var 1) (a_nil)))) (a_cons (e_int) (a_cons (e_int) (a_nil)))))))))) (a_nil)))))
    (ss_cons (s_set 5 sc_law_marking.nd (e_call (d_law_take T) (hr.mono (by decide)) (by rfl) tk_def (a_cons (e_var 2) (a_cons (e_int) (a_nil)))))
    (ss_cons (s_set 6 sc_law_marking.nd (e_lst true (a_nil)))
    (ss_cons (s_for po_def rfl (i_rng1 (by rfl) T.b_range (a_cons (e_var 4) (a_nil))) (g_name 7 sc_law_marking.nd) (ss_cons (s_set 8 sc_law_marking.nd (e_ix (e_lst false (a_cons (e_add (e_int) (e_call (d_law_take T) (hr.mono (by decide)) (by rfl) tk_def (a_cons (e_var 2) (a_cons (e_var 3) (a_nil))))) (a_cons (e_callB (call_min2 (by rfl)) v_min2 (by rfl) T.b_min (by decide +kernel) (a_cons (e_var 3) (a_cons (e_int) (a_nil)))) (a_cons (e_fdiv (e_add (e_var 3) (e_int)) (e_int)) (a_cons (e_callB (call_min2 (by rfl)) v_min2 (by rfl) T.b_min (by decide +kernel) (a_cons (e_var 3) (a_cons (e_int) (a_nil)))) (a_nil)))))) (e_var 5)))
    (ss_cons (s_set 9 sc_law_marking.nd (e_callTy call_tuple_of v_tuple (by rfl) T.b_tuple (by decide +kernel) (a_cons (e_callB cr_sortedI (v_sorted false) (by rfl) T.b_sorted (by decide +kernel) (a_cons (e_sl false (e_call (d_law_shuffled T) (hr.mono (by decide)) (by rfl) tk_def (a_cons (e_var 2) (a_cons (e_lstRg1 (by rfl) T.b_range false rfl (by rfl) T.b_list (e_var 3)) (a_nil)))) (o_none) (o_some (e_var 8))) (a_nil))) (a_nil))))
    (ss_cons (s_if (t_w (w_and (t_cmp (c_ne hr.units) (e_var 6) (e_lst false (a_nil))) (w_and1 (t_cmp (c_eq hr.units) (e_call (d_law_take T) (hr.mono (by decide)) (by rfl) tk_def (a_cons (e_var 2) (a_cons (e_int) (a_nil)))) (e_int))))) (ss_one (s_set 9 sc_law_marking.nd (e_call (d_law_pick T) (hr.mono (by decide)) (by rfl) tk_def (a_cons (e_var 2) (a_cons (e_var 6) (a_nil)))))) (ss_nil))
    (ss_one (s_expr (e_append (e_var 6) (a_cons (e_var 9) (a_nil)))))))))
    (ss_one (s_ret (e_tup (a_cons (e_var 3) (a_cons (e_callTy call_tuple_of v_tuple (by rfl) T.b_tuple (by decide +kernel) (a_cons (e_var 6) (a_nil))) (a_nil))))))))))))
noncomputable def m_law_edit : MS := mSeq (mAsg (gTupI 2 (gsCons (gSet 2) (gsCons (gSet 3) (gsNil)))) (mVar 1)) (mSeq (mSet 4 (mCall (pv1 lenI) (mCons (mVar 3) (mNil)))) (mSeq (mSet 5 (mCallD 2 g_law_pick (mCons (mVar 0) (mCons (mLst false (mCons (mC (.str "add")) (mCons (mC (.str "add")) (mCons (mC (.str "drop")) (mCons (mC (.str "turn")) (mCons (mC (.str "turn")) (mCons (mC (.str "widen")) (mCons (mC (.str "widen")) (mCons (mC (.str "fold")) (mNil)))))))))) (mNil))))) (mSeq (mSet 6 (mCall (pv1 tupleI) (mCons (mLc false (mRng1 (mCons (mVar 2) (mNil))) [7] (gSet 7) (mB (m2 (eqI) (mCallD 2 g_law_take (mCons (mVar 0) (mCons (mC (.int 3)) (mNil)))) (mC (.int 0)))) (mVar 7)) (mNil)))) (mSeq (mSet 6 (mIte (mB (m2 (neI) (mVar 6) (mTup (mNil)))) (mVar 6) (mTup (mCons (mCallD 2 g_law_take (mCons (mVar 0) (mCons (m2 addI (mVar 2) (mC (.int 1))) (mNil)))) (mNil))))) (mSeq (mIfS (mB (m2 (eqI) (mVar 5) (mC (.str "add")))) (mRet (mTup (mCons (mVar 5) (mCons (mTup (mCons (mVar 6) (mNil))) (mNil))))) (mPass)) (mSeq (mIfS (mB (m2 (eqI) (mVar 5) (mC (.str "turn")))) (mRet (mTup (mCons (mVar 5) (mCons (mTup (mCons (mCallD 2 g_law_take (mCons (mVar 0) (mCons (m2 addI (mVar 4) (mC (.int 1))) (mNil)))) (mCons (mVar 6) (mNil)))) (mNil))))) (mPass)) (mSeq (mIfS (mB (m2 (eqI) (mVar 5) (mC (.str "drop")))) (mRet (mTup (mCons (mVar 5) (mCons (mTup (mCons (mCallD 2 g_law_take (mCons (mVar 0) (mCons (m2 addI (mVar 4) (mC (.int 1))) (mNil)))) (mNil))) (mNil))))) (mPass)) (mRet (mTup (mCons (mVar 5) (mCons (mIte (mB (m2 (eqI) (mVar 5) (mC (.str "widen")))) (mTup (mCons (m2 addI (mC (.int 1)) (mCallD 2 g_law_take (mCons (mVar 0) (mCons (mC (.int 9)) (mNil))))) (mNil))) (mTup (mNil))) (mNil))))))))))))
noncomputable def g_law_edit : MF := finM false 8 m_law_edit
theorem d_law_edit (T : Tx w K mg) : DefOk P w K mg base 4 "_law_edit" ["box", "marking"] g_law_edit := def_okF false T.F_law_edit sc_law_edit (fun f cdv A outer s H E hr => ss_cons (s_asg (e_var 1) (g_tup rfl (gs_cons (g_name 2 sc_law_edit.nd) (gs_cons (g_name 3 sc_law_edit.nd) (gs_nil)))))
    (ss_cons (s_set 4 sc_law_edit.nd (e_callB call_len v_len (by rfl) T.b_len (by decide +kernel) (a_cons (e_var 3) (a_nil))))
    (ss_cons (s_set 5 sc_law_edit.nd (e_call (d_law_pick T) (hr.mono (by decide)) (by rfl) tk_def (a_cons (e_var 0) (a_cons (e_lst false (a_cons (e_str) (a_cons (e_str) (a_cons (e_str) (a_cons (e_str) (a_cons (e_str) (a_cons (e_str) (a_cons (e_str) (a_cons (e_str) (a_nil)))))))))) (a_nil)))))
    (ss_cons (s_set 6 sc_law_edit.nd (e_callTy call_tuple_of v_tuple (by rfl) T.b_tuple (by decide +kernel) (a_cons (e_lc false [("cell", 7)] (ct_name 7) rfl sc_law_edit.nd (i_rng1 (by rfl) T.b_range (a_cons (e_var 2) (a_nil))) (blkOk_by (by kernel_rfl)) (fun _ _ _ _ _ => (pg_name (i := 7) sc_law_edit.nd rfl (by first | exact Or.inl rfl | exact Or.inr rfl))) (fun _ _ _ _ _ => ts_one (t_cmp (c_eq hr.units) (e_call (d_law_take T) (hr.mono (by decide)) (by rfl) takes0 (a_cons (e_var 0) (a_cons (e_int) (a_nil)))) (e_int))) (fun _ _ _ _ _ => e_var 7)) (a_nil))))
    (ss_cons (s_set 6 sc_law_edit.nd (e_ifx (t_cmp (c_ne hr.units) (e_var 6) (e_tup (a_nil))) (e_var 6) (e_tup (a_cons (e_call (d_law_take T) (hr.mono (by decide)) (by rfl) tk_def (a_cons (e_var 0) (a_cons (e_add (e_var 2) (e_int)) (a_nil)))) (a_nil)))))
    (ss_cons (s_if (t_cmp (c_eq hr.units) (e_var 5) (e_str)) (ss_one (s_ret (e_tup (a_cons (e_var 5) (a_cons (e_tup (a_cons (e_var 6) (a_nil))) (a_nil)))))) (ss_nil))
    (ss_cons (s_if (t_cmp (c_eq hr.units) (e_var 5) (e_str)) (ss_one (s_ret (e_tup (a_cons (e_var 5) (a_cons (e_tup (a_cons (e_call (d_law_take T) (hr.mono (by decide)) (by rfl) tk_def (a_cons (e_var 0) (a_cons (e_add (e_var 4) (e_int)) (a_nil)))) (a_cons (e_var 6) (a_nil)))) (a_nil)))))) (ss_nil))
    (ss_cons (s_if (t_cmp (c_eq hr.units) (e_var 5) (e_str)) (ss_one (s_ret (e_tup (a_cons (e_var 5) (a_cons (e_tup (a_cons (e_call (d_law_take T) (hr.mono (by decide)) (by rfl) tk_def (a_cons (e_var 0) (a_cons (e_add (e_var 4) (e_int)) (a_nil)))) (a_nil))) (a_nil)))))) (ss_nil))
    (ss_one (s_ret (e_tup (a_cons (e_var 5) (a_cons (e_ifx (t_cmp (c_eq hr.units) (e_var 5) (e_str)) (e_tup (a_cons (e_add (e_int) (e_call (d_law_take T) (hr.mono (by decide)) (by rfl) tk_def (a_cons (e_var 0) (a_cons (e_int) (a_nil))))) (a_nil))) (e_tup (a_nil))) (a_nil))))))))))))))
noncomputable def m_are_marks : MS := mSeq (mIfS (mIte (mNot (mT (mIsi .tup (mVar 1)))) (mTB true) (mNot (mB (mChain (cmpI fun i j => decide (i ≤ j)) (cmpI fun i j => decide (i ≤ j)) (mC (.int 1)) (mCall (pv1 lenI) (mCons (mVar 1) (mNil))) (mC (.int 7)))))) (mRet (mC (.bl false))) (mPass)) (mRet (mCall (pv1 allI) (mCons (mLc false (mSrc (mVar 1)) [2] (gSet 2) (mTB true) (mCallD 2 g_is_mark (mCons (mVar 0) (mCons (mVar 2) (mNil))))) (mNil))))
noncomputable def g_are_marks : MF := finM false 3 m_are_marks
theorem d_are_marks (T : Tx w K mg) : DefOk P w K mg base 5 "are_marks" ["cells", "value"] g_are_marks := def_okF false T.F_are_marks sc_are_marks (fun f cdv A outer s H E hr => ss_cons (s_if (t_w (w_or (t_not (t_val (e_isi .tup T.b_isinstance (by rfl) (by rfl) (by rfl) T.b_tuple (by decide +kernel) (e_var 1)))) (w_or1 (t_not (t_chain (c_le) (c_le) (e_int) (e_callB call_len v_len (by rfl) T.b_len (by decide +kernel) (a_cons (e_var 1) (a_nil))) (e_gI T.c_MOST_MARKS)))))) (ss_one (s_ret (e_bl))) (ss_nil))
    (ss_one (s_ret (e_callB (cr_all (by rfl)) v_all (by rfl) T.b_all (by decide +kernel) (a_cons (e_lc false [("mark", 2)] (ct_name 2) rfl sc_are_marks.nd (i_seq (e_var 1)) (blkOk_by (by kernel_rfl)) (fun _ _ _ _ _ => (pg_name (i := 2) sc_are_marks.nd rfl (by first | exact Or.inl rfl | exact Or.inr rfl))) (fun _ _ _ _ _ => ts_nil) (fun _ _ _ _ _ => e_call (d_is_mark T) (hr.mono (by decide)) (by rfl) takes0 (a_cons (e_var 0) (a_cons (e_var 2) (a_nil))))) (a_nil))))))
noncomputable def m_filled : MS := mSeq (mIfS (mNot (mT (mCallD 2 g_are_keys (mCons (mVar 0) (mCons (mVar 1) (mNil)))))) (mRaise "InvalidKeys" "value" (mVar 1)) (mPass)) (mRet (mCall (pv1 tupleI) (mCons (mSortSet false (mClause (mSrc (mVar 1)) [2, 3] (gSet 2) (mTB true) (mClause (mSrc (m2 itemI (mFld "Marking" "marks" (mVar 0)) (mVar 2))) [3] (gSet 3) (mTB true) (mInt (mVar 3))))) (mNil))))
noncomputable def g_filled : MF := finM false 4 m_filled
theorem d_filled (T : Tx w K mg) : DefOk P w K mg base 5 "filled" ["marking", "keys"] g_filled := def_okF false T.F_filled sc_filled (fun f cdv A outer s H E hr => ss_cons (s_if (t_not (t_val (e_call (d_are_keys T) (hr.mono (by decide)) (by rfl) tk_def (a_cons (e_var 0) (a_cons (e_var 1) (a_nil)))))) (ss_one (s_raise (x_InvalidKeys T) (by rfl) (hr.mono (by decide)) (by rfl) tk_def (e_var 1))) (ss_nil))
    (ss_one (s_ret (e_callTy call_tuple_of v_tuple (by rfl) T.b_tuple (by decide +kernel) (a_cons (e_sortSet2 false [("key", 2), ("cell", 3)] [3] (by rfl) T.b_sorted (CT.sub (ct_name 2) (by decide)) (ct_name 3) (by decide) rfl sc_filled.nd (i_seq (e_var 1)) (blkOk_by (by kernel_rfl)) (fun _ _ _ _ _ => (pg_name (i := 2) sc_filled.nd rfl (by first | exact Or.inl rfl | exact Or.inr rfl))) (fun _ _ _ _ _ => ts_nil) (fun _ _ _ _ _ => i_seq (e_ix (e_fld "Marking" (e_var 0) (T.f_Marking_marks)) (e_var 2))) (fun _ _ _ _ _ => (pg_name (i := 3) sc_filled.nd rfl (by first | exact Or.inl rfl | exact Or.inr rfl))) (fun _ _ _ _ _ => ts_nil) (fun _ _ _ _ _ => e_var 3)) (a_nil))))))
noncomputable def m_says : MS := mSeq (mIfS (mNot (mT (mCallD 2 g_are_bits (mCons (mVar 0) (mCons (mVar 1) (mNil)))))) (mRaise "InvalidBits" "value" (mVar 1)) (mPass)) (mRet (mCall (pv1 tupleI) (mCons (mLc false (mEnum (mCons (mFld "Marking" "marks" (mVar 0)) (mNil))) [2, 3] (gTupI 2 (gsCons (gSet 2) (gsCons (gSet 3) gsNil))) (mT (mCallD 2 g_lies_within (mCons (mVar 3) (mCons (mVar 1) (mNil))))) (mVar 2)) (mNil))))
noncomputable def g_says : MF := finM false 4 m_says
theorem d_says (T : Tx w K mg) : DefOk P w K mg base 5 "says" ["marking", "bits"] g_says := def_okF false T.F_says sc_says (fun f cdv A outer s H E hr => ss_cons (s_if (t_not (t_val (e_call (d_are_bits T) (hr.mono (by decide)) (by rfl) tk_def (a_cons (e_var 0) (a_cons (e_var 1) (a_nil)))))) (ss_one (s_raise (x_InvalidBits T) (by rfl) (hr.mono (by decide)) (by rfl) tk_def (e_var 1))) (ss_nil))
    (ss_one (s_ret (e_callTy call_tuple_of v_tuple (by rfl) T.b_tuple (by decide +kernel) (a_cons (e_lc false [("item", 2), ("mark", 3)] (ct_two 2 3) rfl sc_says.nd (i_enum (by rfl) T.b_enumerate (a_cons (e_fld "Marking" (e_var 0) (T.f_Marking_marks)) (a_nil))) (blkOk_by (by kernel_rfl)) (fun _ _ _ _ _ => pg_two rfl (pg_name (i := 2) sc_says.nd rfl (by first | exact Or.inl rfl | exact Or.inr rfl)) (pg_name (i := 3) sc_says.nd rfl (by first | exact Or.inl rfl | exact Or.inr rfl))) (fun _ _ _ _ _ => ts_one (t_val (e_call (d_lies_within T) (hr.mono (by decide)) (by rfl) takes0 (a_cons (e_var 3) (a_cons (e_var 1) (a_nil)))))) (fun _ _ _ _ _ => e_var 2)) (a_nil))))))
noncomputable def m_Desk_kept_for : MS := mSeq (mIfS (mB (m2 (notInI) (mVar 1) (mFldO "Desk" "watched" (mVar 0)))) (mRet (mC .non)) (mPass)) (mRet (m2 itemI (mFldO "Desk" "_kept" (mVar 0)) (mMeth "Desk" "_place" 2 g_Desk_place (mVar 0) (mCons (mVar 1) (mNil)))))
noncomputable def g_Desk_kept_for : MF := finM false 2 m_Desk_kept_for
theorem d_Desk_kept_for (T : Tx w K mg) : MetOk P w K mg base 5 "Desk" "_kept_for" ["self", "question"] g_Desk_kept_for := met_ok false T.M_Desk_kept_for sc_Desk_kept_for (fun f cdv A outer s H E hr => ss_cons (s_if (t_cmp (c_notIn (hu65 hr)) (e_var 1) (e_fldO "Desk" (e_var 0) (T.f_Desk_watched))) (ss_one (s_ret (e_non))) (ss_nil))
    (ss_one (s_ret (e_ix (e_fldO "Desk" (e_var 0) (T.f_Desk__kept)) (e_meth (d_Desk_place T) T.k_Desk_place (hr.mono (by decide)) tk_def (e_var 0) (a_cons (e_var 1) (a_nil)))))))
noncomputable def m_Marking_init : MS := mSeq (mIfS (mNot (mT (mCallD 3 g_is_integer_within (mCons (mVar 1) (mCons (mC (.int 1)) (mCons (mC (.int 8)) (mNil))))))) (mRaise "InvalidNumber" "value" (mVar 1)) (mPass)) (mSeq (mIfS (mNot (mT (mCallD 2 g_are_marks (mCons (mVar 1) (mCons (mVar 2) (mNil)))))) (mRaise "InvalidMarks" "value" (mVar 2)) (mPass)) (mSeq (mPutF "Marking" "cells" (mVar 0) (mVar 1)) (mPutF "Marking" "marks" (mVar 0) (mCall (pv1 tupleI) (mCons (mLc false (mSrc (mVar 2)) [3] (gSet 3) (mTB true) (mCall (pv1 tupleI) (mCons (mVar 3) (mNil)))) (mNil))))))
noncomputable def g_Marking_init : MF := finM false 4 m_Marking_init
theorem d_Marking_init (T : Tx w K mg) : ClsOk P w K mg base 6 "Marking" ["self", "cells", "marks"] g_Marking_init := cls_ok false T.C_Marking sc_Marking_init (fun f cdv A outer s H E hr => ss_cons (s_if (t_not (t_val (e_call (d_is_integer_within T) (hr.mono (by decide)) (by rfl) tk_def (a_cons (e_var 1) (a_cons (e_int) (a_cons (e_gI T.c_MOST_CELLS) (a_nil))))))) (ss_one (s_raise (x_InvalidNumber T) (by rfl) (hr.mono (by decide)) (by rfl) tk_def (e_var 1))) (ss_nil))
    (ss_cons (s_if (t_not (t_val (e_call (d_are_marks T) (hr.mono (by decide)) (by rfl) tk_def (a_cons (e_var 1) (a_cons (e_var 2) (a_nil)))))) (ss_one (s_raise (x_InvalidMarks T) (by rfl) (hr.mono (by decide)) (by rfl) tk_def (e_var 2))) (ss_nil))
    (ss_cons (s_fld "Marking" (e_var 0) (e_var 1) (T.f_Marking_cells))
    (ss_one (s_fld "Marking" (e_var 0) (e_callTy call_tuple_of v_tuple (by rfl) T.b_tuple (by decide +kernel) (a_cons (e_lc false [("mark", 3)] (ct_name 3) rfl sc_Marking_init.nd (i_seq (e_var 2)) (blkOk_by (by kernel_rfl)) (fun _ _ _ _ _ => (pg_name (i := 3) sc_Marking_init.nd rfl (by first | exact Or.inl rfl | exact Or.inr rfl))) (fun _ _ _ _ _ => ts_nil) (fun _ _ _ _ _ => e_callTy call_tuple_of v_tuple (by rfl) T.b_tuple (by decide +kernel) (a_cons (e_var 3) (a_nil)))) (a_nil))) (T.f_Marking_marks))))))
noncomputable def m_wrong : MS := mSeq (mIfS (mNot (mT (mCallD 2 g_are_keys (mCons (mVar 0) (mCons (mVar 1) (mNil)))))) (mRaise "InvalidKeys" "value" (mVar 1)) (mPass)) (mSeq (mSet 2 (mCallD 2 g_says (mCons (mVar 0) (mCons (mCallD 2 g_filled (mCons (mVar 0) (mCons (mVar 1) (mNil)))) (mNil))))) (mRet (mCall (pv1 tupleI) (mCons (mLc false (mSrc (mVar 2)) [3] (gSet 3) (mB (m2 (notInI) (mVar 3) (mVar 1))) (mVar 3)) (mNil)))))
noncomputable def g_wrong : MF := finM false 4 m_wrong
theorem d_wrong (T : Tx w K mg) : DefOk P w K mg base 6 "wrong" ["marking", "keys"] g_wrong := def_okF false T.F_wrong sc_wrong (fun f cdv A outer s H E hr => ss_cons (s_if (t_not (t_val (e_call (d_are_keys T) (hr.mono (by decide)) (by rfl) tk_def (a_cons (e_var 0) (a_cons (e_var 1) (a_nil)))))) (ss_one (s_raise (x_InvalidKeys T) (by rfl) (hr.mono (by decide)) (by rfl) tk_def (e_var 1))) (ss_nil))
    (ss_cons (s_set 2 sc_wrong.nd (e_call (d_says T) (hr.mono (by decide)) (by rfl) tk_def (a_cons (e_var 0) (a_cons (e_call (d_filled T) (hr.mono (by decide)) (by rfl) tk_def (a_cons (e_var 0) (a_cons (e_var 1) (a_nil)))) (a_nil)))))
    (ss_one (s_ret (e_callTy call_tuple_of v_tuple (by rfl) T.b_tuple (by decide +kernel) (a_cons (e_lc false [("item", 3)] (ct_name 3) rfl sc_wrong.nd (i_seq (e_var 2)) (blkOk_by (by kernel_rfl)) (fun _ _ _ _ _ => (pg_name (i := 3) sc_wrong.nd rfl (by first | exact Or.inl rfl | exact Or.inr rfl))) (fun _ _ _ _ _ => ts_one (t_cmp (c_notIn (hu65 hr)) (e_var 3) (e_var 1))) (fun _ _ _ _ _ => e_var 3)) (a_nil)))))))
noncomputable def m_wrong_total : MS := mSeq (mIfS (mNot (mT (mCallD 3 g_is_integer_within (mCons (mVar 1) (mCons (mC (.int 0)) (mCons (mCall (lenOM "Marking" g_Marking_len) (mCons (mVar 0) (mNil))) (mNil))))))) (mRaise "InvalidNumber" "value" (mVar 1)) (mPass)) (mRet (mCall (pv1 sumI) (mCons (mLc false (mComb (mCons (mCall (lenOM "Marking" g_Marking_len) (mCons (mVar 0) (mNil))) (mNil)) (mVar 1)) [2] (gSet 2) (mTB true) (mCall (pv1 lenI) (mCons (mCallD 2 g_wrong (mCons (mVar 0) (mCons (mVar 2) (mNil)))) (mNil)))) (mNil))))
noncomputable def g_wrong_total : MF := finM false 3 m_wrong_total
theorem d_wrong_total (T : Tx w K mg) : DefOk P w K mg base 7 "wrong_total" ["marking", "size"] g_wrong_total := def_okF false T.F_wrong_total sc_wrong_total (fun f cdv A outer s H E hr => ss_cons (s_if (t_not (t_val (e_call (d_is_integer_within T) (hr.mono (by decide)) (by rfl) tk_def (a_cons (e_var 1) (a_cons (e_int) (a_cons (e_lenO (d_Marking_len T) rfl (hr.mono (by decide)) (by rfl) T.b_len (a_cons (e_var 0) (a_nil))) (a_nil))))))) (ss_one (s_raise (x_InvalidNumber T) (by rfl) (hr.mono (by decide)) (by rfl) tk_def (e_var 1))) (ss_nil))
    (ss_one (s_ret (e_callB (cr_sum (by rfl)) v_sum (by rfl) T.b_sum (by decide +kernel) (a_cons (e_lc false [("keys", 2)] (ct_name 2) rfl sc_wrong_total.nd (i_comb rfl (by rfl) T.b_range (by rfl) T.b_combinations (a_cons (e_lenO (d_Marking_len T) rfl (hr.mono (by decide)) (by rfl) T.b_len (a_cons (e_var 0) (a_nil))) (a_nil)) (e_var 1)) (blkOk_by (by kernel_rfl)) (fun _ _ _ _ _ => (pg_name (i := 2) sc_wrong_total.nd rfl (by first | exact Or.inl rfl | exact Or.inr rfl))) (fun _ _ _ _ _ => ts_nil) (fun _ _ _ _ _ => e_callB call_len v_len (by rfl) T.b_len (by decide +kernel) (a_cons (e_call (d_wrong T) (hr.mono (by decide)) (by rfl) takes0 (a_cons (e_var 0) (a_cons (e_var 2) (a_nil)))) (a_nil)))) (a_nil))))))
noncomputable def m_Desk_become : MS := mSeq (mSet 3 (mLc false (mSrc (mVar 2)) [4] (gSet 4) (mTB true) (mCallD 3 g_looked_at (mCons (mVar 1) (mCons (mVar 4) (mCons (mMeth "Desk" "_kept_for" 2 g_Desk_kept_for (mVar 0) (mCons (mVar 4) (mNil))) (mNil))))))) (mSeq (mPutO "Desk" "marking" (mVar 0) (mVar 1)) (mSeq (mPutO "Desk" "watched" (mVar 0) (mVar 2)) (mSeq (mPutO "Desk" "many" (mVar 0) (mLenF "Desk" "_ahead" (mVar 0))) (mSeq (mPutO "Desk" "_kept" (mVar 0) (mCall (pv1 tupleI) (mCons (mLc false (mSrc (mVar 3)) [5, 6] (gTupI 2 (gsCons (gSet 5) (gsCons (gSet 6) gsNil))) (mTB true) (mVar 5)) (mNil)))) (mPutO "Desk" "_words" (mVar 0) (mCall (pv1 tupleI) (mCons (mLc false (mSrc (mVar 3)) [6, 7] (gTupI 2 (gsCons (gSet 6) (gsCons (gSet 7) gsNil))) (mTB true) (mVar 7)) (mNil))))))))
noncomputable def g_Desk_become : MF := finM false 8 m_Desk_become
theorem d_Desk_become (T : Tx w K mg) : MetOk P w K mg base 7 "Desk" "_become" ["self", "marking", "watched"] g_Desk_become := met_ok false T.M_Desk_become sc_Desk_become (fun f cdv A outer s H E hr => ss_cons (s_setLc false 3 [("question", 4)] (ct_name 4) rfl sc_Desk_become.nd (i_seq (e_var 2)) (blkOk_by (by kernel_rfl)) (fun _ _ _ _ _ => (pg_name (i := 4) sc_Desk_become.nd rfl (by first | exact Or.inl rfl | exact Or.inr rfl))) (fun _ _ _ _ _ => ts_nil) (fun _ _ _ _ _ => e_call (d_looked_at T) (hr.mono (by decide)) (by rfl) takes0 (a_cons (e_var 1) (a_cons (e_var 4) (a_cons (e_meth (d_Desk_kept_for T) T.k_Desk_kept_for (hr.mono (by decide)) takes0 (e_var 0) (a_cons (e_var 4) (a_nil))) (a_nil))))))
    (ss_cons (s_fldO "Desk" (e_var 0) (e_var 1) (T.f_Desk_marking))
    (ss_cons (s_fldO "Desk" (e_var 0) (e_var 2) (T.f_Desk_watched))
    (ss_cons (s_fldO "Desk" (e_var 0) (e_lenF "Desk" (e_var 0) (T.f_Desk__ahead) (by rfl) T.b_len) (T.f_Desk_many))
    (ss_cons (s_fldO "Desk" (e_var 0) (e_callTy call_tuple_of v_tuple (by rfl) T.b_tuple (by decide +kernel) (a_cons (e_lc false [("kept", 5), ("_", 6)] (ct_two 5 6) rfl sc_Desk_become.nd (i_seq (e_var 3)) (blkOk_by (by kernel_rfl)) (fun _ _ _ _ _ => pg_two rfl (pg_name (i := 5) sc_Desk_become.nd rfl (by first | exact Or.inl rfl | exact Or.inr rfl)) (pg_name (i := 6) sc_Desk_become.nd rfl (by first | exact Or.inl rfl | exact Or.inr rfl))) (fun _ _ _ _ _ => ts_nil) (fun _ _ _ _ _ => e_var 5)) (a_nil))) (T.f_Desk__kept))
    (ss_one (s_fldO "Desk" (e_var 0) (e_callTy call_tuple_of v_tuple (by rfl) T.b_tuple (by decide +kernel) (a_cons (e_lc false [("_", 6), ("word", 7)] (ct_two 6 7) rfl sc_Desk_become.nd (i_seq (e_var 3)) (blkOk_by (by kernel_rfl)) (fun _ _ _ _ _ => pg_two rfl (pg_name (i := 6) sc_Desk_become.nd rfl (by first | exact Or.inl rfl | exact Or.inr rfl)) (pg_name (i := 7) sc_Desk_become.nd rfl (by first | exact Or.inl rfl | exact Or.inr rfl))) (fun _ _ _ _ _ => ts_nil) (fun _ _ _ _ _ => e_var 7)) (a_nil))) (T.f_Desk__words))))))))
noncomputable def m_folded : MS := mSeq (mIfS (mB (m2 (eqI) (m2 modI (mFld "Marking" "cells" (mVar 0)) (mC (.int 2))) (mC (.int 1)))) (mRaise "Undefined" "what" (mC (.str "odd"))) (mPass)) (mSeq (mSet 1 (m2 fdivI (mFld "Marking" "cells" (mVar 0)) (mC (.int 2)))) (mRet (mMake false "Marking" 3 g_Marking_init (mCons (mVar 1) (mCons (mCall (pv1 tupleI) (mCons (mLc false (mSrc (mFld "Marking" "marks" (mVar 0))) [2] (gSet 2) (mTB true) (mCallD 2 g_folded_mark (mCons (mVar 2) (mCons (mVar 1) (mNil))))) (mNil))) (mNil))))))
noncomputable def g_folded : MF := finM false 3 m_folded
theorem d_folded (T : Tx w K mg) : DefOk P w K mg base 8 "folded" ["marking"] g_folded := def_okF false T.F_folded sc_folded (fun f cdv A outer s H E hr => ss_cons (s_if (t_cmp (c_eq hr.units) (e_mod (e_fld "Marking" (e_var 0) (T.f_Marking_cells)) (e_int)) (e_int)) (ss_one (s_raise (x_Undefined T) (by rfl) (hr.mono (by decide)) (by rfl) tk_def (e_str))) (ss_nil))
    (ss_cons (s_set 1 sc_folded.nd (e_fdiv (e_fld "Marking" (e_var 0) (T.f_Marking_cells)) (e_int)))
    (ss_one (s_ret (e_make false (d_Marking_init T) (hr.mono (by decide)) (by rfl) tk_def (a_cons (e_var 1) (a_cons (e_callTy call_tuple_of v_tuple (by rfl) T.b_tuple (by decide +kernel) (a_cons (e_lc false [("mark", 2)] (ct_name 2) rfl sc_folded.nd (i_seq (e_fld "Marking" (e_var 0) (T.f_Marking_marks))) (blkOk_by (by kernel_rfl)) (fun _ _ _ _ _ => (pg_name (i := 2) sc_folded.nd rfl (by first | exact Or.inl rfl | exact Or.inr rfl))) (fun _ _ _ _ _ => ts_nil) (fun _ _ _ _ _ => e_call (d_folded_mark T) (hr.mono (by decide)) (by rfl) takes0 (a_cons (e_var 2) (a_cons (e_var 1) (a_nil))))) (a_nil))) (a_nil))))))))
noncomputable def m_law_made : MS := mRet (mMake false "Marking" 3 g_Marking_init (mCons (m2 itemI (mVar 0) (mC (.int 0))) (mCons (m2 itemI (mVar 0) (mC (.int 1))) (mNil))))
noncomputable def g_law_made : MF := finM false 1 m_law_made
theorem d_law_made (T : Tx w K mg) : DefOk P w K mg base 8 "_law_made" ["marking"] g_law_made := def_okF false T.F_law_made sc_law_made (fun f cdv A outer s H E hr => ss_one (s_ret (e_make false (d_Marking_init T) (hr.mono (by decide)) (by rfl) tk_def (a_cons (e_ix (e_var 0) (e_int)) (a_cons (e_ix (e_var 0) (e_int)) (a_nil))))))
noncomputable def m_Desk_undo : MS := mSeq (mIfS (mB (m2 (eqI) (mLenF "Desk" "_ahead" (mVar 0)) (mC (.int 0)))) (mRaise "NothingToUndo" "word" (mC (.str "undo"))) (mPass)) (mSeq (mAppO "Desk" "_behind" "marking" "watched" 0) (mSeq (mAsg (gTupI 2 (gsCons (gSet 1) (gsCons (gSet 2) (gsNil)))) (mPopO "Desk" "_ahead" (mVar 0))) (mExpr (mMeth "Desk" "_become" 3 g_Desk_become (mVar 0) (mCons (mVar 1) (mCons (mVar 2) (mNil)))))))
noncomputable def g_Desk_undo : MF := finM false 3 m_Desk_undo
theorem d_Desk_undo (T : Tx w K mg) : MetOk P w K mg base 9 "Desk" "undo" ["self"] g_Desk_undo := met_ok false T.M_Desk_undo sc_Desk_undo (fun f cdv A outer s H E hr => ss_cons (s_if (t_cmp (c_eq hr.units) (e_lenF "Desk" (e_var 0) (T.f_Desk__ahead) (by rfl) T.b_len) (e_int)) (ss_one (s_raise (x_NothingToUndo T) (by rfl) (hr.mono (by decide)) (by rfl) tk_def (e_str))) (ss_nil))
    (ss_cons (s_appO 0 "Desk" T.f_Desk__behind T.f_Desk_marking T.f_Desk_watched)
    (ss_cons (s_asg (e_popO "Desk" (e_var 0) (T.f_Desk__ahead)) (g_tup rfl (gs_cons (g_name 1 sc_Desk_undo.nd) (gs_cons (g_name 2 sc_Desk_undo.nd) (gs_nil)))))
    (ss_one (s_expr (e_meth (d_Desk_become T) T.k_Desk_become (hr.mono (by decide)) tk_def (e_var 0) (a_cons (e_var 1) (a_cons (e_var 2) (a_nil)))))))))
noncomputable def m_Desk_redo : MS := mSeq (mIfS (mB (m2 (eqI) (mLenF "Desk" "_behind" (mVar 0)) (mC (.int 0)))) (mRaise "NothingToUndo" "word" (mC (.str "redo"))) (mPass)) (mSeq (mAppO "Desk" "_ahead" "marking" "watched" 0) (mSeq (mAsg (gTupI 2 (gsCons (gSet 1) (gsCons (gSet 2) (gsNil)))) (mPopO "Desk" "_behind" (mVar 0))) (mExpr (mMeth "Desk" "_become" 3 g_Desk_become (mVar 0) (mCons (mVar 1) (mCons (mVar 2) (mNil)))))))
noncomputable def g_Desk_redo : MF := finM false 3 m_Desk_redo
theorem d_Desk_redo (T : Tx w K mg) : MetOk P w K mg base 9 "Desk" "redo" ["self"] g_Desk_redo := met_ok false T.M_Desk_redo sc_Desk_redo (fun f cdv A outer s H E hr => ss_cons (s_if (t_cmp (c_eq hr.units) (e_lenF "Desk" (e_var 0) (T.f_Desk__behind) (by rfl) T.b_len) (e_int)) (ss_one (s_raise (x_NothingToUndo T) (by rfl) (hr.mono (by decide)) (by rfl) tk_def (e_str))) (ss_nil))
    (ss_cons (s_appO 0 "Desk" T.f_Desk__ahead T.f_Desk_marking T.f_Desk_watched)
    (ss_cons (s_asg (e_popO "Desk" (e_var 0) (T.f_Desk__behind)) (g_tup rfl (gs_cons (g_name 1 sc_Desk_redo.nd) (gs_cons (g_name 2 sc_Desk_redo.nd) (gs_nil)))))
    (ss_one (s_expr (e_meth (d_Desk_become T) T.k_Desk_become (hr.mono (by decide)) tk_def (e_var 0) (a_cons (e_var 1) (a_cons (e_var 2) (a_nil)))))))))
noncomputable def m_Desk_do : MS := mSeq (mAppO "Desk" "_ahead" "marking" "watched" 0) (mSeq (mNewO "Desk" "_behind" (mVar 0)) (mExpr (mMeth "Desk" "_become" 3 g_Desk_become (mVar 0) (mCons (mVar 1) (mCons (mVar 2) (mNil))))))
noncomputable def g_Desk_do : MF := finM false 3 m_Desk_do
theorem d_Desk_do (T : Tx w K mg) : MetOk P w K mg base 9 "Desk" "_do" ["self", "marking", "watched"] g_Desk_do := met_ok false T.M_Desk_do sc_Desk_do (fun f cdv A outer s H E hr => ss_cons (s_appO 0 "Desk" T.f_Desk__ahead T.f_Desk_marking T.f_Desk_watched)
    (ss_cons (s_newO "Desk" (e_var 0) (T.f_Desk__behind))
    (ss_one (s_expr (e_meth (d_Desk_become T) T.k_Desk_become (hr.mono (by decide)) tk_def (e_var 0) (a_cons (e_var 1) (a_cons (e_var 2) (a_nil))))))))
noncomputable def m_Desk_fold : MS := mExpr (mMeth "Desk" "_do" 3 g_Desk_do (mVar 0) (mCons (mCallD 1 g_folded (mCons (mFldO "Desk" "marking" (mVar 0)) (mNil))) (mCons (mFldO "Desk" "watched" (mVar 0)) (mNil))))
noncomputable def g_Desk_fold : MF := finM false 1 m_Desk_fold
theorem d_Desk_fold (T : Tx w K mg) : MetOk P w K mg base 11 "Desk" "fold" ["self"] g_Desk_fold := met_ok false T.M_Desk_fold sc_Desk_fold (fun f cdv A outer s H E hr => ss_one (s_expr (e_meth (d_Desk_do T) T.k_Desk_do (hr.mono (by decide)) tk_def (e_var 0) (a_cons (e_call (d_folded T) (hr.mono (by decide)) (by rfl) tk_def (a_cons (e_fldO "Desk" (e_var 0) (T.f_Desk_marking)) (a_nil))) (a_cons (e_fldO "Desk" (e_var 0) (T.f_Desk_watched)) (a_nil))))))
noncomputable def m_Desk_mark : MS := mExpr (mMeth "Desk" "_do" 3 g_Desk_do (mVar 0) (mCons (mMake false "Marking" 3 g_Marking_init (mCons (mVar 1) (mCons (mVar 2) (mNil)))) (mCons (mFldO "Desk" "watched" (mVar 0)) (mNil))))
noncomputable def g_Desk_mark : MF := finM false 3 m_Desk_mark
theorem d_Desk_mark (T : Tx w K mg) : MetOk P w K mg base 11 "Desk" "_mark" ["self", "cells", "marks"] g_Desk_mark := met_ok false T.M_Desk_mark sc_Desk_mark (fun f cdv A outer s H E hr => ss_one (s_expr (e_meth (d_Desk_do T) T.k_Desk_do (hr.mono (by decide)) tk_def (e_var 0) (a_cons (e_make false (d_Marking_init T) (hr.mono (by decide)) (by rfl) tk_def (a_cons (e_var 1) (a_cons (e_var 2) (a_nil)))) (a_cons (e_fldO "Desk" (e_var 0) (T.f_Desk_watched)) (a_nil))))))
noncomputable def m_Desk_add : MS := mSeq (mIfS (mIte (mNot (mT (mCallD 2 g_is_mark (mCons (mFld "Marking" "cells" (mFldO "Desk" "marking" (mVar 0))) (mCons (mVar 1) (mNil)))))) (mTB true) (mB (m2 (eqI) (mCall (lenOM "Marking" g_Marking_len) (mCons (mFldO "Desk" "marking" (mVar 0)) (mNil))) (mC (.int 7))))) (mRaise "InvalidMark" "value" (mVar 1)) (mPass)) (mExpr (mMeth "Desk" "_mark" 3 g_Desk_mark (mVar 0) (mCons (mFld "Marking" "cells" (mFldO "Desk" "marking" (mVar 0))) (mCons (m2 addI (mFld "Marking" "marks" (mFldO "Desk" "marking" (mVar 0))) (mTup (mCons (mVar 1) (mNil)))) (mNil)))))
noncomputable def g_Desk_add : MF := finM false 2 m_Desk_add
theorem d_Desk_add (T : Tx w K mg) : MetOk P w K mg base 13 "Desk" "add" ["self", "mark"] g_Desk_add := met_ok false T.M_Desk_add sc_Desk_add (fun f cdv A outer s H E hr => ss_cons (s_if (t_w (w_or (t_not (t_val (e_call (d_is_mark T) (hr.mono (by decide)) (by rfl) tk_def (a_cons (e_fld "Marking" (e_fldO "Desk" (e_var 0) (T.f_Desk_marking)) (T.f_Marking_cells)) (a_cons (e_var 1) (a_nil)))))) (w_or1 (t_cmp (c_eq hr.units) (e_lenO (d_Marking_len T) rfl (hr.mono (by decide)) (by rfl) T.b_len (a_cons (e_fldO "Desk" (e_var 0) (T.f_Desk_marking)) (a_nil))) (e_gI T.c_MOST_MARKS))))) (ss_one (s_raise (x_InvalidMark T) (by rfl) (hr.mono (by decide)) (by rfl) tk_def (e_var 1))) (ss_nil))
    (ss_one (s_expr (e_meth (d_Desk_mark T) T.k_Desk_mark (hr.mono (by decide)) tk_def (e_var 0) (a_cons (e_fld "Marking" (e_fldO "Desk" (e_var 0) (T.f_Desk_marking)) (T.f_Marking_cells)) (a_cons (e_add (e_fld "Marking" (e_fldO "Desk" (e_var 0) (T.f_Desk_marking)) (T.f_Marking_marks)) (e_tup (a_cons (e_var 1) (a_nil)))) (a_nil)))))))
noncomputable def m_Desk_drop : MS := mSeq (mIfS (mNot (mT (mCallD 2 g_is_item (mCons (mFldO "Desk" "marking" (mVar 0)) (mCons (mVar 1) (mNil)))))) (mRaise "InvalidItem" "value" (mVar 1)) (mPass)) (mSeq (mIfS (mB (m2 (eqI) (mCall (lenOM "Marking" g_Marking_len) (mCons (mFldO "Desk" "marking" (mVar 0)) (mNil))) (mC (.int 1)))) (mRaise "Undefined" "what" (mC (.str "alone"))) (mPass)) (mSeq (mSet 2 (mFld "Marking" "marks" (mFldO "Desk" "marking" (mVar 0)))) (mExpr (mMeth "Desk" "_mark" 3 g_Desk_mark (mVar 0) (mCons (mFld "Marking" "cells" (mFldO "Desk" "marking" (mVar 0))) (mCons (m2 addI (mSl false (mVar 2) (mNoPart) (mPart (mVar 1))) (mSl false (mVar 2) (mPart (m2 addI (mVar 1) (mC (.int 1)))) (mNoPart))) (mNil)))))))
noncomputable def g_Desk_drop : MF := finM false 3 m_Desk_drop
theorem d_Desk_drop (T : Tx w K mg) : MetOk P w K mg base 13 "Desk" "drop" ["self", "item"] g_Desk_drop := met_ok false T.M_Desk_drop sc_Desk_drop (fun f cdv A outer s H E hr => ss_cons (s_if (t_not (t_val (e_call (d_is_item T) (hr.mono (by decide)) (by rfl) tk_def (a_cons (e_fldO "Desk" (e_var 0) (T.f_Desk_marking)) (a_cons (e_var 1) (a_nil)))))) (ss_one (s_raise (x_InvalidItem T) (by rfl) (hr.mono (by decide)) (by rfl) tk_def (e_var 1))) (ss_nil))
    (ss_cons (s_if (t_cmp (c_eq hr.units) (e_lenO (d_Marking_len T) rfl (hr.mono (by decide)) (by rfl) T.b_len (a_cons (e_fldO "Desk" (e_var 0) (T.f_Desk_marking)) (a_nil))) (e_int)) (ss_one (s_raise (x_Undefined T) (by rfl) (hr.mono (by decide)) (by rfl) tk_def (e_str))) (ss_nil))
    (ss_cons (s_set 2 sc_Desk_drop.nd (e_fld "Marking" (e_fldO "Desk" (e_var 0) (T.f_Desk_marking)) (T.f_Marking_marks)))
    (ss_one (s_expr (e_meth (d_Desk_mark T) T.k_Desk_mark (hr.mono (by decide)) tk_def (e_var 0) (a_cons (e_fld "Marking" (e_fldO "Desk" (e_var 0) (T.f_Desk_marking)) (T.f_Marking_cells)) (a_cons (e_add (e_sl false (e_var 2) (o_none) (o_some (e_var 1))) (e_sl false (e_var 2) (o_some (e_add (e_var 1) (e_int))) (o_none))) (a_nil)))))))))
noncomputable def m_Desk_turn : MS := mSeq (mIfS (mNot (mT (mCallD 2 g_is_item (mCons (mFldO "Desk" "marking" (mVar 0)) (mCons (mVar 1) (mNil)))))) (mRaise "InvalidItem" "value" (mVar 1)) (mPass)) (mSeq (mIfS (mNot (mT (mCallD 2 g_is_mark (mCons (mFld "Marking" "cells" (mFldO "Desk" "marking" (mVar 0))) (mCons (mVar 2) (mNil)))))) (mRaise "InvalidMark" "value" (mVar 2)) (mPass)) (mSeq (mSet 3 (mFld "Marking" "marks" (mFldO "Desk" "marking" (mVar 0)))) (mExpr (mMeth "Desk" "_mark" 3 g_Desk_mark (mVar 0) (mCons (mFld "Marking" "cells" (mFldO "Desk" "marking" (mVar 0))) (mCons (m2 addI (m2 addI (mSl false (mVar 3) (mNoPart) (mPart (mVar 1))) (mTup (mCons (mVar 2) (mNil)))) (mSl false (mVar 3) (mPart (m2 addI (mVar 1) (mC (.int 1)))) (mNoPart))) (mNil)))))))
noncomputable def g_Desk_turn : MF := finM false 4 m_Desk_turn
theorem d_Desk_turn (T : Tx w K mg) : MetOk P w K mg base 13 "Desk" "turn" ["self", "item", "mark"] g_Desk_turn := met_ok false T.M_Desk_turn sc_Desk_turn (fun f cdv A outer s H E hr => ss_cons (s_if (t_not (t_val (e_call (d_is_item T) (hr.mono (by decide)) (by rfl) tk_def (a_cons (e_fldO "Desk" (e_var 0) (T.f_Desk_marking)) (a_cons (e_var 1) (a_nil)))))) (ss_one (s_raise (x_InvalidItem T) (by rfl) (hr.mono (by decide)) (by rfl) tk_def (e_var 1))) (ss_nil))
    (ss_cons (s_if (t_not (t_val (e_call (d_is_mark T) (hr.mono (by decide)) (by rfl) tk_def (a_cons (e_fld "Marking" (e_fldO "Desk" (e_var 0) (T.f_Desk_marking)) (T.f_Marking_cells)) (a_cons (e_var 2) (a_nil)))))) (ss_one (s_raise (x_InvalidMark T) (by rfl) (hr.mono (by decide)) (by rfl) tk_def (e_var 2))) (ss_nil))
    (ss_cons (s_set 3 sc_Desk_turn.nd (e_fld "Marking" (e_fldO "Desk" (e_var 0) (T.f_Desk_marking)) (T.f_Marking_marks)))
    (ss_one (s_expr (e_meth (d_Desk_mark T) T.k_Desk_mark (hr.mono (by decide)) tk_def (e_var 0) (a_cons (e_fld "Marking" (e_fldO "Desk" (e_var 0) (T.f_Desk_marking)) (T.f_Marking_cells)) (a_cons (e_add (e_add (e_sl false (e_var 3) (o_none) (o_some (e_var 1))) (e_tup (a_cons (e_var 2) (a_nil)))) (e_sl false (e_var 3) (o_some (e_add (e_var 1) (e_int))) (o_none))) (a_nil)))))))))
noncomputable def m_Desk_widen : MS := mSeq (mSet 2 (mCall (pv1 maxI) (mCons (mLc false (mSrc (mFld "Marking" "marks" (mFldO "Desk" "marking" (mVar 0)))) [3] (gSet 3) (mTB true) (m2 itemI (mVar 3) (m1 negI (mC (.int 1))))) (mNil)))) (mSeq (mIfS (mNot (mT (mCallD 3 g_is_integer_within (mCons (mVar 1) (mCons (m2 addI (mVar 2) (mC (.int 1))) (mCons (mC (.int 8)) (mNil))))))) (mRaise "InvalidNumber" "value" (mVar 1)) (mPass)) (mExpr (mMeth "Desk" "_mark" 3 g_Desk_mark (mVar 0) (mCons (mVar 1) (mCons (mFld "Marking" "marks" (mFldO "Desk" "marking" (mVar 0))) (mNil))))))
noncomputable def g_Desk_widen : MF := finM false 4 m_Desk_widen
theorem d_Desk_widen (T : Tx w K mg) : MetOk P w K mg base 13 "Desk" "widen" ["self", "cells"] g_Desk_widen := met_ok false T.M_Desk_widen sc_Desk_widen (fun f cdv A outer s H E hr => ss_cons (s_set 2 sc_Desk_widen.nd (e_callB (cr_max (by rfl)) v_max (by rfl) T.b_max (by decide +kernel) (a_cons (e_lc false [("mark", 3)] (ct_name 3) rfl sc_Desk_widen.nd (i_seq (e_fld "Marking" (e_fldO "Desk" (e_var 0) (T.f_Desk_marking)) (T.f_Marking_marks))) (blkOk_by (by kernel_rfl)) (fun _ _ _ _ _ => (pg_name (i := 3) sc_Desk_widen.nd rfl (by first | exact Or.inl rfl | exact Or.inr rfl))) (fun _ _ _ _ _ => ts_nil) (fun _ _ _ _ _ => e_ix (e_var 3) (e_neg (e_int)))) (a_nil))))
    (ss_cons (s_if (t_not (t_val (e_call (d_is_integer_within T) (hr.mono (by decide)) (by rfl) tk_def (a_cons (e_var 1) (a_cons (e_add (e_var 2) (e_int)) (a_cons (e_gI T.c_MOST_CELLS) (a_nil))))))) (ss_one (s_raise (x_InvalidNumber T) (by rfl) (hr.mono (by decide)) (by rfl) tk_def (e_var 1))) (ss_nil))
    (ss_one (s_expr (e_meth (d_Desk_mark T) T.k_Desk_mark (hr.mono (by decide)) tk_def (e_var 0) (a_cons (e_var 1) (a_cons (e_fld "Marking" (e_fldO "Desk" (e_var 0) (T.f_Desk_marking)) (T.f_Marking_marks)) (a_nil))))))))
noncomputable def m_law_do : MS := mSeq (mAsg (gTupI 2 (gsCons (gSet 2) (gsCons (gSet 3) (gsNil)))) (mVar 1)) (mSeq (mIfS (mB (m2 (eqI) (mVar 2) (mC (.str "add")))) (mRet (mMeth "Desk" "add" 2 g_Desk_add (mVar 0) (mCons (m2 itemI (mVar 3) (mC (.int 0))) (mNil)))) (mPass)) (mSeq (mIfS (mB (m2 (eqI) (mVar 2) (mC (.str "drop")))) (mRet (mMeth "Desk" "drop" 2 g_Desk_drop (mVar 0) (mCons (m2 itemI (mVar 3) (mC (.int 0))) (mNil)))) (mPass)) (mSeq (mIfS (mB (m2 (eqI) (mVar 2) (mC (.str "turn")))) (mRet (mMeth "Desk" "turn" 3 g_Desk_turn (mVar 0) (mCons (m2 itemI (mVar 3) (mC (.int 0))) (mCons (m2 itemI (mVar 3) (mC (.int 1))) (mNil))))) (mPass)) (mRet (mIte (mB (m2 (eqI) (mVar 2) (mC (.str "widen")))) (mMeth "Desk" "widen" 2 g_Desk_widen (mVar 0) (mCons (m2 itemI (mVar 3) (mC (.int 0))) (mNil))) (mMeth "Desk" "fold" 1 g_Desk_fold (mVar 0) (mNil)))))))
noncomputable def g_law_do : MF := finM false 4 m_law_do
theorem d_law_do (T : Tx w K mg) : DefOk P w K mg base 15 "_law_do" ["desk", "edit"] g_law_do := def_okF false T.F_law_do sc_law_do (fun f cdv A outer s H E hr => ss_cons (s_asg (e_var 1) (g_tup rfl (gs_cons (g_name 2 sc_law_do.nd) (gs_cons (g_name 3 sc_law_do.nd) (gs_nil)))))
    (ss_cons (s_if (t_cmp (c_eq hr.units) (e_var 2) (e_str)) (ss_one (s_ret (e_meth (d_Desk_add T) T.k_Desk_add (hr.mono (by decide)) tk_def (e_var 0) (a_cons (e_ix (e_var 3) (e_int)) (a_nil))))) (ss_nil))
    (ss_cons (s_if (t_cmp (c_eq hr.units) (e_var 2) (e_str)) (ss_one (s_ret (e_meth (d_Desk_drop T) T.k_Desk_drop (hr.mono (by decide)) tk_def (e_var 0) (a_cons (e_ix (e_var 3) (e_int)) (a_nil))))) (ss_nil))
    (ss_cons (s_if (t_cmp (c_eq hr.units) (e_var 2) (e_str)) (ss_one (s_ret (e_meth (d_Desk_turn T) T.k_Desk_turn (hr.mono (by decide)) tk_def (e_var 0) (a_cons (e_ix (e_var 3) (e_int)) (a_cons (e_ix (e_var 3) (e_int)) (a_nil)))))) (ss_nil))
    (ss_one (s_ret (e_ifx (t_cmp (c_eq hr.units) (e_var 2) (e_str)) (e_meth (d_Desk_widen T) T.k_Desk_widen (hr.mono (by decide)) tk_def (e_var 0) (a_cons (e_ix (e_var 3) (e_int)) (a_nil))) (e_meth0 (d_Desk_fold T) T.k_Desk_fold (hr.mono (by decide)) tk_def (e_var 0)))))))))
noncomputable def m_law_is_deep : MS := mSeq (mSet 2 (mMakeO "Desk" 2 g_Desk_init (mCons (mCallD 1 g_law_made (mCons (mVar 1) (mNil))) (mNil)))) (mSeq (mSet 3 (mLst true (mCons (mVar 1) (mNil)))) (mSeq (mFor (mRng1 (mCons (mC (.int 60)) (mNil))) (gSet 4) (mSeq (mSet 5 (mTup (mCons (mCallD 2 g_law_take (mCons (mVar 0) (mCons (m2 itemI (mVar 1) (mC (.int 0))) (mNil)))) (mNil)))) (mSeq (mSet 6 (m2 itemI (mVar 3) (m1 negI (mC (.int 1))))) (mSeq (mExpr (mMeth "Desk" "turn" 3 g_Desk_turn (mVar 2) (mCons (m2 modI (mCall (pv1 intI) (mCons (mVar 4) (mNil))) (mCall (pv1 lenI) (mCons (m2 itemI (mVar 6) (mC (.int 1))) (mNil)))) (mCons (mVar 5) (mNil))))) (mExpr (mMt appM (mVar 3) (mCons (mTup (mCons (m2 itemI (mVar 6) (mC (.int 0))) (mCons (m2 addI (m2 addI (mSl false (m2 itemI (mVar 6) (mC (.int 1))) (mNoPart) (mPart (m2 modI (mCall (pv1 intI) (mCons (mVar 4) (mNil))) (mCall (pv1 lenI) (mCons (m2 itemI (mVar 6) (mC (.int 1))) (mNil)))))) (mTup (mCons (mVar 5) (mNil)))) (mSl false (m2 itemI (mVar 6) (mC (.int 1))) (mPart (m2 addI (m2 modI (mCall (pv1 intI) (mCons (mVar 4) (mNil))) (mCall (pv1 lenI) (mCons (m2 itemI (mVar 6) (mC (.int 1))) (mNil)))) (mC (.int 1)))) (mNoPart))) (mNil)))) (mNil)))))))) (mSeq (mIfS (mIte (mB (m2 (neI) (mFldO "Desk" "many" (mVar 2)) (mC (.int 60)))) (mTB true) (mB (m2 (neI) (mCallD 1 g_law_now (mCons (mVar 2) (mNil))) (m2 itemI (mVar 3) (mC (.int 60)))))) (mRet (mC (.bl false))) (mPass)) (mRet (mC (.bl true))))))
noncomputable def g_law_is_deep : MF := finM false 7 m_law_is_deep
theorem d_law_is_deep (T : Tx w K mg) : DefOk P w K mg base 15 "_law_is_deep" ["box", "marking"] g_law_is_deep := def_okF false T.F_law_is_deep sc_law_is_deep (fun f cdv A outer s H E hr => ss_cons (s_set 2 sc_law_is_deep.nd (e_makeO (d_Desk_init T) (hr.mono (by decide)) (by rfl) tk_def (a_cons (e_call (d_law_made T) (hr.mono (by decide)) (by rfl) tk_def (a_cons (e_var 1) (a_nil))) (a_nil))))
    (ss_cons (s_set 3 sc_law_is_deep.nd (e_lst true (a_cons (e_var 1) (a_nil))))
    (ss_cons (s_for po_def rfl (i_rng1 (by rfl) T.b_range (a_cons (e_int) (a_nil))) (g_name 4 sc_law_is_deep.nd) (ss_cons (s_set 5 sc_law_is_deep.nd (e_tup (a_cons (e_call (d_law_take T) (hr.mono (by decide)) (by rfl) tk_def (a_cons (e_var 0) (a_cons (e_ix (e_var 1) (e_int)) (a_nil)))) (a_nil))))
    (ss_cons (s_set 6 sc_law_is_deep.nd (e_ix (e_var 3) (e_neg (e_int))))
    (ss_cons (s_expr (e_meth (d_Desk_turn T) T.k_Desk_turn (hr.mono (by decide)) tk_def (e_var 2) (a_cons (e_mod (e_callTy call_int1 v_int (by rfl) T.b_int (by decide +kernel) (a_cons (e_var 4) (a_nil))) (e_callB call_len v_len (by rfl) T.b_len (by decide +kernel) (a_cons (e_ix (e_var 6) (e_int)) (a_nil)))) (a_cons (e_var 5) (a_nil)))))
    (ss_one (s_expr (e_append (e_var 3) (a_cons (e_tup (a_cons (e_ix (e_var 6) (e_int)) (a_cons (e_add (e_add (e_sl false (e_ix (e_var 6) (e_int)) (o_none) (o_some (e_mod (e_callTy call_int1 v_int (by rfl) T.b_int (by decide +kernel) (a_cons (e_var 4) (a_nil))) (e_callB call_len v_len (by rfl) T.b_len (by decide +kernel) (a_cons (e_ix (e_var 6) (e_int)) (a_nil)))))) (e_tup (a_cons (e_var 5) (a_nil)))) (e_sl false (e_ix (e_var 6) (e_int)) (o_some (e_add (e_mod (e_callTy call_int1 v_int (by rfl) T.b_int (by decide +kernel) (a_cons (e_var 4) (a_nil))) (e_callB call_len v_len (by rfl) T.b_len (by decide +kernel) (a_cons (e_ix (e_var 6) (e_int)) (a_nil)))) (e_int))) (o_none))) (a_nil)))) (a_nil)))))))))
    (ss_cons (s_if (t_w (w_or (t_cmp (c_ne hr.units) (e_fldO "Desk" (e_var 2) (T.f_Desk_many)) (e_int)) (w_or1 (t_cmp (c_ne hr.units) (e_call (d_law_now T) (hr.mono (by decide)) (by rfl) tk_def (a_cons (e_var 2) (a_nil))) (e_ix (e_var 3) (e_int)))))) (ss_one (s_ret (e_bl))) (ss_nil))
    (ss_one (s_ret (e_bl)))))))
noncomputable def m_law_is_walked_back : MS := mSeq (mSet 2 (mMakeO "Desk" 2 g_Desk_init (mCons (mCallD 1 g_law_made (mCons (mVar 1) (mNil))) (mNil)))) (mSeq (mSet 3 (mLst true (mCons (mVar 1) (mNil)))) (mSeq (mFor (mRng1 (mCons (mC (.int 20)) (mNil))) (gSet 4) (mSeq (mSet 5 (m2 itemI (mVar 3) (m1 negI (mC (.int 1))))) (mSeq (mSet 6 (mCallD 2 g_law_take (mCons (mVar 0) (mCons (mCall (pv1 lenI) (mCons (m2 itemI (mVar 5) (mC (.int 1))) (mNil))) (mNil))))) (mSeq (mSet 7 (mTup (mCons (mCallD 2 g_law_take (mCons (mVar 0) (mCons (m2 itemI (mVar 1) (mC (.int 0))) (mNil)))) (mNil)))) (mSeq (mExpr (mMeth "Desk" "turn" 3 g_Desk_turn (mVar 2) (mCons (mVar 6) (mCons (mVar 7) (mNil))))) (mExpr (mMt appM (mVar 3) (mCons (mTup (mCons (m2 itemI (mVar 5) (mC (.int 0))) (mCons (m2 addI (m2 addI (mSl false (m2 itemI (mVar 5) (mC (.int 1))) (mNoPart) (mPart (mVar 6))) (mTup (mCons (mVar 7) (mNil)))) (mSl false (m2 itemI (mVar 5) (mC (.int 1))) (mPart (m2 addI (mVar 6) (mC (.int 1)))) (mNoPart))) (mNil)))) (mNil))))))))) (mSeq (mFor (mRng1 (mCons (mC (.int 20)) (mNil))) (gSet 4) (mSeq (mExpr (mMeth "Desk" "undo" 1 g_Desk_undo (mVar 2) (mNil))) (mIfS (mIte (mB (m2 (neI) (mCallD 1 g_law_now (mCons (mVar 2) (mNil))) (m2 itemI (mVar 3) (m2 subI (mC (.int 19)) (mVar 4))))) (mTB true) (mB (m2 (neI) (mFldO "Desk" "many" (mVar 2)) (m2 subI (mC (.int 19)) (mVar 4))))) (mRet (mC (.bl false))) (mPass)))) (mSeq (mFor (mRng1 (mCons (mC (.int 20)) (mNil))) (gSet 4) (mSeq (mExpr (mMeth "Desk" "redo" 1 g_Desk_redo (mVar 2) (mNil))) (mIfS (mIte (mB (m2 (neI) (mCallD 1 g_law_now (mCons (mVar 2) (mNil))) (m2 itemI (mVar 3) (m2 addI (mVar 4) (mC (.int 1)))))) (mTB true) (mB (m2 (neI) (mFldO "Desk" "many" (mVar 2)) (m2 addI (mVar 4) (mC (.int 1)))))) (mRet (mC (.bl false))) (mPass)))) (mRet (mC (.bl true)))))))
noncomputable def g_law_is_walked_back : MF := finM false 8 m_law_is_walked_back
theorem d_law_is_walked_back (T : Tx w K mg) : DefOk P w K mg base 15 "_law_is_walked_back" ["box", "marking"] g_law_is_walked_back := def_okF false T.F_law_is_walked_back sc_law_is_walked_back (fun f cdv A outer s H E hr => ss_cons (s_set 2 sc_law_is_walked_back.nd (e_makeO (d_Desk_init T) (hr.mono (by decide)) (by rfl) tk_def (a_cons (e_call (d_law_made T) (hr.mono (by decide)) (by rfl) tk_def (a_cons (e_var 1) (a_nil))) (a_nil))))
    (ss_cons (s_set 3 sc_law_is_walked_back.nd (e_lst true (a_cons (e_var 1) (a_nil))))
    (ss_cons (s_for po_def rfl (i_rng1 (by rfl) T.b_range (a_cons (e_int) (a_nil))) (g_name 4 sc_law_is_walked_back.nd) (ss_cons (s_set 5 sc_law_is_walked_back.nd (e_ix (e_var 3) (e_neg (e_int))))
    (ss_cons (s_set 6 sc_law_is_walked_back.nd (e_call (d_law_take T) (hr.mono (by decide)) (by rfl) tk_def (a_cons (e_var 0) (a_cons (e_callB call_len v_len (by rfl) T.b_len (by decide +kernel) (a_cons (e_ix (e_var 5) (e_int)) (a_nil))) (a_nil)))))
    (ss_cons (s_set 7 sc_law_is_walked_back.nd (e_tup (a_cons (e_call (d_law_take T) (hr.mono (by decide)) (by rfl) tk_def (a_cons (e_var 0) (a_cons (e_ix (e_var 1) (e_int)) (a_nil)))) (a_nil))))
    (ss_cons (s_expr (e_meth (d_Desk_turn T) T.k_Desk_turn (hr.mono (by decide)) tk_def (e_var 2) (a_cons (e_var 6) (a_cons (e_var 7) (a_nil)))))
    (ss_one (s_expr (e_append (e_var 3) (a_cons (e_tup (a_cons (e_ix (e_var 5) (e_int)) (a_cons (e_add (e_add (e_sl false (e_ix (e_var 5) (e_int)) (o_none) (o_some (e_var 6))) (e_tup (a_cons (e_var 7) (a_nil)))) (e_sl false (e_ix (e_var 5) (e_int)) (o_some (e_add (e_var 6) (e_int))) (o_none))) (a_nil)))) (a_nil))))))))))
    (ss_cons (s_for po_def rfl (i_rng1 (by rfl) T.b_range (a_cons (e_int) (a_nil))) (g_name 4 sc_law_is_walked_back.nd) (ss_cons (s_expr (e_meth0 (d_Desk_undo T) T.k_Desk_undo (hr.mono (by decide)) tk_def (e_var 2)))
    (ss_one (s_if (t_w (w_or (t_cmp (c_ne hr.units) (e_call (d_law_now T) (hr.mono (by decide)) (by rfl) tk_def (a_cons (e_var 2) (a_nil))) (e_ix (e_var 3) (e_sub (e_int) (e_var 4)))) (w_or1 (t_cmp (c_ne hr.units) (e_fldO "Desk" (e_var 2) (T.f_Desk_many)) (e_sub (e_int) (e_var 4)))))) (ss_one (s_ret (e_bl))) (ss_nil)))))
    (ss_cons (s_for po_def rfl (i_rng1 (by rfl) T.b_range (a_cons (e_int) (a_nil))) (g_name 4 sc_law_is_walked_back.nd) (ss_cons (s_expr (e_meth0 (d_Desk_redo T) T.k_Desk_redo (hr.mono (by decide)) tk_def (e_var 2)))
    (ss_one (s_if (t_w (w_or (t_cmp (c_ne hr.units) (e_call (d_law_now T) (hr.mono (by decide)) (by rfl) tk_def (a_cons (e_var 2) (a_nil))) (e_ix (e_var 3) (e_add (e_var 4) (e_int)))) (w_or1 (t_cmp (c_ne hr.units) (e_fldO "Desk" (e_var 2) (T.f_Desk_many)) (e_add (e_var 4) (e_int)))))) (ss_one (s_ret (e_bl))) (ss_nil)))))
    (ss_one (s_ret (e_bl))))))))
noncomputable def m_law_deed : MS := mSeq (mTry (subT subTab) (mSet 2 (mCallD 2 g_law_do (mCons (mVar 0) (mCons (mVar 1) (mNil))))) [("InvalidNumber", 3, fun a cls d => mRet (mTup (mCons (mC (.str "number")) (mCons (mXf a cls d "value" (mVar 3)) (mNil))))), ("InvalidItem", 3, fun a cls d => mRet (mTup (mCons (mC (.str "item")) (mCons (mXf a cls d "value" (mVar 3)) (mNil))))), ("InvalidMark", 3, fun a cls d => mRet (mTup (mCons (mC (.str "mark")) (mCons (mXf a cls d "value" (mVar 3)) (mNil))))), ("Undefined", 3, fun a cls d => mRet (mTup (mCons (mC (.str "undefined")) (mCons (mXf a cls d "what" (mVar 3)) (mNil)))))]) (mRet (mTup (mCons (mIte (mB (m2 (isI) (mVar 2) (mC .non))) (mC (.str "kept")) (mC (.str "told"))) (mCons (mCallD 1 g_law_now (mCons (mVar 0) (mNil))) (mNil)))))
noncomputable def g_law_deed : MF := finM false 4 m_law_deed
theorem d_law_deed (T : Tx w K mg) : DefOk P w K mg base 16 "_law_deed" ["desk", "edit"] g_law_deed := def_okF false T.F_law_deed sc_law_deed (fun f cdv A outer s H E hr => ss_cons (s_try rfl rfl sc_law_deed.nd tk_def T.sub (fun W pn xe tk hp => ss_one (s_set 2 sc_law_deed.nd (e_call (d_law_do T) (hr.mono (by decide)) (by rfl) tk (a_cons (e_var 0) (a_cons (e_var 1) (a_nil)))))) (.cons (i := 3) rfl rfl rfl (by decide) T.m_InvalidNumber (fun a oe cls d pn hz hf => ss_one (s_ret (e_tup (a_cons (e_str) (a_cons (e_xf hz hf (e_var 3)) (a_nil)))))) (.cons (i := 3) rfl rfl rfl (by decide) T.m_InvalidItem (fun a oe cls d pn hz hf => ss_one (s_ret (e_tup (a_cons (e_str) (a_cons (e_xf hz hf (e_var 3)) (a_nil)))))) (.cons (i := 3) rfl rfl rfl (by decide) T.m_InvalidMark (fun a oe cls d pn hz hf => ss_one (s_ret (e_tup (a_cons (e_str) (a_cons (e_xf hz hf (e_var 3)) (a_nil)))))) (.cons (i := 3) rfl rfl rfl (by decide) T.m_Undefined (fun a oe cls d pn hz hf => ss_one (s_ret (e_tup (a_cons (e_str) (a_cons (e_xf hz hf (e_var 3)) (a_nil)))))) (.nil))))))
    (ss_one (s_ret (e_tup (a_cons (e_ifx (t_cmp (c_is) (e_var 2) (e_non)) (e_str) (e_str)) (a_cons (e_call (d_law_now T) (hr.mono (by decide)) (by rfl) tk_def (a_cons (e_var 0) (a_nil))) (a_nil)))))))
noncomputable def m_law_are_refused : MS := mSeq (mAsg (gTupI 2 (gsCons (gSet 2) (gsCons (gSet 3) (gsNil)))) (mVar 1)) (mSeq (mSet 4 (mCall (pv1 lenI) (mCons (mVar 3) (mNil)))) (mSeq (mFor (mSrc (mLst false (mCons (m1 negI (mC (.int 1))) (mCons (mVar 4) (mCons (mC .non) (mCons (mC (.bl true)) (mCons (mC (.str "0")) (mCons (mTup (mCons (mC (.int 0)) (mNil))) (mCons (mLst false (mCons (mC (.int 0)) (mNil))) (mNil)))))))))) (gSet 5) (mIfS (mIte (mB (m2 (neI) (mCallD 2 g_law_deed (mCons (mVar 0) (mCons (mTup (mCons (mC (.str "drop")) (mCons (mTup (mCons (mVar 5) (mNil))) (mNil)))) (mNil)))) (mTup (mCons (mC (.str "item")) (mCons (mVar 5) (mNil)))))) (mTB true) (mB (m2 (neI) (mCallD 2 g_law_deed (mCons (mVar 0) (mCons (mTup (mCons (mC (.str "turn")) (mCons (mTup (mCons (mVar 5) (mCons (mC .non) (mNil)))) (mNil)))) (mNil)))) (mTup (mCons (mC (.str "item")) (mCons (mVar 5) (mNil))))))) (mRet (mC (.bl false))) (mPass))) (mSeq (mFor (mSrc (mLst false (mCons (mTup (mNil)) (mCons (mTup (mCons (mVar 2) (mNil))) (mCons (mLst false (mCons (mC (.int 0)) (mNil))) (mCons (mTup (mCons (mC (.int 0)) (mCons (mC (.int 0)) (mNil)))) (mCons (mTup (mCons (mC (.bl true)) (mNil))) (mCons (mTup (mCons (m1 negI (mC (.int 1))) (mNil))) (mCons (mC .non) (mCons (mC (.int 0)) (mCons (mTup (mCons (mC .non) (mNil))) (mCons (mTup (mCons (mC (.str "0")) (mNil))) (mCons (mTup (mCons (mTup (mNil)) (mNil))) (mCons (mIte (mB (m2 (cmpI fun i j => decide (j < i)) (mVar 2) (mC (.int 1)))) (mTup (mCons (m2 subI (mVar 2) (mC (.int 1))) (mCons (mC (.int 0)) (mNil)))) (mTup (mCons (mC (.int 0)) (mCons (mC (.int 0)) (mNil))))) (mNil))))))))))))))) (gSet 5) (mIfS (mIte (mB (m2 (neI) (mCallD 2 g_law_deed (mCons (mVar 0) (mCons (mTup (mCons (mC (.str "add")) (mCons (mTup (mCons (mVar 5) (mNil))) (mNil)))) (mNil)))) (mTup (mCons (mC (.str "mark")) (mCons (mVar 5) (mNil)))))) (mTB true) (mB (m2 (neI) (mCallD 2 g_law_deed (mCons (mVar 0) (mCons (mTup (mCons (mC (.str "turn")) (mCons (mTup (mCons (mC (.int 0)) (mCons (mVar 5) (mNil)))) (mNil)))) (mNil)))) (mTup (mCons (mC (.str "mark")) (mCons (mVar 5) (mNil))))))) (mRet (mC (.bl false))) (mPass))) (mSeq (mFor (mSrc (mLst false (mCons (mC (.int 0)) (mCons (mC (.int 9)) (mCons (m1 negI (mC (.int 1))) (mCons (mC .non) (mCons (mC (.bl true)) (mCons (mC (.str "8")) (mCons (mCall (pv1 maxI) (mCons (mLc false (mSrc (mVar 3)) [6] (gSet 6) (mTB true) (mCall (pv1 maxTI) (mCons (mVar 6) (mNil)))) (mNil))) (mNil)))))))))) (gSet 5) (mIfS (mB (m2 (neI) (mCallD 2 g_law_deed (mCons (mVar 0) (mCons (mTup (mCons (mC (.str "widen")) (mCons (mTup (mCons (mVar 5) (mNil))) (mNil)))) (mNil)))) (mTup (mCons (mC (.str "number")) (mCons (mVar 5) (mNil)))))) (mRet (mC (.bl false))) (mPass))) (mRet (mC (.bl true)))))))
noncomputable def g_law_are_refused : MF := finM false 7 m_law_are_refused
theorem d_law_are_refused (T : Tx w K mg) : DefOk P w K mg base 17 "_law_are_refused" ["desk", "marking"] g_law_are_refused := def_okF false T.F_law_are_refused sc_law_are_refused (fun f cdv A outer s H E hr => ss_cons (s_asg (e_var 1) (g_tup rfl (gs_cons (g_name 2 sc_law_are_refused.nd) (gs_cons (g_name 3 sc_law_are_refused.nd) (gs_nil)))))
    (ss_cons (s_set 4 sc_law_are_refused.nd (e_callB call_len v_len (by rfl) T.b_len (by decide +kernel) (a_cons (e_var 3) (a_nil))))
    (ss_cons (s_for po_def rfl (i_seq (e_lst false (a_cons (e_neg (e_int)) (a_cons (e_var 4) (a_cons (e_non) (a_cons (e_bl) (a_cons (e_str) (a_cons (e_tup (a_cons (e_int) (a_nil))) (a_cons (e_lst false (a_cons (e_int) (a_nil))) (a_nil)))))))))) (g_name 5 sc_law_are_refused.nd) (ss_one (s_if (t_w (w_or (t_cmp (c_ne hr.units) (e_call (d_law_deed T) (hr.mono (by decide)) (by rfl) tk_def (a_cons (e_var 0) (a_cons (e_tup (a_cons (e_str) (a_cons (e_tup (a_cons (e_var 5) (a_nil))) (a_nil)))) (a_nil)))) (e_tup (a_cons (e_str) (a_cons (e_var 5) (a_nil))))) (w_or1 (t_cmp (c_ne hr.units) (e_call (d_law_deed T) (hr.mono (by decide)) (by rfl) tk_def (a_cons (e_var 0) (a_cons (e_tup (a_cons (e_str) (a_cons (e_tup (a_cons (e_var 5) (a_cons (e_non) (a_nil)))) (a_nil)))) (a_nil)))) (e_tup (a_cons (e_str) (a_cons (e_var 5) (a_nil)))))))) (ss_one (s_ret (e_bl))) (ss_nil))))
    (ss_cons (s_for po_def rfl (i_seq (e_lst false (a_cons (e_tup (a_nil)) (a_cons (e_tup (a_cons (e_var 2) (a_nil))) (a_cons (e_lst false (a_cons (e_int) (a_nil))) (a_cons (e_tup (a_cons (e_int) (a_cons (e_int) (a_nil)))) (a_cons (e_tup (a_cons (e_bl) (a_nil))) (a_cons (e_tup (a_cons (e_neg (e_int)) (a_nil))) (a_cons (e_non) (a_cons (e_int) (a_cons (e_tup (a_cons (e_non) (a_nil))) (a_cons (e_tup (a_cons (e_str) (a_nil))) (a_cons (e_tup (a_cons (e_tup (a_nil)) (a_nil))) (a_cons (e_ifx (t_cmp (c_gt) (e_var 2) (e_int)) (e_tup (a_cons (e_sub (e_var 2) (e_int)) (a_cons (e_int) (a_nil)))) (e_tup (a_cons (e_int) (a_cons (e_int) (a_nil))))) (a_nil))))))))))))))) (g_name 5 sc_law_are_refused.nd) (ss_one (s_if (t_w (w_or (t_cmp (c_ne hr.units) (e_call (d_law_deed T) (hr.mono (by decide)) (by rfl) tk_def (a_cons (e_var 0) (a_cons (e_tup (a_cons (e_str) (a_cons (e_tup (a_cons (e_var 5) (a_nil))) (a_nil)))) (a_nil)))) (e_tup (a_cons (e_str) (a_cons (e_var 5) (a_nil))))) (w_or1 (t_cmp (c_ne hr.units) (e_call (d_law_deed T) (hr.mono (by decide)) (by rfl) tk_def (a_cons (e_var 0) (a_cons (e_tup (a_cons (e_str) (a_cons (e_tup (a_cons (e_int) (a_cons (e_var 5) (a_nil)))) (a_nil)))) (a_nil)))) (e_tup (a_cons (e_str) (a_cons (e_var 5) (a_nil)))))))) (ss_one (s_ret (e_bl))) (ss_nil))))
    (ss_cons (s_for po_def rfl (i_seq (e_lst false (a_cons (e_int) (a_cons (e_int) (a_cons (e_neg (e_int)) (a_cons (e_non) (a_cons (e_bl) (a_cons (e_str) (a_cons (e_callB (cr_max (by rfl)) v_max (by rfl) T.b_max (by decide +kernel) (a_cons (e_lc false [("mark", 6)] (ct_name 6) rfl sc_law_are_refused.nd (i_seq (e_var 3)) (blkOk_by (by kernel_rfl)) (fun _ _ _ _ _ => (pg_name (i := 6) sc_law_are_refused.nd rfl (by first | exact Or.inl rfl | exact Or.inr rfl))) (fun _ _ _ _ _ => ts_nil) (fun _ _ _ _ _ => e_callB (cr_maxT (hu65 hr) (by rfl)) v_maxT (by rfl) T.b_max (by decide +kernel) (a_cons (e_var 6) (a_nil)))) (a_nil))) (a_nil)))))))))) (g_name 5 sc_law_are_refused.nd) (ss_one (s_if (t_cmp (c_ne hr.units) (e_call (d_law_deed T) (hr.mono (by decide)) (by rfl) tk_def (a_cons (e_var 0) (a_cons (e_tup (a_cons (e_str) (a_cons (e_tup (a_cons (e_var 5) (a_nil))) (a_nil)))) (a_nil)))) (e_tup (a_cons (e_str) (a_cons (e_var 5) (a_nil))))) (ss_one (s_ret (e_bl))) (ss_nil))))
    (ss_one (s_ret (e_bl))))))))
noncomputable def m_law : MS := mSeq (mSet 1 (mCallD 2 g_law_marking (mCons (mVar 0) (mCons (mC (.int 7)) (mNil))))) (mSeq (mSet 2 (mCallD 2 g_law_box (mCons (mVar 0) (mCons (mC (.int 4)) (mNil))))) (mSeq (mSet 3 (mCallD 1 g_law_made (mCons (mVar 1) (mNil)))) (mSeq (mPar [4, 5, 6] (mCons (mMakeO "Desk" 2 g_Desk_init (mCons (mVar 3) (mNil))) (mCons (mMakeO "Desk" 2 g_Desk_init (mCons (mVar 3) (mNil))) (mCons (mMakeO "Desk" 2 g_Desk_init (mCons (mMake false "Marking" 3 g_Marking_init (mCons (mC (.int 1)) (mCons (mTup (mCons (mTup (mCons (mC (.int 0)) (mNil))) (mNil))) (mNil)))) (mNil))) (mNil))))) (mSeq (mSet 7 (mC (.int 0))) (mSeq (mIfS (mIte (mB (m2 (isNotI) (mCallD 2 g_same_state (mCons (mVar 4) (mCons (mVar 5) (mNil)))) (mC (.bl true)))) (mTB true) (mIte (mB (m2 (neI) (mFldO "Desk" "watched" (mVar 4)) (mTup (mNil)))) (mTB true) (mIte (mB (m2 (neI) (mFldO "Desk" "many" (mVar 4)) (mC (.int 0)))) (mTB true) (mIte (mB (m2 (neI) (mMeth "Desk" "report" 1 g_Desk_report (mVar 4) (mNil)) (mTup (mNil)))) (mTB true) (mIte (mB (m2 (eqIdI "Desk") (mVar 4) (mVar 5))) (mTB true) (mNot (mB (m2 (eqIdI "Desk") (mVar 4) (mVar 4))))))))) (mRet (mC (.bl false))) (mPass)) (mSeq (mFor (mRng1 (mCons (mIte (mB (m2 (cmpI fun i j => decide (j < i)) (mCallD 2 g_law_take (mCons (mVar 2) (mCons (mC (.int 6)) (mNil)))) (mC (.int 0)))) (m2 addI (mC (.int 5)) (mCallD 2 g_law_take (mCons (mVar 2) (mCons (mC (.int 12)) (mNil))))) (mC (.int 60))) (mNil))) (gSet 8) (mSeq (mSet 9 (mCallD 2 g_law_edit (mCons (mVar 2) (mCons (mVar 1) (mNil))))) (mSeq (mSet 10 (mCallD 2 g_law_edited (mCons (mVar 1) (mCons (mVar 9) (mNil))))) (mSeq (mSet 11 (mFldO "Desk" "marking" (mVar 4))) (mSeq (mSet 12 (mCallD 1 g_law_now (mCons (mVar 4) (mNil)))) (mSeq (mIfS (mIte (mB (m2 (neI) (mCallD 2 g_law_deed (mCons (mVar 4) (mCons (mVar 9) (mNil)))) (mVar 10))) (mTB true) (mIte (mB (m2 (neI) (mCallD 2 g_law_deed (mCons (mVar 5) (mCons (mVar 9) (mNil)))) (mVar 10))) (mTB true) (mB (m2 (neI) (mTup (mCons (mFld "Marking" "cells" (mVar 11)) (mCons (mFld "Marking" "marks" (mVar 11)) (mNil)))) (mVar 12))))) (mRet (mC (.bl false))) (mPass)) (mSeq (mIfS (mB (m2 (eqI) (m2 itemI (mVar 10) (mC (.int 0))) (mC (.str "kept")))) (mSeq (mSet 1 (m2 itemI (mVar 10) (mC (.int 1)))) (mSet 7 (m2 addI (mVar 7) (mC (.int 1))))) (mPass)) (mIfS (mIte (mB (m2 (neI) (mCallD 1 g_law_now (mCons (mVar 4) (mNil))) (mVar 1))) (mTB true) (mIte (mB (m2 (neI) (mFldO "Desk" "many" (mVar 4)) (mVar 7))) (mTB true) (mIte (mB (m2 (neI) (mMeth "Desk" "report" 1 g_Desk_report (mVar 4) (mNil)) (mTup (mNil)))) (mTB true) (mB (m2 (isNotI) (mCallD 2 g_same_state (mCons (mVar 4) (mCons (mVar 5) (mNil)))) (mC (.bl true))))))) (mRet (mC (.bl false))) (mPass))))))))) (mSeq (mIfS (mIte (mNot (mT (mCallD 2 g_law_are_refused (mCons (mVar 4) (mCons (mVar 1) (mNil)))))) (mTB true) (mIte (mB (m2 (neI) (mCallD 1 g_law_now (mCons (mVar 4) (mNil))) (mVar 1))) (mTB true) (mB (m2 (neI) (mFldO "Desk" "many" (mVar 4)) (mVar 7))))) (mRet (mC (.bl false))) (mPass)) (mSeq (mIfS (mIte (mB (mNeO "Marking" [] g_Marking_eq (mFldO "Desk" "marking" (mVar 4)) (mCallD 1 g_law_made (mCons (mVar 1) (mNil))))) (mTB true) (mIte (mB (m2 (neI) (mCallD 2 g_wrong_total (mCons (mFldO "Desk" "marking" (mVar 4)) (mCons (mC (.int 1)) (mNil)))) (mCallD 2 g_wrong_total (mCons (mCallD 1 g_law_made (mCons (mVar 1) (mNil))) (mCons (mC (.int 1)) (mNil)))))) (mTB true) (mB (m2 (neI) (mCall (lenOM "Marking" g_Marking_len) (mCons (mFldO "Desk" "marking" (mVar 4)) (mNil))) (mCall (pv1 lenI) (mCons (m2 itemI (mVar 1) (mC (.int 1))) (mNil))))))) (mRet (mC (.bl false))) (mPass)) (mSeq (mIfS (mIte (mNot (mT (mCallD 2 g_law_is_deep (mCons (mVar 2) (mCons (mVar 1) (mNil)))))) (mTB true) (mNot (mT (mCallD 2 g_law_is_walked_back (mCons (mVar 2) (mCons (mVar 1) (mNil))))))) (mRet (mC (.bl false))) (mPass)) (mSeq (mIfS (mIte (mB (m2 (neI) (mCallD 1 g_law_now (mCons (mVar 6) (mNil))) (mTup (mCons (mC (.int 1)) (mCons (mTup (mCons (mTup (mCons (mC (.int 0)) (mNil))) (mNil))) (mNil)))))) (mTB true) (mB (m2 (neI) (mFldO "Desk" "many" (mVar 6)) (mC (.int 0))))) (mRet (mC (.bl false))) (mPass)) (mRet (mCallD 2 g_law_is_due (mCons (mCallD 2 g_same_state (mCons (mVar 4) (mCons (mVar 6) (mNil)))) (mCons (mAndV (m2 (eqI) (mVar 1) (mTup (mCons (mC (.int 1)) (mCons (mTup (mCons (mTup (mCons (mC (.int 0)) (mNil))) (mNil))) (mNil))))) (m2 (eqI) (mVar 7) (mC (.int 0)))) (mNil)))))))))))))))
noncomputable def g_law : MF := finM false 13 m_law
theorem b_law (T : Tx w K mg) : Body P w K mg base ["script", "state", "box", "made", "desk", "twin", "other", "deeds", "turn", "edit", "due", "old", "before"] "law" s_law 17 m_law := fun f cdv A outer s H E hr => ss_cons (s_set 1 sc_law.nd (e_call (d_law_marking T) (hr.mono (by decide)) (by rfl) tk_def (a_cons (e_var 0) (a_cons (e_int) (a_nil)))))
    (ss_cons (s_set 2 sc_law.nd (e_call (d_law_box T) (hr.mono (by decide)) (by rfl) tk_def (a_cons (e_var 0) (a_cons (e_int) (a_nil)))))
    (ss_cons (s_set 3 sc_law.nd (e_call (d_law_made T) (hr.mono (by decide)) (by rfl) tk_def (a_cons (e_var 1) (a_nil))))
    (ss_cons (s_par3 4 5 6 rfl sc_law.nd (a_cons (e_makeO (d_Desk_init T) (hr.mono (by decide)) (by rfl) tk_def (a_cons (e_var 3) (a_nil))) (a_cons (e_makeO (d_Desk_init T) (hr.mono (by decide)) (by rfl) tk_def (a_cons (e_var 3) (a_nil))) (a_cons (e_makeO (d_Desk_init T) (hr.mono (by decide)) (by rfl) tk_def (a_cons (e_make false (d_Marking_init T) (hr.mono (by decide)) (by rfl) tk_def (a_cons (e_int) (a_cons (e_tup (a_cons (e_tup (a_cons (e_int) (a_nil))) (a_nil))) (a_nil)))) (a_nil))) (a_nil)))))
    (ss_cons (s_set 7 sc_law.nd (e_int))
    (ss_cons (s_if (t_w (w_or (t_cmp (c_isNot) (e_call (d_same_state T) (hr.mono (by decide)) (by rfl) tk_def (a_cons (e_var 4) (a_cons (e_var 5) (a_nil)))) (e_bl)) (w_or (t_cmp (c_ne hr.units) (e_fldO "Desk" (e_var 4) (T.f_Desk_watched)) (e_tup (a_nil))) (w_or (t_cmp (c_ne hr.units) (e_fldO "Desk" (e_var 4) (T.f_Desk_many)) (e_int)) (w_or (t_cmp (c_ne hr.units) (e_meth0 (d_Desk_report T) T.k_Desk_report (hr.mono (by decide)) tk_def (e_var 4)) (e_tup (a_nil))) (w_or (t_cmp (c_eqId T.id_Desk hr.units) (e_var 4) (e_var 5)) (w_or1 (t_not (t_cmp (c_eqId T.id_Desk hr.units) (e_var 4) (e_var 4)))))))))) (ss_one (s_ret (e_bl))) (ss_nil))
    (ss_cons (s_for po_def rfl (i_rng1 (by rfl) T.b_range (a_cons (e_ifx (t_cmp (c_gt) (e_call (d_law_take T) (hr.mono (by decide)) (by rfl) tk_def (a_cons (e_var 2) (a_cons (e_int) (a_nil)))) (e_int)) (e_add (e_int) (e_call (d_law_take T) (hr.mono (by decide)) (by rfl) tk_def (a_cons (e_var 2) (a_cons (e_int) (a_nil))))) (e_int)) (a_nil))) (g_name 8 sc_law.nd) (ss_cons (s_set 9 sc_law.nd (e_call (d_law_edit T) (hr.mono (by decide)) (by rfl) tk_def (a_cons (e_var 2) (a_cons (e_var 1) (a_nil)))))
    (ss_cons (s_set 10 sc_law.nd (e_call (d_law_edited T) (hr.mono (by decide)) (by rfl) tk_def (a_cons (e_var 1) (a_cons (e_var 9) (a_nil)))))
    (ss_cons (s_set 11 sc_law.nd (e_fldO "Desk" (e_var 4) (T.f_Desk_marking)))
    (ss_cons (s_set 12 sc_law.nd (e_call (d_law_now T) (hr.mono (by decide)) (by rfl) tk_def (a_cons (e_var 4) (a_nil))))
    (ss_cons (s_if (t_w (w_or (t_cmp (c_ne hr.units) (e_call (d_law_deed T) (hr.mono (by decide)) (by rfl) tk_def (a_cons (e_var 4) (a_cons (e_var 9) (a_nil)))) (e_var 10)) (w_or (t_cmp (c_ne hr.units) (e_call (d_law_deed T) (hr.mono (by decide)) (by rfl) tk_def (a_cons (e_var 5) (a_cons (e_var 9) (a_nil)))) (e_var 10)) (w_or1 (t_cmp (c_ne hr.units) (e_tup (a_cons (e_fld "Marking" (e_var 11) (T.f_Marking_cells)) (a_cons (e_fld "Marking" (e_var 11) (T.f_Marking_marks)) (a_nil)))) (e_var 12)))))) (ss_one (s_ret (e_bl))) (ss_nil))
    (ss_cons (s_if (t_cmp (c_eq hr.units) (e_ix (e_var 10) (e_int)) (e_str)) (ss_cons (s_set 1 sc_law.nd (e_ix (e_var 10) (e_int)))
    (ss_one (s_set 7 sc_law.nd (e_add (e_var 7) (e_int))))) (ss_nil))
    (ss_one (s_if (t_w (w_or (t_cmp (c_ne hr.units) (e_call (d_law_now T) (hr.mono (by decide)) (by rfl) tk_def (a_cons (e_var 4) (a_nil))) (e_var 1)) (w_or (t_cmp (c_ne hr.units) (e_fldO "Desk" (e_var 4) (T.f_Desk_many)) (e_var 7)) (w_or (t_cmp (c_ne hr.units) (e_meth0 (d_Desk_report T) T.k_Desk_report (hr.mono (by decide)) tk_def (e_var 4)) (e_tup (a_nil))) (w_or1 (t_cmp (c_isNot) (e_call (d_same_state T) (hr.mono (by decide)) (by rfl) tk_def (a_cons (e_var 4) (a_cons (e_var 5) (a_nil)))) (e_bl))))))) (ss_one (s_ret (e_bl))) (ss_nil))))))))))
    (ss_cons (s_if (t_w (w_or (t_not (t_val (e_call (d_law_are_refused T) (hr.mono (by decide)) (by rfl) tk_def (a_cons (e_var 4) (a_cons (e_var 1) (a_nil)))))) (w_or (t_cmp (c_ne hr.units) (e_call (d_law_now T) (hr.mono (by decide)) (by rfl) tk_def (a_cons (e_var 4) (a_nil))) (e_var 1)) (w_or1 (t_cmp (c_ne hr.units) (e_fldO "Desk" (e_var 4) (T.f_Desk_many)) (e_var 7)))))) (ss_one (s_ret (e_bl))) (ss_nil))
    (ss_cons (s_if (t_w (w_or (t_neO T.n_Marking T.i_Marking (d_Marking_eq T) rfl (hr.mono (by decide)) (e_fldO "Desk" (e_var 4) (T.f_Desk_marking)) (e_call (d_law_made T) (hr.mono (by decide)) (by rfl) tk_def (a_cons (e_var 1) (a_nil)))) (w_or (t_cmp (c_ne hr.units) (e_call (d_wrong_total T) (hr.mono (by decide)) (by rfl) tk_def (a_cons (e_fldO "Desk" (e_var 4) (T.f_Desk_marking)) (a_cons (e_int) (a_nil)))) (e_call (d_wrong_total T) (hr.mono (by decide)) (by rfl) tk_def (a_cons (e_call (d_law_made T) (hr.mono (by decide)) (by rfl) tk_def (a_cons (e_var 1) (a_nil))) (a_cons (e_int) (a_nil))))) (w_or1 (t_cmp (c_ne hr.units) (e_lenO (d_Marking_len T) rfl (hr.mono (by decide)) (by rfl) T.b_len (a_cons (e_fldO "Desk" (e_var 4) (T.f_Desk_marking)) (a_nil))) (e_callB call_len v_len (by rfl) T.b_len (by decide +kernel) (a_cons (e_ix (e_var 1) (e_int)) (a_nil)))))))) (ss_one (s_ret (e_bl))) (ss_nil))
    (ss_cons (s_if (t_w (w_or (t_not (t_val (e_call (d_law_is_deep T) (hr.mono (by decide)) (by rfl) tk_def (a_cons (e_var 2) (a_cons (e_var 1) (a_nil)))))) (w_or1 (t_not (t_val (e_call (d_law_is_walked_back T) (hr.mono (by decide)) (by rfl) tk_def (a_cons (e_var 2) (a_cons (e_var 1) (a_nil))))))))) (ss_one (s_ret (e_bl))) (ss_nil))
    (ss_cons (s_if (t_w (w_or (t_cmp (c_ne hr.units) (e_call (d_law_now T) (hr.mono (by decide)) (by rfl) tk_def (a_cons (e_var 6) (a_nil))) (e_tup (a_cons (e_int) (a_cons (e_tup (a_cons (e_tup (a_cons (e_int) (a_nil))) (a_nil))) (a_nil))))) (w_or1 (t_cmp (c_ne hr.units) (e_fldO "Desk" (e_var 6) (T.f_Desk_many)) (e_int))))) (ss_one (s_ret (e_bl))) (ss_nil))
    (ss_one (s_ret (e_call (d_law_is_due T) (hr.mono (by decide)) (by rfl) tk_def (a_cons (e_call (d_same_state T) (hr.mono (by decide)) (by rfl) tk_def (a_cons (e_var 4) (a_cons (e_var 6) (a_nil)))) (a_cons (e_and (e_cmp (c_eq hr.units) (e_var 1) (e_tup (a_cons (e_int) (a_cons (e_tup (a_cons (e_tup (a_cons (e_int) (a_nil))) (a_nil))) (a_nil))))) (e_and1 (e_cmp (c_eq hr.units) (e_var 7) (e_int)))) (a_nil))))))))))))))))
theorem law_end (hp : ∀ ns : List Int, ns.length ≤ 63 → ∃ st', g_law [.scr (ns.map .int)] [] = some (.val (.bl true), st')) {fa : Addr} (T : Tx w K mg) (hmg : mg "law" = some (.ref fa)) :
    ∃ fd : FuncData, BindsAll fd ["script"] ∧ ∀ base : Heap, K.In base → base.Ns mainGlobals mg → FnOk P w K mg base (L2.CX P w) 18 fa fd ["script"] (spLaw K) := by
  obtain ⟨f, fd, h1, h2, h3⟩ := T.F_law.ex
  rw [hmg] at h1
  cases h1
  exact ⟨fd, h3, fun base _ _ => law_fn (N := ["script", "state", "box", "made", "desk", "twin", "other", "deeds", "turn", "edit", "due", "old", "before"]) h2 sc_law (b_law T) hp⟩
end
end Law
section
set_option maxHeartbeats 2000000
namespace Law
open PySem L2 MK
local macro_rules | `(tactic| walk_at "mk1") => `(tactic| first
  | with_reducible refine Rule.ok ?_ | with_reducible refine we_make ?_ | ((with_reducible refine' we_var ?hh ?_); (case hh => rfl)) | with_reducible refine eq_and rfl ?_ | ((with_reducible refine len_and ?hh ?_); (case hh => simp; done)) | with_reducible refine o_mod (by omega) ?_
  | with_reducible refine o_div (by omega) ?_ | with_reducible refine o_mul (by omega) (by omega) ?_ | ((with_reducible refine' o_ixC ?hh ?h2 ?_); (case hh => assumption); (case h2 => rfl)) | ((with_reducible refine' o_ixS ?hh ?_); (case hh => assumption))
  | ((with_reducible refine' o_ixT ?hh ?_); (case hh => assumption)) | ((with_reducible refine' o_ixL ?hh ?_); (case hh => assumption)) | ((with_reducible refine' o_ixT ?hh ?_); (case hh => rfl)) | ((with_reducible refine' o_ixL ?hh ?_); (case hh => rfl))
  | with_reducible refine o_pow (by decide) (by decide) ?_ | ((with_reducible refine' we_lenC ?hh ?_); (case hh => assumption)) | ((with_reducible refine' we_tupleC ?hh ?_); (case hh => assumption)) | (refine way_t rfl ?_) | (refine way_f rfl ?_) | ((refine' ⟨_, ?hh, ?_⟩); (case hh => rfl)))
local macro_rules | `(tactic| walk_at "mk") => `(tactic| repeat walk_at "mk1")
def BoxAt (st : Sto) (n : Nat) : Prop := ∃ a b : Int, st[n]? = some (.lst [.int a, .int b]) ∧ 0 ≤ b ∧ b < 2147483648
theorem BoxAt.lt {st : Sto} {n : Nat} (h : BoxAt st n) : n < st.length := by
  obtain ⟨a, b, e, _⟩ := h
  exact (List.getElem?_eq_some_iff.mp e).1
theorem r_take {st : Sto} {n : Nat} {many : Int} (hb : BoxAt st n) (h1 : 0 < many) (h2 : many < 1000000000) :
    we (g_law_take [.cell n, .int many]) st noX fun v st' => ∃ r : Int, v = .int r ∧ 0 ≤ r ∧ r < many ∧ Only1 n st st' ∧ BoxAt st' n := by
  obtain ⟨a, b, e, b0, b1⟩ := hb
  refine we_def (ls := [some (.cell n), some (.int many), none]) rfl ?_
  unfold m_law_take
  walk_at "mk"
  refine ⟨fun hp => ?_, fun hp => ?_⟩
  · walk_at "mk"
    refine ⟨n, _, _, _, rfl, rfl, e, rfl, rfl, ?_⟩
    walk_at "mk"
    refine close_len (by simp) ⟨_, rfl, Int.emod_nonneg _ (by omega), Int.emod_lt_of_pos _ h1, .set, a / many, b, set_get e, b0, b1⟩
  · walk_at "mk"
    refine ⟨n, _, _, _, rfl, rfl, e, rfl, rfl, ?_⟩
    have e' := set_get (c := .lst [.int a, .int ((b * 39373 + 69621) % 2147483647)]) e
    walk_at "mk"
    refine close_len (by simp) ⟨_, rfl, Int.emod_nonneg _ (by omega), Int.emod_lt_of_pos _ h1, .set, a, _, e', Int.emod_nonneg _ (by omega), by omega⟩
structure SeqIn (n : Nat) (st : Sto) (a : IV) (l : List IV) : Prop where
  len : lenI st a = some (.int l.length)
  ix : ∀ (st' : Sto) (i : Int) (v : IV), Only1 n st st' → atI l i = some v → itemI st' a (.int i) = some v
theorem SeqIn.tup {n : Nat} {st : Sto} {l : List IV} : SeqIn n st (.tup l) l := ⟨rfl, fun st' i v _ h => by simp only [itemI, asSeq, Option.bind]; exact h⟩
theorem SeqIn.lst {n : Nat} {st : Sto} {l : List IV} : SeqIn n st (.lst l) l := ⟨rfl, fun st' i v _ h => by simp only [itemI, asSeq, lstOf, Option.bind]; exact h⟩
theorem SeqIn.cell {n m : Nat} {st : Sto} {l : List IV} (e : st[m]? = some (.lst l)) (h : m ≠ n) : SeqIn n st (.cell m) l := ⟨by simp only [lenI, asSeq, lstOf, e]; rfl, fun st' i v o h' => by
  have e' : st'[m]? = some (.lst l) := by rw [o.ne m h]; exact e
  simp only [itemI, asSeq, lstOf, e', Option.bind]; exact h'⟩
theorem r_pick {st : Sto} {n : Nat} {a : IV} {l : List IV} (hb : BoxAt st n) (hs : SeqIn n st a l) (h0 : l ≠ []) (h2 : l.length < 1000000000) :
    we (g_law_pick [.cell n, a]) st noX fun v st' => v ∈ l ∧ Only1 n st st' ∧ BoxAt st' n := by
  refine we_def (ls := [some (.cell n), some a]) rfl ?_
  unfold m_law_pick
  walk_at "mk"
  have hl : 0 < l.length := List.length_pos_iff.mpr h0
  refine we_pv1 hs.len ?_
  walk_at "mk"
  refine we_nox (r_take hb (by omega) (by omega)) ?_
  rintro v st' ⟨r, rfl, r0, r1, o, hb'⟩
  have hr : r.toNat < l.length := by omega
  refine ⟨l[r.toNat], hs.ix st' r _ o (atI_get r0 (List.getElem?_eq_getElem hr)), close_len o.len ⟨List.getElem_mem hr, o, hb'⟩⟩
def isIntI : IV → Bool
  | .int _ => true
  | _ => false
structure Grow (st st' : Sto) : Prop where
  len : st.length ≤ st'.length
  old : ∀ m, m < st.length → st'[m]? = st[m]?
theorem Grow.app {st l : Sto} : Grow st (st ++ l) := ⟨by simp, fun m h => List.getElem?_append_left h⟩
theorem ixZ {ns : List Int} {i : Int} (h0 : 0 ≤ i) (h1 : i < ns.length) : ∃ z : Int, atI (ns.map IV.int) i = some (.int z) := by
  have hlt : i.toNat < ns.length := by omega
  exact ⟨ns[i.toNat], atI_get h0 (by rw [List.getElem?_map, List.getElem?_eq_getElem hlt]; rfl)⟩
theorem ixPair {a c : Int} {b : Bool} : ∃ z : Int, atI [IV.int a, IV.int c] (if b = true then 1 else 0) = some (.int z) := by
  cases b
  · exact ⟨a, rfl⟩
  · exact ⟨c, rfl⟩
theorem app_get {st : Sto} {c : CV} : (st ++ [c])[st.length]? = some c := by simp
theorem r_box {st : Sto} {ns : List Int} {k : Int} (hl : ns.length ≤ 63) (h0 : 0 ≤ k) (h1 : k < 1000) :
    we (g_law_box [.scr (ns.map .int), .int k]) st noX fun v st' => ∃ n, v = .cell n ∧ n = st.length ∧ Grow st st' ∧ st'.length = st.length + 1 ∧ BoxAt st' n := by
  refine we_def (ls := [some (.scr (ns.map .int)), some (.int k), none, none]) rfl ?_
  unfold m_law_box
  walk_at "mk"
  refine ⟨fun hp => ?_, fun hp => ?_⟩
  · have hp' : k < ns.length := by simpa using hp
    obtain ⟨z, hz⟩ := ixZ h0 hp'
    walk_at "mk"
    obtain ⟨y, hy⟩ := ixPair (a := 0) (c := if z < 0 then -z else z) (b := decide (10 ^ (18 : Int).toNat ≤ if z < 0 then -z else z))
    walk_at "mk"
    exact we_newT rfl (close_keep ⟨_, rfl, rfl, .app, by simp, y, _, app_get, by omega, by omega⟩)
  · walk_at "mk"
    refine ⟨fun hq => ?_, fun hq => ?_⟩
    · have hq' : 0 < ns.length := by simpa using hq
      obtain ⟨z, hz⟩ := ixZ (ns := ns) (i := k % (ns.length : Int)) (Int.emod_nonneg _ (by omega)) (Int.emod_lt_of_pos _ (by omega))
      rw [show ((ns.length : Int)) = (((ns.map IV.int).length : Nat) : Int) by simp] at hz
      have hq2 : (0 : Int) < ((ns.map IV.int).length : Nat) := by simpa using hq'
      walk_at "mk"
      obtain ⟨y, hy⟩ := ixPair (a := 0) (c := (if z < 0 then -z else z) % 1000000007 * 31 + 7919 * k) (b := decide (10 ^ (18 : Int).toNat ≤ (if z < 0 then -z else z) % 1000000007 * 31 + 7919 * k))
      walk_at "mk"
      exact we_newT rfl (close_keep ⟨_, rfl, rfl, .app, by simp, y, _, app_get, by omega, by omega⟩)
    · walk_at "mk"
      obtain ⟨y, hy⟩ := ixPair (a := 0) (c := 7919 * k + 101) (b := decide (10 ^ (18 : Int).toNat ≤ 7919 * k + 101))
      walk_at "mk"
      exact we_newT rfl (close_keep ⟨_, rfl, rfl, .app, by simp, y, _, app_get, by omega, by omega⟩)
end Law
end
section
set_option maxHeartbeats 2000000
namespace Law
open PySem L2 MK
local macro_rules | `(tactic| walk_at "mk1") => `(tactic| first
  | with_reducible refine Rule.ok ?_ | with_reducible refine we_make ?_ | ((with_reducible refine' we_var ?hh ?_); (case hh => rfl)) | with_reducible refine eq_and rfl ?_ | ((with_reducible refine len_and ?hh ?_); (case hh => simp; done)) | with_reducible refine o_mod (by omega) ?_
  | with_reducible refine o_div (by omega) ?_ | with_reducible refine o_mul (by omega) (by omega) ?_ | ((with_reducible refine' o_ixC ?hh ?h2 ?_); (case hh => assumption); (case h2 => rfl)) | ((with_reducible refine' o_ixS ?hh ?_); (case hh => assumption))
  | ((with_reducible refine' o_ixT ?hh ?_); (case hh => assumption)) | ((with_reducible refine' o_ixL ?hh ?_); (case hh => assumption)) | ((with_reducible refine' o_ixT ?hh ?_); (case hh => rfl)) | ((with_reducible refine' o_ixL ?hh ?_); (case hh => rfl))
  | with_reducible refine o_pow (by decide) (by decide) ?_ | ((with_reducible refine' we_lenC ?hh ?_); (case hh => assumption)) | ((with_reducible refine' we_tupleC ?hh ?_); (case hh => assumption)) | (refine way_t rfl ?_) | (refine way_f rfl ?_) | ((refine' ⟨_, ?hh, ?_⟩); (case hh => rfl)))
local macro_rules | `(tactic| walk_at "mk") => `(tactic| repeat walk_at "mk1")
mutual
def dat : IV → Bool
  | .obj .. => false
  | .cell _ => false
  | .exn .. => false
  | .tup l => datL l
  | .lst l => datL l
  | .scr l => datL l
  | _ => true
def datL : List IV → Bool
  | [] => true
  | x :: xs => dat x && datL xs
end
theorem datL_cons {x : IV} {xs : List IV} (h : datL (x :: xs) = true) : dat x = true ∧ datL xs = true := by simpa [datL, Bool.and_eq_true] using h
theorem datL_mem : ∀ {l : List IV} {v : IV}, datL l = true → v ∈ l → dat v = true
  | x :: xs, v, h, m => by
    obtain ⟨h1, h2⟩ := datL_cons h
    rcases List.mem_cons.mp m with e | e
    · subst e; exact h1
    · exact datL_mem h2 e
mutual
theorem dat_pure : ∀ v : IV, dat v = true → v.pure = true
  | .non, _ => rfl
  | .bl _, _ => rfl
  | .int _, _ => rfl
  | .str _, _ => rfl
  | .tup l, h => by simp only [dat] at h; simp only [IV.pure]; exact datL_pure l h
  | .lst l, h => by simp only [dat] at h; simp only [IV.pure]; exact datL_pure l h
  | .scr l, h => by simp only [dat] at h; simp only [IV.pure]; exact datL_pure l h
  | .obj .., h => by simp [dat] at h
  | .cell _, h => by simp [dat] at h
  | .exn .., h => by simp [dat] at h
theorem datL_pure : ∀ l : List IV, datL l = true → pureL l = true
  | [], _ => rfl
  | x :: xs, h => by
    obtain ⟨h1, h2⟩ := datL_cons h
    simp only [pureL, dat_pure x h1, datL_pure xs h2, Bool.and_self]
end
def isIn (lo hi : Int) : IV → Bool
  | .int i => decide (lo ≤ i) && decide (i ≤ hi)
  | _ => false
theorem r_isint {st : Sto} {v : IV} (h : dat v = true) : g_is_integer [v] st = some (.val (.bl (isIntI v)), st) := by
  refine run_of (we_def (ls := [some v]) rfl ?_)
  unfold m_is_integer
  cases v <;> first | (simp [dat] at h; done) | (walk_at "mk"; refine close_len ?_ ?_ <;> first | rfl | exact ⟨rfl, rfl⟩)
theorem r_within {st : Sto} {v : IV} {lo hi : Int} (h : dat v = true) : g_is_integer_within [v, .int lo, .int hi] st = some (.val (.bl (isIn lo hi v)), st) := by
  refine run_of (we_def (ls := [some v, some (.int lo), some (.int hi)]) rfl ?_)
  unfold m_is_integer_within
  walk_at "mk"
  refine we_run (r_isint h) ?_
  cases v with
  | int i =>
    walk_at "mk"
    refine ⟨fun h1 => ?_, fun h1 => ?_⟩
    · walk_at "mk"
      exact close_len rfl ⟨by (rw [isIn]; show _ = IV.bl (decide (lo ≤ i) && decide (i ≤ hi)); replace h1 : decide (lo ≤ i) = _ := h1; rw [h1]; rfl), rfl⟩
    · exact close_len rfl ⟨by (rw [isIn]; show _ = IV.bl (decide (lo ≤ i) && decide (i ≤ hi)); replace h1 : decide (lo ≤ i) = _ := h1; rw [h1]; rfl), rfl⟩
  | obj c fs => simp [dat] at h
  | cell n => simp [dat] at h
  | exn a b c d e => simp [dat] at h
  | _ =>
    walk_at "mk"
    exact close_len rfl ⟨rfl, rfl⟩
def ascI (least b : Int) : List IV → Bool
  | [] => true
  | .int i :: r => isIn least (b - 1) (.int i) && ascI (i + 1) b r
  | _ :: _ => false
def isAsc (b : Int) : IV → Bool
  | .tup l => ascI 0 b l
  | _ => false
theorem r_ascending {st : Sto} {v : IV} {b : Int} (h : dat v = true) : g_is_ascending [v, .int b] st = some (.val (.bl (isAsc b v)), st) := by
  refine run_of (we_def (ls := [some v, some (.int b), none, none]) rfl ?_)
  unfold m_is_ascending
  cases v with
  | tup l =>
    walk_at "mk"
    refine forL_inv (fun r ls s => s = st ∧ datL r = true ∧ ∃ least x, ls = [some (.tup l), some (.int b), some (.int least), x] ∧ ascI least b r = ascI 0 b l) ?_ ?_ _ _ _ ⟨rfl, h, 0, none, rfl, rfl⟩
    · rintro ls s ⟨rfl, _, least, x, rfl, e⟩
      refine ⟨trivial, ?_⟩
      walk_at "mk"
      exact close_len rfl ⟨by rw [isAsc, ← e]; rfl, rfl⟩
    · rintro v r ls s ⟨rfl, hd, least, x, rfl, e⟩
      obtain ⟨d1, d2⟩ := datL_cons hd
      refine ⟨trivial, _, rfl, ?_⟩
      walk_at "mk"
      refine we_run (r_within d1) ?_
      walk_at "mk"
      refine ⟨fun h1 => ?_, fun h1 => ?_⟩
      · walk_at "mk"
        refine close_len rfl ⟨?_, rfl⟩
        rw [isAsc, ← e]
        cases v <;> first | rfl | (simp only [ascI]; simp at h1; rw [h1]; rfl)
      · walk_at "mk"
        cases v with
        | int i =>
          walk_at "mk"
          refine ⟨rfl, d2, i + 1, some (.int i), rfl, ?_⟩
          rw [← e]
          simp at h1
          simp only [ascI, h1, Bool.true_and]
        | _ => simp [isIn] at h1
  | obj c fs => simp [dat] at h
  | cell n => simp [dat] at h
  | exn a b c d e => simp [dat] at h
  | _ =>
    walk_at "mk"
    exact close_len rfl ⟨rfl, rfl⟩
def isMark (cells : Int) (v : IV) : Bool := isAsc cells v && !(match v with | .tup l => l.isEmpty | _ => true)
theorem r_mark {st : Sto} {v : IV} {c : Int} (h : dat v = true) : g_is_mark [.int c, v] st = some (.val (.bl (isMark c v)), st) := by
  refine run_of (we_def (ls := [some (.int c), some v]) rfl ?_)
  unfold m_is_mark
  walk_at "mk"
  refine we_run (r_ascending h) ?_
  walk_at "mk"
  refine ⟨fun h1 => ?_, fun h1 => ?_⟩
  · cases v with
    | tup l =>
      walk_at "mk"
      refine close_len rfl ⟨?_, rfl⟩
      cases l with
      | nil => simp [isMark, h1]
      | cons a r => simp [isMark, h1]
    | _ => simp [isAsc] at h1
  · exact close_len rfl ⟨by simp [isMark, h1], rfl⟩
def areMarks (cells : Int) : IV → Bool
  | .tup l => decide (1 ≤ l.length) && decide (l.length ≤ 7) && l.all (isMark cells)
  | _ => false
theorem boolsOf_map' (l : List IV) (p : IV → Bool) : boolsOf (l.map fun v => .bl (p v)) = some (l.map p) := by
  induction l with
  | nil => rfl
  | cons a l ih => simp [boolsOf, ih]
theorem r_marks {st : Sto} {v : IV} {c : Int} (h : dat v = true) : g_are_marks [.int c, v] st = some (.val (.bl (areMarks c v)), st) := by
  refine run_of (we_def (ls := [some (.int c), some v, none]) rfl ?_)
  unfold m_are_marks
  cases v with
  | tup l =>
    walk_at "mk"
    refine ⟨fun h1 => ?_, fun h1 => ?_⟩
    · walk_at "mk"
      refine ⟨fun h2 => ?_, fun h2 => ?_⟩
      · walk_at "mk"
        refine close_len rfl ⟨?_, rfl⟩
        simp at h1 h2
        simp [areMarks]
        omega
      · walk_at "mk"
        refine compL_pure (fun _ => true) (fun v => .bl (isMark c v)) trivial (fun v hv => ⟨_, rfl, rfl, fun _ => ?_⟩) ?_
        · refine run_of ?_
          walk_at "mk"
          exact we_run (r_mark (datL_mem h hv)) ⟨rfl, rfl⟩
        · have h2' : l.length ≤ 7 := by simp at h2; omega
          have h1' : 1 ≤ l.length := by have := of_decide_eq_true h1; omega
          rw [show List.filter (fun _ => true) ((l, (none : Option Nat)).1) = l by simp]
          refine len_and (by rw [List.length_map]; show l.length ≤ _; omega) ?_
          walk_at "mk"
          refine we_allL (boolsOf_map' l (isMark c)) (close_len rfl ⟨?_, rfl⟩)
          simp only [areMarks, h1', h2', decide_true, Bool.true_and, List.all_map]
          rfl
    · walk_at "mk"
      refine close_len rfl ⟨?_, rfl⟩
      simp at h1
      have h1' : ¬ 1 ≤ l.length := by omega
      simp [areMarks, h1']
  | obj c fs => simp [dat] at h
  | cell n => simp [dat] at h
  | exn a b c d e => simp [dat] at h
  | _ =>
    walk_at "mk"
    exact close_len rfl ⟨rfl, rfl⟩
def mkObj (c : Int) (l : List IV) : List (Str × IV) := [("cells", .int c), ("marks", .tup l)]
theorem mkObj_eq (k : Int) (l : List IV) : putI "marks" (.tup l) (putI "cells" (.int k) []) = mkObj k l := by
  show (if ("cells" : Str) = "marks" then _ else _) = _
  rw [if_neg (by decide +kernel)]
  rfl
theorem r_init {st : Sto} {c m : IV} {n : Nat} (hc : dat c = true) (hm : dat m = true) (e : st[n]? = some (.ins "Marking" [])) :
    we (g_Marking_init [.cell n, c, m]) st (fun cl f v st' => st' = st ∧ f = "value" ∧ ((isIn 1 8 c = false ∧ cl = "InvalidNumber" ∧ v = c) ∨ (isIn 1 8 c = true ∧ (∃ k, c = .int k ∧ areMarks k m = false) ∧ cl = "InvalidMarks" ∧ v = m)))
      fun v st' => v = .non ∧ ∃ k l, c = .int k ∧ m = .tup l ∧ isIn 1 8 c = true ∧ areMarks k m = true ∧ st' = st.set n (.ins "Marking" (mkObj k l)) := by
  refine we_def (ls := [some (.cell n), some c, some m, none]) rfl ?_
  unfold m_Marking_init
  walk_at "mk"
  refine we_run (r_within hc) ?_
  walk_at "mk"
  refine ⟨fun h1 => ?_, fun h1 => ?_⟩
  · walk_at "mk"
    simp at h1
    exact .inl ⟨rfl, rfl, rfl, .inl ⟨h1, rfl, rfl⟩⟩
  · simp at h1
    cases c with
    | int k =>
      walk_at "mk"
      refine we_run (r_marks hm) ?_
      walk_at "mk"
      refine ⟨fun h2 => ?_, fun h2 => ?_⟩
      · walk_at "mk"
        simp at h2
        exact .inl ⟨rfl, rfl, rfl, .inr ⟨h1, ⟨k, rfl, h2⟩, rfl, rfl⟩⟩
      · simp at h2
        cases m with
        | tup l =>
          walk_at "mk"
          refine ⟨n, [], rfl, e, rfl, by decide, ?_⟩
          have e1 := set_get (c := .ins "Marking" (putI "cells" (.int k) [])) e
          walk_at "mk"
          refine compL_pure (fun _ => true) id trivial (fun v hv => ⟨_, rfl, rfl, fun _ => ?_⟩) ?_
          · have hv' : v ∈ l := hv
            have hmk : isMark k v = true := by
              simp only [areMarks, Bool.and_eq_true, List.all_eq_true] at h2
              exact h2.2 v hv'
            cases v with
            | tup q => rfl
            | _ => simp [isMark, isAsc] at hmk
          · rw [show List.map id (List.filter (fun _ => true) ((l, (none : Option Nat)).1)) = l by simp]
            have hl : l.length ≤ 7 := by
              simp only [areMarks, Bool.and_eq_true, decide_eq_true_eq] at h2
              exact h2.1.2
            refine len_and (by omega) ?_
            walk_at "mk"
            refine ⟨n, _, rfl, e1, dat_pure _ hm, by simp [putI], ?_⟩
            rw [List.set_set, mkObj_eq]
            exact close_len (by simp) ⟨rfl, k, l, rfl, rfl, h1, h2, rfl⟩
        | _ => simp [areMarks] at h2
    | _ => simp [isIn] at h1
end Law
end
section
set_option maxHeartbeats 2000000
namespace Law
open PySem L2 MK
local macro_rules | `(tactic| walk_at "mk1") => `(tactic| first
  | with_reducible refine Rule.ok ?_ | with_reducible refine we_make ?_ | ((with_reducible refine' we_var ?hh ?_); (case hh => rfl)) | with_reducible refine eq_and rfl ?_ | ((with_reducible refine len_and ?hh ?_); (case hh => simp; done)) | with_reducible refine o_mod (by omega) ?_
  | with_reducible refine o_div (by omega) ?_ | with_reducible refine o_mul (by omega) (by omega) ?_ | ((with_reducible refine' o_ixC ?hh ?h2 ?_); (case hh => assumption); (case h2 => rfl)) | ((with_reducible refine' o_ixS ?hh ?_); (case hh => assumption))
  | ((with_reducible refine' o_ixT ?hh ?_); (case hh => assumption)) | ((with_reducible refine' o_ixL ?hh ?_); (case hh => assumption)) | ((with_reducible refine' o_ixT ?hh ?_); (case hh => rfl)) | ((with_reducible refine' o_ixL ?hh ?_); (case hh => rfl))
  | with_reducible refine o_pow (by decide) (by decide) ?_ | ((with_reducible refine' we_lenC ?hh ?_); (case hh => assumption)) | ((with_reducible refine' we_tupleC ?hh ?_); (case hh => assumption)) | (refine way_t rfl ?_) | (refine way_f rfl ?_) | ((refine' ⟨_, ?hh, ?_⟩); (case hh => rfl)))
local macro_rules | `(tactic| walk_at "mk") => `(tactic| repeat walk_at "mk1")
mutual
def veq : IV → IV → Bool
  | .non, .non => true
  | .bl a, .bl b => a == b
  | .bl a, .int b => (if a then 1 else 0) == b
  | .int a, .bl b => a == (if b then 1 else 0)
  | .int a, .int b => a == b
  | .str a, .str b => a == b
  | .tup l, .tup m => veqL l m
  | .lst l, .lst m => veqL l m
  | .lst l, .scr m => veqL l m
  | .scr l, .lst m => veqL l m
  | .scr l, .scr m => veqL l m
  | _, _ => false
def veqL : List IV → List IV → Bool
  | [], [] => true
  | x :: xs, y :: ys => veq x y && veqL xs ys
  | _, _ => false
end
mutual
def cmpb : Nat → IV → Bool
  | _, .non => true
  | _, .bl _ => true
  | _, .int _ => true
  | _, .str x => PyData.strOk x
  | n + 1, .tup l => decide (l.length ≤ 1000000) && cmpbL n l
  | n + 1, .lst l => decide (l.length ≤ 1000000) && cmpbL n l
  | n + 1, .scr l => decide (l.length ≤ 1000000) && cmpbL n l
  | _, _ => false
def cmpbL : Nat → List IV → Bool
  | _, [] => true
  | n, x :: xs => cmpb n x && cmpbL n xs
end
mutual
theorem cmpb_data : ∀ (n : Nat) (v : IV), cmpb n v = true → ∃ d, v.toD = some d ∧ d.canLay0 = true ∧ d.depth ≤ n
  | n, .non, _ => ⟨_, rfl, by simp [PyData.canLay0], by simp [PyData.depth]⟩
  | n, .bl _, _ => ⟨_, rfl, by simp [PyData.canLay0], by simp [PyData.depth]⟩
  | n, .int _, _ => ⟨_, rfl, by simp [PyData.canLay0], by simp [PyData.depth]⟩
  | n, .str x, h => ⟨_, rfl, by
    have h' : PyData.strOk x = true := by cases n <;> simpa [cmpb] using h
    simp [PyData.canLay0, h'], by simp [PyData.depth]⟩
  | 0, .tup l, h => by simp [cmpb] at h
  | 0, .lst l, h => by simp [cmpb] at h
  | 0, .scr l, h => by simp [cmpb] at h
  | n + 1, .tup l, h => by
    obtain ⟨ds, h1, h2, h3⟩ := cmpbL_data n l (by simp only [cmpb, Bool.and_eq_true] at h; exact h.2)
    exact ⟨.tuple ds, by simp [IV.toD, h1], by simpa [PyData.canLay0] using h2, by simpa [PyData.depth] using h3⟩
  | n + 1, .lst l, h => by
    obtain ⟨ds, h1, h2, h3⟩ := cmpbL_data n l (by simp only [cmpb, Bool.and_eq_true] at h; exact h.2)
    exact ⟨.list ds, by simp [IV.toD, h1], by simpa [PyData.canLay0] using h2, by simpa [PyData.depth] using h3⟩
  | n + 1, .scr l, h => by
    obtain ⟨ds, h1, h2, h3⟩ := cmpbL_data n l (by simp only [cmpb, Bool.and_eq_true] at h; exact h.2)
    exact ⟨.list ds, by simp [IV.toD, h1], by simpa [PyData.canLay0] using h2, by simpa [PyData.depth] using h3⟩
  | n, .obj .., h => by cases n <;> simp [cmpb] at h
  | n, .cell _, h => by cases n <;> simp [cmpb] at h
  | n, .exn .., h => by cases n <;> simp [cmpb] at h
theorem cmpbL_data : ∀ (n : Nat) (l : List IV), cmpbL n l = true → ∃ ds, toDL l = some ds ∧ PyData.canLayAll0 ds = true ∧ PyData.depthAll ds ≤ n
  | n, [], _ => ⟨[], rfl, by simp [PyData.canLayAll0], by simp [PyData.depthAll]⟩
  | n, x :: xs, h => by
    simp only [cmpbL, Bool.and_eq_true] at h
    obtain ⟨d, h1, h2, h3⟩ := cmpb_data n x h.1
    obtain ⟨ds, g1, g2, g3⟩ := cmpbL_data n xs h.2
    exact ⟨d :: ds, by simp [toDL, h1, g1], by simp [PyData.canLayAll0, h2, g2], by simp only [PyData.depthAll]; omega⟩
end
theorem toD_inv {b : IV} {e : PyData} (h : b.toD = some e) : (b = .non ∧ e = .none) ∨ (∃ x, b = .bl x ∧ e = .bool x) ∨ (∃ x, b = .int x ∧ e = .int x) ∨ (∃ x, b = .str x ∧ e = .str x) ∨ (∃ l ds, b = .tup l ∧ toDL l = some ds ∧ e = .tuple ds) ∨
    (∃ l ds, b = .lst l ∧ toDL l = some ds ∧ e = .list ds) ∨ (∃ l ds, b = .scr l ∧ toDL l = some ds ∧ e = .list ds) := by
  cases b with
  | non => cases h; exact .inl ⟨rfl, rfl⟩
  | bl x => cases h; exact .inr (.inl ⟨x, rfl, rfl⟩)
  | int x => cases h; exact .inr (.inr (.inl ⟨x, rfl, rfl⟩))
  | str x => cases h; exact .inr (.inr (.inr (.inl ⟨x, rfl, rfl⟩)))
  | tup l =>
    simp only [IV.toD] at h
    cases q : toDL l with
    | none => rw [q] at h; cases h
    | some ds => rw [q] at h; cases h; exact .inr (.inr (.inr (.inr (.inl ⟨l, ds, rfl, q, rfl⟩))))
  | lst l =>
    simp only [IV.toD] at h
    cases q : toDL l with
    | none => rw [q] at h; cases h
    | some ds => rw [q] at h; cases h; exact .inr (.inr (.inr (.inr (.inr (.inl ⟨l, ds, rfl, q, rfl⟩)))))
  | scr l =>
    simp only [IV.toD] at h
    cases q : toDL l with
    | none => rw [q] at h; cases h
    | some ds => rw [q] at h; cases h; exact .inr (.inr (.inr (.inr (.inr (.inr ⟨l, ds, rfl, q, rfl⟩)))))
  | _ => simp [IV.toD] at h
mutual
theorem veq_data : ∀ (d : PyData) (a b : IV) (e : PyData), a.toD = some d → b.toD = some e → PyData.eqv d e = veq a b
  | .list ds, a, b, e, h1, h2 => by
    rcases toD_inv h1 with ⟨_, h⟩ | ⟨_, _, h⟩ | ⟨_, _, h⟩ | ⟨_, _, h⟩ | ⟨_, _, _, _, h⟩ | ⟨l, ds', ha, hl, h⟩ | ⟨l, ds', ha, hl, h⟩ <;> try (cases h; done)
    all_goals
      cases h
      subst ha
      rcases toD_inv h2 with ⟨rfl, rfl⟩ | ⟨_, rfl, rfl⟩ | ⟨_, rfl, rfl⟩ | ⟨_, rfl, rfl⟩ | ⟨_, _, rfl, _, rfl⟩ | ⟨m, es, rfl, hm, rfl⟩ | ⟨m, es, rfl, hm, rfl⟩ <;> first | (simp only [PyData.eqv, veq]; done) | (simp only [PyData.eqv, veq]; exact veqL_data ds l m es hl hm)
  | .tuple ds, a, b, e, h1, h2 => by
    rcases toD_inv h1 with ⟨_, h⟩ | ⟨_, _, h⟩ | ⟨_, _, h⟩ | ⟨_, _, h⟩ | ⟨l, ds', ha, hl, h⟩ | ⟨_, _, _, _, h⟩ | ⟨_, _, _, _, h⟩ <;> try (cases h; done)
    cases h
    subst ha
    rcases toD_inv h2 with ⟨rfl, rfl⟩ | ⟨_, rfl, rfl⟩ | ⟨_, rfl, rfl⟩ | ⟨_, rfl, rfl⟩ | ⟨m, es, rfl, hm, rfl⟩ | ⟨_, _, rfl, _, rfl⟩ | ⟨_, _, rfl, _, rfl⟩ <;> first | (simp only [PyData.eqv, veq]; done) | (simp only [PyData.eqv, veq]; exact veqL_data ds l m es hl hm)
  | .none, a, b, e, h1, h2 => by
    rcases toD_inv h1 with ⟨rfl, h⟩ | ⟨_, _, h⟩ | ⟨_, _, h⟩ | ⟨_, _, h⟩ | ⟨_, _, _, _, h⟩ | ⟨_, _, _, _, h⟩ | ⟨_, _, _, _, h⟩ <;> try (cases h; done)
    rcases toD_inv h2 with ⟨rfl, rfl⟩ | ⟨_, rfl, rfl⟩ | ⟨_, rfl, rfl⟩ | ⟨_, rfl, rfl⟩ | ⟨_, _, rfl, _, rfl⟩ | ⟨_, _, rfl, _, rfl⟩ | ⟨_, _, rfl, _, rfl⟩ <;> simp only [PyData.eqv, veq]
  | .bool x, a, b, e, h1, h2 => by
    rcases toD_inv h1 with ⟨_, h⟩ | ⟨y, rfl, h⟩ | ⟨_, _, h⟩ | ⟨_, _, h⟩ | ⟨_, _, _, _, h⟩ | ⟨_, _, _, _, h⟩ | ⟨_, _, _, _, h⟩ <;> try (cases h; done)
    cases h
    rcases toD_inv h2 with ⟨rfl, rfl⟩ | ⟨_, rfl, rfl⟩ | ⟨_, rfl, rfl⟩ | ⟨_, rfl, rfl⟩ | ⟨_, _, rfl, _, rfl⟩ | ⟨_, _, rfl, _, rfl⟩ | ⟨_, _, rfl, _, rfl⟩ <;> simp only [PyData.eqv, veq]
  | .int x, a, b, e, h1, h2 => by
    rcases toD_inv h1 with ⟨_, h⟩ | ⟨_, _, h⟩ | ⟨y, rfl, h⟩ | ⟨_, _, h⟩ | ⟨_, _, _, _, h⟩ | ⟨_, _, _, _, h⟩ | ⟨_, _, _, _, h⟩ <;> try (cases h; done)
    cases h
    rcases toD_inv h2 with ⟨rfl, rfl⟩ | ⟨_, rfl, rfl⟩ | ⟨_, rfl, rfl⟩ | ⟨_, rfl, rfl⟩ | ⟨_, _, rfl, _, rfl⟩ | ⟨_, _, rfl, _, rfl⟩ | ⟨_, _, rfl, _, rfl⟩ <;> simp only [PyData.eqv, veq]
  | .str x, a, b, e, h1, h2 => by
    rcases toD_inv h1 with ⟨_, h⟩ | ⟨_, _, h⟩ | ⟨_, _, h⟩ | ⟨y, rfl, h⟩ | ⟨_, _, _, _, h⟩ | ⟨_, _, _, _, h⟩ | ⟨_, _, _, _, h⟩ <;> try (cases h; done)
    cases h
    rcases toD_inv h2 with ⟨rfl, rfl⟩ | ⟨_, rfl, rfl⟩ | ⟨_, rfl, rfl⟩ | ⟨_, rfl, rfl⟩ | ⟨_, _, rfl, _, rfl⟩ | ⟨_, _, rfl, _, rfl⟩ | ⟨_, _, rfl, _, rfl⟩ <;> simp only [PyData.eqv, veq]
  | .dict x, a, b, e, h1, h2 => by
    rcases toD_inv h1 with ⟨_, h⟩ | ⟨_, _, h⟩ | ⟨_, _, h⟩ | ⟨_, _, h⟩ | ⟨_, _, _, _, h⟩ | ⟨_, _, _, _, h⟩ | ⟨_, _, _, _, h⟩ <;> (cases h; done)
theorem veqL_data : ∀ (ds : List PyData) (l m : List IV) (es : List PyData), toDL l = some ds → toDL m = some es → PyData.eqvAll ds es = veqL l m
  | ds, [], m, es, h1, h2 => by
    cases h1
    cases m with
    | nil => cases h2; simp only [PyData.eqvAll, veqL]
    | cons y ys =>
      simp only [toDL] at h2
      split at h2
      · cases h2; simp only [PyData.eqvAll, veqL]
      · cases h2
  | [], x :: xs, m, es, h1, h2 => by
    simp only [toDL] at h1
    split at h1 <;> cases h1
  | d :: ds, x :: xs, m, es, h1, h2 => by
    simp only [toDL] at h1
    split at h1
    · rename_i d' ds' q1 q2
      cases h1
      cases m with
      | nil => cases h2; simp only [PyData.eqvAll, veqL]
      | cons y ys =>
        simp only [toDL] at h2
        split at h2
        · rename_i e' es' q3 q4
          cases h2
          simp only [PyData.eqvAll, veqL]
          rw [veq_data d x y e' q1 q3, veqL_data ds xs ys es' q2 q4]
        · cases h2
    · cases h1
end
theorem eqB_cmpb {st : Sto} {a b : IV} (ha : cmpb 64 a = true) (hb : cmpb 64 b = true) : eqB st a b = some (veq a b) := by
  obtain ⟨d, h1, h2, h3⟩ := cmpb_data 64 a ha
  obtain ⟨e, g1, g2, g3⟩ := cmpb_data 64 b hb
  have da : a.data st = some d := by cases a <;> first | exact h1 | simp [IV.toD] at h1
  have db : b.data st = some e := by cases b <;> first | exact g1 | simp [IV.toD] at g1
  unfold eqB
  rw [da, db]
  simp only [SeqAt.shaped, h2, g2, h3, g3, decide_true, Bool.and_self, and_self, if_true]
  rw [veq_data d a b e h1 g1]
theorem o_eq {st : Sto} {a b : IV} {Q : IV → Prop} (ha : cmpb 64 a = true) (hb : cmpb 64 b = true) (q : Q (.bl (veq a b))) : ∃ v, eqI st a b = some v ∧ Q v := ⟨_, by unfold eqI; rw [eqB_cmpb ha hb]; rfl, q⟩
theorem o_ne {st : Sto} {a b : IV} {Q : IV → Prop} (ha : cmpb 64 a = true) (hb : cmpb 64 b = true) (q : Q (.bl (!veq a b))) : ∃ v, neI st a b = some v ∧ Q v := ⟨_, by unfold neI; rw [eqB_cmpb ha hb]; rfl, q⟩
end Law
end
section
set_option maxHeartbeats 2000000
namespace Law
open PySem L2 MK
local macro_rules | `(tactic| walk_at "mk1") => `(tactic| first
  | with_reducible refine Rule.ok ?_ | with_reducible refine we_make ?_ | ((with_reducible refine' we_var ?hh ?_); (case hh => rfl)) | with_reducible refine eq_and rfl ?_ | ((with_reducible refine len_and ?hh ?_); (case hh => simp; done)) | with_reducible refine o_mod (by omega) ?_
  | with_reducible refine o_div (by omega) ?_ | with_reducible refine o_mul (by omega) (by omega) ?_ | ((with_reducible refine' o_ixC ?hh ?h2 ?_); (case hh => assumption); (case h2 => rfl)) | ((with_reducible refine' o_ixS ?hh ?_); (case hh => assumption))
  | ((with_reducible refine' o_ixT ?hh ?_); (case hh => assumption)) | ((with_reducible refine' o_ixL ?hh ?_); (case hh => assumption)) | ((with_reducible refine' o_ixT ?hh ?_); (case hh => rfl)) | ((with_reducible refine' o_ixL ?hh ?_); (case hh => rfl))
  | with_reducible refine o_pow (by decide) (by decide) ?_ | ((with_reducible refine' we_lenC ?hh ?_); (case hh => assumption)) | ((with_reducible refine' we_tupleC ?hh ?_); (case hh => assumption)) | (refine way_t rfl ?_) | (refine way_f rfl ?_) | ((refine' ⟨_, ?hh, ?_⟩); (case hh => rfl)))
local macro_rules | `(tactic| walk_at "mk") => `(tactic| repeat walk_at "mk1")
mutual
theorem cmpb_dat : ∀ (n : Nat) (v : IV), cmpb n v = true → dat v = true
  | n, .non, _ => rfl
  | n, .bl _, _ => rfl
  | n, .int _, _ => rfl
  | n, .str x, h => rfl
  | 0, .tup l, h => by simp [cmpb] at h
  | 0, .lst l, h => by simp [cmpb] at h
  | 0, .scr l, h => by simp [cmpb] at h
  | n + 1, .tup l, h => by simp only [dat]; exact cmpbL_dat n l (by simp only [cmpb, Bool.and_eq_true] at h; exact h.2)
  | n + 1, .lst l, h => by simp only [dat]; exact cmpbL_dat n l (by simp only [cmpb, Bool.and_eq_true] at h; exact h.2)
  | n + 1, .scr l, h => by simp only [dat]; exact cmpbL_dat n l (by simp only [cmpb, Bool.and_eq_true] at h; exact h.2)
  | n, .obj .., h => by cases n <;> simp [cmpb] at h
  | n, .cell _, h => by cases n <;> simp [cmpb] at h
  | n, .exn .., h => by cases n <;> simp [cmpb] at h
theorem cmpbL_dat : ∀ (n : Nat) (l : List IV), cmpbL n l = true → datL l = true
  | n, [], _ => rfl
  | n, x :: xs, h => by
    simp only [cmpbL, Bool.and_eq_true] at h
    simp only [datL, cmpb_dat n x h.1, cmpbL_dat n xs h.2, Bool.and_self]
end
mutual
theorem cmpb_up : ∀ (n m : Nat) (v : IV), n ≤ m → cmpb n v = true → cmpb m v = true
  | n, m, .non, _, _ => by cases m <;> rfl
  | n, m, .bl _, _, _ => by cases m <;> rfl
  | n, m, .int _, _, _ => by cases m <;> rfl
  | n, m, .str x, _, h => by
    have h' : PyData.strOk x = true := by cases n <;> simpa [cmpb] using h
    cases m <;> simpa [cmpb] using h'
  | 0, m, .tup l, _, h => by simp [cmpb] at h
  | 0, m, .lst l, _, h => by simp [cmpb] at h
  | 0, m, .scr l, _, h => by simp [cmpb] at h
  | n + 1, m, .tup l, hm, h => by
    obtain ⟨k, rfl⟩ : ∃ k, m = k + 1 := ⟨m - 1, by omega⟩
    simp only [cmpb, Bool.and_eq_true] at h ⊢
    exact ⟨h.1, cmpbL_up n k l (by omega) h.2⟩
  | n + 1, m, .lst l, hm, h => by
    obtain ⟨k, rfl⟩ : ∃ k, m = k + 1 := ⟨m - 1, by omega⟩
    simp only [cmpb, Bool.and_eq_true] at h ⊢
    exact ⟨h.1, cmpbL_up n k l (by omega) h.2⟩
  | n + 1, m, .scr l, hm, h => by
    obtain ⟨k, rfl⟩ : ∃ k, m = k + 1 := ⟨m - 1, by omega⟩
    simp only [cmpb, Bool.and_eq_true] at h ⊢
    exact ⟨h.1, cmpbL_up n k l (by omega) h.2⟩
  | n, m, .obj .., _, h => by cases n <;> simp [cmpb] at h
  | n, m, .cell _, _, h => by cases n <;> simp [cmpb] at h
  | n, m, .exn .., _, h => by cases n <;> simp [cmpb] at h
theorem cmpbL_up : ∀ (n m : Nat) (l : List IV), n ≤ m → cmpbL n l = true → cmpbL m l = true
  | n, m, [], _, _ => rfl
  | n, m, x :: xs, hm, h => by
    simp only [cmpbL, Bool.and_eq_true] at h ⊢
    exact ⟨cmpb_up n m x hm h.1, cmpbL_up n m xs hm h.2⟩
end
theorem cmpbL_iff {n : Nat} {l : List IV} : cmpbL n l = true ↔ ∀ v ∈ l, cmpb n v = true := by
  induction l with
  | nil => simp [cmpbL]
  | cons a l ih => simp [cmpbL, ih]
theorem cmpb_tup {n : Nat} {l : List IV} : cmpb (n + 1) (.tup l) = true ↔ l.length ≤ 1000000 ∧ ∀ v ∈ l, cmpb n v = true := by
  simp only [cmpb, Bool.and_eq_true, decide_eq_true_eq, cmpbL_iff]
theorem cmpb_lst {n : Nat} {l : List IV} : cmpb (n + 1) (.lst l) = true ↔ l.length ≤ 1000000 ∧ ∀ v ∈ l, cmpb n v = true := by
  simp only [cmpb, Bool.and_eq_true, decide_eq_true_eq, cmpbL_iff]
theorem veqL_nil {l : List IV} : veqL l [] = l.isEmpty := by cases l <;> rfl
end Law
end
section
set_option maxHeartbeats 2000000
namespace Law
open PySem L2 MK
local macro_rules | `(tactic| walk_at "mk1") => `(tactic| first
  | with_reducible refine Rule.ok ?_ | with_reducible refine we_make ?_ | ((with_reducible refine' we_var ?hh ?_); (case hh => rfl)) | with_reducible refine eq_and rfl ?_ | ((with_reducible refine len_and ?hh ?_); (case hh => simp; done)) | with_reducible refine o_mod (by omega) ?_
  | with_reducible refine o_div (by omega) ?_ | with_reducible refine o_mul (by omega) (by omega) ?_ | ((with_reducible refine' o_ixC ?hh ?h2 ?_); (case hh => assumption); (case h2 => rfl)) | ((with_reducible refine' o_ixS ?hh ?_); (case hh => assumption))
  | ((with_reducible refine' o_ixT ?hh ?_); (case hh => assumption)) | ((with_reducible refine' o_ixL ?hh ?_); (case hh => assumption)) | ((with_reducible refine' o_ixT ?hh ?_); (case hh => rfl)) | ((with_reducible refine' o_ixL ?hh ?_); (case hh => rfl))
  | with_reducible refine o_pow (by decide) (by decide) ?_ | ((with_reducible refine' we_lenC ?hh ?_); (case hh => assumption)) | ((with_reducible refine' we_tupleC ?hh ?_); (case hh => assumption)) | (refine way_t rfl ?_) | (refine way_f rfl ?_) | ((refine' ⟨_, ?hh, ?_⟩); (case hh => rfl)))
local macro_rules | `(tactic| walk_at "mk") => `(tactic| repeat walk_at "mk1")
def adj : List Int → Bool
  | [] => true
  | [_] => true
  | a :: b :: r => decide (a < b) && adj (b :: r)
theorem adj_pw : ∀ {ns : List Int}, adj ns = true ↔ ns.Pairwise (· < ·)
  | [] => by simp [adj]
  | [a] => by simp [adj]
  | a :: b :: r => by
    rw [adj, Bool.and_eq_true, adj_pw (ns := b :: r), decide_eq_true_eq]
    refine ⟨fun ⟨h1, h2⟩ => List.pairwise_cons.mpr ⟨fun x hx => ?_, h2⟩, fun h => ⟨(List.pairwise_cons.mp h).1 b List.mem_cons_self, (List.pairwise_cons.mp h).2⟩⟩
    rcases List.mem_cons.mp hx with e | e
    · rw [e]; exact h1
    · exact Int.lt_trans h1 ((List.pairwise_cons.mp h2).1 x e)
theorem ints_all {l : List IV} {p : IV → Bool} (hp : ∀ v, p v = true → isIntI v = true) (h : l.all p = true) : ∃ ns : List Int, l = ns.map .int := by
  induction l with
  | nil => exact ⟨[], rfl⟩
  | cons a l ih =>
    simp only [List.all_cons, Bool.and_eq_true] at h
    obtain ⟨ns, rfl⟩ := ih h.2
    have := hp a h.1
    cases a <;> first | (simp [isIntI] at this; done) | skip
    rename_i i
    exact ⟨i :: ns, rfl⟩
theorem ascI_map : ∀ (ns : List Int) (least b : Int), ascI least b (ns.map .int) = ((ns.map IV.int).all (isIn least (b - 1)) && adj ns)
  | [], _, _ => rfl
  | i :: r, least, b => by
    rw [List.map_cons, ascI, ascI_map r, Bool.eq_iff_iff]
    simp only [Bool.and_eq_true, List.all_cons, adj_pw, List.pairwise_cons, List.all_eq_true, List.mem_map, forall_exists_index, and_imp, forall_apply_eq_imp_iff₂, isIn, decide_eq_true_eq]
    constructor
    · rintro ⟨⟨h1, h2⟩, h3, h4⟩
      exact ⟨⟨⟨h1, h2⟩, fun x hx => ⟨by have := (h3 x hx).1; omega, (h3 x hx).2⟩⟩, fun x hx => by have := (h3 x hx).1; omega, h4⟩
    · rintro ⟨⟨⟨h1, h2⟩, h3⟩, h4, h5⟩
      exact ⟨⟨h1, h2⟩, fun x hx => ⟨by have := h4 x hx; omega, (h3 x hx).2⟩, h5⟩
end Law
end
section
set_option maxHeartbeats 2000000
namespace Law
open PySem L2 MK
local macro_rules | `(tactic| walk_at "mk1") => `(tactic| first
  | with_reducible refine Rule.ok ?_ | with_reducible refine we_make ?_ | ((with_reducible refine' we_var ?hh ?_); (case hh => rfl)) | with_reducible refine eq_and rfl ?_ | ((with_reducible refine len_and ?hh ?_); (case hh => simp; done)) | with_reducible refine o_mod (by omega) ?_
  | with_reducible refine o_div (by omega) ?_ | with_reducible refine o_mul (by omega) (by omega) ?_ | ((with_reducible refine' o_ixC ?hh ?h2 ?_); (case hh => assumption); (case h2 => rfl)) | ((with_reducible refine' o_ixS ?hh ?_); (case hh => assumption))
  | ((with_reducible refine' o_ixT ?hh ?_); (case hh => assumption)) | ((with_reducible refine' o_ixL ?hh ?_); (case hh => assumption)) | ((with_reducible refine' o_ixT ?hh ?_); (case hh => rfl)) | ((with_reducible refine' o_ixL ?hh ?_); (case hh => rfl))
  | with_reducible refine o_pow (by decide) (by decide) ?_ | ((with_reducible refine' we_lenC ?hh ?_); (case hh => assumption)) | ((with_reducible refine' we_tupleC ?hh ?_); (case hh => assumption)) | (refine way_t rfl ?_) | (refine way_f rfl ?_) | ((refine' ⟨_, ?hh, ?_⟩); (case hh => rfl)))
local macro_rules | `(tactic| walk_at "mk") => `(tactic| repeat walk_at "mk1")
theorem Grow.take {st : Sto} {c : CV} : (st ++ [c]).take st.length = st := by simp
theorem r_len {st : Sto} {k : Int} {l : List IV} : g_Marking_len [.obj "Marking" (mkObj k l)] st = some (.val (.int l.length), st) := by
  refine run_of (we_def (ls := [some (.obj "Marking" (mkObj k l))]) rfl ?_)
  unfold m_Marking_len
  walk_at "mk"
  exact close_len rfl ⟨rfl, rfl⟩
end Law
end
section
set_option maxHeartbeats 2000000
namespace Law
open PySem L2 MK
local macro_rules | `(tactic| walk_at "mk1") => `(tactic| first
  | with_reducible refine Rule.ok ?_ | with_reducible refine we_make ?_ | ((with_reducible refine' we_var ?hh ?_); (case hh => rfl)) | with_reducible refine eq_and rfl ?_ | ((with_reducible refine len_and ?hh ?_); (case hh => simp; done)) | with_reducible refine o_mod (by omega) ?_
  | with_reducible refine o_div (by omega) ?_ | with_reducible refine o_mul (by omega) (by omega) ?_ | ((with_reducible refine' o_ixC ?hh ?h2 ?_); (case hh => assumption); (case h2 => rfl)) | ((with_reducible refine' o_ixS ?hh ?_); (case hh => assumption))
  | ((with_reducible refine' o_ixT ?hh ?_); (case hh => assumption)) | ((with_reducible refine' o_ixL ?hh ?_); (case hh => assumption)) | ((with_reducible refine' o_ixT ?hh ?_); (case hh => rfl)) | ((with_reducible refine' o_ixL ?hh ?_); (case hh => rfl))
  | with_reducible refine o_pow (by decide) (by decide) ?_ | ((with_reducible refine' we_lenC ?hh ?_); (case hh => assumption)) | ((with_reducible refine' we_tupleC ?hh ?_); (case hh => assumption)) | (refine way_t rfl ?_) | (refine way_f rfl ?_) | ((refine' ⟨_, ?hh, ?_⟩); (case hh => rfl)))
local macro_rules | `(tactic| walk_at "mk") => `(tactic| repeat walk_at "mk1")
theorem r_eqM {st : Sto} {k k' : Int} {l l' : List IV} (h : cmpb 60 (.tup l) = true) (h' : cmpb 60 (.tup l') = true) : g_Marking_eq [.obj "Marking" (mkObj k l), .obj "Marking" (mkObj k' l')] st = some (.val (.bl (veq (.tup [.int k, .tup l]) (.tup [.int k', .tup l']))), st) := by
  refine run_of (we_def (ls := [some (.obj "Marking" (mkObj k l)), some (.obj "Marking" (mkObj k' l'))]) rfl ?_)
  unfold m_Marking_eq
  walk_at "mk"
  refine ⟨.o "Marking", true, rfl, by decide +kernel, ?_⟩
  walk_at "mk"
  refine ⟨fun h1 => ?_, fun h1 => ?_⟩
  · walk_at "mk"
    refine o_eq (cmpb_up 60 64 _ (by decide) h) (cmpb_up 60 64 _ (by decide) h') (close_len rfl ⟨?_, rfl⟩)
    have h1' : (k == k') = true := by simpa [PyData.eqv] using h1
    simp only [veq, veqL, h1']
    simp
  · refine close_len rfl ⟨?_, rfl⟩
    have h1' : (k == k') = false := by simpa [PyData.eqv] using h1
    simp only [veq, veqL, h1']
    simpa using h1
theorem r_is_due {st : Sto} {a b : Bool} : g_law_is_due [.bl a, .bl b] st = some (.val (.bl (a == b)), st) := by
  refine run_of (we_def (ls := [some (.bl a), some (.bl b)]) rfl ?_)
  unfold m_law_is_due
  walk_at "mk"
  refine ⟨fun h1 => ?_, fun h1 => ?_⟩
  · walk_at "mk"
    exact close_len rfl ⟨by rw [h1], rfl⟩
  · walk_at "mk"
    exact close_len rfl ⟨by rw [h1], rfl⟩
theorem r_made {st : Sto} {k : Int} {l : List IV} (h : cmpb 60 (.tup l) = true) (h1 : isIn 1 8 (.int k) = true) (h2 : areMarks k (.tup l) = true) : g_law_made [.tup [.int k, .tup l]] st = some (.val (.obj "Marking" (mkObj k l)), st) := by
  refine run_of (we_def (ls := [some (.tup [.int k, .tup l])]) rfl ?_)
  unfold m_law_made
  walk_at "mk"
  refine ⟨rfl, we_monoX (r_init rfl (cmpb_dat _ _ h) app_get) ?_ ?_⟩
  · rintro c' f v st' ⟨rfl, rfl, h | h⟩
    · rw [h1] at h; exact absurd h.1 (by decide)
    · obtain ⟨_, ⟨k', e, h3⟩, _⟩ := h
      cases e
      rw [h2] at h3; cases h3
  · rintro v st' ⟨rfl, k', l', e1, e2, _, _, rfl⟩
    cases e1
    cases e2
    refine ⟨rfl, by simp, "Marking", mkObj k l, set_get app_get, ?_⟩
    have e : ((st ++ [CV.ins "Marking" []]).set st.length (.ins "Marking" (mkObj k l))).take st.length = st := by simp
    rw [e]
    exact close_len rfl ⟨rfl, rfl⟩
end Law
end
section
set_option maxHeartbeats 2000000
namespace Law
open PySem L2 MK
local macro_rules | `(tactic| walk_at "mk1") => `(tactic| first
  | with_reducible refine Rule.ok ?_ | with_reducible refine we_make ?_ | ((with_reducible refine' we_var ?hh ?_); (case hh => rfl)) | with_reducible refine eq_and rfl ?_ | ((with_reducible refine len_and ?hh ?_); (case hh => simp; done)) | with_reducible refine o_mod (by omega) ?_
  | with_reducible refine o_div (by omega) ?_ | with_reducible refine o_mul (by omega) (by omega) ?_ | ((with_reducible refine' o_ixC ?hh ?h2 ?_); (case hh => assumption); (case h2 => rfl)) | ((with_reducible refine' o_ixS ?hh ?_); (case hh => assumption))
  | ((with_reducible refine' o_ixT ?hh ?_); (case hh => assumption)) | ((with_reducible refine' o_ixL ?hh ?_); (case hh => assumption)) | ((with_reducible refine' o_ixT ?hh ?_); (case hh => rfl)) | ((with_reducible refine' o_ixL ?hh ?_); (case hh => rfl))
  | with_reducible refine o_pow (by decide) (by decide) ?_ | ((with_reducible refine' we_lenC ?hh ?_); (case hh => assumption)) | ((with_reducible refine' we_tupleC ?hh ?_); (case hh => assumption)) | (refine way_t rfl ?_) | (refine way_f rfl ?_) | ((refine' ⟨_, ?hh, ?_⟩); (case hh => rfl)))
local macro_rules | `(tactic| walk_at "mk") => `(tactic| repeat walk_at "mk1")
structure OnlyN (n : Nat) (st st' : Sto) : Prop where
  len : st.length ≤ st'.length
  ne : ∀ m, m ≠ n → m < st.length → st'[m]? = st[m]?
theorem OnlyN.refl {n : Nat} {st : Sto} : OnlyN n st st := ⟨Nat.le_refl _, fun _ _ _ => rfl⟩
theorem OnlyN.trans {n : Nat} {a b c : Sto} (h : OnlyN n a b) (h' : OnlyN n b c) : OnlyN n a c := ⟨Nat.le_trans h.len h'.len, fun m z l => (h'.ne m z (Nat.lt_of_lt_of_le l h.len)).trans (h.ne m z l)⟩
theorem OnlyN.of {n : Nat} {a b : Sto} (h : Only1 n a b) : OnlyN n a b := ⟨Nat.le_of_eq h.len.symm, fun m z _ => h.ne m z⟩
theorem OnlyN.app {n : Nat} {a l : Sto} : OnlyN n a (a ++ l) := ⟨by simp, fun m _ h => List.getElem?_append_left h⟩
theorem OnlyN.set {n m : Nat} {a : Sto} {c : CV} {st : Sto} (h : OnlyN n st a) (hm : st.length ≤ m) : OnlyN n st (a.set m c) := ⟨by simpa using h.len, fun j z l => by rw [List.getElem?_set_ne (by omega)]; exact h.ne j z l⟩
theorem OnlyN.take {n : Nat} {st s : Sto} (h : OnlyN n st s) : Only1 n st (s.take st.length) := ⟨by rw [List.length_take]; have := h.len; omega, fun m z => by
  by_cases hm : m < st.length
  · rw [List.getElem?_take_of_lt hm]; exact h.ne m z hm
  · rw [List.getElem?_eq_none (by rw [List.length_take]; omega), List.getElem?_eq_none (by omega)]⟩
theorem BoxAt.take {n k : Nat} {s : Sto} (h : BoxAt s n) (hn : n < k) : BoxAt (s.take k) n := by
  obtain ⟨a, b, e, r⟩ := h
  exact ⟨a, b, by rw [List.getElem?_take_of_lt hn]; exact e, r⟩
theorem BoxAt.app {n : Nat} {s l : Sto} (h : BoxAt s n) : BoxAt (s ++ l) n := by
  obtain ⟨a, b, e, r⟩ := h
  exact ⟨a, b, by rw [List.getElem?_append_left (List.getElem?_eq_some_iff.mp e).1]; exact e, r⟩
theorem BoxAt.set {n m : Nat} {s : Sto} {c : CV} (h : BoxAt s n) (hm : m ≠ n) : BoxAt (s.set m c) n := by
  obtain ⟨a, b, e, r⟩ := h
  exact ⟨a, b, by rw [List.getElem?_set_ne hm]; exact e, r⟩
theorem ins_perm {f d : List IV} {v : IV} (i : Nat) (h : f.Perm d) : (f.take i ++ [v] ++ f.drop i).Perm (d ++ [v]) := by
  have h1 : (f.take i ++ [v] ++ f.drop i).Perm (v :: f) := by
    rw [List.append_assoc]
    refine (List.perm_append_comm).trans ?_
    simp only [List.singleton_append, List.cons_append]
    refine List.Perm.cons v ?_
    refine (List.perm_append_comm).trans ?_
    rw [List.nil_append, List.take_append_drop]
  exact h1.trans ((List.Perm.cons v h).trans (List.perm_append_comm (l₁ := [v]) (l₂ := d)))
theorem pureL_ins {f : List IV} {v : IV} (i : Nat) (h : pureL f = true) (hv : v.pure = true) : pureL (f.take i ++ [v] ++ f.drop i) = true :=
  pureL_app (pureL_app (pureL_take i h) (by simp [pureL, hv])) (pureL_drop i h)
theorem r_shuffled {st : Sto} {n : Nat} {l : List IV} (hb : BoxAt st n) (hl : l.length ≤ 1000) (hp : pureL l = true) :
    we (g_law_shuffled [.cell n, .lst l]) st noX fun v st' => ∃ p, v = .lst p ∧ p.Perm l ∧ Only1 n st st' ∧ BoxAt st' n := by
  have hn := hb.lt
  refine we_def (ls := [some (.cell n), some (.lst l), none, none]) rfl ?_
  unfold m_law_shuffled
  walk_at "mk"
  refine we_newT rfl ?_
  walk_at "mk"
  refine forL_inv (fun r ls s => ∃ f d x, ls = [some (.cell n), some (.lst l), some (.cell st.length), x] ∧ s[st.length]? = some (.lst f) ∧ f.Perm d ∧ l = d ++ r ∧ BoxAt s n ∧ OnlyN n st s ∧ pureL f = true ∧ pureL r = true) ?_ ?_ _ _ _
    ⟨[], [], none, rfl, app_get, .nil, rfl, hb.app, .app, rfl, hp⟩
  · rintro ls s ⟨f, d, x, rfl, e, pm, el, hb', o, pf, _⟩
    refine ⟨trivial, ?_⟩
    walk_at "mk"
    rw [List.append_nil] at el
    exact close_new (Nat.le_refl _) e ⟨f, rfl, el ▸ pm, o.take, hb'.take hn⟩
  · rintro v r ls s ⟨f, d, x, rfl, e, pm, el, hb', o, pf, pr⟩
    simp only [pureL, Bool.and_eq_true] at pr
    have hfl : f.length ≤ 1000 := by
      rw [pm.length_eq]
      have := congrArg List.length el
      simp at this
      omega
    refine ⟨trivial, _, rfl, ?_⟩
    walk_at "mk"
    refine ⟨st.length, f, rfl, e, ?_⟩
    walk_at "mk"
    refine we_nox (r_take hb' (by omega) (by omega)) ?_
    rintro v1 s1 ⟨i, rfl, i0, i1, o1, hb1⟩
    have e1 : s1[st.length]? = some (.lst f) := by rw [o1.ne _ (by omega)]; exact e
    walk_at "mk"
    refine we_ins e1 pr.1 (by omega) i0 (by omega) ?_
    exact ⟨_, d ++ [v], some v, rfl, set_get e1, ins_perm _ pm, by rw [el]; simp, hb1.set (by omega), (o.trans (.of o1)).set (Nat.le_refl _), pureL_ins _ pf pr.1, pr.2⟩
end Law
end
section
set_option maxHeartbeats 2000000
namespace Law
open PySem L2 MK
local macro_rules | `(tactic| walk_at "mk1") => `(tactic| first
  | with_reducible refine Rule.ok ?_ | with_reducible refine we_make ?_ | ((with_reducible refine' we_var ?hh ?_); (case hh => rfl)) | with_reducible refine eq_and rfl ?_ | ((with_reducible refine len_and ?hh ?_); (case hh => simp; done)) | with_reducible refine o_mod (by omega) ?_
  | with_reducible refine o_div (by omega) ?_ | with_reducible refine o_mul (by omega) (by omega) ?_ | ((with_reducible refine' o_ixC ?hh ?h2 ?_); (case hh => assumption); (case h2 => rfl)) | ((with_reducible refine' o_ixS ?hh ?_); (case hh => assumption))
  | ((with_reducible refine' o_ixT ?hh ?_); (case hh => assumption)) | ((with_reducible refine' o_ixL ?hh ?_); (case hh => assumption)) | ((with_reducible refine' o_ixT ?hh ?_); (case hh => rfl)) | ((with_reducible refine' o_ixL ?hh ?_); (case hh => rfl))
  | with_reducible refine o_pow (by decide) (by decide) ?_ | ((with_reducible refine' we_lenC ?hh ?_); (case hh => assumption)) | ((with_reducible refine' we_tupleC ?hh ?_); (case hh => assumption)) | (refine way_t rfl ?_) | (refine way_f rfl ?_) | ((refine' ⟨_, ?hh, ?_⟩); (case hh => rfl)))
local macro_rules | `(tactic| walk_at "mk") => `(tactic| repeat walk_at "mk1")
theorem OnlyN.all {n : Nat} {st s : Sto} (h : OnlyN n st s) (hn : st.length ≤ n) : s.take st.length = st := by
  apply List.ext_getElem?
  intro m
  by_cases hm : m < st.length
  · rw [List.getElem?_take_of_lt hm]; exact h.ne m (by omega) hm
  · rw [List.getElem?_eq_none (by rw [List.length_take]; omega), List.getElem?_eq_none (by omega)]
theorem we_lstRg {st : Sto} {E : EX} {ls : MK.Loc} {Q : IV → Sto → Prop} {ga : MA} {c : Bool} (h : we (ga ls) st E fun l st1 => ∃ i j, rgArgs l = some (i, j) ∧ rgBounds i j = true ∧ we (newL c (rangeI i (j - i).toNat)) st1 E Q) : we (mLstRg c ga ls) st E Q :=
  we_bind (we_mono h fun l st1 ⟨i, j, e1, e2, r, st', e, q⟩ => ⟨r, st', by unfold lstRgM; simp only [e1, e2, if_true]; exact e, q⟩)
theorem o_neC {st : Sto} {n : Nat} {l : List IV} {Q : IV → Prop} (e : st[n]? = some (.lst l)) (h : ∀ v ∈ l, cmpb 60 v = true) (q : Q (.bl (!l.isEmpty))) : ∃ v, neI st (.cell n) (.lst []) = some v ∧ Q v := by
  obtain ⟨ds, h1, h2, h3⟩ := cmpbL_data 60 l (cmpbL_iff.mpr h)
  have hv := veqL_data ds l [] [] h1 rfl
  refine ⟨_, ?_, q⟩
  unfold neI eqB
  simp only [IV.data, e, h1, Option.map]
  show ((if SeqAt.shaped (.list ds) = true ∧ SeqAt.shaped (.list []) = true then some (PyData.eqv (.list ds) (.list [])) else none).map fun c => IV.bl (!c)) = _
  have hs : SeqAt.shaped (.list ds) = true := by
    unfold SeqAt.shaped
    simp only [PyData.canLay0, h2, Bool.true_and, decide_eq_true_eq]
    show PyData.depth (.list ds) ≤ 64
    simp only [PyData.depth]
    omega
  rw [if_pos ⟨hs, by decide⟩]
  simp only [PyData.eqv, Option.map, hv, veqL_nil]
def MarkOk (k : Int) (v : IV) : Prop := ∃ ns : List Int, v = .tup (ns.map .int) ∧ ns ≠ [] ∧ ns.Pairwise (· < ·) ∧ ns.length ≤ 8 ∧ ∀ i ∈ ns, 0 ≤ i ∧ i < k
theorem MarkOk.is {k : Int} {v : IV} (h : MarkOk k v) : isMark k v = true := by
  obtain ⟨ns, rfl, h1, h2, _, h3⟩ := h
  simp only [isMark, isAsc, ascI_map, Bool.and_eq_true, List.all_eq_true, adj_pw]
  refine ⟨⟨fun v hv => ?_, h2⟩, ?_⟩
  · obtain ⟨i, hi, rfl⟩ := List.mem_map.mp hv
    have := h3 i hi
    simp only [isIn, Bool.and_eq_true, decide_eq_true_eq]; omega
  · cases ns with
    | nil => exact absurd rfl h1
    | cons a r => rfl
theorem MarkOk.cmpb {k : Int} {v : IV} (h : MarkOk k v) : cmpb 2 v = true := by
  obtain ⟨ns, rfl, h1, h2, h4, h3⟩ := h
  refine cmpb_tup.mpr ⟨by rw [List.length_map]; omega, fun v hv => ?_⟩
  obtain ⟨i, hi, rfl⟩ := List.mem_map.mp hv
  rfl
theorem rangeI_map (lo : Int) (n : Nat) : rangeI lo n = ((List.range n).map fun (i : Nat) => lo + (i : Int)).map IV.int := by simp [rangeI]
theorem mark_of {k : Int} {sz : Int} {p : List IV} (hk : 1 ≤ k ∧ k ≤ 8) (hs : 1 ≤ sz) (hp : p.Perm (rangeI 0 k.toNat)) : ∃ ns : List Int, intsOf (cutI p none (some sz)) = some ns ∧ MarkOk k (.tup ((sortI ns).map .int)) := by
  obtain ⟨ms, rfl⟩ : ∃ ms : List Int, p = ms.map .int := by
    rw [rangeI_map] at hp
    refine ints_all (p := isIntI) (fun v h => h) (List.all_eq_true.mpr fun v hv => ?_)
    obtain ⟨i, _, rfl⟩ := List.mem_map.mp (hp.mem_iff.mp hv)
    rfl
  have hms : ms.Perm ((List.range k.toNat).map fun (i : Nat) => (0 : Int) + (i : Int)) := by
    rw [rangeI_map] at hp
    have := hp.filterMap (fun v => match v with | IV.int i => some i | _ => none)
    rw [List.filterMap_map, List.filterMap_map] at this
    have e : ∀ l : List Int, l.filterMap ((fun v => match v with | IV.int i => some i | _ => none) ∘ IV.int) = l := fun l => by
      have : ((fun v => match v with | IV.int i => some i | _ => none) ∘ IV.int) = (some : Int → Option Int) := rfl
      rw [this]; simp
    rwa [e, e] at this
  have nd : ms.Nodup := by
    rw [hms.nodup_iff]
    exact List.pairwise_map.mpr (List.nodup_range.imp fun h e => h (by omega))
  have hlen : ms.length = k.toNat := by rw [hms.length_eq]; simp
  obtain ⟨j, hj, hj1⟩ : ∃ j, cutI (ms.map IV.int) none (some sz) = (ms.take j).map .int ∧ 1 ≤ j := by
    refine ⟨HT.sIx ms.length ms.length (some sz) - HT.sIx ms.length 0 none, ?_, ?_⟩
    · unfold cutI
      rw [List.length_map]
      show ((ms.map IV.int).drop 0).take _ = _
      rw [List.drop_zero, List.map_take]
    · show 1 ≤ (if sz < 0 then (sz + (ms.length : Int)).toNat else min sz.toNat ms.length) - 0
      rw [if_neg (by omega)]
      omega
  refine ⟨ms.take j, by rw [hj]; exact intsOf_map _, sortI (ms.take j), rfl, ?_, ?_, ?_, fun i hi => ?_⟩
  · intro e
    have h1 := (sortI_perm (ms.take j)).length_eq
    rw [e, List.length_take] at h1
    simp at h1
    omega
  · have h1 := sortI_le (ms.take j)
    have h2 : (sortI (ms.take j)).Nodup := (sortI_perm _).nodup_iff.mpr (nd.sublist (List.take_sublist _ _))
    exact (h1.and h2).imp fun ⟨a, b⟩ => by omega
  · rw [(sortI_perm (ms.take j)).length_eq, List.length_take]; omega
  · have h1 := List.mem_of_mem_take ((sortI_perm (ms.take j)).mem_iff.mp hi)
    obtain ⟨q, hq, rfl⟩ := List.mem_map.mp (hms.mem_iff.mp h1)
    simp at hq
    omega
theorem ix4 {a b c d : Int} {i : Int} (h0 : 0 ≤ i) (h1 : i < 4) (ha : 1 ≤ a) (hb : 1 ≤ b) (hc : 1 ≤ c) (hd : 1 ≤ d) : ∃ x : Int, atI [IV.int a, IV.int b, IV.int c, IV.int d] i = some (.int x) ∧ 1 ≤ x := by
  have : i = 0 ∨ i = 1 ∨ i = 2 ∨ i = 3 := by omega
  rcases this with rfl | rfl | rfl | rfl
  · exact ⟨a, rfl, ha⟩
  · exact ⟨b, rfl, hb⟩
  · exact ⟨c, rfl, hc⟩
  · exact ⟨d, rfl, hd⟩
theorem r_marking {st : Sto} {ns : List Int} {most : Int} (hl : ns.length ≤ 63) (hm : 2 ≤ most ∧ most ≤ 7) :
    we (g_law_marking [.scr (ns.map .int), .int most]) st noX fun v st' => st' = st ∧ ∃ k l, v = .tup [.int k, .tup l] ∧ 1 ≤ k ∧ k ≤ 8 ∧ 1 ≤ l.length ∧ (l.length : Int) ≤ most ∧ ∀ m ∈ l, MarkOk k m := by
  refine we_def (ls := [some (.scr (ns.map .int)), some (.int most), none, none, none, none, none, none, none, none]) rfl ?_
  unfold m_law_marking
  walk_at "mk"
  refine we_nox (r_box hl (by omega) (by omega)) ?_
  rintro v s1 ⟨n, rfl, rfl, gr, hlen, hb⟩
  walk_at "mk"
  refine we_nox (r_pick hb .lst (by simp) (by simp)) ?_
  rintro v s2 ⟨hv, o2, hb2⟩
  obtain ⟨k, rfl, k1, k8⟩ : ∃ k : Int, v = .int k ∧ 1 ≤ k ∧ k ≤ 8 := by
    simp only [List.mem_cons, List.not_mem_nil, or_false] at hv
    rcases hv with rfl | rfl | rfl | rfl | rfl | rfl | rfl | rfl <;> exact ⟨_, rfl, by decide, by decide⟩
  clear hv
  walk_at "mk"
  refine we_nox (r_pick hb2 .lst (by simp) (by simp)) ?_
  rintro v s3 ⟨hv, o3, hb3⟩
  obtain ⟨many, rfl, m1, m7⟩ : ∃ k : Int, v = .int k ∧ 1 ≤ k ∧ k ≤ most := by
    simp only [List.mem_cons, List.not_mem_nil, or_false] at hv
    rcases hv with rfl | rfl | rfl | rfl | rfl | rfl | rfl | rfl <;> refine ⟨_, rfl, ?_, ?_⟩ <;> (try split) <;> omega
  clear hv
  walk_at "mk"
  refine we_nox (r_take hb3 (by omega) (by omega)) ?_
  rintro v s4 ⟨how, rfl, w0, w4, o4, hb4⟩
  walk_at "mk"
  refine we_newT rfl ?_
  walk_at "mk"
  have o14 : OnlyN st.length st s4 := (⟨gr.len, fun m _ h => gr.old m h⟩ : OnlyN st.length st s1).trans ((OnlyN.of o2).trans ((OnlyN.of o3).trans (.of o4)))
  have l4 : s4.length = st.length + 1 := by rw [o4.len, o3.len, o2.len, hlen]
  refine ⟨by omega, ?_⟩
  refine forL_inv (fun r ls s => ∃ f x7 x8 x9, ls = [some (.scr (ns.map .int)), some (.int most), some (.cell st.length), some (.int k), some (.int many), some (.int how), some (.cell s4.length), x7, x8, x9] ∧ s[s4.length]? = some (.lst f) ∧ BoxAt s st.length ∧ OnlyN st.length st s ∧
    ((f.length : Int) + r.length = many) ∧ ∀ m ∈ f, MarkOk k m) ?_ ?_ _ _ _ ?_
  rotate_left 2
  · exact ⟨[], none, none, none, rfl, app_get, hb4.app, o14.trans .app, by simp only [rangeI, List.length_map, List.length_range, List.length_nil]; omega, by simp⟩
  · rintro ls s ⟨f, x7, x8, x9, rfl, e, hb', o, hf, hk⟩
    refine ⟨trivial, ?_⟩
    walk_at "mk"
    refine close_pure ?_ ?_ o.len
    · simp only [IV.pure, pureL, Bool.and_true, Bool.true_and]
      exact datL_pure _ (cmpbL_dat 2 _ (cmpbL_iff.mpr fun v hv => (hk v hv).cmpb))
    · rw [o.all (Nat.le_refl _)]
      simp at hf
      exact ⟨rfl, k, f, rfl, k1, k8, by omega, by omega, hk⟩
  · rintro v r ls s ⟨f, x7, x8, x9, rfl, e, hb', o, hf, hk⟩
    refine ⟨trivial, _, rfl, ?_⟩
    walk_at "mk"
    refine we_nox (r_take hb' (by omega) (by omega)) ?_
    rintro v1 s5 ⟨q, rfl, q0, q1, o5, hb5⟩
    walk_at "mk"
    obtain ⟨sz, hsz, sz1⟩ := ix4 (a := 1 + q) (b := if 2 < k then 2 else k) (c := (k + 1) / 2) (d := if 3 < k then 3 else k) w0 w4 (by omega) (by split <;> omega) (by omega) (by split <;> omega)
    walk_at "mk"
    have e5 : s5[s4.length]? = some (.lst f) := by rw [o5.ne _ (by omega)]; exact e
    refine we_lstRg ?_
    walk_at "mk"
    refine ⟨0, k, rfl, by simp [rgBounds]; omega, ?_⟩
    walk_at "mk"
    refine we_nox (r_shuffled hb5 (by simp [rangeI]; omega) (by rw [rangeI_map]; exact datL_pure _ (cmpbL_dat 0 _ (cmpbL_iff.mpr fun v hv => by obtain ⟨i, _, rfl⟩ := List.mem_map.mp hv; rfl)))) ?_
    rintro v1 s6 ⟨p, rfl, pm, o6, hb6⟩
    have e6 : s6[s4.length]? = some (.lst f) := by rw [o6.ne _ (by omega)]; exact e5
    rw [Int.sub_zero] at pm
    obtain ⟨ps, hps, mok⟩ := mark_of ⟨k1, k8⟩ sz1 pm
    walk_at "mk"
    refine we_sort ?_ hps
    walk_at "mk"
    have o6' : OnlyN st.length st s6 := o.trans ((OnlyN.of o5).trans (.of o6))
    have step : ∀ (s' : Sto) (v : IV), s'[s4.length]? = some (.lst f) → BoxAt s' st.length → OnlyN st.length st s' → MarkOk k v → (s'.set s4.length (.lst (f ++ [v])))[s4.length]? = some (.lst (f ++ [v])) ∧ BoxAt (s'.set s4.length (.lst (f ++ [v]))) st.length ∧ OnlyN st.length st (s'.set s4.length (.lst (f ++ [v]))) ∧
        (((f ++ [v]).length : Int) + r.length = many) ∧ ∀ m ∈ f ++ [v], MarkOk k m := fun s' v e' hb' o' hv => by
      refine ⟨set_get e', hb'.set (by omega), o'.set (by omega), ?_, fun m hm => ?_⟩
      · simp at hf ⊢; omega
      · rcases List.mem_append.mp hm with h | h
        · exact hk m h
        · simp at h; subst h; exact hv
    have hfl : f.length ≤ 7 := by simp at hf; omega
    refine o_neC e6 (fun v hv => cmpb_up 2 60 _ (by decide) (hk v hv).cmpb) ?_
    refine ⟨_, rfl, fun h1 => ?_, fun h1 => ?_⟩
    · walk_at "mk"
      refine we_nox (r_take hb6 (by omega) (by omega)) ?_
      rintro v2 s7 ⟨z, rfl, z0, z8, o7, hb7⟩
      have e7 : s7[s4.length]? = some (.lst f) := by rw [o7.ne _ (by omega)]; exact e6
      walk_at "mk"
      have o7' := o6'.trans (.of o7)
      refine ⟨fun h2 => ?_, fun h2 => ?_⟩
      · have hne : f ≠ [] := by
          intro z
          subst z
          simp at h1
        walk_at "mk"
        refine we_nox (r_pick hb7 (.cell e7 (by omega)) hne (by omega)) ?_
        rintro v3 s8 ⟨hv3, o8, hb8⟩
        have e8 : s8[s4.length]? = some (.lst f) := by rw [o8.ne _ (by omega)]; exact e7
        walk_at "mk"
        refine ⟨s4.length, f, rfl, e8, ?_⟩
        walk_at "mk"
        refine we_app e8 (dat_pure _ (cmpb_dat _ _ (hk v3 hv3).cmpb)) (by omega) ?_
        exact ⟨_, _, _, _, rfl, step s8 _ e8 hb8 (o7'.trans (.of o8)) (hk v3 hv3)⟩
      · walk_at "mk"
        refine ⟨s4.length, f, rfl, e7, ?_⟩
        walk_at "mk"
        refine we_app e7 (dat_pure _ (cmpb_dat _ _ mok.cmpb)) (by omega) ?_
        exact ⟨_, _, _, _, rfl, step s7 _ e7 hb7 o7' mok⟩
    · walk_at "mk"
      refine ⟨s4.length, f, rfl, e6, ?_⟩
      walk_at "mk"
      refine we_app e6 (dat_pure _ (cmpb_dat _ _ mok.cmpb)) (by omega) ?_
      exact ⟨_, _, _, _, rfl, step s6 _ e6 hb6 o6' mok⟩
end Law
end
section
set_option maxHeartbeats 2000000
namespace Law
open PySem L2 MK
local macro_rules | `(tactic| walk_at "mk1") => `(tactic| first
  | with_reducible refine Rule.ok ?_ | with_reducible refine we_make ?_ | ((with_reducible refine' we_var ?hh ?_); (case hh => rfl)) | with_reducible refine eq_and rfl ?_ | ((with_reducible refine len_and ?hh ?_); (case hh => simp; done)) | with_reducible refine o_mod (by omega) ?_
  | with_reducible refine o_div (by omega) ?_ | with_reducible refine o_mul (by omega) (by omega) ?_ | ((with_reducible refine' o_ixC ?hh ?h2 ?_); (case hh => assumption); (case h2 => rfl)) | ((with_reducible refine' o_ixS ?hh ?_); (case hh => assumption))
  | ((with_reducible refine' o_ixT ?hh ?_); (case hh => assumption)) | ((with_reducible refine' o_ixL ?hh ?_); (case hh => assumption)) | ((with_reducible refine' o_ixT ?hh ?_); (case hh => rfl)) | ((with_reducible refine' o_ixL ?hh ?_); (case hh => rfl))
  | with_reducible refine o_pow (by decide) (by decide) ?_ | ((with_reducible refine' we_lenC ?hh ?_); (case hh => assumption)) | ((with_reducible refine' we_tupleC ?hh ?_); (case hh => assumption)) | (refine way_t rfl ?_) | (refine way_f rfl ?_) | ((refine' ⟨_, ?hh, ?_⟩); (case hh => rfl)))
local macro_rules | `(tactic| walk_at "mk") => `(tactic| repeat walk_at "mk1")
structure OkL (d m : Nat) (l : List IV) : Prop where
  len : l.length ≤ m
  all : ∀ v ∈ l, cmpb d v = true
theorem OkL.app {d m k : Nat} {a b : List IV} (ha : OkL d m a) (hb : OkL d k b) : OkL d (m + k) (a ++ b) := ⟨by rw [List.length_append]; have := ha.len; have := hb.len; omega, fun v hv => (List.mem_append.mp hv).elim (ha.all v) (hb.all v)⟩
theorem OkL.cut {d m : Nat} {l : List IV} (h : OkL d m l) (lo hi : Option Int) : OkL d m (cutI l lo hi) := by
  unfold cutI
  refine ⟨Nat.le_trans ?_ h.len, fun v hv => h.all v (List.mem_of_mem_drop (List.mem_of_mem_take hv))⟩
  rw [List.length_take, List.length_drop]; omega
theorem OkL.one {d : Nat} {x : IV} (h : cmpb d x = true) : OkL d 1 [x] := ⟨Nat.le_refl _, fun v hv => by simp at hv; subst hv; exact h⟩
theorem OkL.tup {d m : Nat} {l : List IV} (h : OkL d m l) (hm : m ≤ 1000000) : cmpb (d + 1) (.tup l) = true := cmpb_tup.mpr ⟨Nat.le_trans h.len hm, h.all⟩
theorem OkL.lst {d m : Nat} {l : List IV} (h : OkL d m l) (hm : m ≤ 1000000) : cmpb (d + 1) (.lst l) = true := cmpb_lst.mpr ⟨Nat.le_trans h.len hm, h.all⟩
def Tree : Nat → IV → Prop
  | 0, v => ∃ i : Int, v = .int i ∧ 0 ≤ i ∧ i ≤ 100
  | d + 1, v => ∃ l, v = .tup l ∧ l.length ≤ 100 ∧ ∀ x ∈ l, Tree d x
theorem Tree.cmpb : ∀ {d : Nat} {v : IV}, Tree d v → cmpb d v = true
  | 0, v, h => by obtain ⟨i, rfl, _⟩ := h; rfl
  | d + 1, v, h => by
    obtain ⟨l, rfl, h1, h2⟩ := h
    exact cmpb_tup.mpr ⟨by omega, fun x hx => (h2 x hx).cmpb⟩
end Law
end
section
set_option maxHeartbeats 2000000
namespace Law
open PySem L2 MK
local macro_rules | `(tactic| walk_at "mk1") => `(tactic| first
  | with_reducible refine Rule.ok ?_ | ((with_reducible refine' we_var ?hh ?_); (case hh => rfl)) | with_reducible refine eq_and rfl ?_ | ((with_reducible refine len_and ?hh ?_); (case hh => simp; done)) | with_reducible refine o_mod (by omega) ?_ | with_reducible refine o_div (by omega) ?_
  | with_reducible refine o_mul (by omega) (by omega) ?_ | ((with_reducible refine' o_ixC ?hh ?h2 ?_); (case hh => assumption); (case h2 => rfl)) | ((with_reducible refine' o_ixS ?hh ?_); (case hh => assumption)) | ((with_reducible refine' o_ixT ?hh ?_); (case hh => assumption))
  | ((with_reducible refine' o_ixL ?hh ?_); (case hh => assumption)) | ((with_reducible refine' o_ixT ?hh ?_); (case hh => rfl)) | ((with_reducible refine' o_ixL ?hh ?_); (case hh => rfl)) | with_reducible refine o_pow (by decide) (by decide) ?_
  | ((with_reducible refine' we_lenC ?hh ?_); (case hh => assumption)) | ((with_reducible refine' we_tupleC ?hh ?_); (case hh => assumption)) | (refine way_t rfl ?_) | (refine way_f rfl ?_) | ((refine' Exists.intro _ (And.intro ?hh ?_)); (case hh => rfl)))
local macro_rules | `(tactic| walk_at "mk") => `(tactic| repeat walk_at "mk1")
mutual
theorem veq_refl : ∀ v : IV, dat v = true → veq v v = true
  | .non, _ => rfl
  | .bl _, _ => by simp [veq]
  | .int _, _ => by simp [veq]
  | .str _, _ => by simp [veq]
  | .tup l, h => by simp only [veq]; exact veqL_refl l (by simpa [dat] using h)
  | .lst l, h => by simp only [veq]; exact veqL_refl l (by simpa [dat] using h)
  | .scr l, h => by simp only [veq]; exact veqL_refl l (by simpa [dat] using h)
  | .obj .., h => by simp [dat] at h
  | .cell _, h => by simp [dat] at h
  | .exn .., h => by simp [dat] at h
theorem veqL_refl : ∀ l : List IV, datL l = true → veqL l l = true
  | [], _ => rfl
  | x :: xs, h => by
    obtain ⟨h1, h2⟩ := datL_cons h
    simp only [veqL, veq_refl x h1, veqL_refl xs h2, Bool.and_self]
end
theorem we_mk {st : Sto} {E : EX} {ls : MK.Loc} {Q : IV → Sto → Prop} {ga : MA} (h : we (ga ls) st E fun a st1 => ∃ k l, a = [.int k, .tup l] ∧ dat (.tup l) = true ∧ isIn 1 8 (.int k) = true ∧ areMarks k (.tup l) = true ∧ Q (.obj "Marking" (mkObj k l)) st1) :
    we (mMake false "Marking" 3 g_Marking_init ga ls) st E Q := by
  refine we_make (we_mono h ?_)
  rintro a st1 ⟨k, l, rfl, hd, h1, h2, q⟩
  refine ⟨rfl, we_monoX (r_init rfl hd app_get) ?_ ?_⟩
  · rintro c' f v st' ⟨rfl, rfl, h | h⟩
    · rw [h1] at h; exact absurd h.1 (by decide)
    · obtain ⟨_, ⟨k', e, h3⟩, _⟩ := h
      cases e
      rw [h2] at h3; cases h3
  · rintro v st' ⟨rfl, k', l', e1, e2, _, _, rfl⟩
    cases e1
    cases e2
    refine ⟨rfl, by simp, "Marking", mkObj k l, set_get app_get, ?_⟩
    have e : ((st1 ++ [CV.ins "Marking" []]).set st1.length (.ins "Marking" (mkObj k l))).take st1.length = st1 := by simp
    rw [e]
    exact q
def CaseOk (v : IV) : Prop := ∃ c m, v = .tup [c, m] ∧ cmpb 30 c = true ∧ cmpb 30 m = true
theorem CaseOk.cmpb {v : IV} (h : CaseOk v) : cmpb 31 v = true := by
  obtain ⟨c, m, rfl, h1, h2⟩ := h
  exact cmpb_tup.mpr ⟨by simp, fun x hx => by simp at hx; rcases hx with rfl | rfl <;> assumption⟩
end Law
end
section
set_option maxHeartbeats 2000000
namespace Law
open PySem L2 MK
local macro_rules | `(tactic| walk_at "mk1") => `(tactic| first
  | with_reducible refine Rule.ok ?_ | ((with_reducible refine' we_var ?hh ?_); (case hh => rfl)) | with_reducible refine eq_and rfl ?_ | ((with_reducible refine len_and ?hh ?_); (case hh => simp; done)) | with_reducible refine o_mod (by omega) ?_ | with_reducible refine o_div (by omega) ?_
  | with_reducible refine o_mul (by omega) (by omega) ?_ | ((with_reducible refine' o_ixC ?hh ?h2 ?_); (case hh => assumption); (case h2 => rfl)) | ((with_reducible refine' o_ixS ?hh ?_); (case hh => assumption)) | ((with_reducible refine' o_ixT ?hh ?_); (case hh => assumption))
  | ((with_reducible refine' o_ixL ?hh ?_); (case hh => assumption)) | ((with_reducible refine' o_ixT ?hh ?_); (case hh => rfl)) | ((with_reducible refine' o_ixL ?hh ?_); (case hh => rfl)) | with_reducible refine o_pow (by decide) (by decide) ?_
  | ((with_reducible refine' we_lenC ?hh ?_); (case hh => assumption)) | ((with_reducible refine' we_tupleC ?hh ?_); (case hh => assumption)) | (refine way_t rfl ?_) | (refine way_f rfl ?_) | ((refine' Exists.intro _ (And.intro ?hh ?_)); (case hh => rfl)))
local macro_rules | `(tactic| walk_at "mk") => `(tactic| repeat walk_at "mk1")
structure Mk (k : Int) (ms : List (List Int)) : Prop where
  k1 : 1 ≤ k
  k8 : k ≤ 8
  l1 : 1 ≤ ms.length
  l7 : ms.length ≤ 7
  ne : ∀ m ∈ ms, m ≠ []
  pw : ∀ m ∈ ms, m.Pairwise (· < ·)
  bd : ∀ m ∈ ms, ∀ c ∈ m, 0 ≤ c ∧ c < k
  le : ∀ m ∈ ms, m.length ≤ 8
abbrev objM (k : Int) (ms : List (List Int)) : IV := .obj "Marking" (mkObj k (ms.map tupI))
theorem Mk.get {k : Int} {ms : List (List Int)} (h : Mk k ms) {i : Int} (h0 : 0 ≤ i) (h1 : i < ms.length) : getM ms i ∈ ms := by
  unfold getM
  have : i.toNat < ms.length := by omega
  rw [List.getD_eq_getElem?_getD, List.getElem?_eq_getElem this]
  exact List.getElem_mem this
def Asc (n : Int) (ks : List Int) : Prop := ks.Pairwise (· < ·) ∧ ∀ i ∈ ks, 0 ≤ i ∧ i < n
theorem ascI_ok {n : Int} : ∀ {ks : List Int} {least : Int}, ks.Pairwise (· < ·) → (∀ i ∈ ks, least ≤ i ∧ i < n) → ascI least n (ks.map .int) = true
  | [], _, _, _ => rfl
  | a :: l, least, pw, h => by
    obtain ⟨p1, p2⟩ := List.pairwise_cons.mp pw
    have ha := h a List.mem_cons_self
    rw [List.map_cons, ascI]
    have e : isIn least (n - 1) (.int a) = true := by simp [isIn]; omega
    have r := ascI_ok (n := n) (least := a + 1) p2 fun i hi => ⟨by have := p1 i hi; omega, (h i (List.mem_cons_of_mem _ hi)).2⟩
    simp only [e, Bool.true_and]
    exact r
theorem Asc.is {n : Int} {ks : List Int} (h : Asc n ks) : isAsc n (tupI ks) = true := ascI_ok h.1 h.2
theorem Asc.len {n : Int} {ks : List Int} (h : Asc n ks) (h0 : 0 ≤ n) : (ks.length : Int) ≤ n := by
  have p : ks.Sublist (rngL n) ∨ True := .inr trivial
  have nd : ks.Nodup := h.1.imp fun q => Int.ne_of_lt q
  have := nd.length_le_of_subset (l₂ := rngL n) fun i hi => rngL_mem.mpr (h.2 i hi)
  rw [rngL_len] at this
  omega
theorem Asc.filter {n : Int} (p : Int → Bool) : Asc n ((rngL n).filter p) := ⟨rngL_pw.filter p, fun i hi => rngL_mem.mp (List.mem_filter.mp hi).1⟩
theorem Asc.nil {n : Int} : Asc n [] := ⟨List.Pairwise.nil, fun i h => by cases h⟩
theorem dat_tupI (ns : List Int) : dat (tupI ns) = true := by
  show datL (ns.map .int) = true
  induction ns with
  | nil => rfl
  | cons a l ih => simp only [List.map_cons, datL, dat, ih, Bool.and_self]
theorem r_keys {st : Sto} {k : Int} {ms : List (List Int)} {v : IV} (hk : Mk k ms) (h : dat v = true) : g_are_keys [objM k ms, v] st = some (.val (.bl (isAsc ms.length v)), st) := by
  refine run_of (we_def (ls := [some (objM k ms), some v]) rfl ?_)
  unfold m_are_keys
  have := hk.l7
  walk_at "mk"
  refine we_lenO rfl r_len (by simp; omega) ?_
  walk_at "mk"
  rw [List.length_map]
  exact we_run (r_ascending h) (close_len rfl ⟨rfl, rfl⟩)
theorem r_bits {st : Sto} {k : Int} {ms : List (List Int)} {v : IV} (h : dat v = true) : g_are_bits [objM k ms, v] st = some (.val (.bl (isAsc k v)), st) := by
  refine run_of (we_def (ls := [some (objM k ms), some v]) rfl ?_)
  unfold m_are_bits
  walk_at "mk"
  exact we_run (r_ascending h) (close_len rfl ⟨rfl, rfl⟩)
theorem r_lies {st : Sto} {a b : List Int} (h : a.length ≤ 1000) : g_lies_within [tupI a, tupI b] st = some (.val (.bl (a.all fun c => decide (c ∈ b))), st) := by
  refine run_of (we_def (ls := [some (tupI a), some (tupI b), none]) rfl ?_)
  unfold m_lies_within
  walk_at "mk"
  refine compL_map (as := a) .int (fun _ => true) (fun c => .bl (decide (c ∈ b))) trivial (fun c hc => ⟨_, rfl, by walk_at "mk"; exact ⟨rfl, rfl⟩, fun _ => by walk_at "mk"; exact ⟨rfl, rfl⟩⟩) ?_
  rw [List.filter_eq_self.mpr fun _ _ => rfl]
  refine len_and (by simp; omega) ?_
  walk_at "mk"
  refine we_allL (bs := a.map fun c => decide (c ∈ b)) ?_ (close_len rfl ⟨?_, rfl⟩)
  · have z := boolsOf_map (a.map fun c => decide (c ∈ b))
    rw [List.map_map] at z
    exact z
  · rw [List.all_map]; rfl
theorem flat_one {α : Type} (l : List α) : (l.filter fun _ => true).flatMap (fun c => [c]) = l := by
  rw [List.filter_eq_self.mpr fun _ _ => rfl]
  induction l with
  | nil => rfl
  | cons a l ih => rw [List.flatMap_cons, ih]; rfl
def fillS (k : Int) (ms : List (List Int)) (ks : List Int) : List Int := (rngL k).filter fun c => ks.any fun i => decide (c ∈ getM ms i)
theorem fill_mem {k : Int} {ms : List (List Int)} {ks : List Int} (hk : Mk k ms) (ha : Asc ms.length ks) {c : Int} : c ∈ fillS k ms ks ↔ ∃ i ∈ ks, c ∈ getM ms i := by
  unfold fillS
  rw [List.mem_filter, List.any_eq_true, rngL_mem]
  constructor
  · rintro ⟨_, i, hi, h⟩; exact ⟨i, hi, of_decide_eq_true h⟩
  · rintro ⟨i, hi, h⟩
    exact ⟨hk.bd _ (hk.get (ha.2 i hi).1 (ha.2 i hi).2) c h, i, hi, decide_eq_true h⟩
theorem fill_asc {k : Int} {ms : List (List Int)} {ks : List Int} : Asc k (fillS k ms ks) := Asc.filter _
theorem fill_sort {k : Int} {ms : List (List Int)} {ks : List Int} (hk : Mk k ms) (ha : Asc ms.length ks) : sortS (ks.flatMap (getM ms)) = fillS k ms ks := by
  refine (sortS_of fill_asc.1 fun c => ?_).symm
  rw [fill_mem hk ha, insL_mem]
  simp [List.mem_flatMap]
theorem fill_few {k : Int} {ms : List (List Int)} {ks : List Int} (hk : Mk k ms) (ha : Asc ms.length ks) : (insL [] (ks.flatMap (getM ms))).length < 64 := by
  have nd : (insL [] (ks.flatMap (getM ms))).Nodup := insL_nodup List.nodup_nil
  have := nd.length_le_of_subset (l₂ := rngL k) fun c hc => by
    rw [insL_mem] at hc
    simp only [List.not_mem_nil, false_or, List.mem_flatMap] at hc
    obtain ⟨i, hi, h⟩ := hc
    exact rngL_mem.mpr (hk.bd _ (hk.get (ha.2 i hi).1 (ha.2 i hi).2) c h)
  rw [rngL_len] at this
  have := hk.k8
  omega
theorem atI_ms {ms : List (List Int)} {i : Int} (h0 : 0 ≤ i) (h1 : i < ms.length) : atI (ms.map tupI) i = some (tupI (getM ms i)) := atI_map (f := tupI) (d := []) h0 h1
theorem r_filled {st : Sto} {k : Int} {ms : List (List Int)} {ks : List Int} (hk : Mk k ms) (ha : Asc ms.length ks) : g_filled [objM k ms, tupI ks] st = some (.val (tupI (fillS k ms ks)), st) := by
  refine run_of (we_def (ls := [some (objM k ms), some (tupI ks), none, none]) rfl ?_)
  unfold m_filled
  walk_at "mk"
  refine we_run (r_keys hk (dat_tupI ks)) ?_
  rw [ha.is]
  walk_at "mk"
  refine compB_pure (as := ks) .int (fun _ => true) (getM ms) trivial (fun i hi => ⟨_, rfl, by walk_at "mk"; exact ⟨rfl, rfl⟩, fun _ => ?_⟩) ?_
  · have hx := atI_ms (ha.2 i hi).1 (ha.2 i hi).2
    walk_at "mk"
    refine compB_pure (as := getM ms i) .int (fun _ => true) (fun c => [c]) trivial (fun c hc => ⟨_, rfl, by walk_at "mk"; exact ⟨rfl, rfl⟩, fun _ => by walk_at "mk"; exact ⟨rfl, rfl⟩⟩) ?_
    rw [flat_one]
    exact ⟨rfl, rfl⟩
  · rw [List.filter_eq_self.mpr fun _ _ => rfl]
    refine ⟨fill_few hk ha, ?_⟩
    rw [fill_sort hk ha]
    walk_at "mk"
    exact close_len rfl ⟨rfl, rfl⟩
abbrev exX (c : Str) (v : IV) (st : Sto) : EX := fun c' f w st' => c' = c ∧ f = "value" ∧ w = v ∧ st' = st
def saysS (ms : List (List Int)) (bs : List Int) : List Int := (rngL ms.length).filter fun i => (getM ms i).all fun c => decide (c ∈ bs)
theorem says_asc {ms : List (List Int)} {bs : List Int} : Asc ms.length (saysS ms bs) := Asc.filter _
theorem r_says {st : Sto} {k : Int} {ms : List (List Int)} {bs : List Int} (hk : Mk k ms) (hb : Asc k bs) : g_says [objM k ms, tupI bs] st = some (.val (tupI (saysS ms bs)), st) := by
  refine run_of (we_def (ls := [some (objM k ms), some (tupI bs), none, none]) rfl ?_)
  unfold m_says
  walk_at "mk"
  refine we_run (r_bits (dat_tupI bs)) ?_
  rw [hb.is]
  walk_at "mk"
  rw [enumL_tups]
  refine compL_map (as := rngL ms.length) (fun i => .tup [.int i, tupI (getM ms i)]) (fun i => (getM ms i).all fun c => decide (c ∈ bs)) .int trivial (fun i hi => ⟨_, rfl, ?_, fun _ => by walk_at "mk"; exact ⟨rfl, rfl⟩⟩) ?_
  · have hi := rngL_mem.mp hi
    have := hk.le _ (hk.get hi.1 hi.2)
    walk_at "mk"
    refine we_run (r_lies (by omega)) ?_
    walk_at "mk"
    exact ⟨rfl, rfl⟩
  · have z : (((rngL ms.length).filter fun i => (getM ms i).all fun c => decide (c ∈ bs)).length) ≤ ms.length := Nat.le_trans (List.length_filter_le _ _) (by rw [rngL_len]; omega)
    have := hk.l7
    refine len_and (by rw [List.length_map]; omega) ?_
    walk_at "mk"
    exact close_len rfl ⟨rfl, rfl⟩
def wrongS (k : Int) (ms : List (List Int)) (ks : List Int) : List Int := (saysS ms (fillS k ms ks)).filter fun i => !decide (i ∈ ks)
theorem r_wrong {st : Sto} {k : Int} {ms : List (List Int)} {ks : List Int} (hk : Mk k ms) (ha : Asc ms.length ks) : g_wrong [objM k ms, tupI ks] st = some (.val (tupI (wrongS k ms ks)), st) := by
  refine run_of (we_def (ls := [some (objM k ms), some (tupI ks), none, none]) rfl ?_)
  unfold m_wrong
  walk_at "mk"
  refine we_run (r_keys hk (dat_tupI ks)) ?_
  rw [ha.is]
  walk_at "mk"
  refine we_run (r_filled hk ha) ?_
  walk_at "mk"
  refine we_run (r_says hk fill_asc) ?_
  walk_at "mk"
  refine compL_map (as := saysS ms (fillS k ms ks)) .int (fun i => !decide (i ∈ ks)) .int trivial (fun i hi => ⟨_, rfl, by walk_at "mk"; exact ⟨rfl, rfl⟩, fun _ => by walk_at "mk"; exact ⟨rfl, rfl⟩⟩) ?_
  have z : ((saysS ms (fillS k ms ks)).filter fun i => !decide (i ∈ ks)).length ≤ ms.length := Nat.le_trans (List.length_filter_le _ _) (by have := (says_asc (ms := ms) (bs := fillS k ms ks)).len (by omega); omega)
  have := hk.l7
  refine len_and (by rw [List.length_map]; omega) ?_
  walk_at "mk"
  exact close_len rfl ⟨rfl, rfl⟩
end Law
end
section
set_option maxHeartbeats 2000000
namespace Law
open PySem L2 MK
local macro_rules | `(tactic| walk_at "mk1") => `(tactic| first
  | with_reducible refine Rule.ok ?_ | ((with_reducible refine' we_var ?hh ?_); (case hh => rfl)) | with_reducible refine eq_and rfl ?_ | ((with_reducible refine len_and ?hh ?_); (case hh => simp; done)) | with_reducible refine o_mod (by omega) ?_ | with_reducible refine o_div (by omega) ?_
  | with_reducible refine o_mul (by omega) (by omega) ?_ | ((with_reducible refine' o_ixC ?hh ?h2 ?_); (case hh => assumption); (case h2 => rfl)) | ((with_reducible refine' o_ixS ?hh ?_); (case hh => assumption)) | ((with_reducible refine' o_ixT ?hh ?_); (case hh => assumption))
  | ((with_reducible refine' o_ixL ?hh ?_); (case hh => assumption)) | ((with_reducible refine' o_ixT ?hh ?_); (case hh => rfl)) | ((with_reducible refine' o_ixL ?hh ?_); (case hh => rfl)) | with_reducible refine o_pow (by decide) (by decide) ?_
  | ((with_reducible refine' we_lenC ?hh ?_); (case hh => assumption)) | ((with_reducible refine' we_tupleC ?hh ?_); (case hh => assumption)) | (refine way_t rfl ?_) | (refine way_f rfl ?_) | ((refine' Exists.intro _ (And.intro ?hh ?_)); (case hh => rfl)))
local macro_rules | `(tactic| walk_at "mk") => `(tactic| repeat walk_at "mk1")
theorem cmpb_tupI {n : Nat} {ns : List Int} (h : ns.length ≤ 1000000) : cmpb (n + 1) (tupI ns) = true := by
  refine cmpb_tup.mpr ⟨by rw [List.length_map]; exact h, fun v hv => ?_⟩
  obtain ⟨i, _, rfl⟩ := List.mem_map.mp hv
  cases n <;> rfl
theorem o_neS {st : Sto} {a : IV} {Q : IV → Prop} (h : cmpb 64 a = true) (q : Q (.bl false)) : ∃ v, neI st a a = some v ∧ Q v := by
  refine o_ne h h ?_
  rw [veq_refl _ (cmpb_dat _ _ h)]
  exact q
theorem mk_of {k : Int} {l : List IV} (k1 : 1 ≤ k) (k8 : k ≤ 8) (l1 : 1 ≤ l.length) (l7 : (l.length : Int) ≤ 7) (h : ∀ m ∈ l, MarkOk k m) : ∃ ms : List (List Int), l = ms.map tupI ∧ Mk k ms := by
  have : ∃ ms : List (List Int), l = ms.map tupI ∧ ∀ m ∈ ms, m ≠ [] ∧ m.Pairwise (· < ·) ∧ m.length ≤ 8 ∧ ∀ i ∈ m, 0 ≤ i ∧ i < k := by
    clear l1 l7
    induction l with
    | nil => exact ⟨[], rfl, fun m hm => by cases hm⟩
    | cons a l ih =>
      obtain ⟨ms, rfl, h2⟩ := ih fun m hm => h m (List.mem_cons_of_mem _ hm)
      obtain ⟨ns, rfl, a1, a2, a3, a4⟩ := h a List.mem_cons_self
      refine ⟨ns :: ms, rfl, fun m hm => ?_⟩
      rcases List.mem_cons.mp hm with e | hm
      · subst e; exact ⟨a1, a2, a3, a4⟩
      · exact h2 m hm
  obtain ⟨ms, rfl, h2⟩ := this
  rw [List.length_map] at l1 l7
  exact ⟨ms, rfl, k1, k8, l1, by omega, fun m hm => (h2 m hm).1, fun m hm => (h2 m hm).2.1, fun m hm => (h2 m hm).2.2.2, fun m hm => (h2 m hm).2.2.1⟩
theorem Mk.marks {k : Int} {ms : List (List Int)} (h : Mk k ms) : areMarks k (.tup (ms.map tupI)) = true := by
  simp only [areMarks, Bool.and_eq_true, decide_eq_true_eq, List.all_eq_true]
  refine ⟨⟨by rw [List.length_map]; exact h.l1, by rw [List.length_map]; exact h.l7⟩, fun v hv => ?_⟩
  obtain ⟨m, hm, rfl⟩ := List.mem_map.mp hv
  exact MarkOk.is ⟨m, rfl, h.ne m hm, h.pw m hm, h.le m hm, h.bd m hm⟩
theorem Mk.cmpb {k : Int} {ms : List (List Int)} (h : Mk k ms) {n : Nat} : cmpb (n + 2) (.tup (ms.map tupI)) = true := by
  refine cmpb_tup.mpr ⟨by rw [List.length_map]; have := h.l7; omega, fun v hv => ?_⟩
  obtain ⟨m, hm, rfl⟩ := List.mem_map.mp hv
  exact cmpb_tupI (by have := h.le m hm; omega)
end Law
end
section
set_option maxHeartbeats 2000000
namespace Law
open PySem L2 MK
local macro_rules | `(tactic| walk_at "mk1") => `(tactic| first
  | with_reducible refine Rule.ok ?_ | ((with_reducible refine' we_var ?hh ?_); (case hh => rfl)) | with_reducible refine eq_and rfl ?_ | ((with_reducible refine len_and ?hh ?_); (case hh => simp; done)) | with_reducible refine o_mod (by omega) ?_ | with_reducible refine o_div (by omega) ?_
  | with_reducible refine o_mul (by omega) (by omega) ?_ | ((with_reducible refine' o_ixC ?hh ?h2 ?_); (case hh => assumption); (case h2 => rfl)) | ((with_reducible refine' o_ixS ?hh ?_); (case hh => assumption)) | ((with_reducible refine' o_ixT ?hh ?_); (case hh => assumption))
  | ((with_reducible refine' o_ixL ?hh ?_); (case hh => assumption)) | ((with_reducible refine' o_ixT ?hh ?_); (case hh => rfl)) | ((with_reducible refine' o_ixL ?hh ?_); (case hh => rfl)) | with_reducible refine o_pow (by decide) (by decide) ?_
  | ((with_reducible refine' we_lenC ?hh ?_); (case hh => assumption)) | ((with_reducible refine' we_tupleC ?hh ?_); (case hh => assumption)) | (refine way_t rfl ?_) | (refine way_f rfl ?_) | ((refine' Exists.intro _ (And.intro ?hh ?_)); (case hh => rfl)))
local macro_rules | `(tactic| walk_at "mk") => `(tactic| repeat walk_at "mk1")
variable {k : Int} {ms : List (List Int)} {ks bs : List Int}
theorem says_mem {i : Int} : i ∈ saysS ms bs ↔ (0 ≤ i ∧ i < ms.length) ∧ ∀ c ∈ getM ms i, c ∈ bs := by
  unfold saysS
  rw [List.mem_filter, rngL_mem, List.all_eq_true]
  simp only [decide_eq_true_eq]
theorem ite_join {b : Bool} {t f : ME} {ls : MK.Loc} {st : Sto} {E : EX} {C : IV → Sto → Prop} {vt vf : IV} (ht : t ls st = some (.val vt, st)) (hf : f ls st = some (.val vf, st)) (q : C (if b = true then vt else vf) st) :
    (b = true → we (t ls) st E C) ∧ (b = false → we (f ls) st E C) := by
  cases b with
  | true => exact ⟨fun _ => we_run ht (by simpa using q), fun h => (by cases h)⟩
  | false => exact ⟨fun h => (by cases h), fun _ => we_run hf (by simpa using q)⟩
end Law
end
section
set_option maxHeartbeats 2000000
namespace Law
open PySem L2 MK
local macro_rules | `(tactic| walk_at "mk1") => `(tactic| first
  | with_reducible refine Rule.ok ?_ | ((with_reducible refine' we_var ?hh ?_); (case hh => rfl)) | with_reducible refine eq_and rfl ?_ | ((with_reducible refine len_and ?hh ?_); (case hh => simp; done)) | with_reducible refine o_mod (by omega) ?_ | with_reducible refine o_div (by omega) ?_
  | with_reducible refine o_mul (by omega) (by omega) ?_ | ((with_reducible refine' o_ixC ?hh ?h2 ?_); (case hh => assumption); (case h2 => rfl)) | ((with_reducible refine' o_ixS ?hh ?_); (case hh => assumption)) | ((with_reducible refine' o_ixT ?hh ?_); (case hh => assumption))
  | ((with_reducible refine' o_ixL ?hh ?_); (case hh => assumption)) | ((with_reducible refine' o_ixT ?hh ?_); (case hh => rfl)) | ((with_reducible refine' o_ixL ?hh ?_); (case hh => rfl)) | with_reducible refine o_pow (by decide) (by decide) ?_
  | ((with_reducible refine' we_lenC ?hh ?_); (case hh => assumption)) | ((with_reducible refine' we_tupleC ?hh ?_); (case hh => assumption)) | (refine way_t rfl ?_) | (refine way_f rfl ?_) | ((refine' Exists.intro _ (And.intro ?hh ?_)); (case hh => rfl)))
local macro_rules | `(tactic| walk_at "mk") => `(tactic| repeat walk_at "mk1")
variable {st : Sto} {k h : Int} {ms : List (List Int)} {ks os bs m : List Int} {i : Int} {v w : IV}
def foldM (h : Int) (m : List Int) : List Int := sortS (m.map fun c => c % h)
theorem foldM_pw : (foldM h m).Pairwise (· < ·) := by
  unfold foldM sortS
  have nd : (sortI (insL [] (m.map fun c => c % h))).Nodup := (sortI_perm _).nodup_iff.mpr (insL_nodup List.nodup_nil)
  exact lt_of_le_nodup _ (sortI_le _) nd
theorem foldM_mem {c : Int} : c ∈ foldM h m ↔ ∃ d ∈ m, d % h = c := by
  unfold foldM sortS
  rw [(sortI_perm _).mem_iff, insL_mem]
  simp
theorem foldM_bd (hh : 0 < h) {c : Int} (hc : c ∈ foldM h m) : 0 ≤ c ∧ c < h := by
  obtain ⟨d, _, rfl⟩ := foldM_mem.mp hc
  exact ⟨Int.emod_nonneg _ (by omega), Int.emod_lt_of_pos _ hh⟩
theorem foldM_asc (hh : 0 < h) : Asc h (foldM h m) := ⟨foldM_pw, fun c hc => foldM_bd hh hc⟩
theorem ins_few (hh : 0 < h) (h8 : h ≤ 8) : (insL [] (m.map fun c => c % h)).length < 64 := by
  have nd : (insL [] (m.map fun c => c % h)).Nodup := insL_nodup List.nodup_nil
  have := nd.length_le_of_subset (l₂ := rngL h) fun c hc => by
    rw [insL_mem] at hc
    simp only [List.not_mem_nil, false_or, List.mem_map] at hc
    obtain ⟨d, _, rfl⟩ := hc
    exact rngL_mem.mpr ⟨Int.emod_nonneg _ (by omega), Int.emod_lt_of_pos _ hh⟩
  rw [rngL_len] at this
  omega
theorem r_fmark (hh : 0 < h) (h8 : h ≤ 8) : g_folded_mark [tupI m, .int h] st = some (.val (tupI (foldM h m)), st) := by
  refine run_of (we_def (ls := [some (tupI m), some (.int h), none]) rfl ?_)
  unfold m_folded_mark
  walk_at "mk"
  refine compB_pure (as := m) .int (fun _ => true) (fun c => [c % h]) trivial (fun c hc => ⟨_, rfl, by walk_at "mk"; exact ⟨rfl, rfl⟩, fun _ => by walk_at "mk"; exact ⟨rfl, rfl⟩⟩) ?_
  rw [List.filter_eq_self.mpr fun _ _ => rfl]
  have e : (m.flatMap fun c => [c % h]) = m.map fun c => c % h := by
    clear hh h8
    induction m with
    | nil => rfl
    | cons a l ih => rw [List.flatMap_cons, ih]; rfl
  rw [e]
  refine ⟨ins_few hh h8, ?_⟩
  walk_at "mk"
  exact close_len rfl ⟨rfl, rfl⟩
theorem Mk.fold (hk : Mk k ms) (hh : h = k / 2) (he : k % 2 = 0) : Mk h (ms.map (foldM h)) := by
  have k1 := hk.k1
  have k8 := hk.k8
  have h1 : 1 ≤ h := by omega
  refine ⟨h1, by omega, by rw [List.length_map]; exact hk.l1, by rw [List.length_map]; exact hk.l7, fun m' hz => ?_, fun m' hz => ?_, fun m' hz => ?_, fun m' hz => ?_⟩ <;> obtain ⟨m0, hm0, rfl⟩ := List.mem_map.mp hz
  · intro z
    cases q : m0 with
    | nil => exact hk.ne m0 hm0 q
    | cons a l =>
      have : a % h ∈ foldM h m0 := foldM_mem.mpr ⟨a, by rw [q]; exact List.mem_cons_self, rfl⟩
      rw [z] at this
      cases this
  · exact foldM_pw
  · exact fun c hc => foldM_bd (by omega) hc
  · have := (foldM_asc (m := m0) (by omega : 0 < h)).len (by omega)
    omega
theorem r_folded (hk : Mk k ms) (he : k % 2 = 0) : g_folded [objM k ms] st = some (.val (objM (k / 2) (ms.map (foldM (k / 2)))), st) := by
  refine run_of (we_def (ls := [some (objM k ms), none, none]) rfl ?_)
  unfold m_folded
  have k1 := hk.k1
  have k8 := hk.k8
  have l7 := hk.l7
  have F := hk.fold rfl he
  walk_at "mk"
  refine way_f (by rw [he]; rfl) ?_
  walk_at "mk"
  refine we_mk ?_
  walk_at "mk"
  refine compL_map (as := ms) tupI (fun _ => true) (fun m => tupI (foldM (k / 2) m)) trivial (fun m hm => ⟨_, rfl, by walk_at "mk"; exact ⟨rfl, rfl⟩, fun _ => ?_⟩) ?_
  · walk_at "mk"
    refine we_run (r_fmark (by omega) (by omega)) ?_
    exact ⟨rfl, rfl⟩
  rw [List.filter_eq_self.mpr fun _ _ => rfl]
  refine len_and (by rw [List.length_map]; omega) ?_
  walk_at "mk"
  have e : ms.map (fun m => tupI (foldM (k / 2) m)) = (ms.map (foldM (k / 2))).map tupI := by rw [List.map_map]; rfl
  rw [e]
  refine ⟨k / 2, _, rfl, cmpb_dat 2 _ F.cmpb, ?_, F.marks, close_len rfl ⟨rfl, rfl⟩⟩
  have := F.k1
  have := F.k8
  simp [isIn]
  omega
theorem x_folded (ho : k % 2 = 1) : we (g_folded [objM k ms]) st (fun c f v st' => c = "Undefined" ∧ f = "what" ∧ v = .str "odd" ∧ st' = st) fun _ _ => False := by
  refine we_def (ls := [some (objM k ms), none, none]) rfl ?_
  unfold m_folded
  walk_at "mk"
  refine way_t (by rw [ho]; rfl) ?_
  walk_at "mk"
  exact .inl ⟨rfl, rfl, rfl, rfl, rfl⟩
end Law
end
section
set_option maxHeartbeats 2000000
namespace Law
open PySem L2 MK
local macro_rules | `(tactic| walk_at "mk1") => `(tactic| first
  | with_reducible refine Rule.ok ?_ | ((with_reducible refine' we_var ?hh ?_); (case hh => rfl)) | with_reducible refine eq_and rfl ?_ | ((with_reducible refine len_and ?hh ?_); (case hh => simp; done)) | with_reducible refine o_mod (by omega) ?_ | with_reducible refine o_div (by omega) ?_
  | with_reducible refine o_mul (by omega) (by omega) ?_ | ((with_reducible refine' o_ixC ?hh ?h2 ?_); (case hh => assumption); (case h2 => rfl)) | ((with_reducible refine' o_ixS ?hh ?_); (case hh => assumption)) | ((with_reducible refine' o_ixT ?hh ?_); (case hh => assumption))
  | ((with_reducible refine' o_ixL ?hh ?_); (case hh => assumption)) | ((with_reducible refine' o_ixT ?hh ?_); (case hh => rfl)) | ((with_reducible refine' o_ixL ?hh ?_); (case hh => rfl)) | with_reducible refine o_pow (by decide) (by decide) ?_
  | ((with_reducible refine' we_lenC ?hh ?_); (case hh => assumption)) | ((with_reducible refine' we_tupleC ?hh ?_); (case hh => assumption)) | (refine way_t rfl ?_) | (refine way_f rfl ?_) | ((refine' Exists.intro _ (And.intro ?hh ?_)); (case hh => rfl)))
local macro_rules | `(tactic| walk_at "mk") => `(tactic| repeat walk_at "mk1")
variable {st : Sto} {k h : Int} {ms : List (List Int)} {ks os bs m : List Int} {i : Int} {v w : IV}
theorem fold_lit (hm : Asc (2 * h) m) (hh : 0 < h) : foldM h m = (rngL h).filter fun c => decide (c ∈ m) || decide (c + h ∈ m) := by
  refine pw_ext foldM_pw (rngL_pw.filter _) fun c => ?_
  rw [foldM_mem, List.mem_filter, rngL_mem]
  simp only [Bool.or_eq_true, decide_eq_true_eq]
  constructor
  · rintro ⟨d, hd, rfl⟩
    have := hm.2 d hd
    refine ⟨⟨Int.emod_nonneg _ (by omega), Int.emod_lt_of_pos _ hh⟩, ?_⟩
    by_cases z : d < h
    · rw [Int.emod_eq_of_lt (by omega) z]; exact .inl hd
    · have e : d % h = d - h := by
        rw [← Int.sub_emod_right, Int.emod_eq_of_lt (by omega) (by omega)]
      rw [e]
      right
      rw [show d - h + h = d by omega]; exact hd
  · rintro ⟨⟨h0, h1⟩, hc | hc⟩
    · exact ⟨c, hc, Int.emod_eq_of_lt h0 h1⟩
    · exact ⟨c + h, hc, by rw [Int.add_emod_right, Int.emod_eq_of_lt h0 h1]⟩
end Law
end
section
set_option maxHeartbeats 2000000
namespace Law
open PySem L2 MK
local macro_rules | `(tactic| walk_at "mk1") => `(tactic| first
  | with_reducible refine Rule.ok ?_ | ((with_reducible refine' we_var ?hh ?_); (case hh => rfl)) | with_reducible refine eq_and rfl ?_ | ((with_reducible refine len_and ?hh ?_); (case hh => simp; done)) | with_reducible refine o_mod (by omega) ?_ | with_reducible refine o_div (by omega) ?_
  | with_reducible refine o_mul (by omega) (by omega) ?_ | ((with_reducible refine' o_ixC ?hh ?h2 ?_); (case hh => assumption); (case h2 => rfl)) | ((with_reducible refine' o_ixS ?hh ?_); (case hh => assumption)) | ((with_reducible refine' o_ixT ?hh ?_); (case hh => assumption))
  | ((with_reducible refine' o_ixL ?hh ?_); (case hh => assumption)) | ((with_reducible refine' o_ixT ?hh ?_); (case hh => rfl)) | ((with_reducible refine' o_ixL ?hh ?_); (case hh => rfl)) | with_reducible refine o_pow (by decide) (by decide) ?_
  | ((with_reducible refine' we_lenC ?hh ?_); (case hh => assumption)) | ((with_reducible refine' we_tupleC ?hh ?_); (case hh => assumption)) | (refine way_t rfl ?_) | (refine way_f rfl ?_) | ((refine' Exists.intro _ (And.intro ?hh ?_)); (case hh => rfl)))
local macro_rules | `(tactic| walk_at "mk") => `(tactic| repeat walk_at "mk1")
theorem we_sumL {ns : List Int} {st : Sto} {E : EX} {Q : IV → Sto → Prop} (q : Q (.int ns.sum) st) : we (pv1 sumI [.lst (ns.map .int)]) st E Q :=
  we_pv1 (by unfold sumI intsAt; show Option.map _ ((some (ns.map IV.int)).bind intsOf) = _; rw [Option.bind_some, intsOf_map]; rfl) q
theorem we_comb {g : MA} {fb : ME} {ls : MK.Loc} {st : Sto} {E : EX} {QS : Src → Sto → Prop} (h : we (g ls) st E fun l st1 => ∃ n, l = [.int n] ∧ (0 ≤ n ∧ n ≤ 7) ∧ we (fb ls) st1 E fun v st2 => ∃ r, v = .int r ∧ (0 ≤ r ∧ r ≤ n) ∧ QS (combI n.toNat r.toNat, none) st2) : we (mComb g fb ls) st E QS := by
  refine we_bind (we_mono h fun l st1 h => ?_)
  obtain ⟨n, rfl, hn, h⟩ := h
  dsimp only
  rw [if_pos hn]
  refine we_bind (we_mono h fun v st2 h => ?_)
  obtain ⟨r, rfl, hr, q⟩ := h
  exact ⟨.val (combI n.toNat r.toNat, none), st2, by dsimp only; rw [if_pos hr], q⟩
def combZ (n r : Nat) : List (List Int) := (combL n r).map fun ix => ix.map fun (j : Nat) => (j : Int)
theorem combI_eq (n r : Nat) : combI n r = (combZ n r).map tupI := by
  unfold combI combZ tupI
  rw [List.map_map]
  refine List.map_congr_left fun ix _ => ?_
  simp [Function.comp_def]
theorem combL_asc : ∀ n, n < 8 → ∀ r, r < 8 → r ≤ n → (combL n r).all (fun ix => decide (ix.Pairwise (· < ·)) && ix.all fun j => decide (j < n)) = true := by decide +kernel
theorem combZ_asc {n r : Nat} (hn : n ≤ 7) (hr : r ≤ n) : ∀ ks ∈ combZ n r, Asc n ks := fun ks hk => by
  unfold combZ at hk
  obtain ⟨ix, hx, rfl⟩ := List.mem_map.mp hk
  have h := List.all_eq_true.mp (combL_asc n (by omega) r (by omega) hr) ix hx
  simp only [Bool.and_eq_true, List.all_eq_true, decide_eq_true_eq] at h
  obtain ⟨h1, h2⟩ := h
  refine ⟨List.pairwise_map.mpr (h1.imp fun h => by omega), fun i hi => ?_⟩
  obtain ⟨j, hj, rfl⟩ := List.mem_map.mp hi
  have := h2 j hj
  omega
def foundF (r : Nat) : Nat → List (List Int)
  | 0 => [[]]
  | j + 1 => foundF r j ++ ((foundF r j).filter fun ks => decide ((ks.length : Int) < r)).map fun ks => ks ++ [(j : Int)]
def pickF (r : Nat) (F : List (List Int)) : List (List Int) := F.filter fun ks => decide ((ks.length : Int) = r)
def setsChk (n r : Nat) : Bool := (combZ n r).isPerm (pickF r (foundF r n)) && decide ((combZ n r).Pairwise fun a b => ltL b a = false) && !(pickF r (foundF r n)).isEmpty
theorem sets_chk : ∀ n, n < 8 → ∀ r, r < 8 → r ≤ n → setsChk n r = true := by decide +kernel
theorem comb_len : ∀ n, n < 8 → ∀ r, r < 8 → r ≤ n → (combZ n r).length ≤ 128 := by decide +kernel
end Law
end
section
set_option maxHeartbeats 2000000
namespace Law
open PySem L2 MK
local macro_rules | `(tactic| walk_at "mk1") => `(tactic| first
  | with_reducible refine Rule.ok ?_ | ((with_reducible refine' we_var ?hh ?_); (case hh => rfl)) | with_reducible refine eq_and rfl ?_ | ((with_reducible refine len_and ?hh ?_); (case hh => simp; done)) | with_reducible refine o_mod (by omega) ?_ | with_reducible refine o_div (by omega) ?_
  | with_reducible refine o_mul (by omega) (by omega) ?_ | ((with_reducible refine' o_ixC ?hh ?h2 ?_); (case hh => assumption); (case h2 => rfl)) | ((with_reducible refine' o_ixS ?hh ?_); (case hh => assumption)) | ((with_reducible refine' o_ixT ?hh ?_); (case hh => assumption))
  | ((with_reducible refine' o_ixL ?hh ?_); (case hh => assumption)) | ((with_reducible refine' o_ixT ?hh ?_); (case hh => rfl)) | ((with_reducible refine' o_ixL ?hh ?_); (case hh => rfl)) | with_reducible refine o_pow (by decide) (by decide) ?_
  | ((with_reducible refine' we_lenC ?hh ?_); (case hh => assumption)) | ((with_reducible refine' we_tupleC ?hh ?_); (case hh => assumption)) | (refine way_t rfl ?_) | (refine way_f rfl ?_) | ((refine' Exists.intro _ (And.intro ?hh ?_)); (case hh => rfl)))
local macro_rules | `(tactic| walk_at "mk") => `(tactic| repeat walk_at "mk1")
def totS (k : Int) (ms : List (List Int)) (r : Nat) : Int := ((combZ ms.length r).map fun ks => ((wrongS k ms ks).length : Int)).sum
theorem r_total {st : Sto} {k : Int} {ms : List (List Int)} {r : Nat} (hk : Mk k ms) (hr : r ≤ ms.length) : g_wrong_total [objM k ms, .int r] st = some (.val (.int (totS k ms r)), st) := by
  refine run_of (we_def (ls := [some (objM k ms), some (.int r), none]) rfl ?_)
  unfold m_wrong_total
  have l7 := hk.l7
  walk_at "mk"
  refine we_lenO rfl r_len (by simp; omega) ?_
  walk_at "mk"
  rw [List.length_map]
  refine we_run (r_within rfl) ?_
  have hi : isIn 0 (ms.length : Int) (.int r) = true := by simp [isIn]; omega
  rw [hi]
  walk_at "mk"
  refine we_comb ?_
  walk_at "mk"
  refine we_lenO rfl r_len (by simp; omega) ?_
  walk_at "mk"
  rw [List.length_map]
  refine ⟨⟨by omega, by omega⟩, ?_⟩
  walk_at "mk"
  refine ⟨⟨by omega, by omega⟩, ?_⟩
  rw [Int.toNat_natCast, Int.toNat_natCast, combI_eq]
  refine compL_map (as := combZ ms.length r) tupI (fun _ => true) (fun ks => .int ((wrongS k ms ks).length : Int)) trivial (fun ks hc => ⟨_, rfl, by walk_at "mk"; exact ⟨rfl, rfl⟩, fun _ => ?_⟩) ?_
  · walk_at "mk"
    refine we_run (r_wrong hk (combZ_asc (by omega) hr ks hc)) ?_
    walk_at "mk"
    exact ⟨by simp, rfl⟩
  · rw [List.filter_eq_self.mpr fun _ _ => rfl]
    have hl := comb_len ms.length (by omega) r (by omega) hr
    refine len_and (by rw [List.length_map]; omega) ?_
    walk_at "mk"
    have e : (combZ ms.length r).map (fun ks => IV.int ((wrongS k ms ks).length : Int)) = ((combZ ms.length r).map fun ks => ((wrongS k ms ks).length : Int)).map .int := by rw [List.map_map]; rfl
    rw [e]
    refine we_sumL ?_
    exact close_len rfl ⟨rfl, rfl⟩
end Law
end
section
set_option maxHeartbeats 2000000
namespace Law
open PySem L2 MK
local macro_rules | `(tactic| walk_at "mk1") => `(tactic| first
  | with_reducible refine Rule.ok ?_ | ((with_reducible refine' we_var ?hh ?_); (case hh => rfl)) | with_reducible refine eq_and rfl ?_ | ((with_reducible refine len_and ?hh ?_); (case hh => simp; done)) | with_reducible refine o_mod (by omega) ?_ | with_reducible refine o_div (by omega) ?_
  | with_reducible refine o_mul (by omega) (by omega) ?_ | ((with_reducible refine' o_ixC ?hh ?h2 ?_); (case hh => assumption); (case h2 => rfl)) | ((with_reducible refine' o_ixS ?hh ?_); (case hh => assumption)) | ((with_reducible refine' o_ixT ?hh ?_); (case hh => assumption))
  | ((with_reducible refine' o_ixL ?hh ?_); (case hh => assumption)) | ((with_reducible refine' o_ixT ?hh ?_); (case hh => rfl)) | ((with_reducible refine' o_ixL ?hh ?_); (case hh => rfl)) | with_reducible refine o_pow (by decide) (by decide) ?_
  | ((with_reducible refine' we_lenC ?hh ?_); (case hh => assumption)) | ((with_reducible refine' we_tupleC ?hh ?_); (case hh => assumption)) | (refine way_t rfl ?_) | (refine way_f rfl ?_) | ((refine' Exists.intro _ (And.intro ?hh ?_)); (case hh => rfl)))
local macro_rules | `(tactic| walk_at "mk") => `(tactic| repeat walk_at "mk1")
theorem rangeI_len {lo : Int} {n : Nat} : (rangeI lo n).length = n := by unfold rangeI; simp
theorem drop_rangeI {lo : Int} {n k : Nat} {v : IV} {q : List IV} (h : v :: q = (rangeI lo n).drop k) : v = .int (lo + k) ∧ q = (rangeI lo n).drop (k + 1) ∧ k < n := by
  have hk : k < (rangeI lo n).length := by
    rcases Nat.lt_or_ge k (rangeI lo n).length with z | z
    · exact z
    · rw [List.drop_of_length_le z] at h; cases h
  rw [List.drop_eq_getElem_cons hk] at h
  obtain ⟨h1, h2⟩ := List.cons.inj h
  refine ⟨?_, h2, by rw [rangeI_len] at hk; exact hk⟩
  have := rangeI_get (lo := lo) (n := n) (i := k) (v := v) (by rw [List.getElem?_eq_getElem hk, h1])
  exact this.2
theorem drop_end {lo : Int} {n k : Nat} (h : [] = (rangeI lo n).drop k) : n ≤ k := by
  have z := congrArg List.length h
  rw [List.length_drop, rangeI_len] at z
  simp at z
  omega
end Law
end
section
set_option maxHeartbeats 2000000
namespace Law
open PySem L2 MK
local macro_rules | `(tactic| walk_at "mk1") => `(tactic| first
  | with_reducible refine Rule.ok ?_ | ((with_reducible refine' we_var ?hh ?_); (case hh => rfl)) | with_reducible refine eq_and rfl ?_ | ((with_reducible refine len_and ?hh ?_); (case hh => simp; done)) | with_reducible refine o_mod (by omega) ?_ | with_reducible refine o_div (by omega) ?_
  | with_reducible refine o_mul (by omega) (by omega) ?_ | ((with_reducible refine' o_ixC ?hh ?h2 ?_); (case hh => assumption); (case h2 => rfl)) | ((with_reducible refine' o_ixS ?hh ?_); (case hh => assumption)) | ((with_reducible refine' o_ixT ?hh ?_); (case hh => assumption))
  | ((with_reducible refine' o_ixL ?hh ?_); (case hh => assumption)) | ((with_reducible refine' o_ixT ?hh ?_); (case hh => rfl)) | ((with_reducible refine' o_ixL ?hh ?_); (case hh => rfl)) | with_reducible refine o_pow (by decide) (by decide) ?_
  | ((with_reducible refine' we_lenC ?hh ?_); (case hh => assumption)) | ((with_reducible refine' we_tupleC ?hh ?_); (case hh => assumption)) | (refine way_t rfl ?_) | (refine way_f rfl ?_) | ((refine' Exists.intro _ (And.intro ?hh ?_)); (case hh => rfl)))
local macro_rules | `(tactic| walk_at "mk") => `(tactic| repeat walk_at "mk1")
theorem combZ_perm {n r : Nat} (hn : n ≤ 7) (hr : r ≤ n) : (combZ n r).Perm (pickF r (foundF r n)) := by
  have h := sets_chk n (by omega) r (by omega) hr
  unfold setsChk at h
  simp only [Bool.and_eq_true, List.isPerm_iff] at h
  exact h.1.1
theorem asc_last {j : Nat} {ks : List Int} (h : Asc ((j + 1 : Nat) : Int) ks) : Asc (j : Int) ks ∨ ∃ is, ks = is ++ [(j : Int)] ∧ Asc (j : Int) is := by
  by_cases hj : (j : Int) ∈ ks
  · right
    obtain ⟨is, os, e⟩ := List.append_of_mem hj
    subst e
    have hp := List.pairwise_append.mp h.1
    have ho : os = [] := by
      cases os with
      | nil => rfl
      | cons a l =>
        have h1 := (List.pairwise_cons.mp hp.2.1).1 a List.mem_cons_self
        have h2 := (h.2 a (by simp)).2
        omega
    subst ho
    refine ⟨is, rfl, hp.1, fun i hi => ?_⟩
    have h1 := hp.2.2 i hi (j : Int) (by simp)
    exact ⟨(h.2 i (by simp [hi])).1, h1⟩
  · left
    refine ⟨h.1, fun i hi => ?_⟩
    have := h.2 i hi
    have : i ≠ (j : Int) := fun z => hj (z ▸ hi)
    omega
theorem found_all (r : Nat) : ∀ (j : Nat) (ks : List Int), Asc (j : Int) ks → ks.length ≤ r → ks ∈ foundF r j
  | 0, ks, h, _ => by
    cases ks with
    | nil => exact List.mem_singleton.mpr rfl
    | cons a l => have := h.2 a List.mem_cons_self; omega
  | j + 1, ks, h, hl => by
    show ks ∈ foundF r j ++ ((foundF r j).filter fun ks => decide ((ks.length : Int) < r)).map fun ks => ks ++ [(j : Int)]
    rcases asc_last h with h' | ⟨is, rfl, h'⟩
    · exact List.mem_append_left _ (found_all r j ks h' hl)
    · rw [List.length_append] at hl
      simp at hl
      refine List.mem_append_right _ (List.mem_map.mpr ⟨is, List.mem_filter.mpr ⟨found_all r j is h' (by omega), by simp; omega⟩, rfl⟩)
theorem combZ_mem {n r : Nat} (hn : n ≤ 7) (hr : r ≤ n) {ks : List Int} : ks ∈ combZ n r ↔ Asc n ks ∧ ks.length = r := by
  constructor
  · intro h
    refine ⟨combZ_asc hn hr ks h, ?_⟩
    have h2 := (combZ_perm hn hr).mem_iff.mp h
    have := (List.mem_filter.mp h2).2
    simp at this
    omega
  · rintro ⟨h, rfl⟩
    exact (combZ_perm hn hr).mem_iff.mpr (List.mem_filter.mpr ⟨found_all _ n ks h (Nat.le_refl _), by simp⟩)
theorem cut_take {l : List IV} {q : Int} (h : 0 ≤ q) : cutI l none (some q) = l.take q.toNat := by
  unfold cutI
  have e1 : HT.sIx l.length 0 none = 0 := rfl
  have e2 : HT.sIx l.length l.length (some q) = min q.toNat l.length := by
    show (if q < 0 then _ else min q.toNat l.length) = _
    rw [if_neg (by omega)]
  rw [e1, e2, List.drop_zero, Nat.sub_zero]
  rcases Nat.le_total q.toNat l.length with h | h
  · rw [Nat.min_eq_left h]
  · rw [Nat.min_eq_right h, List.take_length, List.take_of_length_le h]
end Law
end
section
set_option maxHeartbeats 2000000
namespace Law
open PySem L2 MK
local macro_rules | `(tactic| walk_at "mk1") => `(tactic| first
  | with_reducible refine Rule.ok ?_ | ((with_reducible refine' we_var ?hh ?_); (case hh => rfl)) | with_reducible refine eq_and rfl ?_ | ((with_reducible refine len_and ?hh ?_); (case hh => simp; done)) | with_reducible refine o_mod (by omega) ?_ | with_reducible refine o_div (by omega) ?_
  | with_reducible refine o_mul (by omega) (by omega) ?_ | ((with_reducible refine' o_ixC ?hh ?h2 ?_); (case hh => assumption); (case h2 => rfl)) | ((with_reducible refine' o_ixS ?hh ?_); (case hh => assumption)) | ((with_reducible refine' o_ixT ?hh ?_); (case hh => assumption))
  | ((with_reducible refine' o_ixL ?hh ?_); (case hh => assumption)) | ((with_reducible refine' o_ixT ?hh ?_); (case hh => rfl)) | ((with_reducible refine' o_ixL ?hh ?_); (case hh => rfl)) | with_reducible refine o_pow (by decide) (by decide) ?_
  | ((with_reducible refine' we_lenC ?hh ?_); (case hh => assumption)) | ((with_reducible refine' we_tupleC ?hh ?_); (case hh => assumption)) | (refine way_t rfl ?_) | (refine way_f rfl ?_) | ((refine' Exists.intro _ (And.intro ?hh ?_)); (case hh => rfl)))
local macro_rules | `(tactic| walk_at "mk") => `(tactic| repeat walk_at "mk1")
theorem we_maxL {ns : List Int} {m : Int} {st : Sto} {E : EX} {Q : IV → Sto → Prop} (h : maxL ns = some m) (q : Q (.int m) st) : we (pv1 maxI [.lst (ns.map .int)]) st E Q :=
  we_pv1 (by unfold maxI intsAt; show Option.map _ (((some (ns.map IV.int)).bind intsOf).bind maxL) = _; rw [Option.bind_some, intsOf_map, Option.bind_some, h]; rfl) q
end Law
end
section
set_option maxHeartbeats 2000000
namespace Law
open PySem L2 MK
local macro_rules | `(tactic| walk_at "mk1") => `(tactic| first
  | with_reducible refine Rule.ok ?_ | ((with_reducible refine' we_var ?hh ?_); (case hh => rfl)) | with_reducible refine eq_and rfl ?_ | ((with_reducible refine len_and ?hh ?_); (case hh => simp; done)) | with_reducible refine o_mod (by omega) ?_ | with_reducible refine o_div (by omega) ?_
  | with_reducible refine o_mul (by omega) (by omega) ?_ | ((with_reducible refine' o_ixC ?hh ?h2 ?_); (case hh => assumption); (case h2 => rfl)) | ((with_reducible refine' o_ixS ?hh ?_); (case hh => assumption)) | ((with_reducible refine' o_ixT ?hh ?_); (case hh => assumption))
  | ((with_reducible refine' o_ixL ?hh ?_); (case hh => assumption)) | ((with_reducible refine' o_ixT ?hh ?_); (case hh => rfl)) | ((with_reducible refine' o_ixL ?hh ?_); (case hh => rfl)) | with_reducible refine o_pow (by decide) (by decide) ?_
  | ((with_reducible refine' we_lenC ?hh ?_); (case hh => assumption)) | ((with_reducible refine' we_tupleC ?hh ?_); (case hh => assumption)) | (refine way_t rfl ?_) | (refine way_f rfl ?_) | ((refine' Exists.intro _ (And.intro ?hh ?_)); (case hh => rfl)))
local macro_rules | `(tactic| walk_at "mk") => `(tactic| repeat walk_at "mk1")
def rowW (least hi : Int) : List IV → Bool
  | [] => true
  | .int i :: r => isIn least hi (.int i) && rowW i hi r
  | _ :: _ => false
def isRow (b : Int) : IV → Bool
  | .tup l => rowW 0 (2 ^ b.toNat - 1) l
  | _ => false
def tlen : IV → Nat
  | .tup l => l.length
  | _ => 0
def tsum (l : List IV) : Nat := (l.map tlen).sum
def areRows (r b : Int) : IV → Bool
  | .tup l => decide ((l.length : Int) = r) && l.all (isRow b) && decide (tsum l ≤ 24)
  | _ => false
theorem isRow_tup {b : Int} {v : IV} (h : isRow b v = true) : ∃ l, v = .tup l := by
  cases v <;> first | exact ⟨_, rfl⟩ | (simp [isRow] at h)
def tbObj (r b : Int) (l : List IV) : List (Str × IV) := [("rooms", .int r), ("bits", .int b), ("rows", .tup l)]
end Law
end
section
set_option maxHeartbeats 2000000
namespace Law
open PySem L2 MK
local macro_rules | `(tactic| walk_at "mk1") => `(tactic| first
  | with_reducible refine Rule.ok ?_ | ((with_reducible refine' we_var ?hh ?_); (case hh => rfl)) | with_reducible refine eq_and rfl ?_ | ((with_reducible refine len_and ?hh ?_); (case hh => simp; done)) | with_reducible refine o_mod (by omega) ?_ | with_reducible refine o_div (by omega) ?_
  | with_reducible refine o_mul (by omega) (by omega) ?_ | ((with_reducible refine' o_ixC ?hh ?h2 ?_); (case hh => assumption); (case h2 => rfl)) | ((with_reducible refine' o_ixS ?hh ?_); (case hh => assumption)) | ((with_reducible refine' o_ixT ?hh ?_); (case hh => assumption))
  | ((with_reducible refine' o_ixL ?hh ?_); (case hh => assumption)) | ((with_reducible refine' o_ixT ?hh ?_); (case hh => rfl)) | ((with_reducible refine' o_ixL ?hh ?_); (case hh => rfl)) | with_reducible refine o_pow (by decide) (by decide) ?_
  | ((with_reducible refine' we_lenC ?hh ?_); (case hh => assumption)) | ((with_reducible refine' we_tupleC ?hh ?_); (case hh => assumption)) | (refine way_t rfl ?_) | (refine way_f rfl ?_) | ((refine' Exists.intro _ (And.intro ?hh ?_)); (case hh => rfl)))
local macro_rules | `(tactic| walk_at "mk") => `(tactic| repeat walk_at "mk1")
structure Tb (r b : Int) (rows : List (List Int)) : Prop where
  room : r = 1 ∨ r = 2 ∨ r = 4 ∨ r = 8
  bits : 0 ≤ b ∧ b ≤ 5
  len : (rows.length : Int) = r
  pw : ∀ row ∈ rows, row.Pairwise (· ≤ ·)
  bd : ∀ row ∈ rows, ∀ x ∈ row, 0 ≤ x ∧ x < 2 ^ b.toNat
  sum : (rows.map List.length).sum ≤ 24
abbrev objT (r b : Int) (rows : List (List Int)) : IV := .obj "Table" (tbObj r b (rows.map tupI))
theorem rowW_inv {hi : Int} : ∀ {l : List IV} {least : Int}, rowW least hi l = true → ∃ ns : List Int, l = ns.map .int ∧ ns.Pairwise (· ≤ ·) ∧ ∀ x ∈ ns, least ≤ x ∧ x ≤ hi
  | [], _, _ => ⟨[], rfl, .nil, fun _ h => by cases h⟩
  | v :: l, least, h => by
    cases v with
    | int i =>
      simp only [rowW, Bool.and_eq_true] at h
      obtain ⟨ns, rfl, p, q⟩ := rowW_inv h.2
      have hi := h.1
      simp [isIn] at hi
      refine ⟨i :: ns, rfl, List.pairwise_cons.mpr ⟨fun x hx => (q x hx).1, p⟩, fun x hx => ?_⟩
      rcases List.mem_cons.mp hx with rfl | hx
      · exact hi
      · have := q x hx; omega
    | _ => simp [rowW] at h
theorem tsum_tup (rows : List (List Int)) : tsum (rows.map tupI) = (rows.map List.length).sum := by
  unfold tsum
  rw [List.map_map]
  congr 1
  refine List.map_congr_left fun m _ => ?_
  simp [tlen]
theorem Tb.of {r b : Int} {v : IV} (hr : r = 1 ∨ r = 2 ∨ r = 4 ∨ r = 8) (hb : 0 ≤ b ∧ b ≤ 5) (h : areRows r b v = true) : ∃ rows : List (List Int), v = .tup (rows.map tupI) ∧ Tb r b rows := by
  cases v with
  | tup l =>
    simp only [areRows, Bool.and_eq_true, List.all_eq_true, decide_eq_true_eq] at h
    obtain ⟨⟨hl, ha⟩, hs⟩ := h
    have : ∃ rows : List (List Int), l = rows.map tupI ∧ ∀ m ∈ rows, m.Pairwise (· ≤ ·) ∧ ∀ x ∈ m, 0 ≤ x ∧ x < 2 ^ b.toNat := by
      clear hl hs
      induction l with
      | nil => exact ⟨[], rfl, fun m hm => by cases hm⟩
      | cons a l ih =>
        obtain ⟨rows, rfl, h2⟩ := ih fun v hv => ha v (List.mem_cons_of_mem _ hv)
        have h1 := ha a List.mem_cons_self
        obtain ⟨q, rfl⟩ := isRow_tup h1
        obtain ⟨ns, rfl, p1, p2⟩ := rowW_inv h1
        refine ⟨ns :: rows, rfl, fun m hm => ?_⟩
        rcases List.mem_cons.mp hm with rfl | hm
        · exact ⟨p1, fun x hx => by have := p2 x hx; omega⟩
        · exact h2 m hm
    obtain ⟨rows, rfl, h2⟩ := this
    rw [List.length_map] at hl
    rw [tsum_tup] at hs
    exact ⟨rows, rfl, ⟨hr, hb, hl, fun m hm => (h2 m hm).1, fun m hm => (h2 m hm).2, hs⟩⟩
  | _ => simp [areRows] at h
theorem Tb.row_len {r b : Int} {rows : List (List Int)} (h : Tb r b rows) : ∀ row ∈ rows, row.length ≤ 24 := fun row hr => by
  have : ∀ l : List Nat, ∀ x ∈ l, x ≤ l.sum := fun l => by
    induction l with
    | nil => intro x hx; cases hx
    | cons a l ih =>
      intro x hx
      simp only [List.sum_cons]
      rcases List.mem_cons.mp hx with rfl | hx
      · omega
      · have := ih x hx; omega
  exact Nat.le_trans (this _ _ (List.mem_map.mpr ⟨row, hr, rfl⟩)) h.sum
theorem Tb.r8 {r b : Int} {rows : List (List Int)} (h : Tb r b rows) : 1 ≤ r ∧ r ≤ 8 := by have := h.room; omega
end Law
end
section
set_option maxHeartbeats 2000000
namespace Law
open PySem L2 MK
local macro_rules | `(tactic| walk_at "mk1") => `(tactic| first
  | with_reducible refine Rule.ok ?_ | ((with_reducible refine' we_var ?hh ?_); (case hh => rfl)) | with_reducible refine eq_and rfl ?_ | ((with_reducible refine len_and ?hh ?_); (case hh => simp; done)) | with_reducible refine o_mod (by omega) ?_ | with_reducible refine o_div (by omega) ?_
  | with_reducible refine o_mul (by omega) (by omega) ?_ | ((with_reducible refine' o_ixC ?hh ?h2 ?_); (case hh => assumption); (case h2 => rfl)) | ((with_reducible refine' o_ixS ?hh ?_); (case hh => assumption)) | ((with_reducible refine' o_ixT ?hh ?_); (case hh => assumption))
  | ((with_reducible refine' o_ixL ?hh ?_); (case hh => assumption)) | ((with_reducible refine' o_ixT ?hh ?_); (case hh => rfl)) | ((with_reducible refine' o_ixL ?hh ?_); (case hh => rfl)) | with_reducible refine o_pow (by decide) (by decide) ?_
  | ((with_reducible refine' we_lenC ?hh ?_); (case hh => assumption)) | ((with_reducible refine' we_tupleC ?hh ?_); (case hh => assumption)) | (refine way_t rfl ?_) | (refine way_f rfl ?_) | ((refine' Exists.intro _ (And.intro ?hh ?_)); (case hh => rfl)))
local macro_rules | `(tactic| walk_at "mk") => `(tactic| repeat walk_at "mk1")
def placeF (r b n : Int) : Int × Int := (n % r, n / r % 2 ^ b.toNat)
theorem pow_pos5 {b : Int} (h : 0 ≤ b ∧ b ≤ 5) : 0 < (2 : Int) ^ b.toNat ∧ (2 : Int) ^ b.toNat ≤ 32 := by
  have : b.toNat ≤ 5 := by omega
  have : b.toNat = 0 ∨ b.toNat = 1 ∨ b.toNat = 2 ∨ b.toNat = 3 ∨ b.toNat = 4 ∨ b.toNat = 5 := by omega
  rcases this with e | e | e | e | e | e <;> rw [e] <;> decide
def rowsP (r : Int) (ps : List (Int × Int)) : List (List Int) := (rngL r).map fun a => sortI ((ps.filter fun p => decide (p.1 = a)).map (·.2))
theorem rowsP_len {r : Int} (h : 1 ≤ r) (ps : List (Int × Int)) : ((rowsP r ps).length : Int) = r := by unfold rowsP; rw [List.length_map, rngL_len]; omega
theorem sum_le_filter {r : Int} (ps : List (Int × Int)) : ((rowsP r ps).map List.length).sum ≤ ps.length := by
  unfold rowsP
  rw [List.map_map]
  have : ∀ l : List Int, l.Nodup → ((l.map fun a => (ps.filter fun p => decide (p.1 = a)).length).sum) ≤ (ps.filter fun p => decide (p.1 ∈ l)).length := fun l => by
    induction l with
    | nil => intro _; simp
    | cons a l ih =>
      intro nd
      obtain ⟨n1, n2⟩ := List.nodup_cons.mp nd
      have h := ih n2
      simp only [List.map_cons, List.sum_cons]
      have e : (ps.filter fun p => decide (p.1 = a)).length + (ps.filter fun p => decide (p.1 ∈ l)).length = (ps.filter fun p => decide (p.1 ∈ a :: l)).length := by
        clear h ih
        induction ps with
        | nil => rfl
        | cons p ps ihp =>
          simp only [List.filter_cons, List.mem_cons]
          by_cases h1 : p.1 = a
          · have h2 : p.1 ∉ l := fun z => n1 (h1 ▸ z)
            simp only [h1, decide_true, if_true, true_or, List.length_cons]
            simp only [h1] at h2
            simp only [h2, decide_false, Bool.false_eq_true, if_false]
            simp only [List.mem_cons] at ihp
            omega
          · by_cases h2 : p.1 ∈ l
            · simp only [h1, h2, decide_true, decide_false, Bool.false_eq_true, if_false, if_true, or_true, List.length_cons]
              simp only [List.mem_cons] at ihp
              omega
            · simp only [h1, h2, decide_false, Bool.false_eq_true, if_false, or_self]
              simp only [List.mem_cons] at ihp
              exact ihp
      omega
  have h := this (rngL r) (rngL_pw.imp fun q => Int.ne_of_lt q)
  refine Nat.le_trans (Nat.le_of_eq ?_) (Nat.le_trans h (List.length_filter_le _ _))
  congr 1
  refine List.map_congr_left fun a _ => ?_
  simp only [Function.comp_def]
  rw [(sortI_perm _).length_eq, List.length_map]
theorem tb_rows {r b : Int} {ps : List (Int × Int)} (hr : r = 1 ∨ r = 2 ∨ r = 4 ∨ r = 8) (hb : 0 ≤ b ∧ b ≤ 5) (hl : ps.length ≤ 24) (h : ∀ p ∈ ps, 0 ≤ p.2 ∧ p.2 < 2 ^ b.toNat) : Tb r b (rowsP r ps) where
  room := hr
  bits := hb
  len := rowsP_len (by omega) ps
  pw := fun row h => by
    obtain ⟨a, _, rfl⟩ := List.mem_map.mp h
    exact sortI_le _
  bd := fun row hrow x hx => by
    obtain ⟨a, _, rfl⟩ := List.mem_map.mp hrow
    obtain ⟨p, hp, rfl⟩ := List.mem_map.mp ((sortI_perm _).mem_iff.mp hx)
    exact h p (List.mem_filter.mp hp).1
  sum := Nat.le_trans (sum_le_filter ps) hl
end Law
end
section
set_option maxHeartbeats 2000000
namespace Law
open PySem L2 MK
local macro_rules | `(tactic| walk_at "mk1") => `(tactic| first
  | with_reducible refine Rule.ok ?_ | ((with_reducible refine' we_var ?hh ?_); (case hh => rfl)) | with_reducible refine eq_and rfl ?_ | ((with_reducible refine len_and ?hh ?_); (case hh => simp; done)) | with_reducible refine o_mod (by omega) ?_ | with_reducible refine o_div (by omega) ?_
  | with_reducible refine o_mul (by omega) (by omega) ?_ | ((with_reducible refine' o_ixC ?hh ?h2 ?_); (case hh => assumption); (case h2 => rfl)) | ((with_reducible refine' o_ixS ?hh ?_); (case hh => assumption)) | ((with_reducible refine' o_ixT ?hh ?_); (case hh => assumption))
  | ((with_reducible refine' o_ixL ?hh ?_); (case hh => assumption)) | ((with_reducible refine' o_ixT ?hh ?_); (case hh => rfl)) | ((with_reducible refine' o_ixL ?hh ?_); (case hh => rfl)) | with_reducible refine o_pow (by decide) (by decide) ?_
  | ((with_reducible refine' we_lenC ?hh ?_); (case hh => assumption)) | ((with_reducible refine' we_tupleC ?hh ?_); (case hh => assumption)) | (refine way_t rfl ?_) | (refine way_f rfl ?_) | ((refine' Exists.intro _ (And.intro ?hh ?_)); (case hh => rfl)))
local macro_rules | `(tactic| walk_at "mk") => `(tactic| repeat walk_at "mk1")
theorem cmpb_rows {n : Nat} {rows : List (List Int)} (hl : rows.length ≤ 1000000) (h : ∀ row ∈ rows, row.length ≤ 1000000) : cmpb (n + 2) (.tup (rows.map tupI)) = true := cmpb_tup.mpr ⟨by rw [List.length_map]; exact hl, fun v hv => by
  obtain ⟨m, hm, rfl⟩ := List.mem_map.mp hv
  exact cmpb_tupI (h m hm)⟩
theorem Tb.cmpb {r b : Int} {rows : List (List Int)} (h : Tb r b rows) {n : Nat} : cmpb (n + 2) (.tup (rows.map tupI)) = true := cmpb_rows (by have := h.len; have := h.r8; omega) fun row hr => by have := h.row_len row hr; omega
end Law
end
section
set_option maxHeartbeats 2000000
namespace Law
open PySem L2 MK
local macro_rules | `(tactic| walk_at "mk1") => `(tactic| first
  | with_reducible refine Rule.ok ?_ | ((with_reducible refine' we_var ?hh ?_); (case hh => rfl)) | with_reducible refine eq_and rfl ?_ | ((with_reducible refine len_and ?hh ?_); (case hh => simp; done)) | with_reducible refine o_mod (by omega) ?_ | with_reducible refine o_div (by omega) ?_
  | with_reducible refine o_mul (by omega) (by omega) ?_ | ((with_reducible refine' o_ixC ?hh ?h2 ?_); (case hh => assumption); (case h2 => rfl)) | ((with_reducible refine' o_ixS ?hh ?_); (case hh => assumption)) | ((with_reducible refine' o_ixT ?hh ?_); (case hh => assumption))
  | ((with_reducible refine' o_ixL ?hh ?_); (case hh => assumption)) | ((with_reducible refine' o_ixT ?hh ?_); (case hh => rfl)) | ((with_reducible refine' o_ixL ?hh ?_); (case hh => rfl)) | with_reducible refine o_pow (by decide) (by decide) ?_
  | ((with_reducible refine' we_lenC ?hh ?_); (case hh => assumption)) | ((with_reducible refine' we_tupleC ?hh ?_); (case hh => assumption)) | (refine way_t rfl ?_) | (refine way_f rfl ?_) | ((refine' Exists.intro _ (And.intro ?hh ?_)); (case hh => rfl)))
local macro_rules | `(tactic| walk_at "mk") => `(tactic| repeat walk_at "mk1")
theorem OkL.rep {d : Nat} {x : IV} (h : cmpb d x = true) {j : Int} (hj : j ≤ 8) : OkL d 8 (List.replicate j.toNat [x]).flatten := by
  refine ⟨?_, fun v hv => ?_⟩
  · simp; omega
  · obtain ⟨l, hl, hv⟩ := List.mem_flatten.mp hv
    have := (List.mem_replicate.mp hl).2
    subst this
    rw [List.mem_singleton] at hv
    subst hv
    exact h
def Vals (l : List IV) : Prop := ∀ v ∈ l, cmpb 30 v = true
theorem Vals.nil : Vals [] := fun v h => by cases h
theorem Vals.app {l m : List IV} (h : Vals l) (hm : Vals m) : Vals (l ++ m) := fun v hv => (List.mem_append.mp hv).elim (h v) (hm v)
theorem Vals.pure {l : List IV} (h : Vals l) : pureL l = true := datL_pure _ (cmpbL_dat 30 _ (cmpbL_iff.mpr h))
end Law
end
section
set_option maxHeartbeats 2000000
namespace Law
open PySem L2 MK
local macro_rules | `(tactic| walk_at "mk1") => `(tactic| first
  | with_reducible refine Rule.ok ?_ | ((with_reducible refine' we_var ?hh ?_); (case hh => rfl)) | with_reducible refine eq_and rfl ?_ | ((with_reducible refine len_and ?hh ?_); (case hh => simp; done)) | with_reducible refine o_mod (by omega) ?_ | with_reducible refine o_div (by omega) ?_
  | with_reducible refine o_mul (by omega) (by omega) ?_ | ((with_reducible refine' o_ixC ?hh ?h2 ?_); (case hh => assumption); (case h2 => rfl)) | ((with_reducible refine' o_ixS ?hh ?_); (case hh => assumption)) | ((with_reducible refine' o_ixT ?hh ?_); (case hh => assumption))
  | ((with_reducible refine' o_ixL ?hh ?_); (case hh => assumption)) | ((with_reducible refine' o_ixT ?hh ?_); (case hh => rfl)) | ((with_reducible refine' o_ixL ?hh ?_); (case hh => rfl)) | with_reducible refine o_pow (by decide) (by decide) ?_
  | ((with_reducible refine' we_lenC ?hh ?_); (case hh => assumption)) | ((with_reducible refine' we_tupleC ?hh ?_); (case hh => assumption)) | (refine way_t rfl ?_) | (refine way_f rfl ?_) | ((refine' Exists.intro _ (And.intro ?hh ?_)); (case hh => rfl)))
local macro_rules | `(tactic| walk_at "mk") => `(tactic| repeat walk_at "mk1")
structure Ps (r b : Int) (ps : List (Int × Int)) : Prop where
  room : r = 1 ∨ r = 2 ∨ r = 4 ∨ r = 8
  bits : 0 ≤ b ∧ b ≤ 5
  len : ps.length ≤ 24
  fst : ∀ p ∈ ps, 0 ≤ p.1 ∧ p.1 < r
  snd : ∀ p ∈ ps, 0 ≤ p.2 ∧ p.2 < 2 ^ b.toNat
theorem Ps.tb {r b : Int} {ps : List (Int × Int)} (h : Ps r b ps) : Tb r b (rowsP r ps) := tb_rows h.room h.bits h.len h.snd
theorem Ps.of {r b : Int} {ns : List Int} (hr : r = 1 ∨ r = 2 ∨ r = 4 ∨ r = 8) (hb : 0 ≤ b ∧ b ≤ 5) (hl : ns.length ≤ 24) : Ps r b (ns.map (placeF r b)) where
  room := hr
  bits := hb
  len := by rw [List.length_map]; exact hl
  fst p hp := by
    obtain ⟨n, _, rfl⟩ := List.mem_map.mp hp
    exact ⟨Int.emod_nonneg _ (by omega), Int.emod_lt_of_pos _ (by omega)⟩
  snd p hp := by
    obtain ⟨n, _, rfl⟩ := List.mem_map.mp hp
    have := pow_pos5 hb
    exact ⟨Int.emod_nonneg _ (by omega), Int.emod_lt_of_pos _ this.1⟩
theorem Tb.pure {r b : Int} {R : List (List Int)} (h : Tb r b R) : (objT r b R).pure = true := by
  have z := dat_pure _ (cmpb_dat 2 _ (h.cmpb (n := 0)))
  show pureF (tbObj r b (R.map tupI)) = true
  simp only [tbObj, pureF, IV.pure, Bool.and_true, Bool.true_and] at z ⊢
  exact z
theorem Ps.pure {r b : Int} {ps : List (Int × Int)} (h : Ps r b ps) : (objT r b (rowsP r ps)).pure = true := h.tb.pure
variable {st : Sto} {r b n : Int} {ps : List (Int × Int)}
def cPr (b : Int) (p : Int × Int) : Int × Int := (p.1, p.2 % 2 ^ b.toNat)
theorem Ps.cut (h : Ps r b ps) (h1 : 0 < b) : Ps r (b - 1) (ps.map (cPr (b - 1))) where
  room := h.room
  bits := by have := h.bits; omega
  len := by rw [List.length_map]; exact h.len
  fst p hp := by
    obtain ⟨q, hq, rfl⟩ := List.mem_map.mp hp
    exact h.fst q hq
  snd p hp := by
    obtain ⟨q, hq, rfl⟩ := List.mem_map.mp hp
    have h2 := h.bits
    have := pow_pos5 (b := b - 1) (by omega)
    exact ⟨Int.emod_nonneg _ (by omega), Int.emod_lt_of_pos _ this.1⟩
theorem int_eqv (i j : Int) : PyData.eqv (.int i) (.int j) = decide (i = j) := by rw [Bool.eq_iff_iff]; simp [PyData.eqv]
theorem Ps.app {os : List (Int × Int)} (h : Ps r b ps) (ho : Ps r b os) (hl : ps.length + os.length ≤ 24) : Ps r b (ps ++ os) where
  room := h.room
  bits := h.bits
  len := by rw [List.length_append]; exact hl
  fst p hp := (List.mem_append.mp hp).elim (h.fst p) (ho.fst p)
  snd p hp := (List.mem_append.mp hp).elim (h.snd p) (ho.snd p)
end Law
end
section
set_option maxHeartbeats 2000000
namespace Law
open PySem L2 MK
local macro_rules | `(tactic| walk_at "mk1") => `(tactic| first
  | with_reducible refine Rule.ok ?_ | ((with_reducible refine' we_var ?hh ?_); (case hh => rfl)) | with_reducible refine eq_and rfl ?_ | ((with_reducible refine len_and ?hh ?_); (case hh => simp; done)) | with_reducible refine o_mod (by omega) ?_ | with_reducible refine o_div (by omega) ?_
  | with_reducible refine o_mul (by omega) (by omega) ?_ | ((with_reducible refine' o_ixC ?hh ?h2 ?_); (case hh => assumption); (case h2 => rfl)) | ((with_reducible refine' o_ixS ?hh ?_); (case hh => assumption)) | ((with_reducible refine' o_ixT ?hh ?_); (case hh => assumption))
  | ((with_reducible refine' o_ixL ?hh ?_); (case hh => assumption)) | ((with_reducible refine' o_ixT ?hh ?_); (case hh => rfl)) | ((with_reducible refine' o_ixL ?hh ?_); (case hh => rfl)) | with_reducible refine o_pow (by decide) (by decide) ?_
  | ((with_reducible refine' we_lenC ?hh ?_); (case hh => assumption)) | ((with_reducible refine' we_tupleC ?hh ?_); (case hh => assumption)) | (refine way_t rfl ?_) | (refine way_f rfl ?_) | ((refine' Exists.intro _ (And.intro ?hh ?_)); (case hh => rfl)))
local macro_rules | `(tactic| walk_at "mk") => `(tactic| repeat walk_at "mk1")
theorem cut_drop {l : List IV} {q : Int} (h : 0 ≤ q) : cutI l (some q) none = l.drop q.toNat := by
  unfold cutI
  have e1 : HT.sIx l.length 0 (some q) = min q.toNat l.length := by
    show (if q < 0 then _ else min q.toNat l.length) = _
    rw [if_neg (by omega)]
  have e2 : HT.sIx l.length l.length none = l.length := rfl
  rw [e1, e2]
  rcases Nat.le_total q.toNat l.length with h | h
  · rw [Nat.min_eq_left h, List.take_of_length_le (by rw [List.length_drop]; omega)]
  · rw [Nat.min_eq_right h, List.drop_of_length_le (Nat.le_refl _), List.drop_of_length_le h]
    simp
end Law
end
section
set_option maxHeartbeats 2000000
namespace Law
open PySem L2 MK
local macro_rules | `(tactic| walk_at "mk1") => `(tactic| first
  | with_reducible refine Rule.ok ?_ | ((with_reducible refine' we_var ?hh ?_); (case hh => rfl)) | with_reducible refine eq_and rfl ?_ | ((with_reducible refine len_and ?hh ?_); (case hh => simp; done)) | with_reducible refine o_mod (by omega) ?_ | with_reducible refine o_div (by omega) ?_
  | with_reducible refine o_mul (by omega) (by omega) ?_ | ((with_reducible refine' o_ixC ?hh ?h2 ?_); (case hh => assumption); (case h2 => rfl)) | ((with_reducible refine' o_ixS ?hh ?_); (case hh => assumption)) | ((with_reducible refine' o_ixT ?hh ?_); (case hh => assumption))
  | ((with_reducible refine' o_ixL ?hh ?_); (case hh => assumption)) | ((with_reducible refine' o_ixT ?hh ?_); (case hh => rfl)) | ((with_reducible refine' o_ixL ?hh ?_); (case hh => rfl)) | with_reducible refine o_pow (by decide) (by decide) ?_
  | ((with_reducible refine' we_lenC ?hh ?_); (case hh => assumption)) | ((with_reducible refine' we_tupleC ?hh ?_); (case hh => assumption)) | (refine way_t rfl ?_) | (refine way_f rfl ?_) | ((refine' Exists.intro _ (And.intro ?hh ?_)); (case hh => rfl)))
local macro_rules | `(tactic| walk_at "mk") => `(tactic| repeat walk_at "mk1")
theorem miss_len {S m : List Int} (hS : S.Nodup) (hm : m.Nodup) (hs : m ⊆ S) : (S.filter fun x => !decide (x ∈ m)).length + m.length = S.length := by
  have h1 : (S.filter fun x => decide (x ∈ m)).Perm m := by
    refine (List.perm_ext_iff_of_nodup (hS.filter _) hm).mpr fun x => ?_
    rw [List.mem_filter, decide_eq_true_eq]
    exact ⟨fun h => h.2, fun h => ⟨hs h, h⟩⟩
  have h2 := (List.filter_append_perm (fun x => decide (x ∈ m)) S).length_eq
  rw [List.length_append, h1.length_eq] at h2
  omega
end Law
end
section
set_option maxHeartbeats 2000000
namespace Law
open PySem L2 MK
local macro_rules | `(tactic| walk_at "mk1") => `(tactic| first
  | with_reducible refine Rule.ok ?_ | ((with_reducible refine' we_var ?hh ?_); (case hh => rfl)) | with_reducible refine eq_and rfl ?_ | ((with_reducible refine len_and ?hh ?_); (case hh => simp; done)) | with_reducible refine o_mod (by omega) ?_ | with_reducible refine o_div (by omega) ?_
  | with_reducible refine o_mul (by omega) (by omega) ?_ | ((with_reducible refine' o_ixC ?hh ?h2 ?_); (case hh => assumption); (case h2 => rfl)) | ((with_reducible refine' o_ixS ?hh ?_); (case hh => assumption)) | ((with_reducible refine' o_ixT ?hh ?_); (case hh => assumption))
  | ((with_reducible refine' o_ixL ?hh ?_); (case hh => assumption)) | ((with_reducible refine' o_ixT ?hh ?_); (case hh => rfl)) | ((with_reducible refine' o_ixL ?hh ?_); (case hh => rfl)) | with_reducible refine o_pow (by decide) (by decide) ?_
  | ((with_reducible refine' we_lenC ?hh ?_); (case hh => assumption)) | ((with_reducible refine' we_tupleC ?hh ?_); (case hh => assumption)) | (refine way_t rfl ?_) | (refine way_f rfl ?_) | ((refine' Exists.intro _ (And.intro ?hh ?_)); (case hh => rfl)))
local macro_rules | `(tactic| walk_at "mk") => `(tactic| repeat walk_at "mk1")
def Short (v : IV) : Prop := ∀ l, v = .tup l → l.length ≤ 300
theorem Short.tup {l : List IV} {m : Nat} (h : l.length ≤ m) (hm : m ≤ 300) : Short (.tup l) := fun l' e => by cases e; omega
def VOk (v : IV) : Prop := cmpb 30 v = true ∧ Short v
def VL (l : List IV) : Prop := ∀ v ∈ l, VOk v
theorem VL.nil : VL [] := fun v h => by cases h
theorem VL.app {l m : List IV} (h : VL l) (hm : VL m) : VL (l ++ m) := fun v hv => (List.mem_append.mp hv).elim (h v) (hm v)
theorem VL.pure {l : List IV} (h : VL l) : pureL l = true := datL_pure _ (cmpbL_dat 30 _ (cmpbL_iff.mpr fun v hv => (h v hv).1))
end Law
end
section
set_option maxHeartbeats 2000000
namespace Law
open PySem L2 MK
local macro_rules | `(tactic| walk_at "mk1") => `(tactic| first
  | with_reducible refine Rule.ok ?_ | ((with_reducible refine' we_var ?hh ?_); (case hh => rfl)) | with_reducible refine eq_and rfl ?_ | ((with_reducible refine len_and ?hh ?_); (case hh => simp; done)) | with_reducible refine o_mod (by omega) ?_ | with_reducible refine o_div (by omega) ?_
  | with_reducible refine o_mul (by omega) (by omega) ?_ | ((with_reducible refine' o_ixC ?hh ?h2 ?_); (case hh => assumption); (case h2 => rfl)) | ((with_reducible refine' o_ixS ?hh ?_); (case hh => assumption)) | ((with_reducible refine' o_ixT ?hh ?_); (case hh => assumption))
  | ((with_reducible refine' o_ixL ?hh ?_); (case hh => assumption)) | ((with_reducible refine' o_ixT ?hh ?_); (case hh => rfl)) | ((with_reducible refine' o_ixL ?hh ?_); (case hh => rfl)) | with_reducible refine o_pow (by decide) (by decide) ?_
  | ((with_reducible refine' we_lenC ?hh ?_); (case hh => assumption)) | ((with_reducible refine' we_tupleC ?hh ?_); (case hh => assumption)) | (refine way_t rfl ?_) | (refine way_f rfl ?_) | ((refine' Exists.intro _ (And.intro ?hh ?_)); (case hh => rfl)))
local macro_rules | `(tactic| walk_at "mk") => `(tactic| repeat walk_at "mk1")
def clS (k : Int) (ms : List (List Int)) (ks : List Int) : List Int := saysS ms (fillS k ms ks)
theorem cl_mem {k : Int} {ms : List (List Int)} (hk : Mk k ms) {ks : List Int} (ha : Asc ms.length ks) {i : Int} : i ∈ clS k ms ks ↔ (0 ≤ i ∧ i < ms.length) ∧ ∀ c ∈ getM ms i, ∃ j ∈ ks, c ∈ getM ms j := by
  unfold clS
  rw [says_mem]
  refine and_congr_right fun _ => forall_congr' fun c => forall_congr' fun _ => fill_mem hk ha
theorem cl_asc {k : Int} {ms : List (List Int)} {ks : List Int} : Asc ms.length (clS k ms ks) := says_asc
def capL (a b : List Int) : List Int := a.filter fun i => decide (i ∈ b)
theorem cap_mem {a b : List Int} {i : Int} : i ∈ capL a b ↔ i ∈ a ∧ i ∈ b := by
  unfold capL; rw [List.mem_filter, decide_eq_true_eq]
theorem Asc.cap {n : Int} {a b : List Int} (h : Asc n a) : Asc n (capL a b) := ⟨h.1.filter _, fun i hi => h.2 i (cap_mem.mp hi).1⟩
theorem Asc.eq {n : Int} {a b : List Int} (ha : Asc n a) (hb : Asc n b) (h : ∀ i, i ∈ a ↔ i ∈ b) : a = b := pw_ext ha.1 hb.1 h
theorem Asc.rng (n : Int) : Asc n (rngL n) := ⟨rngL_pw, fun i h => rngL_mem.mp h⟩
theorem Asc.nodup {n : Int} {a : List Int} (h : Asc n a) : a.Nodup := h.1.imp fun q => Int.ne_of_lt q
theorem Asc.eq_len {n : Int} {a b : List Int} (ha : Asc n a) (hb : Asc n b) (hs : a ⊆ b) (hl : b.length ≤ a.length) : a = b := by
  have z := miss_len hb.nodup ha.nodup hs
  have h0 : (b.filter fun x => !decide (x ∈ a)) = [] := List.eq_nil_of_length_eq_zero (by omega)
  refine ha.eq hb fun i => ⟨fun h => hs h, fun h => ?_⟩
  have := List.filter_eq_nil_iff.mp h0 i h
  simpa using this
structure Tell (n : Nat) (T : List (List Int)) : Prop where
  n1 : 1 ≤ n
  asc : ∀ m ∈ T, Asc n m
  srt : T.Pairwise fun a b => ltL a b = true
  bot : [] ∈ T
  top : rngL n ∈ T
  cap : ∀ a ∈ T, ∀ b ∈ T, capL a b ∈ T
def greaterS (T : List (List Int)) (m : List Int) : List (List Int) := T.filter fun o => !decide (o = m) && m.all fun i => decide (i ∈ o)
theorem greater_mem {T : List (List Int)} {m o : List Int} : o ∈ greaterS T m ↔ o ∈ T ∧ o ≠ m ∧ m ⊆ o := by
  unfold greaterS
  rw [List.mem_filter, Bool.and_eq_true, List.all_eq_true]
  simp only [Bool.not_eq_true', decide_eq_false_iff_not, decide_eq_true_eq]
  rfl
def commonL (n : Int) (G : List (List Int)) : List Int := (rngL n).filter fun i => G.all fun o => decide (i ∈ o)
theorem comL_mem {n : Int} {G : List (List Int)} {i : Int} : i ∈ commonL n G ↔ (0 ≤ i ∧ i < n) ∧ ∀ o ∈ G, i ∈ o := by
  unfold commonL
  rw [List.mem_filter, rngL_mem, List.all_eq_true]
  simp only [decide_eq_true_eq]
theorem comL_asc {n : Int} {G : List (List Int)} : Asc n (commonL n G) := Asc.filter _
def needP (n : Nat) (T : List (List Int)) (m : List Int) : Bool := decide (m.length < n) && !decide (commonL n (greaterS T m) = m)
def needS (n : Nat) (T : List (List Int)) : List (List Int) := T.filter (needP n T)
variable {n : Nat} {T : List (List Int)}
theorem Tell.full (h : Tell n T) {m : List Int} (hm : m ∈ T) : m.length ≤ n := by
  have z := (h.asc m hm).len (by omega)
  omega
theorem Tell.is_full (h : Tell n T) {m : List Int} (hm : m ∈ T) (hl : ¬ m.length < n) : m = rngL n := by
  have ha := h.asc m hm
  refine ha.eq_len (Asc.rng n) (fun i hi => rngL_mem.mpr (ha.2 i hi)) ?_
  rw [rngL_len]; omega
theorem Tell.rep (h : Tell n T) : ∀ (d : Nat) (m : List Int), m ∈ T → n - m.length = d → ∀ i, (0 ≤ i ∧ i < (n : Int)) → (∀ o ∈ needS n T, m ⊆ o → i ∈ o) → i ∈ m := by
  intro d
  induction d using Nat.strongRecOn with
  | ind d ih =>
    intro m hm hd i hi hall
    by_cases hl : m.length < n
    · by_cases hc : commonL n (greaterS T m) = m
      · rw [← hc]
        refine comL_mem.mpr ⟨hi, fun o ho => ?_⟩
        obtain ⟨h1, h2, h3⟩ := greater_mem.mp ho
        have hlt : m.length < o.length := by
          rcases Nat.lt_or_ge m.length o.length with z | z
          · exact z
          · exact absurd ((h.asc m hm).eq_len (h.asc o h1) h3 z).symm h2
        have hf := h.full h1
        exact ih (n - o.length) (by omega) o h1 rfl i hi fun x hx hs => hall x hx fun y hy => hs (h3 hy)
      · exact hall m (List.mem_filter.mpr ⟨hm, by unfold needP; rw [decide_eq_true hl, decide_eq_false hc]; rfl⟩) fun y hy => hy
    · rw [h.is_full hm hl]
      exact rngL_mem.mpr hi
theorem Tell.rep' (h : Tell n T) {m : List Int} (hm : m ∈ T) {i : Int} : i ∈ m ↔ (0 ≤ i ∧ i < (n : Int)) ∧ ∀ o ∈ needS n T, m ⊆ o → i ∈ o :=
  ⟨fun hi => ⟨(h.asc m hm).2 i hi, fun o _ hs => hs hi⟩, fun ⟨h1, h2⟩ => h.rep _ m hm rfl i h1 h2⟩
theorem need_mem {m : List Int} : m ∈ needS n T ↔ m ∈ T ∧ m.length < n ∧ commonL n (greaterS T m) ≠ m := by
  unfold needS needP
  rw [List.mem_filter, Bool.and_eq_true]
  simp only [Bool.not_eq_true', decide_eq_false_iff_not, decide_eq_true_eq]
theorem Tell.lacks (h : Tell n T) {i : Int} (hi : 0 ≤ i ∧ i < (n : Int)) : ∃ o ∈ needS n T, i ∉ o := by
  rcases Decidable.em (∃ o ∈ needS n T, i ∉ o) with z | z
  · exact z
  · exfalso
    have : i ∈ ([] : List Int) := (h.rep' h.bot).mpr ⟨hi, fun o ho _ => by
      rcases Decidable.em (i ∈ o) with y | y
      · exact y
      · exact absurd ⟨o, ho, y⟩ z⟩
    cases this
theorem Tell.need_pos (h : Tell n T) : 1 ≤ (needS n T).length := by
  obtain ⟨o, ho, _⟩ := h.lacks (i := 0) ⟨Int.le_refl 0, by have := h.n1; omega⟩
  exact List.length_pos_of_mem ho
def keysA (n : Nat) : List (List Int) := (rngL (n + 1)).flatMap fun r => combZ n r.toNat
theorem keysA_mem {n : Nat} (hn : n ≤ 7) {ks : List Int} : ks ∈ keysA n ↔ Asc n ks := by
  unfold keysA
  rw [List.mem_flatMap]
  constructor
  · rintro ⟨r, hr, h⟩
    have hr := rngL_mem.mp hr
    exact ((combZ_mem hn (by omega)).mp h).1
  · intro h
    have hl := h.len (by omega)
    exact ⟨(ks.length : Int), rngL_mem.mpr ⟨by omega, by omega⟩, (combZ_mem hn (by omega)).mpr ⟨h, by omega⟩⟩
def yesS (k : Int) (ms : List (List Int)) : List (List Int) := sortLL (insTL [] ((keysA ms.length).map (clS k ms)))
theorem yes_mem {k : Int} {ms : List (List Int)} (hk : Mk k ms) {m : List Int} : m ∈ yesS k ms ↔ Asc ms.length m ∧ clS k ms m = m := by
  unfold yesS
  rw [(sortLL_perm _).mem_iff, insTL_mem, List.mem_map]
  have l7 := hk.l7
  constructor
  · rintro (h | ⟨ks, hks, rfl⟩)
    · cases h
    · have ha := (keysA_mem (by omega)).mp hks
      refine ⟨cl_asc, cl_asc.eq cl_asc fun i => ?_⟩
      rw [cl_mem hk cl_asc, cl_mem hk ha]
      refine and_congr_right fun _ => ⟨fun h c hc => ?_, fun h c hc => ?_⟩
      · obtain ⟨j, hj, hcj⟩ := h c hc
        exact ((cl_mem hk ha).mp hj).2 c hcj
      · obtain ⟨j, hj, hcj⟩ := h c hc
        exact ⟨j, (cl_mem hk ha).mpr ⟨ha.2 j hj, fun c' hc' => ⟨j, hj, hc'⟩⟩, hcj⟩
  · rintro ⟨ha, e⟩
    exact .inr ⟨m, (keysA_mem (by omega)).mpr ha, e⟩
theorem srt_of {l : List (List Int)} (nd : l.Nodup) : (sortLL l).Pairwise fun a b => ltL a b = true := by
  have h1 := sortLL_le l
  have h2 : (sortLL l).Nodup := (sortLL_perm l).nodup_iff.mpr nd
  refine (h1.and h2).imp fun {a b} h => ?_
  cases e : ltL a b with
  | true => rfl
  | false => exact absurd (ltL_eq a b e h.1) h.2
theorem srt_ext {l m : List (List Int)} (hl : l.Pairwise fun a b => ltL a b = true) (hm : m.Pairwise fun a b => ltL a b = true) (h : ∀ x, x ∈ l ↔ x ∈ m) : l = m := by
  have ir : ∀ a b : List Int, ltL a b = true → a ≠ b := fun a b h e => by
    subst e
    have := ltL_asym a a h
    rw [h] at this; cases this
  have p : l.Perm m := (List.perm_ext_iff_of_nodup (hl.imp fun {a b} => ir a b) (hm.imp fun {a b} => ir a b)).mpr h
  exact p.eq_of_pairwise (fun a b _ _ h1 h2 => by have := ltL_asym a b h1; rw [h2] at this; cases this) hl hm
theorem yes_tell {k : Int} {ms : List (List Int)} (hk : Mk k ms) : Tell ms.length (yesS k ms) where
  n1 := hk.l1
  asc := fun m hm => ((yes_mem hk).mp hm).1
  srt := srt_of (insTL_nodup List.nodup_nil)
  bot := (yes_mem hk).mpr ⟨Asc.nil, cl_asc.eq Asc.nil fun i => by
    rw [cl_mem hk Asc.nil]
    refine ⟨fun ⟨h1, h2⟩ => ?_, fun h => by cases h⟩
    have hne := hk.ne _ (hk.get h1.1 h1.2)
    cases hm : getM ms i with
    | nil => exact absurd hm hne
    | cons c l =>
      obtain ⟨j, hj, _⟩ := h2 c (by rw [hm]; exact List.mem_cons_self)
      cases hj⟩
  top := (yes_mem hk).mpr ⟨Asc.rng _, cl_asc.eq (Asc.rng _) fun i => by
    rw [cl_mem hk (Asc.rng _), rngL_mem]
    exact ⟨fun h => h.1, fun h => ⟨h, fun c hc => ⟨i, rngL_mem.mpr h, hc⟩⟩⟩⟩
  cap := fun a ha b hb => by
    obtain ⟨a1, a2⟩ := (yes_mem hk).mp ha
    obtain ⟨b1, b2⟩ := (yes_mem hk).mp hb
    refine (yes_mem hk).mpr ⟨a1.cap, cl_asc.eq a1.cap fun i => ?_⟩
    rw [cl_mem hk a1.cap, cap_mem]
    constructor
    · rintro ⟨h1, h2⟩
      refine ⟨a2 ▸ (cl_mem hk a1).mpr ⟨h1, fun c hc => ?_⟩, b2 ▸ (cl_mem hk b1).mpr ⟨h1, fun c hc => ?_⟩⟩
      · obtain ⟨j, hj, hcj⟩ := h2 c hc
        exact ⟨j, (cap_mem.mp hj).1, hcj⟩
      · obtain ⟨j, hj, hcj⟩ := h2 c hc
        exact ⟨j, (cap_mem.mp hj).2, hcj⟩
    · rintro ⟨h1, h2⟩
      exact ⟨a1.2 i h1, fun c hc => ⟨i, cap_mem.mpr ⟨h1, h2⟩, hc⟩⟩
def markOf (D : List (List Int)) (i : Int) : List Int := (rngL D.length).filter fun c => !decide (i ∈ getM D c)
def marksOfD (n : Nat) (D : List (List Int)) : List (List Int) := (rngL n).map (markOf D)
theorem markOf_mem {D : List (List Int)} {i c : Int} : c ∈ markOf D i ↔ (0 ≤ c ∧ c < D.length) ∧ i ∉ getM D c := by
  unfold markOf
  rw [List.mem_filter, rngL_mem]
  simp
theorem marksOfD_len (n : Nat) (D : List (List Int)) : (marksOfD n D).length = n := by
  unfold marksOfD
  rw [List.length_map, rngL_len]; omega
theorem rngL_get {n : Int} {i : Int} (h0 : 0 ≤ i) (h1 : i < n) : (rngL n)[i.toNat]? = some i := by
  unfold rngL
  rw [List.getElem?_map, List.getElem?_range (by omega)]
  simp; omega
theorem getM_marks {n : Nat} {D : List (List Int)} {i : Int} (h0 : 0 ≤ i) (h1 : i < n) : getM (marksOfD n D) i = markOf D i := by
  unfold getM marksOfD
  rw [List.getD_eq_getElem?_getD, List.getElem?_map, rngL_get h0 h1]
  rfl
theorem getM_mem' {D : List (List Int)} {c : Int} (h0 : 0 ≤ c) (h1 : c < D.length) : getM D c ∈ D := by
  unfold getM
  have : c.toNat < D.length := by omega
  rw [List.getD_eq_getElem?_getD, List.getElem?_eq_getElem this]
  exact List.getElem_mem this
theorem mem_getM {D : List (List Int)} {o : List Int} (h : o ∈ D) : ∃ c : Int, (0 ≤ c ∧ c < D.length) ∧ getM D c = o := by
  obtain ⟨i, hi, e⟩ := List.getElem_of_mem h
  refine ⟨(i : Int), ⟨by omega, by omega⟩, ?_⟩
  unfold getM
  rw [List.getD_eq_getElem?_getD, show ((i : Int)).toNat = i by omega, List.getElem?_eq_getElem hi, e]
  rfl
theorem Tell.mkM {n : Nat} {T : List (List Int)} (h : Tell n T) (h7 : n ≤ 7) (h8 : (needS n T).length ≤ 8) : Mk ((needS n T).length : Int) (marksOfD n (needS n T)) where
  k1 := by have := h.need_pos; omega
  k8 := by omega
  l1 := by rw [marksOfD_len]; exact h.n1
  l7 := by rw [marksOfD_len]; exact h7
  ne := fun m hm => by
    obtain ⟨i, hi, rfl⟩ := List.mem_map.mp hm
    obtain ⟨o, ho, hio⟩ := h.lacks (rngL_mem.mp hi)
    obtain ⟨c, hc, e⟩ := mem_getM ho
    intro z
    have : c ∈ markOf (needS n T) i := markOf_mem.mpr ⟨hc, by rw [e]; exact hio⟩
    rw [z] at this
    cases this
  pw := fun m hm => by
    obtain ⟨i, hi, rfl⟩ := List.mem_map.mp hm
    exact rngL_pw.filter _
  bd := fun m hm c hc => by
    obtain ⟨i, hi, rfl⟩ := List.mem_map.mp hm
    exact (markOf_mem.mp hc).1
  le := fun m hm => by
    obtain ⟨i, hi, rfl⟩ := List.mem_map.mp hm
    have z : (markOf (needS n T) i).length ≤ (rngL (needS n T).length).length := List.length_filter_le _ _
    rw [rngL_len] at z
    omega
theorem Tell.common {n : Nat} {T : List (List Int)} (h : Tell n T) : ∀ G : List (List Int), (∀ o ∈ G, o ∈ T) → commonL n G ∈ T
  | [], _ => by
    have e : commonL n [] = rngL n := comL_asc.eq (Asc.rng n) fun i => by rw [comL_mem, rngL_mem]; simp
    rw [e]; exact h.top
  | o :: G, hG => by
    have ho := hG o List.mem_cons_self
    have hr := h.common G fun x hx => hG x (List.mem_cons_of_mem _ hx)
    have e : commonL n (o :: G) = capL o (commonL n G) := comL_asc.eq (h.asc o ho).cap fun i => by
      rw [comL_mem, cap_mem, comL_mem, List.forall_mem_cons]
      exact ⟨fun ⟨a, b, c⟩ => ⟨b, a, c⟩, fun ⟨b, a, c⟩ => ⟨a, b, c⟩⟩
    rw [e]
    exact h.cap _ ho _ hr
theorem Tell.yes {n : Nat} {T : List (List Int)} (h : Tell n T) (h7 : n ≤ 7) (h8 : (needS n T).length ≤ 8) : yesS ((needS n T).length : Int) (marksOfD n (needS n T)) = T := by
  have hk := h.mkM h7 h8
  have hl := marksOfD_len n (needS n T)
  refine srt_ext (yes_tell hk).srt h.srt fun m => ?_
  rw [yes_mem hk, hl]
  -- the closure of a set of items
  have clo : ∀ m, Asc n m → ∀ i, i ∈ clS ((needS n T).length : Int) (marksOfD n (needS n T)) m ↔ (0 ≤ i ∧ i < (n : Int)) ∧ ∀ o ∈ needS n T, m ⊆ o → i ∈ o := fun m ha i => by
    rw [cl_mem hk (by rw [hl]; exact ha), hl]
    refine and_congr_right fun hi => ?_
    rw [getM_marks hi.1 hi.2]
    constructor
    · intro hall o ho hs
      rcases Decidable.em (i ∈ o) with y | y
      · exact y
      · exfalso
        obtain ⟨c, hc, e⟩ := mem_getM ho
        obtain ⟨j, hj, hcj⟩ := hall c (markOf_mem.mpr ⟨hc, by rw [e]; exact y⟩)
        rw [getM_marks (ha.2 j hj).1 (ha.2 j hj).2] at hcj
        exact (markOf_mem.mp hcj).2 (by rw [e]; exact hs hj)
    · intro hall c hc
      obtain ⟨c1, c2⟩ := markOf_mem.mp hc
      rcases Decidable.em (∃ j ∈ m, c ∈ getM (marksOfD n (needS n T)) j) with y | y
      · exact y
      · exfalso
        refine c2 (hall _ (getM_mem' c1.1 c1.2) fun j hj => ?_)
        rcases Decidable.em (j ∈ getM (needS n T) c) with x | x
        · exact x
        · exact absurd ⟨j, hj, by rw [getM_marks (ha.2 j hj).1 (ha.2 j hj).2]; exact markOf_mem.mpr ⟨c1, x⟩⟩ y
  constructor
  · rintro ⟨ha, e⟩
    have hT := h.common ((needS n T).filter fun o => m.all fun j => decide (j ∈ o)) fun o ho => (need_mem.mp (List.mem_filter.mp ho).1).1
    have e2 : commonL n ((needS n T).filter fun o => m.all fun j => decide (j ∈ o)) = m := comL_asc.eq ha fun i => by
      rw [comL_mem]
      have z := clo m ha i
      rw [e] at z
      rw [z]
      refine and_congr_right fun _ => ⟨fun hall o ho hs => hall o (List.mem_filter.mpr ⟨ho, List.all_eq_true.mpr fun j hj => decide_eq_true (hs hj)⟩), fun hall o ho => ?_⟩
      obtain ⟨o1, o2⟩ := List.mem_filter.mp ho
      exact hall o o1 fun j hj => of_decide_eq_true (List.all_eq_true.mp o2 j hj)
    rw [e2] at hT
    exact hT
  · intro hm
    have ha := h.asc m hm
    refine ⟨ha, (hl ▸ cl_asc).eq ha fun i => ?_⟩
    rw [clo m ha i]
    exact (h.rep' hm).symm
end Law
end
section
set_option maxHeartbeats 2000000
namespace Law
open PySem L2 MK
local macro_rules | `(tactic| walk_at "mk1") => `(tactic| first
  | with_reducible refine Rule.ok ?_ | ((with_reducible refine' we_var ?hh ?_); (case hh => rfl)) | with_reducible refine eq_and rfl ?_ | ((with_reducible refine len_and ?hh ?_); (case hh => simp; done)) | with_reducible refine o_mod (by omega) ?_ | with_reducible refine o_div (by omega) ?_
  | with_reducible refine o_mul (by omega) (by omega) ?_ | ((with_reducible refine' o_ixC ?hh ?h2 ?_); (case hh => assumption); (case h2 => rfl)) | ((with_reducible refine' o_ixS ?hh ?_); (case hh => assumption)) | ((with_reducible refine' o_ixT ?hh ?_); (case hh => assumption))
  | ((with_reducible refine' o_ixL ?hh ?_); (case hh => assumption)) | ((with_reducible refine' o_ixT ?hh ?_); (case hh => rfl)) | ((with_reducible refine' o_ixL ?hh ?_); (case hh => rfl)) | with_reducible refine o_pow (by decide) (by decide) ?_
  | ((with_reducible refine' we_lenC ?hh ?_); (case hh => assumption)) | ((with_reducible refine' we_tupleC ?hh ?_); (case hh => assumption)) | (refine way_t rfl ?_) | (refine way_f rfl ?_) | ((refine' Exists.intro _ (And.intro ?hh ?_)); (case hh => rfl)))
local macro_rules | `(tactic| walk_at "mk") => `(tactic| repeat walk_at "mk1")
variable {st : Sto} {E : EX} {ls : MK.Loc}
structure TellS (n : Nat) (T : List (List Int)) : Prop where
  t : Tell n T
  n4 : n ≤ 7
  few : T.length ≤ 128
theorem TellS.len {n : Nat} {T : List (List Int)} (h : TellS n T) {m : List Int} (hm : m ∈ T) : m.length ≤ 7 := by
  have := h.t.full hm
  have := h.n4
  omega
theorem TellS.cmpb {n k : Nat} {T : List (List Int)} (h : TellS n T) : Law.cmpb (k + 2) (.tup (T.map tupI)) = true := cmpb_rows (by have := h.few; omega) fun m hm => by have := h.len hm; omega
end Law
end
section
set_option maxHeartbeats 2000000
namespace Law
open PySem L2 MK
local macro_rules | `(tactic| walk_at "mk1") => `(tactic| first
  | with_reducible refine Rule.ok ?_ | ((with_reducible refine' we_var ?hh ?_); (case hh => rfl)) | with_reducible refine eq_and rfl ?_ | ((with_reducible refine len_and ?hh ?_); (case hh => simp; done)) | with_reducible refine o_mod (by omega) ?_ | with_reducible refine o_div (by omega) ?_
  | with_reducible refine o_mul (by omega) (by omega) ?_ | ((with_reducible refine' o_ixC ?hh ?h2 ?_); (case hh => assumption); (case h2 => rfl)) | ((with_reducible refine' o_ixS ?hh ?_); (case hh => assumption)) | ((with_reducible refine' o_ixT ?hh ?_); (case hh => assumption))
  | ((with_reducible refine' o_ixL ?hh ?_); (case hh => assumption)) | ((with_reducible refine' o_ixT ?hh ?_); (case hh => rfl)) | ((with_reducible refine' o_ixL ?hh ?_); (case hh => rfl)) | with_reducible refine o_pow (by decide) (by decide) ?_
  | ((with_reducible refine' we_lenC ?hh ?_); (case hh => assumption)) | ((with_reducible refine' we_tupleC ?hh ?_); (case hh => assumption)) | (refine way_t rfl ?_) | (refine way_f rfl ?_) | ((refine' Exists.intro _ (And.intro ?hh ?_)); (case hh => rfl)))
local macro_rules | `(tactic| walk_at "mk") => `(tactic| repeat walk_at "mk1")
def isW (y : Str) : IV → Bool
  | .str x => x == y
  | _ => false
theorem veq_W (w : IV) (y : Str) : veq w (.str y) = isW y w := by cases w <;> rfl
theorem o_eqW {st : Sto} {w : IV} {y : Str} {Q : IV → Prop} (hw : cmpb 64 w = true) (hy : PyData.strOk y = true) (q : Q (.bl (isW y w))) : ∃ v, eqI st w (.str y) = some v ∧ Q v := o_eq hw hy (by rw [veq_W]; exact q)
def takeB (k : Int) (ms : List (List Int)) (a i b : IV) : Bool :=
  isAsc ms.length a && (match i with
    | .int j => (match a with | .tup l => l.any fun v => veq v (.int j) | _ => false) && isAsc k b && (match b with | .tup l => l.all fun c => (getM ms j).any fun x => veq (.int x) c | _ => false)
    | _ => false)
def qWrong (n : Int) : List IV → Bool
  | [a] => isAsc n a
  | _ => false
def qMeets (n : Int) : List IV → Bool
  | [a, b] => isAsc n a && isAsc n b
  | _ => false
def qTake (k : Int) (ms : List (List Int)) : List IV → Bool
  | [a, i, b] => takeB k ms a i b
  | _ => false
def qFree (n : Int) : List IV → Bool
  | [s] => isIn 0 n s
  | _ => false
def questB (k : Int) (ms : List (List Int)) : IV → Bool
  | .tup (w :: ps) =>
    if isW "wrong" w = true then qWrong ms.length ps
    else if isW "meets" w = true then qMeets ms.length ps
    else if isW "take" w = true then qTake k ms ps
    else if isW "free" w = true then qFree ms.length ps
    else isW "cells" w && ps.isEmpty && decide (ms.length ≤ 4)
  | _ => false
theorem any_ints {ks : List Int} {j : Int} : ((ks.map IV.int).any fun v => veq v (.int j)) = decide (j ∈ ks) := by
  rw [Bool.eq_iff_iff, List.any_eq_true, decide_eq_true_eq]
  constructor
  · rintro ⟨v, hv, e⟩
    obtain ⟨i, hi, rfl⟩ := List.mem_map.mp hv
    have : i = j := by simpa [veq] using e
    exact this ▸ hi
  · exact fun h => ⟨.int j, List.mem_map.mpr ⟨j, h, rfl⟩, by simp [veq]⟩
theorem take_ints {k : Int} {ms : List (List Int)} {ks bs : List Int} {j : Int} (ha : Asc ms.length ks) (hb : Asc k bs) : takeB k ms (tupI ks) (.int j) (tupI bs) = (decide (j ∈ ks) && bs.all fun c => decide (c ∈ getM ms j)) := by
  unfold takeB tupI
  rw [show isAsc (ms.length : Int) (.tup (ks.map .int)) = true from ha.is, show isAsc k (.tup (bs.map .int)) = true from hb.is]
  simp only [Bool.true_and, Bool.and_true]
  rw [any_ints, List.all_map]
  congr 1
  congr 1
  funext c
  show ((getM ms j).any fun x => veq (.int x) (.int c)) = _
  have z := any_ints (ks := getM ms j) (j := c)
  rw [List.any_map] at z
  exact z
variable {st : Sto} {k : Int} {ms : List (List Int)}
theorem int_ne {a b : Int} (h : a ≠ b) : PyData.eqv (.int a) (.int b) = false := by rw [int_eqv, decide_eq_false h]
theorem int_eq {a b : Int} (h : a = b) : PyData.eqv (.int a) (.int b) = true := by rw [int_eqv, decide_eq_true h]
theorem cmpb_str {n : Nat} {x : Str} (h : PyData.strOk x = true) : cmpb n (.str x) = true := by cases n <;> exact h
end Law
end
section
set_option maxHeartbeats 2000000
namespace Law
open PySem L2 MK
local macro_rules | `(tactic| walk_at "mk1") => `(tactic| first
  | with_reducible refine Rule.ok ?_ | ((with_reducible refine' we_var ?hh ?_); (case hh => rfl)) | with_reducible refine eq_and rfl ?_ | ((with_reducible refine len_and ?hh ?_); (case hh => simp; done)) | with_reducible refine o_mod (by omega) ?_ | with_reducible refine o_div (by omega) ?_
  | with_reducible refine o_mul (by omega) (by omega) ?_ | ((with_reducible refine' o_ixC ?hh ?h2 ?_); (case hh => assumption); (case h2 => rfl)) | ((with_reducible refine' o_ixS ?hh ?_); (case hh => assumption)) | ((with_reducible refine' o_ixT ?hh ?_); (case hh => assumption))
  | ((with_reducible refine' o_ixL ?hh ?_); (case hh => assumption)) | ((with_reducible refine' o_ixT ?hh ?_); (case hh => rfl)) | ((with_reducible refine' o_ixL ?hh ?_); (case hh => rfl)) | with_reducible refine o_pow (by decide) (by decide) ?_
  | ((with_reducible refine' we_lenC ?hh ?_); (case hh => assumption)) | ((with_reducible refine' we_tupleC ?hh ?_); (case hh => assumption)) | (refine way_t rfl ?_) | (refine way_f rfl ?_) | ((refine' Exists.intro _ (And.intro ?hh ?_)); (case hh => rfl)))
local macro_rules | `(tactic| walk_at "mk") => `(tactic| repeat walk_at "mk1")
variable {k : Int} {ms : List (List Int)}
theorem quest_wrong (ps : List IV) : questB k ms (.tup (.str "wrong" :: ps)) = qWrong ms.length ps := by
  simp only [questB, show isW "wrong" (.str "wrong") = true by decide +kernel, if_true]
theorem quest_meets (ps : List IV) : questB k ms (.tup (.str "meets" :: ps)) = qMeets ms.length ps := by
  simp only [questB, show isW "wrong" (.str "meets") = false by decide +kernel, show isW "meets" (.str "meets") = true by decide +kernel, if_true, Bool.false_eq_true, if_false]
theorem quest_take (ps : List IV) : questB k ms (.tup (.str "take" :: ps)) = qTake k ms ps := by
  simp only [questB, show isW "wrong" (.str "take") = false by decide +kernel, show isW "meets" (.str "take") = false by decide +kernel, show isW "take" (.str "take") = true by decide +kernel, if_true, Bool.false_eq_true, if_false]
theorem quest_free (ps : List IV) : questB k ms (.tup (.str "free" :: ps)) = qFree ms.length ps := by
  simp only [questB, show isW "wrong" (.str "free") = false by decide +kernel, show isW "meets" (.str "free") = false by decide +kernel, show isW "take" (.str "free") = false by decide +kernel, show isW "free" (.str "free") = true by decide +kernel, if_true, Bool.false_eq_true, if_false]
theorem quest_cells (ps : List IV) : questB k ms (.tup (.str "cells" :: ps)) = (ps.isEmpty && decide (ms.length ≤ 4)) := by
  simp only [questB, show isW "wrong" (.str "cells") = false by decide +kernel, show isW "meets" (.str "cells") = false by decide +kernel, show isW "take" (.str "cells") = false by decide +kernel, show isW "free" (.str "cells") = false by decide +kernel, show isW "cells" (.str "cells") = true by decide +kernel, Bool.false_eq_true, if_false, Bool.true_and]
variable {st : Sto} {k : Int} {ms : List (List Int)}
end Law
end
section
set_option maxHeartbeats 2000000
namespace Law
open PySem L2 MK
local macro_rules | `(tactic| walk_at "mk1") => `(tactic| first
  | with_reducible refine Rule.ok ?_ | ((with_reducible refine' we_var ?hh ?_); (case hh => rfl)) | with_reducible refine eq_and rfl ?_ | ((with_reducible refine len_and ?hh ?_); (case hh => simp; done)) | with_reducible refine o_mod (by omega) ?_ | with_reducible refine o_div (by omega) ?_
  | with_reducible refine o_mul (by omega) (by omega) ?_ | ((with_reducible refine' o_ixC ?hh ?h2 ?_); (case hh => assumption); (case h2 => rfl)) | ((with_reducible refine' o_ixS ?hh ?_); (case hh => assumption)) | ((with_reducible refine' o_ixT ?hh ?_); (case hh => assumption))
  | ((with_reducible refine' o_ixL ?hh ?_); (case hh => assumption)) | ((with_reducible refine' o_ixT ?hh ?_); (case hh => rfl)) | ((with_reducible refine' o_ixL ?hh ?_); (case hh => rfl)) | with_reducible refine o_pow (by decide) (by decide) ?_
  | ((with_reducible refine' we_lenC ?hh ?_); (case hh => assumption)) | ((with_reducible refine' we_tupleC ?hh ?_); (case hh => assumption)) | (refine way_t rfl ?_) | (refine way_f rfl ?_) | ((refine' Exists.intro _ (And.intro ?hh ?_)); (case hh => rfl)))
local macro_rules | `(tactic| walk_at "mk") => `(tactic| repeat walk_at "mk1")
def wordsL : List Str := ["wrong", "meets", "take", "free", "cells", "strange", "safe", "lost", "fails"]
theorem words_ok : ∀ x ∈ wordsL, PyData.strOk x = true ∧ x.length ≤ 100 ∧ PyData.strOk (x ++ ("b" : Str)) = true ∧ PyData.strOk (cutS x (some 1) none) = true ∧ PyData.strOk (("a" : Str) ++ x) = true := by decide +kernel
inductive Leaf : IV → Prop
  | int (i : Int) (h : (-1 ≤ i ∧ i ≤ 100) ∨ i = 1000000000) : Leaf (.int i)
  | str (x : Str) (h : x ∈ wordsL) : Leaf (.str x)
def TreeW : Nat → IV → Prop
  | 0, v => Leaf v
  | d + 1, v => Leaf v ∨ ∃ l, v = .tup l ∧ l.length ≤ 100 ∧ ∀ x ∈ l, TreeW d x
theorem Leaf.cmpb {d : Nat} {v : IV} (h : Leaf v) : cmpb d v = true := by
  cases h with
  | int i h => cases d <;> rfl
  | str x h => exact cmpb_str (words_ok x h).1
theorem TreeW.cmpb : ∀ {d : Nat} {v : IV}, TreeW d v → cmpb d v = true
  | 0, v, h => Leaf.cmpb h
  | d + 1, v, h => by
    rcases h with h | ⟨l, rfl, h1, h2⟩
    · exact h.cmpb
    · exact cmpb_tup.mpr ⟨by omega, fun x hx => (h2 x hx).cmpb⟩
theorem TreeW.tup {d : Nat} {l : List IV} (h1 : l.length ≤ 100) (h2 : ∀ x ∈ l, TreeW d x) : TreeW (d + 1) (.tup l) := .inr ⟨l, rfl, h1, h2⟩
end Law
end
section
set_option maxHeartbeats 2000000
namespace Law
open PySem L2 MK
local macro_rules | `(tactic| walk_at "mk1") => `(tactic| first
  | with_reducible refine Rule.ok ?_ | ((with_reducible refine' we_var ?hh ?_); (case hh => rfl)) | with_reducible refine eq_and rfl ?_ | ((with_reducible refine len_and ?hh ?_); (case hh => simp; done)) | with_reducible refine o_mod (by omega) ?_ | with_reducible refine o_div (by omega) ?_
  | with_reducible refine o_mul (by omega) (by omega) ?_ | ((with_reducible refine' o_ixC ?hh ?h2 ?_); (case hh => assumption); (case h2 => rfl)) | ((with_reducible refine' o_ixS ?hh ?_); (case hh => assumption)) | ((with_reducible refine' o_ixT ?hh ?_); (case hh => assumption))
  | ((with_reducible refine' o_ixL ?hh ?_); (case hh => assumption)) | ((with_reducible refine' o_ixT ?hh ?_); (case hh => rfl)) | ((with_reducible refine' o_ixL ?hh ?_); (case hh => rfl)) | with_reducible refine o_pow (by decide) (by decide) ?_
  | ((with_reducible refine' we_lenC ?hh ?_); (case hh => assumption)) | ((with_reducible refine' we_tupleC ?hh ?_); (case hh => assumption)) | (refine way_t rfl ?_) | (refine way_f rfl ?_) | ((refine' Exists.intro _ (And.intro ?hh ?_)); (case hh => rfl)))
local macro_rules | `(tactic| walk_at "mk") => `(tactic| repeat walk_at "mk1")
def VD (d : Nat) (l : List IV) : Prop := ∀ v ∈ l, cmpb d v = true
theorem VD.app {d : Nat} {l m : List IV} (h : VD d l) (hm : VD d m) : VD d (l ++ m) := fun v hv => (List.mem_append.mp hv).elim (h v) (hm v)
theorem VD.pure {d : Nat} {l : List IV} (h : VD d l) : pureL l = true := datL_pure _ (cmpbL_dat d _ (cmpbL_iff.mpr h))
theorem VD.tup {d : Nat} {l : List IV} (hl : l.length ≤ 1000) (h : VD d l) : cmpb (d + 1) (.tup l) = true := cmpb_tup.mpr ⟨by omega, h⟩
theorem VD.lst {d : Nat} {l : List IV} (hl : l.length ≤ 1000) (h : VD d l) : cmpb (d + 1) (.lst l) = true := cmpb_lst.mpr ⟨by omega, h⟩
def VT (d : Nat) (l : List IV) : Prop := ∀ v ∈ l, TreeW d v
theorem VT.app {d : Nat} {l m : List IV} (h : VT d l) (hm : VT d m) : VT d (l ++ m) := fun v hv => (List.mem_append.mp hv).elim (h v) (hm v)
theorem VT.tup {d : Nat} {l : List IV} (hl : l.length ≤ 100) (h : VT d l) : TreeW (d + 1) (.tup l) := TreeW.tup hl h
theorem VT.vd {d e : Nat} {l : List IV} (h : VT d l) (hd : d ≤ e) : VD e l := fun v hv => cmpb_up d e _ hd (h v hv).cmpb
variable {st : Sto} {k : Int} {ms : List (List Int)}
end Law
end
section
set_option maxHeartbeats 2000000
namespace Law
open PySem L2 MK
local macro_rules | `(tactic| walk_at "mk1") => `(tactic| first
  | with_reducible refine Rule.ok ?_ | ((with_reducible refine' we_var ?hh ?_); (case hh => rfl)) | with_reducible refine eq_and rfl ?_ | ((with_reducible refine len_and ?hh ?_); (case hh => simp; done)) | with_reducible refine o_mod (by omega) ?_ | with_reducible refine o_div (by omega) ?_
  | with_reducible refine o_mul (by omega) (by omega) ?_ | ((with_reducible refine' o_ixC ?hh ?h2 ?_); (case hh => assumption); (case h2 => rfl)) | ((with_reducible refine' o_ixS ?hh ?_); (case hh => assumption)) | ((with_reducible refine' o_ixT ?hh ?_); (case hh => assumption))
  | ((with_reducible refine' o_ixL ?hh ?_); (case hh => assumption)) | ((with_reducible refine' o_ixT ?hh ?_); (case hh => rfl)) | ((with_reducible refine' o_ixL ?hh ?_); (case hh => rfl)) | with_reducible refine o_pow (by decide) (by decide) ?_
  | ((with_reducible refine' we_lenC ?hh ?_); (case hh => assumption)) | ((with_reducible refine' we_tupleC ?hh ?_); (case hh => assumption)) | (refine way_t rfl ?_) | (refine way_f rfl ?_) | ((refine' Exists.intro _ (And.intro ?hh ?_)); (case hh => rfl)))
local macro_rules | `(tactic| walk_at "mk") => `(tactic| repeat walk_at "mk1")
variable {st : Sto} {k : Int} {ms : List (List Int)} {ks os bs : List Int} {p : IV}
theorem o_yes {x : Str} {Q : IV → Prop} (hx : PyData.strOk x = true) (q : Q (.bl true)) : ∃ v, eqI st (.str x) (.str x) = some v ∧ Q v := o_eqW (cmpb_str hx) hx (by rw [show isW x (.str x) = true from beq_self_eq_true x]; exact q)
theorem o_no {x y : Str} {Q : IV → Prop} (hx : PyData.strOk x = true) (hy : PyData.strOk y = true) (h : (x == y) = false) (q : Q (.bl false)) : ∃ v, eqI st (.str x) (.str y) = some v ∧ Q v := o_eqW (cmpb_str hx) hy (by rw [show isW y (.str x) = false from h]; exact q)
end Law
end
section
set_option maxHeartbeats 2000000
namespace Law
open PySem L2 MK
local macro_rules | `(tactic| walk_at "mk1") => `(tactic| first
  | with_reducible refine Rule.ok ?_ | ((with_reducible refine' we_var ?hh ?_); (case hh => rfl)) | with_reducible refine eq_and rfl ?_ | ((with_reducible refine len_and ?hh ?_); (case hh => simp; done)) | with_reducible refine o_mod (by omega) ?_ | with_reducible refine o_div (by omega) ?_
  | with_reducible refine o_mul (by omega) (by omega) ?_ | ((with_reducible refine' o_ixC ?hh ?h2 ?_); (case hh => assumption); (case h2 => rfl)) | ((with_reducible refine' o_ixS ?hh ?_); (case hh => assumption)) | ((with_reducible refine' o_ixT ?hh ?_); (case hh => assumption))
  | ((with_reducible refine' o_ixL ?hh ?_); (case hh => assumption)) | ((with_reducible refine' o_ixT ?hh ?_); (case hh => rfl)) | ((with_reducible refine' o_ixL ?hh ?_); (case hh => rfl)) | with_reducible refine o_pow (by decide) (by decide) ?_
  | ((with_reducible refine' we_lenC ?hh ?_); (case hh => assumption)) | ((with_reducible refine' we_tupleC ?hh ?_); (case hh => assumption)) | (refine way_t rfl ?_) | (refine way_f rfl ?_) | ((refine' Exists.intro _ (And.intro ?hh ?_)); (case hh => rfl)))
local macro_rules | `(tactic| walk_at "mk") => `(tactic| repeat walk_at "mk1")
inductive Quest (k : Int) (ms : List (List Int)) : IV → Prop
  | wrong (ks : List Int) (ha : Asc ms.length ks) : Quest k ms (.tup [.str "wrong", tupI ks])
  | meets (ks os : List Int) (ha : Asc ms.length ks) (hb : Asc ms.length os) : Quest k ms (.tup [.str "meets", tupI ks, tupI os])
  | take (ks : List Int) (i : Int) (bs : List Int) (ha : Asc ms.length ks) (hi : i ∈ ks) (hb : Asc k bs) (hc : ∀ c ∈ bs, c ∈ getM ms i) : Quest k ms (.tup [.str "take", tupI ks, .int i, tupI bs])
  | free (r : Nat) (hr : r ≤ ms.length) : Quest k ms (.tup [.str "free", .int r])
  | cells (h4 : ms.length ≤ 4) : Quest k ms (.tup [.str "cells"])
variable {st : Sto} {k : Int} {ms : List (List Int)} {ks os bs : List Int} {p : IV}
theorem Quest.is {v : IV} (h : Quest k ms v) : questB k ms v = true := by
  cases h with
  | wrong ks ha =>
    rw [quest_wrong]
    exact ha.is
  | meets ks os ha hb =>
    rw [quest_meets]
    simp only [qMeets, show isAsc ms.length (tupI ks) = true from ha.is, show isAsc ms.length (tupI os) = true from hb.is, Bool.and_self]
  | take ks i bs ha hi hb hc =>
    rw [quest_take]
    show takeB k ms (tupI ks) (.int i) (tupI bs) = true
    rw [take_ints ha hb, decide_eq_true hi, Bool.true_and, List.all_eq_true]
    exact fun c h => decide_eq_true (hc c h)
  | free r hr =>
    rw [quest_free]
    simp [qFree, isIn]; omega
  | cells h4 =>
    rw [quest_cells]
    rw [decide_eq_true h4]
    rfl
end Law
end
section
set_option maxHeartbeats 2000000
namespace Law
open PySem L2 MK
local macro_rules | `(tactic| walk_at "mk1") => `(tactic| first
  | with_reducible refine Rule.ok ?_ | ((with_reducible refine' we_var ?hh ?_); (case hh => rfl)) | with_reducible refine eq_and rfl ?_ | ((with_reducible refine len_and ?hh ?_); (case hh => simp; done)) | with_reducible refine o_mod (by omega) ?_ | with_reducible refine o_div (by omega) ?_
  | with_reducible refine o_mul (by omega) (by omega) ?_ | ((with_reducible refine' o_ixC ?hh ?h2 ?_); (case hh => assumption); (case h2 => rfl)) | ((with_reducible refine' o_ixS ?hh ?_); (case hh => assumption)) | ((with_reducible refine' o_ixT ?hh ?_); (case hh => assumption))
  | ((with_reducible refine' o_ixL ?hh ?_); (case hh => assumption)) | ((with_reducible refine' o_ixT ?hh ?_); (case hh => rfl)) | ((with_reducible refine' o_ixL ?hh ?_); (case hh => rfl)) | with_reducible refine o_pow (by decide) (by decide) ?_
  | ((with_reducible refine' we_lenC ?hh ?_); (case hh => assumption)) | ((with_reducible refine' we_tupleC ?hh ?_); (case hh => assumption)) | (refine way_t rfl ?_) | (refine way_f rfl ?_) | ((refine' Exists.intro _ (And.intro ?hh ?_)); (case hh => rfl)))
local macro_rules | `(tactic| walk_at "mk") => `(tactic| repeat walk_at "mk1")
theorem ite_joinP {b : Bool} {t f : ME} {ls : MK.Loc} {st : Sto} {E : EX} {C : IV → Sto → Prop} (J : IV → Sto → Prop) (ht : b = true → we (t ls) st E J) (hf : b = false → we (f ls) st E J) (k : ∀ v st1, J v st1 → C v st1) :
    (b = true → we (t ls) st E C) ∧ (b = false → we (f ls) st E C) := ⟨fun h => we_mono (ht h) k, fun h => we_mono (hf h) k⟩
variable {st : Sto} {k : Int} {ms : List (List Int)} {ks os bs : List Int} {p : IV}
end Law
end
section
set_option maxHeartbeats 2000000
namespace Law
open PySem L2 MK
local macro_rules | `(tactic| walk_at "mk1") => `(tactic| first
  | with_reducible refine Rule.ok ?_ | ((with_reducible refine' we_var ?hh ?_); (case hh => rfl)) | with_reducible refine eq_and rfl ?_ | ((with_reducible refine len_and ?hh ?_); (case hh => simp; done)) | with_reducible refine o_mod (by omega) ?_ | with_reducible refine o_div (by omega) ?_
  | with_reducible refine o_mul (by omega) (by omega) ?_ | ((with_reducible refine' o_ixC ?hh ?h2 ?_); (case hh => assumption); (case h2 => rfl)) | ((with_reducible refine' o_ixS ?hh ?_); (case hh => assumption)) | ((with_reducible refine' o_ixT ?hh ?_); (case hh => assumption))
  | ((with_reducible refine' o_ixL ?hh ?_); (case hh => assumption)) | ((with_reducible refine' o_ixT ?hh ?_); (case hh => rfl)) | ((with_reducible refine' o_ixL ?hh ?_); (case hh => rfl)) | with_reducible refine o_pow (by decide) (by decide) ?_
  | ((with_reducible refine' we_lenC ?hh ?_); (case hh => assumption)) | ((with_reducible refine' we_tupleC ?hh ?_); (case hh => assumption)) | (refine way_t rfl ?_) | (refine way_f rfl ?_) | ((refine' Exists.intro _ (And.intro ?hh ?_)); (case hh => rfl)))
local macro_rules | `(tactic| walk_at "mk") => `(tactic| repeat walk_at "mk1")
def CP (l : List IV) : Prop := ∀ v ∈ l, ∃ c p, v = .tup [c, p] ∧ cmpb 40 c = true ∧ cmpb 30 p = true
theorem CP.vd {l : List IV} (h : CP l) : VD 41 l := fun v hv => by
  obtain ⟨c, p, rfl, hc, hp⟩ := h v hv
  refine cmpb_tup.mpr ⟨by simp, fun w hw => ?_⟩
  simp only [List.mem_cons, List.not_mem_nil, or_false] at hw
  rcases hw with rfl | rfl
  · exact hc
  · exact cmpb_up 30 40 _ (by decide) hp
theorem CP.one {c p : IV} (hc : cmpb 40 c = true) (hp : cmpb 30 p = true) : CP [.tup [c, p]] := fun v hv => ⟨c, p, List.mem_singleton.mp hv, hc, hp⟩
theorem CP.app {l m : List IV} (h : CP l) (hm : CP m) : CP (l ++ m) := fun v hv => (List.mem_append.mp hv).elim (h v) (hm v)
theorem pair_pure {c p : IV} (hc : cmpb 40 c = true) (hp : cmpb 30 p = true) : (IV.tup [c, p]).pure = true := dat_pure _ (cmpb_dat 41 _ ((CP.one hc hp).vd _ (List.mem_singleton.mpr rfl)))
variable {st : Sto} {k : Int} {ms : List (List Int)}
def Four (C : List IV) : Prop := ∀ i : Int, 0 ≤ i → i < 4 → ∃ l, atI C i = some (.tup l) ∧ TreeW 2 (.tup l) ∧ l.length ≤ 100
structure SpOk (bx j7 j8 j22 : Nat) (C Pp : List IV) (m : Nat) (s : Sto) : Prop where
  box : BoxAt s bx
  e7 : s[j7]? = some (.lst C)
  e8 : s[j8]? = some (.lst Pp)
  e22 : ∃ L, s[j22]? = some (.lst L) ∧ CP L ∧ L.length ≤ m
  n8 : j22 ≠ j8
  n7 : j22 ≠ j7
  b7 : bx ≠ j7
  b8 : bx ≠ j8
  b22 : bx ≠ j22
theorem SpOk.add {bx j7 j8 j22 : Nat} {C Pp : List IV} {m : Nat} {s : Sto} {c p : IV} {E : EX} {Q : IV → Sto → Prop} (h : SpOk bx j7 j8 j22 C Pp m s) (hm : m ≤ 10000) (hc : cmpb 40 c = true) (hp : cmpb 30 p = true) (q : ∀ s', SpOk bx j7 j8 j22 C Pp (m + 1) s' → Q .non s') : we (appM (.cell j22) [.tup [c, p]]) s E Q := by
  obtain ⟨L, e, h1, h2⟩ := h.e22
  refine we_app e (pair_pure hc hp) (by omega) (q _ ⟨h.box.set (Ne.symm h.b22), ?_, ?_, ⟨_, set_get e, h1.app (CP.one hc hp), by simp; omega⟩, h.n8, h.n7, h.b7, h.b8, h.b22⟩)
  · rw [List.getElem?_set_ne h.n7]; exact h.e7
  · rw [List.getElem?_set_ne h.n8]; exact h.e8
end Law
end
section
set_option maxHeartbeats 2000000
namespace Law
open PySem L2 MK
local macro_rules | `(tactic| walk_at "mk1") => `(tactic| first
  | with_reducible refine Rule.ok ?_ | ((with_reducible refine' we_var ?hh ?_); (case hh => rfl)) | with_reducible refine eq_and rfl ?_ | ((with_reducible refine len_and ?hh ?_); (case hh => simp; done)) | with_reducible refine o_mod (by omega) ?_ | with_reducible refine o_div (by omega) ?_
  | with_reducible refine o_mul (by omega) (by omega) ?_ | ((with_reducible refine' o_ixC ?hh ?h2 ?_); (case hh => assumption); (case h2 => rfl)) | ((with_reducible refine' o_ixS ?hh ?_); (case hh => assumption)) | ((with_reducible refine' o_ixT ?hh ?_); (case hh => assumption))
  | ((with_reducible refine' o_ixL ?hh ?_); (case hh => assumption)) | ((with_reducible refine' o_ixT ?hh ?_); (case hh => rfl)) | ((with_reducible refine' o_ixL ?hh ?_); (case hh => rfl)) | with_reducible refine o_pow (by decide) (by decide) ?_
  | ((with_reducible refine' we_lenC ?hh ?_); (case hh => assumption)) | ((with_reducible refine' we_tupleC ?hh ?_); (case hh => assumption)) | (refine way_t rfl ?_) | (refine way_f rfl ?_) | ((refine' Exists.intro _ (And.intro ?hh ?_)); (case hh => rfl)))
local macro_rules | `(tactic| walk_at "mk") => `(tactic| repeat walk_at "mk1")
theorem atI_app {l m : List IV} {i : Int} {v : IV} (h0 : 0 ≤ i) (h : atI l i = some v) : atI (l ++ m) i = some v := by
  unfold atI ixN at h
  rw [if_pos h0] at h
  by_cases h1 : i.toNat < l.length
  · refine atI_get h0 ?_
    rw [List.getElem?_append_left h1]
    rw [if_pos (by omega)] at h
    exact h
  · rw [if_neg (by omega)] at h
    cases h
theorem Four.app {C R : List IV} (h : Four C) : Four (C ++ R) := fun i h0 h4 => by
  obtain ⟨l, e, t, z⟩ := h i h0 h4
  exact ⟨l, atI_app h0 e, t, z⟩
variable {st : Sto} {k : Int} {ms : List (List Int)} {ks os bs : List Int} {p : IV}
end Law
end
section
set_option maxHeartbeats 2000000
namespace Law
open PySem L2 MK
local macro_rules | `(tactic| walk_at "mk1") => `(tactic| first
  | with_reducible refine Rule.ok ?_ | ((with_reducible refine' we_var ?hh ?_); (case hh => rfl)) | with_reducible refine eq_and rfl ?_ | ((with_reducible refine len_and ?hh ?_); (case hh => simp; done)) | with_reducible refine o_mod (by omega) ?_ | with_reducible refine o_div (by omega) ?_
  | with_reducible refine o_mul (by omega) (by omega) ?_ | ((with_reducible refine' o_ixC ?hh ?h2 ?_); (case hh => assumption); (case h2 => rfl)) | ((with_reducible refine' o_ixS ?hh ?_); (case hh => assumption)) | ((with_reducible refine' o_ixT ?hh ?_); (case hh => assumption))
  | ((with_reducible refine' o_ixL ?hh ?_); (case hh => assumption)) | ((with_reducible refine' o_ixT ?hh ?_); (case hh => rfl)) | ((with_reducible refine' o_ixL ?hh ?_); (case hh => rfl)) | with_reducible refine o_pow (by decide) (by decide) ?_
  | ((with_reducible refine' we_lenC ?hh ?_); (case hh => assumption)) | ((with_reducible refine' we_tupleC ?hh ?_); (case hh => assumption)) | (refine way_t rfl ?_) | (refine way_f rfl ?_) | ((refine' Exists.intro _ (And.intro ?hh ?_)); (case hh => rfl)))
local macro_rules | `(tactic| walk_at "mk") => `(tactic| repeat walk_at "mk1")
theorem VD.cut {d : Nat} {l : List IV} (h : VD d l) (lo hi : Option Int) : VD d (cutI l lo hi) ∧ (cutI l lo hi).length ≤ l.length := by
  have z : OkL d l.length l := ⟨Nat.le_refl _, h⟩
  exact ⟨(z.cut lo hi).2, (z.cut lo hi).1⟩
variable {st : Sto} {k : Int} {ms : List (List Int)} {ks os bs : List Int} {p : IV}
end Law
end
section
set_option maxHeartbeats 2000000
namespace Law
open PySem L2 MK
local macro_rules | `(tactic| walk_at "mk1") => `(tactic| first
  | with_reducible refine Rule.ok ?_ | ((with_reducible refine' we_var ?hh ?_); (case hh => rfl)) | with_reducible refine eq_and rfl ?_ | ((with_reducible refine len_and ?hh ?_); (case hh => simp; done)) | with_reducible refine o_mod (by omega) ?_ | with_reducible refine o_div (by omega) ?_
  | with_reducible refine o_mul (by omega) (by omega) ?_ | ((with_reducible refine' o_ixC ?hh ?h2 ?_); (case hh => assumption); (case h2 => rfl)) | ((with_reducible refine' o_ixS ?hh ?_); (case hh => assumption)) | ((with_reducible refine' o_ixT ?hh ?_); (case hh => assumption))
  | ((with_reducible refine' o_ixL ?hh ?_); (case hh => assumption)) | ((with_reducible refine' o_ixT ?hh ?_); (case hh => rfl)) | ((with_reducible refine' o_ixL ?hh ?_); (case hh => rfl)) | with_reducible refine o_pow (by decide) (by decide) ?_
  | ((with_reducible refine' we_lenC ?hh ?_); (case hh => assumption)) | ((with_reducible refine' we_tupleC ?hh ?_); (case hh => assumption)) | (refine way_t rfl ?_) | (refine way_f rfl ?_) | ((refine' Exists.intro _ (And.intro ?hh ?_)); (case hh => rfl)))
local macro_rules | `(tactic| walk_at "mk") => `(tactic| repeat walk_at "mk1")
def dF (k : Int) (ms : List (List Int)) (q : Int) : List (Str × IV) := [("marking", objM k ms), ("watched", .tup []), ("many", .int q), ("_kept", .tup []), ("_words", .tup [])]
def dL (A B : List IV) : List (Str × List IV) := [("_ahead", A), ("_behind", B)]
abbrev dC (k : Int) (ms : List (List Int)) (q : Int) (A B : List IV) : CV := .own "Desk" (dF k ms q) (dL A B)
variable {k k0 q : Int} {ms ms0 : List (List Int)} {A B : List IV} {n : Nat} {st : Sto} {E : EX}
theorem dF_1 : (dF k ms q).lookup ("marking" : Str) = some (objM k ms) := rfl
theorem dF_2 : (dF k ms q).lookup ("watched" : Str) = some (.tup []) := rfl
theorem dF_3 : (dF k ms q).lookup ("many" : Str) = some (.int q) := rfl
theorem dF_4 : (dF k ms q).lookup ("_kept" : Str) = some (.tup []) := rfl
theorem dF_5 : (dF k ms q).lookup ("_words" : Str) = some (.tup []) := rfl
theorem dL_1 : (dL A B).lookup ("_ahead" : Str) = some A := rfl
theorem dL_2 : (dL A B).lookup ("_behind" : Str) = some B := rfl
theorem objM_pure (k : Int) (ms : List (List Int)) : (objM k ms).pure = true := by
  have h : ∀ l : List (List Int), pureL (l.map tupI) = true := fun l => by
    induction l with
    | nil => rfl
    | cons a l ih =>
      show ((tupI a).pure && pureL (l.map tupI)) = true
      rw [ih, dat_pure _ (dat_tupI a)]
      rfl
  have := h ms
  simp [objM, mkObj, IV.pure, pureF, this]
theorem run_to {α : Type} {m : M α} {st s' : Sto} {a : α} (h : we m st noX fun v st' => v = a ∧ st' = s') : m st = some (.val a, s') := by
  obtain ⟨r, st', e, q⟩ := h
  cases r with
  | val v => obtain ⟨rfl, rfl⟩ := q; exact e
  | exc c f v => exact q.elim
theorem set_at {x : CV} (h : n < st.length) : (st.set n x)[n]? = some x := by rw [List.getElem?_set]; simp [h]
theorem lt_at {x : CV} (h : st[n]? = some x) : n < st.length := (List.getElem?_eq_some_iff.mp h).1
theorem ow_fld {c f : Str} {fs : List (Str × IV)} {lls : List (Str × List IV)} {w : IV} {Q : IV → Prop} (e : st[n]? = some (.own c fs lls)) (h : fs.lookup f = some w) (q : Q w) :
    ∃ n' fs lls w, (IV.cell n) = .cell n' ∧ st[n']? = some (.own c fs lls) ∧ fs.lookup f = some w ∧ Q w := ⟨_, _, _, _, rfl, e, h, q⟩
theorem ow_len {c f : Str} {fs : List (Str × IV)} {lls : List (Str × List IV)} {l : List IV} {Q : List IV → Prop} (e : st[n]? = some (.own c fs lls)) (h : lls.lookup f = some l) (q : Q l) :
    ∃ n' fs lls l, (IV.cell n) = .cell n' ∧ st[n']? = some (.own c fs lls) ∧ lls.lookup f = some l ∧ Q l := ⟨_, _, _, _, rfl, e, h, q⟩
theorem putL_1 {X : List IV} : putA "_ahead" X (dL A B) = dL X B := rfl
theorem putL_2 {X : List IV} : putA "_behind" X (dL A B) = dL A X := rfl
theorem compL_nil0 {ls : MK.Loc} {t : MG} {tc : MK.MT} {m : ME} {Q : List IV → Sto → Prop} (q : Q [] st) : we (compL t tc m [] none ls []) st noX Q := ⟨.val [], st, by unfold compL; rw [if_pos (show srcOk none [] st from trivial)], q⟩
theorem sz : (dF k ms q).length + (dL A B).length < 1000 := (by decide : 5 + 2 < 1000)
theorem put_1 : putI "marking" (objM k ms) (dF k0 ms0 q) = dF k ms q := rfl
theorem put_2 : putI "watched" (.tup []) (dF k0 ms0 q) = dF k0 ms0 q := rfl
theorem put_3 {r : Int} : putI "many" (.int r) (dF k0 ms0 q) = dF k0 ms0 r := rfl
theorem put_4 : putI "_kept" (.tup []) (dF k0 ms0 q) = dF k0 ms0 q := rfl
theorem put_5 : putI "_words" (.tup []) (dF k0 ms0 q) = dF k0 ms0 q := rfl
theorem desk_rules : True := (fun _ _ _ _ _ _ _ _ _ => trivial) @ow_fld @ow_len @dF_1 @dF_2 @dF_3 @dF_4 @dF_5 @dL_1 @dL_2
end Law
end
section
set_option maxHeartbeats 2000000
namespace Law
open PySem L2 MK
local macro_rules | `(tactic| walk_at "mk1") => `(tactic| first
  | with_reducible refine Rule.ok ?_ | ((with_reducible refine' ow_fld ?hh ?h2 ?_); (case hh => first | assumption | (exact set_at (by first | assumption | (simp only [List.length_set]; assumption)))); (case h2 => first | exact dF_1 | exact dF_2 | exact dF_3 | exact dF_4 | exact dF_5))
  | ((with_reducible refine' ow_len ?hh ?h2 ?_); (case hh => first | assumption | (exact set_at (by first | assumption | (simp only [List.length_set]; assumption)))); (case h2 => first | exact dL_1 | exact dL_2)) | ((with_reducible refine' we_var ?hh ?_); (case hh => rfl))
  | with_reducible refine eq_and rfl ?_ | ((with_reducible refine len_and ?hh ?_); (case hh => simp; done)) | with_reducible refine o_mod (by omega) ?_ | with_reducible refine o_div (by omega) ?_ | with_reducible refine o_mul (by omega) (by omega) ?_
  | ((with_reducible refine' o_ixC ?hh ?h2 ?_); (case hh => assumption); (case h2 => rfl)) | ((with_reducible refine' o_ixS ?hh ?_); (case hh => assumption)) | ((with_reducible refine' o_ixT ?hh ?_); (case hh => assumption)) | ((with_reducible refine' o_ixL ?hh ?_); (case hh => assumption))
  | ((with_reducible refine' o_ixT ?hh ?_); (case hh => rfl)) | ((with_reducible refine' o_ixL ?hh ?_); (case hh => rfl)) | with_reducible refine o_pow (by decide) (by decide) ?_ | ((with_reducible refine' we_lenC ?hh ?_); (case hh => assumption))
  | ((with_reducible refine' we_tupleC ?hh ?_); (case hh => assumption)) | (refine way_t rfl ?_) | (refine way_f rfl ?_) | ((refine' Exists.intro _ (And.intro ?hh ?_)); (case hh => rfl)))
local macro_rules | `(tactic| walk_at "mk") => `(tactic| repeat walk_at "mk1")
variable {k k0 q : Int} {ms ms0 : List (List Int)} {A B : List IV} {n : Nat} {st : Sto} {E : EX}
theorem r_bec (e : st[n]? = some (dC k0 ms0 q A B)) : g_Desk_become [.cell n, objM k ms, .tup []] st = some (.val .non, st.set n (dC k ms A.length A B)) := by
  have hn := lt_at e
  have _ := desk_rules
  refine run_to (we_def (ls := [some (.cell n), some (objM k ms), some (.tup []), none, none, none, none, none]) rfl ?_)
  unfold m_Desk_become
  walk_at "mk"
  refine compL_nil0 ⟨by decide, ?_⟩
  walk_at "mk"
  refine ⟨n, _, _, rfl, e, (objM_pure _ _), sz, rfl, ?_⟩
  rw [put_1]
  walk_at "mk"
  refine ⟨n, _, _, rfl, (set_at hn), rfl, sz, rfl, ?_⟩
  rw [put_2]
  rw [List.set_set]
  walk_at "mk"
  refine ⟨n, _, _, rfl, (set_at hn), rfl, sz, rfl, ?_⟩
  rw [put_3]
  rw [List.set_set]
  walk_at "mk"
  refine compL_nil0 ⟨by decide, ?_⟩
  walk_at "mk"
  refine ⟨n, _, _, rfl, (set_at hn), rfl, sz, rfl, ?_⟩
  rw [put_4]
  rw [List.set_set]
  walk_at "mk"
  refine compL_nil0 ⟨by decide, ?_⟩
  walk_at "mk"
  refine ⟨n, _, _, rfl, (set_at hn), rfl, sz, rfl, ?_⟩
  rw [put_5]
  rw [List.set_set]
  walk_at "mk"
  exact close_len (by rw [List.length_set]) ⟨rfl, rfl⟩
def pD (k : Int) (ms : List (List Int)) : IV := .tup [objM k ms, .tup []]
theorem r_do (e : st[n]? = some (dC k0 ms0 q A B)) (hA : A.length < 16777216) : g_Desk_do [.cell n, objM k ms, .tup []] st = some (.val .non, st.set n (dC k ms (A.length + 1 : Nat) (A ++ [pD k0 ms0]) [])) := by
  have hn := lt_at e
  refine run_to (we_def (ls := [some (.cell n), some (objM k ms), some (.tup [])]) rfl ?_)
  unfold m_Desk_do
  walk_at "mk"
  refine we_appO rfl e dL_1 dF_1 dF_2 hA ?_
  walk_at "mk"
  refine ⟨n, _, _, rfl, set_at hn, sz, rfl, ?_⟩
  rw [List.set_set, putL_1, putL_2]
  walk_at "mk"
  refine ⟨n, _, _, rfl, set_at hn, rfl, rfl, ?_⟩
  walk_at "mk"
  refine ⟨rfl, we_run (r_bec (set_at hn)) ?_⟩
  rw [List.set_set, List.length_append]
  walk_at "mk"
  exact close_len (by rw [List.length_set]) ⟨rfl, rfl⟩
abbrev dN (k0 : Int) (ms0 : List (List Int)) (A : List IV) (k : Int) (ms : List (List Int)) : CV := dC k ms (A.length + 1 : Nat) (A ++ [pD k0 ms0]) []
theorem Mk.isIn (h : Mk k ms) : isIn 1 8 (.int k) = true := by
  have := h.k1
  have := h.k8
  simp [Law.isIn]
  omega
theorem r_dmark (hk : Mk k ms) (e : st[n]? = some (dC k0 ms0 q A B)) (hA : A.length < 16777216) : g_Desk_mark [.cell n, .int k, .tup (ms.map tupI)] st = some (.val .non, st.set n (dN k0 ms0 A k ms)) := by
  have hn := lt_at e
  refine run_to (we_def (ls := [some (.cell n), some (.int k), some (.tup (ms.map tupI))]) rfl ?_)
  unfold m_Desk_mark
  walk_at "mk"
  refine ⟨n, _, _, rfl, e, rfl, rfl, ?_⟩
  walk_at "mk"
  refine we_mk ?_
  walk_at "mk"
  refine ⟨k, _, rfl, cmpb_dat 2 _ hk.cmpb, hk.isIn, hk.marks, ?_⟩
  walk_at "mk"
  refine ⟨rfl, we_run (r_do e hA) ?_⟩
  walk_at "mk"
  exact close_len (by rw [List.length_set]) ⟨rfl, rfl⟩
end Law
end
section
set_option maxHeartbeats 2000000
namespace Law
open PySem L2 MK
local macro_rules | `(tactic| walk_at "mk1") => `(tactic| first
  | with_reducible refine Rule.ok ?_ | ((with_reducible refine' ow_fld ?hh ?h2 ?_); (case hh => first | assumption | (exact set_at (by first | assumption | (simp only [List.length_set]; assumption)))); (case h2 => first | exact dF_1 | exact dF_2 | exact dF_3 | exact dF_4 | exact dF_5))
  | ((with_reducible refine' ow_len ?hh ?h2 ?_); (case hh => first | assumption | (exact set_at (by first | assumption | (simp only [List.length_set]; assumption)))); (case h2 => first | exact dL_1 | exact dL_2)) | ((with_reducible refine' we_var ?hh ?_); (case hh => rfl))
  | with_reducible refine eq_and rfl ?_ | ((with_reducible refine len_and ?hh ?_); (case hh => simp; done)) | with_reducible refine o_mod (by omega) ?_ | with_reducible refine o_div (by omega) ?_ | with_reducible refine o_mul (by omega) (by omega) ?_
  | ((with_reducible refine' o_ixC ?hh ?h2 ?_); (case hh => assumption); (case h2 => rfl)) | ((with_reducible refine' o_ixS ?hh ?_); (case hh => assumption)) | ((with_reducible refine' o_ixT ?hh ?_); (case hh => assumption)) | ((with_reducible refine' o_ixL ?hh ?_); (case hh => assumption))
  | ((with_reducible refine' o_ixT ?hh ?_); (case hh => rfl)) | ((with_reducible refine' o_ixL ?hh ?_); (case hh => rfl)) | with_reducible refine o_pow (by decide) (by decide) ?_ | ((with_reducible refine' we_lenC ?hh ?_); (case hh => assumption))
  | ((with_reducible refine' we_tupleC ?hh ?_); (case hh => assumption)) | (refine way_t rfl ?_) | (refine way_f rfl ?_) | ((refine' Exists.intro _ (And.intro ?hh ?_)); (case hh => rfl)))
local macro_rules | `(tactic| walk_at "mk") => `(tactic| repeat walk_at "mk1")
theorem we_lenM {st : Sto} {E : EX} {Q : IV → Sto → Prop} {k : Int} {ms : List (List Int)} (h : ms.length ≤ 7) (q : Q (.int ms.length) st) : we (lenOM "Marking" g_Marking_len [objM k ms]) st E Q :=
  we_lenO rfl (by have := r_len (st := st) (k := k) (l := ms.map tupI); rw [List.length_map] at this; exact this) ⟨by omega, by omega⟩ q
variable {k k0 q : Int} {ms ms0 : List (List Int)} {A B : List IV} {n : Nat} {st : Sto} {E : EX}
theorem r_item {v : IV} (hl : ms.length ≤ 7) (hv : dat v = true) : g_is_item [objM k ms, v] st = some (.val (.bl (isIn 0 (ms.length - 1) v)), st) := by
  refine run_of (we_def (ls := [some (objM k ms), some v]) rfl ?_)
  unfold m_is_item
  walk_at "mk"
  refine we_lenM hl ?_
  walk_at "mk"
  refine we_run (r_within hv) ?_
  exact close_len rfl ⟨rfl, rfl⟩
theorem r_add {m : List Int} (hk : Mk k (ms ++ [m])) (hm : isMark k (tupI m) = true) (e : st[n]? = some (dC k ms q A B)) (hA : A.length < 16777216) : g_Desk_add [.cell n, tupI m] st = some (.val .non, st.set n (dN k ms A k (ms ++ [m]))) := by
  have hn := lt_at e
  have l7 := hk.l7
  rw [List.length_append, List.length_singleton] at l7
  refine run_to (we_def (ls := [some (.cell n), some (tupI m)]) rfl ?_)
  unfold m_Desk_add
  walk_at "mk"
  refine we_run (r_mark (dat_tupI m)) ?_
  walk_at "mk"
  refine ⟨fun h => by rw [hm] at h; exact absurd h (by decide), fun _ => ?_⟩
  walk_at "mk"
  refine we_lenM (by omega) ?_
  walk_at "mk"
  rw [int_ne (show (ms.length : Int) ≠ 7 by omega)]
  refine ⟨fun h => absurd h (by decide), fun _ => ?_⟩
  walk_at "mk"
  refine ⟨n, _, _, rfl, e, rfl, rfl, ?_⟩
  walk_at "mk"
  refine o_addT (by simp; omega) ?_
  walk_at "mk"
  refine ⟨rfl, ?_⟩
  rw [show ms.map tupI ++ [tupI m] = (ms ++ [m]).map tupI by rw [List.map_append]; rfl]
  refine we_run (r_dmark hk e hA) ?_
  walk_at "mk"
  exact close_len (by rw [List.length_set]) ⟨rfl, rfl⟩
theorem x_add {v : IV} (hv : dat v = true) (hl : ms.length ≤ 7) (h : isMark k v = false ∨ ms.length = 7) (e : st[n]? = some (dC k ms q A B)) : we (g_Desk_add [.cell n, v]) st (exX "InvalidMark" v st) fun _ _ => False := by
  have hn := lt_at e
  refine we_def (ls := [some (.cell n), some v]) rfl ?_
  unfold m_Desk_add
  walk_at "mk"
  refine we_run (r_mark hv) ?_
  walk_at "mk"
  refine ⟨fun h => ?_, fun h1 => ?_⟩
  · walk_at "mk"
    exact .inl ⟨rfl, rfl, rfl, rfl, rfl⟩
  · walk_at "mk"
    refine we_lenM hl ?_
    walk_at "mk"
    have h7 : ms.length = 7 := by
      rcases h with h | h
      · rw [h] at h1; cases h1
      · exact h
    rw [int_eq (show (ms.length : Int) = 7 by omega)]
    refine ⟨fun _ => ?_, fun h => absurd h (by decide)⟩
    walk_at "mk"
    exact .inl ⟨rfl, rfl, rfl, rfl, rfl⟩
def outM (i : Nat) (ms : List (List Int)) : List (List Int) := ms.take i ++ ms.drop (i + 1)
def setM (i : Nat) (m : List Int) (ms : List (List Int)) : List (List Int) := ms.take i ++ [m] ++ ms.drop (i + 1)
theorem r_drop {i : Nat} (hk : Mk k (outM i ms)) (hi : i < ms.length) (hl : ms.length ≤ 7) (e : st[n]? = some (dC k ms q A B)) (hA : A.length < 16777216) : g_Desk_drop [.cell n, .int i] st = some (.val .non, st.set n (dN k ms A k (outM i ms))) := by
  have hn := lt_at e
  have l1 := hk.l1
  refine run_to (we_def (ls := [some (.cell n), some (.int i), none]) rfl ?_)
  unfold m_Desk_drop
  walk_at "mk"
  refine we_run (r_item hl rfl) ?_
  walk_at "mk"
  refine ⟨fun h => absurd h (by simp [isIn]; omega), fun _ => ?_⟩
  walk_at "mk"
  refine we_lenM hl ?_
  walk_at "mk"
  have h1 : ms.length ≠ 1 := by
    simp [outM] at l1
    omega
  rw [int_ne (show (ms.length : Int) ≠ 1 by omega)]
  refine ⟨fun h => absurd h (by decide), fun _ => ?_⟩
  walk_at "mk"
  refine ⟨n, _, _, rfl, e, rfl, rfl, ?_⟩
  walk_at "mk"
  rw [cut_take (by omega), cut_drop (by omega), show ((i : Int) + 1).toNat = i + 1 by omega, show (i : Int).toNat = i by omega]
  refine o_addT (by simp; omega) ?_
  walk_at "mk"
  refine ⟨rfl, ?_⟩
  rw [show (ms.map tupI).take i ++ (ms.map tupI).drop (i + 1) = (outM i ms).map tupI by rw [outM, List.map_append, List.map_take, List.map_drop]]
  refine we_run (r_dmark hk e hA) ?_
  walk_at "mk"
  exact close_len (by rw [List.length_set]) ⟨rfl, rfl⟩
theorem x_drop {v : IV} (hv : dat v = true) (hl : ms.length ≤ 7) (h : isIn 0 (ms.length - 1) v = false) (e : st[n]? = some (dC k ms q A B)) : we (g_Desk_drop [.cell n, v]) st (exX "InvalidItem" v st) fun _ _ => False := by
  have hn := lt_at e
  refine we_def (ls := [some (.cell n), some v, none]) rfl ?_
  unfold m_Desk_drop
  walk_at "mk"
  refine we_run (r_item hl hv) ?_
  walk_at "mk"
  rw [h]
  refine ⟨fun _ => ?_, fun h => absurd h (by decide)⟩
  walk_at "mk"
  exact .inl ⟨rfl, rfl, rfl, rfl, rfl⟩
theorem x_drop1 (hl : ms.length = 1) (e : st[n]? = some (dC k ms q A B)) : we (g_Desk_drop [.cell n, .int 0]) st (fun c f v st' => c = "Undefined" ∧ f = "what" ∧ v = .str "alone" ∧ st' = st) fun _ _ => False := by
  have hn := lt_at e
  refine we_def (ls := [some (.cell n), some (.int 0), none]) rfl ?_
  unfold m_Desk_drop
  walk_at "mk"
  refine we_run (r_item (by omega) rfl) ?_
  walk_at "mk"
  refine ⟨fun h => absurd h (by simp [isIn, hl]), fun _ => ?_⟩
  walk_at "mk"
  refine we_lenM (by omega) ?_
  walk_at "mk"
  rw [int_eq (show (ms.length : Int) = 1 by omega)]
  refine ⟨fun _ => ?_, fun h => absurd h (by decide)⟩
  walk_at "mk"
  exact .inl ⟨rfl, rfl, rfl, rfl, rfl⟩
end Law
end
section
set_option maxHeartbeats 2000000
namespace Law
open PySem L2 MK
local macro_rules | `(tactic| walk_at "mk1") => `(tactic| first
  | with_reducible refine Rule.ok ?_ | ((with_reducible refine' ow_fld ?hh ?h2 ?_); (case hh => first | assumption | (exact set_at (by first | assumption | (simp only [List.length_set]; assumption)))); (case h2 => first | exact dF_1 | exact dF_2 | exact dF_3 | exact dF_4 | exact dF_5))
  | ((with_reducible refine' ow_len ?hh ?h2 ?_); (case hh => first | assumption | (exact set_at (by first | assumption | (simp only [List.length_set]; assumption)))); (case h2 => first | exact dL_1 | exact dL_2)) | ((with_reducible refine' we_var ?hh ?_); (case hh => rfl))
  | with_reducible refine eq_and rfl ?_ | ((with_reducible refine len_and ?hh ?_); (case hh => simp; done)) | with_reducible refine o_mod (by omega) ?_ | with_reducible refine o_div (by omega) ?_ | with_reducible refine o_mul (by omega) (by omega) ?_
  | ((with_reducible refine' o_ixC ?hh ?h2 ?_); (case hh => assumption); (case h2 => rfl)) | ((with_reducible refine' o_ixS ?hh ?_); (case hh => assumption)) | ((with_reducible refine' o_ixT ?hh ?_); (case hh => assumption)) | ((with_reducible refine' o_ixL ?hh ?_); (case hh => assumption))
  | ((with_reducible refine' o_ixT ?hh ?_); (case hh => rfl)) | ((with_reducible refine' o_ixL ?hh ?_); (case hh => rfl)) | with_reducible refine o_pow (by decide) (by decide) ?_ | ((with_reducible refine' we_lenC ?hh ?_); (case hh => assumption))
  | ((with_reducible refine' we_tupleC ?hh ?_); (case hh => assumption)) | (refine way_t rfl ?_) | (refine way_f rfl ?_) | ((refine' Exists.intro _ (And.intro ?hh ?_)); (case hh => rfl)))
local macro_rules | `(tactic| walk_at "mk") => `(tactic| repeat walk_at "mk1")
variable {k k0 q : Int} {ms ms0 : List (List Int)} {A B : List IV} {n : Nat} {st : Sto} {E : EX}
theorem r_turn {i : Nat} {m : List Int} (hk : Mk k (setM i m ms)) (hm : isMark k (tupI m) = true) (hi : i < ms.length) (hl : ms.length ≤ 7) (e : st[n]? = some (dC k ms q A B)) (hA : A.length < 16777216) : g_Desk_turn [.cell n, .int i, tupI m] st = some (.val .non, st.set n (dN k ms A k (setM i m ms))) := by
  have hn := lt_at e
  refine run_to (we_def (ls := [some (.cell n), some (.int i), some (tupI m), none]) rfl ?_)
  unfold m_Desk_turn
  walk_at "mk"
  refine we_run (r_item hl rfl) ?_
  walk_at "mk"
  refine ⟨fun h => absurd h (by simp [isIn]; omega), fun _ => ?_⟩
  walk_at "mk"
  refine we_run (r_mark (dat_tupI m)) ?_
  walk_at "mk"
  refine ⟨fun h => by rw [hm] at h; exact absurd h (by decide), fun _ => ?_⟩
  walk_at "mk"
  refine ⟨n, _, _, rfl, e, rfl, rfl, ?_⟩
  walk_at "mk"
  rw [cut_take (by omega), show (i : Int).toNat = i by omega]
  refine o_addT (by simp; omega) ?_
  walk_at "mk"
  rw [cut_drop (by omega), show ((i : Int) + 1).toNat = i + 1 by omega]
  refine o_addT (by simp; omega) ?_
  walk_at "mk"
  refine ⟨rfl, ?_⟩
  rw [show (ms.map tupI).take i ++ [tupI m] ++ (ms.map tupI).drop (i + 1) = (setM i m ms).map tupI by rw [setM, List.map_append, List.map_append, List.map_take, List.map_drop]; rfl]
  refine we_run (r_dmark hk e hA) ?_
  walk_at "mk"
  exact close_len (by rw [List.length_set]) ⟨rfl, rfl⟩
theorem x_turnI {v w : IV} (hv : dat v = true) (hl : ms.length ≤ 7) (h : isIn 0 (ms.length - 1) v = false) (e : st[n]? = some (dC k ms q A B)) : we (g_Desk_turn [.cell n, v, w]) st (exX "InvalidItem" v st) fun _ _ => False := by
  have hn := lt_at e
  refine we_def (ls := [some (.cell n), some v, some w, none]) rfl ?_
  unfold m_Desk_turn
  walk_at "mk"
  refine we_run (r_item hl hv) ?_
  walk_at "mk"
  rw [h]
  refine ⟨fun _ => ?_, fun h => absurd h (by decide)⟩
  walk_at "mk"
  exact .inl ⟨rfl, rfl, rfl, rfl, rfl⟩
theorem x_turnM {v w : IV} (hv : dat v = true) (hw : dat w = true) (hl : ms.length ≤ 7) (h : isIn 0 (ms.length - 1) v = true) (hm : isMark k w = false) (e : st[n]? = some (dC k ms q A B)) : we (g_Desk_turn [.cell n, v, w]) st (exX "InvalidMark" w st) fun _ _ => False := by
  have hn := lt_at e
  refine we_def (ls := [some (.cell n), some v, some w, none]) rfl ?_
  unfold m_Desk_turn
  walk_at "mk"
  refine we_run (r_item hl hv) ?_
  walk_at "mk"
  rw [h]
  refine ⟨fun h => absurd h (by decide), fun _ => ?_⟩
  walk_at "mk"
  refine we_run (r_mark hw) ?_
  walk_at "mk"
  rw [hm]
  refine ⟨fun _ => ?_, fun h => absurd h (by decide)⟩
  walk_at "mk"
  exact .inl ⟨rfl, rfl, rfl, rfl, rfl⟩
theorem r_dfold (hk : Mk k ms) (he : k % 2 = 0) (e : st[n]? = some (dC k ms q A B)) (hA : A.length < 16777216) : g_Desk_fold [.cell n] st = some (.val .non, st.set n (dN k ms A (k / 2) (ms.map (foldM (k / 2))))) := by
  have hn := lt_at e
  refine run_to (we_def (ls := [some (.cell n)]) rfl ?_)
  unfold m_Desk_fold
  walk_at "mk"
  refine ⟨n, _, _, rfl, e, rfl, rfl, ?_⟩
  walk_at "mk"
  refine we_run (r_folded hk he) ?_
  walk_at "mk"
  refine ⟨rfl, we_run (r_do e hA) ?_⟩
  walk_at "mk"
  exact close_len (by rw [List.length_set]) ⟨rfl, rfl⟩
theorem x_dfold (ho : k % 2 = 1) (e : st[n]? = some (dC k ms q A B)) : we (g_Desk_fold [.cell n]) st (fun c f v st' => c = "Undefined" ∧ f = "what" ∧ v = .str "odd" ∧ st' = st) fun _ _ => False := by
  have hn := lt_at e
  refine we_def (ls := [some (.cell n)]) rfl ?_
  unfold m_Desk_fold
  walk_at "mk"
  refine ⟨n, _, _, rfl, e, rfl, rfl, ?_⟩
  walk_at "mk"
  refine we_monoX (x_folded ho) ?_ fun _ _ h => h.elim
  rintro c f v st' ⟨rfl, rfl, rfl, rfl⟩
  exact .inl ⟨rfl, rfl, rfl, rfl, rfl⟩
end Law
end
section
set_option maxHeartbeats 2000000
namespace Law
open PySem L2 MK
local macro_rules | `(tactic| walk_at "mk1") => `(tactic| first
  | with_reducible refine Rule.ok ?_ | ((with_reducible refine' ow_fld ?hh ?h2 ?_); (case hh => first | assumption | (exact set_at (by first | assumption | (simp only [List.length_set]; assumption)))); (case h2 => first | exact dF_1 | exact dF_2 | exact dF_3 | exact dF_4 | exact dF_5))
  | ((with_reducible refine' ow_len ?hh ?h2 ?_); (case hh => first | assumption | (exact set_at (by first | assumption | (simp only [List.length_set]; assumption)))); (case h2 => first | exact dL_1 | exact dL_2)) | ((with_reducible refine' we_var ?hh ?_); (case hh => rfl))
  | with_reducible refine eq_and rfl ?_ | ((with_reducible refine len_and ?hh ?_); (case hh => simp; done)) | with_reducible refine o_mod (by omega) ?_ | with_reducible refine o_div (by omega) ?_ | with_reducible refine o_mul (by omega) (by omega) ?_
  | ((with_reducible refine' o_ixC ?hh ?h2 ?_); (case hh => assumption); (case h2 => rfl)) | ((with_reducible refine' o_ixS ?hh ?_); (case hh => assumption)) | ((with_reducible refine' o_ixT ?hh ?_); (case hh => assumption)) | ((with_reducible refine' o_ixL ?hh ?_); (case hh => assumption))
  | ((with_reducible refine' o_ixT ?hh ?_); (case hh => rfl)) | ((with_reducible refine' o_ixL ?hh ?_); (case hh => rfl)) | with_reducible refine o_pow (by decide) (by decide) ?_ | ((with_reducible refine' we_lenC ?hh ?_); (case hh => assumption))
  | ((with_reducible refine' we_tupleC ?hh ?_); (case hh => assumption)) | (refine way_t rfl ?_) | (refine way_f rfl ?_) | ((refine' Exists.intro _ (And.intro ?hh ?_)); (case hh => rfl)))
local macro_rules | `(tactic| walk_at "mk") => `(tactic| repeat walk_at "mk1")
theorem atI_last {α : Type} {l : List α} (h : l ≠ []) : atI l (-1) = some (l.getLast h) := by
  have hp := List.length_pos_iff.mpr h
  unfold atI ixN
  rw [if_neg (by omega), if_pos (by omega), Option.bind_some, show (-1 + (l.length : Int)).toNat = l.length - 1 by omega, List.getLast_eq_getElem]
  exact List.getElem?_eq_getElem _
variable {k k0 q : Int} {ms ms0 : List (List Int)} {A B : List IV} {n : Nat} {st : Sto} {E : EX}
theorem r_widen {c : Int} {M : Int} (hk : Mk k ms) (hc' : Mk c ms) (hM : maxL (ms.map fun m => m.getLast!) = some M) (hc : M < c ∧ c ≤ 8) (e : st[n]? = some (dC k ms q A B)) (hA : A.length < 16777216) : g_Desk_widen [.cell n, .int c] st = some (.val .non, st.set n (dN k ms A c ms)) := by
  have hn := lt_at e
  refine run_to (we_def (ls := [some (.cell n), some (.int c), none, none]) rfl ?_)
  unfold m_Desk_widen
  walk_at "mk"
  refine compL_map (as := ms) tupI (fun _ => true) (fun m => .int m.getLast!) trivial (fun m hm => ⟨_, rfl, by walk_at "mk"; exact ⟨rfl, rfl⟩, fun _ => ?_⟩) ?_
  · walk_at "mk"
    have ne := hk.ne m hm
    refine o_ixT (v := .int m.getLast!) ?_ ⟨rfl, rfl⟩
    rw [atI_last (by simp [ne])]
    simp [List.getLast_map, List.getLast!_eq_getLast?_getD, List.getLast?_eq_getLast ne]
  have l7 := hk.l7
  refine ⟨by rw [List.length_map]; exact Nat.le_trans (List.length_filter_le _ _) (by omega), ?_⟩
  rw [List.filter_eq_self.mpr fun _ _ => rfl]
  rw [show ms.map (fun m => IV.int m.getLast!) = (ms.map fun m => m.getLast!).map .int by rw [List.map_map]; rfl]
  walk_at "mk"
  refine we_maxL hM ?_
  walk_at "mk"
  refine we_run (r_within rfl) ?_
  walk_at "mk"
  refine ⟨fun h => absurd h (by simp [isIn]; omega), fun _ => ?_⟩
  walk_at "mk"
  refine ⟨n, _, _, rfl, e, rfl, rfl, ?_⟩
  walk_at "mk"
  refine ⟨rfl, we_run (r_dmark hc' e hA) ?_⟩
  walk_at "mk"
  exact close_len (by rw [List.length_set]) ⟨rfl, rfl⟩
theorem x_widen {M : Int} {v : IV} (hk : Mk k ms) (hM : maxL (ms.map fun m => m.getLast!) = some M) (hv : dat v = true) (hc : isIn (M + 1) 8 v = false) (e : st[n]? = some (dC k ms q A B)) : we (g_Desk_widen [.cell n, v]) st (exX "InvalidNumber" v st) fun _ _ => False := by
  have hn := lt_at e
  refine we_def (ls := [some (.cell n), some v, none, none]) rfl ?_
  unfold m_Desk_widen
  walk_at "mk"
  refine compL_map (as := ms) tupI (fun _ => true) (fun m => .int m.getLast!) trivial (fun m hm => ⟨_, rfl, by walk_at "mk"; exact ⟨rfl, rfl⟩, fun _ => ?_⟩) ?_
  · walk_at "mk"
    have ne := hk.ne m hm
    refine o_ixT (v := .int m.getLast!) ?_ ⟨rfl, rfl⟩
    rw [atI_last (by simp [ne])]
    simp [List.getLast_map, List.getLast!_eq_getLast?_getD, List.getLast?_eq_getLast ne]
  have l7 := hk.l7
  refine ⟨by rw [List.length_map]; exact Nat.le_trans (List.length_filter_le _ _) (by omega), ?_⟩
  rw [List.filter_eq_self.mpr fun _ _ => rfl]
  rw [show ms.map (fun m => IV.int m.getLast!) = (ms.map fun m => m.getLast!).map .int by rw [List.map_map]; rfl]
  walk_at "mk"
  refine we_maxL hM ?_
  walk_at "mk"
  refine we_run (r_within hv) ?_
  walk_at "mk"
  rw [hc]
  refine ⟨fun _ => ?_, fun h => absurd h (by decide)⟩
  walk_at "mk"
  exact .inl ⟨rfl, rfl, rfl, rfl, rfl⟩
theorem r_undo {A0 : List IV} (hA : A = A0 ++ [pD k0 ms0]) (hB : B.length < 16777216) (e : st[n]? = some (dC k ms q A B)) : g_Desk_undo [.cell n] st = some (.val .non, st.set n (dC k0 ms0 A0.length A0 (B ++ [pD k ms]))) := by
  have hn := lt_at e
  refine run_to (we_def (ls := [some (.cell n), none, none]) rfl ?_)
  unfold m_Desk_undo
  walk_at "mk"
  have hl : A.length = A0.length + 1 := by rw [hA]; simp
  rw [int_ne (show (A.length : Int) ≠ 0 by omega)]
  refine ⟨fun h => absurd h (by decide), fun _ => ?_⟩
  walk_at "mk"
  refine we_appO rfl e dL_2 dF_1 dF_2 hB ?_
  rw [putL_2]
  walk_at "mk"
  refine ⟨n, _, _, A, pD k0 ms0, rfl, set_at hn, dL_1, by rw [hA]; simp, _, rfl, ?_⟩
  rw [List.set_set, putL_1, hA, List.dropLast_concat]
  walk_at "mk"
  refine ⟨n, _, _, rfl, set_at hn, rfl, rfl, ?_⟩
  walk_at "mk"
  refine ⟨rfl, we_run (r_bec (set_at hn)) ?_⟩
  rw [List.set_set]
  walk_at "mk"
  exact close_len (by rw [List.length_set]) ⟨rfl, rfl⟩
theorem r_redo {B0 : List IV} (hB : B = B0 ++ [pD k0 ms0]) (hA : A.length < 16777216) (e : st[n]? = some (dC k ms q A B)) : g_Desk_redo [.cell n] st = some (.val .non, st.set n (dC k0 ms0 (A.length + 1 : Nat) (A ++ [pD k ms]) B0)) := by
  have hn := lt_at e
  refine run_to (we_def (ls := [some (.cell n), none, none]) rfl ?_)
  unfold m_Desk_redo
  walk_at "mk"
  have hl : B.length = B0.length + 1 := by rw [hB]; simp
  rw [int_ne (show (B.length : Int) ≠ 0 by omega)]
  refine ⟨fun h => absurd h (by decide), fun _ => ?_⟩
  walk_at "mk"
  refine we_appO rfl e dL_1 dF_1 dF_2 hA ?_
  rw [putL_1]
  walk_at "mk"
  refine ⟨n, _, _, B, pD k0 ms0, rfl, set_at hn, dL_2, by rw [hB]; simp, _, rfl, ?_⟩
  rw [List.set_set, putL_2, hB, List.dropLast_concat]
  walk_at "mk"
  refine ⟨n, _, _, rfl, set_at hn, rfl, rfl, ?_⟩
  walk_at "mk"
  refine ⟨rfl, we_run (r_bec (set_at hn)) ?_⟩
  rw [List.set_set, List.length_append]
  walk_at "mk"
  exact close_len (by rw [List.length_set]) ⟨rfl, rfl⟩
theorem r_report (e : st[n]? = some (dC k ms q A B)) : g_Desk_report [.cell n] st = some (.val (.tup []), st) := by
  refine run_to (we_def (ls := [some (.cell n)]) rfl ?_)
  unfold m_Desk_report
  walk_at "mk"
  exact close_len rfl ⟨rfl, rfl⟩
def sD (k : Int) (ms : List (List Int)) (a b : Nat) : IV := .tup [.int k, .tup (ms.map tupI), .tup [], .tup [], .int a, .int b]
theorem r_state (e : st[n]? = some (dC k ms q A B)) : g_Desk_state [.cell n] st = some (.val (sD k ms A.length B.length), st) := by
  refine run_to (we_def (ls := [some (.cell n), none]) rfl ?_)
  unfold m_Desk_state
  walk_at "mk"
  exact close_len rfl ⟨rfl, rfl⟩
theorem r_now (e : st[n]? = some (dC k ms q A B)) : g_law_now [.cell n] st = some (.val (.tup [.int k, .tup (ms.map tupI)]), st) := by
  refine run_to (we_def (ls := [some (.cell n)]) rfl ?_)
  unfold m_law_now
  walk_at "mk"
  exact close_len rfl ⟨rfl, rfl⟩
end Law
end
section
set_option maxHeartbeats 2000000
namespace Law
open PySem L2 MK
local macro_rules | `(tactic| walk_at "mk1") => `(tactic| first
  | with_reducible refine Rule.ok ?_ | ((with_reducible refine' ow_fld ?hh ?h2 ?_); (case hh => first | assumption | (exact set_at (by first | assumption | (simp only [List.length_set]; assumption)))); (case h2 => first | exact dF_1 | exact dF_2 | exact dF_3 | exact dF_4 | exact dF_5))
  | ((with_reducible refine' ow_len ?hh ?h2 ?_); (case hh => first | assumption | (exact set_at (by first | assumption | (simp only [List.length_set]; assumption)))); (case h2 => first | exact dL_1 | exact dL_2)) | ((with_reducible refine' we_var ?hh ?_); (case hh => rfl))
  | with_reducible refine eq_and rfl ?_ | ((with_reducible refine len_and ?hh ?_); (case hh => simp; done)) | with_reducible refine o_mod (by omega) ?_ | with_reducible refine o_div (by omega) ?_ | with_reducible refine o_mul (by omega) (by omega) ?_
  | ((with_reducible refine' o_ixC ?hh ?h2 ?_); (case hh => assumption); (case h2 => rfl)) | ((with_reducible refine' o_ixS ?hh ?_); (case hh => assumption)) | ((with_reducible refine' o_ixT ?hh ?_); (case hh => assumption)) | ((with_reducible refine' o_ixL ?hh ?_); (case hh => assumption))
  | ((with_reducible refine' o_ixT ?hh ?_); (case hh => rfl)) | ((with_reducible refine' o_ixL ?hh ?_); (case hh => rfl)) | with_reducible refine o_pow (by decide) (by decide) ?_ | ((with_reducible refine' we_lenC ?hh ?_); (case hh => assumption))
  | ((with_reducible refine' we_tupleC ?hh ?_); (case hh => assumption)) | (refine way_t rfl ?_) | (refine way_f rfl ?_) | ((refine' Exists.intro _ (And.intro ?hh ?_)); (case hh => rfl)))
local macro_rules | `(tactic| walk_at "mk") => `(tactic| repeat walk_at "mk1")
variable {k k0 q : Int} {ms ms0 : List (List Int)} {A B : List IV} {n : Nat} {st : Sto} {E : EX} {c : CV} {v w : IV} {Q : IV → Sto → Prop}
def edV (s : Str) (l : List IV) : IV := .tup [.str s, .tup l]
theorem do_add (e : st[n]? = some (dC k ms q A B)) (h : we (g_Desk_add [.cell n, v]) st E Q) (hE : ∀ c f v s, E c f v s → s.length = st.length) (hQ : ∀ v s, Q v s → s.length = st.length) : we (g_law_do [.cell n, edV "add" [v]]) st E Q := by
  refine we_def (ls := [some (.cell n), some (edV "add" [v]), none, none]) rfl ?_
  unfold m_law_do edV
  walk_at "mk"
  refine o_yes (by decide +kernel) ?_
  walk_at "mk"
  refine ⟨n, _, _, rfl, e, rfl, rfl, ?_⟩
  walk_at "mk"
  refine ⟨rfl, we_monoX h ?_ ?_⟩
  · intro c f v s hs
    exact .inl ⟨hE _ _ _ _ hs, hs⟩
  · intro v s hs
    exact close_len (hQ _ _ hs) hs
theorem do_drop (e : st[n]? = some (dC k ms q A B)) (h : we (g_Desk_drop [.cell n, v]) st E Q) (hE : ∀ c f v s, E c f v s → s.length = st.length) (hQ : ∀ v s, Q v s → s.length = st.length) : we (g_law_do [.cell n, edV "drop" [v]]) st E Q := by
  refine we_def (ls := [some (.cell n), some (edV "drop" [v]), none, none]) rfl ?_
  unfold m_law_do edV
  walk_at "mk"
  refine o_no (by decide +kernel) (by decide +kernel) (by decide +kernel) ?_
  walk_at "mk"
  refine o_yes (by decide +kernel) ?_
  walk_at "mk"
  refine ⟨n, _, _, rfl, e, rfl, rfl, ?_⟩
  walk_at "mk"
  refine ⟨rfl, we_monoX h ?_ ?_⟩
  · intro c f v s hs
    exact .inl ⟨hE _ _ _ _ hs, hs⟩
  · intro v s hs
    exact close_len (hQ _ _ hs) hs
theorem do_turn (e : st[n]? = some (dC k ms q A B)) (h : we (g_Desk_turn [.cell n, v, w]) st E Q) (hE : ∀ c f v s, E c f v s → s.length = st.length) (hQ : ∀ v s, Q v s → s.length = st.length) : we (g_law_do [.cell n, edV "turn" [v, w]]) st E Q := by
  refine we_def (ls := [some (.cell n), some (edV "turn" [v, w]), none, none]) rfl ?_
  unfold m_law_do edV
  walk_at "mk"
  refine o_no (by decide +kernel) (by decide +kernel) (by decide +kernel) ?_
  walk_at "mk"
  refine o_no (by decide +kernel) (by decide +kernel) (by decide +kernel) ?_
  walk_at "mk"
  refine o_yes (by decide +kernel) ?_
  walk_at "mk"
  refine ⟨n, _, _, rfl, e, rfl, rfl, ?_⟩
  walk_at "mk"
  refine ⟨rfl, we_monoX h ?_ ?_⟩
  · intro c f v s hs
    exact .inl ⟨hE _ _ _ _ hs, hs⟩
  · intro v s hs
    exact close_len (hQ _ _ hs) hs
theorem do_widen (e : st[n]? = some (dC k ms q A B)) (h : we (g_Desk_widen [.cell n, v]) st E Q) (hE : ∀ c f v s, E c f v s → s.length = st.length) (hQ : ∀ v s, Q v s → s.length = st.length) : we (g_law_do [.cell n, edV "widen" [v]]) st E Q := by
  refine we_def (ls := [some (.cell n), some (edV "widen" [v]), none, none]) rfl ?_
  unfold m_law_do edV
  walk_at "mk"
  refine o_no (by decide +kernel) (by decide +kernel) (by decide +kernel) ?_
  walk_at "mk"
  refine o_no (by decide +kernel) (by decide +kernel) (by decide +kernel) ?_
  walk_at "mk"
  refine o_no (by decide +kernel) (by decide +kernel) (by decide +kernel) ?_
  walk_at "mk"
  refine o_yes (by decide +kernel) ?_
  walk_at "mk"
  refine ⟨n, _, _, rfl, e, rfl, rfl, ?_⟩
  walk_at "mk"
  refine ⟨rfl, we_monoX h ?_ ?_⟩
  · intro c f v s hs
    exact .inl ⟨hE _ _ _ _ hs, hs⟩
  · intro v s hs
    exact close_len (hQ _ _ hs) hs
theorem do_fold (e : st[n]? = some (dC k ms q A B)) (h : we (g_Desk_fold [.cell n]) st E Q) (hE : ∀ c f v s, E c f v s → s.length = st.length) (hQ : ∀ v s, Q v s → s.length = st.length) : we (g_law_do [.cell n, edV "fold" []]) st E Q := by
  refine we_def (ls := [some (.cell n), some (edV "fold" []), none, none]) rfl ?_
  unfold m_law_do edV
  walk_at "mk"
  refine o_no (by decide +kernel) (by decide +kernel) (by decide +kernel) ?_
  walk_at "mk"
  refine o_no (by decide +kernel) (by decide +kernel) (by decide +kernel) ?_
  walk_at "mk"
  refine o_no (by decide +kernel) (by decide +kernel) (by decide +kernel) ?_
  walk_at "mk"
  refine o_no (by decide +kernel) (by decide +kernel) (by decide +kernel) ?_
  walk_at "mk"
  refine ⟨n, _, _, rfl, e, rfl, rfl, ?_⟩
  walk_at "mk"
  refine ⟨rfl, we_monoX h ?_ ?_⟩
  · intro c f v s hs
    exact .inl ⟨hE _ _ _ _ hs, hs⟩
  · intro v s hs
    exact close_len (hQ _ _ hs) hs
end Law
end
section
set_option maxHeartbeats 2000000
namespace Law
open PySem L2 MK
local macro_rules | `(tactic| walk_at "mk1") => `(tactic| first
  | with_reducible refine Rule.ok ?_ | ((with_reducible refine' ow_fld ?hh ?h2 ?_); (case hh => first | assumption | (exact set_at (by first | assumption | (simp only [List.length_set]; assumption)))); (case h2 => first | exact dF_1 | exact dF_2 | exact dF_3 | exact dF_4 | exact dF_5))
  | ((with_reducible refine' ow_len ?hh ?h2 ?_); (case hh => first | assumption | (exact set_at (by first | assumption | (simp only [List.length_set]; assumption)))); (case h2 => first | exact dL_1 | exact dL_2)) | ((with_reducible refine' we_var ?hh ?_); (case hh => rfl))
  | with_reducible refine eq_and rfl ?_ | ((with_reducible refine len_and ?hh ?_); (case hh => simp; done)) | with_reducible refine o_mod (by omega) ?_ | with_reducible refine o_div (by omega) ?_ | with_reducible refine o_mul (by omega) (by omega) ?_
  | ((with_reducible refine' o_ixC ?hh ?h2 ?_); (case hh => assumption); (case h2 => rfl)) | ((with_reducible refine' o_ixS ?hh ?_); (case hh => assumption)) | ((with_reducible refine' o_ixT ?hh ?_); (case hh => assumption)) | ((with_reducible refine' o_ixL ?hh ?_); (case hh => assumption))
  | ((with_reducible refine' o_ixT ?hh ?_); (case hh => rfl)) | ((with_reducible refine' o_ixL ?hh ?_); (case hh => rfl)) | with_reducible refine o_pow (by decide) (by decide) ?_ | ((with_reducible refine' we_lenC ?hh ?_); (case hh => assumption))
  | ((with_reducible refine' we_tupleC ?hh ?_); (case hh => assumption)) | (refine way_t rfl ?_) | (refine way_f rfl ?_) | ((refine' Exists.intro _ (And.intro ?hh ?_)); (case hh => rfl)))
local macro_rules | `(tactic| walk_at "mk") => `(tactic| repeat walk_at "mk1")
variable {k k0 q : Int} {ms ms0 : List (List Int)} {A B : List IV} {n : Nat} {st : Sto} {v ed : IV}
abbrev nowV (k : Int) (ms : List (List Int)) : IV := .tup [.int k, .tup (ms.map tupI)]
theorem deed_ok (hn : n < st.length) (h : we (g_law_do [.cell n, ed]) st noX fun v s => v = .non ∧ s = st.set n (dC k ms q A B)) : g_law_deed [.cell n, ed] st = some (.val (.tup [.str "kept", nowV k ms]), st.set n (dC k ms q A B)) := by
  refine run_to (we_def (ls := [some (.cell n), some ed, none, none]) rfl ?_)
  unfold m_law_deed
  walk_at "mk"
  refine we_monoX h (fun _ _ _ _ z => z.elim) ?_
  rintro u s ⟨rfl, rfl⟩
  walk_at "mk"
  refine we_run (r_now (set_at hn)) ?_
  walk_at "mk"
  exact close_len (by rw [List.length_set]) ⟨rfl, rfl⟩
theorem deed_number (h : we (g_law_do [.cell n, ed]) st (exX "InvalidNumber" v st) fun _ _ => False) : g_law_deed [.cell n, ed] st = some (.val (.tup [.str "number", v]), st) := by
  refine run_to (we_def (ls := [some (.cell n), some ed, none, none]) rfl ?_)
  unfold m_law_deed
  walk_at "mk"
  refine we_monoX h ?_ fun _ _ z => z.elim
  rintro c' f u st' ⟨rfl, rfl, rfl, rfl⟩
  refine we_clR (w := .tup [.str "number", u]) (st1 := st') (by decide +kernel) (fun a C d => run_of ?_) (close_len rfl ⟨rfl, rfl⟩)
  walk_at "mk"
  exact ⟨rfl, rfl⟩
theorem deed_item (h : we (g_law_do [.cell n, ed]) st (exX "InvalidItem" v st) fun _ _ => False) : g_law_deed [.cell n, ed] st = some (.val (.tup [.str "item", v]), st) := by
  refine run_to (we_def (ls := [some (.cell n), some ed, none, none]) rfl ?_)
  unfold m_law_deed
  walk_at "mk"
  refine we_monoX h ?_ fun _ _ z => z.elim
  rintro c' f u st' ⟨rfl, rfl, rfl, rfl⟩
  refine we_clF (by decide +kernel) ?_
  refine we_clR (w := .tup [.str "item", u]) (st1 := st') (by decide +kernel) (fun a C d => run_of ?_) (close_len rfl ⟨rfl, rfl⟩)
  walk_at "mk"
  exact ⟨rfl, rfl⟩
theorem deed_mark (h : we (g_law_do [.cell n, ed]) st (exX "InvalidMark" v st) fun _ _ => False) : g_law_deed [.cell n, ed] st = some (.val (.tup [.str "mark", v]), st) := by
  refine run_to (we_def (ls := [some (.cell n), some ed, none, none]) rfl ?_)
  unfold m_law_deed
  walk_at "mk"
  refine we_monoX h ?_ fun _ _ z => z.elim
  rintro c' f u st' ⟨rfl, rfl, rfl, rfl⟩
  refine we_clF (by decide +kernel) (we_clF (by decide +kernel) ?_)
  refine we_clR (w := .tup [.str "mark", u]) (st1 := st') (by decide +kernel) (fun a C d => run_of ?_) (close_len rfl ⟨rfl, rfl⟩)
  walk_at "mk"
  exact ⟨rfl, rfl⟩
theorem deed_undef {x : Str} (h : we (g_law_do [.cell n, ed]) st (fun c f u s => c = "Undefined" ∧ f = "what" ∧ u = .str x ∧ s = st) fun _ _ => False) : g_law_deed [.cell n, ed] st = some (.val (.tup [.str "undefined", .str x]), st) := by
  refine run_to (we_def (ls := [some (.cell n), some ed, none, none]) rfl ?_)
  unfold m_law_deed
  walk_at "mk"
  refine we_monoX h ?_ fun _ _ z => z.elim
  rintro c' f u st' ⟨rfl, rfl, rfl, rfl⟩
  refine we_clF (by decide +kernel) (we_clF (by decide +kernel) (we_clF (by decide +kernel) ?_))
  refine we_clR (w := .tup [.str "undefined", .str x]) (st1 := st') (by decide +kernel) (fun a C d => run_of ?_) (close_len rfl ⟨rfl, rfl⟩)
  walk_at "mk"
  exact ⟨rfl, rfl⟩
theorem xE {c : Str} : ∀ c' f w s, exX c v st c' f w s → s.length = st.length := fun _ _ _ _ h => by rw [h.2.2.2]
theorem xU {x : Str} : ∀ (c f : Str) (u : IV) s, (c = "Undefined" ∧ f = "what" ∧ u = .str x ∧ s = st) → s.length = st.length := fun _ _ _ _ h => by rw [h.2.2.2]
theorem xF : ∀ (v : IV) (s : Sto), False → s.length = st.length := fun _ _ h => h.elim
theorem xN : ∀ (c f : Str) (u : IV) (s : Sto), noX c f u s → s.length = st.length := fun _ _ _ _ h => h.elim
theorem ok_we {m : M IV} {c : CV} (h : m st = some (.val .non, st.set n c)) : we m st noX fun v s => v = .non ∧ s = st.set n c := ⟨_, _, h, rfl, rfl⟩
theorem xS {c : CV} : ∀ (v : IV) (s : Sto), (v = .non ∧ s = st.set n c) → s.length = st.length := fun _ _ h => by rw [h.2, List.length_set]
theorem dd_add {m : List Int} (hk : Mk k (ms ++ [m])) (hm : isMark k (tupI m) = true) (e : st[n]? = some (dC k ms q A B)) (hA : A.length < 16777216) :
    g_law_deed [.cell n, edV "add" [tupI m]] st = some (.val (.tup [.str "kept", nowV k (ms ++ [m])]), st.set n (dN k ms A k (ms ++ [m]))) := deed_ok (lt_at e) (do_add e (ok_we (r_add hk hm e hA)) xN xS)
theorem dx_add (hv : dat v = true) (hl : ms.length ≤ 7) (h : isMark k v = false ∨ ms.length = 7) (e : st[n]? = some (dC k ms q A B)) :
    g_law_deed [.cell n, edV "add" [v]] st = some (.val (.tup [.str "mark", v]), st) := deed_mark (do_add e (x_add hv hl h e) xE xF)
theorem dd_drop {i : Nat} (hk : Mk k (outM i ms)) (hi : i < ms.length) (hl : ms.length ≤ 7) (e : st[n]? = some (dC k ms q A B)) (hA : A.length < 16777216) :
    g_law_deed [.cell n, edV "drop" [.int i]] st = some (.val (.tup [.str "kept", nowV k (outM i ms)]), st.set n (dN k ms A k (outM i ms))) := deed_ok (lt_at e) (do_drop e (ok_we (r_drop hk hi hl e hA)) xN xS)
theorem dx_drop (hv : dat v = true) (hl : ms.length ≤ 7) (h : isIn 0 (ms.length - 1) v = false) (e : st[n]? = some (dC k ms q A B)) :
    g_law_deed [.cell n, edV "drop" [v]] st = some (.val (.tup [.str "item", v]), st) := deed_item (do_drop e (x_drop hv hl h e) xE xF)
theorem dx_drop1 (hl : ms.length = 1) (e : st[n]? = some (dC k ms q A B)) :
    g_law_deed [.cell n, edV "drop" [.int 0]] st = some (.val (.tup [.str "undefined", .str "alone"]), st) := deed_undef (do_drop e (x_drop1 hl e) xU xF)
theorem dd_turn {i : Nat} {m : List Int} (hk : Mk k (setM i m ms)) (hm : isMark k (tupI m) = true) (hi : i < ms.length) (hl : ms.length ≤ 7) (e : st[n]? = some (dC k ms q A B)) (hA : A.length < 16777216) :
    g_law_deed [.cell n, edV "turn" [.int i, tupI m]] st = some (.val (.tup [.str "kept", nowV k (setM i m ms)]), st.set n (dN k ms A k (setM i m ms))) := deed_ok (lt_at e) (do_turn e (ok_we (r_turn hk hm hi hl e hA)) xN xS)
theorem dx_turnI {w : IV} (hv : dat v = true) (hl : ms.length ≤ 7) (h : isIn 0 (ms.length - 1) v = false) (e : st[n]? = some (dC k ms q A B)) :
    g_law_deed [.cell n, edV "turn" [v, w]] st = some (.val (.tup [.str "item", v]), st) := deed_item (do_turn e (x_turnI hv hl h e) xE xF)
theorem dx_turnM {w : IV} (hv : dat v = true) (hw : dat w = true) (hl : ms.length ≤ 7) (h : isIn 0 (ms.length - 1) v = true) (hm : isMark k w = false) (e : st[n]? = some (dC k ms q A B)) :
    g_law_deed [.cell n, edV "turn" [v, w]] st = some (.val (.tup [.str "mark", w]), st) := deed_mark (do_turn e (x_turnM hv hw hl h hm e) xE xF)
theorem dd_widen {c M : Int} (hk : Mk k ms) (hc' : Mk c ms) (hM : maxL (ms.map fun m => m.getLast!) = some M) (hc : M < c ∧ c ≤ 8) (e : st[n]? = some (dC k ms q A B)) (hA : A.length < 16777216) :
    g_law_deed [.cell n, edV "widen" [.int c]] st = some (.val (.tup [.str "kept", nowV c ms]), st.set n (dN k ms A c ms)) := deed_ok (lt_at e) (do_widen e (ok_we (r_widen hk hc' hM hc e hA)) xN xS)
theorem dx_widen {M : Int} (hk : Mk k ms) (hM : maxL (ms.map fun m => m.getLast!) = some M) (hv : dat v = true) (hc : isIn (M + 1) 8 v = false) (e : st[n]? = some (dC k ms q A B)) :
    g_law_deed [.cell n, edV "widen" [v]] st = some (.val (.tup [.str "number", v]), st) := deed_number (do_widen e (x_widen hk hM hv hc e) xE xF)
theorem dd_fold (hk : Mk k ms) (he : k % 2 = 0) (e : st[n]? = some (dC k ms q A B)) (hA : A.length < 16777216) :
    g_law_deed [.cell n, edV "fold" []] st = some (.val (.tup [.str "kept", nowV (k / 2) (ms.map (foldM (k / 2)))]), st.set n (dN k ms A (k / 2) (ms.map (foldM (k / 2))))) := deed_ok (lt_at e) (do_fold e (ok_we (r_dfold hk he e hA)) xN xS)
theorem dx_fold (ho : k % 2 = 1) (e : st[n]? = some (dC k ms q A B)) :
    g_law_deed [.cell n, edV "fold" []] st = some (.val (.tup [.str "undefined", .str "odd"]), st) := deed_undef (do_fold e (x_dfold ho e) xU xF)
end Law
end
section
set_option maxHeartbeats 2000000
namespace Law
open PySem L2 MK
local macro_rules | `(tactic| walk_at "mk1") => `(tactic| first
  | with_reducible refine Rule.ok ?_ | ((with_reducible refine' ow_fld ?hh ?h2 ?_); (case hh => first | assumption | (exact set_at (by first | assumption | (simp only [List.length_set]; assumption)))); (case h2 => first | exact dF_1 | exact dF_2 | exact dF_3 | exact dF_4 | exact dF_5))
  | ((with_reducible refine' ow_len ?hh ?h2 ?_); (case hh => first | assumption | (exact set_at (by first | assumption | (simp only [List.length_set]; assumption)))); (case h2 => first | exact dL_1 | exact dL_2)) | ((with_reducible refine' we_var ?hh ?_); (case hh => rfl))
  | with_reducible refine eq_and rfl ?_ | ((with_reducible refine len_and ?hh ?_); (case hh => simp; done)) | with_reducible refine o_mod (by omega) ?_ | with_reducible refine o_div (by omega) ?_ | with_reducible refine o_mul (by omega) (by omega) ?_
  | ((with_reducible refine' o_ixC ?hh ?h2 ?_); (case hh => assumption); (case h2 => rfl)) | ((with_reducible refine' o_ixS ?hh ?_); (case hh => assumption)) | ((with_reducible refine' o_ixT ?hh ?_); (case hh => assumption)) | ((with_reducible refine' o_ixL ?hh ?_); (case hh => assumption))
  | ((with_reducible refine' o_ixT ?hh ?_); (case hh => rfl)) | ((with_reducible refine' o_ixL ?hh ?_); (case hh => rfl)) | with_reducible refine o_pow (by decide) (by decide) ?_ | ((with_reducible refine' we_lenC ?hh ?_); (case hh => assumption))
  | ((with_reducible refine' we_tupleC ?hh ?_); (case hh => assumption)) | (refine way_t rfl ?_) | (refine way_f rfl ?_) | ((refine' Exists.intro _ (And.intro ?hh ?_)); (case hh => rfl)))
local macro_rules | `(tactic| walk_at "mk") => `(tactic| repeat walk_at "mk1")
theorem maxL_of {l : List Int} {M : Int} (hm : M ∈ l) (h : ∀ y ∈ l, y ≤ M) : maxL l = some M := by
  cases l with
  | nil => cases hm
  | cons a l =>
    rw [maxL]
    obtain ⟨g1, g2⟩ := foldl_max_ge l a
    congr 1
    refine Int.le_antisymm ?_ ?_
    · rcases foldl_max_mem l a with e | e
      · rw [e]; exact h a List.mem_cons_self
      · exact h _ (List.mem_cons_of_mem _ e)
    · rcases List.mem_cons.mp hm with e | e
      · rw [e]; exact g1
      · exact g2 _ e
theorem maxL_has {l : List Int} (h : l ≠ []) : ∃ M, maxL l = some M ∧ M ∈ l ∧ ∀ y ∈ l, y ≤ M := by
  cases l with
  | nil => exact absurd rfl h
  | cons a l =>
    obtain ⟨g1, g2⟩ := foldl_max_ge l a
    refine ⟨_, rfl, ?_, ?_⟩
    · rcases foldl_max_mem l a with e | e
      · rw [e]; exact List.mem_cons_self
      · exact List.mem_cons_of_mem _ e
    · intro y hy
      rcases List.mem_cons.mp hy with e | e
      · rw [e]; exact g1
      · exact g2 _ e
theorem last_max {m : List Int} (h : m ≠ []) (p : m.Pairwise (· < ·)) : m.getLast! ∈ m ∧ ∀ y ∈ m, y ≤ m.getLast! := by
  have e : m.getLast! = m.getLast h := by simp [List.getLast!_eq_getLast?_getD, List.getLast?_eq_getLast h]
  rw [e]
  refine ⟨List.getLast_mem h, fun y hy => ?_⟩
  rw [← List.dropLast_concat_getLast h] at hy p
  rcases List.mem_append.mp hy with q | q
  · exact Int.le_of_lt ((List.pairwise_append.mp p).2.2 y q _ (by simp))
  · rw [List.mem_singleton.mp q]; exact Int.le_refl _
theorem maxL_last {m : List Int} (h : m ≠ []) (p : m.Pairwise (· < ·)) : maxL m = some m.getLast! := maxL_of (last_max h p).1 (last_max h p).2
variable {k k0 q : Int} {ms ms0 : List (List Int)} {A B : List IV} {n : Nat} {st : Sto} {v ed : IV} {m : List Int} {M : Int}
theorem ed_add (hl : ms.length ≤ 7) (hM : maxL m = some M) : g_law_edited [nowV k ms, edV "add" [tupI m]] st = some (.val (if ms.length = 7 ∨ k ≤ M then .tup [.str "mark", tupI m] else .tup [.str "kept", nowV k (ms ++ [m])]), st) := by
  refine run_of (we_def (ls := [some (nowV k ms), some (edV "add" [tupI m]), none, none, none, none, none, none, none, none, none]) rfl ?_)
  unfold m_law_edited edV
  walk_at "mk"
  refine o_yes (by decide +kernel) ?_
  walk_at "mk"
  rw [List.length_map]
  by_cases h7 : ms.length = 7
  · rw [int_eq (show (ms.length : Int) = 7 by omega), if_pos (.inl h7)]
    refine ⟨fun _ => ?_, fun h => absurd h (by decide)⟩
    walk_at "mk"
    exact close_len rfl ⟨rfl, rfl⟩
  rw [int_ne (show (ms.length : Int) ≠ 7 by omega)]
  refine ⟨fun h => absurd h (by decide), fun _ => ?_⟩
  walk_at "mk"
  refine we_maxTI hM ?_
  walk_at "mk"
  refine ⟨fun h => ?_, fun h => ?_⟩
  · rw [if_pos (.inr (of_decide_eq_true h))]
    walk_at "mk"
    exact close_len rfl ⟨rfl, rfl⟩
  · rw [if_neg (by have := of_decide_eq_false h; omega)]
    walk_at "mk"
    refine o_addT (by simp; omega) ?_
    walk_at "mk"
    refine close_len rfl ⟨?_, rfl⟩
    rw [show ms.map tupI ++ [tupI m] = (ms ++ [m]).map tupI by rw [List.map_append]; rfl]
theorem ed_drop {i : Nat} (hl : ms.length ≤ 7) : g_law_edited [nowV k ms, edV "drop" [.int i]] st = some (.val (if ms.length ≤ i then .tup [.str "item", .int i] else if ms.length = 1 then .tup [.str "undefined", .str "alone"] else .tup [.str "kept", nowV k (outM i ms)]), st) := by
  refine run_of (we_def (ls := [some (nowV k ms), some (edV "drop" [.int i]), none, none, none, none, none, none, none, none, none]) rfl ?_)
  unfold m_law_edited edV
  walk_at "mk"
  refine o_no (by decide +kernel) (by decide +kernel) (by decide +kernel) ?_
  walk_at "mk"
  refine o_yes (by decide +kernel) ?_
  walk_at "mk"
  rw [List.length_map]
  refine ⟨fun h => ?_, fun h => ?_⟩
  · rw [if_pos (by have := of_decide_eq_true h; omega)]
    walk_at "mk"
    exact close_len rfl ⟨rfl, rfl⟩
  · have h0 := of_decide_eq_false h
    rw [if_neg (by omega)]
    walk_at "mk"
    by_cases h1 : ms.length = 1
    · rw [int_eq (show (ms.length : Int) = 1 by omega), if_pos h1]
      refine ⟨fun _ => ?_, fun h => absurd h (by decide)⟩
      walk_at "mk"
      exact close_len rfl ⟨rfl, rfl⟩
    rw [int_ne (show (ms.length : Int) ≠ 1 by omega), if_neg h1]
    refine ⟨fun h => absurd h (by decide), fun _ => ?_⟩
    walk_at "mk"
    rw [cut_take (by omega), cut_drop (by omega), show ((i : Int) + 1).toNat = i + 1 by omega, show (i : Int).toNat = i by omega]
    refine o_addT (by simp; omega) ?_
    walk_at "mk"
    refine close_len rfl ⟨?_, rfl⟩
    rw [show (ms.map tupI).take i ++ (ms.map tupI).drop (i + 1) = (outM i ms).map tupI by rw [outM, List.map_append, List.map_take, List.map_drop]]
theorem ed_turn {i : Nat} (hl : ms.length ≤ 7) (hM : maxL m = some M) : g_law_edited [nowV k ms, edV "turn" [.int i, tupI m]] st = some (.val (if ms.length ≤ i then .tup [.str "item", .int i] else if k ≤ M then .tup [.str "mark", tupI m] else .tup [.str "kept", nowV k (setM i m ms)]), st) := by
  refine run_of (we_def (ls := [some (nowV k ms), some (edV "turn" [.int i, tupI m]), none, none, none, none, none, none, none, none, none]) rfl ?_)
  unfold m_law_edited edV
  walk_at "mk"
  refine o_no (by decide +kernel) (by decide +kernel) (by decide +kernel) ?_
  walk_at "mk"
  refine o_no (by decide +kernel) (by decide +kernel) (by decide +kernel) ?_
  walk_at "mk"
  refine o_yes (by decide +kernel) ?_
  walk_at "mk"
  rw [List.length_map]
  refine ⟨fun h => ?_, fun h => ?_⟩
  · rw [if_pos (by have := of_decide_eq_true h; omega)]
    walk_at "mk"
    exact close_len rfl ⟨rfl, rfl⟩
  have h0 := of_decide_eq_false h
  rw [if_neg (by omega)]
  walk_at "mk"
  refine we_maxTI hM ?_
  walk_at "mk"
  refine ⟨fun h => ?_, fun h => ?_⟩
  · rw [if_pos (of_decide_eq_true h)]
    walk_at "mk"
    exact close_len rfl ⟨rfl, rfl⟩
  · rw [if_neg (of_decide_eq_false h)]
    walk_at "mk"
    rw [cut_take (by omega), show (i : Int).toNat = i by omega]
    refine o_addT (by simp; omega) ?_
    walk_at "mk"
    rw [cut_drop (by omega), show ((i : Int) + 1).toNat = i + 1 by omega]
    refine o_addT (by simp; omega) ?_
    walk_at "mk"
    refine close_len rfl ⟨?_, rfl⟩
    rw [show (ms.map tupI).take i ++ [tupI m] ++ (ms.map tupI).drop (i + 1) = (setM i m ms).map tupI by rw [setM, List.map_append, List.map_append, List.map_take, List.map_drop]; rfl]
theorem ed_widen {c : Int} (hk : Mk k ms) (hM : maxL (ms.map fun m => m.getLast!) = some M) : g_law_edited [nowV k ms, edV "widen" [.int c]] st = some (.val (if 8 < c ∨ c ≤ M then .tup [.str "number", .int c] else .tup [.str "kept", nowV c ms]), st) := by
  have l7 := hk.l7
  refine run_of (we_def (ls := [some (nowV k ms), some (edV "widen" [.int c]), none, none, none, none, none, none, none, none, none]) rfl ?_)
  unfold m_law_edited edV
  walk_at "mk"
  refine o_no (by decide +kernel) (by decide +kernel) (by decide +kernel) ?_
  walk_at "mk"
  refine o_no (by decide +kernel) (by decide +kernel) (by decide +kernel) ?_
  walk_at "mk"
  refine o_no (by decide +kernel) (by decide +kernel) (by decide +kernel) ?_
  walk_at "mk"
  refine o_yes (by decide +kernel) ?_
  walk_at "mk"
  refine compL_map (as := ms) tupI (fun _ => true) (fun m => .int m.getLast!) trivial (fun m hm => ⟨_, rfl, by walk_at "mk"; exact ⟨rfl, rfl⟩, fun _ => ?_⟩) ?_
  · walk_at "mk"
    exact we_maxTI (maxL_last (hk.ne m hm) (hk.pw m hm)) ⟨rfl, rfl⟩
  refine ⟨by rw [List.length_map]; exact Nat.le_trans (List.length_filter_le _ _) (by omega), ?_⟩
  rw [List.filter_eq_self.mpr fun _ _ => rfl]
  rw [show ms.map (fun m => IV.int m.getLast!) = (ms.map fun m => m.getLast!).map .int by rw [List.map_map]; rfl]
  walk_at "mk"
  refine we_maxL hM ?_
  walk_at "mk"
  refine ⟨fun h => ?_, fun h => ?_⟩
  · rw [if_pos (.inl (of_decide_eq_true h))]
    walk_at "mk"
    exact close_len rfl ⟨rfl, rfl⟩
  walk_at "mk"
  have h8 := of_decide_eq_false h
  refine ⟨fun h => ?_, fun h => ?_⟩
  · rw [if_pos (.inr (of_decide_eq_true h))]
    walk_at "mk"
    exact close_len rfl ⟨rfl, rfl⟩
  · rw [if_neg (by have := of_decide_eq_false h; omega)]
    walk_at "mk"
    exact close_len rfl ⟨rfl, rfl⟩
theorem ed_fold (hk : Mk k ms) : g_law_edited [nowV k ms, edV "fold" []] st = some (.val (if k % 2 = 1 then .tup [.str "undefined", .str "odd"] else .tup [.str "kept", nowV (k / 2) (ms.map (foldM (k / 2)))]), st) := by
  have l7 := hk.l7
  have k1 := hk.k1
  refine run_of (we_def (ls := [some (nowV k ms), some (edV "fold" []), none, none, none, none, none, none, none, none, none]) rfl ?_)
  unfold m_law_edited edV
  walk_at "mk"
  refine o_no (by decide +kernel) (by decide +kernel) (by decide +kernel) ?_
  walk_at "mk"
  refine o_no (by decide +kernel) (by decide +kernel) (by decide +kernel) ?_
  walk_at "mk"
  refine o_no (by decide +kernel) (by decide +kernel) (by decide +kernel) ?_
  walk_at "mk"
  refine o_no (by decide +kernel) (by decide +kernel) (by decide +kernel) ?_
  walk_at "mk"
  by_cases ho : k % 2 = 1
  · rw [int_eq ho, if_pos ho]
    refine ⟨fun _ => ?_, fun h => absurd h (by decide)⟩
    walk_at "mk"
    exact close_len rfl ⟨rfl, rfl⟩
  rw [int_ne ho, if_neg ho]
  refine ⟨fun h => absurd h (by decide), fun _ => ?_⟩
  walk_at "mk"
  refine compL_map (as := ms) tupI (fun _ => true) (fun m => tupI (foldM (k / 2) m)) trivial (fun m hm => ⟨_, rfl, by walk_at "mk"; exact ⟨rfl, rfl⟩, fun _ => ?_⟩) ?_
  · have am : Asc (2 * (k / 2)) m := ⟨hk.pw m hm, fun c hc => by have := hk.bd m hm c hc; omega⟩
    have k8 := hk.k8
    walk_at "mk"
    refine ⟨⟨by omega, by omega⟩, ?_⟩
    rw [rangeI_rng]
    refine compL_map (as := rngL (k / 2)) .int (fun c => decide (c ∈ m) || decide (c + k / 2 ∈ m)) .int trivial (fun c hc => ⟨_, rfl, ?_, fun _ => by walk_at "mk"; exact ⟨rfl, rfl⟩⟩) ?_
    · walk_at "mk"
      refine ⟨fun h => ?_, fun h => ?_⟩
      · walk_at "mk"
        exact ⟨by rw [h]; rfl, rfl⟩
      · walk_at "mk"
        exact ⟨by rw [h]; rfl, rfl⟩
    rw [← fold_lit am (by omega)]
    have zl := (foldM_asc (m := m) (by omega : 0 < k / 2)).len (by omega)
    refine len_and (by rw [List.length_map]; omega) ?_
    walk_at "mk"
    exact ⟨rfl, rfl⟩
  rw [List.filter_eq_self.mpr fun _ _ => rfl]
  have e : ms.map (fun m => tupI (foldM (k / 2) m)) = (ms.map (foldM (k / 2))).map tupI := by rw [List.map_map]; rfl
  rw [e]
  refine len_and (by rw [List.length_map, List.length_map]; omega) ?_
  walk_at "mk"
  exact close_len rfl ⟨rfl, rfl⟩
end Law
end
section
set_option maxHeartbeats 2000000
namespace Law
open PySem L2 MK
local macro_rules | `(tactic| walk_at "mk1") => `(tactic| first
  | with_reducible refine Rule.ok ?_ | ((with_reducible refine' ow_fld ?hh ?h2 ?_); (case hh => first | assumption | (exact set_at (by first | assumption | (simp only [List.length_set]; assumption)))); (case h2 => first | exact dF_1 | exact dF_2 | exact dF_3 | exact dF_4 | exact dF_5))
  | ((with_reducible refine' ow_len ?hh ?h2 ?_); (case hh => first | assumption | (exact set_at (by first | assumption | (simp only [List.length_set]; assumption)))); (case h2 => first | exact dL_1 | exact dL_2)) | ((with_reducible refine' we_var ?hh ?_); (case hh => rfl))
  | with_reducible refine eq_and rfl ?_ | ((with_reducible refine len_and ?hh ?_); (case hh => simp; done)) | with_reducible refine o_mod (by omega) ?_ | with_reducible refine o_div (by omega) ?_ | with_reducible refine o_mul (by omega) (by omega) ?_
  | ((with_reducible refine' o_ixC ?hh ?h2 ?_); (case hh => assumption); (case h2 => rfl)) | ((with_reducible refine' o_ixS ?hh ?_); (case hh => assumption)) | ((with_reducible refine' o_ixT ?hh ?_); (case hh => assumption)) | ((with_reducible refine' o_ixL ?hh ?_); (case hh => assumption))
  | ((with_reducible refine' o_ixT ?hh ?_); (case hh => rfl)) | ((with_reducible refine' o_ixL ?hh ?_); (case hh => rfl)) | with_reducible refine o_pow (by decide) (by decide) ?_ | ((with_reducible refine' we_lenC ?hh ?_); (case hh => assumption))
  | ((with_reducible refine' we_tupleC ?hh ?_); (case hh => assumption)) | (refine way_t rfl ?_) | (refine way_f rfl ?_) | ((refine' Exists.intro _ (And.intro ?hh ?_)); (case hh => rfl)))
local macro_rules | `(tactic| walk_at "mk") => `(tactic| repeat walk_at "mk1")
structure EdM (k : Int) (m : List Int) : Prop where
  ne : m ≠ []
  pw : m.Pairwise (· < ·)
  bd : ∀ c ∈ m, 0 ≤ c ∧ c ≤ k
variable {k c M : Int} {ms : List (List Int)} {m : List Int} {i : Nat}
theorem ascI_bd : ∀ {l : List Int} {a b : Int}, ascI a b (l.map .int) = true → ∀ i ∈ l, i < b
  | [], _, _, _, _, h => by cases h
  | x :: l, a, b, h, i, hi => by
    rw [List.map_cons, ascI, Bool.and_eq_true] at h
    rcases List.mem_cons.mp hi with e | e
    · subst e
      have := h.1
      simp [isIn] at this
      omega
    · exact ascI_bd h.2 i e
theorem EdM.yes (h : EdM k m) (hM : maxL m = some M) (hlt : M < k) : isMark k (tupI m) = true := by
  have hx : ∀ y ∈ m, y ≤ M := by
    obtain ⟨N, e, _, h2⟩ := maxL_has h.ne
    rw [hM] at e
    cases e
    exact h2
  have ha : Asc k m := ⟨h.pw, fun c hc => ⟨(h.bd c hc).1, by have := hx c hc; omega⟩⟩
  unfold isMark
  rw [ha.is]
  cases m with
  | nil => exact absurd rfl h.ne
  | cons a l => rfl
theorem EdM.no (h : EdM k m) (hM : maxL m = some M) (hge : k ≤ M) : isMark k (tupI m) = false := by
  obtain ⟨N, e, hN, _⟩ := maxL_has h.ne
  rw [hM] at e
  cases e
  unfold isMark
  have : isAsc k (tupI m) = false := by
    rw [Bool.eq_false_iff]
    intro z
    have := ascI_bd (l := m) (a := 0) (b := k) z M hN
    omega
  rw [this]
  rfl
theorem EdM.asc (h : EdM k m) (hM : maxL m = some M) (hlt : M < k) : Asc k m := by
  obtain ⟨N, e, _, h2⟩ := maxL_has h.ne
  rw [hM] at e
  cases e
  exact ⟨h.pw, fun c hc => ⟨(h.bd c hc).1, by have := h2 c hc; omega⟩⟩
theorem Mk.of (h1 : 1 ≤ k) (h8 : k ≤ 8) (l1 : 1 ≤ ms.length) (l7 : ms.length ≤ 7) (h : ∀ m ∈ ms, m ≠ [] ∧ Asc k m) : Mk k ms where
  k1 := h1
  k8 := h8
  l1 := l1
  l7 := l7
  ne m hm := (h m hm).1
  pw m hm := (h m hm).2.1
  bd m hm := (h m hm).2.2
  le m hm := by have := (h m hm).2.len (by omega); omega
theorem Mk.all (hk : Mk k ms) : ∀ m ∈ ms, m ≠ [] ∧ Asc k m := fun m hm => ⟨hk.ne m hm, hk.pw m hm, hk.bd m hm⟩
theorem Mk.add (hk : Mk k ms) (h : EdM k m) (ha : Asc k m) (hl : ms.length ≠ 7) : Mk k (ms ++ [m]) :=
  Mk.of hk.k1 hk.k8 (by simp) (by have := hk.l7; simp; omega) fun x hx => by
    rcases List.mem_append.mp hx with e | e
    · exact hk.all x e
    · rw [List.mem_singleton.mp e]; exact ⟨h.ne, ha⟩
theorem Mk.out (hk : Mk k ms) (hi : i < ms.length) (hl : ms.length ≠ 1) : Mk k (outM i ms) := by
  have l7 := hk.l7
  refine Mk.of hk.k1 hk.k8 (by simp [outM]; omega) (by simp [outM]; omega) fun x hx => ?_
  rcases List.mem_append.mp hx with e | e
  · exact hk.all x (List.mem_of_mem_take e)
  · exact hk.all x (List.mem_of_mem_drop e)
theorem Mk.turn (hk : Mk k ms) (hm : m ≠ []) (ha : Asc k m) (hi : i < ms.length) : Mk k (setM i m ms) := by
  have l7 := hk.l7
  refine Mk.of hk.k1 hk.k8 (by simp [setM]; omega) (by simp [setM]; omega) fun x hx => ?_
  rcases List.mem_append.mp hx with e | e
  · rcases List.mem_append.mp e with e | e
    · exact hk.all x (List.mem_of_mem_take e)
    · rw [List.mem_singleton.mp e]; exact ⟨hm, ha⟩
  · exact hk.all x (List.mem_of_mem_drop e)
theorem Mk.top (hk : Mk k ms) : ∃ M, maxL (ms.map fun m => m.getLast!) = some M ∧ 0 ≤ M ∧ M < k ∧ ∀ m ∈ ms, ∀ c ∈ m, c ≤ M := by
  have l1 := hk.l1
  obtain ⟨M, e, h1, h2⟩ := maxL_has (l := ms.map fun m => m.getLast!) (by intro z; have := congrArg List.length z; simp at this; rw [this] at l1; simp at l1)
  obtain ⟨m, hm, rfl⟩ := List.mem_map.mp h1
  have lm := last_max (hk.ne m hm) (hk.pw m hm)
  have b := hk.bd m hm _ lm.1
  exact ⟨_, e, b.1, b.2, fun m' hm' c hc => Int.le_trans ((last_max (hk.ne m' hm') (hk.pw m' hm')).2 c hc) (h2 _ (List.mem_map.mpr ⟨m', hm', rfl⟩))⟩
theorem Mk.wide (hk : Mk k ms) (hM : maxL (ms.map fun m => m.getLast!) = some M) (h1 : M < c) (h8 : c ≤ 8) : Mk c ms := by
  obtain ⟨N, e, h0, _, hb⟩ := hk.top
  rw [hM] at e
  cases e
  exact Mk.of (by omega) h8 hk.l1 hk.l7 fun x hx => ⟨hk.ne x hx, hk.pw x hx, fun d hd => ⟨(hk.bd x hx d hd).1, by have := hb x hx d hd; omega⟩⟩
inductive Ed (k : Int) (n : Nat) : IV → Prop
  | add {m : List Int} : EdM k m → Ed k n (edV "add" [tupI m])
  | drop {i : Nat} : i ≤ n → Ed k n (edV "drop" [.int i])
  | turn {i : Nat} {m : List Int} : i ≤ n → EdM k m → Ed k n (edV "turn" [.int i, tupI m])
  | widen {c : Int} : 1 ≤ c → c ≤ 9 → Ed k n (edV "widen" [.int c])
  | fold : Ed k n (edV "fold" [])
structure DStep (k : Int) (ms : List (List Int)) (ed due : IV) (k' : Int) (ms' : List (List Int)) (kept : Bool) : Prop where
  he : ∀ st, g_law_edited [nowV k ms, ed] st = some (.val due, st)
  dd : ∀ st n q A B, st[n]? = some (dC k ms q A B) → A.length < 16777216 → g_law_deed [.cell n, ed] st = some (.val due, if kept = true then st.set n (dN k ms A k' ms') else st)
  m : Mk k' ms'
  hd : (kept = true ∧ due = .tup [.str "kept", nowV k' ms']) ∨ (kept = false ∧ k' = k ∧ ms' = ms ∧ ∃ w v, due = .tup [.str w, v] ∧ (w == ("kept" : Str)) = false ∧ PyData.strOk w = true)
  c : cmpb 60 due = true
variable {k c M : Int} {ms : List (List Int)} {m : List Int} {i : Nat} {ed : IV}
theorem cmpb_now (hk : Mk k ms) {n : Nat} : cmpb (n + 3) (nowV k ms) = true := cmpb_tup.mpr ⟨by simp, fun v hv => by
  simp only [List.mem_cons, List.not_mem_nil, or_false] at hv
  rcases hv with rfl | rfl
  · rfl
  · exact hk.cmpb⟩
theorem cmpb_2 {n : Nat} {x : Str} {v : IV} (hx : PyData.strOk x = true) (h : cmpb n v = true) : cmpb (n + 1) (.tup [.str x, v]) = true := cmpb_tup.mpr ⟨by simp, fun w hw => by
  simp only [List.mem_cons, List.not_mem_nil, or_false] at hw
  rcases hw with rfl | rfl
  · exact cmpb_str hx
  · exact h⟩
theorem step_kept {k' : Int} {ms' : List (List Int)} (hk' : Mk k' ms') (h1 : ∀ st, g_law_edited [nowV k ms, ed] st = some (.val (.tup [.str "kept", nowV k' ms']), st))
    (h2 : ∀ st n q A B, st[n]? = some (dC k ms q A B) → A.length < 16777216 → g_law_deed [.cell n, ed] st = some (.val (.tup [.str "kept", nowV k' ms']), st.set n (dN k ms A k' ms'))) : ∃ due k' ms' kept, DStep k ms ed due k' ms' kept :=
  ⟨_, k', ms', true, ⟨h1, fun st n q A B e hA => by rw [if_pos rfl]; exact h2 st n q A B e hA, hk', .inl ⟨rfl, rfl⟩, cmpb_2 (n := 59) (x := "kept") (by decide +kernel) (cmpb_now (n := 56) hk')⟩⟩
theorem step_not {w : Str} {v : IV} (hk : Mk k ms) (hw : (w == ("kept" : Str)) = false) (hs : PyData.strOk w = true) (hv : cmpb 59 v = true) (h1 : ∀ st, g_law_edited [nowV k ms, ed] st = some (.val (.tup [.str w, v]), st))
    (h2 : ∀ st n q A B, st[n]? = some (dC k ms q A B) → A.length < 16777216 → g_law_deed [.cell n, ed] st = some (.val (.tup [.str w, v]), st)) : ∃ due k' ms' kept, DStep k ms ed due k' ms' kept :=
  ⟨_, k, ms, false, ⟨h1, fun st n q A B e hA => by rw [if_neg (by decide)]; exact h2 st n q A B e hA, hk, .inr ⟨rfl, rfl, rfl, w, v, rfl, hw, hs⟩, cmpb_2 hs hv⟩⟩
theorem EdM.few (h : EdM k m) (h8 : k ≤ 8) : m.length ≤ 1000000 := by
  have ha : Asc 9 m := ⟨h.pw, fun c hc => ⟨(h.bd c hc).1, by have := (h.bd c hc).2; omega⟩⟩
  have := ha.len (by decide)
  omega
theorem step (hk : Mk k ms) (h : Ed k ms.length ed) : ∃ due k' ms' kept, DStep k ms ed due k' ms' kept := by
  have l7 := hk.l7
  have l1 := hk.l1
  have k1 := hk.k1
  have k8 := hk.k8
  cases h with
  | @add m hm =>
    obtain ⟨M, hM, _, _⟩ := maxL_has hm.ne
    by_cases hq : ms.length = 7 ∨ k ≤ M
    · refine step_not (w := "mark") (v := tupI m) hk (by decide +kernel) (by decide +kernel) (cmpb_tupI (n := 58) (hm.few k8)) (fun st => by rw [ed_add l7 hM, if_pos hq]) fun st n q A B e hA => dx_add (dat_tupI m) l7 ?_ e
      rcases hq with z | z
      · exact .inr z
      · exact .inl (hm.no hM z)
    · have hlt : M < k := by omega
      exact step_kept (hk.add hm (hm.asc hM hlt) (by omega)) (fun st => by rw [ed_add l7 hM, if_neg hq]) fun st n q A B e hA => dd_add (hk.add hm (hm.asc hM hlt) (by omega)) (hm.yes hM hlt) e hA
  | @drop i hi =>
    by_cases h1 : ms.length ≤ i
    · exact step_not (w := "item") (v := .int i) hk (by decide +kernel) (by decide +kernel) rfl (fun st => by rw [ed_drop l7, if_pos h1]) fun st n q A B e hA => dx_drop rfl l7 (by simp [isIn]; omega) e
    by_cases h2 : ms.length = 1
    · have i0 : i = 0 := by omega
      subst i0
      exact step_not (w := "undefined") (v := .str "alone") hk (by decide +kernel) (by decide +kernel) (cmpb_str (by decide +kernel)) (fun st => by rw [ed_drop l7, if_neg h1, if_pos h2]) fun st n q A B e hA => dx_drop1 h2 e
    · exact step_kept (hk.out (by omega) h2) (fun st => by rw [ed_drop l7, if_neg h1, if_neg h2]) fun st n q A B e hA => dd_drop (hk.out (by omega) h2) (by omega) l7 e hA
  | @turn i m hi hm =>
    obtain ⟨M, hM, _, _⟩ := maxL_has hm.ne
    by_cases h1 : ms.length ≤ i
    · exact step_not (w := "item") (v := .int i) hk (by decide +kernel) (by decide +kernel) rfl (fun st => by rw [ed_turn l7 hM, if_pos h1]) fun st n q A B e hA => dx_turnI rfl l7 (by simp [isIn]; omega) e
    by_cases h2 : k ≤ M
    · exact step_not (w := "mark") (v := tupI m) hk (by decide +kernel) (by decide +kernel) (cmpb_tupI (n := 58) (hm.few k8)) (fun st => by rw [ed_turn l7 hM, if_neg h1, if_pos h2]) fun st n q A B e hA => dx_turnM rfl (dat_tupI m) l7 (by simp [isIn]; omega) (hm.no hM h2) e
    · have hlt : M < k := by omega
      exact step_kept (hk.turn hm.ne (hm.asc hM hlt) (by omega)) (fun st => by rw [ed_turn l7 hM, if_neg h1, if_neg h2]) fun st n q A B e hA => dd_turn (hk.turn hm.ne (hm.asc hM hlt) (by omega)) (hm.yes hM hlt) (by omega) l7 e hA
  | @widen c h1 h9 =>
    obtain ⟨M, hM, M0, Mk', _⟩ := hk.top
    by_cases hq : 8 < c ∨ c ≤ M
    · exact step_not (w := "number") (v := .int c) hk (by decide +kernel) (by decide +kernel) rfl (fun st => by rw [ed_widen hk hM, if_pos hq]) fun st n q A B e hA => dx_widen hk hM rfl (by simp [isIn]; omega) e
    · exact step_kept (hk.wide hM (by omega) (by omega)) (fun st => by rw [ed_widen hk hM, if_neg hq]) fun st n q A B e hA => dd_widen hk (hk.wide hM (by omega) (by omega)) hM (by omega) e hA
  | fold =>
    by_cases ho : k % 2 = 1
    · exact step_not (w := "undefined") (v := .str "odd") hk (by decide +kernel) (by decide +kernel) (cmpb_str (by decide +kernel)) (fun st => by rw [ed_fold hk, if_pos ho]) fun st n q A B e hA => dx_fold ho e
    · have he : k % 2 = 0 := by omega
      exact step_kept (hk.fold rfl he) (fun st => by rw [ed_fold hk, if_neg ho]) fun st n q A B e hA => dd_fold hk he e hA
end Law
end
section
set_option maxHeartbeats 2000000
namespace Law
open PySem L2 MK
local macro_rules | `(tactic| walk_at "mk1") => `(tactic| first
  | with_reducible refine Rule.ok ?_ | ((with_reducible refine' ow_fld ?hh ?h2 ?_); (case hh => first | assumption | (exact set_at (by first | assumption | (simp only [List.length_set]; assumption)))); (case h2 => first | exact dF_1 | exact dF_2 | exact dF_3 | exact dF_4 | exact dF_5))
  | ((with_reducible refine' ow_len ?hh ?h2 ?_); (case hh => first | assumption | (exact set_at (by first | assumption | (simp only [List.length_set]; assumption)))); (case h2 => first | exact dL_1 | exact dL_2)) | ((with_reducible refine' we_var ?hh ?_); (case hh => rfl))
  | with_reducible refine eq_and rfl ?_ | ((with_reducible refine len_and ?hh ?_); (case hh => simp; done)) | with_reducible refine o_mod (by omega) ?_ | with_reducible refine o_div (by omega) ?_ | with_reducible refine o_mul (by omega) (by omega) ?_
  | ((with_reducible refine' o_ixC ?hh ?h2 ?_); (case hh => assumption); (case h2 => rfl)) | ((with_reducible refine' o_ixS ?hh ?_); (case hh => assumption)) | ((with_reducible refine' o_ixT ?hh ?_); (case hh => assumption)) | ((with_reducible refine' o_ixL ?hh ?_); (case hh => assumption))
  | ((with_reducible refine' o_ixT ?hh ?_); (case hh => rfl)) | ((with_reducible refine' o_ixL ?hh ?_); (case hh => rfl)) | with_reducible refine o_pow (by decide) (by decide) ?_ | ((with_reducible refine' we_lenC ?hh ?_); (case hh => assumption))
  | ((with_reducible refine' we_tupleC ?hh ?_); (case hh => assumption)) | (refine way_t rfl ?_) | (refine way_f rfl ?_) | ((refine' Exists.intro _ (And.intro ?hh ?_)); (case hh => rfl)))
local macro_rules | `(tactic| walk_at "mk") => `(tactic| repeat walk_at "mk1")
variable {k : Int} {ms : List (List Int)} {n : Nat} {st : Sto}
theorem r_edit (hk : Mk k ms) (hb : BoxAt st n) : we (g_law_edit [.cell n, nowV k ms]) st noX fun v st' => Ed k ms.length v ∧ Only1 n st st' ∧ BoxAt st' n := by
  have l7 := hk.l7
  have k1 := hk.k1
  have k8 := hk.k8
  refine we_def (ls := [some (.cell n), some (nowV k ms), none, none, none, none, none, none]) rfl ?_
  unfold m_law_edit
  walk_at "mk"
  refine we_nox (r_pick hb .lst (by simp) (by simp)) ?_
  rintro v s2 ⟨hv, o2, hb2⟩
  walk_at "mk"
  refine ⟨⟨by omega, by omega⟩, ?_⟩
  rw [rangeI_rng]
  refine compL_inv (k := none) (fun r acc s => ∃ ns pre rest : List Int, acc = ns.map .int ∧ r = rest.map .int ∧ pre ++ rest = rngL k ∧ ns.Sublist pre ∧ Only1 n s2 s ∧ BoxAt s n) (fun _ _ _ => trivial) ?_ _ _ _ ⟨[], [], rngL k, rfl, rfl, rfl, .slnil, .refl, hb2⟩ ?_
  · rintro v r acc s ⟨ns, pre, rest, rfl, er, ep, sl, o, hb'⟩
    cases rest with
    | nil => cases er
    | cons c rest =>
      rw [List.map_cons] at er
      injection er with e1 e2
      subst e1
      subst e2
      refine ⟨trivial, _, rfl, ?_⟩
      walk_at "mk"
      refine we_nox (r_take hb' (by omega) (by omega)) ?_
      rintro v s5 ⟨q, rfl, q0, q1, o5, hb5⟩
      walk_at "mk"
      have o' := o.trans o5
      have ep' : (pre ++ [c]) ++ rest = rngL k := by rw [← ep]; simp
      refine ⟨fun _ => ?_, fun _ => ?_⟩
      · walk_at "mk"
        exact ⟨ns ++ [c], pre ++ [c], rest, by simp, rfl, ep', sl.append (List.Sublist.refl _), o', hb5⟩
      · exact ⟨ns, pre ++ [c], rest, rfl, rfl, ep', sl.trans (List.sublist_append_left _ _), o', hb5⟩
  · rintro l s ⟨ns, pre, rest, el, er, ep, sl, o, hb'⟩
    have el : l = ns.map IV.int := el
    subst el
    have rn : rest = [] := by cases rest with
      | nil => rfl
      | cons a b => cases er
    subst rn
    rw [List.append_nil] at ep
    subst ep
    have ha : Asc k ns := ⟨rngL_pw.sublist sl, fun c hc => rngL_mem.mp (sl.subset hc)⟩
    have hl := ha.len (by omega)
    refine len_and (by rw [List.length_map]; omega) ?_
    walk_at "mk"
    have en : (!veq (.tup (ns.map .int)) (.tup [])) = decide (ns ≠ []) := by cases ns <;> rfl
    refine o_ne (cmpb_tupI (n := 63) (by omega)) rfl ?_
    rw [en]
    walk_at "mk"
    refine ite_joinP (fun u s' => ∃ m, u = tupI m ∧ EdM k m ∧ Only1 n st s' ∧ BoxAt s' n) (fun h => ?_) (fun h => ?_) ?_
    · walk_at "mk"
      exact ⟨⟨of_decide_eq_true h, ha.1, fun c hc => by have := ha.2 c hc; omega⟩, o2.trans o, hb'⟩
    · walk_at "mk"
      refine we_nox (r_take hb' (by omega) (by omega)) ?_
      rintro v s5 ⟨q, rfl, q0, q1, o5, hb5⟩
      walk_at "mk"
      exact ⟨[q], rfl, ⟨by simp, by simp, fun c hc => by rw [List.mem_singleton.mp hc]; omega⟩, (o2.trans o).trans o5, hb5⟩
    rintro u s5 ⟨m, rfl, hm, o5, hb5⟩
    walk_at "mk"
    simp only [List.mem_cons, List.not_mem_nil, or_false] at hv
    have lm : ((ms.map tupI).length : Int) = ms.length := by rw [List.length_map]
    rcases hv with rfl | rfl | rfl | rfl | rfl | rfl | rfl | rfl
    · refine o_yes (by decide +kernel) ?_
      walk_at "mk"
      exact close_len (by rw [o5.len]) ⟨.add hm, o5, hb5⟩
    · refine o_yes (by decide +kernel) ?_
      walk_at "mk"
      exact close_len (by rw [o5.len]) ⟨.add hm, o5, hb5⟩
    · refine o_no (by decide +kernel) (by decide +kernel) (by decide +kernel) ?_
      walk_at "mk"
      refine o_no (by decide +kernel) (by decide +kernel) (by decide +kernel) ?_
      walk_at "mk"
      refine o_yes (by decide +kernel) ?_
      walk_at "mk"
      refine we_nox (r_take hb5 (by omega) (by omega)) ?_
      rintro v s6 ⟨q, rfl, q0, q1, o6, hb6⟩
      walk_at "mk"
      obtain ⟨i, rfl⟩ := Int.eq_ofNat_of_zero_le q0
      exact close_len (by rw [o6.len, o5.len]) ⟨.drop (by simp at q1; omega), o5.trans o6, hb6⟩
    · refine o_no (by decide +kernel) (by decide +kernel) (by decide +kernel) ?_
      walk_at "mk"
      refine o_yes (by decide +kernel) ?_
      walk_at "mk"
      refine we_nox (r_take hb5 (by omega) (by omega)) ?_
      rintro v s6 ⟨q, rfl, q0, q1, o6, hb6⟩
      walk_at "mk"
      obtain ⟨i, rfl⟩ := Int.eq_ofNat_of_zero_le q0
      exact close_len (by rw [o6.len, o5.len]) ⟨.turn (by simp at q1; omega) hm, o5.trans o6, hb6⟩
    · refine o_no (by decide +kernel) (by decide +kernel) (by decide +kernel) ?_
      walk_at "mk"
      refine o_yes (by decide +kernel) ?_
      walk_at "mk"
      refine we_nox (r_take hb5 (by omega) (by omega)) ?_
      rintro v s6 ⟨q, rfl, q0, q1, o6, hb6⟩
      walk_at "mk"
      obtain ⟨i, rfl⟩ := Int.eq_ofNat_of_zero_le q0
      exact close_len (by rw [o6.len, o5.len]) ⟨.turn (by simp at q1; omega) hm, o5.trans o6, hb6⟩
    · refine o_no (by decide +kernel) (by decide +kernel) (by decide +kernel) ?_
      walk_at "mk"
      refine o_no (by decide +kernel) (by decide +kernel) (by decide +kernel) ?_
      walk_at "mk"
      refine o_no (by decide +kernel) (by decide +kernel) (by decide +kernel) ?_
      walk_at "mk"
      refine o_yes (by decide +kernel) ?_
      walk_at "mk"
      refine we_nox (r_take hb5 (by omega) (by omega)) ?_
      rintro v s6 ⟨q, rfl, q0, q1, o6, hb6⟩
      walk_at "mk"
      exact close_len (by rw [o6.len, o5.len]) ⟨.widen (by omega) (by omega), o5.trans o6, hb6⟩
    · refine o_no (by decide +kernel) (by decide +kernel) (by decide +kernel) ?_
      walk_at "mk"
      refine o_no (by decide +kernel) (by decide +kernel) (by decide +kernel) ?_
      walk_at "mk"
      refine o_no (by decide +kernel) (by decide +kernel) (by decide +kernel) ?_
      walk_at "mk"
      refine o_yes (by decide +kernel) ?_
      walk_at "mk"
      refine we_nox (r_take hb5 (by omega) (by omega)) ?_
      rintro v s6 ⟨q, rfl, q0, q1, o6, hb6⟩
      walk_at "mk"
      exact close_len (by rw [o6.len, o5.len]) ⟨.widen (by omega) (by omega), o5.trans o6, hb6⟩
    · refine o_no (by decide +kernel) (by decide +kernel) (by decide +kernel) ?_
      walk_at "mk"
      refine o_no (by decide +kernel) (by decide +kernel) (by decide +kernel) ?_
      walk_at "mk"
      refine o_no (by decide +kernel) (by decide +kernel) (by decide +kernel) ?_
      walk_at "mk"
      refine o_no (by decide +kernel) (by decide +kernel) (by decide +kernel) ?_
      walk_at "mk"
      exact close_len (by rw [o5.len]) ⟨.fold, o5, hb5⟩
end Law
end
section
set_option maxHeartbeats 2000000
namespace Law
open PySem L2 MK
local macro_rules | `(tactic| walk_at "mk1") => `(tactic| first
  | with_reducible refine Rule.ok ?_ | ((with_reducible refine' ow_fld ?hh ?h2 ?_); (case hh => first | assumption | (exact set_at (by first | assumption | (simp only [List.length_set]; assumption)))); (case h2 => first | exact dF_1 | exact dF_2 | exact dF_3 | exact dF_4 | exact dF_5))
  | ((with_reducible refine' ow_len ?hh ?h2 ?_); (case hh => first | assumption | (exact set_at (by first | assumption | (simp only [List.length_set]; assumption)))); (case h2 => first | exact dL_1 | exact dL_2)) | ((with_reducible refine' we_var ?hh ?_); (case hh => rfl))
  | with_reducible refine eq_and rfl ?_ | ((with_reducible refine len_and ?hh ?_); (case hh => simp; done)) | with_reducible refine o_mod (by omega) ?_ | with_reducible refine o_div (by omega) ?_ | with_reducible refine o_mul (by omega) (by omega) ?_
  | ((with_reducible refine' o_ixC ?hh ?h2 ?_); (case hh => assumption); (case h2 => rfl)) | ((with_reducible refine' o_ixS ?hh ?_); (case hh => assumption)) | ((with_reducible refine' o_ixT ?hh ?_); (case hh => assumption)) | ((with_reducible refine' o_ixL ?hh ?_); (case hh => assumption))
  | ((with_reducible refine' o_ixT ?hh ?_); (case hh => rfl)) | ((with_reducible refine' o_ixL ?hh ?_); (case hh => rfl)) | with_reducible refine o_pow (by decide) (by decide) ?_ | ((with_reducible refine' we_lenC ?hh ?_); (case hh => assumption))
  | ((with_reducible refine' we_tupleC ?hh ?_); (case hh => assumption)) | (refine way_t rfl ?_) | (refine way_f rfl ?_) | ((refine' Exists.intro _ (And.intro ?hh ?_)); (case hh => rfl)))
local macro_rules | `(tactic| walk_at "mk") => `(tactic| repeat walk_at "mk1")
variable {k q : Int} {ms : List (List Int)} {A B : List IV} {n : Nat} {st : Sto} {E : EX}
theorem r_dinit (e : st[n]? = some (.own "Desk" [] [])) : g_Desk_init [.cell n, objM k ms] st = some (.val .non, st.set n (dC k ms 0 [] [])) := by
  have hn := lt_at e
  refine run_to (we_def (ls := [some (.cell n), some (objM k ms)]) rfl ?_)
  unfold m_Desk_init
  walk_at "mk"
  refine ⟨n, _, _, rfl, e, objM_pure _ _, by decide, rfl, ?_⟩
  walk_at "mk"
  refine ⟨n, _, _, rfl, set_at hn, rfl, by show 1 + 0 < 1000; decide, rfl, ?_⟩
  rw [List.set_set]
  walk_at "mk"
  refine ⟨n, _, _, rfl, set_at hn, rfl, by show 2 + 0 < 1000; decide, rfl, ?_⟩
  rw [List.set_set]
  walk_at "mk"
  refine ⟨n, _, _, rfl, set_at hn, rfl, by show 3 + 0 < 1000; decide, rfl, ?_⟩
  rw [List.set_set]
  walk_at "mk"
  refine ⟨n, _, _, rfl, set_at hn, rfl, by show 4 + 0 < 1000; decide, rfl, ?_⟩
  rw [List.set_set]
  walk_at "mk"
  refine ⟨n, _, _, rfl, set_at hn, by show 5 + 0 < 1000; decide, rfl, ?_⟩
  rw [List.set_set]
  walk_at "mk"
  refine ⟨n, _, _, rfl, set_at hn, by show 5 + 1 < 1000; decide, rfl, ?_⟩
  rw [List.set_set]
  exact close_len (by rw [List.length_set]) ⟨rfl, rfl⟩
theorem set_last {x y : CV} : (st ++ [x]).set st.length y = st ++ [y] := by
  rw [List.set_append_right _ _ (Nat.le_refl _), Nat.sub_self]
  rfl
theorem we_desk {ls : MK.Loc} {Q : IV → Sto → Prop} {ga : MA} (h : we (ga ls) st E fun l st1 => ∃ k ms, l = [objM k ms] ∧ Q (.cell st1.length) (st1 ++ [dC k ms 0 [] []])) : we (mMakeO "Desk" 2 g_Desk_init ga ls) st E Q := by
  refine we_makeO (we_mono h ?_)
  rintro l st1 ⟨k, ms, rfl, q⟩
  refine ⟨rfl, we_run (r_dinit app_get) ?_⟩
  rw [set_last]
  exact ⟨rfl, by simp, q⟩
theorem r_refused (hk : Mk k ms) (e : st[n]? = some (dC k ms q A B)) : g_law_are_refused [.cell n, nowV k ms] st = some (.val (.bl true), st) := by
  have l7 := hk.l7
  have l1 := hk.l1
  have k1 := hk.k1
  have k8 := hk.k8
  refine run_of (we_def (ls := [some (.cell n), some (nowV k ms), none, none, none, none, none]) rfl ?_)
  unfold m_law_are_refused
  walk_at "mk"
  rw [List.length_map]
  refine forL_inv (fun r ls s => ∃ x5 x6, ls = [some (.cell n), some (nowV k ms), some (.int k), some (.tup (ms.map tupI)), some (.int ms.length), x5, x6] ∧ s = st ∧ ∀ v ∈ r, dat v = true ∧ cmpb 40 v = true ∧ isIn 0 (ms.length - 1) v = false) ?_ ?_ _ _ _ ⟨none, none, rfl, rfl, ?_⟩
  rotate_left 2
  · intro v hv
    simp only [List.mem_cons, List.not_mem_nil, or_false] at hv
    rcases hv with rfl | rfl | rfl | rfl | rfl | rfl | rfl <;> refine ⟨by rfl, (by first | rfl | exact cmpb_str (by decide +kernel)), ?_⟩ <;> (first | rfl | (simp [isIn]; try omega))
  · rintro ls s ⟨x5, x6, rfl, rfl, _⟩
    refine ⟨trivial, ?_⟩
    walk_at "mk"
    refine ite_join (vt := .tup [.int (k - 1), .int 0]) (vf := .tup [.int 0, .int 0]) rfl rfl ?_
    walk_at "mk"
    refine forL_inv (fun r ls s' => ∃ x5 x6, ls = [some (.cell n), some (nowV k ms), some (.int k), some (.tup (ms.map tupI)), some (.int ms.length), x5, x6] ∧ s' = s ∧ ∀ v ∈ r, dat v = true ∧ cmpb 40 v = true ∧ isMark k v = false) ?_ ?_ _ _ _ ⟨_, _, rfl, rfl, ?_⟩
    rotate_left 2
    · intro v hv
      simp only [List.mem_cons, List.not_mem_nil, or_false] at hv
      have b : ∀ x : Int, 0 ≤ x → isMark k (.tup [.int x, .int 0]) = false := fun x hx => by
        simp [isMark, isAsc, ascI, isIn]
        omega
      rcases hv with rfl | rfl | rfl | rfl | rfl | rfl | rfl | rfl | rfl | rfl | rfl | rfl
      · exact ⟨rfl, rfl, rfl⟩
      · exact ⟨rfl, rfl, by simp [isMark, isAsc, ascI, isIn]; omega⟩
      · exact ⟨rfl, rfl, rfl⟩
      · exact ⟨rfl, rfl, b 0 (by decide)⟩
      · exact ⟨rfl, rfl, rfl⟩
      · exact ⟨rfl, rfl, by simp [isMark, isAsc, ascI, isIn]⟩
      · exact ⟨rfl, rfl, rfl⟩
      · exact ⟨rfl, rfl, rfl⟩
      · exact ⟨rfl, rfl, rfl⟩
      · exact ⟨rfl, cmpb_tup.mpr ⟨by simp, fun w hw => by rw [List.mem_singleton.mp hw]; exact cmpb_str (by decide +kernel)⟩, rfl⟩
      · exact ⟨rfl, rfl, rfl⟩
      · by_cases h : 1 < k
        · rw [if_pos (decide_eq_true h)]
          exact ⟨rfl, rfl, b _ (by omega)⟩
        · rw [if_neg (by simpa using h)]
          exact ⟨rfl, rfl, b 0 (by decide)⟩
    · rintro ls s' ⟨x5, x6, rfl, rfl, _⟩
      refine ⟨trivial, ?_⟩
      walk_at "mk"
      obtain ⟨M, hM, M0, hMk, _⟩ := hk.top
      refine compL_map (as := ms) tupI (fun _ => true) (fun m => .int m.getLast!) trivial (fun m hm => ⟨_, rfl, by walk_at "mk"; exact ⟨rfl, rfl⟩, fun _ => ?_⟩) ?_
      · walk_at "mk"
        exact we_maxTI (maxL_last (hk.ne m hm) (hk.pw m hm)) ⟨rfl, rfl⟩
      refine ⟨by rw [List.length_map]; exact Nat.le_trans (List.length_filter_le _ _) (by omega), ?_⟩
      rw [List.filter_eq_self.mpr fun _ _ => rfl]
      rw [show ms.map (fun m => IV.int m.getLast!) = (ms.map fun m => m.getLast!).map .int by rw [List.map_map]; rfl]
      walk_at "mk"
      refine we_maxL hM ?_
      walk_at "mk"
      refine forL_inv (fun r ls s => ∃ x5 x6, ls = [some (.cell n), some (nowV k ms), some (.int k), some (.tup (ms.map tupI)), some (.int ms.length), x5, x6] ∧ s = s' ∧ ∀ v ∈ r, dat v = true ∧ cmpb 40 v = true ∧ isIn (M + 1) 8 v = false) ?_ ?_ _ _ _ ⟨_, _, rfl, rfl, ?_⟩
      rotate_left 2
      · intro v hv
        simp only [List.mem_cons, List.not_mem_nil, or_false] at hv
        rcases hv with rfl | rfl | rfl | rfl | rfl | rfl | rfl <;> refine ⟨by rfl, (by first | rfl | exact cmpb_str (by decide +kernel)), ?_⟩ <;> (first | rfl | (simp [isIn]; try omega))
      · rintro ls s ⟨x5, x6, rfl, rfl, _⟩
        refine ⟨trivial, ?_⟩
        walk_at "mk"
        exact close_len rfl ⟨rfl, rfl⟩
      · rintro v r ls s ⟨x5, x6, rfl, rfl, hv⟩
        obtain ⟨hd, hc, hi⟩ := hv v List.mem_cons_self
        refine ⟨trivial, _, rfl, ?_⟩
        walk_at "mk"
        refine we_run (dx_widen hk hM hd hi e) ?_
        walk_at "mk"
        refine o_neS (cmpb_up 41 64 _ (by decide) (cmpb_2 (by decide +kernel) hc)) ?_
        walk_at "mk"
        exact ⟨_, _, rfl, rfl, fun w hw => hv w (List.mem_cons_of_mem _ hw)⟩
    · rintro v r ls s' ⟨x5, x6, rfl, rfl, hv⟩
      obtain ⟨hd, hc, hi⟩ := hv v List.mem_cons_self
      refine ⟨trivial, _, rfl, ?_⟩
      walk_at "mk"
      refine we_run (dx_add hd l7 (.inl hi) e) ?_
      walk_at "mk"
      refine o_neS (cmpb_up 41 64 _ (by decide) (cmpb_2 (by decide +kernel) hc)) ?_
      walk_at "mk"
      refine we_run (dx_turnM (v := .int 0) rfl hd l7 (by simp [isIn]; omega) hi e) ?_
      walk_at "mk"
      refine o_neS (cmpb_up 41 64 _ (by decide) (cmpb_2 (by decide +kernel) hc)) ?_
      walk_at "mk"
      exact ⟨_, _, rfl, rfl, fun w hw => hv w (List.mem_cons_of_mem _ hw)⟩
  · rintro v r ls s ⟨x5, x6, rfl, rfl, hv⟩
    obtain ⟨hd, hc, hi⟩ := hv v List.mem_cons_self
    refine ⟨trivial, _, rfl, ?_⟩
    walk_at "mk"
    refine we_run (dx_drop hd l7 hi e) ?_
    walk_at "mk"
    refine o_neS (cmpb_up 41 64 _ (by decide) (cmpb_2 (by decide +kernel) hc)) ?_
    walk_at "mk"
    refine we_run (dx_turnI hd l7 hi e) ?_
    walk_at "mk"
    refine o_neS (cmpb_up 41 64 _ (by decide) (cmpb_2 (by decide +kernel) hc)) ?_
    walk_at "mk"
    exact ⟨_, _, rfl, rfl, fun w hw => hv w (List.mem_cons_of_mem _ hw)⟩
end Law
end
section
set_option maxHeartbeats 2000000
namespace Law
open PySem L2 MK
local macro_rules | `(tactic| walk_at "mk1") => `(tactic| first
  | with_reducible refine Rule.ok ?_ | ((with_reducible refine' ow_fld ?hh ?h2 ?_); (case hh => first | assumption | (exact set_at (by first | assumption | (simp only [List.length_set]; assumption)))); (case h2 => first | exact dF_1 | exact dF_2 | exact dF_3 | exact dF_4 | exact dF_5))
  | ((with_reducible refine' ow_len ?hh ?h2 ?_); (case hh => first | assumption | (exact set_at (by first | assumption | (simp only [List.length_set]; assumption)))); (case h2 => first | exact dL_1 | exact dL_2)) | ((with_reducible refine' we_var ?hh ?_); (case hh => rfl))
  | with_reducible refine eq_and rfl ?_ | ((with_reducible refine len_and ?hh ?_); (case hh => simp; done)) | with_reducible refine o_mod (by omega) ?_ | with_reducible refine o_div (by omega) ?_ | with_reducible refine o_mul (by omega) (by omega) ?_
  | ((with_reducible refine' o_ixC ?hh ?h2 ?_); (case hh => assumption); (case h2 => rfl)) | ((with_reducible refine' o_ixS ?hh ?_); (case hh => assumption)) | ((with_reducible refine' o_ixT ?hh ?_); (case hh => assumption)) | ((with_reducible refine' o_ixL ?hh ?_); (case hh => assumption))
  | ((with_reducible refine' o_ixT ?hh ?_); (case hh => rfl)) | ((with_reducible refine' o_ixL ?hh ?_); (case hh => rfl)) | with_reducible refine o_pow (by decide) (by decide) ?_ | ((with_reducible refine' we_lenC ?hh ?_); (case hh => assumption))
  | ((with_reducible refine' we_tupleC ?hh ?_); (case hh => assumption)) | (refine way_t rfl ?_) | (refine way_f rfl ?_) | ((refine' Exists.intro _ (And.intro ?hh ?_)); (case hh => rfl)))
local macro_rules | `(tactic| walk_at "mk") => `(tactic| repeat walk_at "mk1")
structure Keep (n : Nat) (st s : Sto) : Prop where
  len : st.length ≤ s.length
  old : ∀ m, m < st.length → m ≠ n → s[m]? = st[m]?
variable {n d : Nat} {st s s' : Sto} {c : CV}
theorem Keep.refl : Keep n st st := ⟨Nat.le_refl _, fun _ _ _ => rfl⟩
theorem Keep.app (h : Keep n st s) : Keep n st (s ++ [c]) := ⟨by have := h.len; simp; omega, fun m hm hn => by rw [List.getElem?_append_left (by have := h.len; omega)]; exact h.old m hm hn⟩
theorem Keep.set (h : Keep n st s) (hd : st.length ≤ d) : Keep n st (s.set d c) := ⟨by rw [List.length_set]; exact h.len, fun m hm hn => by rw [List.getElem?_set_ne (by omega)]; exact h.old m hm hn⟩
theorem Keep.one (h : Keep n st s) (o : Only1 n s s') : Keep n st s' := ⟨by rw [o.len]; exact h.len, fun m hm hn => by rw [o.ne m hn]; exact h.old m hm hn⟩
theorem Keep.cut (h : Keep n st s) : Only1 n st (s.take st.length) := ⟨by have := h.len; rw [List.length_take]; omega, fun m hn => by
  by_cases z : m < st.length
  · rw [List.getElem?_take_of_lt z]; exact h.old m z hn
  · rw [List.getElem?_eq_none (by rw [List.length_take]; omega), List.getElem?_eq_none (by omega)]⟩
theorem BoxAt.cut (h : BoxAt s n) {k : Nat} (hk : n < k) : BoxAt (s.take k) n := by
  obtain ⟨a, b, e, h1, h2⟩ := h
  exact ⟨a, b, by rw [List.getElem?_take_of_lt hk]; exact e, h1, h2⟩
theorem BoxAt.set' (h : BoxAt s n) (hd : d ≠ n) : BoxAt (s.set d c) n := by
  obtain ⟨a, b, e, h1, h2⟩ := h
  exact ⟨a, b, by rw [List.getElem?_set_ne hd]; exact e, h1, h2⟩
theorem BoxAt.app' (h : BoxAt s n) : BoxAt (s ++ [c]) n := by
  obtain ⟨a, b, e, h1, h2⟩ := h
  exact ⟨a, b, by rw [List.getElem?_append_left (List.getElem?_eq_some_iff.mp e).1]; exact e, h1, h2⟩
variable {k q : Int} {ms : List (List Int)} {A B : List IV} {n : Nat} {st : Sto} {E : EX}
theorem one_mark {c : Int} (h0 : 0 ≤ c) (h1 : c < k) : Asc k [c] ∧ isMark k (tupI [c]) = true :=
  ⟨⟨by simp, fun d hd => by rw [List.mem_singleton.mp hd]; exact ⟨h0, h1⟩⟩, EdM.yes (M := c) ⟨by simp, by simp, fun d hd => by rw [List.mem_singleton.mp hd]; omega⟩ rfl h1⟩
theorem now_pure (hk : Mk k ms) : (nowV k ms).pure = true := dat_pure _ (cmpb_dat 3 _ (cmpb_now (n := 0) hk))
theorem tup_set {i : Nat} {m : List Int} : (ms.map tupI).take i ++ [tupI m] ++ (ms.map tupI).drop (i + 1) = (setM i m ms).map tupI := by rw [setM, List.map_append, List.map_append, List.map_take, List.map_drop]; rfl
theorem r_deep (hk : Mk k ms) (hb : BoxAt st n) : we (g_law_is_deep [.cell n, nowV k ms]) st noX fun v st' => v = .bl true ∧ Only1 n st st' ∧ BoxAt st' n := by
  have hn := hb.lt
  have k1 := hk.k1
  have k8 := hk.k8
  refine we_def (ls := [some (.cell n), some (nowV k ms), none, none, none, none, none]) rfl ?_
  unfold m_law_is_deep
  walk_at "mk"
  refine we_desk ?_
  walk_at "mk"
  refine we_run (r_made hk.cmpb hk.isIn hk.marks) ?_
  walk_at "mk"
  refine ⟨k, ms, rfl, ?_⟩
  walk_at "mk"
  refine we_newT (by simp [pureL, now_pure hk]) ?_
  have D : st.length ≠ n := by omega
  have S : st.length + 1 ≠ n := by omega
  walk_at "mk"
  refine ⟨by decide, ?_⟩
  refine forL_inv (fun r ls s => ∃ msj Aj f x4 x5 x6, ls = [some (.cell n), some (nowV k ms), some (.cell st.length), some (.cell (st.length + 1)), x4, x5, x6] ∧ Mk k msj ∧ s[st.length]? = some (dC k msj Aj.length Aj []) ∧ s[st.length + 1]? = some (.lst (f ++ [nowV k msj])) ∧
    f.length = Aj.length ∧ Aj.length + r.length = 60 ∧ (∀ v ∈ r, ∃ j : Int, v = .int j) ∧ BoxAt s n ∧ Keep n st s) ?_ ?_ _ _ _ ?_
  rotate_left 2
  · refine ⟨ms, [], [], none, none, none, by simp, hk, by simp, by simp, rfl, by decide, ?_, hb.app'.app', Keep.refl.app.app⟩
    intro v hv
    rw [rangeI_map] at hv
    obtain ⟨j, _, rfl⟩ := List.mem_map.mp hv
    exact ⟨j, rfl⟩
  · rintro ls s ⟨msj, Aj, f, x4, x5, x6, rfl, hm, eD, eS, hf, hA, _, hb', K⟩
    refine ⟨trivial, ?_⟩
    walk_at "mk"
    have hA : Aj.length = 60 := by simpa using hA
    rw [int_eq (show (Aj.length : Int) = 60 by omega)]
    refine ⟨fun h => absurd h (by decide), fun _ => ?_⟩
    walk_at "mk"
    refine we_run (r_now eD) ?_
    walk_at "mk"
    refine o_ixC eS (v := nowV k msj) (atI_get (by decide) ?_) ?_
    · show (f ++ [nowV k msj])[60]? = _
      rw [← hA, ← hf]
      simp
    refine o_neS (cmpb_now (n := 61) hm) ?_
    walk_at "mk"
    exact close_pure rfl ⟨rfl, K.cut, hb'.cut hn⟩ K.len
  · rintro v r ls s ⟨msj, Aj, f, x4, x5, x6, rfl, hm, eD, eS, hf, hA, hr, hb', K⟩
    obtain ⟨j, rfl⟩ := hr v List.mem_cons_self
    refine ⟨trivial, _, rfl, ?_⟩
    walk_at "mk"
    refine we_nox (r_take hb' (by omega) (by omega)) ?_
    rintro v s5 ⟨c, rfl, c0, c1, o5, hb5⟩
    walk_at "mk"
    have l1 := hm.l1
    have l7 := hm.l7
    have eS5 : s5[st.length + 1]? = some (.lst (f ++ [nowV k msj])) := by rw [o5.ne _ S]; exact eS
    have eD5 : s5[st.length]? = some (dC k msj Aj.length Aj []) := by rw [o5.ne _ D]; exact eD
    refine o_ixC eS5 (v := nowV k msj) (by rw [atI_last (by simp)]; simp) ?_
    walk_at "mk"
    have nz : ((msj.map tupI).length : Int) ≠ 0 := by rw [List.length_map]; omega
    have pz : (0 : Int) < (msj.map tupI).length := by rw [List.length_map]; omega
    have b1 := Int.emod_lt_of_pos j pz
    obtain ⟨i, hi⟩ := Int.eq_ofNat_of_zero_le (Int.emod_nonneg j nz)
    have hi' : i < msj.length := by rw [hi, List.length_map] at b1; omega
    have MO := one_mark c0 c1
    have hm' := hm.turn (by simp) MO.1 hi'
    refine ⟨st.length, _, _, rfl, eD5, rfl, rfl, ?_⟩
    walk_at "mk"
    rw [hi]
    walk_at "mk"
    refine ⟨rfl, we_run (r_turn (m := [c]) hm' MO.2 hi' l7 eD5 (by have := hA; simp at this; omega)) ?_⟩
    walk_at "mk"
    have eS6 : (s5.set st.length (dN k msj Aj k (setM i [c] msj)))[st.length + 1]? = some (.lst (f ++ [nowV k msj])) := by rw [List.getElem?_set_ne (by omega)]; exact eS5
    refine ⟨st.length + 1, _, rfl, eS6, ?_⟩
    walk_at "mk"
    rw [hi, cut_take (by omega), show (i : Int).toNat = i by omega]
    refine o_addT (by simp; omega) ?_
    walk_at "mk"
    rw [hi, cut_drop (by omega), show ((i : Int) + 1).toNat = i + 1 by omega]
    refine o_addT (by simp; omega) ?_
    rw [show (msj.map tupI).take i ++ [IV.tup [.int c]] ++ (msj.map tupI).drop (i + 1) = (setM i [c] msj).map tupI from tup_set (ms := msj) (i := i) (m := [c])]
    walk_at "mk"
    refine we_app eS6 (now_pure hm') (by simp; have := hA; simp at this; omega) ?_
    have sz : st.length + 1 < s5.length := lt_at eS5
    refine ⟨setM i [c] msj, Aj ++ [pD k msj], f ++ [nowV k msj], _, _, _, rfl, hm', ?_, set_at (by rw [List.length_set]; exact sz), by simp [hf], by simp at hA ⊢; omega, fun w hw => hr w (List.mem_cons_of_mem _ hw), (hb5.set' D).set' S, ((K.one o5).set (Nat.le_refl _)).set (by omega)⟩
    rw [List.getElem?_set_ne (by omega), List.length_append]
    exact set_at (by omega)
end Law
end
section
set_option maxHeartbeats 2000000
namespace Law
open PySem L2 MK
local macro_rules | `(tactic| walk_at "mk1") => `(tactic| first
  | with_reducible refine Rule.ok ?_ | ((with_reducible refine' ow_fld ?hh ?h2 ?_); (case hh => first | assumption | (exact set_at (by first | assumption | (simp only [List.length_set]; assumption)))); (case h2 => first | exact dF_1 | exact dF_2 | exact dF_3 | exact dF_4 | exact dF_5))
  | ((with_reducible refine' ow_len ?hh ?h2 ?_); (case hh => first | assumption | (exact set_at (by first | assumption | (simp only [List.length_set]; assumption)))); (case h2 => first | exact dL_1 | exact dL_2)) | ((with_reducible refine' we_var ?hh ?_); (case hh => rfl))
  | with_reducible refine eq_and rfl ?_ | ((with_reducible refine len_and ?hh ?_); (case hh => simp; done)) | with_reducible refine o_mod (by omega) ?_ | with_reducible refine o_div (by omega) ?_ | with_reducible refine o_mul (by omega) (by omega) ?_
  | ((with_reducible refine' o_ixC ?hh ?h2 ?_); (case hh => assumption); (case h2 => rfl)) | ((with_reducible refine' o_ixS ?hh ?_); (case hh => assumption)) | ((with_reducible refine' o_ixT ?hh ?_); (case hh => assumption)) | ((with_reducible refine' o_ixL ?hh ?_); (case hh => assumption))
  | ((with_reducible refine' o_ixT ?hh ?_); (case hh => rfl)) | ((with_reducible refine' o_ixL ?hh ?_); (case hh => rfl)) | with_reducible refine o_pow (by decide) (by decide) ?_ | ((with_reducible refine' we_lenC ?hh ?_); (case hh => assumption))
  | ((with_reducible refine' we_tupleC ?hh ?_); (case hh => assumption)) | (refine way_t rfl ?_) | (refine way_f rfl ?_) | ((refine' Exists.intro _ (And.intro ?hh ?_)); (case hh => rfl)))
local macro_rules | `(tactic| walk_at "mk") => `(tactic| repeat walk_at "mk1")
def dP (k : Int) (G : List (List (List Int))) (p : Nat) : CV := dC k (G.getD p []) p ((G.take p).map (pD k)) ((G.drop (p + 1)).reverse.map (pD k))
variable {k q : Int} {ms : List (List Int)} {A B : List IV} {n p : Nat} {st : Sto} {G : List (List (List Int))}
theorem getD_at (h : p < G.length) : G.getD p [] = G[p] := by rw [List.getD_eq_getElem?_getD, List.getElem?_eq_getElem h]; rfl
theorem take_at (h : p < G.length) : (G.take (p + 1)).map (pD k) = (G.take p).map (pD k) ++ [pD k (G.getD p [])] := by
  rw [List.take_succ_eq_append_getElem h, List.map_append, getD_at h]
  rfl
theorem drop_at (h : p < G.length) : (G.drop p).reverse.map (pD k) = (G.drop (p + 1)).reverse.map (pD k) ++ [pD k (G.getD p [])] := by
  rw [List.drop_eq_getElem_cons h, List.reverse_cons, List.map_append, getD_at h]
  rfl
theorem undo_at (hp : p + 1 < G.length) (hG : G.length ≤ 1000) (e : st[n]? = some (dP k G (p + 1))) : g_Desk_undo [.cell n] st = some (.val .non, st.set n (dP k G p)) := by
  have := r_undo (st := st) (n := n) (k := k) (ms := G.getD (p + 1) []) (k0 := k) (ms0 := G.getD p []) (A0 := (G.take p).map (pD k)) (take_at (k := k) (by omega : p < G.length)) (by simp; omega) e
  rw [this, ← drop_at hp, List.length_map, List.length_take, Nat.min_eq_left (by omega)]
  rfl
theorem redo_at (hp : p + 1 < G.length) (hG : G.length ≤ 1000) (e : st[n]? = some (dP k G p)) : g_Desk_redo [.cell n] st = some (.val .non, st.set n (dP k G (p + 1))) := by
  have := r_redo (st := st) (n := n) (k := k) (ms := G.getD p []) (k0 := k) (ms0 := G.getD (p + 1) []) (B0 := (G.drop (p + 2)).reverse.map (pD k)) (drop_at (k := k) hp) (by simp; omega) e
  rw [this, ← take_at (by omega : p < G.length), List.length_map, List.length_take, Nat.min_eq_left (by omega)]
  rfl
theorem r_back (hk : Mk k ms) (hb : BoxAt st n) : we (g_law_is_walked_back [.cell n, nowV k ms]) st noX fun v st' => v = .bl true ∧ Only1 n st st' ∧ BoxAt st' n := by
  have hn := hb.lt
  have k1 := hk.k1
  have k8 := hk.k8
  refine we_def (ls := [some (.cell n), some (nowV k ms), none, none, none, none, none, none]) rfl ?_
  unfold m_law_is_walked_back
  walk_at "mk"
  refine we_desk ?_
  walk_at "mk"
  refine we_run (r_made hk.cmpb hk.isIn hk.marks) ?_
  walk_at "mk"
  refine ⟨k, ms, rfl, ?_⟩
  walk_at "mk"
  refine we_newT (by simp [pureL, now_pure hk]) ?_
  have D : st.length ≠ n := by omega
  have S : st.length + 1 ≠ n := by omega
  walk_at "mk"
  refine ⟨by decide, ?_⟩
  refine forL_inv (fun r ls s => ∃ msj H x4 x5 x6 x7, ls = [some (.cell n), some (nowV k ms), some (.cell st.length), some (.cell (st.length + 1)), x4, x5, x6, x7] ∧ (∀ m ∈ H ++ [msj], Mk k m) ∧ s[st.length]? = some (dC k msj (H.length : Nat) (H.map (pD k)) []) ∧ s[st.length + 1]? = some (.lst ((H ++ [msj]).map (nowV k))) ∧
    H.length + r.length = 20 ∧ BoxAt s n ∧ Keep n st s) ?_ ?_ _ _ _ ?_
  rotate_left 2
  · exact ⟨ms, [], none, none, none, none, by simp, fun m hm => by rw [List.mem_singleton.mp hm]; exact hk, by simp, by simp, by decide, hb.app'.app', Keep.refl.app.app⟩
  · rintro ls s ⟨msj, H, x4, x5, x6, x7, rfl, hm, eD, eS, hH, hb', K⟩
    refine ⟨trivial, ?_⟩
    have hH : H.length = 20 := by simpa using hH
    walk_at "mk"
    obtain ⟨G, hG⟩ : ∃ G, G = H ++ [msj] := ⟨_, rfl⟩
    have lG : G.length = 21 := by rw [hG]; simp [hH]
    have eD : s[st.length]? = some (dP k G 20) := by
      rw [eD, hG]
      unfold dP
      rw [List.drop_of_length_le (by simp [hH]), show (H ++ [msj]).getD 20 [] = msj by rw [List.getD_eq_getElem?_getD, List.getElem?_append_right (by omega), hH]; rfl, List.take_left' hH, hH]
      rfl
    rw [← hG] at eS hm
    clear hG
    have hmk : ∀ p, p < 21 → Mk k (G.getD p []) := fun p hp => hm _ (by rw [getD_at (by omega)]; exact List.getElem_mem _)
    have now_at : ∀ (s : Sto) (p : Nat) (Q : IV → Prop), p < 21 → s[st.length + 1]? = some (.lst (G.map (nowV k))) → Q (nowV k (G.getD p [])) → ∃ w, itemI s (.cell (st.length + 1)) (.int p) = some w ∧ Q w := fun s p Q hp es q =>
      o_ixC es (v := nowV k (G.getD p [])) (atI_get (by omega) (by rw [show ((p : Int)).toNat = p by omega, List.getElem?_map, List.getElem?_eq_getElem (by omega), getD_at (by omega)]; rfl)) q
    refine ⟨by decide, ?_⟩
    refine forL_inv (fun r ls s => ∃ (j : Nat) (x4 x5 x6 x7 : Option IV), ls = [some (.cell n), some (nowV k ms), some (.cell st.length), some (.cell (st.length + 1)), x4, x5, x6, x7] ∧ r = (rangeI 0 20).drop j ∧ j ≤ 20 ∧ s[st.length]? = some (dP k G (20 - j)) ∧ s[st.length + 1]? = some (.lst (G.map (nowV k))) ∧ BoxAt s n ∧ Keep n st s) ?_ ?_ _ _ _ ⟨0, x4, x5, x6, x7, rfl, rfl, by decide, eD, eS, hb', K⟩
    · rintro ls s ⟨j, y4, y5, y6, y7, rfl, er, hj, eD, eS, hb', K⟩
      refine ⟨trivial, ?_⟩
      have := drop_end er
      have j20 : j = 20 := by omega
      subst j20
      walk_at "mk"
      refine ⟨by decide, ?_⟩
      refine forL_inv (fun r ls s => ∃ (j : Nat) (x4 x5 x6 x7 : Option IV), ls = [some (.cell n), some (nowV k ms), some (.cell st.length), some (.cell (st.length + 1)), x4, x5, x6, x7] ∧ r = (rangeI 0 20).drop j ∧ j ≤ 20 ∧ s[st.length]? = some (dP k G j) ∧ s[st.length + 1]? = some (.lst (G.map (nowV k))) ∧ BoxAt s n ∧ Keep n st s) ?_ ?_ _ _ _ ⟨0, _, _, _, _, rfl, rfl, by decide, eD, eS, hb', K⟩
      · rintro ls s ⟨j, y4, y5, y6, y7, rfl, er, hj, eD, eS, hb', K⟩
        refine ⟨trivial, ?_⟩
        walk_at "mk"
        exact close_pure rfl ⟨rfl, K.cut, hb'.cut hn⟩ K.len
      · rintro v r ls s ⟨j, y4, y5, y6, y7, rfl, er, hj, eD, eS, hb', K⟩
        obtain ⟨rfl, hr, hj'⟩ := drop_rangeI er
        refine ⟨trivial, _, rfl, ?_⟩
        walk_at "mk"
        refine ⟨st.length, _, _, rfl, eD, rfl, rfl, ?_⟩
        walk_at "mk"
        have sl := lt_at eD
        have e1 : (s.set st.length (dP k G (j + 1)))[st.length]? = some (dC k (G.getD (j + 1) []) (j + 1 : Nat) ((G.take (j + 1)).map (pD k)) ((G.drop (j + 1 + 1)).reverse.map (pD k))) := set_at sl
        have e2 : (s.set st.length (dP k G (j + 1)))[st.length + 1]? = some (.lst (G.map (nowV k))) := by rw [List.getElem?_set_ne (by omega)]; exact eS
        refine ⟨rfl, we_run (redo_at (by omega) (by omega) eD) ?_⟩
        walk_at "mk"
        refine we_run (r_now e1) ?_
        walk_at "mk"
        rw [show (0 + (j : Int) + 1) = ((j + 1 : Nat) : Int) by omega]
        refine now_at _ (j + 1) _ (by omega) e2 ?_
        refine o_neS (cmpb_now (n := 61) (hmk _ (by omega))) ?_
        walk_at "mk"
        rw [int_eq (show ((j + 1 : Nat) : Int) = 0 + (j : Int) + 1 by omega)]
        refine ⟨fun h => absurd h (by decide), fun _ => ?_⟩
        walk_at "mk"
        exact ⟨j + 1, _, _, _, _, rfl, hr, by omega, set_at sl, e2, hb'.set' D, K.set (Nat.le_refl _)⟩
    · rintro v r ls s ⟨j, y4, y5, y6, y7, rfl, er, hj, eD, eS, hb', K⟩
      obtain ⟨rfl, hr, hj'⟩ := drop_rangeI er
      refine ⟨trivial, _, rfl, ?_⟩
      walk_at "mk"
      obtain ⟨p, hp⟩ : ∃ p, 20 - j = p + 1 := ⟨19 - j, by omega⟩
      rw [hp] at eD
      refine ⟨st.length, _, _, rfl, eD, rfl, rfl, ?_⟩
      walk_at "mk"
      have sl := lt_at eD
      have e1 : (s.set st.length (dP k G p))[st.length]? = some (dC k (G.getD p []) p ((G.take p).map (pD k)) ((G.drop (p + 1)).reverse.map (pD k))) := set_at sl
      have e2 : (s.set st.length (dP k G p))[st.length + 1]? = some (.lst (G.map (nowV k))) := by rw [List.getElem?_set_ne (by omega)]; exact eS
      refine ⟨rfl, we_run (undo_at (by omega) (by omega) eD) ?_⟩
      walk_at "mk"
      refine we_run (r_now e1) ?_
      walk_at "mk"
      rw [show (19 - (0 + (j : Int))) = (p : Int) by omega]
      refine now_at _ p _ (by omega) e2 ?_
      refine o_neS (cmpb_now (n := 61) (hmk _ (by omega))) ?_
      walk_at "mk"
      rw [int_eq (show (p : Int) = 19 - (0 + (j : Int)) by omega)]
      refine ⟨fun h => absurd h (by decide), fun _ => ?_⟩
      walk_at "mk"
      refine ⟨j + 1, _, _, _, _, rfl, hr, by omega, ?_, e2, hb'.set' D, K.set (Nat.le_refl _)⟩
      rw [show 20 - (j + 1) = p by omega]
      exact set_at sl
  · rintro v r ls s ⟨msj, H, x4, x5, x6, x7, rfl, hG, eD, eS, hH, hb', K⟩
    have hm := hG msj (by simp)
    have l1 := hm.l1
    have l7 := hm.l7
    have hH' : H.length < 20 := by simp at hH; omega
    refine ⟨trivial, _, rfl, ?_⟩
    walk_at "mk"
    refine o_ixC eS (v := nowV k msj) (by rw [atI_last (by simp)]; simp) ?_
    walk_at "mk"
    refine we_nox (r_take hb' (by rw [List.length_map]; omega) (by rw [List.length_map]; omega)) ?_
    rintro v s4 ⟨i, rfl, i0, i1, o4, hb4⟩
    rw [List.length_map] at i1
    obtain ⟨i, rfl⟩ := Int.eq_ofNat_of_zero_le i0
    have hi' : i < msj.length := by omega
    walk_at "mk"
    refine we_nox (r_take hb4 (by omega) (by omega)) ?_
    rintro v s5 ⟨c, rfl, c0, c1, o5, hb5⟩
    have MO := one_mark c0 c1
    have hm' := hm.turn (by simp) MO.1 hi'
    have eS5 : s5[st.length + 1]? = some (.lst ((H ++ [msj]).map (nowV k))) := by rw [o5.ne _ S, o4.ne _ S]; exact eS
    have eD5 : s5[st.length]? = some (dC k msj (H.length : Nat) (H.map (pD k)) []) := by rw [o5.ne _ D, o4.ne _ D]; exact eD
    walk_at "mk"
    refine ⟨st.length, _, _, rfl, eD5, rfl, rfl, ?_⟩
    walk_at "mk"
    refine ⟨rfl, we_run (r_turn (m := [c]) hm' MO.2 hi' l7 eD5 (by rw [List.length_map]; omega)) ?_⟩
    walk_at "mk"
    have eS6 : (s5.set st.length (dN k msj (H.map (pD k)) k (setM i [c] msj)))[st.length + 1]? = some (.lst ((H ++ [msj]).map (nowV k))) := by rw [List.getElem?_set_ne (by omega)]; exact eS5
    refine ⟨st.length + 1, _, rfl, eS6, ?_⟩
    walk_at "mk"
    rw [cut_take (by omega), show (i : Int).toNat = i by omega]
    refine o_addT (by simp; omega) ?_
    walk_at "mk"
    rw [cut_drop (by omega), show ((i : Int) + 1).toNat = i + 1 by omega]
    refine o_addT (by simp; omega) ?_
    rw [show (msj.map tupI).take i ++ [IV.tup [.int c]] ++ (msj.map tupI).drop (i + 1) = (setM i [c] msj).map tupI from tup_set (ms := msj) (i := i) (m := [c])]
    walk_at "mk"
    refine we_app eS6 (now_pure hm') (by simp; omega) ?_
    have sz : st.length + 1 < s5.length := lt_at eS5
    refine ⟨setM i [c] msj, H ++ [msj], _, _, _, _, rfl, ?_, ?_, ?_, by simp at hH ⊢; omega, (hb5.set' D).set' S, (((K.one o4).one o5).set (Nat.le_refl _)).set (by omega)⟩
    · intro m hm2
      rcases List.mem_append.mp hm2 with z | z
      · exact hG m z
      · rw [List.mem_singleton.mp z]; exact hm'
    · rw [List.getElem?_set_ne (by omega), set_at (by omega)]
      show some (dC k (setM i [c] msj) ((H.map (pD k)).length + 1 : Nat) (H.map (pD k) ++ [pD k msj]) []) = _
      rw [List.length_map, List.length_append, List.map_append]
      rfl
    · rw [set_at (by rw [List.length_set]; exact sz), List.map_append (l₁ := H ++ [msj])]
      rfl
end Law
end
section
set_option maxHeartbeats 2000000
namespace Law
open PySem L2 MK
local macro_rules | `(tactic| walk_at "mk1") => `(tactic| first
  | with_reducible refine Rule.ok ?_ | ((with_reducible refine' ow_fld ?hh ?h2 ?_); (case hh => first | assumption | (exact set_at (by first | assumption | (simp only [List.length_set]; assumption)))); (case h2 => first | exact dF_1 | exact dF_2 | exact dF_3 | exact dF_4 | exact dF_5))
  | ((with_reducible refine' ow_len ?hh ?h2 ?_); (case hh => first | assumption | (exact set_at (by first | assumption | (simp only [List.length_set]; assumption)))); (case h2 => first | exact dL_1 | exact dL_2)) | ((with_reducible refine' we_var ?hh ?_); (case hh => rfl))
  | with_reducible refine eq_and rfl ?_ | ((with_reducible refine len_and ?hh ?_); (case hh => simp; done)) | with_reducible refine o_mod (by omega) ?_ | with_reducible refine o_div (by omega) ?_ | with_reducible refine o_mul (by omega) (by omega) ?_
  | ((with_reducible refine' o_ixC ?hh ?h2 ?_); (case hh => assumption); (case h2 => rfl)) | ((with_reducible refine' o_ixS ?hh ?_); (case hh => assumption)) | ((with_reducible refine' o_ixT ?hh ?_); (case hh => assumption)) | ((with_reducible refine' o_ixL ?hh ?_); (case hh => assumption))
  | ((with_reducible refine' o_ixT ?hh ?_); (case hh => rfl)) | ((with_reducible refine' o_ixL ?hh ?_); (case hh => rfl)) | with_reducible refine o_pow (by decide) (by decide) ?_ | ((with_reducible refine' we_lenC ?hh ?_); (case hh => assumption))
  | ((with_reducible refine' we_tupleC ?hh ?_); (case hh => assumption)) | (refine way_t rfl ?_) | (refine way_f rfl ?_) | ((refine' Exists.intro _ (And.intro ?hh ?_)); (case hh => rfl)))
local macro_rules | `(tactic| walk_at "mk") => `(tactic| repeat walk_at "mk1")
variable {k k' q q' : Int} {ms ms' : List (List Int)} {A A' B B' : List IV} {n n' : Nat} {st : Sto}
theorem cmpb_sD (hk : Mk k ms) {a b : Nat} : cmpb 63 (sD k ms a b) = true := cmpb_tup.mpr ⟨by simp, fun v hv => by
  simp only [List.mem_cons, List.not_mem_nil, or_false] at hv
  rcases hv with rfl | rfl | rfl | rfl | rfl | rfl
  · rfl
  · exact hk.cmpb
  · rfl
  · rfl
  · rfl
  · rfl⟩
theorem r_same (hk : Mk k ms) (hk' : Mk k' ms') (e : st[n]? = some (dC k ms q A B)) (e' : st[n']? = some (dC k' ms' q' A' B')) :
    g_same_state [.cell n, .cell n'] st = some (.val (.bl (veq (sD k ms A.length B.length) (sD k' ms' A'.length B'.length))), st) := by
  refine run_of (we_def (ls := [some (.cell n), some (.cell n')]) rfl ?_)
  unfold m_same_state
  walk_at "mk"
  refine ⟨n, _, _, rfl, e, rfl, rfl, ?_⟩
  walk_at "mk"
  refine ⟨rfl, we_run (r_state e) ?_⟩
  walk_at "mk"
  refine ⟨n', _, _, rfl, e', rfl, rfl, ?_⟩
  walk_at "mk"
  refine ⟨rfl, we_run (r_state e') ?_⟩
  refine o_eq (cmpb_up 63 64 _ (by decide) (cmpb_sD hk)) (cmpb_up 63 64 _ (by decide) (cmpb_sD hk')) ?_
  walk_at "mk"
  exact close_len rfl ⟨rfl, rfl⟩
theorem same_yes (hk : Mk k ms) (e : st[n]? = some (dC k ms q A B)) (e' : st[n']? = some (dC k ms q' A B)) : g_same_state [.cell n, .cell n'] st = some (.val (.bl true), st) := by
  rw [r_same hk hk e e', veq_refl _ (cmpb_dat _ _ (cmpb_sD hk))]
theorem sD_one {k : Int} {ms : List (List Int)} {a : Nat} : veq (sD k ms a 0) (sD 1 [[0]] 0 0) = (veq (nowV k ms) (.tup [.int 1, .tup [.tup [.int 0]]]) && decide (a = 0)) := by
  have e : ((a : Int) == 0) = decide (a = 0) := by
    by_cases h : a = 0
    · subst h; rfl
    · rw [decide_eq_false h]
      exact beq_eq_false_iff_ne.mpr (by omega)
  simp only [sD, nowV, veq, veqL, tupI, Bool.and_assoc, Bool.and_true, List.map_cons, List.map_nil]
  rw [show ((0 : Nat) : Int) = 0 from rfl, e]
  simp
theorem mk10 : Mk 1 [[0]] := Mk.of (by decide) (by decide) (by decide) (by decide) fun m hm => by
  rw [List.mem_singleton.mp hm]
  exact ⟨by simp, by simp, fun c hc => by rw [List.mem_singleton.mp hc]; decide⟩
theorem r_law (ns : List Int) (hl : ns.length ≤ 63) : we (g_law [.scr (ns.map .int)]) [] noX fun v _ => v = .bl true := by
  refine we_def (ls := [some (.scr (ns.map .int)), none, none, none, none, none, none, none, none, none, none, none, none]) rfl ?_
  unfold m_law
  walk_at "mk"
  refine we_nox (r_marking hl (by decide)) ?_
  rintro v st' ⟨rfl, k, l, rfl, k1, k8, l1, l7, hm'⟩
  obtain ⟨ms, rfl, hk⟩ := mk_of k1 k8 l1 l7 hm'
  clear hm' l1 l7 k1 k8
  walk_at "mk"
  refine we_nox (r_box hl (by decide) (by decide)) ?_
  rintro v s1 ⟨n, rfl, rfl, gr, hlen, hb⟩
  walk_at "mk"
  refine we_run (r_made hk.cmpb hk.isIn hk.marks) ?_
  walk_at "mk"
  have L1 : s1.length = 1 := by simpa using hlen
  refine we_desk ?_
  walk_at "mk"
  refine ⟨k, ms, rfl, ?_⟩
  walk_at "mk"
  refine we_desk ?_
  walk_at "mk"
  refine ⟨k, ms, rfl, ?_⟩
  walk_at "mk"
  refine we_desk ?_
  walk_at "mk"
  refine we_mk ?_
  walk_at "mk"
  refine ⟨1, [tupI [0]], rfl, by decide, by decide, mk10.marks, ?_⟩
  walk_at "mk"
  refine ⟨1, [[0]], rfl, ?_⟩
  obtain ⟨s0, hs0⟩ : ∃ s0, s0 = s1 ++ [dC k ms 0 [] []] ++ [dC k ms 0 [] []] ++ [dC 1 [[0]] 0 [] []] := ⟨_, rfl⟩
  rw [← hs0, show (s1 ++ [dC k ms 0 [] []] ++ [dC k ms 0 [] []]).length = 3 by simp [L1], show (s1 ++ [dC k ms 0 [] []]).length = 2 by simp [L1], L1]
  have e1 : s0[1]? = some (dC k ms (([] : List IV).length : Nat) [] []) := by rw [hs0]; simp [L1]
  have e2 : s0[2]? = some (dC k ms (([] : List IV).length : Nat) [] []) := by rw [hs0]; simp [L1]
  have e3 : s0[3]? = some (dC 1 [[0]] 0 [] []) := by rw [hs0]; simp [L1]
  have hb0 : BoxAt s0 0 := by rw [hs0]; exact hb.app'.app'.app'
  clear hs0 hb gr hlen
  walk_at "mk"
  refine we_run (same_yes hk e1 e2) ?_
  walk_at "mk"
  refine ⟨1, _, _, rfl, e1, rfl, rfl, ?_⟩
  walk_at "mk"
  refine ⟨rfl, we_run (r_report e1) ?_⟩
  walk_at "mk"
  refine o_eqId e1 e2 ?_
  walk_at "mk"
  refine o_eqId e1 e1 ?_
  walk_at "mk"
  refine we_nox (r_take hb0 (by decide) (by decide)) ?_
  rintro v t0 ⟨z, rfl, z0, z1, o0, ht0⟩
  walk_at "mk"
  refine ite_joinP (fun u t => ∃ N : Nat, u = .int N ∧ N ≤ 60 ∧ Only1 0 s0 t ∧ BoxAt t 0) (fun _ => ?_) (fun _ => ?_) ?_
  · walk_at "mk"
    refine we_nox (r_take ht0 (by decide) (by decide)) ?_
    rintro v t ⟨y, rfl, y0, y1, o1, ht⟩
    obtain ⟨y, rfl⟩ := Int.eq_ofNat_of_zero_le y0
    walk_at "mk"
    exact ⟨by show 5 + y ≤ 60; omega, o0.trans o1, ht⟩
  · walk_at "mk"
    exact ⟨by decide, o0, ht0⟩
  rintro u t ⟨N, rfl, hN, o, ht⟩
  clear ht0 o0 z0 z1
  have f1 : t[1]? = some (dC k ms (([] : List IV).length : Nat) [] []) := by rw [o.ne 1 (by decide)]; exact e1
  have f2 : t[2]? = some (dC k ms (([] : List IV).length : Nat) [] []) := by rw [o.ne 2 (by decide)]; exact e2
  have f3 : t[3]? = some (dC 1 [[0]] 0 [] []) := by rw [o.ne 3 (by decide)]; exact e3
  clear e1 e2 e3 o hb0
  walk_at "mk"
  refine ⟨⟨by omega, by omega⟩, ?_⟩
  obtain ⟨mv, hmv⟩ : ∃ mv, mv = IV.obj "Marking" (mkObj k (ms.map tupI)) := ⟨_, rfl⟩
  rw [← hmv]
  clear hmv
  refine forL_inv (fun r ls s => ∃ k ms A x8 x9 x10 x11 x12, ls = [some (.scr (ns.map .int)), some (nowV k ms), some (.cell 0), some mv, some (.cell 1), some (.cell 2), some (.cell 3), some (.int (A : List IV).length), x8, x9, x10, x11, x12] ∧ Mk k ms ∧ s[1]? = some (dC k ms A.length A []) ∧ s[2]? = some (dC k ms A.length A []) ∧ s[3]? = some (dC 1 [[0]] 0 [] []) ∧ BoxAt s 0 ∧ A.length + r.length ≤ 60) ?_ ?_ _ _ _ ⟨k, ms, [], none, none, none, none, none, rfl, hk, f1, f2, f3, ht, by simp [rangeI]; omega⟩
  · clear f1 f2 f3 ht hk
    rintro ls s ⟨k, ms, A, x8, x9, x10, x11, x12, rfl, hk, e1, e2, e3, hb, hA⟩
    refine ⟨trivial, ?_⟩
    walk_at "mk"
    refine we_run (r_refused hk e1) ?_
    walk_at "mk"
    refine we_run (r_now e1) ?_
    walk_at "mk"
    refine o_neS (cmpb_now (n := 61) hk) ?_
    walk_at "mk"
    rw [int_eq rfl]
    refine ⟨fun h => absurd h (by decide), fun _ => ?_⟩
    walk_at "mk"
    refine we_neO (we_eqO ?_)
    walk_at "mk"
    refine we_run (r_made hk.cmpb hk.isIn hk.marks) ?_
    walk_at "mk"
    refine ⟨rfl, rfl, _, r_eqM hk.cmpb hk.cmpb, _, rfl, ?_⟩
    rw [veq_refl _ (cmpb_dat 3 _ (cmpb_now (n := 0) hk))]
    walk_at "mk"
    refine we_run (r_total (r := 1) hk hk.l1) ?_
    walk_at "mk"
    refine we_run (r_made hk.cmpb hk.isIn hk.marks) ?_
    walk_at "mk"
    refine we_run (r_total (r := 1) hk hk.l1) ?_
    walk_at "mk"
    rw [int_eq rfl]
    refine ⟨fun h => absurd h (by decide), fun _ => ?_⟩
    walk_at "mk"
    refine we_lenM hk.l7 ?_
    walk_at "mk"
    rw [List.length_map, int_eq rfl]
    refine ⟨fun h => absurd h (by decide), fun _ => ?_⟩
    walk_at "mk"
    refine we_nox (r_deep hk hb) ?_
    rintro v t ⟨rfl, o1, hb1⟩
    walk_at "mk"
    refine we_nox (r_back hk hb1) ?_
    rintro v t2 ⟨rfl, o2, hb2⟩
    have o := o1.trans o2
    have g1 : t2[1]? = some (dC k ms A.length A []) := by rw [o.ne 1 (by decide)]; exact e1
    have g3 : t2[3]? = some (dC 1 [[0]] 0 [] []) := by rw [o.ne 3 (by decide)]; exact e3
    walk_at "mk"
    refine we_run (r_now g3) ?_
    walk_at "mk"
    refine we_run (r_same hk mk10 g1 g3) ?_
    walk_at "mk"
    refine o_eq (cmpb_up 63 64 _ (by decide) (cmpb_now (n := 60) hk)) (cmpb_up 63 64 _ (by decide) (cmpb_now (n := 60) mk10)) ?_
    walk_at "mk"
    have e10 : veq (sD k ms A.length 0) (sD 1 [[0]] 0 0) = (veq (nowV k ms) (.tup [.int 1, .tup [.tup [.int 0]]]) && decide (A.length = 0)) := sD_one
    rw [show ([] : List IV).length = 0 from rfl, e10]
    refine ⟨fun h => ?_, fun h => ?_⟩
    · rw [h]
      walk_at "mk"
      refine we_run r_is_due ?_
      rw [show ((true && decide (A.length = 0)) == PyData.eqv (.int (A.length : Int)) (.int 0)) = true by
        rw [int_eqv, Bool.true_and]
        by_cases z : A.length = 0
        · rw [decide_eq_true z, decide_eq_true (by omega)]; rfl
        · rw [decide_eq_false z, decide_eq_false (by omega)]; rfl]
      exact close_pure rfl rfl (Nat.zero_le _)
    · rw [h]
      walk_at "mk"
      refine we_run r_is_due ?_
      exact close_pure rfl rfl (Nat.zero_le _)
  · clear f1 f2 f3 ht hk
    rintro v r ls s ⟨k, ms, A, x8, x9, x10, x11, x12, rfl, hk, e1, e2, e3, hb, hA⟩
    refine ⟨trivial, _, rfl, ?_⟩
    walk_at "mk"
    refine we_nox (r_edit hk hb) ?_
    rintro ed s5 ⟨he, o5, hb5⟩
    obtain ⟨due, k', ms', kept, P⟩ := step hk he
    have g1 : s5[1]? = some (dC k ms A.length A []) := by rw [o5.ne 1 (by decide)]; exact e1
    have g2 : s5[2]? = some (dC k ms A.length A []) := by rw [o5.ne 2 (by decide)]; exact e2
    have g3 : s5[3]? = some (dC 1 [[0]] 0 [] []) := by rw [o5.ne 3 (by decide)]; exact e3
    walk_at "mk"
    refine we_run (P.he _) ?_
    walk_at "mk"
    refine we_run (r_now g1) ?_
    walk_at "mk"
    refine we_run (P.dd _ _ _ _ _ g1 (by have := hA; simp at this; omega)) ?_
    walk_at "mk"
    refine o_neS (cmpb_up 60 64 _ (by decide) P.c) ?_
    walk_at "mk"
    have h2 : ∀ c, (if kept = true then s5.set 1 c else s5)[2]? = some (dC k ms A.length A []) := fun c => by
      split
      · rw [List.getElem?_set_ne (by decide)]; exact g2
      · exact g2
    refine we_run (P.dd _ _ _ _ _ (h2 _) (by have := hA; simp at this; omega)) ?_
    walk_at "mk"
    refine o_neS (cmpb_up 60 64 _ (by decide) P.c) ?_
    walk_at "mk"
    refine o_neS (cmpb_now (n := 61) hk) ?_
    walk_at "mk"
    have hA' : A.length < 60 := by have := hA; simp at this; omega
    rcases P.hd with ⟨rfl, rfl⟩ | ⟨rfl, rfl, rfl, w, u, rfl, hw, hs⟩
    · rw [if_pos rfl, if_pos rfl]
      have z1 : 1 < s5.length := lt_at g1
      have z2 : 2 < s5.length := lt_at g2
      obtain ⟨t, ht⟩ : ∃ t, t = (s5.set 1 (dN k ms A k' ms')).set 2 (dN k ms A k' ms') := ⟨_, rfl⟩
      have j1 : t[1]? = some (dC k' ms' (A.length + 1 : Nat) (A ++ [pD k ms]) []) := by rw [ht, List.getElem?_set_ne (by decide)]; exact set_at z1
      have j2 : t[2]? = some (dC k' ms' (A.length + 1 : Nat) (A ++ [pD k ms]) []) := by rw [ht]; exact set_at (by rw [List.length_set]; exact z2)
      have j3 : t[3]? = some (dC 1 [[0]] 0 [] []) := by rw [ht, List.getElem?_set_ne (by decide), List.getElem?_set_ne (by decide)]; exact g3
      have jb : BoxAt t 0 := by rw [ht]; exact (hb5.set' (by decide)).set' (by decide)
      rw [← ht]
      clear ht g1 g2 g3 h2
      walk_at "mk"
      refine o_yes (by decide +kernel) ?_
      walk_at "mk"
      refine we_run (r_now j1) ?_
      walk_at "mk"
      refine o_neS (cmpb_now (n := 61) P.m) ?_
      walk_at "mk"
      rw [int_eq (show ((A.length + 1 : Nat) : Int) = (A.length : Int) + 1 by omega)]
      refine ⟨fun h => absurd h (by decide), fun _ => ?_⟩
      walk_at "mk"
      refine ⟨1, _, _, rfl, j1, rfl, rfl, ?_⟩
      walk_at "mk"
      refine ⟨rfl, we_run (r_report j1) ?_⟩
      walk_at "mk"
      refine we_run (same_yes P.m j1 j2) ?_
      walk_at "mk"
      have ll : (A ++ [pD k ms]).length = A.length + 1 := by simp
      have lz : (((A ++ [pD k ms]).length : Nat) : Int) = (A.length : Int) + 1 := by omega
      rw [← ll] at j1 j2
      rw [← lz]
      exact ⟨k', ms', A ++ [pD k ms], _, _, _, _, _, rfl, P.m, j1, j2, j3, jb, by have := hA; simp at this ⊢; omega⟩
    · rw [if_neg (by decide), if_neg (by decide)]
      walk_at "mk"
      refine o_no hs (by decide +kernel) hw ?_
      walk_at "mk"
      refine we_run (r_now g1) ?_
      walk_at "mk"
      refine o_neS (cmpb_now (n := 61) hk) ?_
      walk_at "mk"
      rw [int_eq rfl]
      refine ⟨fun h => absurd h (by decide), fun _ => ?_⟩
      walk_at "mk"
      refine ⟨1, _, _, rfl, g1, rfl, rfl, ?_⟩
      walk_at "mk"
      refine ⟨rfl, we_run (r_report g1) ?_⟩
      walk_at "mk"
      refine we_run (same_yes hk g1 g2) ?_
      walk_at "mk"
      exact ⟨_, _, A, _, _, _, _, _, rfl, hk, g1, g2, g3, hb5, by have := hA; simp at this; omega⟩
theorem pure_law : ∀ ns : List Int, ns.length ≤ 63 → ∃ st', g_law [.scr (ns.map .int)] [] = some (.val (.bl true), st') := fun ns hl => by
  obtain ⟨r, st', e, q⟩ := r_law ns hl
  cases r with
  | val v => subst q; exact ⟨st', e⟩
  | exc c f v => exact q.elim
end Law
end
namespace Law
open PySem PySem.Spec PyProof.Rows L2 MK
def hd0 : List (PySem.W.Frag → Bool) := [frB "ValueError", frB "abs", frB "all", frB "bool", frB "enumerate", frB "int", frB "isinstance", frB "len", frB "list", frB "max", frB "min", frB "range", frB "sorted", frB "sum", frB "tuple", imB "combinations" (.type "itertools.combinations"), itB "MOST_CELLS" (8), itB "MOST_MARKS" (7), itB "MOST_ITEMS" (4), tpB "COUNTING" [.str "wrong", .str "cells"], itB "ALL_FILLED" (-1), glB "ASKED", glB "_wall", glB "is_integer", glB "is_integer_within", glB "is_ascending", glB "lies_within", glB "is_same", glB "InvalidNumber", xcB "InvalidNumber" "value", glB "InvalidMarks", xcB "InvalidMarks" "value", glB "InvalidMark", xcB "InvalidMark" "value", glB "InvalidKeys", xcB "InvalidKeys" "value", glB "InvalidItem", xcB "InvalidItem" "value", glB "InvalidBits", xcB "InvalidBits" "value"]
def hd1 : List (PySem.W.Frag → Bool) := [glB "Undefined", xcB "Undefined" "what", glB "NothingToUndo", xcB "NothingToUndo" "word", glB "is_mark", glB "are_marks", glB "Marking", mkB "Marking", meB "Marking" "__eq__", meB "Marking" "__len__", glB "are_keys", glB "are_bits", glB "filled", glB "says", glB "wrong", glB "wrong_total", glB "folded", glB "folded_mark", glB "is_item", glB "looked_at", glB "Desk", mkB "Desk", meB "Desk" "add", meB "Desk" "drop", meB "Desk" "turn", meB "Desk" "widen", meB "Desk" "fold", meB "Desk" "watch", meB "Desk" "leave", meB "Desk" "undo", meB "Desk" "redo", meB "Desk" "claim", meB "Desk" "paper", meB "Desk" "report", meB "Desk" "_place", meB "Desk" "_mark", meB "Desk" "_do", meB "Desk" "_become", meB "Desk" "_kept_for", meB "Desk" "_state"]
def hd2 : List (PySem.W.Frag → Bool) := [glB "same_state", glB "_law_box", glB "_law_take", glB "_law_pick", glB "_law_is_due", glB "_law_shuffled", glB "_law_marking", glB "_law_made", glB "_law_edit", glB "_law_edited", glB "_law_do", glB "_law_now", glB "_law_deed", glB "_law_are_refused", glB "_law_is_deep", glB "_law_is_walked_back", glB "law", caB "Desk" "add", caB "Desk" "drop", caB "Desk" "turn", caB "Desk" "widen", caB "Desk" "fold", caB "Desk" "watch", caB "Desk" "leave", caB "Desk" "undo", caB "Desk" "redo", caB "Desk" "claim", caB "Desk" "paper", caB "Desk" "report", caB "Desk" "_place", caB "Desk" "_mark", caB "Desk" "_do", caB "Desk" "_become", caB "Desk" "_kept_for", caB "Desk" "_state", idB "Desk", ioB "Marking", neB "Marking", flB "Marking" "cells", flB "Marking" "marks"]
def hd3 : List (PySem.W.Frag → Bool) := [ioB "Desk", flB "Desk" "marking", flB "Desk" "watched", flB "Desk" "many", flB "Desk" "_kept", flB "Desk" "_words", flB "Desk" "_ahead", flB "Desk" "_behind", rwB subTab, owB "Desk", owB "Marking"]
def hex (K : PySem.W.Frag) : Bool := ((hd0.all fun f => f K) && ((hd1.all fun f => f K) && ((hd2.all fun f => f K) && (hd3.all fun f => f K))))
def hf0 : List He.DefD := [dGl "_wall" s_wall, dGl "is_integer" s_is_integer, dGl "is_integer_within" s_is_integer_within, dGl "is_ascending" s_is_ascending, dGl "lies_within" s_lies_within, dGl "is_same" s_is_same, dMe "InvalidNumber" "__init__" "InvalidNumber.__init__" s_InvalidNumber_init, dMe "InvalidMarks" "__init__" "InvalidMarks.__init__" s_InvalidMarks_init, dMe "InvalidMark" "__init__" "InvalidMark.__init__" s_InvalidMark_init, dMe "InvalidKeys" "__init__" "InvalidKeys.__init__" s_InvalidKeys_init, dMe "InvalidItem" "__init__" "InvalidItem.__init__" s_InvalidItem_init, dMe "InvalidBits" "__init__" "InvalidBits.__init__" s_InvalidBits_init, dMe "Undefined" "__init__" "Undefined.__init__" s_Undefined_init, dMe "NothingToUndo" "__init__" "NothingToUndo.__init__" s_NothingToUndo_init, dGl "is_mark" s_is_mark, dGl "are_marks" s_are_marks, dMe "Marking" "__init__" "Marking.__init__" s_Marking_init, dMe "Marking" "__eq__" "Marking.__eq__" s_Marking_eq, dMe "Marking" "__len__" "Marking.__len__" s_Marking_len, dGl "are_keys" s_are_keys, dGl "are_bits" s_are_bits, dGl "filled" s_filled, dGl "says" s_says, dGl "wrong" s_wrong, dGl "wrong_total" s_wrong_total, dGl "folded" s_folded, dGl "folded_mark" s_folded_mark, dGl "is_item" s_is_item, dGl "looked_at" s_looked_at, dMe "Desk" "__init__" "Desk.__init__" s_Desk_init, dMe "Desk" "add" "Desk.add" s_Desk_add, dMe "Desk" "drop" "Desk.drop" s_Desk_drop, dMe "Desk" "turn" "Desk.turn" s_Desk_turn, dMe "Desk" "widen" "Desk.widen" s_Desk_widen, dMe "Desk" "fold" "Desk.fold" s_Desk_fold, dMe "Desk" "watch" "Desk.watch" s_Desk_watch, dMe "Desk" "leave" "Desk.leave" s_Desk_leave, dMe "Desk" "undo" "Desk.undo" s_Desk_undo, dMe "Desk" "redo" "Desk.redo" s_Desk_redo, dMe "Desk" "claim" "Desk.claim" s_Desk_claim]
def hf1 : List He.DefD := [dMe "Desk" "paper" "Desk.paper" s_Desk_paper, dMe "Desk" "report" "Desk.report" s_Desk_report, dMe "Desk" "_place" "Desk._place" s_Desk_place, dMe "Desk" "_mark" "Desk._mark" s_Desk_mark, dMe "Desk" "_do" "Desk._do" s_Desk_do, dMe "Desk" "_become" "Desk._become" s_Desk_become, dMe "Desk" "_kept_for" "Desk._kept_for" s_Desk_kept_for, dMe "Desk" "_state" "Desk._state" s_Desk_state, dGl "same_state" s_same_state, dGl "_law_box" s_law_box, dGl "_law_take" s_law_take, dGl "_law_pick" s_law_pick, dGl "_law_is_due" s_law_is_due, dGl "_law_shuffled" s_law_shuffled, dGl "_law_marking" s_law_marking, dGl "_law_made" s_law_made, dGl "_law_edit" s_law_edit, dGl "_law_edited" s_law_edited, dGl "_law_do" s_law_do, dGl "_law_now" s_law_now, dGl "_law_deed" s_law_deed, dGl "_law_are_refused" s_law_are_refused, dGl "_law_is_deep" s_law_is_deep, dGl "_law_is_walked_back" s_law_is_walked_back, dGl "law" s_law]
def hfn : List He.DefD := hf0 ++ hf1
def hts : List TabM := [("ASKED", [("wrong", "wrong"), ("meets", "meets"), ("strange", "meets"), ("safe", "take"), ("lost", "take"), ("free", "free"), ("fails", "free"), ("cells", "cells")])]
def ha0 : List Addr := [3, 6, 39, 38, 46, 45, 53, 52, 60, 59, 65, 64, 70, 69, 77, 76, 82, 81, 87, 86, 97, 96, 117, 116, 114, 113, 136, 135, 133, 132, 155, 154, 152, 151, 174, 173, 171, 170, 193, 192]
def ha1 : List Addr := [190, 189, 212, 211, 209, 208, 231, 230, 228, 227, 250, 249, 247, 246, 269, 268, 266, 265, 288, 287, 285, 284, 297, 296, 302, 301, 331, 330, 314, 313, 321, 320, 328, 327, 342, 341, 349, 348, 354, 353]
def ha2 : List Addr := [359, 358, 364, 363, 369, 368, 376, 375, 383, 382, 388, 387, 393, 392, 400, 399, 405, 404, 410, 409, 415, 414, 420, 419, 425, 424, 430, 429, 435, 434, 440, 439, 445, 444, 446, 447, 454, 453, 461, 460]
def ha3 : List Addr := [468, 467, 475, 474, 482, 481, 489, 488, 494, 493, 501, 500, 506, 505, 511, 510, 516, 515, 521, 520, 528, 527, 533, 532, 538, 537, 545, 544, 550, 549, 555, 554, 562, 561, 569, 568, 576, 575, 715, 714]
def ha4 : List Addr := [590, 589, 597, 596, 604, 603, 611, 610, 616, 615, 623, 622, 630, 629, 637, 636, 644, 643, 651, 650, 658, 657, 665, 664, 672, 671, 679, 678, 686, 685, 693, 692, 698, 697, 705, 704, 712, 711, 726, 725]
def ha5 : List Addr := [733, 732, 740, 739, 747, 746, 754, 753, 761, 760, 768, 767, 775, 774, 780, 779, 785, 784, 792, 791, 799, 798, 806, 805, 811, 810, 818, 817, 825, 824, 832, 831]
abbrev has : List Addr := ha0 ++ ha1 ++ ha2 ++ ha3 ++ ha4 ++ ha5
set_option maxHeartbeats 0 in
theorem hT {w : World} {K : PySem.W.Frag} {mg : Str → Option Value} {h : Heap} (KX : K.In h) (G : h.Ns mainGlobals mg) (c : SaysM hex hfn hts w K) : Tx w K mg := by
  have e : ((hd0.all fun f => f K) && ((hd1.all fun f => f K) && ((hd2.all fun f => f K) && (hd3.all fun f => f K)))) = true := c.exB
  obtain ⟨e0, e⟩ := He.ba e
  obtain ⟨e1, e⟩ := He.ba e
  obtain ⟨e2, e⟩ := He.ba e
  have e3 := e
  have Ow_Desk := owB.ok KX G (exAt e1 20) (exAt e3 9)
  have Ow_Marking := owB.ok KX G (exAt e1 6) (exAt e3 10)
  exact {
    b_ValueError := frB.ok KX G (exAt e0 0),
    b_abs := frB.ok KX G (exAt e0 1),
    b_all := frB.ok KX G (exAt e0 2),
    b_bool := frB.ok KX G (exAt e0 3),
    b_enumerate := frB.ok KX G (exAt e0 4),
    b_int := frB.ok KX G (exAt e0 5),
    b_isinstance := frB.ok KX G (exAt e0 6),
    b_len := frB.ok KX G (exAt e0 7),
    b_list := frB.ok KX G (exAt e0 8),
    b_max := frB.ok KX G (exAt e0 9),
    b_min := frB.ok KX G (exAt e0 10),
    b_range := frB.ok KX G (exAt e0 11),
    b_sorted := frB.ok KX G (exAt e0 12),
    b_sum := frB.ok KX G (exAt e0 13),
    b_tuple := frB.ok KX G (exAt e0 14),
    b_combinations := imB.ok KX G (exAt e0 15),
    c_MOST_CELLS := itB.ok KX G (exAt e0 16),
    c_MOST_MARKS := itB.ok KX G (exAt e0 17),
    c_MOST_ITEMS := itB.ok KX G (exAt e0 18),
    c_COUNTING := tpB.ok KX G (exAt e0 19),
    c_ALL_FILLED := itB.ok KX G (exAt e0 20),
    d_ASKED := SaysM.tab (t := ("ASKED", [("wrong", "wrong"), ("meets", "meets"), ("strange", "meets"), ("safe", "take"), ("lost", "take"), ("free", "free"), ("fails", "free"), ("cells", "cells")])) c 0 rfl (glB.ok KX G (exAt e0 21)),
    F_wall := FunOk.ofD KX G c 0 (exAt e0 22) (fun _ _ _ _ _ _ us hl => match us, hl with | [_], _ => rfl),
    F_is_integer := FunOk.ofD KX G c 1 (exAt e0 23) (fun _ _ _ _ _ _ us hl => match us, hl with | [_], _ => rfl),
    F_is_integer_within := FunOk.ofD KX G c 2 (exAt e0 24) (fun _ _ _ _ _ _ us hl => match us, hl with | [_, _, _], _ => rfl),
    F_is_ascending := FunOk.ofD KX G c 3 (exAt e0 25) (fun _ _ _ _ _ _ us hl => match us, hl with | [_, _], _ => rfl),
    F_lies_within := FunOk.ofD KX G c 4 (exAt e0 26) (fun _ _ _ _ _ _ us hl => match us, hl with | [_, _], _ => rfl),
    F_is_same := FunOk.ofD KX G c 5 (exAt e0 27) (fun _ _ _ _ _ _ us hl => match us, hl with | [_, _], _ => rfl),
    X_InvalidNumber := ExcFun.ofD KX G c 6 (exAt e0 28) (exAt e0 29) (fun _ _ _ _ _ _ us hl => match us, hl with | [_, _], _ => rfl),
    X_InvalidMarks := ExcFun.ofD KX G c 7 (exAt e0 30) (exAt e0 31) (fun _ _ _ _ _ _ us hl => match us, hl with | [_, _], _ => rfl),
    X_InvalidMark := ExcFun.ofD KX G c 8 (exAt e0 32) (exAt e0 33) (fun _ _ _ _ _ _ us hl => match us, hl with | [_, _], _ => rfl),
    X_InvalidKeys := ExcFun.ofD KX G c 9 (exAt e0 34) (exAt e0 35) (fun _ _ _ _ _ _ us hl => match us, hl with | [_, _], _ => rfl),
    X_InvalidItem := ExcFun.ofD KX G c 10 (exAt e0 36) (exAt e0 37) (fun _ _ _ _ _ _ us hl => match us, hl with | [_, _], _ => rfl),
    X_InvalidBits := ExcFun.ofD KX G c 11 (exAt e0 38) (exAt e0 39) (fun _ _ _ _ _ _ us hl => match us, hl with | [_, _], _ => rfl),
    X_Undefined := ExcFun.ofD KX G c 12 (exAt e1 0) (exAt e1 1) (fun _ _ _ _ _ _ us hl => match us, hl with | [_, _], _ => rfl),
    X_NothingToUndo := ExcFun.ofD KX G c 13 (exAt e1 2) (exAt e1 3) (fun _ _ _ _ _ _ us hl => match us, hl with | [_, _], _ => rfl),
    F_is_mark := FunOk.ofD KX G c 14 (exAt e1 4) (fun _ _ _ _ _ _ us hl => match us, hl with | [_, _], _ => rfl),
    F_are_marks := FunOk.ofD KX G c 15 (exAt e1 5) (fun _ _ _ _ _ _ us hl => match us, hl with | [_, _], _ => rfl),
    C_Marking := ClsFun.ofD KX G c 16 (exAt e1 6) (exAt e1 7) (fun _ _ _ _ _ _ us hl => match us, hl with | [_, _, _], _ => rfl),
    M_Marking_eq := MetFun.ofD KX G c 17 (exAt e1 6) (exAt e1 8) (fun _ _ _ _ _ _ us hl => match us, hl with | [_, _], _ => rfl),
    M_Marking_len := MetFun.ofD KX G c 18 (exAt e1 6) (exAt e1 9) (fun _ _ _ _ _ _ us hl => match us, hl with | [_], _ => rfl),
    F_are_keys := FunOk.ofD KX G c 19 (exAt e1 10) (fun _ _ _ _ _ _ us hl => match us, hl with | [_, _], _ => rfl),
    F_are_bits := FunOk.ofD KX G c 20 (exAt e1 11) (fun _ _ _ _ _ _ us hl => match us, hl with | [_, _], _ => rfl),
    F_filled := FunOk.ofD KX G c 21 (exAt e1 12) (fun _ _ _ _ _ _ us hl => match us, hl with | [_, _], _ => rfl),
    F_says := FunOk.ofD KX G c 22 (exAt e1 13) (fun _ _ _ _ _ _ us hl => match us, hl with | [_, _], _ => rfl),
    F_wrong := FunOk.ofD KX G c 23 (exAt e1 14) (fun _ _ _ _ _ _ us hl => match us, hl with | [_, _], _ => rfl),
    F_wrong_total := FunOk.ofD KX G c 24 (exAt e1 15) (fun _ _ _ _ _ _ us hl => match us, hl with | [_, _], _ => rfl),
    F_folded := FunOk.ofD KX G c 25 (exAt e1 16) (fun _ _ _ _ _ _ us hl => match us, hl with | [_], _ => rfl),
    F_folded_mark := FunOk.ofD KX G c 26 (exAt e1 17) (fun _ _ _ _ _ _ us hl => match us, hl with | [_, _], _ => rfl),
    F_is_item := FunOk.ofD KX G c 27 (exAt e1 18) (fun _ _ _ _ _ _ us hl => match us, hl with | [_, _], _ => rfl),
    F_looked_at := FunOk.ofD KX G c 28 (exAt e1 19) (fun _ _ _ _ _ _ us hl => match us, hl with | [_, _, _], _ => rfl),
    C_Desk := ClsFun.ofD KX G c 29 (exAt e1 20) (exAt e1 21) (fun _ _ _ _ _ _ us hl => match us, hl with | [_, _], _ => rfl),
    M_Desk_add := MetFun.ofD KX G c 30 (exAt e1 20) (exAt e1 22) (fun _ _ _ _ _ _ us hl => match us, hl with | [_, _], _ => rfl),
    M_Desk_drop := MetFun.ofD KX G c 31 (exAt e1 20) (exAt e1 23) (fun _ _ _ _ _ _ us hl => match us, hl with | [_, _], _ => rfl),
    M_Desk_turn := MetFun.ofD KX G c 32 (exAt e1 20) (exAt e1 24) (fun _ _ _ _ _ _ us hl => match us, hl with | [_, _, _], _ => rfl),
    M_Desk_widen := MetFun.ofD KX G c 33 (exAt e1 20) (exAt e1 25) (fun _ _ _ _ _ _ us hl => match us, hl with | [_, _], _ => rfl),
    M_Desk_fold := MetFun.ofD KX G c 34 (exAt e1 20) (exAt e1 26) (fun _ _ _ _ _ _ us hl => match us, hl with | [_], _ => rfl),
    M_Desk_watch := MetFun.ofD KX G c 35 (exAt e1 20) (exAt e1 27) (fun _ _ _ _ _ _ us hl => match us, hl with | [_, _], _ => rfl),
    M_Desk_leave := MetFun.ofD KX G c 36 (exAt e1 20) (exAt e1 28) (fun _ _ _ _ _ _ us hl => match us, hl with | [_, _], _ => rfl),
    M_Desk_undo := MetFun.ofD KX G c 37 (exAt e1 20) (exAt e1 29) (fun _ _ _ _ _ _ us hl => match us, hl with | [_], _ => rfl),
    M_Desk_redo := MetFun.ofD KX G c 38 (exAt e1 20) (exAt e1 30) (fun _ _ _ _ _ _ us hl => match us, hl with | [_], _ => rfl),
    M_Desk_claim := MetFun.ofD KX G c 39 (exAt e1 20) (exAt e1 31) (fun _ _ _ _ _ _ us hl => match us, hl with | [_, _], _ => rfl),
    M_Desk_paper := MetFun.ofD KX G c 40 (exAt e1 20) (exAt e1 32) (fun _ _ _ _ _ _ us hl => match us, hl with | [_, _], _ => rfl),
    M_Desk_report := MetFun.ofD KX G c 41 (exAt e1 20) (exAt e1 33) (fun _ _ _ _ _ _ us hl => match us, hl with | [_], _ => rfl),
    M_Desk_place := MetFun.ofD KX G c 42 (exAt e1 20) (exAt e1 34) (fun _ _ _ _ _ _ us hl => match us, hl with | [_, _], _ => rfl),
    M_Desk_mark := MetFun.ofD KX G c 43 (exAt e1 20) (exAt e1 35) (fun _ _ _ _ _ _ us hl => match us, hl with | [_, _, _], _ => rfl),
    M_Desk_do := MetFun.ofD KX G c 44 (exAt e1 20) (exAt e1 36) (fun _ _ _ _ _ _ us hl => match us, hl with | [_, _, _], _ => rfl),
    M_Desk_become := MetFun.ofD KX G c 45 (exAt e1 20) (exAt e1 37) (fun _ _ _ _ _ _ us hl => match us, hl with | [_, _, _], _ => rfl),
    M_Desk_kept_for := MetFun.ofD KX G c 46 (exAt e1 20) (exAt e1 38) (fun _ _ _ _ _ _ us hl => match us, hl with | [_, _], _ => rfl),
    M_Desk_state := MetFun.ofD KX G c 47 (exAt e1 20) (exAt e1 39) (fun _ _ _ _ _ _ us hl => match us, hl with | [_], _ => rfl),
    F_same_state := FunOk.ofD KX G c 48 (exAt e2 0) (fun _ _ _ _ _ _ us hl => match us, hl with | [_, _], _ => rfl),
    F_law_box := FunOk.ofD KX G c 49 (exAt e2 1) (fun _ _ _ _ _ _ us hl => match us, hl with | [_, _], _ => rfl),
    F_law_take := FunOk.ofD KX G c 50 (exAt e2 2) (fun _ _ _ _ _ _ us hl => match us, hl with | [_, _], _ => rfl),
    F_law_pick := FunOk.ofD KX G c 51 (exAt e2 3) (fun _ _ _ _ _ _ us hl => match us, hl with | [_, _], _ => rfl),
    F_law_is_due := FunOk.ofD KX G c 52 (exAt e2 4) (fun _ _ _ _ _ _ us hl => match us, hl with | [_, _], _ => rfl),
    F_law_shuffled := FunOk.ofD KX G c 53 (exAt e2 5) (fun _ _ _ _ _ _ us hl => match us, hl with | [_, _], _ => rfl),
    F_law_marking := FunOk.ofD KX G c 54 (exAt e2 6) (fun _ _ _ _ _ _ us hl => match us, hl with | [_, _], _ => rfl),
    F_law_made := FunOk.ofD KX G c 55 (exAt e2 7) (fun _ _ _ _ _ _ us hl => match us, hl with | [_], _ => rfl),
    F_law_edit := FunOk.ofD KX G c 56 (exAt e2 8) (fun _ _ _ _ _ _ us hl => match us, hl with | [_, _], _ => rfl),
    F_law_edited := FunOk.ofD KX G c 57 (exAt e2 9) (fun _ _ _ _ _ _ us hl => match us, hl with | [_, _], _ => rfl),
    F_law_do := FunOk.ofD KX G c 58 (exAt e2 10) (fun _ _ _ _ _ _ us hl => match us, hl with | [_, _], _ => rfl),
    F_law_now := FunOk.ofD KX G c 59 (exAt e2 11) (fun _ _ _ _ _ _ us hl => match us, hl with | [_], _ => rfl),
    F_law_deed := FunOk.ofD KX G c 60 (exAt e2 12) (fun _ _ _ _ _ _ us hl => match us, hl with | [_, _], _ => rfl),
    F_law_are_refused := FunOk.ofD KX G c 61 (exAt e2 13) (fun _ _ _ _ _ _ us hl => match us, hl with | [_, _], _ => rfl),
    F_law_is_deep := FunOk.ofD KX G c 62 (exAt e2 14) (fun _ _ _ _ _ _ us hl => match us, hl with | [_, _], _ => rfl),
    F_law_is_walked_back := FunOk.ofD KX G c 63 (exAt e2 15) (fun _ _ _ _ _ _ us hl => match us, hl with | [_, _], _ => rfl),
    F_law := FunOk.ofD KX G c 64 (exAt e2 16) (fun _ _ _ _ _ _ us hl => match us, hl with | [_], _ => rfl),
    k_Desk_add := caB.ok KX Ow_Desk (exAt e2 17),
    k_Desk_drop := caB.ok KX Ow_Desk (exAt e2 18),
    k_Desk_turn := caB.ok KX Ow_Desk (exAt e2 19),
    k_Desk_widen := caB.ok KX Ow_Desk (exAt e2 20),
    k_Desk_fold := caB.ok KX Ow_Desk (exAt e2 21),
    k_Desk_watch := caB.ok KX Ow_Desk (exAt e2 22),
    k_Desk_leave := caB.ok KX Ow_Desk (exAt e2 23),
    k_Desk_undo := caB.ok KX Ow_Desk (exAt e2 24),
    k_Desk_redo := caB.ok KX Ow_Desk (exAt e2 25),
    k_Desk_claim := caB.ok KX Ow_Desk (exAt e2 26),
    k_Desk_paper := caB.ok KX Ow_Desk (exAt e2 27),
    k_Desk_report := caB.ok KX Ow_Desk (exAt e2 28),
    k_Desk_place := caB.ok KX Ow_Desk (exAt e2 29),
    k_Desk_mark := caB.ok KX Ow_Desk (exAt e2 30),
    k_Desk_do := caB.ok KX Ow_Desk (exAt e2 31),
    k_Desk_become := caB.ok KX Ow_Desk (exAt e2 32),
    k_Desk_kept_for := caB.ok KX Ow_Desk (exAt e2 33),
    k_Desk_state := caB.ok KX Ow_Desk (exAt e2 34),
    id_Desk := idB.ok KX G (exAt e2 35),
    i_Marking := ioB.ok Ow_Marking (exAt e2 36),
    n_Marking := neB.ok KX G (exAt e2 37),
    f_Marking_cells := flB.ok Ow_Marking (exAt e2 38),
    f_Marking_marks := flB.ok Ow_Marking (exAt e2 39),
    i_Desk := ioB.ok Ow_Desk (exAt e3 0),
    f_Desk_marking := flB.ok Ow_Desk (exAt e3 1),
    f_Desk_watched := flB.ok Ow_Desk (exAt e3 2),
    f_Desk_many := flB.ok Ow_Desk (exAt e3 3),
    f_Desk__kept := flB.ok Ow_Desk (exAt e3 4),
    f_Desk__words := flB.ok Ow_Desk (exAt e3 5),
    f_Desk__ahead := flB.ok Ow_Desk (exAt e3 6),
    f_Desk__behind := flB.ok Ow_Desk (exAt e3 7),
    m_InvalidItem := glB.rf KX G (exAt e0 36),
    m_InvalidMark := glB.rf KX G (exAt e0 32),
    m_InvalidNumber := glB.rf KX G (exAt e0 28),
    m_Undefined := glB.rf KX G (exAt e1 0),
    sub := rwB.ok KX G (exAt e3 8) }
abbrev hR : PySem.W.OpenRow := PySem.W.OpenLaw.row PySem.Challenge.rw_markfilters_k50_edits_at_a_desk
def hn0 : List Str := ["_wall", "is_integer", "is_integer_within", "is_ascending", "ascend", "lies_within", "chosen", "plain", "is_same", "FilterError", "InvalidNumber", "InvalidMarks", "InvalidMark", "InvalidKeys", "InvalidItem", "InvalidBits", "InvalidTelling", "InvalidQuestion", "Undefined", "NothingToUndo"]
def hn1 : List Str := ["MOST_CELLS", "MOST_MARKS", "is_mark", "are_marks", "Marking", "are_keys", "are_bits", "filled", "says", "wrong", "wrong_total", "is_free", "worst", "common_items", "met", "meets", "folded", "folded_mark", "lost", "without"]
def hn2 : List Str := ["have_common", "MOST_ITEMS", "yeses", "is_telling", "needed", "is_needed", "ASKED", "COUNTING", "is_question", "can_be_taken", "asked_by", "is_claim", "answer_of", "loses_others", "ALL_FILLED", "is_row_of", "is_one_of", "empty_cells", "shared_by", "strange_cells"]
def hn3 : List Str := ["hurt", "needed_of", "paper_of", "firsts", "claim_holds", "shows_wrong", "shows_free", "shows_failing", "is_item", "looked_at", "Desk", "same_state", "_law_box", "_law_take", "_law_pick", "_law_is_due", "_law_shuffled", "_law_marking", "_law_made", "_law_edit"]
def hn4 : List Str := ["_law_edited", "_law_do", "_law_now", "_law_deed", "_law_are_refused", "_law_is_deep", "_law_is_walked_back"]
abbrev hloose : List Str := hn0 ++ hn1 ++ hn2 ++ hn3 ++ hn4
abbrev hq : Program := PySem.W.view hR.prog [0, 100]
abbrev hk : PySem.W.Hook := hookM has hex hfn hts
def hob (s : PySem.W.SharedT) : AlM := obM has hex hfn hts s
theorem hob_eq (s : PySem.W.SharedT) : hob s = hk.obs s.abs := obM_eq has hex hfn hts s
noncomputable abbrev hwhole (w : World) : Option (Shared × PySem.W.SharedT) := HandSHeadRun.wholeF (fun p => HandSHeadRun.stepQ (HandSHeadRun.denQ HandSHeadRun.tabQ) p w) HandSHeadRun.fenceQ 30000 hR.prog
abbrev hlook (x : Shared × PySem.W.SharedT) : Bool := HandSHeadRun.looksF hR.prog x.1.heap x.2.abs
noncomputable abbrev hseen (x : Shared × PySem.W.SharedT) := HandSHeadRun.seenQ hq hloose (PySem.importedModules hR.prog.main.body) (fun s => PySem.W.xlAt hq [] s && PySem.W.recOk hR.toRowW.records s) x.2.abs
theorem hrunF1 (w : World) : (hwhole (w.withFollow "special-get-raises" false)).map hlook = some true := by
  kernel_rfl
theorem hrunF2 (w : World) : (hwhole (w.withFollow "special-get-raises" false)).map hseen = some (PySem.W.openGood hq hloose) := by
  kernel_rfl
theorem hrunF3 (w : World) : (hwhole (w.withFollow "special-get-raises" false)).map (fun x => hob x.2) = some (hk.val (w.withFollow "special-get-raises" false)) := by
  kernel_rfl
theorem hrunT1 (w : World) : (hwhole (w.withFollow "special-get-raises" true)).map hlook = some true := by
  kernel_rfl
theorem hrunT2 (w : World) : (hwhole (w.withFollow "special-get-raises" true)).map hseen = some (PySem.W.openGood hq hloose) := by
  kernel_rfl
theorem hrunT3 (w : World) : (hwhole (w.withFollow "special-get-raises" true)).map (fun x => hob x.2) = some (hk.val (w.withFollow "special-get-raises" true)) := by
  kernel_rfl
theorem hrun (w : World) : HandSHeadRun.RunEqI hR hq hk hob 30000 hloose w :=
  PySem.W.byRow2 "special-get-raises" (P := fun w => HandSHeadRun.RunEqI hR hq hk hob 30000 hloose w) (fun w => map3 (hrunF1 w) (hrunF2 w) (hrunF3 w)) (fun w => map3 (hrunT1 w) (hrunT2 w) (hrunT3 w)) w
end Law
open PySem PySem.W PyProof.Rows
set_option maxRecDepth 100000 in
set_option maxHeartbeats 0 in
theorem PySem.Challenge.cw_markfilters_k50_edits_at_a_desk_holds : PySem.Challenge.rw_markfilters_k50_edits_at_a_desk.Holds := by
  w_on; o_law
  refine HandSHeadRun.head_imp (r := Law.hR) (q := Law.hq) (H := Law.hk) (ob := Law.hob) (M := 30000) (loose := Law.hloose) (d := HandSHeadRun.topDef Law.hR.prog 100) (kwd := []) Law.hob_eq Law.hrun (by kernel_rfl) (by kernel_rfl) (by kernel_rfl) (by rfl) (by first | assumption | decide +kernel) (by decide +kernel) ⟨rfl, rfl, rfl, rfl, rfl, by decide +kernel⟩ ?hw ?hc
  case hw => w_witness2
  case hc =>
    refine MK.walkM (l := PySem.Challenge.rw_markfilters_k50_edits_at_a_desk) 18 ⟨rfl, by decide, by decide⟩ rfl (by kernel_rfl) ?F
    intro w mg fa h K KX c G hmg
    have hm : mg ("law" : Str) = some (.ref fa) := by
      rw [← hmg]
      exact congrArg mg (show ("law" : Str) = (HandSHeadRun.topDef Law.hR.prog 100).name by kernel_rfl)
    exact Law.law_end Law.pure_law (Law.hT KX G c) hm
