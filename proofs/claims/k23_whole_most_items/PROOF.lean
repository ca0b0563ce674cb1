import PyProof.Rows.All
import Wide.All
import OpenK.AllK
import Wide.FinOn
import HandS.ForMost
import HandS.ForExc
import HandS.TupAny
import HandS.TupMul
import HandS.TupLe
import HandS.IsInst
import HandS.Deep
import HandS.Wide
import HandS.SortInts
import HandS.Walk
import HandS.ExcInit
import HandS.ExcField
import HandS.TryMany
import HandS.CallSlots
import HandS.Conv
import HandS.More
import HandS.Style
import HandS.RaiseMore
import HandS.Flow
import HandS.SlotsOwn
import HandS.SetBool
import HandS.Strs
import KE.GoesSet
import KE.GoesEnum
import HandS.Iter
import HandS.SortOrd
import HandS.SortRule
import KE.KSortTup
import PyProof.FactsAll.object_2
import PyProof.EnumStmt
import HandS.Gcd
import KE.KMathGC
import HandS.ExcValue
import HandS.ExcIs
import KE.KExcIs
import HandS.MapObj
import KE.DataFind
import HandS.SetFor
import HandS.OwnEq
import HandS.TupSets
import KE.GoesMore
import HandS.Zip
import HandS.Dict
import PySem.Challenge.RW_markfilters_k23_whole_most_items
set_option Elab.async false
set_option linter.all false
set_option maxRecDepth 100000
namespace MK
open PySem L2
inductive IV where
  | non | bl (b : Bool) | int (i : Int) | str (x : Str)
  | tup (l : List IV) | lst (l : List IV)
  | scr (l : List IV)
  | obj (c : Str) (fs : List (Str × IV))
  | cell (n : Nat)
  | exn (a : Addr) (cls : Value) (d : Addr) (f : Str) (v : IV) (c : Str)
instance : Inhabited IV := ⟨.non⟩
inductive CV where
  | lst (l : List IV)
  | ins (c : Str) (fs : List (Str × IV))
abbrev Sto := List CV
inductive OX (α : Type) where
  | val (a : α)
  | exc (c : Str) (f : Str) (v : IV)
abbrev Loc := List (Option IV)
inductive Fl where
  | nx (l : Loc)
  | rt (v : IV)
  | bk (l : Loc)
  | ct (l : Loc)
  | ex (l : Loc) (c f : Str) (v : IV)
def M (α : Type) := Sto → Option (OX α × Sto)
def M.ret {α : Type} (a : α) : M α := fun st => some (.val a, st)
def M.stuck {α : Type} : M α := fun _ => none
def M.exc {α : Type} (c f : Str) (v : IV) : M α := fun st => some (.exc c f v, st)
def M.bind {α β : Type} (m : M α) (k : α → M β) : M β := fun st => match m st with
  | some (.val a, st') => k a st'
  | some (.exc c f v, st') => some (.exc c f v, st')
  | none => none
def M.opt {α : Type} : Option α → M α
  | some a => M.ret a
  | none => M.stuck
abbrev ME := Loc → M IV
abbrev MT := Loc → M Bool
abbrev MA := Loc → M (List IV)
abbrev MS := Loc → M Fl
abbrev MF := List IV → M IV
section
variable {α β : Type}
theorem M.bind_run {m : M α} {k : α → M β} {st st' : Sto} {a : α} (h : m st = some (.val a, st')) : M.bind m k st = k a st' := by
  unfold M.bind; rw [h]
theorem M.bind_run_exc {m : M α} {k : α → M β} {st st' : Sto} {c f : Str} {v : IV} (h : m st = some (.exc c f v, st')) : M.bind m k st = some (.exc c f v, st') := by
  unfold M.bind; rw [h]
theorem M.bind_inv {m : M α} {k : α → M β} {st st' : Sto} {r : OX β} (h : M.bind m k st = some (r, st')) :
    (∃ a st1, m st = some (.val a, st1) ∧ k a st1 = some (r, st')) ∨ (∃ c f v, m st = some (.exc c f v, st') ∧ r = .exc c f v) := by
  unfold M.bind at h
  cases e : m st with
  | none => rw [e] at h; cases h
  | some p =>
    obtain ⟨o, s1⟩ := p
    rw [e] at h
    cases o with
    | val a => exact .inl ⟨a, s1, rfl, h⟩
    | exc c f v =>
      simp only [Option.some.injEq, Prod.mk.injEq] at h
      obtain ⟨rfl, rfl⟩ := h
      exact .inr ⟨c, f, v, rfl, rfl⟩
end
structure Wd where
  cm : List Addr
  av : List Addr
  sub : ∀ c, c ∈ cm → c ∈ av
def Wd.push (w : Wd) (p : Addr) : Wd := ⟨w.cm ++ [p], p :: w.av, fun c h => by
  rcases List.mem_append.mp h with h | h
  · exact List.mem_cons_of_mem _ (w.sub c h)
  · simp at h; subst h; exact List.mem_cons_self⟩
def Wd.avoid (w : Wd) (p : Addr) : Wd := ⟨w.cm, p :: w.av, fun c h => List.mem_cons_of_mem _ (w.sub c h)⟩
mutual
def IV.pure : IV → Bool
  | .tup l => pureL l
  | .lst l => pureL l
  | .scr l => pureL l
  | .obj _ fs => pureF fs
  | .cell _ => false
  | .exn .. => false
  | _ => true
def pureL : List IV → Bool
  | [] => true
  | x :: xs => x.pure && pureL xs
def pureF : List (Str × IV) → Bool
  | [] => true
  | x :: xs => x.2.pure && pureF xs
end
def XF (K : PySem.W.Frag) (C : Addr) (f : Str) : Prop := XfC K C ∧ PySem.W.findIn K (.ref C) f = some none
def errO (a C d : Addr) : HO := .ext fun h => ∃ (oe : Obj) (vs : Array Value), h.get? a = some oe ∧ Zc (.ref C) (some d) oe ∧ oe.data = .fields vs
@[reducible] def errI (c f : Str) (v : IV) : IV := .exn 0 (.str c 0) 0 f v c
def FzL (cm : Wd) (H : Hp) (a : Addr) (xs : List V) : Prop := H a = some (.lst xs) ∧ a ∉ cm.av
def FzT (K : PySem.W.Frag) (cm : Wd) (H : Hp) (a : Addr) (xs : List V) : Prop :=
  (Rd H a (.tup xs) ∧ a ∉ cm.av) ∨
    ∃ (o : Obj) (its : Array Value) (n : Nat), K.lookup a = some o ∧ o.cls = .type "tuple" ∧ o.data = .seq its n ∧ its.size ≤ sizeLine ∧ Vals xs its.toList
theorem FzL.sq {K : PySem.W.Frag} {cm : Wd} {H : Hp} {a : Addr} {xs : List V} (h : FzL cm H a xs) : SqL K H a xs := SqL.of h.1
theorem FzT.sq {K : PySem.W.Frag} {cm : Wd} {H : Hp} {a : Addr} {xs : List V} (h : FzT K cm H a xs) : SqT K H a xs := h.imp (·.1) id
def FzS (K : PySem.W.Frag) (cm : Wd) (H : Hp) (a : Addr) (xs : List V) : Prop :=
  ((∃ o, H a = some (.frz o (.lst xs))) ∧ a ∉ cm.av) ∨
    ∃ (o : Obj) (its : Array Value) (n : Nat), K.lookup a = some o ∧ o.cls = .type "list" ∧ o.dict = none ∧ o.data = .seq its n ∧ its.size ≤ sizeLine ∧ Vals xs its.toList
theorem FzS.sq {K : PySem.W.Frag} {cm : Wd} {H : Hp} {a : Addr} {xs : List V} (h : FzS K cm H a xs) : SqL K H a xs := h.imp (fun h => .inr h.1) id
section
variable (K : PySem.W.Frag) (mg : Str → Option Value)
mutual
inductive Rep (cm : Wd) (H : Hp) : V → IV → Prop
  | non : Rep cm H .non .non
  | bl (b : Bool) : Rep cm H (.bl b) (.bl b)
  | int (i : Int) : Rep cm H (.int i) (.int i)
  | str (x : Str) : Rep cm H (.str x) (.str x)
  | tup {a : Addr} {xs : List V} {l : List IV} : FzT K cm H a xs → RepL cm H xs l → Rep cm H (.ref a) (.tup l)
  | lst {a : Addr} {xs : List V} {l : List IV} : FzL cm H a xs → RepL cm H xs l → Rep cm H (.ref a) (.lst l)
  | scr {a : Addr} {xs : List V} {l : List IV} : FzS K cm H a xs → RepL cm H xs l → Rep cm H (.ref a) (.scr l)
  | obj {a C dx : Addr} {c : Str} {fs' : List (Str × V)} {fs : List (Str × IV)} : mg c = some (.ref C) → H a = some (.ins C dx fs') → a ∉ cm.av → RepF cm H fs' fs → Rep cm H (.ref a) (.obj c fs)
  | cell {a : Addr} {n : Nat} : cm.cm[n]? = some a → Rep cm H (.ref a) (.cell n)
  | exn {a d C : Addr} {c f : Str} {y : V} {v : IV} : mg c = some (.ref C) → XF K C f → H d = some (.xd [(f, y)]) → d ∉ cm.av → Rep cm H y v → Rep cm H (.ref a) (.exn a (.ref C) d f v c)
  | rng {a : Addr} {hi : Int} : H a = some (.rng 0 hi) → a ∉ cm.av → Rep cm H (.ref a) (.exn 0 .none 0 "" (.int hi) "")
  | err {a d C : Addr} {c f : Str} {y : V} {v : IV} : mg c = some (.ref C) → XF K C f → H a = some (errO a C d) → a ∉ cm.av → H d = some (.xd [(f, y)]) → d ∉ cm.av → Rep cm H y v → Rep cm H (.ref a) (errI c f v)
inductive RepL (cm : Wd) (H : Hp) : List V → List IV → Prop
  | nil : RepL cm H [] []
  | cons {x : V} {xs : List V} {v : IV} {l : List IV} : Rep cm H x v → RepL cm H xs l → RepL cm H (x :: xs) (v :: l)
inductive RepF (cm : Wd) (H : Hp) : List (Str × V) → List (Str × IV) → Prop
  | nil : RepF cm H [] []
  | cons {f : Str} {x : V} {xs : List (Str × V)} {v : IV} {l : List (Str × IV)} : Rep cm H x v → RepF cm H xs l → RepF cm H ((f, x) :: xs) ((f, v) :: l)
end
end
structure Ext (cm : Wd) (H : Hp) (cm' : Wd) (H' : Hp) : Prop where
  pre : ∃ l, cm'.cm = cm.cm ++ l
  fr : ∀ a o, H a = some o → a ∉ cm.cm → H' a = some o
  av : ∀ a o, H a = some o → a ∉ cm.av → a ∉ cm'.av
  new : ∀ a o, H a = some o → a ∉ cm.cm → a ∉ cm'.cm
  keep : ∀ a, a ∈ cm.av → a ∈ cm'.av
theorem Ext.refl (cm : Wd) (H : Hp) : Ext cm H cm H := ⟨⟨[], by simp⟩, fun _ _ h _ => h, fun _ _ _ n => n, fun _ _ _ n => n, fun _ h => h⟩
theorem Ext.trans {cm cm1 cm2 : Wd} {H H1 H2 : Hp} (a : Ext cm H cm1 H1) (b : Ext cm1 H1 cm2 H2) : Ext cm H cm2 H2 := by
  obtain ⟨l, e⟩ := a.pre
  obtain ⟨l', e'⟩ := b.pre
  refine ⟨⟨l ++ l', by rw [e', e, List.append_assoc]⟩, fun c o h n => ?_, fun c o h n => ?_, fun c o h n => ?_, fun c h => b.keep c (a.keep c h)⟩
  · exact b.fr c o (a.fr c o h n) (a.new c o h n)
  · exact b.av c o (a.fr c o h fun z => n (cm.sub c z)) (a.av c o h n)
  · exact b.new c o (a.fr c o h n) (a.new c o h n)
theorem Ext.mk' {cm : Wd} {H H' : Hp} (h : ∀ a o, H a = some o → a ∉ cm.cm → H' a = some o) : Ext cm H cm H' := ⟨⟨[], by simp⟩, h, fun _ _ _ n => n, fun _ _ _ n => n, fun _ h => h⟩
theorem Ext.new' {cm : Wd} {H : Hp} {p : Addr} {o : HO} (h : H p = none) : Ext cm H cm (upd H p o) :=
  Ext.mk' fun a u e n => by rw [upd_ne (ne_of_none e h)]; exact e
theorem Ext.set {cm : Wd} {H : Hp} {p : Addr} {o : HO} (h : p ∈ cm.cm) : Ext cm H cm (upd H p o) :=
  Ext.mk' fun a u e n => by rw [upd_ne (fun z => n (by rw [z]; exact h))]; exact e
theorem Ext.same {cm : Wd} {H H' : Hp} (h : Same H H') : Ext cm H cm H' := Ext.mk' fun a u e n => h a u e
section
variable {K : PySem.W.Frag} {mg : Str → Option Value} {cm cm' : Wd} {H H' : Hp}
theorem Ext.at2 (e : Ext cm H cm' H') {a : Addr} {u : HO} (h : H a = some u) (n : a ∉ cm.av) : H' a = some u ∧ a ∉ cm'.av := ⟨e.fr _ _ h fun z => n (cm.sub _ z), e.av _ _ h n⟩
theorem Ext.rd (e : Ext cm H cm' H') {a : Addr} {u : HO} (h : Rd H a u) (n : a ∉ cm.av) : Rd H' a u ∧ a ∉ cm'.av := by
  rcases h with h | ⟨o, h⟩
  · exact ⟨.inl (e.at2 h n).1, (e.at2 h n).2⟩
  · exact ⟨.inr ⟨o, (e.at2 h n).1⟩, (e.at2 h n).2⟩
theorem Ext.fzT (e : Ext cm H cm' H') {a : Addr} {xs : List V} (h : FzT K cm H a xs) : FzT K cm' H' a xs := h.imp (fun h => e.rd h.1 h.2) id
theorem Ext.fzS (e : Ext cm H cm' H') {a : Addr} {xs : List V} (h : FzS K cm H a xs) : FzS K cm' H' a xs := h.imp (fun ⟨⟨o, h⟩, n⟩ => ⟨⟨o, (e.at2 h n).1⟩, (e.at2 h n).2⟩) id
theorem Ext.fzL (e : Ext cm H cm' H') {a : Addr} {xs : List V} (h : FzL cm H a xs) : FzL cm' H' a xs := e.at2 h.1 h.2
theorem Ext.at (e : Ext cm H cm' H') {n : Nat} {a : Addr} (h : cm.cm[n]? = some a) : cm'.cm[n]? = some a := by
  obtain ⟨l, q⟩ := e.pre
  rw [q, List.getElem?_append_left (List.getElem?_eq_some_iff.mp h).1]
  exact h
mutual
theorem Rep.ext (e : Ext cm H cm' H') : ∀ {x : V} {v : IV}, Rep K mg cm H x v → Rep K mg cm' H' x v
  | _, _, .non => .non
  | _, _, .bl b => .bl b
  | _, _, .int i => .int i
  | _, _, .str x => .str x
  | _, _, .tup h r => .tup (e.fzT h) (RepL.ext e r)
  | _, _, .lst h r => .lst (e.fzL h) (RepL.ext e r)
  | _, _, .scr h r => .scr (e.fzS h) (RepL.ext e r)
  | _, _, .obj hc h n r => .obj hc (e.at2 h n).1 (e.at2 h n).2 (RepF.ext e r)
  | _, _, .cell h => .cell (e.at h)
  | _, _, .exn g c h n r => .exn g c (e.at2 h n).1 (e.at2 h n).2 (Rep.ext e r)
  | _, _, .rng h n => .rng (e.at2 h n).1 (e.at2 h n).2
  | _, _, .err g c h n h' n' r => .err g c (e.at2 h n).1 (e.at2 h n).2 (e.at2 h' n').1 (e.at2 h' n').2 (Rep.ext e r)
theorem RepL.ext (e : Ext cm H cm' H') : ∀ {xs : List V} {l : List IV}, RepL K mg cm H xs l → RepL K mg cm' H' xs l
  | _, _, .nil => .nil
  | _, _, .cons h r => .cons (Rep.ext e h) (RepL.ext e r)
theorem RepF.ext (e : Ext cm H cm' H') : ∀ {xs : List (Str × V)} {l : List (Str × IV)}, RepF K mg cm H xs l → RepF K mg cm' H' xs l
  | _, _, .nil => .nil
  | _, _, .cons h r => .cons (Rep.ext e h) (RepF.ext e r)
end
structure Cut (cm : Wd) (H : Hp) (cm' : Wd) (H' : Hp) : Prop where
  sub : ∀ a o, H a = some o → a ∉ cm.av → a ∉ cm'.av
  fr : ∀ a o, H a = some o → a ∉ cm.av → H' a = some o
theorem Cut.rd (e : Cut cm H cm' H') {a : Addr} {u : HO} (h : Rd H a u) (n : a ∉ cm.av) : Rd H' a u ∧ a ∉ cm'.av := by
  rcases h with h | ⟨o, h⟩
  · exact ⟨.inl (e.fr _ _ h n), e.sub _ _ h n⟩
  · exact ⟨.inr ⟨o, e.fr _ _ h n⟩, e.sub _ _ h n⟩
mutual
theorem Rep.cut (e : Cut cm H cm' H') : ∀ {x : V} {v : IV}, Rep K mg cm H x v → v.pure = true → Rep K mg cm' H' x v
  | _, _, .non, _ => .non
  | _, _, .bl b, _ => .bl b
  | _, _, .int i, _ => .int i
  | _, _, .str x, _ => .str x
  | _, _, .tup h r, p => .tup (h.imp (fun h => e.rd h.1 h.2) id) (RepL.cut e r (by simpa [IV.pure] using p))
  | _, _, .lst h r, p => .lst ⟨e.fr _ _ h.1 h.2, e.sub _ _ h.1 h.2⟩ (RepL.cut e r (by simpa [IV.pure] using p))
  | _, _, .scr h r, p => .scr (h.imp (fun ⟨⟨o, h⟩, n⟩ => ⟨⟨o, e.fr _ _ h n⟩, e.sub _ _ h n⟩) id) (RepL.cut e r (by simpa [IV.pure] using p))
  | _, _, .obj hc h n r, p => .obj hc (e.fr _ _ h n) (e.sub _ _ h n) (RepF.cut e r (by simpa [IV.pure] using p))
  | _, _, .cell h, p => by simp [IV.pure] at p
  | _, _, .exn g c h n r, p => by simp [IV.pure] at p
  | _, _, .rng h n, p => by simp [IV.pure] at p
  | _, _, .err g c h n h' n' r, p => by simp [IV.pure] at p
theorem RepL.cut (e : Cut cm H cm' H') : ∀ {xs : List V} {l : List IV}, RepL K mg cm H xs l → pureL l = true → RepL K mg cm' H' xs l
  | _, _, .nil, _ => .nil
  | _, _, .cons h r, p => by
    simp only [pureL, Bool.and_eq_true] at p
    exact .cons (Rep.cut e h p.1) (RepL.cut e r p.2)
theorem RepF.cut (e : Cut cm H cm' H') : ∀ {xs : List (Str × V)} {l : List (Str × IV)}, RepF K mg cm H xs l → pureF l = true → RepF K mg cm' H' xs l
  | _, _, .nil, _ => .nil
  | _, _, .cons h r, p => by
    simp only [pureF, Bool.and_eq_true] at p
    exact .cons (Rep.cut e h p.1) (RepF.cut e r p.2)
end
structure Weak (cm cm' : Wd) : Prop where
  ce : ∀ (n : Nat) (a : Addr), cm.cm[n]? = some a → cm'.cm[n]? = some a
  av : ∀ a, a ∉ cm.av → a ∉ cm'.av
mutual
theorem Rep.weak (e : Weak cm cm') : ∀ {x : V} {v : IV}, Rep K mg cm H x v → Rep K mg cm' H x v
  | _, _, .non => .non
  | _, _, .bl b => .bl b
  | _, _, .int i => .int i
  | _, _, .str x => .str x
  | _, _, .tup h r => .tup (h.imp (fun h => ⟨h.1, e.av _ h.2⟩) id) (RepL.weak e r)
  | _, _, .lst h r => .lst ⟨h.1, e.av _ h.2⟩ (RepL.weak e r)
  | _, _, .scr h r => .scr (h.imp (fun ⟨h, n⟩ => ⟨h, e.av _ n⟩) id) (RepL.weak e r)
  | _, _, .obj hc h n r => .obj hc h (e.av _ n) (RepF.weak e r)
  | _, _, .cell h => .cell (e.ce _ _ h)
  | _, _, .exn g c h n r => .exn g c h (e.av _ n) (Rep.weak e r)
  | _, _, .rng h n => .rng h (e.av _ n)
  | _, _, .err g c h n h' n' r => .err g c h (e.av _ n) h' (e.av _ n') (Rep.weak e r)
theorem RepL.weak (e : Weak cm cm') : ∀ {xs : List V} {l : List IV}, RepL K mg cm H xs l → RepL K mg cm' H xs l
  | _, _, .nil => .nil
  | _, _, .cons h r => .cons (Rep.weak e h) (RepL.weak e r)
theorem RepF.weak (e : Weak cm cm') : ∀ {xs : List (Str × V)} {l : List (Str × IV)}, RepF K mg cm H xs l → RepF K mg cm' H xs l
  | _, _, .nil => .nil
  | _, _, .cons h r => .cons (Rep.weak e h) (RepF.weak e r)
end
theorem Weak.unavoid {p : Addr} : Weak (cm.avoid p) cm := ⟨fun _ _ h => h, fun a h m => h (List.mem_cons_of_mem _ m)⟩
theorem Weak.push {p : Addr} : Weak (cm.avoid p) (cm.push p) := ⟨fun n a h => by
  show (cm.cm ++ [p])[n]? = some a
  have h' : cm.cm[n]? = some a := h
  rw [List.getElem?_append_left (List.getElem?_eq_some_iff.mp h').1]; exact h', fun a h => h⟩
theorem RepL.length : ∀ {xs : List V} {l : List IV}, RepL K mg cm H xs l → xs.length = l.length
  | _, _, .nil => rfl
  | _, _, .cons _ r => by simp [RepL.length r]
theorem RepL.get : ∀ {xs : List V} {l : List IV} {i : Nat} {v : IV}, RepL K mg cm H xs l → l[i]? = some v → ∃ x, xs[i]? = some x ∧ Rep K mg cm H x v
  | _, _, _, _, .nil, h => by simp at h
  | _, _, 0, _, .cons h _, e => by
    simp at e; subst e
    exact ⟨_, rfl, h⟩
  | _, _, i + 1, _, .cons _ r, e => by
    obtain ⟨x, h1, h2⟩ := RepL.get (i := i) r (by simpa using e)
    exact ⟨x, by simpa using h1, h2⟩
theorem RepL.get' : ∀ {xs : List V} {l : List IV} {i : Nat} {x : V}, RepL K mg cm H xs l → xs[i]? = some x → ∃ v, l[i]? = some v ∧ Rep K mg cm H x v
  | _, _, _, _, .nil, h => by simp at h
  | _, _, 0, _, .cons h _, e => by
    simp at e; subst e
    exact ⟨_, rfl, h⟩
  | _, _, i + 1, _, .cons _ r, e => by
    obtain ⟨x, h1, h2⟩ := RepL.get' (i := i) r (by simpa using e)
    exact ⟨x, by simpa using h1, h2⟩
theorem RepL.app : ∀ {xs ys : List V} {l m : List IV}, RepL K mg cm H xs l → RepL K mg cm H ys m → RepL K mg cm H (xs ++ ys) (l ++ m)
  | _, _, _, _, .nil, h => h
  | _, _, _, _, .cons h r, q => .cons h (RepL.app r q)
theorem RepL.take : ∀ {xs : List V} {l : List IV} (n : Nat), RepL K mg cm H xs l → RepL K mg cm H (xs.take n) (l.take n)
  | _, _, 0, _ => by simpa using RepL.nil
  | _, _, n + 1, .nil => by simpa using RepL.nil
  | _, _, n + 1, .cons h r => .cons h (RepL.take n r)
theorem RepL.drop : ∀ {xs : List V} {l : List IV} (n : Nat), RepL K mg cm H xs l → RepL K mg cm H (xs.drop n) (l.drop n)
  | _, _, 0, h => h
  | _, _, n + 1, .nil => by simpa using RepL.nil
  | _, _, n + 1, .cons h r => RepL.drop n r
theorem RepL.set : ∀ {xs : List V} {l : List IV} {x : V} {v : IV} (n : Nat), RepL K mg cm H xs l → Rep K mg cm H x v → RepL K mg cm H (xs.set n x) (l.set n v)
  | _, _, _, _, _, .nil, _ => by simpa using RepL.nil
  | _, _, _, _, 0, .cons h r, q => .cons q r
  | _, _, _, _, n + 1, .cons h r, q => .cons h (RepL.set n r q)
theorem RepL.rev : ∀ {xs : List V} {l : List IV}, RepL K mg cm H xs l → RepL K mg cm H xs.reverse l.reverse
  | _, _, .nil => by simpa using RepL.nil
  | _, _, .cons h r => by
    rw [List.reverse_cons, List.reverse_cons]
    exact RepL.app (RepL.rev r) (.cons h .nil)
theorem RepL.rep (n : Nat) : ∀ {xs : List V} {l : List IV}, RepL K mg cm H xs l → RepL K mg cm H (List.replicate n xs).flatten (List.replicate n l).flatten := by
  intro xs l r
  induction n with
  | zero => simpa using RepL.nil
  | succ n ih =>
    rw [List.replicate_succ, List.replicate_succ, List.flatten_cons, List.flatten_cons]
    exact r.app ih
theorem RepF.get : ∀ {xs : List (Str × V)} {l : List (Str × IV)} {f : Str} {v : IV}, RepF K mg cm H xs l → l.lookup f = some v → ∃ x, xs.lookup f = some x ∧ Rep K mg cm H x v
  | _, _, _, _, .nil, h => by simp at h
  | _, _, f, v, .cons (f := g) h r, e => by
    rw [List.lookup_cons] at e ⊢
    cases q : f == g with
    | true =>
      rw [q] at e
      simp at e; subst e
      exact ⟨_, rfl, h⟩
    | false =>
      rw [q] at e
      exact RepF.get r e
theorem RepF.none : ∀ {xs : List (Str × V)} {l : List (Str × IV)} {f : Str}, RepF K mg cm H xs l → l.lookup f = none → xs.lookup f = none
  | _, _, _, .nil, _ => rfl
  | _, _, f, .cons (f := g) h r, e => by
    rw [List.lookup_cons] at e ⊢
    cases q : f == g with
    | true => rw [q] at e; cases e
    | false =>
      rw [q] at e
      exact RepF.none r e
theorem RepF.length : ∀ {xs : List (Str × V)} {l : List (Str × IV)}, RepF K mg cm H xs l → xs.length = l.length
  | _, _, .nil => rfl
  | _, _, .cons _ r => by simp [RepF.length r]
def putI (f : Str) (v : IV) : List (Str × IV) → List (Str × IV)
  | [] => [(f, v)]
  | (g, w) :: r => if g = f then (g, v) :: r else (g, w) :: putI f v r
end
end MK
namespace MK
open PySem L2
section
variable (K : PySem.W.Frag) (mg : Str → Option Value)
def CellOk (cm : Wd) (H : Hp) (a : Addr) : CV → Prop
  | .lst l => ∃ xs, H a = some (.lst xs) ∧ RepL K mg cm H xs l ∧ pureL l = true
  | .ins c fs => ∃ C dx fs', mg c = some (.ref C) ∧ H a = some (.ins C dx fs') ∧ RepF K mg cm H fs' fs ∧ pureF fs = true
structure RelS (cm : Wd) (st : Sto) (H : Hp) : Prop where
  len : cm.cm.length = st.length
  nd : cm.cm.Nodup
  at' : ∀ (n : Nat) (a : Addr) (c : CV), cm.cm[n]? = some a → st[n]? = some c → CellOk K mg cm H a c
  avs : ∀ a, a ∈ cm.av → ∃ o, H a = some o
structure RelC (cm : Wd) (ls : Loc) (σ : L2.St) (H : Hp) : Prop where
  len : ls.length = σ.length
  at' : ∀ (i : Nat) (v : IV), ls[i]? = some (some v) → ∃ x, σ[i]? = some (some x) ∧ Rep K mg cm H x v
structure Rel (cm : Wd) (ls : Loc) (st : Sto) (σ : L2.St) (H : Hp) : Prop where
  sto : RelS K mg cm st H
  loc : RelC K mg cm ls σ H
def ExW (W : WX) (cm : Wd) (c f : Str) (v : IV) (σ : L2.St) (H : Hp) : Prop :=
  ∀ C d y, mg c = some (.ref C) → XF K C f → H d = some (.xd [(f, y)]) → d ∉ cm.av → Rep K mg cm H y v → W (.ref C) (some d) σ H
def Out {α : Type} (W : WX) (σ : L2.St) (cm : Wd) (H : Hp) (G : Wd → Hp → α → Prop) : OX α → Sto → Prop
  | .val a, st' => ∀ cm' H', Ext cm H cm' H' → RelS K mg cm' st' H' → G cm' H' a
  | .exc c f v, st' => ∀ cm' H', Ext cm H cm' H' → RelS K mg cm' st' H' → ExW K mg W cm' c f v σ H'
def Run {α : Type} (W : WX) (σ : L2.St) (H : Hp) (m : Loc → M α) (G : Wd → Hp → α → Prop) : Prop :=
  ∃ cm ls st r st', Rel K mg cm ls st σ H ∧ m ls st = some (r, st') ∧ Out K mg W σ cm H G r st'
def GE (Q : VK) (cm : Wd) (H : Hp) (v : IV) : Prop := ∀ x, Rep K mg cm H x v → Q x H
def GA (Q : List V → Hp → Prop) (cm : Wd) (H : Hp) (l : List IV) : Prop := ∀ xs, RepL K mg cm H xs l → Q xs H
def GS (W : WX) (D : Ends) (cm : Wd) (H : Hp) : Fl → Prop
  | .nx ls => ∀ σ, RelC K mg cm ls σ H → D.nx σ H
  | .bk ls => ∀ σ, RelC K mg cm ls σ H → D.bk σ H
  | .ct ls => ∀ σ, RelC K mg cm ls σ H → D.ct σ H
  | .rt v => ∀ x, Rep K mg cm H x v → D.rt x H
  | .ex ls c f v => ∀ σ, RelC K mg cm ls σ H → ExW K mg W cm c f v σ H
def rdE (W : WX) (m : ME) : TE := fun σ H Q => Run K mg W σ H m (GE K mg Q)
def rdT (W : WX) (m : MT) : TT := fun σ H Q => Run K mg W σ H m fun _ H' b => Q b H'
def rdA (W : WX) (m : MA) : TA := fun σ H Q => Run K mg W σ H m (GA K mg Q)
def OutS (W : WX) (D : Ends) (cm : Wd) (H : Hp) (fl : Fl) (st' : Sto) : Prop := ∀ cm' H', Ext cm H cm' H' → RelS K mg cm' st' H' → GS K mg W D cm' H' fl
def rdS (W : WX) (m : MS) : TS := fun D σ H => ∃ cm ls st fl st', Rel K mg cm ls st σ H ∧ m ls st = some (.val fl, st') ∧ OutS K mg W D cm H fl st'
end
section
variable {K : PySem.W.Frag} {mg : Str → Option Value} {cm cm' : Wd} {st st' : Sto} {H H' : Hp} {ls ls' : Loc} {σ : L2.St} {W : WX} {α β : Type}
theorem RelC.ext (e : Ext cm H cm' H') (h : RelC K mg cm ls σ H) : RelC K mg cm' ls σ H' := ⟨h.len, fun i v q => by
  obtain ⟨x, h1, h2⟩ := h.at' i v q
  exact ⟨x, h1, h2.ext e⟩⟩
theorem Rel.ext (e : Ext cm H cm' H') (h : Rel K mg cm ls st σ H) (s : RelS K mg cm' st' H') : Rel K mg cm' ls st' σ H' := ⟨s, h.loc.ext e⟩
theorem CellOk.ext (e : Ext cm H cm' H') {a : Addr} {c : CV} (h : CellOk K mg cm H a c) (k : H' a = H a) : CellOk K mg cm' H' a c := by
  cases c with
  | lst l =>
    obtain ⟨xs, h1, h2, h3⟩ := h
    exact ⟨xs, k.trans h1, h2.ext e, h3⟩
  | ins c fs =>
    obtain ⟨C, dx, fs', h0, h1, h2, h3⟩ := h
    exact ⟨C, dx, fs', h0, k.trans h1, h2.ext e, h3⟩
theorem RelS.ext (s : RelS K mg cm st H) (e : Ext cm H cm H') (k : ∀ a ∈ cm.cm, H' a = H a) : RelS K mg cm st H' := ⟨s.len, s.nd, fun n a c h1 h2 => (s.at' n a c h1 h2).ext e (k a (List.mem_of_getElem? h1)), fun a h => by
  obtain ⟨o, q⟩ := s.avs a h
  by_cases hc : a ∈ cm.cm
  · exact ⟨o, by rw [k a hc]; exact q⟩
  · exact ⟨o, e.fr a o q hc⟩⟩
theorem RelS.same (s : RelS K mg cm st H) (k : Same H H') : RelS K mg cm st H' := s.ext (Ext.same k) fun a h => by
  obtain ⟨o, q⟩ := s.avs a (cm.sub a h)
  rw [q]; exact k _ _ q
theorem same_new {H : Hp} {p : Addr} {o : HO} (h : H p = none) : Same H (upd H p o) := fun a u e => by rw [upd_ne (ne_of_none e h)]; exact e
theorem RelS.notAv (s : RelS K mg cm st H) {p : Addr} (h : H p = none) : p ∉ cm.av := fun m => by
  obtain ⟨o, e⟩ := s.avs p m
  rw [h] at e; cases e
theorem RelS.notCell (s : RelS K mg cm st H) {p : Addr} (h : H p = none) : p ∉ cm.cm := fun m => s.notAv h (cm.sub p m)
theorem RelS.new (s : RelS K mg cm st H) {p : Addr} {o : HO} (h : H p = none) : RelS K mg cm st (upd H p o) := s.same (same_new h)
theorem Ext.push {p : Addr} {o : HO} (h : H p = none) : Ext cm H (cm.push p) (upd H p o) where
  pre := ⟨[p], rfl⟩
  fr := fun a u e n => by rw [upd_ne (ne_of_none e h)]; exact e
  av := fun a u e n m => by
    rcases List.mem_cons.mp m with m | m
    · subst m; rw [h] at e; cases e
    · exact n m
  new := fun a u e n m => by
    rcases List.mem_append.mp m with m | m
    · exact n m
    · simp at m; subst m; rw [h] at e; cases e
  keep := fun a h => List.mem_cons_of_mem _ h
theorem Ext.avoid {p : Addr} {o : HO} (h : H p = none) : Ext cm H (cm.avoid p) (upd H p o) where
  pre := ⟨[], by simp [Wd.avoid]⟩
  fr := fun a u e n => by rw [upd_ne (ne_of_none e h)]; exact e
  av := fun a u e n m => by
    rcases List.mem_cons.mp m with m | m
    · subst m; rw [h] at e; cases e
    · exact n m
  new := fun a u e n => n
  keep := fun a h => List.mem_cons_of_mem _ h
theorem RelS.push (s : RelS K mg cm st H) {p : Addr} {c : CV} (h : H p = none) (e : Ext cm H (cm.push p) H') (k : ∀ a ∈ cm.cm, H' a = H a) (hp : ∃ o, H' p = some o) (hc : CellOk K mg (cm.push p) H' p c) : RelS K mg (cm.push p) (st ++ [c]) H' := by
  refine ⟨by simp [Wd.push, s.len], ?_, fun n a d h1 h2 => ?_, fun a m => ?_⟩
  · show (cm.cm ++ [p]).Nodup
    rw [List.nodup_append]
    exact ⟨s.nd, by simp, fun a ha b hb => by simp at hb; subst hb; exact fun z => s.notCell h (z ▸ ha)⟩
  · have h1' : (cm.cm ++ [p])[n]? = some a := h1
    by_cases hn : n < cm.cm.length
    · rw [List.getElem?_append_left hn] at h1'
      rw [List.getElem?_append_left (by rw [← s.len]; exact hn)] at h2
      exact (s.at' n a d h1' h2).ext e (k a (List.mem_of_getElem? h1'))
    · have hn' : n = cm.cm.length := by
        have := (List.getElem?_eq_some_iff.mp h1').1
        simp at this
        omega
      subst hn'
      rw [List.getElem?_append_right (Nat.le_refl _)] at h1'
      rw [s.len, List.getElem?_append_right (Nat.le_refl _)] at h2
      simp at h1' h2
      subst h1' h2
      exact hc
  · rcases List.mem_cons.mp m with m | m
    · subst m; exact hp
    · obtain ⟨o, q⟩ := s.avs a m
      by_cases hc : a ∈ cm.cm
      · exact ⟨o, by rw [k a hc]; exact q⟩
      · exact ⟨o, e.fr a o q hc⟩
theorem RelS.set (s : RelS K mg cm st H) {n : Nat} {a : Addr} {o : HO} {c : CV} (h : cm.cm[n]? = some a) (hc : CellOk K mg cm (upd H a o) a c) : RelS K mg cm (st.set n c) (upd H a o) := by
  have hm := List.mem_of_getElem? h
  refine ⟨by simp [s.len], s.nd, fun m b d h1 h2 => ?_, fun b m => ?_⟩
  · have hn : n < st.length := by rw [← s.len]; exact (List.getElem?_eq_some_iff.mp h).1
    by_cases e : n = m
    · subst e
      rw [h] at h1; cases h1
      rw [List.getElem?_set_self hn] at h2; cases h2
      exact hc
    · rw [List.getElem?_set_ne e] at h2
      have ne : b ≠ a := fun z => by
        subst z
        obtain ⟨i1, e1⟩ := List.getElem?_eq_some_iff.mp h
        obtain ⟨i2, e2⟩ := List.getElem?_eq_some_iff.mp h1
        exact e ((List.getElem_inj s.nd).mp (e1.trans e2.symm))
      exact (s.at' m b d h1 h2).ext (Ext.set hm) (upd_ne ne)
  · by_cases e : b = a
    · subst e; exact ⟨o, upd_same⟩
    · obtain ⟨u, q⟩ := s.avs b m
      exact ⟨u, by rw [upd_ne e]; exact q⟩
theorem Run.part {m : Loc → M α} {k : α → M β} {G : Wd → Hp → β → Prop} (h : Run K mg W σ H (fun ls => M.bind (m ls) k) G) :
    ∃ cm ls st, Rel K mg cm ls st σ H ∧ ∃ r st', m ls st = some (r, st') ∧ Out K mg W σ cm H (fun cm' H' a => ∃ r2 st2, k a st' = some (r2, st2) ∧ Out K mg W σ cm' H' G r2 st2) r st' := by
  obtain ⟨cm, ls, st, r, st', R, e, o⟩ := h
  refine ⟨cm, ls, st, R, ?_⟩
  rcases M.bind_inv e with ⟨a, st1, e1, e2⟩ | ⟨c, f, v, e1, rfl⟩
  · refine ⟨_, _, e1, fun cm' H' x s => ⟨r, st', e2, ?_⟩⟩
    cases r with
    | val b => exact fun cm2 H2 x2 s2 => o cm2 H2 (x.trans x2) s2
    | exc c f v => exact fun cm2 H2 x2 s2 => o cm2 H2 (x.trans x2) s2
  · exact ⟨_, _, e1, o⟩
end
theorem PE_imp {X : Cx} {e : Expr} {t t' : TE} (h : PE X e t) (i : ∀ σ H Q, t' σ H Q → t σ H Q) : PE X e t' := ⟨fun pins s σ H Q I q => h.run pins s σ H Q I (i σ H Q q)⟩
theorem PT_imp {X : Cx} {e : Expr} {t t' : TT} (h : PT X e t) (i : ∀ σ H Q, t' σ H Q → t σ H Q) : PT X e t' := ⟨fun pins s σ H Q I q => h.run pins s σ H Q I (i σ H Q q)⟩
theorem PW_imp {X : Cx} {e : Expr} {t t' : TT} (h : PW X e t) (i : ∀ σ H Q, t' σ H Q → t σ H Q) : PW X e t' := ⟨fun wh pins s σ H Q I q => h.run wh pins s σ H Q I (i σ H Q q)⟩
theorem PA_imp {X : Cx} {es : List Expr} {t t' : TA} (h : PA X es t) (i : ∀ σ H Q, t' σ H Q → t σ H Q) : PA X es t' := ⟨fun pos pins s σ H Q I q => h.run pos pins s σ H Q I (i σ H Q q)⟩
theorem PS_imp {X : Cx} {st : Stmt} {t t' : TS} (h : PS X st t) (i : ∀ D σ H, t' D σ H → t D σ H) : PS X st t' := ⟨fun pins s σ H D I q => h.run pins s σ H D I (i D σ H q)⟩
theorem PSs_imp {X : Cx} {st : List Stmt} {t t' : TS} (h : PSs X st t) (i : ∀ D σ H, t' D σ H → t D σ H) : PSs X st t' := ⟨fun pins s σ H D I q => h.run pins s σ H D I (i D σ H q)⟩
end MK
namespace MK
open PySem L2
def lstOf (st : Sto) : IV → Option (List IV)
  | .lst l => some l
  | .cell n => match st[n]? with | some (.lst l) => some l | _ => none
  | _ => none
def asSeq (st : Sto) : IV → Option (List IV)
  | .tup l => some l
  | .scr l => some l
  | v => lstOf st v
mutual
def IV.toD : IV → Option PyData
  | .non => some .none
  | .bl b => some (.bool b)
  | .int i => some (.int i)
  | .str x => some (.str x)
  | .tup l => (toDL l).map .tuple
  | .lst l => (toDL l).map .list
  | .scr l => (toDL l).map .list
  | _ => none
def toDL : List IV → Option (List PyData)
  | [] => some []
  | x :: xs => match x.toD, toDL xs with
    | some d, some ds => some (d :: ds)
    | _, _ => none
end
def IV.data (st : Sto) : IV → Option PyData
  | .cell n => match st[n]? with | some (.lst l) => (toDL l).map .list | _ => none
  | v => v.toD
section
variable {K : PySem.W.Frag} {mg : Str → Option Value} {cm cm' : Wd} {st : Sto} {H H' : Hp} {x y : V} {a b v : IV} {l : List IV}
theorem lstOf_rep (s : RelS K mg cm st H) (h : Rep K mg cm H x a) (e : lstOf st a = some l) : ∃ p xs, x = .ref p ∧ H p = some (.lst xs) ∧ RepL K mg cm H xs l := by
  cases h with
  | lst h r => simp only [lstOf] at e; cases e; exact ⟨_, _, rfl, h.1, r⟩
  | @cell p n h =>
    simp only [lstOf] at e
    cases q : st[n]? with
    | none => rw [q] at e; cases e
    | some c =>
      rw [q] at e
      cases c with
      | ins => cases e
      | lst l' =>
        cases e
        obtain ⟨xs, h1, h2, _⟩ := s.at' n p _ h q
        exact ⟨p, xs, rfl, h1, h2⟩
  | _ => cases e
theorem asSeq_rep (s : RelS K mg cm st H) (h : Rep K mg cm H x a) (e : asSeq st a = some l) : ∃ p xs, x = .ref p ∧ (SqL K H p xs ∨ SqT K H p xs) ∧ RepL K mg cm H xs l := by
  cases h with
  | tup h r => simp only [asSeq] at e; cases e; exact ⟨_, _, rfl, .inr h.sq, r⟩
  | scr h r => simp only [asSeq] at e; cases e; exact ⟨_, _, rfl, .inl h.sq, r⟩
  | lst h r =>
    obtain ⟨p, xs, e1, h1, h2⟩ := lstOf_rep s (.lst h r) e
    exact ⟨p, xs, e1, .inl (SqL.of h1), h2⟩
  | cell h =>
    obtain ⟨p, xs, e1, h1, h2⟩ := lstOf_rep s (.cell h) e
    exact ⟨p, xs, e1, .inl (SqL.of h1), h2⟩
  | _ => cases e
mutual
theorem toD_Dp : ∀ (a : IV) {x : V} {d : PyData}, Rep K mg cm H x a → a.toD = some d → Dp K H x d
  | .non, _, _, h, e => by cases h; simp only [IV.toD] at e; cases e; exact .non
  | .bl b, _, _, h, e => by cases h; simp only [IV.toD] at e; cases e; exact .bl _
  | .int i, _, _, h, e => by cases h; simp only [IV.toD] at e; cases e; exact .int _
  | .str z, _, _, h, e => by cases h; simp only [IV.toD] at e; cases e; exact .str _
  | .tup l, _, _, h, e => by
    cases h with
    | tup h r =>
      simp only [IV.toD] at e
      cases q : toDL l with
      | none => rw [q] at e; cases e
      | some ds => rw [q] at e; cases e; exact .tup h.sq (toDL_Dp l r q)
  | .lst l, _, _, h, e => by
    cases h with
    | lst h r =>
      simp only [IV.toD] at e
      cases q : toDL l with
      | none => rw [q] at e; cases e
      | some ds => rw [q] at e; cases e; exact .lst h.sq (toDL_Dp l r q)
  | .scr l, _, _, h, e => by
    cases h with
    | scr h r =>
      simp only [IV.toD] at e
      cases q : toDL l with
      | none => rw [q] at e; cases e
      | some ds => rw [q] at e; cases e; exact .lst h.sq (toDL_Dp l r q)
  | .obj .., _, _, _, e => by simp only [IV.toD] at e; cases e
  | .cell _, _, _, _, e => by simp only [IV.toD] at e; cases e
  | .exn .., _, _, _, e => by simp only [IV.toD] at e; cases e
theorem toDL_Dp : ∀ (l : List IV) {xs : List V} {ds : List PyData}, RepL K mg cm H xs l → toDL l = some ds → DpAll K H xs ds
  | [], _, _, h, e => by cases h; simp only [toDL] at e; cases e; exact .nil
  | a :: l, _, _, h, e => by
    cases h with
    | cons h r =>
      simp only [toDL] at e
      cases q1 : a.toD with
      | none => rw [q1] at e; cases e
      | some d =>
        cases q2 : toDL l with
        | none => rw [q1, q2] at e; cases e
        | some ds => rw [q1, q2] at e; cases e; exact .cons (toD_Dp a h q1) (toDL_Dp l r q2)
end
theorem data_Dp (s : RelS K mg cm st H) (h : Rep K mg cm H x a) {d : PyData} (e : a.data st = some d) : Dp K H x d := by
  by_cases hc : ∃ n, a = .cell n
  · obtain ⟨n, rfl⟩ := hc
    simp only [IV.data] at e
    cases q : st[n]? with
    | none => rw [q] at e; cases e
    | some c =>
      rw [q] at e
      cases c with
      | ins => cases e
      | lst l' =>
        obtain ⟨p, xs, rfl, h1, h2⟩ := lstOf_rep (l := l') s h (by simp only [lstOf, q])
        cases q2 : toDL l' with
        | none => simp only [q2] at e; cases e
        | some ds => simp only [q2] at e; cases e; exact .lst (SqL.of h1) (toDL_Dp l' h2 q2)
  · have e' : a.toD = some d := by
      cases a with
      | cell n => exact absurd ⟨n, rfl⟩ hc
      | _ => exact e
    exact toD_Dp a h e'
end
def OpV (K : PySem.W.Frag) (mg : Str → Option Value) (r : R2) (g : Sto → IV → IV → Option IV) : Prop :=
  ∀ (cm : Wd) (st : Sto) (H : Hp) (x y : V) (a b v : IV) (Q : VK), RelS K mg cm st H → Rep K mg cm H x a → Rep K mg cm H y b → g st a b = some v →
    (∀ cm' H' z, Ext cm H cm' H' → RelS K mg cm' st H' → Rep K mg cm' H' z v → Q z H') → r x y H Q
def addI (st : Sto) (a b : IV) : Option IV := match a, b with
  | .int i, .int j => some (.int (i + j))
  | .str x, .str y => if x.length + y.length ≤ 16777216 then some (.str (x ++ y)) else none
  | .tup l, .tup m => if l.length + m.length ≤ 16777216 then some (.tup (l ++ m)) else none
  | a, b => match lstOf st a, lstOf st b with
    | some l, some m => if l.length + m.length ≤ 16777216 then some (.lst (l ++ m)) else none
    | _, _ => none
def rAddI (K : PySem.W.Frag) : R2 := fun x y H Q => rI0 (fun i j => .int (i + j)) x y H Q ∨ (∃ i j, x = .str i ∧ y = .str j ∧ i.length + j.length ≤ sizeLine ∧ Q (.str (i ++ j)) H) ∨ rCatA K x y H Q ∨ rCat x y H Q
theorem op_addI {X : Cx} : OpR X (binaryOp .Add) (rAddI X.K) := by
  intro pins s σ H x y v u Q I rx ry h
  rcases h with h | h | h | h
  · exact op_add pins s σ H x y v u Q I rx ry h
  · exact op_add_str pins s σ H x y v u Q I rx ry h
  · exact op_catA pins s σ H x y v u Q I rx ry h
  · exact op_cat pins s σ H x y v u Q I rx ry h
theorem v_add {K : PySem.W.Frag} {mg : Str → Option Value} : OpV K mg (rAddI K) addI := by
  intro cm st H x y a b v Q s hx hy e k
  have z := sizeLine_eq
  have lists : ∀ l m, lstOf st a = some l → lstOf st b = some m → l.length + m.length ≤ 16777216 → v = .lst (l ++ m) → rAddI K x y H Q := by
    intro l m e1 e2 e3 e4
    obtain ⟨p, xs, rfl, h1, h2⟩ := lstOf_rep s hx e1
    obtain ⟨q, ys, rfl, h3, h4⟩ := lstOf_rep s hy e2
    have l1 := h2.length
    have l2 := h4.length
    refine .inr (.inr (.inr ⟨p, q, xs, ys, rfl, rfl, h1, h3, by omega, fun c hc => ?_⟩))
    have E : Ext cm H cm (upd H c (.lst (xs ++ ys))) := Ext.new' hc
    subst e4
    exact k cm _ _ E (s.new hc) (.lst ⟨upd_same, s.notAv hc⟩ ((h2.ext E).app (h4.ext E)))
  have last : (match lstOf st a, lstOf st b with
    | some l, some m => if l.length + m.length ≤ 16777216 then some (IV.lst (l ++ m)) else none
    | _, _ => none) = some v → rAddI K x y H Q := by
    intro e
    cases e1 : lstOf st a with
    | none => rw [e1] at e; simp at e
    | some l =>
      cases e2 : lstOf st b with
      | none => rw [e1, e2] at e; simp at e
      | some m =>
        rw [e1, e2] at e
        simp only at e
        split at e
        · cases e; exact lists l m e1 e2 (by assumption) rfl
        · cases e
  cases a <;> cases b <;> first
    | exact last e
    | skip
  case int.int i j =>
    simp only [addI] at e
    cases e
    cases hx
    cases hy
    exact .inl ⟨_, _, rfl, rfl, k cm H _ (Ext.refl _ _) s (.int _)⟩
  case str.str i j =>
    simp only [addI] at e
    split at e
    · cases e
      cases hx
      cases hy
      exact .inr (.inl ⟨_, _, rfl, rfl, by omega, k cm H _ (Ext.refl _ _) s (.str _)⟩)
    · cases e
  case tup.tup l m =>
    simp only [addI] at e
    split at e
    · cases e
      cases hx with
      | @tup p xs _ h1 h2 =>
        cases hy with
        | @tup q ys _ h3 h4 =>
          have l1 := h2.length
          have l2 := h4.length
          refine .inr (.inr (.inl ⟨_, _, xs, ys, rfl, rfl, h1.sq, h3.sq, by omega, fun e => ?_, fun _ e => ?_, fun _ _ c hc => ?_⟩))
          · subst e; cases h2; exact k cm H _ (Ext.refl _ _) s (.tup h3 h4)
          · subst e; cases h4; exact k cm H _ (Ext.refl _ _) s (by rw [List.append_nil]; exact .tup h1 h2)
          · have E : Ext cm H cm (upd H c (.tup (xs ++ ys))) := Ext.new' hc
            exact k cm _ _ E (s.new hc) (.tup (.inl ⟨.inl upd_same, s.notAv hc⟩) ((h2.ext E).app (h4.ext E)))
    · cases e
end MK
namespace MK
open PySem L2
section
variable {K : PySem.W.Frag} {mg : Str → Option Value}
def subI (_ : Sto) (a b : IV) : Option IV := match a, b with
  | .int i, .int j => some (.int (i - j))
  | _, _ => none
theorem v_sub : OpV K mg (rI0 fun i j => .int (i - j)) subI := by
  intro cm st H x y a b v Q s hx hy e k
  cases a <;> cases b <;> simp only [subI] at e <;> cases e
  cases hx; cases hy
  exact ⟨_, _, rfl, rfl, k cm H _ (Ext.refl _ _) s (.int _)⟩
def mulI (_ : Sto) (a b : IV) : Option IV := match a, b with
  | .int i, .int j => if i.natAbs.log2 + j.natAbs.log2 < 1000000 then some (.int (i * j)) else none
  | .tup l, .int j => if l ≠ [] ∧ 2 ≤ j ∧ j ≤ 1000 ∧ l.length ≤ 1000 then some (.tup (List.replicate j.toNat l).flatten) else none
  | _, _ => none
def rMulI (K : PySem.W.Frag) : R2 := fun x y H Q => rI CMulW (fun i j => .int (i * j)) x y H Q ∨ rRepT K x y H Q
theorem op_mulI {X : Cx} : OpR X (binaryOp .Mult) (rMulI X.K) := by
  intro pins s σ H x y v u Q I rx ry h
  rcases h with h | h
  · exact op_mulW pins s σ H x y v u Q I rx ry h
  · exact op_repT pins s σ H x y v u Q I rx ry h
theorem v_mul : OpV K mg (rMulI K) mulI := by
  intro cm st H x y a b v Q s hx hy e k
  cases a <;> cases b <;> simp only [mulI] at e <;> try cases e
  case int.int i j =>
    split at e
    · cases e; cases hx; cases hy
      exact .inl ⟨_, _, rfl, rfl, by assumption, k cm H _ (Ext.refl _ _) s (.int _)⟩
    · cases e
  case tup.int l j =>
    split at e
    · rename_i hc
      cases e; cases hy
      cases hx with
      | @tup p xs _ h1 h2 =>
        have l1 := h2.length
        refine .inr ⟨_, _, xs, rfl, rfl, h1.sq, fun z => ?_, hc.2.1, hc.2.2.1, by omega, fun c hn => ?_⟩
        · subst z; cases h2; exact hc.1 rfl
        · have E : Ext cm H cm (upd H c (.tup (List.replicate j.toNat xs).flatten)) := Ext.new' hn
          exact k cm _ _ E (s.new hn) (.tup (.inl ⟨.inl upd_same, s.notAv hn⟩) ((h2.ext E).rep _))
    · cases e
def fdivI (_ : Sto) (a b : IV) : Option IV := match a, b with
  | .int i, .int j => if 0 < j ∧ j.natAbs.log2 < 9000 then some (.int (i / j)) else none
  | _, _ => none
theorem v_fdiv : OpV K mg (rI CDivW fun i j => .int (i / j)) fdivI := by
  intro cm st H x y a b v Q s hx hy e k
  cases a <;> cases b <;> simp only [fdivI] at e <;> try cases e
  split at e
  · cases e; cases hx; cases hy
    exact ⟨_, _, rfl, rfl, by assumption, k cm H _ (Ext.refl _ _) s (.int _)⟩
  · cases e
def modI (_ : Sto) (a b : IV) : Option IV := match a, b with
  | .int i, .int j => if 0 < j then some (.int (i % j)) else none
  | _, _ => none
theorem v_mod : OpV K mg (rI (fun _ j => 0 < j) fun i j => .int (i % j)) modI := by
  intro cm st H x y a b v Q s hx hy e k
  cases a <;> cases b <;> simp only [modI] at e <;> try cases e
  split at e
  · cases e; cases hx; cases hy
    exact ⟨_, _, rfl, rfl, by assumption, k cm H _ (Ext.refl _ _) s (.int _)⟩
  · cases e
def powI (_ : Sto) (a b : IV) : Option IV := match a, b with
  | .int i, .int j => if 0 ≤ j ∧ j ≤ 1000000 ∧ i.natAbs < 2 ^ 64 then some (.int (i ^ j.toNat)) else none
  | _, _ => none
theorem v_pow : OpV K mg (rI CPow fun i j => .int (i ^ j.toNat)) powI := by
  intro cm st H x y a b v Q s hx hy e k
  cases a <;> cases b <;> simp only [powI] at e <;> try cases e
  split at e
  · cases e; cases hx; cases hy
    exact ⟨_, _, rfl, rfl, by assumption, k cm H _ (Ext.refl _ _) s (.int _)⟩
  · cases e
def cmpI (p : Int → Int → Bool) (_ : Sto) (a b : IV) : Option IV := match a, b with
  | .int i, .int j => some (.bl (p i j))
  | _, _ => none
theorem v_cmp {p : Int → Int → Bool} : OpV K mg (rI0 fun i j => .bl (p i j)) (cmpI p) := by
  intro cm st H x y a b v Q s hx hy e k
  cases a <;> cases b <;> simp only [cmpI] at e <;> cases e
  cases hx; cases hy
  exact ⟨_, _, rfl, rfl, k cm H _ (Ext.refl _ _) s (.bl _)⟩
def eqB (st : Sto) (a b : IV) : Option Bool := match a.data st, b.data st with
  | some d, some e => if SeqAt.shaped d = true ∧ SeqAt.shaped e = true then some (PyData.eqv d e) else none
  | _, _ => none
def eqI (st : Sto) (a b : IV) : Option IV := (eqB st a b).map .bl
def neI (st : Sto) (a b : IV) : Option IV := (eqB st a b).map fun c => .bl (!c)
theorem eqB_data {cm : Wd} {st : Sto} {H : Hp} {x y : V} {a b : IV} {c : Bool} (s : RelS K mg cm st H) (hx : Rep K mg cm H x a) (hy : Rep K mg cm H y b) (e : eqB st a b = some c) :
    ∃ d d', Dp K H x d ∧ Dp K H y d' ∧ SeqAt.shaped d = true ∧ SeqAt.shaped d' = true ∧ c = PyData.eqv d d' := by
  unfold eqB at e
  cases e1 : a.data st with
  | none => rw [e1] at e; simp at e
  | some d =>
    cases e2 : b.data st with
    | none => rw [e1, e2] at e; simp at e
    | some d' =>
      rw [e1, e2] at e
      simp only at e
      split at e
      · rename_i h
        cases e
        exact ⟨d, d', data_Dp s hx e1, data_Dp s hy e2, h.1, h.2, rfl⟩
      · cases e
theorem v_eq : OpV K mg (rEqD K) eqI := by
  intro cm st H x y a b v Q s hx hy e k
  unfold eqI at e
  cases q : eqB st a b with
  | none => rw [q] at e; cases e
  | some c =>
    rw [q] at e; cases e
    obtain ⟨d, d', h1, h2, h3, h4, rfl⟩ := eqB_data s hx hy q
    exact ⟨d, d', h1, h2, h3, h4, k cm H _ (Ext.refl _ _) s (.bl _)⟩
theorem v_ne : OpV K mg (rNeD K) neI := by
  intro cm st H x y a b v Q s hx hy e k
  unfold neI at e
  cases q : eqB st a b with
  | none => rw [q] at e; cases e
  | some c =>
    rw [q] at e; cases e
    obtain ⟨d, d', h1, h2, h3, h4, rfl⟩ := eqB_data s hx hy q
    exact ⟨d, d', h1, h2, h3, h4, k cm H _ (Ext.refl _ _) s (.bl _)⟩
def isB (a b : IV) : Option Bool := match b with
  | .non => (match a with | .non => some true | _ => some false)
  | .bl c => (match a with | .bl d => some (d == c) | _ => none)
  | _ => none
def isNotI (_ : Sto) (a b : IV) : Option IV := (isB a b).map fun c => .bl (!c)
def rIsNotI : R2 := fun x y H Q => (y = .non ∧ Q (.bl (!decide (x = .non))) H) ∨ rNotB x y H Q
theorem op_isNotI {X : Cx} : OpR X (compareOp .IsNot) rIsNotI := by
  intro pins s σ H x y v u Q I rx ry h
  rcases h with h | h
  · exact op_notN pins s σ H x y v u Q I rx ry h
  · exact op_notBl pins s σ H x y v u Q I rx ry h
theorem isB_rep {cm : Wd} {H : Hp} {x y : V} {a b : IV} {c : Bool} (hx : Rep K mg cm H x a) (hy : Rep K mg cm H y b) (e : isB a b = some c) :
    (y = .non ∧ c = decide (x = .non)) ∨ ∃ p q : Bool, x = .bl p ∧ y = .bl q ∧ c = decide (p = q) := by
  cases b with
  | non =>
    cases hy
    refine .inl ⟨rfl, ?_⟩
    cases hx <;> simp [isB] at e <;> subst e <;> simp
  | bl q =>
    cases hy
    cases a with
    | bl p =>
      cases hx
      simp only [isB] at e
      cases e
      refine .inr ⟨_, _, rfl, rfl, ?_⟩
      cases p <;> cases q <;> rfl
    | _ => simp [isB] at e
  | _ => simp [isB] at e
theorem v_isNot : OpV K mg rIsNotI isNotI := by
  intro cm st H x y a b v Q s hx hy e k
  unfold isNotI at e
  cases q : isB a b with
  | none => rw [q] at e; cases e
  | some c =>
    rw [q] at e; cases e
    have k' := k cm H (.bl (!c)) (Ext.refl _ _) s (.bl _)
    rcases isB_rep hx hy q with ⟨h1, rfl⟩ | ⟨p1, p2, h1, h2, rfl⟩
    · exact .inl ⟨h1, k'⟩
    · exact .inr ⟨p1, p2, h1, h2, k'⟩
def IV.flat : IV → Bool
  | .non => true
  | .bl _ => true
  | .int _ => true
  | .str _ => true
  | _ => false
def eqF : IV → IV → Bool
  | .non, .non => true
  | .bl a, .bl b => a == b
  | .bl a, .int b => (if a then 1 else 0) == b
  | .int a, .bl b => a == (if b then 1 else 0)
  | .int a, .int b => a == b
  | .str a, .str b => a == b
  | _, _ => false
def inB (st : Sto) (a b : IV) : Option Bool := match asSeq st b with
  | some l => if a.flat = true ∧ l.all IV.flat = true then some (l.any fun z => eqF z a) else
      match b.data st, a.data st with
      | some (.list ds), some d => if SeqAt.shaped d = true ∧ SeqAt.shaped (.list ds) = true then some (ds.any fun z => PyData.eqv z d) else none
      | _, _ => none
  | none => none
def inI (st : Sto) (a b : IV) : Option IV := (inB st a b).map .bl
def notInI (st : Sto) (a b : IV) : Option IV := (inB st a b).map fun c => .bl (!c)
def rInI (K : PySem.W.Frag) : R2 := fun x y H Q => rIn K false x y H Q ∨ rInD K x y H Q
def rNotInI (K : PySem.W.Frag) : R2 := fun x y H Q => rIn K true x y H Q ∨ rNotInD K x y H Q
theorem op_inI {X : Cx} (hu : X.A.units + 65 < cLine) : OpR X (compareOp .In) (rInI X.K) := by
  intro pins s σ H x y v u Q I rx ry h
  rcases h with h | h
  · exact op_in_seq pins s σ H x y v u Q I rx ry h
  · exact op_inD hu pins s σ H x y v u Q I rx ry h
theorem op_notInI {X : Cx} (hu : X.A.units + 65 < cLine) : OpR X (compareOp .NotIn) (rNotInI X.K) := by
  intro pins s σ H x y v u Q I rx ry h
  rcases h with h | h
  · exact op_notIn_seq pins s σ H x y v u Q I rx ry h
  · exact op_notInD hu pins s σ H x y v u Q I rx ry h
theorem flat_rep {cm : Wd} {H : Hp} {x : V} {a : IV} (h : Rep K mg cm H x a) (f : a.flat = true) : flatV x = true := by
  cases h <;> simp [IV.flat] at f <;> rfl
theorem flatL_rep {cm : Wd} {H : Hp} : ∀ {xs : List V} {l : List IV}, RepL K mg cm H xs l → l.all IV.flat = true → xs.all flatV = true
  | _, _, .nil, _ => rfl
  | _, _, .cons h r, f => by
    rw [List.all_cons, Bool.and_eq_true] at f
    rw [List.all_cons, flat_rep h f.1, flatL_rep r f.2]; rfl
theorem eqF_rep {cm : Wd} {H : Hp} {x y : V} {a b : IV} (hx : Rep K mg cm H x a) (hy : Rep K mg cm H y b) (f : a.flat = true) (f' : b.flat = true) : eqV x y = eqF a b := by
  cases hx <;> simp [IV.flat] at f <;> cases hy <;> simp [IV.flat] at f' <;> rfl
theorem anyF_rep {cm : Wd} {H : Hp} {x : V} {a : IV} (hx : Rep K mg cm H x a) (f : a.flat = true) : ∀ {xs : List V} {l : List IV}, RepL K mg cm H xs l → l.all IV.flat = true → inV x xs = l.any fun z => eqF z a
  | _, _, .nil, _ => rfl
  | _, _, .cons h r, f' => by
    rw [List.all_cons, Bool.and_eq_true] at f'
    have q := anyF_rep hx f r f'.2
    unfold inV at q ⊢
    rw [List.any_cons, List.any_cons, q, eqF_rep h hx f'.1 f]
theorem inB_rep {cm : Wd} {st : Sto} {H : Hp} {x y : V} {a b : IV} {c : Bool} (s : RelS K mg cm st H) (hx : Rep K mg cm H x a) (hy : Rep K mg cm H y b) (e : inB st a b = some c) :
    (∃ p xs, y = .ref p ∧ (SqL K H p xs ∨ SqT K H p xs) ∧ flatV x = true ∧ xs.all flatV = true ∧ c = inV x xs) ∨
    ∃ d ds, Dp K H x d ∧ Dp K H y (.list ds) ∧ SeqAt.shaped d = true ∧ SeqAt.shaped (.list ds) = true ∧ c = ds.any fun z => PyData.eqv z d := by
  unfold inB at e
  cases e1 : asSeq st b with
  | none => rw [e1] at e; cases e
  | some l =>
    rw [e1] at e
    simp only at e
    split at e
    · rename_i h
      cases e
      obtain ⟨p, xs, h1, h2, h3⟩ := asSeq_rep s hy e1
      exact .inl ⟨p, xs, h1, h2, flat_rep hx h.1, flatL_rep h3 h.2, (anyF_rep hx h.1 h3 h.2).symm⟩
    · split at e
      · rename_i ds d h1 h2
        split at e
        · rename_i h3
          cases e
          exact .inr ⟨d, ds, data_Dp s hx h2, data_Dp s hy h1, h3.1, h3.2, rfl⟩
        · cases e
      · cases e
theorem v_in : OpV K mg (rInI K) inI := by
  intro cm st H x y a b v Q s hx hy e k
  unfold inI at e
  cases q : inB st a b with
  | none => rw [q] at e; cases e
  | some c =>
    rw [q] at e; cases e
    have k' := k cm H (.bl c) (Ext.refl _ _) s (.bl _)
    rcases inB_rep s hx hy q with ⟨p, xs, h1, h2, h3, h4, rfl⟩ | ⟨d, ds, h1, h2, h3, h4, rfl⟩
    · exact .inl ⟨p, xs, h1, h2, h3, h4, by rw [if_neg (by decide)]; exact k'⟩
    · exact .inr ⟨d, ds, h1, h2, h3, h4, k'⟩
theorem v_notIn : OpV K mg (rNotInI K) notInI := by
  intro cm st H x y a b v Q s hx hy e k
  unfold notInI at e
  cases q : inB st a b with
  | none => rw [q] at e; cases e
  | some c =>
    rw [q] at e; cases e
    have k' := k cm H (.bl (!c)) (Ext.refl _ _) s (.bl _)
    rcases inB_rep s hx hy q with ⟨p, xs, h1, h2, h3, h4, rfl⟩ | ⟨d, ds, h1, h2, h3, h4, rfl⟩
    · exact .inl ⟨p, xs, h1, h2, h3, h4, by rw [if_pos rfl]; exact k'⟩
    · exact .inr ⟨d, ds, h1, h2, h3, h4, k'⟩
def itemI (st : Sto) (a b : IV) : Option IV := match b with
  | .int i => (match a with
    | .str z => if z.length ≤ 16777216 then (atI z.cps.toList i).map fun c => .str ⟨#[c]⟩ else none
    | a => (asSeq st a).bind fun l => atI l i)
  | _ => none
theorem atI_rep {cm : Wd} {H : Hp} {xs : List V} {l : List IV} {i : Int} {v : IV} (r : RepL K mg cm H xs l) (e : atI l i = some v) : ∃ x, atI xs i = some x ∧ Rep K mg cm H x v := by
  unfold atI at e ⊢
  rw [r.length]
  cases q : ixN l.length i with
  | none => rw [q] at e; cases e
  | some j =>
    rw [q] at e
    obtain ⟨x, h1, h2⟩ := r.get e
    exact ⟨x, h1, h2⟩
theorem v_item : OpV K mg (rIx K) itemI := by
  intro cm st H x y a b v Q s hx hy e k
  have z := sizeLine_eq
  cases b with
  | int i =>
    cases hy
    have seq : (asSeq st a).bind (fun l => atI l i) = some v → rIx K x (.int i) H Q := fun e => by
      cases e1 : asSeq st a with
      | none => rw [e1] at e; cases e
      | some l =>
        rw [e1] at e
        obtain ⟨p, xs, h1, h2, h3⟩ := asSeq_rep s hx e1
        obtain ⟨w, h4, h5⟩ := atI_rep h3 e
        have k' := k cm H w (Ext.refl _ _) s h5
        rcases h2 with h2 | h2
        · exact .inl ⟨p, xs, i, w, h1, rfl, h2, h4, k'⟩
        · exact .inr (.inl ⟨p, xs, i, w, h1, rfl, h2, h4, k'⟩)
    cases a with
    | str z' =>
      cases hx
      simp only [itemI] at e
      split at e
      · cases q : atI z'.cps.toList i with
        | none => rw [q] at e; cases e
        | some c =>
          rw [q] at e; cases e
          exact .inr (.inr ⟨z', i, c, rfl, rfl, by omega, q, k cm H _ (Ext.refl _ _) s (.str _)⟩)
      · cases e
    | _ => exact seq e
  | _ => simp [itemI] at e
end
end MK
namespace MK
open PySem L2
section
variable {K : PySem.W.Frag} {mg : Str → Option Value} {σ : L2.St} {H : Hp} {W : WX} {α β : Type}
theorem rd1 {fa : ME} {k : IV → M IV} {Q : VK} (h : rdE K mg W (fun ls => M.bind (fa ls) k) σ H Q) :
    rdE K mg W fa σ H fun x H1 => ∃ cm st a r st', RelS K mg cm st H1 ∧ Rep K mg cm H1 x a ∧ k a st = some (r, st') ∧ Out K mg W σ cm H1 (GE K mg Q) r st' := by
  obtain ⟨cm, ls, st, R, r, st', e, o⟩ := Run.part h
  refine ⟨cm, ls, st, r, st', R, e, ?_⟩
  cases r with
  | val a =>
    intro cm' H' x s
    obtain ⟨r2, st2, e2, o2⟩ := o cm' H' x s
    exact fun y hy => ⟨cm', st', a, r2, st2, s, hy, e2, o2⟩
  | exc c f v => exact o
theorem rd2 {fa fb : ME} {k : IV → IV → M IV} {Q : VK} (h : rdE K mg W (fun ls => M.bind (fa ls) fun a => M.bind (fb ls) fun b => k a b) σ H Q) :
    rdE K mg W fa σ H fun x H1 => rdE K mg W fb σ H1 fun y H2 => ∃ cm st a b r st', RelS K mg cm st H2 ∧ Rep K mg cm H2 x a ∧ Rep K mg cm H2 y b ∧ k a b st = some (r, st') ∧ Out K mg W σ cm H2 (GE K mg Q) r st' := by
  obtain ⟨cm, ls, st, r, st', R, e, o⟩ := h
  rcases M.bind_inv e with ⟨a, st1, e1, e2⟩ | ⟨c, f, v, e1, rfl⟩
  · refine ⟨cm, ls, st, _, st1, R, e1, fun cm1 H1 x1 s1 y hy => ?_⟩
    rcases M.bind_inv e2 with ⟨b, st2, e3, e4⟩ | ⟨c, f, v, e3, rfl⟩
    · refine ⟨cm1, ls, st1, _, st2, R.ext x1 s1, e3, fun cm2 H2 x2 s2 z hz => ?_⟩
      refine ⟨cm2, st2, a, b, r, st', s2, hy.ext x2, hz, e4, ?_⟩
      cases r with
      | val b => exact fun cm3 H3 x3 s3 => o cm3 H3 ((x1.trans x2).trans x3) s3
      | exc c f v => exact fun cm3 H3 x3 s3 => o cm3 H3 ((x1.trans x2).trans x3) s3
    · exact ⟨cm1, ls, st1, _, st', R.ext x1 s1, e3, fun cm2 H2 x2 s2 => o cm2 H2 (x1.trans x2) s2⟩
  · exact ⟨cm, ls, st, _, st', R, e1, o⟩
def opM (g : Sto → IV → IV → Option IV) (a b : IV) : M IV := fun st => (g st a b).map fun v => (.val v, st)
def m2 (g : Sto → IV → IV → Option IV) (fa fb : ME) : ME := fun ls => M.bind (fa ls) fun a => M.bind (fb ls) fun b => opM g a b
theorem rd_op {r : R2} {g : Sto → IV → IV → Option IV} {fa fb : ME} {Q : VK} (ho : OpV K mg r g) (h : rdE K mg W (m2 g fa fb) σ H Q) : tOp r (rdE K mg W fa) (rdE K mg W fb) σ H Q := by
  refine rdE_mono (rd2 h) fun x H1 h1 => rdE_mono h1 fun y H2 h2 => ?_
  obtain ⟨cm, st, a, b, o, st', s, hx, hy, e, q⟩ := h2
  unfold opM at e
  cases q1 : g st a b with
  | none => rw [q1] at e; cases e
  | some v =>
    rw [q1] at e
    cases e
    exact ho cm st H2 x y a b v Q s hx hy q1 fun cm' H' z E s' hz => q cm' H' E s' z hz
where
  rdE_mono {f : ME} {σ : L2.St} {H : Hp} {Q Q' : VK} (h : rdE K mg W f σ H Q) (i : ∀ x H, Q x H → Q' x H) : rdE K mg W f σ H Q' := by
    obtain ⟨cm, ls, st, r, st', R, e, o⟩ := h
    refine ⟨cm, ls, st, r, st', R, e, ?_⟩
    cases r with
    | val a => exact fun cm' H' x s y hy => i y H' (o cm' H' x s y hy)
    | exc c f v => exact o
theorem rdE_mono {f : ME} {σ : L2.St} {H : Hp} {Q Q' : VK} (h : rdE K mg W f σ H Q) (i : ∀ x H, Q x H → Q' x H) : rdE K mg W f σ H Q' := rd_op.rdE_mono h i
end
section
variable {X : Cx} {W : WX} {a b c e : Expr} {fa fb fc : ME} {pos : Pos}
abbrev PE' (X : Cx) (W : WX) (e : Expr) (m : ME) : Prop := PE X e (rdE X.K X.mg W m)
abbrev PT' (X : Cx) (W : WX) (e : Expr) (m : MT) : Prop := PT X e (rdT X.K X.mg W m)
abbrev PA' (X : Cx) (W : WX) (es : List Expr) (m : MA) : Prop := PA X es (rdA X.K X.mg W m)
def mVar (i : Nat) : ME := fun ls => match ls[i]? with
  | some (some v) => M.ret v
  | _ => M.stuck
theorem e_var (i : Nat) {x : Str} (hN : X.N[i]? = some x := by rfl) (hv : Vis X.env.scope x := by first | exact Or.inl rfl | exact Or.inr (Or.inl rfl) | exact Or.inr (Or.inr rfl)) (hd : (x == ("__debug__" : Str)) = false := by decide)
    (hcd : (x == ("__classdict__" : Str)) = false := by decide) : PE' X W (.Name x pos) (mVar i) := by
  refine PE_imp (pe_var hN hv hd hcd) fun σ H Q h => ?_
  obtain ⟨cm, ls, st, r, st', R, e, o⟩ := h
  unfold mVar at e
  cases q : ls[i]? with
  | none => simp only [q] at e; cases e
  | some w =>
    cases w with
    | none => simp only [q] at e; cases e
    | some v =>
      simp only [q] at e
      cases e
      obtain ⟨y, h1, h2⟩ := R.loc.at' i v q
      exact ⟨y, h1, o cm H (Ext.refl _ _) R.sto y h2⟩
def mC (v : IV) : ME := fun _ => M.ret v
theorem rd_c {K : PySem.W.Frag} {mg : Str → Option Value} {σ : L2.St} {H : Hp} {Q : VK} {v : IV} {x : V} (hx : ∀ cm, Rep K mg cm H x v) (h : rdE K mg W (mC v) σ H Q) : tC x σ H Q := by
  obtain ⟨cm, ls, st, r, st', R, e, o⟩ := h
  cases e
  exact o cm H (Ext.refl _ _) R.sto x (hx cm)
theorem e_int {i j} : PE' X W (.Constant (.int i) j pos) (mC (.int i)) := PE_imp pe_int fun _ _ _ h => rd_c (fun _ => .int _) h
theorem e_bl {i j} : PE' X W (.Constant (.bool i) j pos) (mC (.bl i)) := PE_imp pe_bl fun _ _ _ h => rd_c (fun _ => .bl _) h
theorem e_non {j} : PE' X W (.Constant .none j pos) (mC .non) := PE_imp pe_non fun _ _ _ h => rd_c (fun _ => .non) h
theorem e_str {i j} : PE' X W (.Constant (.str i) j pos) (mC (.str i)) := PE_imp pe_str fun _ _ _ h => rd_c (fun _ => .str _) h
theorem e_globI {x : Str} {i : Int} {t : Tok} (hg : Gl X x) (hm : X.mg x = some (.int i t)) (hd : (x == ("__debug__" : Str)) = false := by decide) : PE' X W (.Name x pos) (mC (.int i)) :=
  PE_imp (pe_glob (v := .int i) hg hm ⟨t, rfl⟩ hd) fun _ _ _ h => rd_c (fun _ => .int _) h
theorem e_add (ha : PE' X W a fa) (hb : PE' X W b fb) : PE' X W (.BinOp a .Add b pos) (m2 addI fa fb) := PE_imp (pe_op op_addI ha hb) fun _ _ _ h => rd_op v_add h
theorem e_sub (ha : PE' X W a fa) (hb : PE' X W b fb) : PE' X W (.BinOp a .Sub b pos) (m2 subI fa fb) := PE_imp (pe_op op_sub ha hb) fun _ _ _ h => rd_op v_sub h
theorem e_mul (ha : PE' X W a fa) (hb : PE' X W b fb) : PE' X W (.BinOp a .Mult b pos) (m2 mulI fa fb) := PE_imp (pe_op op_mulI ha hb) fun _ _ _ h => rd_op v_mul h
theorem e_fdiv (ha : PE' X W a fa) (hb : PE' X W b fb) : PE' X W (.BinOp a .FloorDiv b pos) (m2 fdivI fa fb) := PE_imp (pe_op op_fdivW ha hb) fun _ _ _ h => rd_op v_fdiv h
theorem e_mod (ha : PE' X W a fa) (hb : PE' X W b fb) : PE' X W (.BinOp a .Mod b pos) (m2 modI fa fb) := PE_imp (pe_op op_mod ha hb) fun _ _ _ h => rd_op v_mod h
theorem e_pow (ha : PE' X W a fa) (hb : PE' X W b fb) : PE' X W (.BinOp a .Pow b pos) (m2 powI fa fb) := PE_imp (pe_op op_pow ha hb) fun _ _ _ h => rd_op v_pow h
structure CmpV (X : Cx) (op : CmpOp) (g : Sto → IV → IV → Option IV) : Prop where
  ex : ∃ r, OpR X (compareOp op) r ∧ OpV X.K X.mg r g
  ne : op ≠ .In ∧ op ≠ .NotIn ∨ True
theorem c_lt : CmpV X .Lt (cmpI fun i j => decide (i < j)) := ⟨⟨_, op_lt, v_cmp⟩, .inr trivial⟩
theorem c_le : CmpV X .LtE (cmpI fun i j => decide (i ≤ j)) := ⟨⟨_, op_le, v_cmp⟩, .inr trivial⟩
theorem c_gt : CmpV X .Gt (cmpI fun i j => decide (j < i)) := ⟨⟨_, op_gt, v_cmp⟩, .inr trivial⟩
theorem c_ge : CmpV X .GtE (cmpI fun i j => decide (j ≤ i)) := ⟨⟨_, op_ge, v_cmp⟩, .inr trivial⟩
theorem c_isNot : CmpV X .IsNot isNotI := ⟨⟨_, op_isNotI, v_isNot⟩, .inr trivial⟩
theorem c_eq (hu : X.A.units + 64 < cLine) : CmpV X .Eq eqI := ⟨⟨_, op_eqD hu, v_eq⟩, .inr trivial⟩
theorem c_ne (hu : X.A.units + 64 < cLine) : CmpV X .NotEq neI := ⟨⟨_, op_neD hu, v_ne⟩, .inr trivial⟩
theorem c_in (hu : X.A.units + 65 < cLine) : CmpV X .In inI := ⟨⟨_, op_inI hu, v_in⟩, .inr trivial⟩
theorem c_notIn (hu : X.A.units + 65 < cLine) : CmpV X .NotIn notInI := ⟨⟨_, op_notInI hu, v_notIn⟩, .inr trivial⟩
theorem e_cmp {op : CmpOp} {g : Sto → IV → IV → Option IV} (hc : CmpV X op g) (ha : PE' X W a fa) (hb : PE' X W b fb) (hm : behindInMarks op b = false := by first | exact nomark _ | with_unfolding_all rfl) : PE' X W (.Compare a [op] [b] pos) (m2 g fa fb) := by
  obtain ⟨r, h1, h2⟩ := hc.ex
  exact PE_imp (pe_cmpR h1 ha hb hm) fun _ _ _ h => rd_op h2 h
def mB (m : ME) : MT := fun ls => M.bind (m ls) fun v => match v with | .bl b => M.ret b | _ => M.stuck
theorem rd_B {K : PySem.W.Frag} {mg : Str → Option Value} {σ : L2.St} {H : Hp} {Q : Bool → Hp → Prop} {m : ME} (h : rdT K mg W (mB m) σ H Q) : tTest (rdE K mg W m) σ H Q := by
  obtain ⟨cm, ls, st, R, r, st', e, o⟩ := Run.part h
  refine ⟨cm, ls, st, r, st', R, e, ?_⟩
  cases r with
  | val a =>
    intro cm' H' x s y hy
    obtain ⟨r2, st2, e2, o2⟩ := o cm' H' x s
    cases a with
    | bl b =>
      cases e2
      cases hy
      exact ⟨b, rfl, o2 cm' H' (Ext.refl _ _) s⟩
    | _ => cases e2
  | exc c f v => exact o
theorem t_cmp {op : CmpOp} {g : Sto → IV → IV → Option IV} (hc : CmpV X op g) (ha : PE' X W a fa) (hb : PE' X W b fb) (hm : behindInMarks op b = false := by first | exact nomark _ | with_unfolding_all rfl) : PT' X W (.Compare a [op] [b] pos) (mB (m2 g fa fb)) := by
  obtain ⟨r, h1, h2⟩ := hc.ex
  refine PT_imp (pt_cmpR h1 ha hb hm) fun σ H Q h => ?_
  obtain ⟨cm, ls, st, r, st', R, e, o⟩ := rd_B h
  exact rd_op h2 ⟨cm, ls, st, r, st', R, e, o⟩
end
end MK
namespace MK
open PySem L2
def truthI (st : Sto) : IV → Option Bool
  | .non => some false
  | .bl b => some b
  | .int i => some (i != 0)
  | .str y => if y.length ≤ 16777216 then some ((y.length : Int) != 0) else none
  | .tup l => some (!l.isEmpty)
  | .lst l => some (!l.isEmpty)
  | .scr l => some (!l.isEmpty)
  | .cell n => match st[n]? with | some (.lst l) => some (!l.isEmpty) | _ => none
  | _ => none
def truthM (v : IV) : M Bool := fun st => (truthI st v).map fun b => (.val b, st)
def mT (m : ME) : MT := fun ls => M.bind (m ls) truthM
section
variable {K : PySem.W.Frag} {mg : Str → Option Value} {σ : L2.St} {H : Hp} {W : WX} {cm : Wd} {st : Sto} {x : V} {a : IV}
theorem isEmpty_rep {xs : List V} {l : List IV} (r : RepL K mg cm H xs l) : (!xs.isEmpty) = !l.isEmpty := by cases r <;> rfl
theorem truth_rep {b : Bool} (s : RelS K mg cm st H) (h : Rep K mg cm H x a) (e : truthI st a = some b) : TruV K x H b := by
  have z := sizeLine_eq
  have seq : ∀ l, asSeq st a = some l → b = !l.isEmpty → TruV K x H b := fun l e1 e2 => by
    obtain ⟨p, xs, rfl, h2, h3⟩ := asSeq_rep s h e1
    have q := isEmpty_rep h3
    rcases h2 with h2 | h2
    · exact .inl ⟨xs, h2, by rw [q]; exact e2⟩
    · exact .inr (.inl ⟨xs, h2, by rw [q]; exact e2⟩)
  cases a with
  | non => cases h; cases e; rfl
  | bl => cases h; cases e; rfl
  | int => cases h; cases e; rfl
  | str y =>
    cases h
    simp only [truthI] at e
    split at e
    · cases e; exact ⟨by omega, rfl⟩
    · cases e
  | tup l => cases e; exact seq l rfl rfl
  | lst l => cases e; exact seq l rfl rfl
  | scr l => cases e; exact seq l rfl rfl
  | cell n =>
    simp only [truthI] at e
    cases q : st[n]? with
    | none => rw [q] at e; cases e
    | some c =>
      rw [q] at e
      cases c with
      | ins => cases e
      | lst l => cases e; exact seq l (by simp only [asSeq, lstOf, q]) rfl
  | _ => cases e
theorem rdT_mono {f : MT} {σ : L2.St} {H : Hp} {Q Q' : Bool → Hp → Prop} (h : rdT K mg W f σ H Q) (i : ∀ x H, Q x H → Q' x H) : rdT K mg W f σ H Q' := by
  obtain ⟨cm, ls, st, r, st', R, e, o⟩ := h
  refine ⟨cm, ls, st, r, st', R, e, ?_⟩
  cases r with
  | val a => exact fun cm' H' x s => i a H' (o cm' H' x s)
  | exc c f v => exact o
theorem rdA_mono {f : MA} {σ : L2.St} {H : Hp} {Q Q' : List V → Hp → Prop} (h : rdA K mg W f σ H Q) (i : ∀ x H, Q x H → Q' x H) : rdA K mg W f σ H Q' := by
  obtain ⟨cm, ls, st, r, st', R, e, o⟩ := h
  refine ⟨cm, ls, st, r, st', R, e, ?_⟩
  cases r with
  | val a => exact fun cm' H' x s y hy => i y H' (o cm' H' x s y hy)
  | exc c f v => exact o
theorem rd_T {m : ME} {Q : Bool → Hp → Prop} (h : rdT K mg W (mT m) σ H Q) : (fun σ H Q => rdE K mg W m σ H fun x H' => ∃ k, TruV K x H' k ∧ Q k H') σ H Q := by
  obtain ⟨cm, ls, st, R, r, st', e, o⟩ := Run.part h
  refine ⟨cm, ls, st, r, st', R, e, ?_⟩
  cases r with
  | val a =>
    intro cm' H' x s y hy
    obtain ⟨r2, st2, e2, o2⟩ := o cm' H' x s
    unfold truthM at e2
    cases q : truthI st' a with
    | none => rw [q] at e2; cases e2
    | some b =>
      rw [q] at e2; cases e2
      exact ⟨b, truth_rep s hy q, o2 cm' H' (Ext.refl _ _) s⟩
  | exc c f v => exact o
end
section
variable {X : Cx} {W : WX} {a b c e : Expr} {fa fb fc : ME} {ta tb tc : MT} {pos : Pos} {rest : List Expr}
theorem t_val (ha : PE' X W a fa) (he : ∀ whole, isTrue a X.env whole = (do let v ← whole; standAt a.pos; holding [v] (truthy v)) := by intro _; rfl) : PT' X W a (mT fa) :=
  PT_imp (pt_truth ha he) fun _ _ _ h => rd_T h
def mNot (m : MT) : MT := fun ls => M.bind (m ls) fun b => M.ret (!b)
theorem t_not (h : PT' X W a ta) : PT' X W (.UnaryOp .Not a pos) (mNot ta) := by
  refine PT_imp (pt_not h) fun σ H Q h => ?_
  obtain ⟨cm, ls, st, R, r, st', e, o⟩ := Run.part h
  refine ⟨cm, ls, st, r, st', R, e, ?_⟩
  cases r with
  | val a =>
    intro cm' H' x s
    obtain ⟨r2, st2, e2, o2⟩ := o cm' H' x s
    cases e2
    exact o2 cm' H' (Ext.refl _ _) s
  | exc c f v => exact o
def mIte {α : Type} (c : MT) (t f : Loc → M α) : Loc → M α := fun ls => M.bind (c ls) fun b => if b = true then t ls else f ls
section
variable {K : PySem.W.Frag} {mg : Str → Option Value}
theorem rd_ite {α : Type} {σ : L2.St} {H : Hp} {c : MT} {t f : Loc → M α} {G : Wd → Hp → α → Prop} (h : Run K mg W σ H (mIte c t f) G) (hG : ∀ cm H cm' H' a, Ext cm H cm' H' → G cm' H' a → G cm' H' a := by intros; assumption) :
    rdT K mg W c σ H fun b H1 => Run K mg W σ H1 (if b = true then t else f) G := by
  obtain ⟨cm, ls, st, r, st', R, e, o⟩ := h
  rcases M.bind_inv e with ⟨b, st1, e1, e2⟩ | ⟨c', f', v, e1, rfl⟩
  · refine ⟨cm, ls, st, _, st1, R, e1, fun cm1 H1 x1 s1 => ⟨cm1, ls, st1, r, st', R.ext x1 s1, ?_, ?_⟩⟩
    · cases b <;> exact e2
    · cases r with
      | val a => exact fun cm2 H2 x2 s2 => o cm2 H2 (x1.trans x2) s2
      | exc c f v => exact fun cm2 H2 x2 s2 => o cm2 H2 (x1.trans x2) s2
  · exact ⟨cm, ls, st, _, st', R, e1, o⟩
end
def mTB (b : Bool) : MT := fun _ => M.ret b
theorem rd_tb {K : PySem.W.Frag} {mg : Str → Option Value} {σ : L2.St} {H : Hp} {b : Bool} {Q : Bool → Hp → Prop} (h : rdT K mg W (mTB b) σ H Q) : Q b H := by
  obtain ⟨cm, ls, st, r, st', R, e, o⟩ := h
  cases e
  exact o cm H (Ext.refl _ _) R.sto
abbrev PW' (X : Cx) (W : WX) (e : Expr) (m : MT) : Prop := PW X e (rdT X.K X.mg W m)
theorem w_and1 (h : PT' X W a ta) : PW' X W (.BoolOp .And [a] pos) ta := pw_and1 h
theorem w_or1 (h : PT' X W a ta) : PW' X W (.BoolOp .Or [a] pos) ta := pw_or1 h
theorem w_and (ha : PT' X W a ta) (hb : PW' X W (.BoolOp .And (b :: rest) pos) tb) : PW' X W (.BoolOp .And (a :: b :: rest) pos) (mIte ta tb (mTB false)) := by
  refine PW_imp (pw_and ha hb) fun σ H Q h => rdT_mono (rd_ite h) fun k H1 h1 => ?_
  cases k with
  | true => exact h1
  | false => exact rd_tb h1
theorem w_or (ha : PT' X W a ta) (hb : PW' X W (.BoolOp .Or (b :: rest) pos) tb) : PW' X W (.BoolOp .Or (a :: b :: rest) pos) (mIte ta (mTB true) tb) := by
  refine PW_imp (pw_or ha hb) fun σ H Q h => rdT_mono (rd_ite h) fun k H1 h1 => ?_
  cases k with
  | true => exact rd_tb h1
  | false => exact h1
theorem t_w (h : PW' X W a ta) : PT' X W a ta := h.pt
theorem e_ifx (hc : PT' X W c tc) (ha : PE' X W a fa) (hb : PE' X W b fb) : PE' X W (.IfExp c a b pos) (mIte tc fa fb) := by
  refine PE_imp (pe_ifExp hc ha hb) fun σ H Q h => rdT_mono (rd_ite h) fun k H1 h1 => ?_
  cases k <;> exact h1
def mNotV (m : ME) : ME := fun ls => M.bind (m ls) fun v => M.bind (truthM v) fun b => M.ret (.bl (!b))
theorem truthM_inv {v : IV} {st st' : Sto} {r : OX Bool} (h : truthM v st = some (r, st')) : ∃ b, truthI st v = some b ∧ r = .val b ∧ st' = st := by
  unfold truthM at h
  cases q : truthI st v with
  | none => rw [q] at h; cases h
  | some b => rw [q] at h; cases h; exact ⟨b, rfl, rfl, rfl⟩
theorem e_notV (h : PE' X W a fa) : PE' X W (.UnaryOp .Not a pos) (mNotV fa) := by
  refine PE_imp (pe_notT h) fun σ H Q h => rdE_mono (rd1 h) fun x H1 h1 => ?_
  obtain ⟨cm, st, v, r, st', s, hx, e, o⟩ := h1
  rcases M.bind_inv e with ⟨b, st1, e1, e2⟩ | ⟨c, f, v, e1, rfl⟩
  · obtain ⟨b', q, h1, rfl⟩ := truthM_inv e1
    cases h1
    cases e2
    exact ⟨b, truth_rep s hx q, o cm H1 (Ext.refl _ _) s _ (.bl _)⟩
  · obtain ⟨b', q, h1, _⟩ := truthM_inv e1
    cases h1
def mAndV (fa fb : ME) : ME := fun ls => M.bind (fa ls) fun v => M.bind (truthM v) fun b => if b = true then fb ls else M.ret v
theorem e_and1 (h : PE' X W a fa) {op} : PE' X W (.BoolOp op [a] pos) fa := pe_one h
theorem rd_andor {K : PySem.W.Frag} {mg : Str → Option Value} {σ : L2.St} {H : Hp} {Q : VK} {k : Loc → IV → Bool → M IV} (h : rdE K mg W (fun ls => M.bind (fa ls) fun v => M.bind (truthM v) fun b => k ls v b) σ H Q) :
    rdE K mg W fa σ H fun x H1 => ∃ b, TruV K x H1 b ∧ ∃ cm ls st v r st', Rel K mg cm ls st σ H1 ∧ Rep K mg cm H1 x v ∧ k ls v b st = some (r, st') ∧ Out K mg W σ cm H1 (GE K mg Q) r st' := by
  obtain ⟨cm, ls, st, r, st', R, e, o⟩ := h
  rcases M.bind_inv e with ⟨v, st1, e1, e2⟩ | ⟨c, f, v, e1, rfl⟩
  · refine ⟨cm, ls, st, _, st1, R, e1, fun cm1 H1 x1 s1 y hy => ?_⟩
    rcases M.bind_inv e2 with ⟨b, st2, e3, e4⟩ | ⟨c, f, v, e3, rfl⟩
    · obtain ⟨b', q, h1, rfl⟩ := truthM_inv e3
      cases h1
      refine ⟨b, truth_rep s1 hy q, cm1, ls, _, v, r, st', R.ext x1 s1, hy, e4, ?_⟩
      cases r with
      | val a => exact fun cm2 H2 x2 s2 => o cm2 H2 (x1.trans x2) s2
      | exc c f v => exact fun cm2 H2 x2 s2 => o cm2 H2 (x1.trans x2) s2
    · obtain ⟨b', q, h1, _⟩ := truthM_inv e3
      cases h1
  · exact ⟨cm, ls, st, _, st', R, e1, o⟩
theorem e_and (ha : PE' X W a fa) (hb : PE' X W (.BoolOp .And (b :: rest) pos) fb) : PE' X W (.BoolOp .And (a :: b :: rest) pos) (mAndV fa fb) := by
  refine PE_imp (pe_andT ha hb) fun σ H Q h => rdE_mono (rd_andor h) fun x H1 h1 => ?_
  obtain ⟨k, t, cm, ls, st, v, r, st', R, hx, e, o⟩ := h1
  refine ⟨k, t, ?_⟩
  cases k with
  | true => exact ⟨cm, ls, st, r, st', R, e, o⟩
  | false =>
    cases e
    exact o cm H1 (Ext.refl _ _) R.sto x hx
def negI : IV → Option IV
  | .int i => some (.int (-i))
  | _ => none
def m1 (g : IV → Option IV) (m : ME) : ME := fun ls => M.bind (m ls) fun v => M.opt (g v)
theorem e_neg (h : PE' X W a fa) : PE' X W (.UnaryOp .USub a pos) (m1 negI fa) := by
  refine PE_imp (pe_un un_neg h) fun σ H Q h => rdE_mono (rd1 h) fun x H1 h1 => ?_
  obtain ⟨cm, st, v, r, st', s, hx, e, o⟩ := h1
  cases v <;> simp only [negI, M.opt] at e <;> cases e
  cases hx
  exact ⟨_, rfl, o cm H1 (Ext.refl _ _) s _ (.int _)⟩
end
end MK
namespace MK
open PySem L2
def newL (c : Bool) (l : List IV) : M IV := fun st => match c with
  | false => some (.val (.lst l), st)
  | true => if pureL l = true then some (.val (.cell st.length), st ++ [.lst l]) else none
section
variable {K : PySem.W.Frag} {mg : Str → Option Value} {σ : L2.St} {H H' : Hp} {W : WX} {cm : Wd} {st st' : Sto} {Q : VK} {c : Bool} {l : List IV} {xs : List V} {r : OX IV} {p : Addr}
theorem newL_at (s : RelS K mg cm st H) (e : newL c l st = some (r, st')) (n : H p = none) (E : Ext cm H (cm.push p) H') (E0 : Ext cm H cm H') (k : ∀ a ∈ cm.cm, H' a = H a) (h : H' p = some (.lst xs)) (hr : RepL K mg (cm.avoid p) H' xs l)
    (o : Out K mg W σ cm H (GE K mg Q) r st') : Q (.ref p) H' := by
  have hp := s.notAv n
  cases c with
  | false =>
    cases e
    exact o cm H' E0 (s.ext E0 k) (.ref p) (.lst ⟨h, hp⟩ (hr.weak Weak.unavoid))
  | true =>
    simp only [newL] at e
    split at e
    · rename_i q
      cases e
      refine o (cm.push p) H' E (s.push n E k ⟨_, h⟩ ⟨xs, h, hr.weak Weak.push, q⟩) (.ref p) (.cell ?_)
      show (cm.cm ++ [p])[st.length]? = some p
      rw [← s.len, List.getElem?_append_right (Nat.le_refl _)]
      simp
    · cases e
theorem newL_new (s : RelS K mg cm st H) (e : newL c l st = some (r, st')) (n : H p = none) (hr : RepL K mg cm H xs l)
    (o : Out K mg W σ cm H (GE K mg Q) r st') : Q (.ref p) (upd H p (.lst xs)) :=
  newL_at s e n (Ext.push n) (Ext.new' n) (fun a m => upd_ne fun z => s.notCell n (z ▸ m)) upd_same (hr.ext (Ext.avoid n)) o
end
def mNil : MA := fun _ => M.ret []
def mCons (f : ME) (g : MA) : MA := fun ls => M.bind (f ls) fun v => M.bind (g ls) fun l => M.ret (v :: l)
def mTup (g : MA) : ME := fun ls => M.bind (g ls) fun l => if l.length ≤ 16777216 then M.ret (.tup l) else M.stuck
def mLst (c : Bool) (g : MA) : ME := fun ls => M.bind (g ls) fun l => if l.length ≤ 16777216 then newL c l else M.stuck
section
variable {K : PySem.W.Frag} {mg : Str → Option Value} {σ : L2.St} {H : Hp} {W : WX}
theorem rdA1 {α : Type} {fa : MA} {k : List IV → M α} {G : Wd → Hp → α → Prop} (h : Run K mg W σ H (fun ls => M.bind (fa ls) k) G) :
    rdA K mg W fa σ H fun xs H1 => ∃ cm st l r st', RelS K mg cm st H1 ∧ RepL K mg cm H1 xs l ∧ k l st = some (r, st') ∧ Out K mg W σ cm H1 G r st' := by
  obtain ⟨cm, ls, st, R, r, st', e, o⟩ := Run.part h
  refine ⟨cm, ls, st, r, st', R, e, ?_⟩
  cases r with
  | val a =>
    intro cm' H' x s
    obtain ⟨r2, st2, e2, o2⟩ := o cm' H' x s
    exact fun y hy => ⟨cm', st', a, r2, st2, s, hy, e2, o2⟩
  | exc c f v => exact o
theorem rd_nil {Q : List V → Hp → Prop} (h : rdA K mg W mNil σ H Q) : tNil σ H Q := by
  obtain ⟨cm, ls, st, r, st', R, e, o⟩ := h
  cases e
  exact o cm H (Ext.refl _ _) R.sto [] .nil
theorem rd_cons {f : ME} {g : MA} {Q : List V → Hp → Prop} (h : rdA K mg W (mCons f g) σ H Q) : tCons (rdE K mg W f) (rdA K mg W g) σ H Q := by
  obtain ⟨cm, ls, st, r, st', R, e, o⟩ := h
  rcases M.bind_inv e with ⟨a, st1, e1, e2⟩ | ⟨c, f, v, e1, rfl⟩
  · refine ⟨cm, ls, st, _, st1, R, e1, fun cm1 H1 x1 s1 y hy => ?_⟩
    rcases M.bind_inv e2 with ⟨b, st2, e3, e4⟩ | ⟨c, f, v, e3, rfl⟩
    · refine ⟨cm1, ls, st1, _, st2, R.ext x1 s1, e3, fun cm2 H2 x2 s2 z hz => ?_⟩
      cases e4
      exact o cm2 H2 (x1.trans x2) s2 (y :: z) (.cons (hy.ext x2) hz)
    · exact ⟨cm1, ls, st1, _, st', R.ext x1 s1, e3, fun cm2 H2 x2 s2 => o cm2 H2 (x1.trans x2) s2⟩
  · exact ⟨cm, ls, st, _, st', R, e1, o⟩
end
section
variable {X : Cx} {W : WX} {a b c e : Expr} {es : List Expr} {fa fb fc : ME} {g : MA} {pos : Pos}
theorem a_nil : PA' X W [] mNil := PA_imp pa_nil fun _ _ _ h => rd_nil h
theorem a_cons (ha : PE' X W e fa) (hr : PA' X W es g) (hs : starEach (e :: es) X.env = (false, eval e X.env) :: starEach es X.env := by rfl) : PA' X W (e :: es) (mCons fa g) := PA_imp (pa_cons ha hr hs) fun _ _ _ h => rd_cons h
theorem e_tup {x1} (h : PA' X W es g) : PE' X W (.Tuple es x1 pos) (mTup g) := by
  refine PE_imp (pe_tup h) fun σ H Q h => rdA_mono (rdA1 h) fun xs H1 h1 => ?_
  obtain ⟨cm, st, l, r, st', s, hx, e, o⟩ := h1
  split at e
  · cases e
    refine ⟨by rw [hx.length, sizeLine_eq]; assumption, fun p hp => ?_⟩
    exact o cm _ (Ext.new' hp) (s.new hp) _ (.tup (.inl ⟨.inl upd_same, s.notAv hp⟩) (hx.ext (Ext.new' hp)))
  · cases e
theorem e_lst (c : Bool) (h : PA' X W es g) : PE' X W (.List es pos) (mLst c g) := by
  refine PE_imp (pe_lst h) fun σ H Q h => rdA_mono (rdA1 h) fun xs H1 h1 => ?_
  obtain ⟨cm, st, l, r, st', s, hx, e, o⟩ := h1
  split at e
  · exact ⟨by rw [hx.length, sizeLine_eq]; assumption, fun p hp => newL_new s e hp hx o⟩
  · cases e
def catL (c : Bool) (a b : IV) : M IV := fun st => match lstOf st a, lstOf st b with
  | some l, some m => if l.length + m.length ≤ 16777216 then newL c (l ++ m) st else none
  | _, _ => none
def mCat (c : Bool) (fa fb : ME) : ME := fun ls => M.bind (fa ls) fun a => M.bind (fb ls) fun b => catL c a b
theorem e_cat (c : Bool) (ha : PE' X W a fa) (hb : PE' X W b fb) : PE' X W (.BinOp a .Add b pos) (mCat c fa fb) := by
  refine PE_imp (pe_op op_cat ha hb) fun σ H Q h => rdE_mono (rd2 h) fun x H1 h1 => rdE_mono h1 fun y H2 h2 => ?_
  obtain ⟨cm, st, a, b, r, st', s, hx, hy, e, o⟩ := h2
  unfold catL at e
  cases e1 : lstOf st a with
  | none => rw [e1] at e; simp at e
  | some l =>
    cases e2 : lstOf st b with
    | none => rw [e1, e2] at e; simp at e
    | some m =>
      rw [e1, e2] at e
      simp only at e
      split at e
      · obtain ⟨p, xs, rfl, h1, h2⟩ := lstOf_rep s hx e1
        obtain ⟨q, ys, rfl, h3, h4⟩ := lstOf_rep s hy e2
        have l1 := h2.length
        have l2 := h4.length
        have z := sizeLine_eq
        exact ⟨p, q, xs, ys, rfl, rfl, h1, h3, by omega, fun c hc => newL_new s e hc (h2.app h4) o⟩
      · cases e
theorem e_ix (ha : PE' X W a fa) (hb : PE' X W b fb) (hs : PlainIx b := by intro _ _; rfl) : PE' X W (.Subscript a b pos) (m2 itemI fa fb) := PE_imp (pe_ix ix_seq ha hb hs) fun _ _ _ h => rd_op v_item h
abbrev MO := Loc → M (Option Int)
def mNoPart : MO := fun _ => M.ret none
def mPart (f : ME) : MO := fun ls => M.bind (f ls) fun v => match v with | .int i => M.ret (some i) | _ => M.stuck
def rdO (K : PySem.W.Frag) (mg : Str → Option Value) (W : WX) (m : MO) : TO := fun σ H Q => Run K mg W σ H m fun _ H' o => Q o H'
abbrev PO' (X : Cx) (W : WX) (e : Option Expr) (m : MO) : Prop := PO X e (rdO X.K X.mg W m)
theorem PO_imp {X : Cx} {e : Option Expr} {t t' : TO} (h : PO X e t) (i : ∀ σ H Q, t' σ H Q → t σ H Q) : PO X e t' := ⟨fun pins s σ H Q I q => h.run pins s σ H Q I (i σ H Q q)⟩
theorem o_none : PO' X W none mNoPart := PO_imp po_none fun σ H Q h => by
  obtain ⟨cm, ls, st, r, st', R, e, o⟩ := h
  cases e
  exact o cm H (Ext.refl _ _) R.sto
theorem o_some (h : PE' X W e fa) : PO' X W (some e) (mPart fa) := PO_imp (po_some h) fun σ H Q h => by
  obtain ⟨cm, ls, st, R, r, st', e, o⟩ := Run.part h
  refine ⟨cm, ls, st, r, st', R, e, ?_⟩
  cases r with
  | val a =>
    intro cm' H' x s y hy
    obtain ⟨r2, st2, e2, o2⟩ := o cm' H' x s
    cases a with
    | int i =>
      cases e2
      cases hy
      exact ⟨i, rfl, o2 cm' H' (Ext.refl _ _) s⟩
    | _ => cases e2
  | exc c f v => exact o
def cutI (xs : List IV) (lo hi : Option Int) : List IV := (xs.drop (HT.sIx xs.length 0 lo)).take (HT.sIx xs.length xs.length hi - HT.sIx xs.length 0 lo)
theorem cut_rep {K : PySem.W.Frag} {mg : Str → Option Value} {cm : Wd} {H : Hp} {xs : List V} {l : List IV} (h : RepL K mg cm H xs l) (lo hi : Option Int) : RepL K mg cm H (cutV xs lo hi) (cutI l lo hi) := by
  unfold cutV cutI
  rw [h.length]
  exact (h.drop _).take _
def slM (c : Bool) (a : IV) (lo hi : Option Int) : M IV := fun st => match a with
  | .str z => if z.length ≤ 16777216 then some (.val (.str (cutS z lo hi)), st) else none
  | .tup l => some (.val (.tup (cutI l lo hi)), st)
  | .scr l => newL c (cutI l lo hi) st
  | a => match lstOf st a with
    | some l => newL c (cutI l lo hi) st
    | none => none
def mSl (c : Bool) (f : ME) (lo hi : MO) : ME := fun ls => M.bind (f ls) fun a => M.bind (lo ls) fun l => M.bind (hi ls) fun h => slM c a l h
def rSlI (K : PySem.W.Frag) : V → Option Int → Option Int → Hp → VK → Prop := fun x lo hi H Q => rSlL K x lo hi H Q ∨ rSlA K x lo hi H Q ∨ rSlS x lo hi H Q
theorem sl_I {X : Cx} : SlR X (rSlI X.K) := sl_list.or (sl_tupA.or sl_str)
theorem cutI_all {l : List IV} {lo hi : Option Int} (h : HT.sIx l.length 0 lo = 0 ∧ HT.sIx l.length l.length hi = l.length) : cutI l lo hi = l := by
  unfold cutI
  rw [h.1, h.2]
  simp
theorem e_sl (c : Bool) {lo hi : Option Expr} {ml mh : MO} {p2 : Pos} (ha : PE' X W a fa) (hl : PO' X W lo ml) (hh : PO' X W hi mh) : PE' X W (.Subscript a (.Slice lo hi none p2) pos) (mSl c fa ml mh) := by
  refine PE_imp (pe_slice sl_I ha hl hh) fun σ H Q h => ?_
  obtain ⟨cm, ls, st, r, st', R, e, o⟩ := h
  rcases M.bind_inv e with ⟨v, st1, e1, e2⟩ | ⟨c, f, v, e1, rfl⟩
  · refine ⟨cm, ls, st, _, st1, R, e1, fun cm1 H1 x1 s1 y hy => ?_⟩
    rcases M.bind_inv e2 with ⟨lo', st2, e3, e4⟩ | ⟨c, f, v, e3, rfl⟩
    · refine ⟨cm1, ls, st1, _, st2, R.ext x1 s1, e3, fun cm2 H2 x2 s2 => ?_⟩
      rcases M.bind_inv e4 with ⟨hi', st3, e5, e6⟩ | ⟨c, f, v, e5, rfl⟩
      · refine ⟨cm2, ls, st2, _, st3, (R.ext x1 s1).ext x2 s2, e5, fun cm3 H3 x3 s3 => ?_⟩
        have hy' := (hy.ext x2).ext x3
        have o' : Out X.K X.mg W σ cm3 H3 (GE X.K X.mg Q) r st' := by
          cases r with
          | val a => exact fun cm4 H4 x4 s4 => o cm4 H4 (((x1.trans x2).trans x3).trans x4) s4
          | exc c f v => exact fun cm4 H4 x4 s4 => o cm4 H4 (((x1.trans x2).trans x3).trans x4) s4
        have lists : ∀ l, lstOf st3 v = some l → newL c (cutI l lo' hi') st3 = some (r, st') → rSlI X.K y lo' hi' H3 Q := fun l q1 q2 => by
          obtain ⟨p, xs, rfl, h1, h2⟩ := lstOf_rep s3 hy' q1
          exact .inl ⟨p, xs, rfl, SqL.of h1, fun p hp => newL_new s3 q2 hp (cut_rep h2 lo' hi') o'⟩
        cases v with
        | str z =>
          cases hy'
          simp only [slM] at e6
          split at e6
          · cases e6
            exact .inr (.inr ⟨z, rfl, by rw [sizeLine_eq]; assumption, o' cm3 H3 (Ext.refl _ _) s3 _ (.str _)⟩)
          · cases e6
        | tup l =>
          cases e6
          cases hy' with
          | @tup p xs _ h1 h2 =>
            refine .inr (.inl ⟨p, xs, rfl, h1.sq, fun w => ?_, fun w q hq => ?_⟩)
            · refine o' cm3 H3 (Ext.refl _ _) s3 _ ?_
              rw [cutI_all (by rw [← h2.length]; exact w)]
              exact .tup h1 h2
            · exact o' cm3 _ (Ext.new' hq) (s3.new hq) _ (.tup (.inl ⟨.inl upd_same, s3.notAv hq⟩) ((cut_rep h2 lo' hi').ext (Ext.new' hq)))
        | scr l =>
          cases hy' with
          | @scr p xs _ h1 h2 =>
            exact .inl ⟨p, xs, rfl, h1.sq, fun p hp => newL_new s3 e6 hp (cut_rep h2 lo' hi') o'⟩
        | lst l => exact lists l rfl e6
        | cell n =>
          simp only [slM] at e6
          cases q : lstOf st3 (.cell n) with
          | none => rw [q] at e6; cases e6
          | some l => rw [q] at e6; exact lists l q e6
        | _ => cases e6
      · exact ⟨cm2, ls, st2, _, st', (R.ext x1 s1).ext x2 s2, e5, fun cm3 H3 x3 s3 => o cm3 H3 ((x1.trans x2).trans x3) s3⟩
    · exact ⟨cm1, ls, st1, _, st', R.ext x1 s1, e3, fun cm2 H2 x2 s2 => o cm2 H2 (x1.trans x2) s2⟩
  · exact ⟨cm, ls, st, _, st', R, e1, o⟩
end
end MK
namespace MK
open PySem L2
def intsOf : List IV → Option (List Int)
  | [] => some []
  | .int i :: l => (intsOf l).map (i :: ·)
  | _ :: _ => none
def boolsOf : List IV → Option (List Bool)
  | [] => some []
  | .bl i :: l => (boolsOf l).map (i :: ·)
  | _ :: _ => none
theorem intsOf_map (l : List Int) : intsOf (l.map .int) = some l := by
  induction l with
  | nil => rfl
  | cons a l ih => simp [intsOf, ih]
theorem boolsOf_map (l : List Bool) : boolsOf (l.map .bl) = some l := by
  induction l with
  | nil => rfl
  | cons a l ih => simp [boolsOf, ih]
theorem intsOf_eq : ∀ {l : List IV} {ns : List Int}, intsOf l = some ns → l = ns.map .int
  | [], _, h => by cases h; rfl
  | a :: l, ns, h => by
    cases a <;> simp only [intsOf] at h <;> try cases h
    rename_i i
    cases q : intsOf l with
    | none => rw [q] at h; cases h
    | some ms => rw [q] at h; cases h; rw [intsOf_eq q]; rfl
theorem boolsOf_eq : ∀ {l : List IV} {ns : List Bool}, boolsOf l = some ns → l = ns.map .bl
  | [], _, h => by cases h; rfl
  | a :: l, ns, h => by
    cases a <;> simp only [boolsOf] at h <;> try cases h
    rename_i i
    cases q : boolsOf l with
    | none => rw [q] at h; cases h
    | some ms => rw [q] at h; cases h; rw [boolsOf_eq q]; rfl
section
variable {K : PySem.W.Frag} {mg : Str → Option Value} {cm : Wd} {H : Hp}
theorem ints_rep : ∀ {ns : List Int} {xs : List V}, RepL K mg cm H xs (ns.map .int) → xs = ns.map V.int
  | [], _, .nil => rfl
  | i :: ns, _, .cons h r => by cases h; rw [ints_rep r]; rfl
theorem rep_ints (ns : List Int) : RepL K mg cm H (ns.map V.int) (ns.map .int) := by
  induction ns with
  | nil => exact .nil
  | cons i ns ih => exact .cons (.int i) ih
theorem bools_rep : ∀ {ns : List Bool} {xs : List V}, RepL K mg cm H xs (ns.map .bl) → xs = ns.map V.bl
  | [], _, .nil => rfl
  | i :: ns, _, .cons h r => by cases h; rw [bools_rep r]; rfl
end
def CallV (K : PySem.W.Frag) (mg : Str → Option Value) (r : List V → Hp → VK → Prop) (g : List IV → M IV) : Prop :=
  ∀ (W : WX) (σ : L2.St) (cm : Wd) (st : Sto) (H : Hp) (xs : List V) (l : List IV) (o : OX IV) (st' : Sto) (Q : VK), RelS K mg cm st H → RepL K mg cm H xs l → g l st = some (o, st') → Out K mg W σ cm H (GE K mg Q) o st' → r xs H Q
def mCall (g : List IV → M IV) (a : MA) : ME := fun ls => M.bind (a ls) g
section
variable {X : Cx} {W : WX} {e : Expr} {es : List Expr} {ga : MA} {x : Str} {p pos : Pos} {id : String} {r : List V → Hp → VK → Prop} {g : List IV → M IV}
theorem e_callB (hc : CallR X (.builtin id) r) (hv : CallV X.K X.mg r g) (hg : Gl X x) (hm : X.mg x = none) (hb : bootBuiltins x = some (.builtin id)) (ha : PA' X W (e :: es) ga) (hn : x ≠ "__name__" := by decide) (hdb : (x == ("__debug__" : Str)) = false := by decide)
    (he : starEach (e :: es) X.env = (false, eval e X.env) :: starEach es X.env := by rfl) (hpl : (backTo pos (starEach es X.env)).any (·.1) = false := by rfl) : PE' X W (.Call (.Name x p) (e :: es) [] pos) (mCall g ga) := by
  refine PE_imp (pe_callB hc hg hm hb ha hn hdb he hpl) fun σ H Q h => rdA_mono (rdA1 h) fun xs H1 h1 => ?_
  obtain ⟨cm, st, l, r, st', s, hx, e, o⟩ := h1
  exact hv W σ cm st H1 xs l r st' Q s hx e o
theorem e_callTy (hc : CallR X (.type id) r) (hv : CallV X.K X.mg r g) (hg : Gl X x) (hm : X.mg x = none) (hb : bootBuiltins x = some (.type id)) (ha : PA' X W (e :: es) ga) (hn : x ≠ "__name__" := by decide) (hdb : (x == ("__debug__" : Str)) = false := by decide)
    (he : starEach (e :: es) X.env = (false, eval e X.env) :: starEach es X.env := by rfl) (hpl : (backTo pos (starEach es X.env)).any (·.1) = false := by rfl) : PE' X W (.Call (.Name x p) (e :: es) [] pos) (mCall g ga) := by
  refine PE_imp (pe_callTy hc hg hm hb ha hn hdb he hpl) fun σ H Q h => rdA_mono (rdA1 h) fun xs H1 h1 => ?_
  obtain ⟨cm, st, l, r, st', s, hx, e, o⟩ := h1
  exact hv W σ cm st H1 xs l r st' Q s hx e o
end
def pv1 (g : Sto → IV → Option IV) : List IV → M IV := fun l st => match l with
  | [a] => (g st a).map fun v => (.val v, st)
  | _ => none
section
variable {K : PySem.W.Frag} {mg : Str → Option Value}
theorem callV1 {r : List V → Hp → VK → Prop} {g : Sto → IV → Option IV}
    (h : ∀ (cm : Wd) (st : Sto) (H : Hp) (x : V) (a v : IV) (Q : VK), RelS K mg cm st H → Rep K mg cm H x a → g st a = some v → (∀ cm' H' z, Ext cm H cm' H' → RelS K mg cm' st H' → Rep K mg cm' H' z v → Q z H') → r [x] H Q) : CallV K mg r (pv1 g) := by
  intro W σ cm st H xs l o st' Q s hx e out
  cases hx with
  | nil => cases e
  | cons h1 h2 =>
    cases h2 with
    | cons _ _ => cases e
    | nil =>
      rename_i x a
      simp only [pv1] at e
      cases q : g st a with
      | none => rw [q] at e; cases e
      | some v => rw [q] at e; cases e; exact h cm _ H x a v Q s h1 q fun cm' H' z E s' hz => out cm' H' E s' z hz
def lenI (st : Sto) : IV → Option IV
  | .str z => if z.length ≤ 16777216 then some (.int z.length) else none
  | a => (asSeq st a).map fun l => .int l.length
theorem v_len : CallV K mg (fun xs H Q => ∃ x n, xs = [x] ∧ LenV K x H n ∧ Q (.int n) H) (pv1 lenI) := callV1 fun cm st H x a v Q s hx e k => by
  have seq : ∀ l, asSeq st a = some l → v = .int l.length → ∃ x' n, [x] = [x'] ∧ LenV K x' H n ∧ Q (.int n) H := fun l q1 q2 => by
    obtain ⟨p, xs, rfl, h2, h3⟩ := asSeq_rep s hx q1
    subst q2
    refine ⟨_, l.length, rfl, ?_, k cm H _ (Ext.refl _ _) s (.int _)⟩
    rcases h2 with h2 | h2
    · exact .inl ⟨xs, h2, h3.length.symm⟩
    · exact .inr ⟨xs, h2, h3.length.symm⟩
  have gen : (asSeq st a).map (fun l => IV.int l.length) = some v → ∃ x' n, [x] = [x'] ∧ LenV K x' H n ∧ Q (.int n) H := fun e => by
    cases q : asSeq st a with
    | none => rw [q] at e; cases e
    | some l => rw [q] at e; cases e; exact seq l q rfl
  cases a with
  | str z =>
    cases hx
    simp only [lenI] at e
    split at e
    · cases e
      exact ⟨_, z.length, rfl, ⟨by rw [sizeLine_eq]; assumption, rfl⟩, k cm H _ (Ext.refl _ _) s (.int _)⟩
    · cases e
  | _ => exact gen e
def intI (_ : Sto) : IV → Option IV
  | .int i => some (.int i)
  | .bl b => some (.int (if b then 1 else 0))
  | _ => none
theorem v_int : CallV K mg (fun xs H Q => (∃ i, xs = [V.int i] ∧ Q (.int i) H) ∨ ∃ k, xs = [V.bl k] ∧ Q (.int (if k then 1 else 0)) H) (pv1 intI) := callV1 fun cm st H x a v Q s hx e k => by
  cases a <;> simp only [intI] at e <;> cases e <;> cases hx
  · exact .inr ⟨_, rfl, k cm H _ (Ext.refl _ _) s (.int _)⟩
  · exact .inl ⟨_, rfl, k cm H _ (Ext.refl _ _) s (.int _)⟩
def absI (_ : Sto) : IV → Option IV
  | .int i => some (.int (if i < 0 then -i else i))
  | _ => none
theorem v_abs : CallV K mg (fun xs H Q => ∃ i, xs = [V.int i] ∧ Q (.int (if i < 0 then -i else i)) H) (pv1 absI) := callV1 fun cm st H x a v Q s hx e k => by
  cases a <;> simp only [absI] at e <;> cases e <;> cases hx
  exact ⟨_, rfl, k cm H _ (Ext.refl _ _) s (.int _)⟩
def strI (_ : Sto) : IV → Option IV
  | .int i => if i.natAbs.log2 < 1920 then some (.str (toString i)) else none
  | _ => none
theorem v_str : CallV K mg (fun xs H Q => ∃ i, xs = [V.int i] ∧ i.natAbs.log2 < 1920 ∧ Q (.str (toString i)) H) (pv1 strI) := callV1 fun cm st H x a v Q s hx e k => by
  cases a <;> simp only [strI] at e <;> try cases e
  split at e
  · cases e; cases hx
    exact ⟨_, rfl, by assumption, k cm H _ (Ext.refl _ _) s (.str _)⟩
  · cases e
def seqL (st : Sto) : IV → Option (List IV)
  | .scr l => some l
  | a => lstOf st a
theorem seqL_rep {cm : Wd} {st : Sto} {H : Hp} {x : V} {a : IV} {l : List IV} (s : RelS K mg cm st H) (h : Rep K mg cm H x a) (e : seqL st a = some l) : ∃ p xs, x = .ref p ∧ SqL K H p xs ∧ RepL K mg cm H xs l := by
  cases h with
  | scr h r => simp only [seqL] at e; cases e; exact ⟨_, _, rfl, h.sq, r⟩
  | lst h r =>
    obtain ⟨p, xs, e1, h1, h2⟩ := lstOf_rep s (.lst h r) e
    exact ⟨p, xs, e1, SqL.of h1, h2⟩
  | cell h =>
    obtain ⟨p, xs, e1, h1, h2⟩ := lstOf_rep s (.cell h) e
    exact ⟨p, xs, e1, SqL.of h1, h2⟩
  | _ => cases e
def intsAt (st : Sto) (a : IV) : Option (List Int) := (seqL st a).bind intsOf
theorem intsAt_rep {cm : Wd} {st : Sto} {H : Hp} {x : V} {a : IV} {ns : List Int} (s : RelS K mg cm st H) (h : Rep K mg cm H x a) (e : intsAt st a = some ns) : ∃ p, x = .ref p ∧ SqL K H p (ns.map V.int) := by
  unfold intsAt at e
  cases q : seqL st a with
  | none => rw [q] at e; cases e
  | some l =>
    rw [q] at e
    obtain ⟨p, xs, e1, h1, h2⟩ := seqL_rep s h q
    have e' := intsOf_eq e
    subst e'
    have e2 := ints_rep h2
    subst e2
    exact ⟨p, e1, h1⟩
def sumI (st : Sto) (a : IV) : Option IV := (intsAt st a).map fun ns => .int ns.sum
theorem v_sum : CallV K mg (rSum K) (pv1 sumI) := callV1 fun cm st H x a v Q s hx e k => by
  unfold sumI at e
  cases q : intsAt st a with
  | none => rw [q] at e; cases e
  | some ns =>
    rw [q] at e; cases e
    obtain ⟨p, rfl, h⟩ := intsAt_rep s hx q
    exact ⟨p, ns, rfl, h, k cm H _ (Ext.refl _ _) s (.int _)⟩
def boolsAt (st : Sto) (a : IV) : Option (List Bool) := (seqL st a).bind boolsOf
theorem boolsAt_rep {cm : Wd} {st : Sto} {H : Hp} {x : V} {a : IV} {ns : List Bool} (s : RelS K mg cm st H) (h : Rep K mg cm H x a) (e : boolsAt st a = some ns) : ∃ p, x = .ref p ∧ SqL K H p (ns.map V.bl) := by
  unfold boolsAt at e
  cases q : seqL st a with
  | none => rw [q] at e; cases e
  | some l =>
    rw [q] at e
    obtain ⟨p, xs, e1, h1, h2⟩ := seqL_rep s h q
    have e' := boolsOf_eq e
    subst e'
    have e2 := bools_rep h2
    subst e2
    exact ⟨p, e1, h1⟩
def allI (st : Sto) (a : IV) : Option IV := (boolsAt st a).map fun bs => .bl (bs.all id)
def anyI (st : Sto) (a : IV) : Option IV := (boolsAt st a).map fun bs => .bl (bs.any id)
theorem v_all : CallV K mg (rAll K) (pv1 allI) := callV1 fun cm st H x a v Q s hx e k => by
  unfold allI at e
  cases q : boolsAt st a with
  | none => rw [q] at e; cases e
  | some ns =>
    rw [q] at e; cases e
    obtain ⟨p, rfl, h⟩ := boolsAt_rep s hx q
    exact ⟨p, ns, rfl, h, k cm H _ (Ext.refl _ _) s (.bl _)⟩
theorem v_any : CallV K mg (rAny K) (pv1 anyI) := callV1 fun cm st H x a v Q s hx e k => by
  unfold anyI at e
  cases q : boolsAt st a with
  | none => rw [q] at e; cases e
  | some ns =>
    rw [q] at e; cases e
    obtain ⟨p, rfl, h⟩ := boolsAt_rep s hx q
    exact ⟨p, ns, rfl, h, k cm H _ (Ext.refl _ _) s (.bl _)⟩
def sortI (l : List Int) : List Int := l.mergeSort (fun a b => decide (a ≤ b))
theorem sortI_perm (l : List Int) : (sortI l).Perm l := List.mergeSort_perm l _
theorem sortI_le (l : List Int) : (sortI l).Pairwise (· ≤ ·) := by
  have h := List.pairwise_mergeSort (le := fun a b : Int => decide (a ≤ b)) (by intro a b c h1 h2; simp at *; omega) (by intro a b; simp; omega) l
  exact h.imp (fun h => by simpa using h)
theorem perm_le_eq : ∀ {l m : List Int}, l.Perm m → l.Pairwise (· ≤ ·) → m.Pairwise (· ≤ ·) → l = m := fun {l m} p h1 h2 => p.eq_of_pairwise (fun a b _ _ h h' => by omega) h1 h2
theorem sortI_of {l m : List Int} (p : m.Perm l) (h : m.Pairwise (· ≤ ·)) : m = sortI l := perm_le_eq (p.trans (sortI_perm l).symm) h (sortI_le l)
def listM (c : Bool) : List IV → M IV := fun l st => match l with
  | [a] => (match asSeq st a with
    | some m => newL c m st
    | none => none)
  | _ => none
theorem v_list (c : Bool) : CallV K mg (fun xs H Q => ∃ p ys, xs = [V.ref p] ∧ (SqL K H p ys ∨ SqT K H p ys) ∧ ∀ l, H l = none → Q (.ref l) (upd H l (.lst ys))) (listM c) := by
  intro W σ cm st H xs l o st' Q s hx e out
  cases hx with
  | nil => cases e
  | cons h1 h2 =>
    cases h2 with
    | cons _ _ => cases e
    | nil =>
      rename_i x a
      simp only [listM] at e
      cases q : asSeq st a with
      | none => rw [q] at e; cases e
      | some m =>
        rw [q] at e
        obtain ⟨p, ys, rfl, h3, h4⟩ := asSeq_rep s h1 q
        exact ⟨p, ys, rfl, h3, fun d hd => newL_new s e hd h4 out⟩
def tupleI (st : Sto) : IV → Option IV
  | .tup l => some (.tup l)
  | a => (seqL st a).map .tup
theorem v_tuple : CallV K mg (fun xs H Q => ∃ p ys, xs = [V.ref p] ∧ ((SqL K H p ys ∧ ∀ l, H l = none → Q (.ref l) (upd H l (.tup ys))) ∨ (SqT K H p ys ∧ Q (.ref p) H))) (pv1 tupleI) := callV1 fun cm st H x a v Q s hx e k => by
  have gen : (seqL st a).map IV.tup = some v → ∃ p ys, [x] = [V.ref p] ∧ ((SqL K H p ys ∧ ∀ l, H l = none → Q (.ref l) (upd H l (.tup ys))) ∨ (SqT K H p ys ∧ Q (.ref p) H)) := fun e => by
    cases q : seqL st a with
    | none => rw [q] at e; cases e
    | some l =>
      rw [q] at e; cases e
      obtain ⟨p, ys, rfl, h1, h2⟩ := seqL_rep s hx q
      exact ⟨p, ys, rfl, .inl ⟨h1, fun d hd => k cm _ _ (Ext.new' hd) (s.new hd) (.tup (.inl ⟨.inl upd_same, s.notAv hd⟩) (h2.ext (Ext.new' hd)))⟩⟩
  cases a with
  | tup l =>
    cases e
    cases hx with
    | @tup p xs _ h1 h2 => exact ⟨p, xs, rfl, .inr ⟨h1.sq, k cm H _ (Ext.refl _ _) s (.tup h1 h2)⟩⟩
  | _ => exact gen e
end
end MK
namespace MK
open PySem L2
inductive Ty where
  | nn | bool | int | str | tup | lst
def Ty.nm : Ty → String
  | .nn => "NoneType" | .bool => "bool" | .int => "int" | .str => "str" | .tup => "tuple" | .lst => "list"
def Ty.isa : Ty → Ty → Bool
  | .nn, .nn => true | .bool, .bool => true | .bool, .int => true | .int, .int => true | .str, .str => true | .tup, .tup => true | .lst, .lst => true
  | _, _ => false
theorem Ty.kit : ∀ t T : Ty, kitB t.nm T.nm = some (t.isa T) := by
  intro t T
  cases t <;> cases T <;> decide +kernel
def tyI (st : Sto) : IV → Option Ty
  | .non => some .nn
  | .bl _ => some .bool
  | .int _ => some .int
  | .str _ => some .str
  | .tup _ => some .tup
  | .lst _ => some .lst
  | .scr _ => some .lst
  | .cell n => match st[n]? with | some (.lst _) => some .lst | _ => none
  | _ => none
def isiM (T : Ty) (v : IV) : M IV := fun st => (tyI st v).map fun t => (.val (.bl (t.isa T)), st)
section
variable {K : PySem.W.Frag} {mg : Str → Option Value} {cm : Wd} {st : Sto} {H : Hp} {x : V} {a : IV}
theorem ty_rep {t : Ty} (s : RelS K mg cm st H) (h : Rep K mg cm H x a) (e : tyI st a = some t) : TyX K H x (.type t.nm) := by
  cases h with
  | non => cases e; exact .base .non
  | bl => cases e; exact .base (.bl _)
  | int => cases e; exact .base (.int _)
  | str => cases e; exact .base (.str _)
  | tup h r =>
    cases e
    rcases h with ⟨h | ⟨o, h⟩, _⟩ | ⟨o, its, n, h1, h2, _⟩
    · exact .base (.tup h)
    · exact .fTuple h
    · exact .kTuple h1 h2
  | lst h r => cases e; exact .base (.lst h.1)
  | scr h r =>
    cases e
    rcases h with ⟨⟨o, h⟩, _⟩ | ⟨o, its, n, h1, h2, _⟩
    · exact .base (.frz h)
    · exact .kList h1 h2
  | @cell p n h =>
    simp only [tyI] at e
    cases q : st[n]? with
    | none => rw [q] at e; cases e
    | some c =>
      rw [q] at e
      cases c with
      | ins => cases e
      | lst l =>
        cases e
        obtain ⟨xs, h1, _⟩ := s.at' n p _ h q
        exact .base (.lst h1)
  | _ => cases e
end
def mIsi (T : Ty) (f : ME) : ME := fun ls => M.bind (f ls) (isiM T)
section
variable {X : Cx} {W : WX} {a b c e : Expr} {es : List Expr} {fa fb : ME} {g : MA} {p p2 p3 pos : Pos}
theorem e_isi (T : Ty) {nm : Str} (hm : X.mg "isinstance" = none) (hg : Gl X "isinstance") (hnm : nm = Str.ofString T.nm) (hg2 : Gl X nm) (hm2 : X.mg nm = none) (hb2 : bootBuiltins nm = some (.type T.nm)) (ha : PE' X W a fa)
    (hn : nm ≠ "__name__" := by decide) (hd : (nm == ("__debug__" : Str)) = false := by decide)
    (he : starEach [a, .Name nm p2] X.env = (false, eval a X.env) :: starEach [.Name nm p2] X.env := by rfl) (he2 : starEach [.Name nm p2] X.env = (false, eval (.Name nm p2) X.env) :: starEach [] X.env := by rfl)
    (hpl : (backTo pos (starEach [.Name nm p2] X.env)).any (·.1) = false := by rfl) : PE' X W (.Call (.Name "isinstance" p) [a, .Name nm p2] [] pos) (mIsi T fa) := by
  refine PE_imp (pe_callB call_isi hg hm PyProof.Rows.boot_isinstance (pa_cons ha (pa_cons (pe_bltn (v := .ty T.nm) hg2 hm2 hb2 rfl hn hd) pa_nil he2) he) (by decide) (by decide) he hpl) fun σ H Q h => rdE_mono (rd1 h) fun x H1 h1 => ?_
  obtain ⟨cm, st, v, r, st', s, hx, e, o⟩ := h1
  unfold isiM at e
  cases q : tyI st v with
  | none => rw [q] at e; cases e
  | some t =>
    rw [q] at e; cases e
    exact ⟨x, .ty T.nm, .type t.nm, .type T.nm, t.isa T, rfl, .ty _, ty_rep s hx q, kit_ty (Ty.kit t T), o cm H1 (Ext.refl _ _) s _ (.bl _)⟩
def MtV (K : PySem.W.Frag) (mg : Str → Option Value) (T : String) (r : V → List V → Hp → VK → Prop) (g : IV → List IV → M IV) : Prop :=
  ∀ (W : WX) (σ : L2.St) (cm : Wd) (st : Sto) (H : Hp) (x : V) (a : IV) (xs : List V) (l : List IV) (o : OX IV) (st' : Sto) (Q : VK), RelS K mg cm st H → Rep K mg cm H x a → RepL K mg cm H xs l → g a l st = some (o, st') → Out K mg W σ cm H (GE K mg Q) o st' → r x xs H Q
def recvM (v : IV) : M IV := fun st => match lstOf st v with
  | some _ => some (.val v, st)
  | none => none
def mMt (g : IV → List IV → M IV) (f : ME) (a : MA) : ME := fun ls => M.bind (f ls) fun v => M.bind (recvM v) fun v => M.bind (a ls) fun l => g v l
theorem recvM_inv {v : IV} {st st' : Sto} {r : OX IV} (h : recvM v st = some (r, st')) : r = .val v ∧ st' = st ∧ ∃ l, lstOf st v = some l := by
  unfold recvM at h
  cases q : lstOf st v with
  | none => rw [q] at h; cases h
  | some l => rw [q] at h; cases h; exact ⟨rfl, rfl, l, rfl⟩
theorem rd_mt {K : PySem.W.Frag} {mg : Str → Option Value} {σ : L2.St} {H : Hp} {Q : VK} {r : V → List V → Hp → VK → Prop} {g : IV → List IV → M IV} {f : ME} {ga : MA} (hv : MtV K mg "list" r g) (h : rdE K mg W (mMt g f ga) σ H Q) : tBM K "list" r (rdE K mg W f) (rdA K mg W ga) σ H Q := by
  obtain ⟨cm, ls, st, r', st', R, e, o⟩ := h
  rcases M.bind_inv e with ⟨v, st1, e1, e2⟩ | ⟨c, f, v, e1, rfl⟩
  · refine ⟨cm, ls, st, _, st1, R, e1, fun cm1 H1 x1 s1 y hy => ?_⟩
    rcases M.bind_inv e2 with ⟨v', st2, e3, e4⟩ | ⟨c, f, v, e3, rfl⟩
    · obtain ⟨q1, rfl, l, q2⟩ := recvM_inv e3
      cases q1
      obtain ⟨p, xs, rfl, h1, h2⟩ := lstOf_rep s1 hy q2
      refine ⟨.inl ⟨rfl, xs, SqL.of h1⟩, ?_⟩
      rcases M.bind_inv e4 with ⟨as, st3, e5, e6⟩ | ⟨c, f, v, e5, rfl⟩
      · refine ⟨cm1, ls, _, _, st3, R.ext x1 s1, e5, fun cm2 H2 x2 s2 ys hys => ?_⟩
        refine hv W σ cm2 st3 H2 _ v ys as r' st' Q s2 (hy.ext x2) hys e6 ?_
        cases r' with
        | val a => exact fun cm3 H3 x3 s3 => o cm3 H3 ((x1.trans x2).trans x3) s3
        | exc c f v => exact fun cm3 H3 x3 s3 => o cm3 H3 ((x1.trans x2).trans x3) s3
      · exact ⟨cm1, ls, _, _, st', R.ext x1 s1, e5, fun cm2 H2 x2 s2 => o cm2 H2 (x1.trans x2) s2⟩
    · obtain ⟨q1, _⟩ := recvM_inv e3
      cases q1
  · exact ⟨cm, ls, st, _, st', R, e1, o⟩
def appM (a : IV) (l : List IV) : M IV := fun st => match a, l with
  | .cell n, [v] => (match st[n]? with
    | some (.lst m) => if v.pure = true ∧ m.length < 16777216 then some (.val .non, st.set n (.lst (m ++ [v]))) else none
    | _ => none)
  | _, _ => none
theorem pureL_app : ∀ {l m : List IV}, pureL l = true → pureL m = true → pureL (l ++ m) = true
  | [], _, _, h => h
  | a :: l, m, h, h' => by
    simp only [pureL, Bool.and_eq_true] at h
    simp only [List.cons_append, pureL, Bool.and_eq_true]
    exact ⟨h.1, pureL_app h.2 h'⟩
theorem pureL_take : ∀ {l : List IV} (n : Nat), pureL l = true → pureL (l.take n) = true
  | _, 0, _ => by simp [pureL]
  | [], _ + 1, _ => by simp [pureL]
  | a :: l, n + 1, h => by
    simp only [pureL, Bool.and_eq_true] at h
    simp only [List.take_succ_cons, pureL, Bool.and_eq_true]
    exact ⟨h.1, pureL_take n h.2⟩
theorem pureL_drop : ∀ {l : List IV} (n : Nat), pureL l = true → pureL (l.drop n) = true
  | _, 0, h => h
  | [], _ + 1, h => h
  | a :: l, n + 1, h => by
    simp only [pureL, Bool.and_eq_true] at h
    exact pureL_drop n h.2
theorem pureL_set : ∀ {l : List IV} {v : IV} (n : Nat), pureL l = true → v.pure = true → pureL (l.set n v) = true
  | [], _, _, h, _ => h
  | a :: l, v, 0, h, h' => by
    simp only [pureL, Bool.and_eq_true] at h
    simp only [List.set_cons_zero, pureL, Bool.and_eq_true]
    exact ⟨h', h.2⟩
  | a :: l, v, n + 1, h, h' => by
    simp only [pureL, Bool.and_eq_true] at h
    simp only [List.set_cons_succ, pureL, Bool.and_eq_true]
    exact ⟨h.1, pureL_set n h.2 h'⟩
theorem cell_put {K : PySem.W.Frag} {mg : Str → Option Value} {σ : L2.St} {H : Hp} {cm : Wd} {st : Sto} {n : Nat} {p : Addr} {ys : List V} {m : List IV} (s : RelS K mg cm st H) (hn : cm.cm[n]? = some p) (r : RepL K mg cm H ys m) (q : pureL m = true) :
    Ext cm H cm (upd H p (.lst ys)) ∧ RelS K mg cm (st.set n (.lst m)) (upd H p (.lst ys)) :=
  have E : Ext cm H cm (upd H p (.lst ys)) := Ext.set (List.mem_of_getElem? hn)
  ⟨E, s.set hn ⟨ys, upd_same, r.ext E, q⟩⟩
theorem cell_at {K : PySem.W.Frag} {mg : Str → Option Value} {H : Hp} {cm : Wd} {st : Sto} {n : Nat} {x : V} {m : List IV} (s : RelS K mg cm st H) (h : Rep K mg cm H x (.cell n)) (q : st[n]? = some (.lst m)) :
    ∃ p xs, x = .ref p ∧ cm.cm[n]? = some p ∧ H p = some (.lst xs) ∧ RepL K mg cm H xs m ∧ pureL m = true := by
  cases h with
  | @cell p n h =>
    obtain ⟨xs, h1, h2, h3⟩ := s.at' n p _ h q
    exact ⟨p, xs, rfl, h, h1, h2, h3⟩
theorem rep1 {K : PySem.W.Frag} {mg : Str → Option Value} {H : Hp} {cm : Wd} {xs : List V} {v : IV} (h : RepL K mg cm H xs [v]) : ∃ x, xs = [x] ∧ Rep K mg cm H x v := by
  cases h with
  | cons h r => cases r; exact ⟨_, rfl, h⟩
theorem rep2 {K : PySem.W.Frag} {mg : Str → Option Value} {H : Hp} {cm : Wd} {xs : List V} {v w : IV} (h : RepL K mg cm H xs [v, w]) : ∃ x y, xs = [x, y] ∧ Rep K mg cm H x v ∧ Rep K mg cm H y w := by
  cases h with
  | cons h r => obtain ⟨y, rfl, h2⟩ := rep1 r; exact ⟨_, _, rfl, h, h2⟩
theorem v_app {K : PySem.W.Frag} {mg : Str → Option Value} : MtV K mg "list" rAppend appM := by
  intro W σ cm st H x a xs l o st' Q s hx hl e out
  unfold appM at e
  split at e
  · rename_i n v
    split at e
    · rename_i m q
      split at e
      · rename_i hc
        cases e
        obtain ⟨p, ys, rfl, h1, h2, h3, h4⟩ := cell_at s hx q
        obtain ⟨y, rfl, hy⟩ := rep1 hl
        obtain ⟨E, s'⟩ := cell_put (σ := σ) s h1 (h3.app (.cons hy .nil)) (pureL_app h4 (by simp [pureL, hc.1]))
        exact ⟨p, ys, y, rfl, rfl, h2, by rw [h3.length, sizeLine_eq]; exact hc.2, out cm _ E s' _ .non⟩
      · cases e
    · cases e
  · cases e
def insM (a : IV) (l : List IV) : M IV := fun st => match a, l with
  | .cell n, [.int i, v] => (match st[n]? with
    | some (.lst m) => if v.pure = true ∧ m.length < 16777216 ∧ 0 ≤ i ∧ i < 2 ^ 63 then some (.val .non, st.set n (.lst (m.take i.toNat ++ [v] ++ m.drop i.toNat))) else none
    | _ => none)
  | _, _ => none
theorem v_ins {K : PySem.W.Frag} {mg : Str → Option Value} : MtV K mg "list" (fun x vs H Q => ∃ (l : Addr) (xs : List V) (i : Int) (y : V), x = .ref l ∧ vs = [.int i, y] ∧ H l = some (.lst xs) ∧ xs.length < sizeLine ∧ 0 ≤ i ∧ i < 2 ^ 63 ∧
    Q .non (upd H l (.lst (xs.take i.toNat ++ [y] ++ xs.drop i.toNat)))) insM := by
  intro W σ cm st H x a xs l o st' Q s hx hl e out
  unfold insM at e
  split at e
  · rename_i n i v
    split at e
    · rename_i m q
      split at e
      · rename_i hc
        cases e
        obtain ⟨p, ys, rfl, h1, h2, h3, h4⟩ := cell_at s hx q
        obtain ⟨y1, y, rfl, hy1, hy⟩ := rep2 hl
        cases hy1
        obtain ⟨E, s'⟩ := cell_put (σ := σ) s h1 (((h3.take i.toNat).app (.cons hy .nil)).app (h3.drop i.toNat)) (pureL_app (pureL_app (pureL_take _ h4) (by simp [pureL, hc.1])) (pureL_drop _ h4))
        exact ⟨p, ys, i, y, rfl, rfl, h2, by rw [h3.length, sizeLine_eq]; exact hc.2.1, hc.2.2.1, hc.2.2.2, out cm _ E s' _ .non⟩
      · cases e
    · cases e
  · cases e
theorem e_append {apos cpos : Pos} (ho : PE' X W a fa) (hl : PA' X W (e :: es) g)
    (hbase : attributeBase a "append" X.env (eval a X.env) = eval a X.env := by rfl)
    (hfew : ((backTo cpos (starEach (e :: es) X.env)).all (fun x => !x.1) && (backToKw cpos (keywordEach [] X.env)).all (fun x => x.1.isSome)
      && decide ((e :: es).length + ([] : List Keyword).length + (if ([] : List Keyword).isEmpty then 0 else 1) < 30)) = true := by rfl)
    (hline : (apos.endLine == cpos.line) = true := by rfl) (hs : starEach (e :: es) X.env = (false, eval e X.env) :: starEach es X.env := by rfl) (hplain : (backTo cpos (starEach es X.env)).any (·.1) = false := by rfl) :
    PE' X W (.Call (.Attribute a "append" apos) (e :: es) [] cpos) (mMt appM fa g) :=
  PE_imp (pe_bm PySem.F.plainAttrs_list PySem.F.slot_list_append PySem.F.type_list_append mt_append ho hl hbase hfew hline hs hplain) fun _ _ _ h => rd_mt v_app h
theorem e_insert {apos cpos : Pos} (ho : PE' X W a fa) (hl : PA' X W (e :: es) g)
    (hbase : attributeBase a "insert" X.env (eval a X.env) = eval a X.env := by rfl)
    (hfew : ((backTo cpos (starEach (e :: es) X.env)).all (fun x => !x.1) && (backToKw cpos (keywordEach [] X.env)).all (fun x => x.1.isSome)
      && decide ((e :: es).length + ([] : List Keyword).length + (if ([] : List Keyword).isEmpty then 0 else 1) < 30)) = true := by rfl)
    (hline : (apos.endLine == cpos.line) = true := by rfl) (hs : starEach (e :: es) X.env = (false, eval e X.env) :: starEach es X.env := by rfl) (hplain : (backTo cpos (starEach es X.env)).any (·.1) = false := by rfl) :
    PE' X W (.Call (.Attribute a "insert" apos) (e :: es) [] cpos) (mMt insM fa g) :=
  PE_imp (pe_bm PySem.F.plainAttrs_list PySem.F.slot_list_insert PySem.F.type_list_insert mt_insert ho hl hbase hfew hline hs hplain) fun _ _ _ h => rd_mt v_ins h
def FldOk (K : PySem.W.Frag) (mg : Str → Option Value) (c f : Str) : Prop := ∀ C, mg c = some (.ref C) → Cls K C ∧ NoAttr K C f
def fldM (c f : Str) (v : IV) : M IV := fun st => match v with
  | .obj c' fs => if c' = c then (fs.lookup f).map fun v => (.val v, st) else none
  | .cell n => (match st[n]? with
    | some (.ins c' fs) => if c' = c then (fs.lookup f).map fun v => (.val v, st) else none
    | _ => none)
  | _ => none
def mFld (c f : Str) (m : ME) : ME := fun ls => M.bind (m ls) (fldM c f)
theorem e_fld (c : Str) {f : Str} (ho : PE' X W a fa) (hf : FldOk X.K X.mg c f) (hb : attributeBase a f X.env (eval a X.env) = eval a X.env := by rfl) : PE' X W (.Attribute a f pos) (mFld c f fa) := by
  refine PE_imp (pe_fld ho hb) fun σ H Q h => rdE_mono (rd1 h) fun x H1 h1 => ?_
  obtain ⟨cm, st, v, r, st', s, hx, e, o⟩ := h1
  unfold fldM at e
  split at e
  · rename_i c' fs
    split at e
    · rename_i hc
      subst hc
      cases q : fs.lookup f with
      | none => rw [q] at e; cases e
      | some w =>
        rw [q] at e; cases e
        cases hx with
        | @obj p C dx _ fs' _ hm h1 h2 h3 =>
          obtain ⟨y, h4, h5⟩ := h3.get q
          exact ⟨p, C, dx, fs', y, rfl, h1, (hf C hm).1, (hf C hm).2, h4, o cm H1 (Ext.refl _ _) s _ h5⟩
    · cases e
  · rename_i n
    split at e
    · rename_i c' fs q0
      split at e
      · rename_i hc
        subst hc
        cases q : fs.lookup f with
        | none => rw [q] at e; cases e
        | some w =>
          rw [q] at e; cases e
          cases hx with
          | @cell p _ hn =>
            obtain ⟨C, dx, fs', hm, h1, h3, _⟩ := s.at' n p _ hn q0
            obtain ⟨y, h4, h5⟩ := h3.get q
            exact ⟨p, C, dx, fs', y, rfl, h1, (hf C hm).1, (hf C hm).2, h4, o cm H1 (Ext.refl _ _) s _ h5⟩
      · cases e
    · cases e
  · cases e
end
end MK
namespace MK
open PySem PySem.Spec PyProof.Rows L2
abbrev XW (E : XK) : WX := fun c d _ H => E c d H
def spM (K : PySem.W.Frag) (mg : Str → Option Value) (n : Nat) (g : MF) : Sp := fun vs H Q E => vs.length = n ∧ ∃ cm st l r st', RelS K mg cm st H ∧ RepL K mg cm H vs l ∧ g l st = some (r, st') ∧ Out K mg (XW E) [] cm H (GE K mg Q) r st'
structure DefOk (P : Program) (w : World) (K : PySem.W.Frag) (mg : Str → Option Value) (base : Heap) (k : Nat) (x : Str) (ps : List Str) (g : MF) : Prop where
  ex : ∃ f fd, mg x = some (.ref f) ∧ PySem.W.keepIn K (.ref f) = true ∧ Binds K fd ps [] ∧ FnOk P w K mg base (L2.CX P w) k f fd ps (spM K mg ps.length g)
theorem DefOk.mono {P : Program} {w : World} {K : PySem.W.Frag} {mg : Str → Option Value} {base : Heap} {j k : Nat} {x : Str} {ps : List Str} {g : MF} (h : DefOk P w K mg base j x ps g) (hk : j ≤ k) : DefOk P w K mg base k x ps g := by
  obtain ⟨f, fd, h1, h2, h3, h4⟩ := h.ex
  exact ⟨⟨f, fd, h1, h2, h3, h4.mono hk⟩⟩
theorem spM_imp {K : PySem.W.Frag} {mg : Str → Option Value} {n : Nat} {g g' : MF} (h : ∀ l st r, g' l st = some r → g l st = some r) : ∀ vs H Q E, spM K mg n g' vs H Q E → spM K mg n g vs H Q E := by
  intro vs H Q E ⟨hl, cm, st, l, r, st', s, hr, e, o⟩
  exact ⟨hl, cm, st, l, r, st', s, hr, h _ _ _ e, o⟩
theorem DefOk.imp {P : Program} {w : World} {K : PySem.W.Frag} {mg : Str → Option Value} {base : Heap} {k : Nat} {x : Str} {ps : List Str} {g g' : MF} (h : DefOk P w K mg base k x ps g) (i : ∀ l st r, g' l st = some r → g l st = some r) : DefOk P w K mg base k x ps g' := by
  obtain ⟨f, fd, h1, h2, h3, h4⟩ := h.ex
  exact ⟨⟨f, fd, h1, h2, h3, h4.imp (spM_imp i)⟩⟩
theorem out_call {K : PySem.W.Frag} {mg : Str → Option Value} {W : WX} {σ : L2.St} {cm : Wd} {H : Hp} {Q : VK} {r : OX IV} {st' : Sto} (o : Out K mg W σ cm H (GE K mg Q) r st') : Out K mg (XW (WE W σ)) [] cm H (GE K mg Q) r st' := by
  cases r with
  | val a => exact o
  | exc c f v => exact o
section
variable {X : Cx} {W : WX} {e : Expr} {es : List Expr} {ga : MA} {k : Nat} {x : Str} {ps : List Str} {g : MF} {p pos : Pos}
def mCallD (n : Nat) (g : List IV → M IV) (a : MA) : ME := fun ls => M.bind (a ls) fun l => if l.length = n then g l else M.stuck
theorem e_call (F : DefOk X.prog X.w X.K X.mg X.base k x ps g) (hr : Room k X.A) (hg : Gl X x) (tk : Takes X W) (ha : PA' X W (e :: es) ga) (hdb : (x == ("__debug__" : Str)) = false := by decide)
    (he : starEach (e :: es) X.env = (false, eval e X.env) :: starEach es X.env := by rfl) (hpl : (backTo pos (starEach es X.env)).any (·.1) = false := by rfl) : PE' X W (.Call (.Name x p) (e :: es) [] pos) (mCallD ps.length g ga) := by
  obtain ⟨f, fd, h1, h2, h3, h4⟩ := F.ex
  refine PE_imp (pe_callS h4 hr hg h1 h2 h3 (fun σ => passAt tk σ) ha hdb he hpl) fun σ H Q h => rdA_mono (rdA1 h) fun xs H1 hh => ?_
  obtain ⟨cm, st, l, r, st', s, hx, e, o⟩ := hh
  split at e
  · exact ⟨by rw [hx.length]; assumption, cm, st, l, r, st', s, hx, e, out_call o⟩
  · cases e
end
def closeM (keep : Bool) (k : Nat) (v : IV) (st : Sto) : Option (OX IV × Sto) :=
  if keep = true ∨ st.length = k then some (.val v, st) else match v with
    | .cell n => if n < k then some (.val (.cell n), st.take k) else (match st[n]? with
      | some (.lst l) => some (.val (.lst l), st.take k)
      | some (.ins c fs) => some (.val (.obj c fs), st.take k)
      | none => none)
    | v => if v.pure = true then some (.val v, st.take k) else none
def finM (keep : Bool) (n : Nat) (body : MS) : MF := fun l st => match body (l.map some ++ List.replicate (n - l.length) none) st with
  | some (.val (.nx _), st') => closeM keep st.length .non st'
  | some (.val (.rt v), st') => closeM keep st.length v st'
  | some (.val (.ex _ c f v), st') => if st'.length = st.length then some (.exc c f v, st') else if v.pure = true then some (.exc c f v, st'.take st.length) else none
  | _ => none
section
variable {K : PySem.W.Frag} {mg : Str → Option Value} {σ : L2.St} {H H1 : Hp} {W : WX} {cm cm1 : Wd} {st st1 st' : Sto} {Q : VK} {r : OX IV} {v : IV} {x : V}
theorem cut_of (E : Ext cm H cm1 H1) : Cut cm1 H1 cm H1 := ⟨fun a _ _ n m => n (E.keep a m), fun _ _ h _ => h⟩
theorem relS_cut (s : RelS K mg cm st H) (E : Ext cm H cm1 H1) (s1 : RelS K mg cm1 st1 H1) : RelS K mg cm (st1.take st.length) H1 ∧ Ext cm H cm H1 := by
  have hlen : cm.cm.length ≤ cm1.cm.length := by
    obtain ⟨l, e⟩ := E.pre
    rw [e, List.length_append]; omega
  refine ⟨⟨?_, s.nd, fun n a c h1 h2 => ?_, fun a h => s1.avs a (E.keep a h)⟩, Ext.mk' fun a o h n => E.fr a o h n⟩
  · rw [List.length_take, ← s1.len, ← s.len]; omega
  · have hn : n < cm.cm.length := (List.getElem?_eq_some_iff.mp h1).1
    rw [List.getElem?_take_of_lt (by rw [← s.len]; exact hn)] at h2
    have q := s1.at' n a c (E.at h1) h2
    cases c with
    | lst l => obtain ⟨xs, q1, q2, q3⟩ := q; exact ⟨xs, q1, q2.cut (cut_of E) q3, q3⟩
    | ins c fs => obtain ⟨C, dx, fs', q0, q1, q2, q3⟩ := q; exact ⟨C, dx, fs', q0, q1, q2.cut (cut_of E) q3, q3⟩
theorem new_cell_free (s : RelS K mg cm st H) (E : Ext cm H cm1 H1) (s1 : RelS K mg cm1 st1 H1) {n : Nat} {p : Addr} (h : cm1.cm[n]? = some p) (hn : ¬ n < st.length) : p ∉ cm.av := fun m => by
  obtain ⟨o, q⟩ := s.avs p m
  by_cases hc : p ∈ cm.cm
  · obtain ⟨i, hi⟩ := List.getElem?_of_mem hc
    have hi' := (List.getElem?_eq_some_iff.mp hi).1
    have h2 := E.at hi
    obtain ⟨i1, e1⟩ := List.getElem?_eq_some_iff.mp h
    obtain ⟨i2, e2⟩ := List.getElem?_eq_some_iff.mp h2
    have := (List.getElem_inj s1.nd).mp (e1.trans e2.symm)
    rw [s.len] at hi'
    omega
  · exact E.new p o q hc (List.mem_of_getElem? h)
theorem close_ok {keep : Bool} (s : RelS K mg cm st H) (e : closeM keep st.length v st1 = some (r, st')) (o : Out K mg W σ cm H (GE K mg Q) r st') (E : Ext cm H cm1 H1) (s1 : RelS K mg cm1 st1 H1) (hx : Rep K mg cm1 H1 x v) : Q x H1 := by
  unfold closeM at e
  split at e
  · cases e; exact o cm1 H1 E s1 x hx
  · obtain ⟨s2, E2⟩ := relS_cut s E s1
    have hp : ∀ {v : IV}, Rep K mg cm1 H1 x v → (if v.pure = true then some (OX.val v, st1.take st.length) else none) = some (r, st') → Q x H1 := fun {v} hx e => by
      split at e
      · cases e
        exact o cm H1 E2 s2 x (hx.cut (cut_of E) (by assumption))
      · cases e
    cases v with
    | cell n =>
      simp only at e
      cases hx with
      | @cell p _ h =>
        split at e
        · rename_i hn
          cases e
          refine o cm H1 E2 s2 _ (.cell ?_)
          obtain ⟨l, q⟩ := E.pre
          rw [q, List.getElem?_append_left (by rw [s.len]; exact hn)] at h
          exact h
        · rename_i hn
          have free := new_cell_free s E s1 h hn
          split at e
          · rename_i l q
            cases e
            obtain ⟨xs, q1, q2, q3⟩ := s1.at' n p _ h q
            exact o cm H1 E2 s2 _ (.lst ⟨q1, free⟩ (q2.cut (cut_of E) q3))
          · rename_i c fs q
            cases e
            obtain ⟨C, dx, fs', q0, q1, q2, q3⟩ := s1.at' n p _ h q
            exact o cm H1 E2 s2 _ (.obj q0 q1 free (q2.cut (cut_of E) q3))
          · cases e
    | _ => exact hp hx e
end
section
variable {P : Program} {w : World} {K : PySem.W.Frag} {mg : Str → Option Value} {base : Heap}
theorem start_rel {cm : Wd} {st : Sto} {H : Hp} {vs : List V} {l : List IV} {N : List Str} (s : RelS K mg cm st H) (h : RepL K mg cm H vs l) : Rel K mg cm (l.map some ++ List.replicate (N.length - l.length) none) st (L2.start N vs) H := by
  refine ⟨s, ?_, fun i v e => ?_⟩
  · unfold L2.start
    simp [h.length]
  · unfold L2.start
    by_cases hi : i < l.length
    · rw [List.getElem?_append_left (by simpa using hi), List.getElem?_map] at e
      cases q : l[i]? with
      | none => rw [q] at e; cases e
      | some w =>
        rw [q] at e; cases e
        obtain ⟨x, h1, h2⟩ := h.get q
        refine ⟨x, ?_, h2⟩
        rw [List.getElem?_append_left (by rw [List.length_map, h.length]; exact hi), List.getElem?_map, h1]; rfl
    · rw [List.getElem?_append_right (by simpa using hi), List.getElem?_replicate] at e
      split at e <;> cases e
theorem body_end {keep : Bool} {N : List Str} {n : Nat} {body : MS} {vs : List V} {H : Hp} {Q : VK} {E : XK} (h : spM K mg n (finM keep N.length body) vs H Q E) : rdS K mg (XW E) body { nx := fun _ H' => Q .non H', rt := Q } (L2.start N vs) H := by
  obtain ⟨_, cm, st, l, r, st', s, hl, e, o⟩ := h
  unfold finM at e
  cases q : body (l.map some ++ List.replicate (N.length - l.length) none) st with
  | none => rw [q] at e; cases e
  | some p =>
    obtain ⟨fl, st1⟩ := p
    rw [q] at e
    cases fl with
    | exc c f v => cases e
    | val fl =>
      refine ⟨cm, _, st, fl, st1, start_rel s hl, q, ?_⟩
      intro cm1 H1 E1 s1
      cases fl with
      | nx ls => exact fun σ _ => close_ok s e o E1 s1 .non
      | rt v => exact fun x hx => close_ok s e o E1 s1 hx
      | bk ls => cases e
      | ct ls => cases e
      | ex ls c f v =>
        intro σ _ C d y hm hxf hd hav hy
        simp only at e
        split at e
        · cases e
          exact o cm1 H1 E1 s1 C d y hm hxf hd hav hy
        · split at e
          · cases e
            obtain ⟨s2, E2⟩ := relS_cut s E1 s1
            exact o cm H1 E2 s2 C d y hm hxf hd (fun m => hav (E1.keep d m)) (hy.cut (cut_of E1) (by assumption))
          · cases e
theorem tk_def {N : List Str} {qual : Str} {sc : Scope} {f : Addr} {cdv : Value} {A : Around} {outer : List Env} {s : Shared} {H : Hp} {E : XK} : Takes (cxOf (L2.CX P w) P w K mg base N qual sc f cdv A outer s H E) (XW E) := takes_of rfl rfl rfl rfl
theorem po_def {N : List Str} {qual : Str} {sc : Scope} {f : Addr} {cdv : Value} {A : Around} {outer : List Env} {s : Shared} {H : Hp} {E : XK} :
    PassesOwn (model P w) (cxOf (L2.CX P w) P w K mg base N qual sc f cdv A outer s H E).A (cxOf (L2.CX P w) P w K mg base N qual sc f cdv A outer s H E).env (cxOf (L2.CX P w) P w K mg base N qual sc f cdv A outer s H E).xe := passes_of (X := cxOf (L2.CX P w) P w K mg base N qual sc f cdv A outer s H E) rfl
end
end MK
namespace MK
open PySem L2
def liftS {α : Type} (m : Loc → M α) (k : α → Loc → M Fl) : MS := fun ls st => match m ls st with
  | some (.val v, st') => k v ls st'
  | some (.exc c f v, st') => some (.val (.ex ls c f v), st')
  | none => none
def mSeq (f g : MS) : MS := fun ls => M.bind (f ls) fun fl => match fl with
  | .nx ls' => g ls'
  | fl => M.ret fl
def mPass : MS := fun ls => M.ret (.nx ls)
def mExpr (m : ME) : MS := liftS m fun _ ls => M.ret (.nx ls)
def mRet (m : ME) : MS := liftS m fun v _ => M.ret (.rt v)
def mIfS (c : MT) (t f : MS) : MS := liftS c fun b ls => if b = true then t ls else f ls
def mSet (i : Nat) (m : ME) : MS := liftS m fun v ls => M.ret (.nx (ls.set i (some v)))
abbrev PS' (X : Cx) (W : WX) (s : Stmt) (m : MS) : Prop := PS X s (rdS X.K X.mg W m)
abbrev PSs' (X : Cx) (W : WX) (s : List Stmt) (m : MS) : Prop := PSs X s (rdS X.K X.mg W m)
section
variable {K : PySem.W.Frag} {mg : Str → Option Value} {σ : L2.St} {H : Hp} {W : WX} {D : Ends} {α : Type}
theorem rd_lift {m : Loc → M α} {k : α → Loc → M Fl} (h : rdS K mg W (liftS m k) D σ H) :
    ∃ cm ls st r st', Rel K mg cm ls st σ H ∧ m ls st = some (r, st') ∧ Out K mg W σ cm H (fun cm' H' a => ∃ fl st2, k a ls st' = some (.val fl, st2) ∧ OutS K mg W D cm' H' fl st2) r st' := by
  obtain ⟨cm, ls, st, fl, st', R, e, o⟩ := h
  unfold liftS at e
  cases q : m ls st with
  | none => rw [q] at e; cases e
  | some p =>
    obtain ⟨r1, st1⟩ := p
    rw [q] at e
    refine ⟨cm, ls, st, r1, st1, R, q, ?_⟩
    cases r1 with
    | val a => exact fun cm1 H1 x1 s1 => ⟨fl, st', e, fun cm2 H2 x2 s2 => o cm2 H2 (x1.trans x2) s2⟩
    | exc c f v =>
      cases e
      exact fun cm1 H1 x1 s1 => o cm1 H1 x1 s1 σ (R.loc.ext x1)
theorem rd_liftE {m : ME} {k : IV → Loc → M Fl} (h : rdS K mg W (liftS m k) D σ H) :
    rdE K mg W m σ H fun x H1 => ∃ cm ls st v fl st2, Rel K mg cm ls st σ H1 ∧ Rep K mg cm H1 x v ∧ k v ls st = some (.val fl, st2) ∧ OutS K mg W D cm H1 fl st2 := by
  obtain ⟨cm, ls, st, r, st', R, e, o⟩ := rd_lift h
  refine ⟨cm, ls, st, r, st', R, e, ?_⟩
  cases r with
  | val a =>
    intro cm1 H1 x1 s1 y hy
    obtain ⟨fl, st2, e2, o2⟩ := o cm1 H1 x1 s1
    exact ⟨cm1, ls, st', a, fl, st2, R.ext x1 s1, hy, e2, o2⟩
  | exc c f v => exact o
theorem rd_liftT {m : MT} {k : Bool → Loc → M Fl} (h : rdS K mg W (liftS m k) D σ H) :
    rdT K mg W m σ H fun b H1 => ∃ cm ls st fl st2, Rel K mg cm ls st σ H1 ∧ k b ls st = some (.val fl, st2) ∧ OutS K mg W D cm H1 fl st2 := by
  obtain ⟨cm, ls, st, r, st', R, e, o⟩ := rd_lift h
  refine ⟨cm, ls, st, r, st', R, e, ?_⟩
  cases r with
  | val a =>
    intro cm1 H1 x1 s1
    obtain ⟨fl, st2, e2, o2⟩ := o cm1 H1 x1 s1
    exact ⟨cm1, ls, st', fl, st2, R.ext x1 s1, e2, o2⟩
  | exc c f v => exact o
theorem RelC.set {cm : Wd} {ls : Loc} {x : V} {v : IV} (h : RelC K mg cm ls σ H) (i : Nat) (hx : Rep K mg cm H x v) : RelC K mg cm (ls.set i (some v)) (σ.set i (some x)) H := ⟨by simp [h.len], fun j w e => by
  by_cases hi : i = j
  · subst hi
    by_cases hl : i < ls.length
    · rw [List.getElem?_set_self hl] at e
      cases e
      exact ⟨x, by rw [List.getElem?_set_self (by rw [← h.len]; exact hl)], hx⟩
    · rw [List.getElem?_eq_none (by simpa using hl)] at e; cases e
  · rw [List.getElem?_set_ne hi] at e ⊢
    exact h.at' j w e⟩
end
section
variable {X : Cx} {W : WX} {a b c e : Expr} {es : List Expr} {fa fb : ME} {tc : MT} {g : MA} {p p2 p3 pos : Pos} {s : Stmt} {ss : List Stmt} {m n : MS}
theorem ss_nil : PSs' X W [] mPass := PSs_imp pss_nil fun D σ H h => by
  obtain ⟨cm, ls, st, fl, st', R, e, o⟩ := h
  cases e
  exact o cm H (Ext.refl _ _) R.sto σ R.loc
theorem rd_seq {K : PySem.W.Frag} {mg : Str → Option Value} {σ : L2.St} {H : Hp} {D : Ends} (h : rdS K mg W (mSeq m n) D σ H) : tSeq (rdS K mg W m) (rdS K mg W n) D σ H := by
  obtain ⟨cm, ls, st, r, st', R, e, o⟩ := h
  rcases M.bind_inv e with ⟨fl, st1, e1, e2⟩ | ⟨c, f, v, e1, q⟩
  · refine ⟨cm, ls, st, _, st1, R, e1, fun cm1 H1 x1 s1 => ?_⟩
    cases fl with
    | nx ls' => exact fun σ1 R1 => ⟨cm1, ls', st1, r, st', ⟨s1, R1⟩, e2, fun cm2 H2 x2 s2 => o cm2 H2 (x1.trans x2) s2⟩
    | rt v => cases e2; exact o cm1 H1 x1 s1
    | bk v => cases e2; exact o cm1 H1 x1 s1
    | ct v => cases e2; exact o cm1 H1 x1 s1
    | ex ls c f v => cases e2; exact o cm1 H1 x1 s1
  · cases q
theorem ss_cons (h1 : PS' X W s m) (h2 : PSs' X W ss n) : PSs' X W (s :: ss) (mSeq m n) := PSs_imp (pss_cons h1 h2) fun _ _ _ h => rd_seq h
theorem ss_one (h : PS' X W s m) : PSs' X W [s] m := pss_one h
theorem s_expr (he : PE' X W e fa) (hs : swapsWith e none pos.line X.env = pure false := by rfl) : PS' X W (.Expr e pos) (mExpr fa) := PS_imp (ps_expr he hs) fun D σ H h => rdE_mono (rd_liftE h) fun x H1 h1 => by
  obtain ⟨cm, ls, st, v, fl, st2, R, hx, e, o⟩ := h1
  cases e
  exact o cm H1 (Ext.refl _ _) R.sto σ R.loc
theorem s_ret (he : PE' X W e fa) : PS' X W (.Return (some e) pos) (mRet fa) := PS_imp (ps_ret he) fun D σ H h => rdE_mono (rd_liftE h) fun x H1 h1 => by
  obtain ⟨cm, ls, st, v, fl, st2, R, hx, e, o⟩ := h1
  cases e
  exact o cm H1 (Ext.refl _ _) R.sto x hx
theorem s_if {sa sb : List Stmt} {c : Expr} (hc : PT' X W c tc) (ha : PSs' X W sa m) (hb : PSs' X W sb n) : PS' X W (.If c sa sb pos) (mIfS tc m n) := PS_imp (ps_if hc ha hb) fun D σ H h => rdT_mono (rd_liftT h) fun b H1 h1 => by
  obtain ⟨cm, ls, st, fl, st2, R, e, o⟩ := h1
  cases b with
  | true => exact ⟨cm, ls, st, fl, st2, R, e, o⟩
  | false => exact ⟨cm, ls, st, fl, st2, R, e, o⟩
abbrev MG := Loc → IV → Option Loc
def gSet (i : Nat) : MG := fun ls v => some (ls.set i (some v))
def rdG (K : PySem.W.Frag) (mg : Str → Option Value) (t : MG) : TG := fun x σ H Q => ∃ cm ls v ls', RelC K mg cm ls σ H ∧ Rep K mg cm H x v ∧ t ls v = some ls' ∧ ∀ σ', RelC K mg cm ls' σ' H → Q σ' H
abbrev PG' (X : Cx) (e : Expr) (t : MG) : Prop := PG X e (rdG X.K X.mg t)
theorem PG_imp {X : Cx} {e : Expr} {t t' : TG} (h : PG X e t) (i : ∀ x σ H Q, t' x σ H Q → t x σ H Q) : PG X e t' := ⟨fun pins s σ H v u Q I r q => h.run pins s σ H v u Q I r (i v σ H Q q)⟩
theorem PGs_imp {X : Cx} {e : List Expr} {t t' : TGs} (h : PGs X e t) (i : ∀ x σ H Q, t' x σ H Q → t x σ H Q) : PGs X e t' := ⟨fun pins s σ H v u Q I r q => h.run pins s σ H v u Q I r (i v σ H Q q)⟩
theorem g_name (i : Nat) {x : Str} (hN : X.N.Nodup) (hi : X.N[i]? = some x := by rfl) (hx : L2.Loc X.env.scope x := by first | exact Or.inl rfl | exact Or.inr rfl) (hf : X.fn x = true ∨ X.env.scope.names.lookup x = some .local := by first | exact .inl rfl | exact .inr rfl) : PG' X (.Name x pos) (gSet i) :=
  PG_imp (pg_name hN hi hx hf) fun x σ H Q h => by
    obtain ⟨cm, ls, v, ls', R, hx, e, k⟩ := h
    cases e
    exact k _ (R.set i hx)
abbrev MGs := Loc → List IV → Option Loc
def gsNil : MGs := fun ls l => match l with | [] => some ls | _ => none
def gsCons (t : MG) (u : MGs) : MGs := fun ls l => match l with
  | v :: r => (t ls v).bind fun ls' => u ls' r
  | [] => none
def gTupI (n : Nat) (u : MGs) : MG := fun ls v => match v with
  | .tup l => if l.length = n then u ls l else none
  | _ => none
def rdGs (K : PySem.W.Frag) (mg : Str → Option Value) (t : MGs) : TGs := fun xs σ H Q => ∃ cm ls l ls', RelC K mg cm ls σ H ∧ RepL K mg cm H xs l ∧ t ls l = some ls' ∧ ∀ σ', RelC K mg cm ls' σ' H → Q σ' H
abbrev PGs' (X : Cx) (e : List Expr) (t : MGs) : Prop := PGs X e (rdGs X.K X.mg t)
theorem gs_nil : PGs' X [] gsNil := PGs_imp pgs_nil fun xs σ H Q h => by
  obtain ⟨cm, ls, l, ls', R, hx, e, k⟩ := h
  cases hx with
  | nil => cases e; exact ⟨rfl, k σ R⟩
  | cons => cases e
theorem gs_cons {t : MG} {u : MGs} (h1 : PG' X e t) (h2 : PGs' X es u) (hs : (assignEach (e :: es) X.env).map (·.2) = assign e X.env :: (assignEach es X.env).map (·.2) := by rfl) : PGs' X (e :: es) (gsCons t u) := PGs_imp (pgs_cons h1 h2 hs) fun xs σ H Q h => by
  obtain ⟨cm, ls, l, ls', R, hx, e, k⟩ := h
  cases hx with
  | nil => cases e
  | @cons x xs v l h r =>
    simp only [gsCons] at e
    cases q : t ls v with
    | none => rw [q] at e; cases e
    | some ls1 =>
      rw [q] at e
      exact ⟨x, xs, rfl, cm, ls, v, ls1, R, h, q, fun σ' R' => ⟨cm, ls1, l, ls', R', r, e, k⟩⟩
theorem g_tup {n : Nat} {t : MGs} {kk : Nat} (hc : X.calm = true) (h : PGs' X es t) (hn : (assignEach es X.env).length = n := by rfl) (hst : (assignEach es X.env).findIdx? (·.1) = none := by rfl) : PG' X (.Tuple es kk pos) (gTupI n t) := PG_imp (pg_tup hc h hn hst) fun x σ H Q h => by
  obtain ⟨cm, ls, v, ls', R, hx, e, k⟩ := h
  cases hx with
  | @tup p xs l h1 h2 =>
    simp only [gTupI] at e
    split at e
    · exact ⟨p, xs, rfl, h1.sq, by rw [h2.length]; assumption, cm, ls, l, ls', R, h2, e, k⟩
    · cases e
  | _ => cases e
theorem s_set (i : Nat) {x : Str} {pos' : Pos} (hN : X.N.Nodup) (he : PE' X W e fa) (hi : X.N[i]? = some x := by rfl) (hx : L2.Loc X.env.scope x := by first | exact Or.inl rfl | exact Or.inr rfl) (hs : swapsWith e (some (.Name x pos')) pos.line X.env = pure false := by rfl) (hf : X.fn x = true ∨ X.env.scope.names.lookup x = some .local := by first | exact .inl rfl | exact .inr rfl) :
    PS' X W (.Assign [.Name x pos'] e pos) (mSet i fa) := PS_imp (ps_set hN hi hx he hs hf) fun D σ H h => rdE_mono (rd_liftE h) fun x H1 h1 => by
  obtain ⟨cm, ls, st, v, fl, st2, R, hx, e, o⟩ := h1
  cases e
  exact o cm H1 (Ext.refl _ _) R.sto _ (R.loc.set i hx)
def mAsg (t : MG) (m : ME) : MS := liftS m fun v ls => match t ls v with
  | some ls' => M.ret (.nx ls')
  | none => M.stuck
theorem s_asg {tg : Expr} {t : MG} (he : PE' X W e fa) (hg : PG' X tg t) (hs : swapsWithSole [tg] e pos.line X.env = pure false := by rfl) (hw : swappedStores [tg] e X.env = pure none := by rfl) (h1 : (assignEach [tg] X.env).map (·.2) = [assign tg X.env] := by rfl) :
    PS' X W (.Assign [tg] e pos) (mAsg t fa) := PS_imp (ps_asg he hg hs hw h1) fun D σ H h => rdE_mono (rd_liftE h) fun x H1 h1 => by
  obtain ⟨cm, ls, st, v, fl, st2, R, hx, e, o⟩ := h1
  cases q : t ls v with
  | none => rw [q] at e; cases e
  | some ls' =>
    rw [q] at e; cases e
    exact ⟨cm, ls, v, ls', R.loc, hx, q, fun σ' R' => o cm H1 (Ext.refl _ _) R.sto σ' R'⟩
def setAll : List Nat → List IV → Loc → Option Loc
  | [], [], ls => some ls
  | i :: is, v :: vs, ls => setAll is vs (ls.set i (some v))
  | _, _, _ => none
def mPar (is : List Nat) (g : MA) : MS := liftS g fun l ls => match setAll is l ls with
  | some ls' => M.ret (.nx ls')
  | none => M.stuck
theorem rd_liftA {K : PySem.W.Frag} {mg : Str → Option Value} {σ : L2.St} {H : Hp} {D : Ends} {m : MA} {k : List IV → Loc → M Fl} (h : rdS K mg W (liftS m k) D σ H) :
    rdA K mg W m σ H fun xs H1 => ∃ cm ls st l fl st2, Rel K mg cm ls st σ H1 ∧ RepL K mg cm H1 xs l ∧ k l ls st = some (.val fl, st2) ∧ OutS K mg W D cm H1 fl st2 := by
  obtain ⟨cm, ls, st, r, st', R, e, o⟩ := rd_lift h
  refine ⟨cm, ls, st, r, st', R, e, ?_⟩
  cases r with
  | val a =>
    intro cm1 H1 x1 s1 y hy
    obtain ⟨fl, st2, e2, o2⟩ := o cm1 H1 x1 s1
    exact ⟨cm1, ls, st', a, fl, st2, R.ext x1 s1, hy, e2, o2⟩
  | exc c f v => exact o
theorem s_par2 (i j : Nat) {x y : Str} {px py pt : Pos} {kt k2 pt2} (hc : X.calm = true) (hN : X.N.Nodup) (ha : PA' X W [a, b] g) (hi : X.N[i]? = some x := by rfl) (hj : X.N[j]? = some y := by rfl) (hij : i ≠ j := by decide)
    (hx : X.env.scope.names.lookup x = some .local := by rfl) (hy : X.env.scope.names.lookup y = some .local := by rfl)
    (hw : swappedStores [.Tuple [.Name x px, .Name y py] kt pt] (.Tuple [a, b] k2 pt2) X.env = pure (some [x, y]) := by rfl)
    (hs : swapsWithSole [.Tuple [.Name x px, .Name y py] kt pt] (.Tuple [a, b] k2 pt2) pos.line X.env = pure false := by rfl) :
    PS' X W (.Assign [.Tuple [.Name x px, .Name y py] kt pt] (.Tuple [a, b] k2 pt2) pos) (mPar [i, j] g) := PS_imp (ps_par hc hN hi hj hij hx hy ha hw hs) fun D σ H h => rdA_mono (rd_liftA h) fun xs H1 h1 => by
  obtain ⟨cm, ls, st, l, fl, st2, R, hl, e, o⟩ := h1
  cases hl with
  | nil => cases e
  | cons h1 r =>
    cases r with
    | nil => cases e
    | cons h2 r =>
      cases r with
      | cons => cases e
      | nil => cases e; exact ⟨_, _, rfl, o cm H1 (Ext.refl _ _) R.sto _ ((R.loc.set i h1).set j h2)⟩
def putM (o i v : IV) : M Unit := fun st => match o, i with
  | .cell n, .int k => (match st[n]? with
    | some (.lst m) => (match ixN m.length k with
      | some j => if v.pure = true then some (.val (), st.set n (.lst (m.set j v))) else none
      | none => none)
    | _ => none)
  | _, _ => none
def mPut (o i m : ME) : MS := liftS (fun ls => M.bind (m ls) fun v => M.bind (o ls) fun a => M.bind (i ls) fun k => putM a k v) fun _ ls => M.ret (.nx ls)
theorem rd_put {K : PySem.W.Frag} {mg : Str → Option Value} {σ : L2.St} {H : Hp} {D : Ends} {fo fi : ME} (h : rdS K mg W (mPut fo fi fa) D σ H) : tAsg (rdE K mg W fa) (gSub (rdE K mg W fo) (rdE K mg W fi) rSetL) D σ H := by
  obtain ⟨cm, ls, st, r, st', R, e, o⟩ := rd_lift h
  rcases M.bind_inv e with ⟨v, st1, e1, e2⟩ | ⟨c, f, v, e1, rfl⟩
  · refine ⟨cm, ls, st, _, st1, R, e1, fun cm1 H1 x1 s1 y hy => ?_⟩
    rcases M.bind_inv e2 with ⟨a, st2, e3, e4⟩ | ⟨c, f, v, e3, rfl⟩
    · refine ⟨cm1, ls, st1, _, st2, R.ext x1 s1, e3, fun cm2 H2 x2 s2 z hz => ?_⟩
      rcases M.bind_inv e4 with ⟨k, st3, e5, e6⟩ | ⟨c, f, v, e5, rfl⟩
      · refine ⟨cm2, ls, st2, _, st3, (R.ext x1 s1).ext x2 s2, e5, fun cm3 H3 x3 s3 w hw => ?_⟩
        unfold putM at e6
        split at e6
        · rename_i n kk
          cases hw
          split at e6
          · rename_i mm q
            split at e6
            · rename_i j qj
              split at e6
              · rename_i hp
                cases e6
                obtain ⟨p, xs, rfl, g1, g2, g3, g4⟩ := cell_at s3 (hz.ext x3) q
                have hy3 := (hy.ext x2).ext x3
                obtain ⟨E, s4⟩ := cell_put (σ := σ) s3 g1 (g3.set j hy3) (pureL_set j g4 hp)
                obtain ⟨fl, st5, e7, o7⟩ := o cm3 _ (((x1.trans x2).trans x3).trans E) s4
                cases e7
                exact ⟨p, xs, kk, j, rfl, rfl, g2, by rw [g3.length]; exact qj, o7 cm3 _ (Ext.refl _ _) s4 σ (((R.ext x1 s1).ext x2 s2).ext (x3.trans E) s4).loc⟩
              · cases e6
            · cases e6
          · cases e6
        · cases e6
      · exact ⟨cm2, ls, st2, _, st', (R.ext x1 s1).ext x2 s2, e5, fun cm3 H3 x3 s3 => o cm3 H3 ((x1.trans x2).trans x3) s3⟩
    · exact ⟨cm1, ls, st1, _, st', R.ext x1 s1, e3, fun cm2 H2 x2 s2 => o cm2 H2 (x1.trans x2) s2⟩
  · exact ⟨cm, ls, st, _, st', R, e1, o⟩
theorem s_put {o i : Expr} {fo fi : ME} (ho : PE' X W o fo) (hi : PE' X W i fi) (he : PE' X W e fa)
    (ha : ∀ v, assign (.Subscript o i p) X.env v = (do
      let ov ← holding [v] (eval o X.env)
      let iv ← holding [v, ov] (eval i X.env)
      standAt p
      holding [v, ov, iv] (setItem ov iv v)
      release [v, ov, iv] []) := by intro _; rfl)
    (hs : swapsWithSole [.Subscript o i p] e pos.line X.env = pure false := by rfl) (hw : swappedStores [.Subscript o i p] e X.env = pure none := by rfl) (h1 : (assignEach [.Subscript o i p] X.env).map (·.2) = [assign (.Subscript o i p) X.env] := by rfl) :
    PS' X W (.Assign [.Subscript o i p] e pos) (mPut fo fi fa) := PS_imp (ps_asg he (pg_sub ho hi set_list ha) hs hw h1) fun D σ H h => rd_put h
end
end MK
namespace MK
open PySem PySem.Spec PyProof.Rows L2
section
variable {K : PySem.W.Frag} {mg : Str → Option Value} {cm cm' : Wd} {H H' : Hp}
structure Tr (cm : Wd) (H : Hp) (cm' : Wd) (H' : Hp) : Prop where
  ce : ∀ (n : Nat) (a : Addr), cm.cm[n]? = some a → cm'.cm[n]? = some a
  fr : ∀ a o, H a = some o → a ∉ cm.av → H' a = some o ∧ a ∉ cm'.av
theorem Tr.rd (e : Tr cm H cm' H') {a : Addr} {u : HO} (h : Rd H a u) (n : a ∉ cm.av) : Rd H' a u ∧ a ∉ cm'.av := by
  rcases h with h | ⟨o, h⟩
  · exact ⟨.inl (e.fr _ _ h n).1, (e.fr _ _ h n).2⟩
  · exact ⟨.inr ⟨o, (e.fr _ _ h n).1⟩, (e.fr _ _ h n).2⟩
mutual
theorem Rep.tr (e : Tr cm H cm' H') : ∀ {x : V} {v : IV}, Rep K mg cm H x v → Rep K mg cm' H' x v
  | _, _, .non => .non
  | _, _, .bl b => .bl b
  | _, _, .int i => .int i
  | _, _, .str x => .str x
  | _, _, .tup h r => .tup (h.imp (fun h => e.rd h.1 h.2) id) (RepL.tr e r)
  | _, _, .lst h r => .lst (e.fr _ _ h.1 h.2) (RepL.tr e r)
  | _, _, .scr h r => .scr (h.imp (fun ⟨⟨o, h⟩, n⟩ => ⟨⟨o, (e.fr _ _ h n).1⟩, (e.fr _ _ h n).2⟩) id) (RepL.tr e r)
  | _, _, .obj hc h n r => .obj hc (e.fr _ _ h n).1 (e.fr _ _ h n).2 (RepF.tr e r)
  | _, _, .cell h => .cell (e.ce _ _ h)
  | _, _, .exn g c h n r => .exn g c (e.fr _ _ h n).1 (e.fr _ _ h n).2 (Rep.tr e r)
  | _, _, .rng h n => .rng (e.fr _ _ h n).1 (e.fr _ _ h n).2
  | _, _, .err g c h n h' n' r => .err g c (e.fr _ _ h n).1 (e.fr _ _ h n).2 (e.fr _ _ h' n').1 (e.fr _ _ h' n').2 (Rep.tr e r)
theorem RepL.tr (e : Tr cm H cm' H') : ∀ {xs : List V} {l : List IV}, RepL K mg cm H xs l → RepL K mg cm' H' xs l
  | _, _, .nil => .nil
  | _, _, .cons h r => .cons (Rep.tr e h) (RepL.tr e r)
theorem RepF.tr (e : Tr cm H cm' H') : ∀ {xs : List (Str × V)} {l : List (Str × IV)}, RepF K mg cm H xs l → RepF K mg cm' H' xs l
  | _, _, .nil => .nil
  | _, _, .cons h r => .cons (Rep.tr e h) (RepF.tr e r)
end
theorem CellOk.tr (e : Tr cm H cm' H') {a : Addr} {c : CV} (h : CellOk K mg cm H a c) (k : H' a = H a) : CellOk K mg cm' H' a c := by
  cases c with
  | lst l =>
    obtain ⟨xs, h1, h2, h3⟩ := h
    exact ⟨xs, k.trans h1, h2.tr e, h3⟩
  | ins c fs =>
    obtain ⟨C, dx, fs', h0, h1, h2, h3⟩ := h
    exact ⟨C, dx, fs', h0, k.trans h1, h2.tr e, h3⟩
end
section
variable {K : PySem.W.Frag} {mg : Str → Option Value} {cm cm' : Wd} {H H' : Hp} {ls : Loc} {σ : L2.St}
theorem Ext.tr (e : Ext cm H cm' H') : Tr cm H cm' H' := ⟨fun _ _ h => e.at h, fun _ _ h n => e.at2 h n⟩
theorem Tr.trans {cm1 : Wd} {H1 : Hp} (a : Tr cm H cm' H') (b : Tr cm' H' cm1 H1) : Tr cm H cm1 H1 := ⟨fun n x h => b.ce n x (a.ce n x h), fun x o h n => b.fr x o (a.fr x o h n).1 (a.fr x o h n).2⟩
theorem Tr.refl : Tr cm H cm H := ⟨fun _ _ h => h, fun _ _ h n => ⟨h, n⟩⟩
theorem Tr.fzT (e : Tr cm H cm' H') {a : Addr} {xs : List V} (h : FzT K cm H a xs) : FzT K cm' H' a xs := h.imp (fun h => e.rd h.1 h.2) id
theorem Tr.fzS (e : Tr cm H cm' H') {a : Addr} {xs : List V} (h : FzS K cm H a xs) : FzS K cm' H' a xs := h.imp (fun ⟨⟨o, h⟩, n⟩ => ⟨⟨o, (e.fr _ _ h n).1⟩, (e.fr _ _ h n).2⟩) id
theorem Tr.fzL (e : Tr cm H cm' H') {a : Addr} {xs : List V} (h : FzL cm H a xs) : FzL cm' H' a xs := e.fr _ _ h.1 h.2
theorem RelC.tr (e : Tr cm H cm' H') (h : RelC K mg cm ls σ H) : RelC K mg cm' ls σ H' := ⟨h.len, fun i v q => by
  obtain ⟨x, h1, h2⟩ := h.at' i v q
  exact ⟨x, h1, h2.tr e⟩⟩
end
open Classical in
abbrev Src := List IV × Option Nat
abbrev MI := Loc → M Src
def srcOk : Option Nat → List IV → Sto → Prop
  | none, _, _ => True
  | some n, l, st => st[n]? = some (.lst l)
structure Walks (K : PySem.W.Frag) (mg : Str → Option Value) (J : It) (p : Src) (cm : Wd) (H : Hp) : Prop where
  stop : ∀ (i : Nat) (cm1 : Wd) (H1 : Hp) (st1 : Sto), Tr cm H cm1 H1 → RelS K mg cm1 st1 H1 → srcOk p.2 p.1 st1 → p.1.length ≤ i → J.stop i H1
  go : ∀ (i : Nat) (cm1 : Wd) (H1 : Hp) (st1 : Sto) (v : IV), Tr cm H cm1 H1 → RelS K mg cm1 st1 H1 → srcOk p.2 p.1 st1 → p.1[i]? = some v → J.go i H1 ∧ ∀ x H2, J.yld i H1 x H2 → Same H1 H2 ∧ Rep K mg cm1 H2 x v
def rdI (K : PySem.W.Frag) (mg : Str → Option Value) (W : WX) (m : MI) : TI := fun σ H R => Run K mg W σ H m fun cm' H' p => ∀ J, Walks K mg J p cm' H' → R J H'
abbrev PI' (X : Cx) (W : WX) (tg e : Expr) (m : MI) : Prop := PI X tg e (rdI X.K X.mg W m)
theorem PI_imp {X : Cx} {tg e : Expr} {t t' : TI} (h : PI X tg e t) (i : ∀ σ H R, t' σ H R → t σ H R) : PI X tg e t' := ⟨fun pins s σ H R I q => h.run pins s σ H R I (i σ H R q)⟩
section
variable {K : PySem.W.Frag} {mg : Str → Option Value} {σ : L2.St} {H : Hp} {W : WX} {cm : Wd} {st : Sto} {x : V} {a : IV} {l : List IV}
theorem rdI1 {fa : ME} {k : IV → M Src} {R : It → Hp → Prop} (h : rdI K mg W (fun ls => M.bind (fa ls) k) σ H R) :
    rdE K mg W fa σ H fun x H1 => ∃ cm st a p st', RelS K mg cm st H1 ∧ Rep K mg cm H1 x a ∧ k a st = some (p, st') ∧ Out K mg W σ cm H1 (fun cm' H' p => ∀ J, Walks K mg J p cm' H' → R J H') p st' := by
  obtain ⟨cm, ls, st, R, r, st', e, o⟩ := Run.part h
  refine ⟨cm, ls, st, r, st', R, e, ?_⟩
  cases r with
  | val a =>
    intro cm' H' x s
    obtain ⟨r2, st2, e2, o2⟩ := o cm' H' x s
    exact fun y hy => ⟨cm', st', a, r2, st2, s, hy, e2, o2⟩
  | exc c f v => exact o
def srcM (v : IV) : M Src := fun st => match v with
  | .tup l => some (.val (l, none), st)
  | .lst l => some (.val (l, none), st)
  | .scr l => some (.val (l, none), st)
  | .cell n => (match st[n]? with
    | some (.lst l) => some (.val (l, some n), st)
    | _ => none)
  | _ => none
theorem walks_T {p : Addr} {xs : List V} (h : FzT K cm H p xs) (r : RepL K mg cm H xs l) : Walks K mg (Itt K p) (l, none) cm H where
  stop := fun i cm1 H1 st1 e s _ hi => ⟨xs, (e.fzT h).sq, by rw [r.length]; exact hi⟩
  go := fun i cm1 H1 st1 v e s _ hi => by
    obtain ⟨x, h1, h2⟩ := r.get hi
    refine ⟨⟨xs, x, (e.fzT h).sq, h1⟩, fun y H2 hy => ?_⟩
    obtain ⟨rfl, hy⟩ := hy
    have q := hy xs (e.fzT h).sq
    rw [h1] at q; cases q
    exact ⟨Same.refl _, h2.tr e⟩
theorem walks_L {p : Addr} {xs : List V} (h : ∀ cm1 H1, Tr cm H cm1 H1 → SqL K H1 p xs) (r : RepL K mg cm H xs l) : Walks K mg (Itl K p) (l, none) cm H where
  stop := fun i cm1 H1 st1 e s _ hi => ⟨xs, h cm1 H1 e, by rw [r.length]; exact hi⟩
  go := fun i cm1 H1 st1 v e s _ hi => by
    obtain ⟨x, h1, h2⟩ := r.get hi
    refine ⟨⟨xs, x, h cm1 H1 e, h1⟩, fun y H2 hy => ?_⟩
    obtain ⟨rfl, hy⟩ := hy
    have q := hy xs (h cm1 _ e)
    rw [h1] at q; cases q
    exact ⟨Same.refl _, h2.tr e⟩
theorem walks_C {p : Addr} {n : Nat} (h : cm.cm[n]? = some p) : Walks K mg (Itl K p) (l, some n) cm H where
  stop := fun i cm1 H1 st1 e s q hi => by
    obtain ⟨xs, h1, h2, _⟩ := s.at' n p _ (e.ce _ _ h) q
    exact ⟨xs, SqL.of h1, by rw [h2.length]; exact hi⟩
  go := fun i cm1 H1 st1 v e s q hi => by
    obtain ⟨xs, h1, h2, _⟩ := s.at' n p _ (e.ce _ _ h) q
    obtain ⟨x, h3, h4⟩ := h2.get hi
    refine ⟨⟨xs, x, SqL.of h1, h3⟩, fun y H2 hy => ?_⟩
    obtain ⟨rfl, hy⟩ := hy
    have q := hy xs (SqL.of h1)
    rw [h3] at q; cases q
    exact ⟨Same.refl _, h4⟩
end
def iSeq (K : PySem.W.Frag) (tl : TE) : TI := fun σ H R => tl σ H fun x H1 => ∃ a, x = .ref a ∧ (((∃ xs, SqL K H1 a xs) ∧ R (Itl K a) H1) ∨ ((∃ xs, SqT K H1 a xs) ∧ R (Itt K a) H1))
theorem pi_seq {X : Cx} {tg l : Expr} {tl : TE} (hl : PE X l tl) : PI X tg l (iSeq X.K tl) := by
  refine ⟨fun pins s σ H R I h => ?_⟩
  refine thn (hl.run pins s σ H _ I h) fun v s1 ⟨x, H1, I1, r1, q1⟩ => ?_
  obtain ⟨a, e, ⟨⟨xs, hq⟩, q⟩ | ⟨⟨xs, hq⟩, q⟩⟩ := q1
  · subst e
    cases r1
    obtain ⟨its, rv, p, hz⟩ := I1.list hq
    refine wpAny_pyIter_list p.isList ?_
    refine ⟨s1.heap.objs.size, [s1.heap.objs.size], _, _, H1, rfl, I1.kept (t' := s1.toks) fun b o e => Heap.get?_push_of_some _ e, turn_list a _, ⟨_, Heap.get?_push_size _ rfl, rfl, rfl⟩, fun b hb => ?_, q⟩
    have e : b = s1.heap.objs.size := by simpa using hb
    subst e
    exact I1.fpOk (Nat.le_refl _) (I1.hok.fresh (Nat.le_refl _))
  · subst e
    cases r1
    obtain ⟨its, rv, p, hz⟩ := I1.tuple hq
    refine wpAny_pyIter_tuple (show s1.heap.IsTuple a its.toArray from p) ?_
    refine ⟨s1.heap.objs.size, [s1.heap.objs.size], _, _, H1, rfl, I1.kept (t' := s1.toks) fun b o e => Heap.get?_push_of_some _ e, turn_tuple a _, ⟨_, Heap.get?_push_size _ rfl, rfl, rfl⟩, fun b hb => ?_, q⟩
    have e : b = s1.heap.objs.size := by simpa using hb
    subst e
    exact I1.fpOk (Nat.le_refl _) (I1.hok.fresh (Nat.le_refl _))
def mSrc (m : ME) : MI := fun ls => M.bind (m ls) srcM
def rangeI (lo : Int) (n : Nat) : List IV := (List.range n).map fun (i : Nat) => IV.int (lo + (i : Int))
def rng1M (l : List IV) : M Src := fun st => match l with
  | [.int j] => if -(2 ^ 62) ≤ j ∧ j < 2 ^ 62 then some (.val (rangeI 0 j.toNat, none), st) else none
  | _ => none
def rng2M (l : List IV) : M Src := fun st => match l with
  | [.int i, .int j] => if -(2 ^ 62) ≤ i ∧ i < 2 ^ 62 ∧ -(2 ^ 62) ≤ j ∧ j < 2 ^ 62 then some (.val (rangeI i (j - i).toNat, none), st) else none
  | _ => none
def mRng1 (g : MA) : MI := fun ls => M.bind (g ls) rng1M
def mRng2 (g : MA) : MI := fun ls => M.bind (g ls) rng2M
theorem rangeI_get {lo : Int} {n i : Nat} {v : IV} (h : (rangeI lo n)[i]? = some v) : i < n ∧ v = .int (lo + i) := by
  unfold rangeI at h
  rw [List.getElem?_map] at h
  cases q : (List.range n)[i]? with
  | none => rw [q] at h; cases h
  | some j =>
    rw [q] at h
    obtain ⟨h1, h2⟩ := List.getElem?_eq_some_iff.mp q
    simp at h1 h2
    subst h2
    cases h
    exact ⟨h1, rfl⟩
theorem walks_R {K : PySem.W.Frag} {mg : Str → Option Value} {cm : Wd} {H : Hp} (lo : Int) (n : Nat) : Walks K mg (Itr lo n) (rangeI lo n, none) cm H where
  stop := fun i cm1 H1 st1 e s _ hi => by
    have : (rangeI lo n).length = n := by unfold rangeI; simp
    rw [this] at hi
    exact hi
  go := fun i cm1 H1 st1 v e s _ hi => by
    obtain ⟨h1, rfl⟩ := rangeI_get hi
    refine ⟨h1, fun y H2 hy => ?_⟩
    obtain ⟨rfl, rfl⟩ := hy
    exact ⟨Same.refl _, .int _⟩
section
variable {X : Cx} {W : WX} {tg a b e : Expr} {fa : ME} {g : MA} {p pos : Pos}
theorem i_seq (h : PE' X W e fa) : PI' X W tg e (mSrc fa) := PI_imp (pi_seq h) fun σ H R h => rdE_mono (rdI1 h) fun x H1 h1 => by
  obtain ⟨cm, st, v, r, st', s, hx, e, o⟩ := h1
  cases v with
  | tup l =>
    cases e
    cases hx with
    | tup h1 h2 => exact ⟨_, rfl, .inr ⟨⟨_, h1.sq⟩, o cm H1 (Ext.refl _ _) s _ (walks_T h1 h2)⟩⟩
  | lst l =>
    cases e
    cases hx with
    | lst h1 h2 => exact ⟨_, rfl, .inl ⟨⟨_, h1.sq⟩, o cm H1 (Ext.refl _ _) s _ (walks_L (fun cm1 H1 e => (e.fzL h1).sq) h2)⟩⟩
  | scr l =>
    cases e
    cases hx with
    | scr h1 h2 => exact ⟨_, rfl, .inl ⟨⟨_, h1.sq⟩, o cm H1 (Ext.refl _ _) s _ (walks_L (fun cm1 H1 e => (e.fzS h1).sq) h2)⟩⟩
  | cell n =>
    simp only [srcM] at e
    split at e
    · rename_i l q
      cases e
      cases hx with
      | @cell p _ h =>
        obtain ⟨xs, h1, h2, _⟩ := s.at' n p _ h q
        exact ⟨_, rfl, .inl ⟨⟨_, SqL.of h1⟩, o cm H1 (Ext.refl _ _) s _ (walks_C h)⟩⟩
    · cases e
  | _ => cases e
theorem rdIA {K : PySem.W.Frag} {mg : Str → Option Value} {σ : L2.St} {H : Hp} {k : List IV → M Src} {R : It → Hp → Prop} (h : rdI K mg W (fun ls => M.bind (g ls) k) σ H R) :
    rdA K mg W g σ H fun xs H1 => ∃ cm st l p st', RelS K mg cm st H1 ∧ RepL K mg cm H1 xs l ∧ k l st = some (p, st') ∧ Out K mg W σ cm H1 (fun cm' H' p => ∀ J, Walks K mg J p cm' H' → R J H') p st' := rdA1 h
theorem i_rng1 (hg : Gl X "range") (hm : X.mg "range" = none) (ha : PA' X W [a] g) (hs : starEach [a] X.env = [(false, eval a X.env)] := by rfl) : PI' X W tg (.Call (.Name "range" p) [a] [] pos) (mRng1 g) := PI_imp (pi_range1 hg hm ha hs) fun σ H R h => rdA_mono (rdIA h) fun xs H1 h1 => by
  obtain ⟨cm, st, l, r, st', s, hx, e, o⟩ := h1
  unfold rng1M at e
  split at e
  · split at e
    · rename_i j hj
      cases e
      obtain ⟨y, rfl, hy⟩ := rep1 hx
      cases hy
      exact ⟨j, rfl, hj.1, hj.2, o cm H1 (Ext.refl _ _) s _ (walks_R 0 j.toNat)⟩
    · cases e
  · cases e
theorem i_rng2 (hg : Gl X "range") (hm : X.mg "range" = none) (ha : PA' X W [a, b] g) (hs : starEach [a, b] X.env = [(false, eval a X.env), (false, eval b X.env)] := by rfl) (hs2 : starEach [b] X.env = [(false, eval b X.env)] := by rfl) : PI' X W tg (.Call (.Name "range" p) [a, b] [] pos) (mRng2 g) := PI_imp (pi_range2 hg hm ha hs hs2) fun σ H R h => rdA_mono (rdIA h) fun xs H1 h1 => by
  obtain ⟨cm, st, l, r, st', s, hx, e, o⟩ := h1
  unfold rng2M at e
  split at e
  · split at e
    · rename_i i j hj
      cases e
      obtain ⟨y, z, rfl, hy, hz⟩ := rep2 hx
      cases hy
      cases hz
      exact ⟨i, j, rfl, hj, o cm H1 (Ext.refl _ _) s _ (walks_R i (j - i).toNat)⟩
    · cases e
  · cases e
end
open Classical in
noncomputable def forL (t : MG) (body : MS) (l0 : List IV) (k : Option Nat) : List IV → Loc → M Fl
  | [], ls => fun st => if srcOk k l0 st then some (.val (.nx ls), st) else none
  | v :: vs, ls => fun st => if srcOk k l0 st then (match t ls v with
    | some ls1 => M.bind (body ls1) (fun fl => match fl with
      | .nx ls2 => forL t body l0 k vs ls2
      | .ct ls2 => forL t body l0 k vs ls2
      | .bk ls2 => M.ret (.nx ls2)
      | fl => M.ret fl) st
    | none => none) else none
noncomputable def mFor (src : MI) (t : MG) (body : MS) : MS := liftS src fun p ls => forL t body p.1 p.2 p.1 ls
section
variable {X : Cx} {W : WX} {tg iter : Expr} {src : MI} {t : MG} {body : MS} {sb : List Stmt} {pos : Pos}
theorem rd_for {K : PySem.W.Frag} {mg : Str → Option Value} {σ : L2.St} {H : Hp} {D : Ends} (h : rdS K mg W (mFor src t body) D σ H) : tFor (rdI K mg W src) (rdG K mg t) (rdS K mg W body) D σ H := by
  obtain ⟨cm, ls, st, r, st', R, e, o⟩ := rd_lift h
  refine ⟨cm, ls, st, r, st', R, e, ?_⟩
  cases r with
  | exc c f v => exact o
  | val p =>
    intro cm1 H1 x1 s1 J wk
    obtain ⟨fl, st2, e2, o2⟩ := o cm1 H1 x1 s1
    refine ⟨fun i m σ' H' => m = p.1.length - i ∧ i ≤ p.1.length ∧ ∃ cm2 ls2 st2 fl st3, Ext cm1 H1 cm2 H' ∧ Rel K mg cm2 ls2 st2 σ' H' ∧ forL t body p.1 p.2 (p.1.drop i) ls2 st2 = some (.val fl, st3) ∧ OutS K mg W D cm2 H' fl st3,
      ⟨p.1.length, by simp, Nat.zero_le _, cm1, ls, st', fl, st2, Ext.refl _ _, R.ext x1 s1, by simpa using e2, o2⟩, ?_⟩
    rintro i m σ2 H2 ⟨rfl, hi, cm2, ls2, st2, fl, st3, x2, R2, e2, o2⟩
    by_cases hlt : i < p.1.length
    · have hd : p.1.drop i = p.1[i] :: p.1.drop (i + 1) := List.drop_eq_getElem_cons hlt
      rw [hd] at e2
      simp only [forL] at e2
      split at e2
      · rename_i hok
        cases q : t ls2 p.1[i] with
        | none => rw [q] at e2; cases e2
        | some ls3 =>
          rw [q] at e2
          obtain ⟨g1, g2⟩ := wk.go i cm2 H2 st2 p.1[i] x2.tr R2.sto hok (by simp [hlt])
          refine .inr ⟨g1, fun σ' H' => i + 1 ≤ p.1.length ∧ ∃ cm2 ls2 st2 fl st3, Ext cm1 H1 cm2 H' ∧ Rel K mg cm2 ls2 st2 σ' H' ∧ forL t body p.1 p.2 (p.1.drop (i + 1)) ls2 st2 = some (.val fl, st3) ∧ OutS K mg W D cm2 H' fl st3,
            fun σ' H' h => ⟨p.1.length - (i + 1), by omega, rfl, h.1, h.2⟩, fun x H3 hy => ?_⟩
          obtain ⟨g3, g4⟩ := g2 x H3 hy
          have E3 : Ext cm2 H2 cm2 H3 := Ext.same g3
          have S3 := R2.sto.same g3
          refine ⟨cm2, ls2, p.1[i], ls3, (R2.ext E3 S3).loc, g4, q, fun σ4 R4 => ?_⟩
          rcases M.bind_inv e2 with ⟨fl1, st4, e4, e5⟩ | ⟨c, f, v, e4, q4⟩
          · refine ⟨cm2, ls3, st2, fl1, st4, ⟨S3, R4⟩, e4, fun cm5 H5 x5 s5 => ?_⟩
            have E5 : Ext cm1 H1 cm5 H5 := (x2.trans E3).trans x5
            have O5 : OutS K mg W D cm5 H5 fl st3 := fun cm6 H6 x6 s6 => o2 cm6 H6 ((E3.trans x5).trans x6) s6
            cases fl1 with
            | nx ls5 => exact fun σ5 R5 => ⟨hlt, cm5, ls5, st4, fl, st3, E5, ⟨s5, R5⟩, e5, O5⟩
            | ct ls5 => exact fun σ5 R5 => ⟨hlt, cm5, ls5, st4, fl, st3, E5, ⟨s5, R5⟩, e5, O5⟩
            | bk ls5 => cases e5; exact fun σ5 R5 => O5 cm5 H5 (Ext.refl _ _) s5 σ5 R5
            | rt v => cases e5; exact fun x hx => O5 cm5 H5 (Ext.refl _ _) s5 x hx
            | ex ls5 c f v => cases e5; exact fun σ5 R5 => O5 cm5 H5 (Ext.refl _ _) s5 σ5 R5
          · cases q4
      · cases e2
    · have hd : p.1.drop i = [] := List.drop_eq_nil_of_le (by omega)
      rw [hd] at e2
      simp only [forL] at e2
      split at e2
      · rename_i hok
        cases e2
        exact .inl ⟨wk.stop i cm2 H2 st2 x2.tr R2.sto hok (by omega), o2 cm2 H2 (Ext.refl _ _) R2.sto σ2 R2.loc⟩
      · cases e2
theorem s_for (hp : PassesOwn (model X.prog X.w) X.A X.env X.xe) (hc : X.calm = true) (hi : PI' X W tg iter src) (hg : PG' X tg t) (hb : PSs' X W sb body)
    (hs : ∀ x, foldedSetIterable iter X.env x = pure x := by intro _; rfl) : PS' X W (.For tg iter sb [] pos) (mFor src t body) := PS_imp (ps_for hp hc hi hg hb hs) fun D σ H h => rd_for h
end
end MK
namespace MK
open PySem PySem.Spec PyProof.Rows L2
section
variable {K : PySem.W.Frag} {mg : Str → Option Value} {σ : L2.St} {H H1 : Hp} {W : WX} {cm cm1 : Wd} {st st1 st' : Sto} {Q : VK} {c : Bool} {l : List IV} {xs : List V} {r : OX IV} {D : Addr}
structure Making (K : PySem.W.Frag) (mg : Str → Option Value) (cm : Wd) (H : Hp) (cm1 : Wd) (H1 : Hp) (st1 : Sto) (D : Addr) (xs : List V) (l : List IV) : Prop where
  ext : Ext cm H cm1 H1
  sto : RelS K mg cm1 st1 H1
  av : D ∈ cm1.av
  nc : D ∉ cm1.cm
  at' : H1 D = some (.lst xs)
  rep : RepL K mg cm1 H1 xs l
theorem Making.mk0 (s : RelS K mg cm st H) (n : H D = none) : Making K mg cm H (cm.avoid D) (upd H D (.lst [])) st D [] [] where
  ext := Ext.avoid n
  sto := by
    have E : Ext cm H (cm.avoid D) (upd H D (.lst [])) := Ext.avoid n
    refine ⟨s.len, s.nd, fun i a c h1 h2 => ?_, fun a m => ?_⟩
    · exact (s.at' i a c h1 h2).ext E (upd_ne fun z => s.notCell n (z ▸ List.mem_of_getElem? h1))
    · rcases List.mem_cons.mp m with m | m
      · subst m; exact ⟨_, upd_same⟩
      · obtain ⟨o, q⟩ := s.avs a m
        have ne : a ≠ D := fun z => s.notAv n (z ▸ m)
        exact ⟨o, by rw [upd_ne ne]; exact q⟩
  av := List.mem_cons_self
  nc := s.notCell n
  at' := upd_same
  rep := .nil
theorem Making.step (m : Making K mg cm H cm1 H1 st1 D xs l) (n : H D = none) {cm2 : Wd} {H2 : Hp} {st2 : Sto} (E : Ext cm1 H1 cm2 H2) (s : RelS K mg cm2 st2 H2) : Making K mg cm H cm2 H2 st2 D xs l where
  ext := m.ext.trans E
  sto := s
  av := E.keep D m.av
  nc := E.new D _ m.at' m.nc
  at' := E.fr D _ m.at' m.nc
  rep := m.rep.ext E
theorem Making.add (m : Making K mg cm H cm1 H1 st1 D xs l) (n : H D = none) {y : V} {v : IV} (hy : Rep K mg cm1 H1 y v) : Making K mg cm H cm1 (upd H1 D (.lst (xs ++ [y]))) st1 D (xs ++ [y]) (l ++ [v]) := by
  have T : Tr cm1 H1 cm1 (upd H1 D (.lst (xs ++ [y]))) := ⟨fun _ _ h => h, fun a o h na => ⟨(upd_ne (fun z : a = D => na (z ▸ m.av))).trans h, na⟩⟩
  refine ⟨⟨m.ext.pre, fun a o h na => ?_, m.ext.av, m.ext.new, m.ext.keep⟩, ⟨m.sto.len, m.sto.nd, fun i a c h1 h2 => ?_, fun a h => ?_⟩, m.av, m.nc, upd_same, (m.rep.tr T).app (.cons (hy.tr T) .nil)⟩
  · rw [upd_ne (ne_of_none h n)]; exact m.ext.fr a o h na
  · exact (m.sto.at' i a c h1 h2).tr T (upd_ne fun z => m.nc (z ▸ List.mem_of_getElem? h1))
  · by_cases z : a = D
    · subst z; exact ⟨_, upd_same⟩
    · obtain ⟨o, q⟩ := m.sto.avs a h
      exact ⟨o, by rw [upd_ne z]; exact q⟩
theorem Making.done (m : Making K mg cm H cm1 H1 st1 D xs l) (s0 : RelS K mg cm st H) (n : H D = none) (e : newL c l st1 = some (r, st')) (o : Out K mg W σ cm H (GE K mg Q) r st') : Q (.ref D) H1 := by
  cases c with
  | false =>
    cases e
    have sb0 : ∀ a, a ∈ cm1.cm → a ∈ cm1.av.filter (fun a => decide (a ≠ D)) := fun a h => List.mem_filter.mpr ⟨cm1.sub a h, by
      have : a ≠ D := fun z => m.nc (z ▸ h)
      simpa using this⟩
    have T : Tr cm1 H1 ⟨cm1.cm, cm1.av.filter (fun a => decide (a ≠ D)), sb0⟩ H1 := ⟨fun _ _ h => h, fun a o h na => ⟨h, fun z => na (List.mem_filter.mp z).1⟩⟩
    refine o ⟨cm1.cm, cm1.av.filter (fun a => decide (a ≠ D)), sb0⟩ H1
      ⟨m.ext.pre, m.ext.fr, fun a o h na z => m.ext.av a o h na (List.mem_filter.mp z).1, m.ext.new, fun a h => List.mem_filter.mpr ⟨m.ext.keep a h, ?_⟩⟩ ⟨m.sto.len, m.sto.nd, fun i a c h1 h2 => (m.sto.at' i a c h1 h2).tr T rfl, fun a h => m.sto.avs a (List.mem_filter.mp h).1⟩ _ (.lst ⟨m.at', ?_⟩ (m.rep.tr T))
    · have : a ≠ D := fun z => s0.notAv n (z ▸ h)
      simpa using this
    · intro z
      have := (List.mem_filter.mp z).2
      simp at this
  | true =>
    simp only [newL] at e
    split at e
    · rename_i q
      cases e
      have sb : ∀ a, a ∈ cm1.cm ++ [D] → a ∈ cm1.av := fun a h => by
        rcases List.mem_append.mp h with h | h
        · exact cm1.sub a h
        · simp at h; subst h; exact m.av
      have T : Tr cm1 H1 ⟨cm1.cm ++ [D], cm1.av, sb⟩ H1 := ⟨fun i a h => by
        show (cm1.cm ++ [D])[i]? = some a
        rw [List.getElem?_append_left (List.getElem?_eq_some_iff.mp h).1]; exact h, fun a o h na => ⟨h, na⟩⟩
      refine o ⟨cm1.cm ++ [D], cm1.av, sb⟩ H1 ⟨?_, m.ext.fr, m.ext.av, fun a o h na z => ?_, m.ext.keep⟩ ⟨by simp [m.sto.len], ?_, fun i a c h1 h2 => ?_, m.sto.avs⟩ _ (.cell ?_)
      · obtain ⟨l', q'⟩ := m.ext.pre
        exact ⟨l' ++ [D], by rw [← List.append_assoc, ← q']⟩
      · rcases List.mem_append.mp z with z | z
        · exact m.ext.new a o h na z
        · simp at z; subst z; rw [n] at h; cases h
      · show (cm1.cm ++ [D]).Nodup
        rw [List.nodup_append]
        exact ⟨m.sto.nd, by simp, fun a ha b hb => by simp at hb; subst hb; exact fun z => m.nc (z ▸ ha)⟩
      · have h1' : (cm1.cm ++ [D])[i]? = some a := h1
        by_cases hi : i < cm1.cm.length
        · rw [List.getElem?_append_left hi] at h1'
          rw [List.getElem?_append_left (by rw [← m.sto.len]; exact hi)] at h2
          exact (m.sto.at' i a c h1' h2).tr T rfl
        · have hi' : i = cm1.cm.length := by
            have := (List.getElem?_eq_some_iff.mp h1').1
            simp at this
            omega
          subst hi'
          rw [List.getElem?_append_right (Nat.le_refl _)] at h1'
          rw [m.sto.len, List.getElem?_append_right (Nat.le_refl _)] at h2
          simp at h1' h2
          subst h1' h2
          exact ⟨xs, m.at', m.rep.tr T, q⟩
      · show (cm1.cm ++ [D])[st1.length]? = some D
        rw [← m.sto.len, List.getElem?_append_right (Nat.le_refl _)]
        simp
    · cases e
end
abbrev W0 : WX := fun _ _ _ _ => False
def M.nox {α : Type} (m : M α) : M α := fun st => match m st with
  | some (.val a, st') => some (.val a, st')
  | _ => none
theorem M.nox_inv {α : Type} {m : M α} {st st' : Sto} {r : OX α} (h : M.nox m st = some (r, st')) : ∃ a, r = .val a ∧ m st = some (.val a, st') := by
  unfold M.nox at h
  split at h
  · cases h; exact ⟨_, rfl, by assumption⟩
  · cases h
theorem M.nox_run {α : Type} {m : M α} {st st' : Sto} {a : α} (h : m st = some (.val a, st')) : M.nox m st = some (.val a, st') := by unfold M.nox; rw [h]
def wipeI (ls : Loc) : List Nat → Loc
  | [] => ls
  | v :: vs => (wipeI ls vs).set v none
open Classical in
noncomputable def compL (t : MG) (c : MT) (e : ME) (l0 : List IV) (k : Option Nat) (ls : Loc) : List IV → M (List IV)
  | [] => fun st => if srcOk k l0 st then some (.val [], st) else none
  | v :: vs => fun st => if srcOk k l0 st then (match t ls v with
    | some ls1 => M.bind (M.nox (c ls1)) (fun b => if b = true then M.bind (M.nox (e ls1)) fun y => M.bind (compL t c e l0 k ls vs) fun ys => M.ret (y :: ys) else compL t c e l0 k ls vs) st
    | none => none) else none
noncomputable def mLc (cell : Bool) (src : MI) (vs : List Nat) (t : MG) (c : MT) (e : ME) : ME := fun ls => M.bind (src ls) fun p => M.bind (M.nox (compL t c e p.1 p.2 (wipeI ls vs) p.1)) fun l => if l.length ≤ 16777215 then newL cell l else M.stuck
def CT (K : PySem.W.Frag) (mg : Str → Option Value) (vs : List Nat) (t : MG) (g : TG) : Prop :=
  ∀ (x : V) (σ : L2.St) (H : Hp) (Q : L2.St → Hp → Prop) (cm : Wd) (ls : Loc) (v : IV) (ls' : Loc), RelC K mg cm ls σ H → Rep K mg cm H x v → t ls v = some ls' →
    (∀ σ', RelC K mg cm ls' σ' H → σ'.length = σ.length → (∀ j, j ∉ vs → σ'[j]? = σ[j]?) → Q σ' H) → g x σ H Q
theorem ct_name {K : PySem.W.Frag} {mg : Str → Option Value} (i : Nat) : CT K mg [i] (gSet i) (gName i) := by
  intro x σ H Q cm ls v ls' R hx e k
  cases e
  exact k _ (R.set i hx) (by simp) fun j hj => by rw [List.getElem?_set_ne (fun z => hj (by simp [z]))]
theorem wipe_in {σ : L2.St} {i : Nat} : ∀ {vs : List Nat}, i ∈ vs → i < σ.length → (wipe σ vs)[i]? = some none
  | [], h, _ => by cases h
  | v :: vs, h, hl => by
    unfold wipe
    by_cases e : v = i
    · subst e
      rw [List.getElem?_set_self (by rw [wipe_length]; exact hl)]
    · rw [List.getElem?_set_ne e]
      exact wipe_in ((List.mem_cons.mp h).resolve_left fun z => e z.symm) hl
theorem wipe_eq {σ σ' : L2.St} {vs : List Nat} (hl : σ'.length = σ.length) (h : ∀ j, j ∉ vs → σ'[j]? = σ[j]?) : wipe σ' vs = wipe σ vs := by
  apply List.ext_getElem?
  intro i
  by_cases hi : i ∈ vs
  · by_cases hl2 : i < σ.length
    · rw [wipe_in hi hl2, wipe_in hi (by rw [hl]; exact hl2)]
    · rw [List.getElem?_eq_none (by rw [wipe_length]; omega), List.getElem?_eq_none (by rw [wipe_length]; omega)]
  · rw [wipe_out hi, wipe_out hi, h i hi]
theorem wipe_wipe {σ : L2.St} {vs : List Nat} : wipe (wipe σ vs) vs = wipe σ vs := wipe_eq (wipe_length σ vs) fun j hj => wipe_out hj
theorem wipeI_length (ls : Loc) : ∀ vs : List Nat, (wipeI ls vs).length = ls.length
  | [] => rfl
  | v :: vs => by unfold wipeI; rw [List.length_set, wipeI_length ls vs]
theorem wipeI_some {ls : Loc} {i : Nat} {x : IV} : ∀ {vs : List Nat}, (wipeI ls vs)[i]? = some (some x) → ls[i]? = some (some x) ∧ i ∉ vs
  | [], h => ⟨h, by simp⟩
  | v :: vs, h => by
    unfold wipeI at h
    by_cases hi : v = i
    · subst hi
      by_cases hv : v < (wipeI ls vs).length
      · rw [List.getElem?_set_self hv] at h; cases h
      · rw [List.getElem?_eq_none (by simpa using hv)] at h; cases h
    · rw [List.getElem?_set_ne hi] at h
      obtain ⟨h1, h2⟩ := wipeI_some h
      exact ⟨h1, by simp only [List.mem_cons, not_or]; exact ⟨fun e => hi e.symm, h2⟩⟩
section
variable {K : PySem.W.Frag} {mg : Str → Option Value} {σ : L2.St} {H : Hp} {W : WX} {cm : Wd} {ls : Loc}
theorem RelC.wipe (h : RelC K mg cm ls σ H) (vs : List Nat) : RelC K mg cm (wipeI ls vs) (L2.wipe σ vs) H := ⟨by rw [wipeI_length, wipe_length]; exact h.len, fun i v e => by
  obtain ⟨h1, h2⟩ := wipeI_some e
  obtain ⟨x, h3, h4⟩ := h.at' i v h1
  exact ⟨x, by rw [wipe_out h2]; exact h3, h4⟩⟩
theorem rd_lc {cell : Bool} {src : MI} {vs : List Nat} {t : MG} {g : TG} {c : MT} {e : ME} {Q : VK} (ct : CT K mg vs t g) (h : rdE K mg W (mLc cell src vs t c e) σ H Q) : tLc (rdI K mg W src) g (rdT K mg W0 c) (rdE K mg W0 e) vs σ H Q := by
  obtain ⟨cm, ls, st, r, st', R, e0, o⟩ := h
  have zl := sizeLine_eq
  rcases M.bind_inv e0 with ⟨p, st1, e1, e2⟩ | ⟨c, f, v, e1, rfl⟩
  · refine ⟨cm, ls, st, _, st1, R, e1, fun cm1 H1 x1 s1 J wk D hD => ?_⟩
    rcases M.bind_inv e2 with ⟨l, st2, e3, e4⟩ | ⟨c, f, v, e3, rfl⟩
    · obtain ⟨l', q1, e3'⟩ := M.nox_inv e3
      cases q1
      split at e4
      · rename_i hlen
        have o1 : Out K mg W σ cm1 H1 (GE K mg Q) r st' := by
          cases r with
          | val a => exact fun cm2 H2 x2 s2 => o cm2 H2 (x1.trans x2) s2
          | exc c f v => exact fun cm2 H2 x2 s2 => o cm2 H2 (x1.trans x2) s2
        have R1 := (R.loc.ext x1).wipe vs
        refine ⟨fun i m H2 => m = p.1.length - i ∧ i ≤ p.1.length ∧ ∃ cm2 st3 xs accI rest, Making K mg cm1 H1 cm2 H2 st3 D xs accI ∧ compL t c e p.1 p.2 (wipeI ls vs) (p.1.drop i) st3 = some (.val rest, st2) ∧ accI ++ rest = l,
          ⟨p.1.length, by simp, Nat.zero_le _, cm1.avoid D, st1, [], [], l, Making.mk0 s1 hD, by simpa using e3', rfl⟩, ?_⟩
        rintro i m H2 ⟨rfl, hi, cm2, st3, xs, accI, rest, mk, e5, hl⟩
        by_cases hlt : i < p.1.length
        · have hd : p.1.drop i = p.1[i] :: p.1.drop (i + 1) := List.drop_eq_getElem_cons hlt
          rw [hd] at e5
          simp only [compL] at e5
          split at e5
          · rename_i hok
            cases q : t (wipeI ls vs) p.1[i] with
            | none => rw [q] at e5; cases e5
            | some ls3 =>
              rw [q] at e5
              obtain ⟨g1, g2⟩ := wk.go i cm2 H2 st3 p.1[i] mk.ext.tr mk.sto hok (by simp [hlt])
              refine .inr ⟨g1, fun H' => i + 1 ≤ p.1.length ∧ ∃ cm2 st3 xs accI rest, Making K mg cm1 H1 cm2 H' st3 D xs accI ∧ compL t c e p.1 p.2 (wipeI ls vs) (p.1.drop (i + 1)) st3 = some (.val rest, st2) ∧ accI ++ rest = l,
                fun H' h => ⟨p.1.length - (i + 1), by omega, rfl, h.1, h.2⟩, fun x H3 hy => ?_⟩
              obtain ⟨g3, g4⟩ := g2 x H3 hy
              have E3 : Ext cm2 H2 cm2 H3 := Ext.same g3
              have mk3 := mk.step hD E3 (mk.sto.same g3)
              refine ct x (wipe σ vs) H3 _ cm2 (wipeI ls vs) p.1[i] ls3 (R1.ext mk3.ext) g4 q fun σ4 R4 hl4 ha4 => ⟨?_, ?_⟩
              · rw [wipe_eq hl4 ha4, wipe_wipe]
              · rcases M.bind_inv e5 with ⟨b, st4, e6, e7⟩ | ⟨c', f, v, e6, q6⟩
                · obtain ⟨b', q7, e6'⟩ := M.nox_inv e6
                  cases q7
                  refine ⟨cm2, ls3, st3, _, st4, ⟨mk3.sto, R4⟩, e6', fun cm5 H5 x5 s5 => ?_⟩
                  have mk5 := mk3.step hD x5 s5
                  cases b with
                  | false => exact ⟨hlt, cm5, st4, xs, accI, rest, mk5, e7, hl⟩
                  | true =>
                    rcases M.bind_inv e7 with ⟨y, st6, e8, e9⟩ | ⟨c', f, v, e8, q8⟩
                    · obtain ⟨y', q9, e8'⟩ := M.nox_inv e8
                      cases q9
                      refine ⟨cm5, ls3, st4, _, st6, ⟨s5, R4.ext x5⟩, e8', fun cm6 H6 x6 s6 yv hy6 => ?_⟩
                      have mk6 := mk5.step hD x6 s6
                      rcases M.bind_inv e9 with ⟨ys, st7, e10, e11⟩ | ⟨c', f, v, e10, q10⟩
                      · cases e11
                        refine ⟨xs, mk6.at', ?_, hlt, cm6, st6, xs ++ [yv], accI ++ [y], ys, mk6.add hD hy6, e10, by rw [List.append_assoc]; exact hl⟩
                        have l1 := mk6.rep.length
                        have l2 := congrArg List.length hl
                        rw [List.length_append] at l2
                        omega
                      · cases q10
                    · cases q8
                · cases q6
          · cases e5
        · have hd : p.1.drop i = [] := List.drop_eq_nil_of_le (by omega)
          rw [hd] at e5
          simp only [compL] at e5
          split at e5
          · rename_i hok
            cases e5
            rw [List.append_nil] at hl
            subst hl
            exact .inl ⟨wk.stop i cm2 H2 st2 mk.ext.tr mk.sto hok (by omega), mk.done s1 hD e4 o1⟩
          · cases e5
      · cases e4
    · obtain ⟨_, q, _⟩ := M.nox_inv e3
      cases q
  · exact ⟨cm, ls, st, _, st', R, e1, o⟩
end
end MK
namespace MK
open PySem PySem.Spec PyProof.Rows L2
abbrev PTs' (X : Cx) (W : WX) (ifs : List Expr) (m : MT) : Prop := PTs X ifs (rdT X.K X.mg W m)
theorem PTs_imp {X : Cx} {ifs : List Expr} {t t' : TT} (h : PTs X ifs t) (i : ∀ σ H Q, t' σ H Q → t σ H Q) : PTs X ifs t' := ⟨fun pins s σ H Q I q => h.run pins s σ H Q I (i σ H Q q)⟩
section
variable {X : Cx} {W : WX} {tg iter elt e : Expr} {ifs : List Expr} {own : List (Str × Nat)} {scope : Scope} {pos spos : Pos} {src : MI} {t : MG} {g : TG} {c : MT} {m : ME} {tc : MT} {fa : ME}
theorem ts_nil : PTs' X W [] (mTB true) := PTs_imp pts_nil fun _ _ _ h => rd_tb h
theorem ts_one {a : Expr} (h : PT' X W a tc) : PTs' X W [a] tc := pts_one h
theorem e_lc (cell : Bool) (own : List (Str × Nat)) (ct : CT X.K X.mg (own.map (·.2)) t g) (hc : X.calm = true) (hN : X.N.Nodup) (hi : PI' X W tg iter src) (ok : BlkOk X.N X.env.scope scope own)
    (hg : ∀ (s : Shared) (H : Hp) (C : Addr) (cl : List (Str × Addr)) (fp : List Addr), PG (X.blk s H scope (compEnvC scope cl C X.env) fp) tg g)
    (ht : ∀ (s : Shared) (H : Hp) (C : Addr) (cl : List (Str × Addr)) (fp : List Addr), PTs' (X.blk s H scope (compEnvC scope cl C X.env) fp) W0 ifs c)
    (he : ∀ (s : Shared) (H : Hp) (C : Addr) (cl : List (Str × Addr)) (fp : List Addr), PE' (X.blk s H scope (compEnvC scope cl C X.env) fp) W0 elt m) (hs : ∀ x, foldedSetIterable iter X.env x = pure x := by intro _; rfl) :
    PE' X W (.ListComp elt [⟨tg, iter, ifs, 0⟩] scope pos) (mLc cell src (own.map (·.2)) t c m) :=
  PE_imp (pe_lc hc hN hi ok hg ht he hs) fun _ _ _ h => rd_lc ct h
theorem s_setLc (cell : Bool) (i : Nat) (own : List (Str × Nat)) {y : Str} {py : Pos} (ct : CT X.K X.mg (own.map (·.2)) t g) (hc : X.calm = true) (hN : X.N.Nodup) (hi : PI' X W tg iter src) (ok : BlkOk X.N X.env.scope scope own)
    (hg : ∀ (s : Shared) (H : Hp) (C : Addr) (cl : List (Str × Addr)) (fp : List Addr), PG (X.blk s H scope (compEnvC scope cl C X.env) fp) tg g)
    (ht : ∀ (s : Shared) (H : Hp) (C : Addr) (cl : List (Str × Addr)) (fp : List Addr), PTs' (X.blk s H scope (compEnvC scope cl C X.env) fp) W0 ifs c)
    (he : ∀ (s : Shared) (H : Hp) (C : Addr) (cl : List (Str × Addr)) (fp : List Addr), PE' (X.blk s H scope (compEnvC scope cl C X.env) fp) W0 elt m)
    (hy : X.N[i]? = some y := by rfl) (hyl : X.env.scope.names.lookup y = some .local := by rfl)
    (hsw : swapsWith (.ListComp elt [⟨tg, iter, ifs, 0⟩] scope pos) (some (.Name y py)) spos.line X.env = pure true := by exact sw_true rfl rfl rfl (by decide +kernel)) (hs : ∀ x, foldedSetIterable iter X.env x = pure x := by intro _; rfl) :
    PS' X W (.Assign [.Name y py] (.ListComp elt [⟨tg, iter, ifs, 0⟩] scope pos) spos) (mSet i (mLc cell src (own.map (·.2)) t c m)) :=
  PS_imp (ps_setLc hc hN hy hyl hsw hi ok hg ht he hs) fun D σ H h => rd_lc ct (rdE_mono (rd_liftE h) fun x H1 h1 => by
    obtain ⟨cm, ls, st, v, fl, st2, R, hx, e, o⟩ := h1
    cases e
    exact o cm H1 (Ext.refl _ _) R.sto _ (R.loc.set i hx))
end
section
variable {X : Cx} {CX : CXT} {k : Nat} {f C : Addr} {fd : FuncData} {ps : List Str} {sp : Sp} {E : L2.St → XK} {x : Str} {p pos : Pos} {e : Expr} {es : List Expr} {ta : TA}
def tMakeS (C : Addr) (sp : Sp) (E : L2.St → XK) (t : TA) : TE := fun σ H Q => t σ H fun vs H1 => ∀ x dx, H1 x = none → H1 dx = none → dx ≠ x →
  sp (.ref x :: vs) (upd (upd H1 dx (.own x)) x (.ins C dx [])) (fun v H2 => v = .non ∧ Q (.ref x) H2) (E σ)
theorem run_makeS {pins : List (Addr × Obj)} {σ : L2.St} {H : Hp} {s : Shared} {Q : VK} {us : List Value} {vs : List V} {E : XK} (M : Mk X.K C f) (F : FnOk X.prog X.w X.K X.mg X.base CX k f fd ps sp) (hr : Room (k + 1) X.A) (hb : Binds X.K fd ps [])
    (hx : PassesAt CX X σ E) (I : Inv X pins σ H s) (r : Vals vs us)
    (h : ∀ x dx, H x = none → H dx = none → dx ≠ x → sp (.ref x :: vs) (upd (upd H dx (.own x)) x (.ins C dx [])) (fun v H2 => v = .non ∧ Q (.ref x) H2) E) :
    wpAny (model X.prog X.w) X.A (call (.ref C) us) (EP X pins σ Q) X.xe s := by
  have hq := h (s.heap.objs.size + 1) s.heap.objs.size (I.hok.fresh (Nat.le_succ _)) (I.hok.fresh (Nat.le_refl _)) (Nat.ne_of_lt (Nat.lt_succ_self _))
  have I2 := Inv.made (C := C) I
  have r2 : Vals (V.ref (s.heap.objs.size + 1) :: vs) (Value.ref (s.heap.objs.size + 1) :: us) := .cons rfl r
  have hl : (Value.ref (s.heap.objs.size + 1) :: us).length = ps.length := by
    have e := r2.length
    rw [F.len _ _ _ _ hq] at e
    exact e.symm
  have b := hb _ (Value.ref (s.heap.objs.size + 1) :: us) I2.kIn (by rw [List.append_nil]; exact hl)
  rw [List.append_nil] at b
  refine wpAny_call (make_map (f := f) I.kIn M.makes M.init (beq_iff_eq.mp M.fn) (codeAny_mono (F.run _ X.stack _ _ ⟨Value.ref (s.heap.objs.size + 1) :: us, []⟩ (Value.ref (s.heap.objs.size + 1) :: us) _ _ E (hr.make C us [])
    (I2.env0.make C us []) b r2 hq) fun r s' hq' => ?_))
  cases r with
  | error e => exact hx pins _ _ e s' I2 hq'
  | ok fl =>
    cases fl with
    | ret u =>
      obtain ⟨v, H', I3, rv, ev, q3⟩ := I2.after hq'
      subst ev
      exact ⟨rv, ⟨V.ref (s.heap.objs.size + 1), H', I3, rfl, q3⟩⟩
    | next => exact False.elim hq'
    | brk => exact False.elim hq'
    | cont => exact False.elim hq'
theorem pe_makeS (M : Mk X.K C f) (F : FnOk X.prog X.w X.K X.mg X.base CX k f fd ps sp) (hr : Room (k + 1) X.A) (hg : Gl X x) (hm : X.mg x = some (.ref C)) (hb : Binds X.K fd ps []) (hx : ∀ σ, PassesAt CX X σ (E σ))
    (ha : PA X (e :: es) ta) (hdb : (x == ("__debug__" : Str)) = false := by decide) (he : starEach (e :: es) X.env = (false, eval e X.env) :: starEach es X.env := by rfl) (hpl : (backTo pos (starEach es X.env)).any (·.1) = false := by rfl) :
    PE X (.Call (.Name x p) (e :: es) [] pos) (tMakeS C sp E ta) := by
  refine ⟨fun pins s σ H Q I h => ?_⟩
  refine wpAny_Call_Name_kw (ld_glob I hg hm ?_ hdb)
  refine PySem.W.callWith_K (h₀ := X.base) I.ok.mod.kin M.kp (thn (ha.run pos pins s σ H _ I h) fun us s1 ⟨vs, H1, I1, r, q⟩ => ⟨I1.kIn, ?_⟩) he hpl
  exact run_makeS M F hr hb (hx σ) I1 r q
end
structure ClsOk (P : Program) (w : World) (K : PySem.W.Frag) (mg : Str → Option Value) (base : Heap) (k : Nat) (c : Str) (ps : List Str) (g : MF) : Prop where
  ex : ∃ C f fd, mg c = some (.ref C) ∧ Mk K C f ∧ Binds K fd ps [] ∧ FnOk P w K mg base (L2.CX P w) k f fd ps (spM K mg ps.length g)
theorem ClsOk.mono {P : Program} {w : World} {K : PySem.W.Frag} {mg : Str → Option Value} {base : Heap} {j k : Nat} {x : Str} {ps : List Str} {g : MF} (h : ClsOk P w K mg base j x ps g) (hk : j ≤ k) : ClsOk P w K mg base k x ps g := by
  obtain ⟨C, f, fd, h1, h2, h3, h4⟩ := h.ex
  exact ⟨⟨C, f, fd, h1, h2, h3, h4.mono hk⟩⟩
theorem ClsOk.imp {P : Program} {w : World} {K : PySem.W.Frag} {mg : Str → Option Value} {base : Heap} {k : Nat} {x : Str} {ps : List Str} {g g' : MF} (h : ClsOk P w K mg base k x ps g) (i : ∀ l st r, g' l st = some r → g l st = some r) : ClsOk P w K mg base k x ps g' := by
  obtain ⟨C, f, fd, h1, h2, h3, h4⟩ := h.ex
  exact ⟨⟨C, f, fd, h1, h2, h3, h4.imp (spM_imp i)⟩⟩
def makeM (cell : Bool) (c : Str) (n : Nat) (g : MF) (l : List IV) : M IV := fun st => if l.length + 1 = n then (match g (.cell st.length :: l) (st ++ [.ins c []]) with
  | some (.val .non, st') => if st'.length = st.length + 1 then (match cell with
    | true => some (.val (.cell st.length), st')
    | false => (match st'[st.length]? with
      | some (.ins c' fs) => some (.val (.obj c' fs), st'.take st.length)
      | _ => none)) else none
  | some (.exc c' f v, st') => if v.pure = true then some (.exc c' f v, st'.take st.length) else none
  | _ => none) else none
def mMake (cell : Bool) (c : Str) (n : Nat) (g : MF) (a : MA) : ME := fun ls => M.bind (a ls) (makeM cell c n g)
section
variable {X : Cx} {W : WX} {e : Expr} {es : List Expr} {ga : MA} {k : Nat} {c : Str} {ps : List Str} {g : MF} {p pos : Pos}
theorem e_make (cell : Bool) (F : ClsOk X.prog X.w X.K X.mg X.base k c ps g) (hr : Room (k + 1) X.A) (hg : Gl X c) (tk : Takes X W) (ha : PA' X W (e :: es) ga) (hdb : (c == ("__debug__" : Str)) = false := by decide)
    (he : starEach (e :: es) X.env = (false, eval e X.env) :: starEach es X.env := by rfl) (hpl : (backTo pos (starEach es X.env)).any (·.1) = false := by rfl) : PE' X W (.Call (.Name c p) (e :: es) [] pos) (mMake cell c ps.length g ga) := by
  obtain ⟨C, f, fd, h1, h2, h3, h4⟩ := F.ex
  refine PE_imp (pe_makeS h2 h4 hr hg h1 h3 (fun σ => passAt tk σ) ha hdb he hpl) fun σ H Q h => rdA_mono (rdA1 h) fun xs H1 hh => ?_
  obtain ⟨cm, st, l, r, st', s, hx, e, o⟩ := hh
  intro x dx nx ndx ne
  have nxd : (upd H1 dx (.own x)) x = none := by rw [upd_ne (Ne.symm ne)]; exact nx
  have E1 : Ext cm H1 cm (upd H1 dx (.own x)) := Ext.new' ndx
  have s1 := s.new (o := .own x) ndx
  have E2 : Ext cm (upd H1 dx (.own x)) (cm.push x) (upd (upd H1 dx (.own x)) x (.ins C dx [])) := Ext.push nxd
  have s2 : RelS X.K X.mg (cm.push x) (st ++ [.ins c []]) (upd (upd H1 dx (.own x)) x (.ins C dx [])) := s1.push nxd E2 (fun a m => upd_ne fun z => s1.notCell nxd (z ▸ m)) ⟨_, upd_same⟩ ⟨C, dx, [], h1, upd_same, .nil, rfl⟩
  have E12 := E1.trans E2
  unfold makeM at e
  split at e
  · rename_i hl
    have hcell : (cm.push x).cm[st.length]? = some x := by
      show (cm.cm ++ [x])[st.length]? = some x
      rw [← s.len, List.getElem?_append_right (Nat.le_refl _)]; simp
    cases q : g (.cell st.length :: l) (st ++ [.ins c []]) with
    | none => rw [q] at e; cases e
    | some pr =>
      obtain ⟨r1, st1⟩ := pr
      rw [q] at e
      refine ⟨by rw [List.length_cons, hx.length]; exact hl, cm.push x, _, _, r1, st1, s2, .cons (.cell hcell) (hx.ext E12), q, ?_⟩
      cases r1 with
      | exc c' f' v =>
        intro cm3 H3 x3 s3 C' d y hm hxf hd hav hy
        simp only at e
        split at e
        · cases e
          have E3 := E12.trans x3
          obtain ⟨s4, E4⟩ := relS_cut s E3 s3
          exact o cm H3 E4 s4 C' d y hm hxf hd (fun m => hav (E3.keep d m)) (hy.cut (cut_of E3) (by assumption))
        · cases e
      | val v =>
        intro cm3 H3 x3 s3 y hy
        cases v with
        | non =>
          cases hy
          refine ⟨rfl, ?_⟩
          have E3 := E12.trans x3
          simp only at e
          split at e
          · cases cell with
            | true =>
              cases e
              exact o cm3 H3 E3 s3 _ (.cell (x3.at hcell))
            | false =>
              simp only at e
              split at e
              · rename_i c' fs q2
                cases e
                obtain ⟨s4, E4⟩ := relS_cut s E3 s3
                have hc3 := x3.at hcell
                obtain ⟨C', dx', fs', q0, q1, q3, q4⟩ := s3.at' _ _ _ hc3 q2
                exact o cm H3 E4 s4 _ (.obj q0 q1 (s.notAv nx) (q3.cut (cut_of E3) q4))
              · cases e
          · cases e
        | _ => cases e
  · cases e
end
def putFM (c f : Str) (o v : IV) : M Unit := fun st => match o with
  | .cell n => (match st[n]? with
    | some (.ins c' fs) => if c' = c ∧ v.pure = true ∧ fs.length < 1000 then some (.val (), st.set n (.ins c (putI f v fs))) else none
    | _ => none)
  | _ => none
def mPutF (c f : Str) (o m : ME) : MS := liftS (fun ls => M.bind (m ls) fun v => M.bind (o ls) fun a => putFM c f a v) fun _ ls => M.ret (.nx ls)
theorem pureF_put : ∀ {fs : List (Str × IV)} {f : Str} {v : IV}, pureF fs = true → v.pure = true → pureF (putI f v fs) = true
  | [], f, v, _, h => by simp [putI, pureF, h]
  | (g, w) :: r, f, v, h, h' => by
    simp only [pureF, Bool.and_eq_true] at h
    unfold putI
    split
    · simp only [pureF, Bool.and_eq_true]; exact ⟨h', h.2⟩
    · simp only [pureF, Bool.and_eq_true]; exact ⟨h.1, pureF_put h.2 h'⟩
theorem RepF.put {K : PySem.W.Frag} {mg : Str → Option Value} {cm : Wd} {H : Hp} {x : V} {v : IV} {f : Str} (hx : Rep K mg cm H x v) : ∀ {xs : List (Str × V)} {fs : List (Str × IV)}, RepF K mg cm H xs fs → RepF K mg cm H (putF f x xs) (putI f v fs)
  | _, _, .nil => .cons hx .nil
  | _, _, .cons (f := g) h r => by
    unfold putF putI
    split
    · exact .cons hx r
    · exact .cons h (RepF.put hx r)
section
variable {X : Cx} {W : WX} {e ob : Expr} {fo fa : ME} {c f : Str} {p pos : Pos}
theorem s_fld (c : Str) (ho : PE' X W ob fo) (he : PE' X W e fa) (hf : FldOk X.K X.mg c f) (hs : swapsWith e (some (.Attribute ob f p)) pos.line X.env = pure false := by rfl) : PS' X W (.Assign [.Attribute ob f p] e pos) (mPutF c f fo fa) := by
  refine PS_imp (ps_fld ho he hs) fun D σ H h => ?_
  obtain ⟨cm, ls, st, r, st', R, e, o⟩ := rd_lift h
  rcases M.bind_inv e with ⟨v, st1, e1, e2⟩ | ⟨c, f, v, e1, rfl⟩
  · refine ⟨cm, ls, st, _, st1, R, e1, fun cm1 H1 x1 s1 y hy => ?_⟩
    rcases M.bind_inv e2 with ⟨a, st2, e3, e4⟩ | ⟨c, f, v, e3, rfl⟩
    · refine ⟨cm1, ls, st1, _, st2, R.ext x1 s1, e3, fun cm2 H2 x2 s2 z hz => ?_⟩
      unfold putFM at e4
      split at e4
      · rename_i n
        split at e4
        · rename_i c' fs q
          split at e4
          · rename_i hc
            obtain ⟨rfl, hp, hlen⟩ := hc
            cases e4
            cases hz with
            | @cell p _ hn =>
              obtain ⟨C, dx, fs', hm, g1, g2, g3⟩ := s2.at' n p _ hn q
              have hy2 := hy.ext x2
              have E : Ext cm2 H2 cm2 (upd H2 p (.ins C dx (putF f y fs'))) := Ext.set (List.mem_of_getElem? hn)
              have s3 := s2.set hn (o := .ins C dx (putF f y fs')) (c := .ins c' (putI f v fs)) ⟨C, dx, _, hm, upd_same, (RepF.put hy2 g2).ext E, pureF_put g3 hp⟩
              obtain ⟨fl, st5, e7, o7⟩ := o cm2 _ ((x1.trans x2).trans E) s3
              cases e7
              exact ⟨p, C, dx, fs', rfl, g1, (hf C hm).1, (hf C hm).2, by rw [g2.length]; exact hlen, o7 cm2 _ (Ext.refl _ _) s3 σ ((R.ext x1 s1).ext (x2.trans E) s3).loc⟩
          · cases e4
        · cases e4
      · cases e4
    · exact ⟨cm1, ls, st1, _, st', R.ext x1 s1, e3, fun cm2 H2 x2 s2 => o cm2 H2 (x1.trans x2) s2⟩
  · exact ⟨cm, ls, st, _, st', R, e1, o⟩
end
def mRaise (c f : Str) (m : ME) : MS := liftS m fun v ls => M.ret (.ex ls c f v)
def spX (K : PySem.W.Frag) (f : Str) : Sp := fun vs H Q _ => ∃ (a C : Addr) (y : V), vs = [.ref a, y] ∧ OexC K C ∧ PySem.W.findIn K (.ref C) f = some none ∧ H a = some (exo a C none) ∧ ∀ dx, H dx = none → dx ≠ a → Q .non (upd (upd H dx (exd dx [(f, y)])) a (exo a C (some dx)))
structure ExcOk (P : Program) (w : World) (K : PySem.W.Frag) (mg : Str → Option Value) (base : Heap) (c f : Str) : Prop where
  ex : ∃ C fI fd ps, mg c = some (.ref C) ∧ OexC K C ∧ PySem.W.findIn K (.ref C) f = some none ∧ PySem.W.findIn K (.ref C) "__init__" = some (some (.ref fI)) ∧ PySem.W.typeIn K (.ref fI) = some (.type "function") ∧ XF K C f ∧ Binds K fd ps [] ∧ FnOk P w K mg base (L2.CX P w) 1 fI fd ps (spX K f)
section
variable {X : Cx} {W : WX} {e : Expr} {fa : ME} {c f : Str} {p p2 pos : Pos}
theorem s_raise (F : ExcOk X.prog X.w X.K X.mg X.base c f) (hc : X.calm = true) (hr : Room 2 X.A) (hg : Gl X c) (tk : Takes X W) (ha : PE' X W e fa) (hdb : (c == ("__debug__" : Str)) = false := by decide)
    (hs : starEach [e] X.env = (false, eval e X.env) :: starEach [] X.env := by rfl) (hpl : (backTo pos (starEach [] X.env)).any (·.1) = false := by rfl) : PS' X W (.Raise (some (.Call (.Name c p) [e] [] pos)) none p2) (mRaise c f fa) := by
  obtain ⟨C, fI, fd, ps, h1, h2, h3, h4, h5, h8, h6, h7⟩ := F.ex
  refine PS_imp (ps_raise hc tk (pmk_oex h2 h4 h5 h7 hr h6 .nil passL hg h1 (pa_cons ha pa_nil hs) hdb hs hpl)) fun D σ H h => rdE_mono (rd_liftE h) fun x H1 hh => ?_
  obtain ⟨cm, ls, st, v, fl, st2, R, hx, e, o⟩ := hh
  cases e
  refine ⟨by show 1 ≤ 1000; decide, fun a ha => ?_⟩
  refine ⟨a, C, x, rfl, h2, h3, upd_same, fun dx hdx hne => ⟨rfl, dx, [(f, x)], upd_same, ?_, ?_, ?_⟩⟩
  · rw [upd_ne hne, upd_same]
  · rw [upd_ne hne] at hdx; exact hdx
  · rw [upd_ne hne] at hdx
    have eH : upd (del (upd (upd (upd H1 a (exo a C none)) dx (exd dx [(f, x)])) a (exo a C (some dx))) a) dx (.xd [(f, x)]) = upd H1 dx (.xd [(f, x)]) := by
      funext b
      by_cases hb : b = dx
      · subst hb; rw [upd_same, upd_same]
      · rw [upd_ne hb, upd_ne hb]
        by_cases hba : b = a
        · subst hba; rw [del_same]; exact ha.symm
        · rw [del_ne hba, upd_ne hba, upd_ne hb, upd_ne hba]
    rw [eH]
    exact o cm _ (Ext.new' hdx) (R.sto.new hdx) σ (R.loc.ext (Ext.new' hdx)) C dx x h1 h8 upd_same (R.sto.notAv hdx) (hx.ext (Ext.new' hdx))
end
end MK
section
set_option maxHeartbeats 2000000
namespace MK
open PySem PySem.Spec PyProof.Rows L2
def endsA (D : Ends) (i : Nat) : Ends := { nx := fun σ' H' => D.nx (σ'.set i none) H', rt := D.rt, bk := fun σ' H' => D.bk (σ'.set i none) H', ct := fun σ' H' => D.ct (σ'.set i none) H' }
abbrev ClA := Value × Nat × (Addr → Value → Option Addr → TS)
def wManyA (K : PySem.W.Frag) (Wout : WX) (D : Ends) : List ClA → WX
  | [] => Wout
  | (c, i, ts) :: r => fun cls d σ H => ∃ b, PySem.W.exmOne K cls c = some b ∧ (b = true → ∀ a, H a = none → ts a cls d (endsA D i) (σ.set i (some (.ref a))) H) ∧ (b = false → wManyA K Wout D r cls d σ H)
inductive HdsA (X : Cx) : List ExceptHandler → List ClA → Prop
  | nil : HdsA X [] []
  | cons {x n : Str} {c : Value} {i : Nat} {ts : Addr → Value → Option Addr → TS} {b₀ : Stmt} {suite : List Stmt} {np pos' : Pos} {hds : List ExceptHandler} {l : List ClA} (hi : X.N[i]? = some n) (hln : X.env.kindOf n = some .local) (hc : Names X x c)
      (hsu : ∀ (a : Addr) (oe : Obj) (cls : Value) (d : Option Addr) (pn : List (Addr × Obj)), Zc cls d oe → (∃ vs, oe.data = .fields vs) → PSs (X.suite a ((a, oe) :: pn)) (b₀ :: suite) (ts a cls d)) (r : HdsA X hds l) :
      HdsA X (.ExceptHandler (some (.Name x np)) (some n) (b₀ :: suite) pos' :: hds) ((c, i, ts) :: l)
section
variable {X : Cx} {body : List Stmt} {h₀ : ExceptHandler} {hds : List ExceptHandler} {l : List ClA} {pos : Pos} {tb : WX → TS} {Wout : WX}
theorem ps_try_manyA (hs : X.stack = X.env :: X.outer) (hf : X.env.frame = some X.env.locals) (hN : X.N.Nodup) (tk : Takes X Wout)
    (hb : ∀ (W : WX) (pn : List (Addr × Obj)) (xe : Value → Shared → Prop), Takes (X.tr pn xe) W → PassesOwn (model X.prog X.w) X.A X.env xe → PSs (X.tr pn xe) body (tb W))
    (hh : HdsA X (h₀ :: hds) l) : PS X (.Try body (h₀ :: hds) [] [] pos) (fun D σ H => tb (wManyA X.K Wout D l) D σ H) := by
  refine ⟨fun pins s σ H D I h => ?_⟩
  have ok := I.ok
  have hfr : X.A.frames = some (X.env :: X.outer) := by rw [ok.frames, hs]
  refine wpAny_Try_except ?_
  refine wpAny_mono ((hb (wManyA X.K Wout D l) (X.pn ++ pins) (fun e s₁ => wpAny (model X.prog X.w) X.A (noteFrame e X.env) (fun _ s₂ => wpAny (model X.prog X.w) X.A (setFlight e none) (fun _ s₃ =>
    wpAny (model X.prog X.w) X.A (handleBy e X.env (h₀ :: hds)) (SP X pins D) X.xe s₃) X.xe s₂) X.xe s₁) (fun u s' xx => ?_) PassesOwn.looking).run [] s σ H D (I.toTry _) h) (fun f s1 hsp => ?_) (fun e s1 he => he)
  · -- the catch
    obtain ⟨a, B, sI, pins', σ', H', cls, d, rfl, J', nb, up, sky, na, os, ag, w⟩ := xx
    have J : Inv X pins σ' H' sI := J'.ofTry ok
    have sky' : Sky B (X.env :: X.outer) a (Zc cls d) X.env.locals s'.heap := by rw [← hs]; exact sky
    show wpAny (model X.prog X.w) X.A (noteFrame (.ref a) X.env) _ _ _
    refine Sky.land Zc.steady hfr hf sky' fun h3 fl3 up3 => ?_
    have J3 : Inv X pins σ' H' { s' with heap := h3 } := J.landed nb fl3.1 (up.trans up3) os ag
    obtain ⟨oe3, vs3, he3, hz3, hd3⟩ := fl3.there
    have notFr : ∀ {h : Heap} {o : Obj} {vs : Array Value}, h.FunFrames B (X.env :: X.outer) → h.get? a = some o → o.data = .fields vs → a ∉ frs (X.env :: X.outer) := fun {h o vs} ff e dd hm => by
      obtain ⟨_, o', e', hnf⟩ := ff.mem hm
      rw [e] at e'; cases e'
      exact hnf _ dd
    have nfr := notFr fl3.2.2.1 he3 hd3
    have nL : a ≠ X.env.locals := fun z => nfr (List.mem_filterMap.mpr ⟨X.env, List.mem_cons_self, by rw [hf, z]⟩)
    have nF : a ∉ X.fs := fun hm => by
      obtain ⟨e, he, q⟩ := List.mem_filterMap.mp hm
      exact nfr (List.mem_filterMap.mpr ⟨e, List.mem_cons_of_mem _ he, q⟩)
    have S3 := J3.suite he3 hd3 na nL nF
    have go : ∀ {hds' : List ExceptHandler} {l' : List ClA}, HdsA X hds' l' → wManyA X.K Wout D l' cls d σ' H' →
        wpAny (model X.prog X.w) X.A (handleBy (.ref a) X.env hds') (SP X pins D) X.xe { s' with heap := h3 } := by
      intro hds' l' hk
      induction hk with
      | nil =>
        intro w
        refine wpAny_handleBy_nil ?_
        obtain ⟨k1, k2, k3, oe, vs, T, oT, ts', he, hz, hd, h1, hr⟩ := id fl3
        unfold PySem.passOn
        refine wpAny_bind (wpAny_field he hd h1 ?_)
        rw [if_neg (show ¬ ((Value.ref T == Value.none) = true) from by simp)]
        have fin : wpAny (model X.prog X.w) X.A (setFlight (.ref a) X.env.frame) (fun _ s4 => wpAny (model X.prog X.w) X.A (throw (.ref a) : Sem Flow) (SP X pins D) X.xe s4) X.xe { s' with heap := h3 } := by
          rw [hf]
          refine HandSPX.setFlight_upZ fl3 fun h4 hh4 up4 => wpAny_throw (tk _ _ ?_)
          exact ⟨a, B, sI, pins, σ', H', cls, d, rfl, J, nb, (up.trans up3).trans up4, .inr (.inr (by rw [hs]; exact hh4)), na, os, ag, w⟩
        first
          | exact wpAny_bind (wpAny_pure (wpAny_bind fin))
          | exact wpAny_bind fin
      | @cons x n c i ts b₀ suite np pos' hds2 l2 hi hln hc hsu r ih =>
        intro w
        have hloc : L2.Loc X.env.scope n := .inl hln
        obtain ⟨b, hb1, hyes, hno⟩ := w
        refine wpAny_handleBy_cons (codeAny_handlers_test ?_) (by intro q; cases q)
        have LT : PySem.W.Looks (model X.prog X.w) h3 (typeOf (.ref a)) cls := fun A Q E s k q => wpAny_typeOf_ref (k _ _ he3) (by rw [hz3.1]; exact q)
        have LM := PySem.W.exm_one (M := model X.prog X.w) (J3.kIn) LT hb1
        have test : ∀ {Q : Value → Shared → Prop} {E : Value → Shared → Prop}, Q c { s' with heap := h3 } → wpAny (model X.prog X.w) (X.A.mark (some (.ref a))) (eval (.Name x np) X.env) Q E { s' with heap := h3 } := fun {Q E} q => by
          obtain ⟨hg, hdbg, hm | ⟨hm, hv, hnn⟩⟩ := hc
          · exact ld_glob (X := X.suite a ((a, oe3) :: (X.pn ++ pins))) S3 hg hm q hdbg
          · exact ld_blt (X := X.suite a ((a, oe3) :: (X.pn ++ pins))) S3 hg hm hv q hnn hdbg
        refine test (LM.here ?_)
        cases b with
        | true =>
          refine codeAny_handlers_suite_as ?_
          refine HandSPX.lands_againZ fl3 fun h4 fl4 up4 => ?_
          have J4 : Inv X pins σ' H' { s' with heap := h4 } := J.landed nb fl4.1 ((up.trans up3).trans up4) os ag
          obtain ⟨oe4, vs4, he4, hz4, hd4⟩ := fl4.there
          have S4 := J4.suite he4 hd4 na nL nF
          refine store_ok (X := X.suite a ((a, oe4) :: (X.pn ++ pins))) (v := .ref a) S4 hN hi hloc rfl (fun s5 S5 => ?_) (.inr hln)
          refine wpAny_mono ((hsu a oe4 cls d (X.pn ++ pins) hz4 ⟨_, hd4⟩).run [] s5 _ H' _ S5 (hyes rfl a na)) (fun f s6 hsp => ?_) (fun _ _ z => False.elim z)
          have end_ : ∀ {σ6 : L2.St} {H6 : Hp} {Q : Shared → Prop}, Inv (X.suite a ((a, oe4) :: (X.pn ++ pins))) [] σ6 H6 s6 → (∀ s7, Inv X pins (σ6.set i none) H6 s7 → Q s7) →
              wpAny (model X.prog X.w) X.A (do bindName X.env n .none; unbindBehindTheSuite X.env n pos') (fun _ s7 => Q s7) X.xe s6 := fun {σ6 H6 Q} S6 hq => gone_ok (S6.unsuite ok) hN hi hln hq
          cases f with
          | next =>
            obtain ⟨σ6, H6, S6, q6⟩ := hsp
            exact end_ S6 fun s7 J7 => ⟨_, _, J7, q6⟩
          | brk =>
            obtain ⟨σ6, H6, S6, q6⟩ := hsp
            exact end_ S6 fun s7 J7 => ⟨_, _, J7, q6⟩
          | cont =>
            obtain ⟨σ6, H6, S6, q6⟩ := hsp
            exact end_ S6 fun s7 J7 => ⟨_, _, J7, q6⟩
          | ret u =>
            obtain ⟨v6, σ6, H6, S6, r6, q6⟩ := hsp
            exact end_ S6 fun s7 J7 => ⟨_, _, _, J7, r6, q6⟩
        | false =>
          show wpAny _ X.A (handleBy (.ref a) X.env hds2) _ _ _
          exact ih (hno rfl)
    exact go hh w
  · cases f with
    | next =>
      obtain ⟨σ', H', J', q⟩ := hsp
      exact wpAny_execs_nil ⟨σ', H', J'.ofTry ok, q⟩
    | brk =>
      obtain ⟨σ', H', J', q⟩ := hsp
      exact ⟨σ', H', J'.ofTry ok, q⟩
    | cont =>
      obtain ⟨σ', H', J', q⟩ := hsp
      exact ⟨σ', H', J'.ofTry ok, q⟩
    | ret u =>
      obtain ⟨v, σ', H', J', r, q⟩ := hsp
      exact ⟨v, σ', H', J'.ofTry ok, r, q⟩
end
end MK
end
namespace MK
open PySem PySem.Spec PyProof.Rows L2
abbrev Su := Addr → Value → Option Addr → MS
open Classical in
noncomputable def runCl (i : Nat) (fsu : Su) (ls : Loc) (c f : Str) (v : IV) : M Fl := fun st =>
  if h : ∃ r, ∀ (a : Addr) (C d : Addr), fsu a (.ref C) (some d) (ls.set i (some (.exn a (.ref C) d f v c))) st = some r then some h.choose else none
theorem runCl_eq {i : Nat} {fsu : Su} {ls : Loc} {c f : Str} {v : IV} {st : Sto} {r : OX Fl × Sto} (h : ∀ (a : Addr) (C d : Addr), fsu a (.ref C) (some d) (ls.set i (some (.exn a (.ref C) d f v c))) st = some r) : runCl i fsu ls c f v st = some r := by
  unfold runCl
  have hx : ∃ r, ∀ (a : Addr) (C d : Addr), fsu a (.ref C) (some d) (ls.set i (some (.exn a (.ref C) d f v c))) st = some r := ⟨r, h⟩
  rw [dif_pos hx]
  have q := hx.choose_spec 0 0 0
  rw [h 0 0 0] at q
  exact q.symm
theorem runCl_inv {i : Nat} {fsu : Su} {ls : Loc} {c f : Str} {v : IV} {st : Sto} {r : OX Fl × Sto} (e : runCl i fsu ls c f v st = some r) : ∀ (a : Addr) (C d : Addr), fsu a (.ref C) (some d) (ls.set i (some (.exn a (.ref C) d f v c))) st = some r := by
  unfold runCl at e
  split at e
  · rename_i h
    cases e
    exact h.choose_spec
  · cases e
abbrev Cl := Str × Nat × Su
noncomputable def tryCl (sub : Str → Str → Option Bool) : List Cl → Loc → Str → Str → IV → M Fl
  | [], ls, c, f, v => M.ret (.ex ls c f v)
  | (x, i, fsu) :: r, ls, c, f, v => match sub c x with
    | some true => M.bind (runCl i fsu ls c f v) fun fl => match fl with
      | .nx ls' => M.ret (.nx (ls'.set i none))
      | .bk ls' => M.ret (.bk (ls'.set i none))
      | .ct ls' => M.ret (.ct (ls'.set i none))
      | .rt w => M.ret (.rt w)
      | .ex .. => M.stuck
    | some false => tryCl sub r ls c f v
    | none => M.stuck
noncomputable def mTry (sub : Str → Str → Option Bool) (body : MS) (cl : List Cl) : MS := fun ls => M.bind (body ls) fun fl => match fl with
  | .ex ls' c f v => tryCl sub cl ls' c f v
  | fl => M.ret fl
def SubOk (K : PySem.W.Frag) (mg : Str → Option Value) (sub : Str → Str → Option Bool) : Prop := ∀ c x b C Cx, sub c x = some b → mg c = some (.ref C) → mg x = some (.ref Cx) → PySem.W.exmOne K (.ref C) (.ref Cx) = some b
inductive HdsM (X : Cx) : List ExceptHandler → List Cl → Prop
  | nil : HdsM X [] []
  | cons {x n : Str} {i : Nat} {fsu : Su} {b₀ : Stmt} {suite : List Stmt} {np pos' : Pos} {hds : List ExceptHandler} {l : List Cl} (hi : X.N[i]? = some n) (hln : X.env.kindOf n = some .local) (hg : Gl X x) (hd : (x == ("__debug__" : Str)) = false) (hm : ∃ C, X.mg x = some (.ref C))
      (hsu : ∀ (a : Addr) (oe : Obj) (cls : Value) (d : Option Addr) (pn : List (Addr × Obj)), Zc cls d oe → (∃ vs, oe.data = .fields vs) → PSs' (X.suite a ((a, oe) :: pn)) W0 (b₀ :: suite) (fsu a cls d)) (r : HdsM X hds l) :
      HdsM X (.ExceptHandler (some (.Name x np)) (some n) (b₀ :: suite) pos' :: hds) ((x, i, fsu) :: l)
theorem RelC.unset {K : PySem.W.Frag} {mg : Str → Option Value} {cm : Wd} {ls : Loc} {σ : L2.St} {H : Hp} (h : RelC K mg cm ls σ H) (i : Nat) : RelC K mg cm (ls.set i none) (σ.set i none) H := ⟨by simp [h.len], fun j w e => by
  by_cases hi : i = j
  · subst hi
    by_cases hl : i < ls.length
    · rw [List.getElem?_set_self hl] at e; cases e
    · rw [List.getElem?_eq_none (by simpa using hl)] at e; cases e
  · rw [List.getElem?_set_ne hi] at e ⊢
    exact h.at' j w e⟩
section
variable {X : Cx} {W : WX} {body : List Stmt} {h₀ : ExceptHandler} {hds : List ExceptHandler} {cl : List Cl} {pos : Pos} {fb : MS} {sub : Str → Str → Option Bool}
def clA (K : PySem.W.Frag) (mg : Str → Option Value) (c : Value) (q : Cl) : ClA := (c, q.2.1, fun a cls d => rdS K mg W0 (q.2.2 a cls d))
theorem hds_of : ∀ {hds : List ExceptHandler} {cl : List Cl}, HdsM X hds cl → ∃ l : List ClA, HdsA X hds l ∧ Paired (fun q p => ∃ C, X.mg q.1 = some (.ref C) ∧ p = clA X.K X.mg (.ref C) q) cl l
  | _, _, .nil => ⟨[], .nil, .nil⟩
  | _, _, .cons hi hln hg hd ⟨C, hm⟩ hsu r => by
    obtain ⟨l, h1, h2⟩ := hds_of r
    exact ⟨_, .cons (c := .ref C) hi hln ⟨hg, hd, .inl hm⟩ hsu h1, .cons ⟨C, hm, rfl⟩ h2⟩
theorem try_w {K : PySem.W.Frag} {mg : Str → Option Value} (hsub : SubOk K mg sub) {D : Ends} {cm : Wd} {H : Hp} {σ : L2.St} {ls : Loc} {st st' : Sto} {c f : Str} {v : IV} {fl : Fl} {C d : Addr} {y : V} (s : RelS K mg cm st H) (R : RelC K mg cm ls σ H)
    (hm : mg c = some (.ref C)) (hxf : XF K C f) (hd : H d = some (.xd [(f, y)])) (hav : d ∉ cm.av) (hy : Rep K mg cm H y v) :
    ∀ {cl : List Cl} {l : List ClA}, Paired (fun q p => ∃ C, mg q.1 = some (.ref C) ∧ p = clA K mg (.ref C) q) cl l → tryCl sub cl ls c f v st = some (.val fl, st') → OutS K mg W D cm H fl st' → wManyA K W D l (.ref C) (some d) σ H
  | _, _, .nil, e, o => by
    cases e
    exact o cm H (Ext.refl _ _) s σ R C d y hm hxf hd hav hy
  | (x, i, fsu) :: cl, _, .cons ⟨Cx, hx, hp⟩ r, e, o => by
    subst hp
    simp only [tryCl] at e
    cases q : sub c x with
    | none => rw [q] at e; cases e
    | some b =>
      rw [q] at e
      refine ⟨b, hsub c x b C Cx q hm hx, fun hb a ha => ?_, fun hb => ?_⟩
      · subst hb
        simp only at e
        rcases M.bind_inv e with ⟨fl1, st1, e1, e2⟩ | ⟨c', f', v', e1, q1⟩
        · have e1' := runCl_inv e1 a C d
          refine ⟨cm, _, st, fl1, st1, ⟨s, R.set i (.exn hm hxf hd hav hy)⟩, e1', fun cm1 H1 x1 s1 => ?_⟩
          cases fl1 with
          | nx ls1 => cases e2; exact fun σ1 R1 => o cm1 H1 x1 s1 _ (R1.unset i)
          | bk ls1 => cases e2; exact fun σ1 R1 => o cm1 H1 x1 s1 _ (R1.unset i)
          | ct ls1 => cases e2; exact fun σ1 R1 => o cm1 H1 x1 s1 _ (R1.unset i)
          | rt w => cases e2; exact fun x hx => o cm1 H1 x1 s1 x hx
          | ex ls1 c f v => cases e2
        · cases q1
      · subst hb
        exact try_w hsub s R hm hxf hd hav hy r e o
theorem s_try (hs : X.stack = X.env :: X.outer) (hf : X.env.frame = some X.env.locals) (hN : X.N.Nodup) (tk : Takes X W) (hsub : SubOk X.K X.mg sub)
    (hb : ∀ (W : WX) (pn : List (Addr × Obj)) (xe : Value → Shared → Prop), Takes (X.tr pn xe) W → PassesOwn (model X.prog X.w) X.A X.env xe → PSs' (X.tr pn xe) W body fb) (hh : HdsM X (h₀ :: hds) cl) : PS' X W (.Try body (h₀ :: hds) [] [] pos) (mTry sub fb cl) := by
  obtain ⟨l, h1, h2⟩ := hds_of hh
  refine PS_imp (ps_try_manyA (tb := fun W => rdS X.K X.mg W fb) hs hf hN tk hb h1) fun D σ H h => ?_
  obtain ⟨cm, ls, st, fl, st', R, e, o⟩ := h
  rcases M.bind_inv e with ⟨fl1, st1, e1, e2⟩ | ⟨c, f, v, e1, q⟩
  · refine ⟨cm, ls, st, fl1, st1, R, e1, fun cm1 H1 x1 s1 => ?_⟩
    cases fl1 with
    | nx ls1 => cases e2; exact o cm1 H1 x1 s1
    | bk ls1 => cases e2; exact o cm1 H1 x1 s1
    | ct ls1 => cases e2; exact o cm1 H1 x1 s1
    | rt v => cases e2; exact o cm1 H1 x1 s1
    | ex ls1 c f v => exact fun σ1 R1 C d y hm hxf hd hav hy => try_w hsub s1 R1 hm hxf hd hav hy h2 e2 fun cm2 H2 x2 s2 => o cm2 H2 (x1.trans x2) s2
  · cases q
end
open Classical in
noncomputable def xfM (a : Addr) (cls : Value) (d : Option Addr) (f : Str) (x : IV) : M IV := match x with
  | .exn a' cls' d' f' v _ => if a' = a ∧ cls' = cls ∧ some d' = d ∧ f' = f ∧ ∃ C, cls = .ref C then M.ret v else M.stuck
  | _ => M.stuck
noncomputable def mXf (a : Addr) (cls : Value) (d : Option Addr) (f : Str) (m : ME) : ME := fun ls => M.bind (m ls) (xfM a cls d f)
theorem xfM_run (a C : Addr) (d : Addr) (c f : Str) (v : IV) : xfM a (.ref C) (some d) f (.exn a (.ref C) d f v c) = M.ret v := by
  unfold xfM
  exact if_pos ⟨rfl, rfl, rfl, rfl, C, rfl⟩
section
variable {X : Cx} {W : WX} {a C : Addr} {oe : Obj} {d : Option Addr} {pn : List (Addr × Obj)} {e : Expr} {m : ME} {pos : Pos} {f : Str} {cls : Value}
def tXfA (K : PySem.W.Frag) (a : Addr) (cls : Value) (d : Option Addr) (f : Str) (te : TE) : TE := fun σ H Q => te σ H fun x H1 => x = .ref a ∧ ∃ (C dd : Addr) (fs : List (Str × V)) (v : V), cls = .ref C ∧ XF K C f ∧ d = some dd ∧ H1 dd = some (.xd fs) ∧ fs.lookup f = some v ∧ Q v H1
theorem pe_xfA (hz : Zc cls d oe) (hf : ∃ vs, oe.data = .fields vs) {te : TE} (he : PE (X.suite a ((a, oe) :: pn)) e te) (hb : attributeBase e f X.env (eval e X.env) = eval e X.env := by rfl) :
    PE (X.suite a ((a, oe) :: pn)) (.Attribute e f pos) (tXfA X.K a cls d f te) := by
  refine ⟨fun pins s σ H Q I h => ?_⟩
  refine attr_of hb (thn (he.run pins s σ H _ I h) fun u s1 hh => ?_)
  obtain ⟨x, H1, I1, rx, ex, C, dd, fs, v, ec, ⟨T, hno⟩, ed, ea, l, q⟩ := hh
  subst ex
  obtain rfl : u = Value.ref a := rx
  subst ec
  subst ed
  obtain ⟨ha, _⟩ := I1.pin (a, oe) (List.mem_append_left _ List.mem_cons_self)
  obtain ⟨vs, hd⟩ := hf
  have hx : ObjOk X.prog X.w H1 s1.heap dd (.xd fs) := I1.hok dd _ ea
  obtain ⟨mA, hns, hr⟩ := hx
  obtain ⟨od, ho, hl⟩ := lookIn_ns hns
  obtain ⟨u, hu, ru⟩ := RelO.some_of (v := v) (o := mA f) (by rw [← l]; exact hr f)
  have J : PySem.W.InstAt s1.heap a oe C (some od) := ⟨ha, hz.1, by unfold PySem.W.notCls; rw [hd] <;> rfl, by rw [hz.2]; exact ho⟩
  exact HandSPX.exc_get I1.kIn J T.ga T.gg T.exC (PySem.W.findObj_own T.hdC hno rfl (by rw [hl, hu])) (handed_of ru) ⟨v, H1, I1.tok _, ru, q⟩
theorem e_xf (hz : Zc cls d oe) (hf : ∃ vs, oe.data = .fields vs) (he : PE' (X.suite a ((a, oe) :: pn)) W e m) (hb : attributeBase e f X.env (eval e X.env) = eval e X.env := by rfl) :
    PE' (X.suite a ((a, oe) :: pn)) W (.Attribute e f pos) (mXf a cls d f m) := by
  refine PE_imp (pe_xfA hz hf he hb) fun σ H Q h => rdE_mono (rd1 h) fun x H1 h1 => ?_
  obtain ⟨cm, st, v, r, st', s, hx, e, o⟩ := h1
  unfold xfM at e
  split at e
  · split at e
    · rename_i hc
      obtain ⟨rfl, rfl, rfl, rfl, C', hC⟩ := hc
      cases e
      cases hx with
      | err => cases hC
      | rng => cases hC
      | exn g h0 h1 hn h2 =>
        refine ⟨rfl, _, _, _, _, rfl, h0, rfl, h1, by simp [List.lookup], o cm H1 (Ext.refl _ _) s _ h2⟩
    · cases e
  · cases e
end
end MK
namespace MK
open PySem L2
section
variable {K : PySem.W.Frag} {mg : Str → Option Value} {σ : L2.St} {H : Hp} {W : WX}
theorem rd2L {α : Type} {fa fb : ME} {k : Loc → IV → IV → M α} {G : Wd → Hp → α → Prop} (h : Run K mg W σ H (fun ls => M.bind (fa ls) fun a => M.bind (fb ls) fun b => k ls a b) G) :
    rdE K mg W fa σ H fun x H1 => rdE K mg W fb σ H1 fun y H2 => ∃ cm ls st a b r st', Rel K mg cm ls st σ H2 ∧ Rep K mg cm H2 x a ∧ Rep K mg cm H2 y b ∧ k ls a b st = some (r, st') ∧ Out K mg W σ cm H2 G r st' := by
  obtain ⟨cm, ls, st, r, st', R, e, o⟩ := h
  rcases M.bind_inv e with ⟨a, st1, e1, e2⟩ | ⟨c, f, v, e1, rfl⟩
  · refine ⟨cm, ls, st, _, st1, R, e1, fun cm1 H1 x1 s1 y hy => ?_⟩
    rcases M.bind_inv e2 with ⟨b, st2, e3, e4⟩ | ⟨c, f, v, e3, rfl⟩
    · refine ⟨cm1, ls, st1, _, st2, R.ext x1 s1, e3, fun cm2 H2 x2 s2 z hz => ?_⟩
      refine ⟨cm2, ls, st2, a, b, r, st', (R.ext x1 s1).ext x2 s2, hy.ext x2, hz, e4, ?_⟩
      cases r with
      | val b => exact fun cm3 H3 x3 s3 => o cm3 H3 ((x1.trans x2).trans x3) s3
      | exc c f v => exact fun cm3 H3 x3 s3 => o cm3 H3 ((x1.trans x2).trans x3) s3
    · exact ⟨cm1, ls, st1, _, st', R.ext x1 s1, e3, fun cm2 H2 x2 s2 => o cm2 H2 (x1.trans x2) s2⟩
  · exact ⟨cm, ls, st, _, st', R, e1, o⟩
def mChain (g g' : Sto → IV → IV → Option IV) (fa fb fc : ME) : ME := fun ls => M.bind (fa ls) fun a => M.bind (fb ls) fun b => M.bind (opM g a b) fun z => match z with
  | .bl true => M.bind (fc ls) fun c => opM g' b c
  | .bl false => M.ret (.bl false)
  | _ => M.stuck
theorem rd_chain {r r' : R2} {g g' : Sto → IV → IV → Option IV} {fa fb fc : ME} {Q : VK} (ho : OpV K mg r g) (ho' : OpV K mg r' g') (h : rdE K mg W (mChain g g' fa fb fc) σ H Q) : tChain r r' (rdE K mg W fa) (rdE K mg W fb) (rdE K mg W fc) σ H Q := by
  refine rdE_mono (rd2L (k := fun ls a b => M.bind (opM g a b) fun z => match z with
    | .bl true => M.bind (fc ls) fun c => opM g' b c
    | .bl false => M.ret (.bl false)
    | _ => M.stuck) h) fun x H1 h1 => rdE_mono h1 fun y H2 h2 => ?_
  obtain ⟨cm, ls, st, a, b, r, st', R, hx, hy, e, o⟩ := h2
  cases q1 : g st a b with
  | none => simp only [M.bind, opM, q1, Option.map] at e; cases e
  | some z =>
    simp only [M.bind, opM, q1, Option.map] at e
    refine ho cm st H2 x y a b z _ R.sto hx hy q1 fun cm' H' z' E s' hz => ?_
    cases z with
    | bl k =>
      cases hz
      refine ⟨k, rfl, ?_⟩
      cases k with
      | false =>
        cases e
        simp only [Bool.false_eq_true, if_false]
        exact o cm' H' E s' _ (.bl _)
      | true =>
        simp only [if_true]
        have e' : M.bind (fc ls) (fun c => opM g' b c) st = some (r, st') := e
        have o' : Out K mg W σ cm' H' (GE K mg Q) r st' := by
          cases r with
          | val b => exact fun cm3 H3 x3 s3 => o cm3 H3 (E.trans x3) s3
          | exc c f v => exact fun cm3 H3 x3 s3 => o cm3 H3 (E.trans x3) s3
        rcases M.bind_inv e' with ⟨c, st2, e3, e4⟩ | ⟨c, f, v, e3, rfl⟩
        · refine ⟨cm', ls, st, _, st2, R.ext E s', e3, fun cm2 H2' x2 s2 w hw => ?_⟩
          unfold opM at e4
          cases q2 : g' st2 b c with
          | none => rw [q2] at e4; cases e4
          | some v =>
            rw [q2] at e4
            cases e4
            exact ho' cm2 _ H2' y w b c v Q s2 ((hy.ext E).ext x2) hw q2 fun cm3 H3 z3 x3 s3 h3 => o cm3 H3 ((E.trans x2).trans x3) s3 z3 h3
        · exact ⟨cm', ls, st, _, st', R.ext E s', e3, o'⟩
    | _ => cases e
end
section
variable {X : Cx} {W : WX} {a b c e : Expr} {fa fb fc : ME} {pos : Pos} {op op' : CmpOp} {g g' : Sto → IV → IV → Option IV}
theorem e_chain (hc : CmpV X op g) (hc' : CmpV X op' g') (ha : PE' X W a fa) (hb : PE' X W b fb) (hcc : PE' X W c fc) (hm : lastMarks [op, op'] [b, c] = false := by with_unfolding_all rfl) :
    PE' X W (.Compare a [op, op'] [b, c] pos) (mChain g g' fa fb fc) := by
  obtain ⟨r, h1, h2⟩ := hc.ex
  obtain ⟨r', h3, h4⟩ := hc'.ex
  exact PE_imp (pe_chain h1 h3 ha hb hcc hm) fun _ _ _ h => rd_chain h2 h4 h
theorem t_chain (hc : CmpV X op g) (hc' : CmpV X op' g') (ha : PE' X W a fa) (hb : PE' X W b fb) (hcc : PE' X W c fc) (hm : lastMarks [op, op'] [b, c] = false := by with_unfolding_all rfl) :
    PT' X W (.Compare a [op, op'] [b, c] pos) (mB (mChain g g' fa fb fc)) := by
  obtain ⟨r, h1, h2⟩ := hc.ex
  obtain ⟨r', h3, h4⟩ := hc'.ex
  exact PT_imp (pt_chain h1 h3 ha hb hcc hm) fun _ _ _ h => rd_chain h2 h4 (rd_B h)
end
def rgBounds (i j : Int) : Bool := decide (-(2 ^ 62) ≤ i) && decide (i < 2 ^ 62) && decide (-(2 ^ 62) ≤ j) && decide (j < 2 ^ 62) && decide ((j - i).toNat ≤ 2 ^ 24)
theorem rgBounds_ok {i j : Int} (h : rgBounds i j = true) : RgOk i j := by
  unfold rgBounds at h
  simp only [Bool.and_eq_true, decide_eq_true_eq] at h
  exact ⟨h.1.1.1.1, h.1.1.1.2, h.1.1.2, h.1.2, h.2⟩
def rgArgs : List IV → Option (Int × Int)
  | [.int j] => some (0, j)
  | [.int i, .int j] => some (i, j)
  | _ => none
def tupRgM (l : List IV) : M IV := fun st => match rgArgs l with
  | some (i, j) => if rgBounds i j = true then some (.val (.tup (rangeI i (j - i).toNat)), st) else none
  | none => none
def mTupRg (g : MA) : ME := fun ls => M.bind (g ls) tupRgM
theorem rg_rep {K : PySem.W.Frag} {mg : Str → Option Value} {cm : Wd} {H : Hp} (i j : Int) : RepL K mg cm H (rgV i j) (rangeI i (j - i).toNat) := by
  unfold rgV rangeI
  have : ∀ l : List Nat, RepL K mg cm H (l.map fun k => V.int (i + (k : Nat))) (l.map fun (k : Nat) => IV.int (i + (k : Int))) := fun l => by
    induction l with
    | nil => exact .nil
    | cons a l ih => exact .cons (.int _) ih
  exact this _
section
variable {X : Cx} {W : WX} {a b : Expr} {fa fb : ME} {p p2 pos pos2 : Pos}
theorem rdP1 {σ : L2.St} {H : Hp} {k : List IV → M IV} {Q : VK} (h : rdE X.K X.mg W (fun ls => M.bind (mCons fa mNil ls) k) σ H Q) :
    rdE X.K X.mg W fa σ H fun x H1 => ∃ cm st a r st', RelS X.K X.mg cm st H1 ∧ Rep X.K X.mg cm H1 x a ∧ k [a] st = some (r, st') ∧ Out X.K X.mg W σ cm H1 (GE X.K X.mg Q) r st' := by
  refine rd1 (k := fun a => k [a]) ?_
  obtain ⟨cm, ls, st, r, st', R, e, o⟩ := h
  refine ⟨cm, ls, st, r, st', R, ?_, o⟩
  rw [← e]
  unfold M.bind mCons
  simp only [M.bind]
  cases fa ls st with
  | none => rfl
  | some p =>
    obtain ⟨o1, s1⟩ := p
    cases o1 <;> rfl
variable (hg : Gl X "range") (hm : X.mg "range" = none)
include hg hm
theorem e_tupRg1 (hk : X.calm = true) (hl : Gl X "tuple") (hml : X.mg "tuple" = none) (ha : PE' X W a fa) (na : starEach [a] X.env = (false, eval a X.env) :: starEach [] X.env := by rfl) : PE' X W (.Call (.Name "tuple" p2) [.Call (.Name "range" p) [a] [] pos] [] pos2) (mTupRg (mCons fa mNil)) := by
  refine PE_imp (pe_tupRg hk hl hml (prg_1 hg hm ha na)) fun σ H Q h => rdE_mono (rdP1 h) fun x H1 h1 => ?_
  obtain ⟨cm, st, v, r, st', s, hx, e, o⟩ := h1
  cases v with
  | int n =>
    cases hx
    simp only [tupRgM, rgArgs] at e
    split at e
    · cases e
      exact ⟨n, rfl, rgBounds_ok (by assumption), fun q hq => o cm _ (Ext.new' hq) (s.new hq) _ (.tup (.inl ⟨.inl upd_same, s.notAv hq⟩) ((rg_rep 0 n).ext (Ext.new' hq)))⟩
    · cases e
  | _ => cases e
end
end MK
namespace MK
open PySem L2 PySem.Spec PyProof.Rows HT
section
variable {prog : Program} {w : World} {A : Around} {E : Value → Shared → Prop} {s : Shared}
theorem sliceApplied_rev {sl : Addr} {vl vu vs : Value} {n : Nat} {Q : Int × Int × Nat → Shared → Prop} (hs : s.heap.IsSliceOf sl vl vu vs) (pl : IsPart vl none) (pu : IsPart vu none) (ps : IsPart vs (some (-1)))
    (h : Q ((n : Int) - 1, -1, n) s) : wpAny (model prog w) A (Builtin.Slice.sliceApplied (.ref sl) (pure (n : Int))) Q E s := by
  obtain ⟨os, hos, hcs, hds⟩ := id hs
  unfold Builtin.Slice.sliceApplied Builtin.Slice.sliceFields
  refine wpAny_bind (wpAny_bind (wpAny_field hos hds (x := vl) rfl (wpAny_bind (wpAny_field hos hds (x := vu) rfl (wpAny_bind (wpAny_field hos hds (x := vs) rfl (wpAny_pure ?_)))))))
  refine wpAny_bind (HT.slicePart_ ps ?_)
  show wpAny _ _ (if ((-1 : Int) == 0) = true then _ else _) _ _ s
  rw [if_neg (by decide)]
  refine wpAny_bind (HT.slicePart_ pl (wpAny_bind (HT.slicePart_ pu (wpAny_bind (wpAny_pure ?_)))))
  refine wpAny_pure ?_
  have e : Builtin.Slice.slicePlaces ((n : Int) - 1) (-1) (-1) = n := by
    unfold Builtin.Slice.slicePlaces
    rw [if_neg (by decide)]
    split
    · show (((n : Int) - 1 - -1 - 1) / (- -1) + 1).toNat = n
      have : ((n : Int) - 1 - -1 - 1) / (- -1) = (n : Int) - 1 := by simp
      rw [this]; omega
    · simp; omega
  show Q ((n : Int) - 1, -1, Builtin.Slice.slicePlaces ((n : Int) - 1) (-1) (-1)) s
  rw [e]
  exact h
theorem pick_rev (xs : Array Value) : ((List.range xs.size).filterMap fun (k : Nat) => xs[((xs.size : Int) - 1 + (k : Int) * -1).toNat]?).toArray = xs.toList.reverse.toArray := by
  congr 1
  have e1 : ∀ k ∈ List.range xs.size, xs[((xs.size : Int) - 1 + (k : Int) * -1).toNat]? = xs.toList.reverse[k]? := fun k hk => by
    have hk' : k < xs.size := by simpa using hk
    have e : ((xs.size : Int) - 1 + (k : Int) * -1).toNat = xs.size - 1 - k := by omega
    rw [e, List.getElem?_reverse (by simpa using hk')]
    simp
  have cg : ∀ (l : List Nat) (f g : Nat → Option Value), (∀ k ∈ l, f k = g k) → l.filterMap f = l.filterMap g := fun l f g h => by
    induction l with
    | nil => rfl
    | cons a l ih =>
      rw [List.filterMap_cons, List.filterMap_cons, h a List.mem_cons_self, ih fun k hk => h k (List.mem_cons_of_mem _ hk)]
  rw [cg _ _ _ e1]
  have h2 : ∀ (l : List Value), (List.range l.length).filterMap (fun k => l[k]?) = l := fun l => by
    induction l with
    | nil => rfl
    | cons a l ih =>
      rw [List.length_cons, List.range_succ_eq_map, List.filterMap_cons]
      simp only [List.getElem?_cons_zero]
      rw [List.filterMap_map]
      congr 1
  have := h2 xs.toList.reverse
  rw [List.length_reverse, Array.length_toList] at this
  exact this
theorem getItem_tuple_rev {t sl : Addr} {items : Array Value} {vl vu vs : Value} {Q : Value → Shared → Prop} (ht : IsTup s.heap t items) (hs : s.heap.IsSliceOf sl vl vu vs) (pl : IsPart vl none) (pu : IsPart vu none) (ps : IsPart vs (some (-1)))
    (h : Q (.ref s.heap.objs.size) { s with heap := s.heap.push { cls := .type "tuple", data := .seq items.toList.reverse.toArray } })
    (hsz : items.size ≤ sizeLine) : wpAny (model prog w) A (getItem (.ref t) (.ref sl)) Q E s := by
  have htake : sizeOk (.seq items.toList.reverse.toArray) := by
    show items.toList.reverse.toArray.size ≤ sizeLine
    rw [List.size_toArray, List.length_reverse, Array.length_toList]
    exact hsz
  obtain ⟨os, hos, hcs, hds⟩ := id hs
  have hTs : s.TypeIs (.ref sl) "slice" := ⟨os, hos, hcs⟩
  unfold getItem
  try with_reducible refine wpAny_holding ?_
  first | refine wpAny_bind (wpAny_pure ?_) | skip
  refine wpAny_bind (wpAny_sequenceKey ht.typeIs (by decide) ?_)
  refine wpAny_bind (wpAny_callSpecial?_slot (name := Str.ofString "__getitem__") ht.typeIs PyProof.Rows.slot_tuple_getitem
    (wpAny_call_entry PyProof.Rows.slot_tuple_getitem ht.typeIs entry_tuple_getitem ?_ (args_tuple_getitem _ _)))
  show wpAny _ _ (Builtin.Tuple.tupleItemsOf (.ref t) >>= _) _ _ s
  refine wpAny_bind (tupleItemsOf_ ht ?_)
  refine wpAny_bind (wpAny_typeOf hTs ?_)
  rw [if_pos (by decide)]
  refine wpAny_bind (sliceApplied_rev hs pl pu ps ?_)
  show wpAny _ _ (if (((items.size : Int) - 1) == 0 && (-1 : Int) == 1 && items.size == items.size) = true then _ else _) _ _ s
  rw [if_neg (by simp), pick_rev]
  first
    | exact wpAny_bind (m := Builtin.Tuple.tupleExact _) (wpAny_newObj_type (wpAny_pure ⟨_, rfl, wpAny_pure h⟩) htake)
    | exact wpAny_bind (m := Builtin.Tuple.tupleExact _) (wpAny_newObj_type (wpAny_bind (wpAny_pure (wpAny_pure ⟨_, rfl, wpAny_pure h⟩))) htake)
    | exact wpAny_bind (wpAny_bind (m := Builtin.Tuple.tupleExact _) (wpAny_newObj_type (wpAny_pure (wpAny_pure ⟨_, rfl, wpAny_pure h⟩)) htake))
    | exact wpAny_bind (wpAny_bind (m := Builtin.Tuple.tupleExact _) (wpAny_newObj_type (wpAny_pure ⟨_, rfl, wpAny_pure h⟩) htake))
end
section
variable {X : Cx} {W : WX}
def tRevI (K : PySem.W.Frag) (te : TE) : TE := fun σ H Q => te σ H fun x H1 => (∃ a xs, x = .ref a ∧ SqL K H1 a xs ∧ ∀ p, H1 p = none → Q (.ref p) (upd H1 p (.lst xs.reverse))) ∨ ∃ a xs, x = .ref a ∧ SqT K H1 a xs ∧ ∀ p, H1 p = none → Q (.ref p) (upd H1 p (.tup xs.reverse))
theorem pe_revI {e : Expr} {te : TE} {k : Nat} {p1 p2 p3 pos : Pos} (he : PE X e te) : PE X (.Subscript e (.Slice none none (some (.UnaryOp .USub (.Constant (.int 1) k p1) p2)) p3) pos) (tRevI X.K te) := by
  refine ⟨fun pins s σ H Q I h => ?_⟩
  refine Subscript_ (thn (he.run pins s σ H _ I h) fun v s1 ⟨x, H1, I1, r1, q1⟩ => ?_)
  have hst : PO X (some (.UnaryOp .USub (.Constant (.int 1) k p1) p2)) (tPart (tUn (rU fun i => .int (-i)) (tC (.int 1)))) := po_some (pe_un un_neg pe_int)
  refine wpAny_Slice (thn (po_none.run pins s1 σ H1 (fun o H2 => o = none ∧ H2 = H1) I1 ⟨rfl, rfl⟩) fun vl s2 ⟨l, H2, I2, pl, el, e2⟩ => ?_)
  subst el e2
  refine thn (po_none.run pins s2 σ H2 (fun o H3 => o = none ∧ H3 = H2) I2 ⟨rfl, rfl⟩) fun vu s3 ⟨u, H3, I3, pu, eu, e3⟩ => ?_
  subst eu e3
  refine thn (hst.run pins s3 σ H3 (fun o H4 => o = some (-1) ∧ H4 = H3) I3 ⟨1, rfl, -1, rfl, rfl, rfl⟩) fun vs s4 ⟨o, H4, I4, ps, eo, e4⟩ => ?_
  subst eo e4
  have I5 : Inv X pins σ H4 { s4 with heap := s4.heap.push { cls := .type "slice", data := .fields #[vl, vu, vs] } } := I4.kept (t' := s4.toks) fun b ob q => Heap.get?_push_of_some _ q
  show wpAny (model X.prog X.w) X.A (subscriptTail e (.Slice none none (some (.UnaryOp .USub (.Constant (.int 1) k p1) p2)) p3) v (.ref s4.heap.objs.size)) (EP X pins σ Q) X.xe { s4 with heap := s4.heap.push { cls := .type "slice", data := .fields #[vl, vu, vs] } }
  rcases q1 with ⟨a, xs, ex, hx, q⟩ | ⟨a, xs, ex, hx, q⟩
  · subst ex
    cases r1
    obtain ⟨its, r, ht, hz⟩ := I5.list hx
    have hlen := r.length
    refine tail_any (ops := [.ref a, .ref s4.heap.objs.size]) ht.isList.typeIs (PySem.slot_list_getitem.lookup) ?_ (by with_unfolding_all rfl)
    refine wpAny_getItem_list_slice ht.isList (Heap.IsSliceOf.new _ vl vu vs) pl pu ps (by decide) ?_ (by rw [List.size_toArray]; omega)
    rw [PySem.W.krv_pick]
    refine ⟨.ref _, _, I5.laid (t' := s4.toks) (o := .lst xs.reverse) (fun b ob q => Heap.get?_push_of_some _ q) (Nat.le_refl _) ?_, rfl, q _ (I5.hok.fresh (Nat.le_refl _))⟩
    exact ⟨by rw [List.length_reverse]; exact hz, _, 0, r.reverse, Heap.get?_push_size _ rfl⟩
  · subst ex
    cases r1
    obtain ⟨its, r, ht, hz⟩ := I5.tuple hx
    have hlen := r.length
    refine tail_any (ops := [.ref a, .ref s4.heap.objs.size]) ht.typeIs PyProof.Rows.slot_tuple_getitem.lookup ?_ (by with_unfolding_all rfl)
    refine getItem_tuple_rev ht (Heap.IsSliceOf.new _ vl vu vs) pl pu ps ?_ (by rw [List.size_toArray]; omega)
    refine ⟨.ref _, _, I5.laid (t' := s4.toks) (o := .tup xs.reverse) (fun b ob q => Heap.get?_push_of_some _ q) (Nat.le_refl _) ?_, rfl, q _ (I5.hok.fresh (Nat.le_refl _))⟩
    exact ⟨by rw [List.length_reverse]; exact hz, _, r.reverse, IsTup.new _ _⟩
def revIM (c : Bool) (a : IV) : M IV := fun st => match a with
  | .scr l => newL c l.reverse st
  | .tup l => some (.val (.tup l.reverse), st)
  | a => match lstOf st a with
    | some l => newL c l.reverse st
    | none => none
def mRevI (c : Bool) (f : ME) : ME := fun ls => M.bind (f ls) (revIM c)
theorem e_revI (c : Bool) {a : Expr} {fa : ME} {k : Nat} {p1 p2 p3 pos : Pos} (ha : PE' X W a fa) : PE' X W (.Subscript a (.Slice none none (some (.UnaryOp .USub (.Constant (.int 1) k p1) p2)) p3) pos) (mRevI c fa) := by
  refine PE_imp (pe_revI ha) fun σ H Q h => rdE_mono (rd1 h) fun x H1 h1 => ?_
  obtain ⟨cm, st, v, r, st', s, hx, e, o⟩ := h1
  have lists : ∀ l, lstOf st v = some l → newL c l.reverse st = some (r, st') → ∃ a xs, x = .ref a ∧ SqL X.K H1 a xs ∧ ∀ p, H1 p = none → Q (.ref p) (upd H1 p (.lst xs.reverse)) := fun l q1 q2 => by
    obtain ⟨p, xs, rfl, h1, h2⟩ := lstOf_rep s hx q1
    exact ⟨p, xs, rfl, SqL.of h1, fun p hp => newL_new s q2 hp h2.rev o⟩
  cases v with
  | scr l =>
    cases hx with
    | @scr p xs _ h1 h2 => exact .inl ⟨p, xs, rfl, h1.sq, fun p hp => newL_new s e hp h2.rev o⟩
  | tup l =>
    cases e
    cases hx with
    | @tup p xs _ h1 h2 => exact .inr ⟨p, xs, rfl, h1.sq, fun q hq => o cm _ (Ext.new' hq) (s.new hq) _ (.tup (.inl ⟨.inl upd_same, s.notAv hq⟩) (h2.rev.ext (Ext.new' hq)))⟩
  | lst l => exact .inl (lists l rfl e)
  | cell n =>
    simp only [revIM] at e
    cases q : lstOf st (.cell n) with
    | none => rw [q] at e; cases e
    | some l => rw [q] at e; exact .inl (lists l q e)
  | _ => cases e
end
end MK
namespace MK
open PySem PySem.Spec PyProof.Rows L2
structure MetOk (P : Program) (w : World) (K : PySem.W.Frag) (mg : Str → Option Value) (base : Heap) (k : Nat) (c m : Str) (ps : List Str) (g : MF) : Prop where
  ex : ∃ C f fd, mg c = some (.ref C) ∧ PySem.W.findIn K (.ref C) m = some (some (.ref f)) ∧ PySem.W.isFn K (.ref f) = true ∧ Binds K fd ps [] ∧ FnOk P w K mg base (L2.CX P w) k f fd ps (spM K mg ps.length g)
theorem MetOk.mono {P : Program} {w : World} {K : PySem.W.Frag} {mg : Str → Option Value} {base : Heap} {j k : Nat} {c m : Str} {ps : List Str} {g : MF} (h : MetOk P w K mg base j c m ps g) (hk : j ≤ k) : MetOk P w K mg base k c m ps g := by
  obtain ⟨C, f, fd, h1, h2, h3, h4, h5⟩ := h.ex
  exact ⟨⟨C, f, fd, h1, h2, h3, h4, h5.mono hk⟩⟩
theorem MetOk.imp {P : Program} {w : World} {K : PySem.W.Frag} {mg : Str → Option Value} {base : Heap} {k : Nat} {c m : Str} {ps : List Str} {g g' : MF} (h : MetOk P w K mg base k c m ps g) (i : ∀ l st r, g' l st = some r → g l st = some r) : MetOk P w K mg base k c m ps g' := by
  obtain ⟨C, f, fd, h1, h2, h3, h4, h5⟩ := h.ex
  exact ⟨⟨C, f, fd, h1, h2, h3, h4, h5.imp (spM_imp i)⟩⟩
def clsI (st : Sto) : IV → Option Str
  | .obj c _ => some c
  | .cell n => match st[n]? with
    | some (.ins c _) => some c
    | _ => none
  | _ => none
theorem clsI_rep {K : PySem.W.Frag} {mg : Str → Option Value} {cm : Wd} {st : Sto} {H : Hp} {x : V} {a : IV} {c : Str} (s : RelS K mg cm st H) (h : Rep K mg cm H x a) (e : clsI st a = some c) : ∃ p C dx fs, x = .ref p ∧ mg c = some (.ref C) ∧ H p = some (.ins C dx fs) := by
  cases h with
  | obj h1 h2 h3 h4 => cases e; exact ⟨_, _, _, _, rfl, h1, h2⟩
  | @cell p n h =>
    simp only [clsI] at e
    split at e
    · rename_i q
      cases e
      obtain ⟨C, dx, fs', h0, h1, _⟩ := s.at' n p _ h q
      exact ⟨p, C, dx, fs', rfl, h0, h1⟩
    · cases e
  | _ => cases e
structure InsT (K : PySem.W.Frag) (C : Addr) : Prop where
  cl : Cls K C
  si : SlX.SIsi K C
structure IsOk (K : PySem.W.Frag) (mg : Str → Option Value) (c : Str) (os : List Str) : Prop where
  ex : ∃ C, mg c = some (.ref C)
  it : ∀ c' ∈ c :: os, ∀ C', mg c' = some (.ref C') → InsT K C'
  ty : ∀ C, mg c = some (.ref C) → ∀ T : Ty, PySem.W.kitOne K (.type T.nm) (.ref C) = some false ∧ PySem.W.notFirst K C (.type T.nm) = true
  ot : ∀ C, mg c = some (.ref C) → ∀ c' ∈ os, ∀ C', mg c' = some (.ref C') → PySem.W.kitOne K (.ref C') (.ref C) = some false ∧ PySem.W.notFirst K C (.ref C') = true
section
variable {X : Cx} {W : WX} {a b e : Expr} {fa fb : ME} {c : Str} {os : List Str} {k : Nat} {ps : List Str} {g : MF} {p p2 pos : Pos}
def lenOM (c : Str) (g : MF) (l : List IV) : M IV := fun st => match l with
  | [a] => if clsI st a = some c then (match g [a] st with
    | some (.val (.int i), st') => if 0 ≤ i ∧ i < 2 ^ 63 then some (.val (.int i), st') else none
    | _ => none) else (lenI st a).map fun v => (.val v, st)
  | _ => none
def rLenO (K : PySem.W.Frag) (mg : Str → Option Value) (c : Str) (g : MF) : List V → Hp → VK → Prop := fun xs H Q =>
  (∃ a C dx fs, xs = [.ref a] ∧ mg c = some (.ref C) ∧ H a = some (.ins C dx fs) ∧ spM K mg 1 g [.ref a] H (fun v H2 => ∃ i, v = .int i ∧ (0 ≤ i ∧ i < 2 ^ 63) ∧ Q v H2) E0) ∨ ∃ x n, xs = [x] ∧ LenV K x H n ∧ Q (.int n) H
theorem run_in1 {CX : CXT} {f : Addr} {fd : FuncData} {sp : Sp} {E : XK} {pins : List (Addr × Obj)} {σ : L2.St} {H : Hp} {s : Shared} {Q : VK} {us : List Value} {vs : List V} {A : Around} (F : FnOk X.prog X.w X.K X.mg X.base CX k f fd ps sp) (hr : Room k A) (e0 : Env0 X.prog X.w X.K X.mg X.base A X.stack s H) (hb : Binds X.K fd ps []) (hx : Passes CX X E)
    (I : Inv X pins σ H s) (r : Vals vs us) (h : sp vs H Q E) : wpAny (model X.prog X.w) A (call (.ref f) us) (EP X pins σ Q) X.xe s := by
  have hl : us.length = ps.length := by rw [← r.length]; exact F.len _ _ _ _ h
  have b := hb s us I.kIn (by rw [List.append_nil]; exact hl)
  rw [List.append_nil] at b
  refine wpAny_call (codeAny_mono (F.run A X.stack s H ⟨us, []⟩ us vs Q E hr e0 b r h) fun r s' hq => ?_)
  cases r with
  | error e => exact hx pins σ H s e s' I hq
  | ok fl =>
    cases fl with
    | ret u => exact I.after hq
    | next => exact False.elim hq
    | brk => exact False.elim hq
    | cont => exact False.elim hq
theorem call_lenO (F : MetOk X.prog X.w X.K X.mg X.base k c "__len__" ps g) (hn : ps.length = 1) (hr : Room (k + 1) X.A) : CallR X (.builtin "len") (rLenO X.K X.mg c g) := by
  intro pins s σ H xs us Q I r h
  rcases h with ⟨a, C, dx, fs, rfl, hC, hH, hsp⟩ | h
  · obtain ⟨C', f, fd, h1, h2, h3, h4, h5⟩ := F.ex
    rw [hC] at h1
    cases h1
    obtain ⟨u, rfl, ru⟩ := r.one
    cases (show u = Value.ref a from ru)
    obtain ⟨mA, O, _⟩ := ins_get I.hok hH
    obtain ⟨od, J, _⟩ := O.look
    obtain ⟨m, hF⟩ := I.fr
    have hsp' : spM X.K X.mg ps.length g [.ref a] H (fun v H2 => ∃ i, v = .int i ∧ (0 ≤ i ∧ i < 2 ^ 63) ∧ Q v H2) E0 := by rw [hn]; exact hsp
    refine PySem.W.len_K hF I.ok.mod.kin J h2 h3 (wpAny_mono (run_in1 (us := [.ref a]) (vs := [.ref a]) h5 hr.in1 I.env0.in1 h4 passL I (.cons rfl .nil) hsp') (fun v s' z => ?_) fun _ _ x => x)
    obtain ⟨z', H', I', rz, i, rfl, hi, q⟩ := z
    obtain ⟨t, e⟩ := (show ∃ t, v = Value.int i t from rz)
    cases e
    exact ⟨hi, .int i, H', I'.tok (s'.toks + 1), ⟨s'.toks, rfl⟩, q⟩
  · exact call_len pins s σ H xs us Q I r h
theorem v_lenO {K : PySem.W.Frag} {mg : Str → Option Value} : CallV K mg (rLenO K mg c g) (lenOM c g) := by
  intro W σ cm st H xs l o st' Q s hx e out
  unfold lenOM at e
  split at e
  · rename_i a
    obtain ⟨x, rfl, hx1⟩ := rep1 hx
    split at e
    · rename_i hc
      obtain ⟨p, C, dx, fs, rfl, h1, h2⟩ := clsI_rep s hx1 hc
      split at e
      · rename_i i st1 hg
        split at e
        · rename_i hi
          cases e
          refine .inl ⟨p, C, dx, fs, rfl, h1, h2, rfl, cm, st, [a], _, _, s, hx, hg, fun cm' H' E s' z hz => ?_⟩
          cases hz
          exact ⟨i, rfl, hi, out cm' H' E s' _ (.int i)⟩
        · cases e
      · cases e
    · exact .inr (v_len W σ cm st H [x] [a] o st' Q s hx e out)
  · cases e
theorem e_lenO (F : MetOk X.prog X.w X.K X.mg X.base k c "__len__" ps g) (hn : ps.length = 1) (hr : Room (k + 1) X.A) (hg : Gl X "len") (hm : X.mg "len" = none) {ga : MA} {es : List Expr} (ha : PA' X W (e :: es) ga)
    (he : starEach (e :: es) X.env = (false, eval e X.env) :: starEach es X.env := by rfl) (hpl : (backTo pos (starEach es X.env)).any (·.1) = false := by rfl) : PE' X W (.Call (.Name "len" p) (e :: es) [] pos) (mCall (lenOM c g) ga) :=
  e_callB (call_lenO F hn hr) v_lenO hg hm (by decide +kernel) ha (by decide) (by decide) he hpl
end
end MK
namespace MK
open PySem PySem.Spec PyProof.Rows L2
theorem hu65 {k : Nat} {A : Around} (hr : Room k A) : A.units + 65 < cLine := by have := hr.un; omega
def BindsAll (fd : FuncData) (ps : List Str) : Prop := ∀ us : List Value, us.length = ps.length → bindArgs fd ⟨us, []⟩ = pure (ps.zip us)
theorem BindsAll.binds {K : PySem.W.Frag} {fd : FuncData} {ps : List Str} (h : BindsAll fd ps) : Binds K fd ps [] := .all h
structure FunOk (K : PySem.W.Frag) (mg : Str → Option Value) (x : Str) (st : Stmt) (ps : List Str) : Prop where
  ex : ∃ f fd, mg x = some (.ref f) ∧ Fun K x x st f fd ∧ BindsAll fd ps
structure MetFun (K : PySem.W.Frag) (mg : Str → Option Value) (c m qual : Str) (st : Stmt) (ps : List Str) : Prop where
  ex : ∃ C f fd, mg c = some (.ref C) ∧ PySem.W.findIn K (.ref C) m = some (some (.ref f)) ∧ PySem.W.isFn K (.ref f) = true ∧ Fun K m qual st f fd ∧ BindsAll fd ps
structure ClsFun (K : PySem.W.Frag) (mg : Str → Option Value) (c qual : Str) (st : Stmt) (ps : List Str) : Prop where
  ex : ∃ C f fd, mg c = some (.ref C) ∧ Mk K C f ∧ Fun K "__init__" qual st f fd ∧ BindsAll fd ps
structure ExcFun (K : PySem.W.Frag) (mg : Str → Option Value) (c f qual : Str) (st : Stmt) (ps : List Str) : Prop where
  ex : ∃ C fI fd, mg c = some (.ref C) ∧ OexC K C ∧ PySem.W.findIn K (.ref C) f = some none ∧ PySem.W.findIn K (.ref C) "__init__" = some (some (.ref fI)) ∧ PySem.W.typeIn K (.ref fI) = some (.type "function") ∧ XF K C f ∧ Fun K "__init__" qual st fI fd ∧ BindsAll fd ps
section
variable {P : Program} {w : World} {K : PySem.W.Frag} {mg : Str → Option Value} {base : Heap} {x c m f qual : Str} {st : Stmt} {N ps : List Str} {k : Nat} {body : MS}
abbrev Body (P : Program) (w : World) (K : PySem.W.Frag) (mg : Str → Option Value) (base : Heap) (N : List Str) (qual : Str) (st : Stmt) (k : Nat) (body : MS) : Prop :=
  ∀ (f : Addr) (cdv : Value) (A : Around) (outer : List Env) (s : Shared) (H : Hp) (E : XK), Room k (A.deeper (envOfC qual (defScope st) s.heap.objs.size f cdv)) → PSs (cxOf (L2.CX P w) P w K mg base N qual (defScope st) f cdv A outer s H E) (defBody st) (rdS K mg (XW E) body)
theorem fn_ok {f : Addr} {fd : FuncData} (keep : Bool) (F : Fun K x qual st f fd) (S : FnScope N ps (defScope st)) (h : Body P w K mg base N qual st k body) : FnOk P w K mg base (L2.CX P w) (k + 1) f fd ps (spM K mg ps.length (finM keep N.length body)) :=
  F.okX S (fun vs H Q E h => h.1) fun cdv A outer s H vs Q E hr hsp => ⟨_, h f cdv A outer s H E hr, body_end hsp⟩
theorem def_okF (keep : Bool) (F : FunOk K mg x st ps) (S : FnScope N ps (defScope st)) (h : Body P w K mg base N x st k body) : DefOk P w K mg base (k + 1) x ps (finM keep N.length body) := by
  obtain ⟨f, fd, h1, h2, h3⟩ := F.ex
  exact ⟨⟨f, fd, h1, h2.kp, h3.binds, fn_ok keep h2 S h⟩⟩
theorem def_zero (F : FunOk K mg x st ps) : DefOk P w K mg base k x ps (fun _ _ => none) := by
  obtain ⟨f, fd, h1, h2, h3⟩ := F.ex
  refine ⟨⟨f, fd, h1, h2.kp, h3.binds, fun vs H Q E h => h.1, fun A outer s H args us vs Q E hr e0 hb hv h => ?_⟩⟩
  obtain ⟨_, _, _, _, _, _, _, _, e, _⟩ := h
  cases e
theorem met_ok (keep : Bool) (F : MetFun K mg c m qual st ps) (S : FnScope N ps (defScope st)) (h : Body P w K mg base N qual st k body) : MetOk P w K mg base (k + 1) c m ps (finM keep N.length body) := by
  obtain ⟨C, f, fd, h1, h2, h3, h4, h5⟩ := F.ex
  exact ⟨⟨C, f, fd, h1, h2, h3, h5.binds, fn_ok keep h4 S h⟩⟩
theorem cls_ok (keep : Bool) (F : ClsFun K mg c qual st ps) (S : FnScope N ps (defScope st)) (h : Body P w K mg base N qual st k body) : ClsOk P w K mg base (k + 1) c ps (finM keep N.length body) := by
  obtain ⟨C, f, fd, h1, h2, h3, h4⟩ := F.ex
  exact ⟨⟨C, f, fd, h1, h2, h4.binds, fn_ok keep h3 S h⟩⟩
theorem exc_ok {v : Str} (F : ExcFun K mg c f qual st ["self", v]) (S : FnScope ["self", v] ["self", v] (defScope st))
    (h : ∀ (g : Addr) (cdv : Value) (A : Around) (outer : List Env) (s : Shared) (H : Hp) (E : XK), PSs (cxOf (L2.CX P w) P w K mg base ["self", v] qual (defScope st) g cdv A outer s H E) (defBody st) (tOst K f (tVar 0) (tVar 1))) : ExcOk P w K mg base c f := by
  obtain ⟨C, fI, fd, h1, h2, h3, h4, h5, h6, h7, h8⟩ := F.ex
  refine ⟨⟨C, fI, fd, ["self", v], h1, h2, h3, h4, h5, h6, h8.binds, h7.okX S (fun vs H Q E h => ?_) fun cdv A outer s H vs Q E hr hsp => ⟨_, h fI cdv A outer s H E, ?_⟩⟩⟩
  · obtain ⟨a, C, y, rfl, _⟩ := h
    rfl
  · obtain ⟨a, C, y, rfl, t1, t2, t3, k⟩ := hsp
    exact ⟨y, rfl, .ref a, rfl, a, C, rfl, t1, t2, .inl ⟨t3, fun dx hdx ne => k dx hdx ne⟩⟩
theorem e_gI {X : Cx} {W : WX} {pos : Pos} {x : Str} {i : Int} (hm : ∃ t, X.mg x = some (.int i t)) (hg : Gl X x := by rfl) (hd : (x == ("__debug__" : Str)) = false := by decide) : PE' X W (.Name x pos) (mC (.int i)) := by
  obtain ⟨t, hm⟩ := hm
  exact e_globI hg hm hd
end
def subT (tab : List (Str × Str × Bool)) (c x : Str) : Option Bool := match tab with
  | [] => none
  | (c', x', b) :: r => if c = c' ∧ x = x' then some b else subT r c x
theorem subOk_of {K : PySem.W.Frag} {mg : Str → Option Value} : ∀ {tab : List (Str × Str × Bool)}, (∀ t ∈ tab, ∀ C Cx, mg t.1 = some (.ref C) → mg t.2.1 = some (.ref Cx) → PySem.W.exmOne K (.ref C) (.ref Cx) = some t.2.2) → SubOk K mg (subT tab)
  | [], _ => fun c x b C Cx h _ _ => by cases h
  | (c', x', b') :: r, h => fun c x b C Cx e h1 h2 => by
    unfold subT at e
    split at e
    · rename_i q
      cases e
      obtain ⟨rfl, rfl⟩ := q
      exact h _ List.mem_cons_self C Cx h1 h2
    · exact subOk_of (fun t m => h t (List.mem_cons_of_mem _ m)) c x b C Cx e h1 h2
def spLaw (K : PySem.W.Frag) : Sp := fun vs H Q _ => ∃ (a : Addr) (ns : List Int), vs = [.ref a] ∧ SqL K H a (ns.map V.int) ∧ ns.length ≤ 63 ∧ Only H ∧ ∀ H', Q (.bl true) H'
theorem sp_law {K : PySem.W.Frag} {mg : Str → Option Value} {g : MF} (hg : ∀ ns : List Int, ns.length ≤ 63 → ∃ st', g [.scr (ns.map .int)] [] = some (.val (.bl true), st')) : ∀ vs H Q E, spLaw K vs H Q E → spM K mg 1 g vs H Q E := by
  intro vs H Q E ⟨a, ns, e, hs, hl, hO, k⟩
  subst e
  obtain ⟨st', e⟩ := hg ns hl
  refine ⟨rfl, ⟨[], [], fun _ h => h⟩, [], [.scr (ns.map .int)], _, st', ⟨rfl, .nil, fun n a c h => by simp at h, fun a h => by simp at h⟩, .cons (.scr ?_ (rep_ints ns)) .nil, e, fun cm' H' E s x hx => ?_⟩
  · rcases hs with (h | ⟨o, h⟩) | h
    · rcases hO a with z | ⟨o, xs, z⟩
      · rw [z] at h; cases h
      · rw [z] at h; cases h
    · exact .inl ⟨⟨o, h⟩, by simp⟩
    · exact .inr h
  · cases hx
    exact k H'
theorem walk {l : PySem.W.OpenLaw} {q : Program} {loose : List Str} {XP : (Str → Option Value) → Heap → Prop} {YP : World → Heap → Prop} {d : DefRec} {K : Params → PySem.W.Frag} (k : Nat) (hr : Room k callerA) (hn : l.most = some 63) (hdf : d.params.defaults = [])
    (hY : ∀ (w : World) (h : Heap), YP w h → (K w.params).In h)
    (F : ∀ (w : World) (mg : Str → Option Value) (fa : Addr) (h : Heap), (K w.params).In h → h.Ns mainGlobals mg → mg d.name = some (.ref fa) →
      ∃ fd : FuncData, BindsAll fd ["script"] ∧ ∀ base : Heap, (K w.params).In base → base.Ns mainGlobals mg → FnOk l.prog w (K w.params) mg base (L2.CX l.prog w) k fa fd ["script"] (spLaw (K w.params))) :
    PySem.W.WalkO q loose XP YP l.row.toRowW d [] (fun f vs => PySem.call f vs) :=
  L2.walk_of (n := 63) (k := k) (x := "script") (CX := fun w => L2.CX l.prog w) (sp := fun w => spLaw (K w.params)) hn (by decide) hdf hr hY (fun w mg fa h a b c => by
    obtain ⟨fd, h1, h2⟩ := F w mg fa h a b c
    exact ⟨fd, fun s u => .of_eq (h1 [u] rfl), h2⟩) (fun _ _ a ns hl hO hS => ⟨a, ns, rfl, hS, hl, hO, fun _ => rfl⟩) fun _ _ _ _ _ h => by
    obtain ⟨_, _, _, _, _, _, _, _, _, _, _, _, z⟩ := h
    exact z.elim
theorem law_fn {P : Program} {w : World} {K : PySem.W.Frag} {mg : Str → Option Value} {base : Heap} {f : Addr} {fd : FuncData} {qual : Str} {st : Stmt} {N : List Str} {k : Nat} {body : MS} {x : Str} (F : Fun K x qual st f fd) (S : FnScope N ["script"] (defScope st)) (h : Body P w K mg base N qual st k body)
    (hg : ∀ ns : List Int, ns.length ≤ 63 → ∃ st', finM false N.length body [.scr (ns.map .int)] [] = some (.val (.bl true), st')) : FnOk P w K mg base (L2.CX P w) (k + 1) f fd ["script"] (spLaw K) :=
  (fn_ok false F S h).imp (sp_law hg)
end MK
namespace MK
open PySem PySem.Spec PyProof.Rows L2
section
variable {K : PySem.W.Frag} {h : Heap} {mg : Str → Option Value} {x c m f qual : Str} {st : Stmt} {ps : List Str}
theorem FunOk.of (X : K.In h) (G : h.Ns mainGlobals mg) {fa : Addr} {od an : Option Addr} {sl : Array (Option Value)} {oc kV dc pm cd ct : Value}
    (a : PySem.W.nsIn K mainGlobals x = some (some (.ref fa))) (l : K.lookup fa = some ⟨oc, od, .func (PySem.W.fnOf x x (defArgs st) (defBody st) (defScope st) .none kV dc pm an cd ct), sl⟩) (c : PySem.W.codeIn K cd x = true) (k : PySem.W.keepIn K (.ref fa) = true)
    (b : ∀ (kV dc pm cd ct : Value) (an : Option Addr), BindsAll (PySem.W.fnOf x x (defArgs st) (defBody st) (defScope st) .none kV dc pm an cd ct) ps) : FunOk K mg x st ps :=
  ⟨⟨fa, _, PySem.W.mg_of X G a, fun_mk l c k, b _ _ _ _ _ _⟩⟩
theorem MetFun.of (X : K.In h) (G : h.Ns mainGlobals mg) {fa C : Addr} {od an : Option Addr} {sl : Array (Option Value)} {oc kV dc pm cd ct : Value}
    (aC : PySem.W.nsIn K mainGlobals c = some (some (.ref C))) (a : PySem.W.findIn K (.ref C) m = some (some (.ref fa))) (i : PySem.W.isFn K (.ref fa) = true)
    (l : K.lookup fa = some ⟨oc, od, .func (PySem.W.fnOf m qual (defArgs st) (defBody st) (defScope st) .none kV dc pm an cd ct), sl⟩) (cc : PySem.W.codeIn K cd qual = true) (k : PySem.W.keepIn K (.ref fa) = true)
    (b : ∀ (kV dc pm cd ct : Value) (an : Option Addr), BindsAll (PySem.W.fnOf m qual (defArgs st) (defBody st) (defScope st) .none kV dc pm an cd ct) ps) : MetFun K mg c m qual st ps :=
  ⟨⟨C, fa, _, PySem.W.mg_of X G aC, a, i, fun_mk l cc k, b _ _ _ _ _ _⟩⟩
theorem ClsFun.of (X : K.In h) (G : h.Ns mainGlobals mg) {fa C : Addr} {od an : Option Addr} {sl : Array (Option Value)} {oc kV dc pm cd ct : Value}
    (aC : PySem.W.nsIn K mainGlobals c = some (some (.ref C))) (a : PySem.W.findIn K (.ref C) "__init__" = some (some (.ref fa))) (i : PySem.W.isFn K (.ref fa) = true)
    (l : K.lookup fa = some ⟨oc, od, .func (PySem.W.fnOf "__init__" qual (defArgs st) (defBody st) (defScope st) .none kV dc pm an cd ct), sl⟩) (cc : PySem.W.codeIn K cd qual = true) (k : PySem.W.keepIn K (.ref fa) = true)
    (mk : PySem.W.makesIn K C = true) (kc : PySem.W.keepIn K (.ref C) = true)
    (b : ∀ (kV dc pm cd ct : Value) (an : Option Addr), BindsAll (PySem.W.fnOf "__init__" qual (defArgs st) (defBody st) (defScope st) .none kV dc pm an cd ct) ps) : ClsFun K mg c qual st ps :=
  ⟨⟨C, fa, _, PySem.W.mg_of X G aC, ⟨mk, a, i, kc⟩, fun_mk l cc k, b _ _ _ _ _ _⟩⟩
theorem ExcFun.of (X : K.In h) (G : h.Ns mainGlobals mg) {fa C : Addr} {od an : Option Addr} {sl : Array (Option Value)} {oc kV dc pm cd ct : Value}
    {nm q : Str} {N : Addr} {bs bm : List Value} {sn : List Str} {sub : List Value} {ab : Bool} {col : Option Bool} {dd : Option Addr} {m0 m1 m2 m3 m5 : Option Value}
    (aC : PySem.W.nsIn K mainGlobals c = some (some (.ref C)))
    (xL : K.lookup C = some (excClassObj nm q C N bs bm true sn sub ab col dd m0 m1 m2 m3 m5 "ValueError.__new__")) (rv : PySem.HandSPX.refsVE bm = true)
    (sa : PySem.W.findIn K (.ref C) "__setattr__" = some (some (.builtin "object.__setattr__"))) (ga : PySem.W.findIn K (.ref C) "__getattribute__" = some (some (.builtin "BaseException.__getattribute__"))) (gg : PySem.W.findIn K (.ref C) "__getattr__" = some none)
    (nf : PySem.W.findIn K (.ref C) f = some none) (a : PySem.W.findIn K (.ref C) "__init__" = some (some (.ref fa))) (t : PySem.W.typeIn K (.ref fa) = some (.type "function"))
    (l : K.lookup fa = some ⟨oc, od, .func (PySem.W.fnOf "__init__" qual (defArgs st) (defBody st) (defScope st) .none kV dc pm an cd ct), sl⟩) (cc : PySem.W.codeIn K cd qual = true) (k : PySem.W.keepIn K (.ref fa) = true)
    (kC : PySem.W.keepIn K (.ref C) = true) (eC : PySem.W.subIn K (.ref C) (.type "BaseException") = some true) (tC : PySem.W.typeIn K (.ref C) = some (.type "type")) (hC : PySem.W.hasDictIn K C = true)
    (b : ∀ (kV dc pm cd ct : Value) (an : Option Addr), BindsAll (PySem.W.fnOf "__init__" qual (defArgs st) (defBody st) (defScope st) .none kV dc pm an cd ct) ps) : ExcFun K mg c f qual st ps :=
  ⟨⟨C, fa, _, PySem.W.mg_of X G aC, ⟨⟨nm, q, N, bs, bm, sn, sub, ab, col, dd, m0, m1, m2, m3, m5, xL, rv⟩, sa, eC, tC, kC⟩, nf, a, t, ⟨⟨ga, gg, eC, hC⟩, nf⟩, fun_mk l cc k, b _ _ _ _ _ _⟩⟩
theorem kit_sub {t : Value} {C : Addr} {b : Bool} (hn : (t == .ref C) = false) (i : PySem.W.isClsIn K C = true) (tC : PySem.W.typeIn K (.ref C) = some (.type "type")) (s : PySem.W.subIn K t (.ref C) = some b) : PySem.W.kitOne K t (.ref C) = some b := by
  unfold PySem.W.kitOne
  rw [if_neg (by rw [hn]; decide)]
  show (if ((PySem.W.clsIn K C).isSome && PySem.W.typeIn K (.ref C) == some (.type "type")) = true then PySem.W.subIn K t (.ref C) else none) = some b
  have i' : (PySem.W.clsIn K C).isSome = true := i
  rw [if_pos (by rw [i', tC]; rfl)]
  exact s
theorem exm_sub {C Cx : Addr} {b : Bool} (e : PySem.W.subIn K (.ref Cx) (.type "BaseException") = some true) (i : PySem.W.isClsIn K Cx = true) (tC : PySem.W.typeIn K (.ref Cx) = some (.type "type")) (s : PySem.W.subIn K (.ref C) (.ref Cx) = some b) : PySem.W.exmOne K (.ref C) (.ref Cx) = some b := by
  have e1 : (PySem.W.subIn K (.ref Cx) (.type "BaseException") == some true) = true := by rw [e]; rfl
  have e2 : ((PySem.W.clsIn K Cx).isSome && PySem.W.typeIn K (.ref Cx) == some (.type "type")) = true := by
    have i' : (PySem.W.clsIn K Cx).isSome = true := i
    rw [i', tC]; rfl
  show (if (PySem.W.subIn K (.ref Cx) (.type "BaseException") == some true) = true then (if ((PySem.W.clsIn K Cx).isSome && PySem.W.typeIn K (.ref Cx) == some (.type "type")) = true then PySem.W.subIn K (.ref C) (.ref Cx) else none) else none) = some b
  rw [if_pos e1, if_pos e2]
  exact s
structure Own (K : PySem.W.Frag) (mg : Str → Option Value) (c : Str) (C : Addr) : Prop where
  m : mg c = some (.ref C)
  i : InsT K C
  cl : PySem.W.isClsIn K C = true
  t : PySem.W.typeIn K (.ref C) = some (.type "type")
theorem Own.of (X : K.In h) (G : h.Ns mainGlobals mg) {C : Addr} (aC : PySem.W.nsIn K mainGlobals c = some (some (.ref C)))
    (pg : PySem.W.plainGet K C Str.empty = true) (hd : PySem.W.hasDictIn K C = true) (po : PySem.W.plainOver K C = true) (sa : PySem.W.findIn K (.ref C) "__setattr__" = some (some (.builtin "object.__setattr__")))
    (ca : PySem.W.findIn K (.ref C) "__class__" = some (some (.builtin "object.__class__"))) (cn : PySem.W.specialIn K (.builtin "object.__class__") "__get__" = some (some (.builtin "getset_descriptor.__get__")))
    (ct : PySem.W.takesIn K (.builtin "object.__class__") = some true) (cm : PySem.W.mroIn K C (.type "object") = some true) (cl : PySem.W.isClsIn K C = true) (t : PySem.W.typeIn K (.ref C) = some (.type "type")) : Own K mg c C :=
  ⟨PySem.W.mg_of X G aC, ⟨⟨pg, hd, po, sa⟩, ⟨ca, cn, ct, cm⟩⟩, cl, t⟩
theorem IsOk.of {C : Addr} (o : Own K mg c C) (s1 : PySem.W.subIn K (.type "NoneType") (.ref C) = some false) (s2 : PySem.W.subIn K (.type "bool") (.ref C) = some false) (s3 : PySem.W.subIn K (.type "int") (.ref C) = some false)
    (s4 : PySem.W.subIn K (.type "str") (.ref C) = some false) (s5 : PySem.W.subIn K (.type "tuple") (.ref C) = some false) (s6 : PySem.W.subIn K (.type "list") (.ref C) = some false) : IsOk K mg c [] := by
  have ty : ∀ T : Ty, PySem.W.subIn K (.type T.nm) (.ref C) = some false := fun T => by cases T <;> assumption
  refine ⟨⟨C, o.m⟩, fun c' hc C' h => ?_, fun C' h T => ?_, fun C' h c' hc => by cases hc⟩
  · simp at hc
    subst hc
    rw [o.m] at h; cases h
    exact o.i
  · rw [o.m] at h; cases h
    refine ⟨kit_sub rfl o.cl o.t (ty T), ?_⟩
    unfold PySem.W.notFirst
    rw [ty T]
    simp
theorem FldOk.of {C : Addr} (o : Own K mg c C) (n : PySem.W.findIn K (.ref C) f = some none) : FldOk K mg c f := fun C' h => by
  rw [o.m] at h; cases h
  exact ⟨o.i.cl, n⟩
theorem c_int (X : K.In h) (G : h.Ns mainGlobals mg) {i : Int} {t : Tok} (a : PySem.W.nsIn K mainGlobals x = some (some (.int i t))) : ∃ t, mg x = some (.int i t) := ⟨t, PySem.W.mg_of X G a⟩
theorem c_ref (X : K.In h) (G : h.Ns mainGlobals mg) {C : Addr} (a : PySem.W.nsIn K mainGlobals x = some (some (.ref C))) : ∃ C, mg x = some (.ref C) := ⟨C, PySem.W.mg_of X G a⟩
def SubRow (K : PySem.W.Frag) (mg : Str → Option Value) (t : Str × Str × Bool) : Prop := ∀ C Cx, mg t.1 = some (.ref C) → mg t.2.1 = some (.ref Cx) → PySem.W.exmOne K (.ref C) (.ref Cx) = some t.2.2
theorem SubRow.of (X : K.In h) (G : h.Ns mainGlobals mg) {c x : Str} {b : Bool} {C Cx : Addr} (a : PySem.W.nsIn K mainGlobals c = some (some (.ref C))) (ax : PySem.W.nsIn K mainGlobals x = some (some (.ref Cx)))
    (e : PySem.W.subIn K (.ref Cx) (.type "BaseException") = some true) (i : PySem.W.isClsIn K Cx = true) (tC : PySem.W.typeIn K (.ref Cx) = some (.type "type")) (s : PySem.W.subIn K (.ref C) (.ref Cx) = some b) : SubRow K mg (c, x, b) := by
  intro C' Cx' h1 h2
  rw [PySem.W.mg_of X G a] at h1
  rw [PySem.W.mg_of X G ax] at h2
  cases h1; cases h2
  exact exm_sub e i tC s
theorem rows_nil : ∀ t ∈ ([] : List (Str × Str × Bool)), SubRow K mg t := fun t h => by cases h
theorem rows_cons {t : Str × Str × Bool} {r : List (Str × Str × Bool)} (h : SubRow K mg t) (hr : ∀ t ∈ r, SubRow K mg t) : ∀ u ∈ t :: r, SubRow K mg u := fun u hu => by
  rcases List.mem_cons.mp hu with q | q
  · subst q; exact h
  · exact hr u q
end
end MK
namespace MK
open PySem L2
class Rule (P : Prop) (H : outParam Prop) : Prop where
  ok : H → P
abbrev EX := Str → Str → IV → Sto → Prop
def we {α : Type} (m : M α) (st : Sto) (E : EX) (Q : α → Sto → Prop) : Prop := ∃ r st', m st = some (r, st') ∧ match r with
  | .val a => Q a st'
  | .exc c f v => E c f v st'
abbrev noX : EX := fun _ _ _ _ => False
section
variable {α β : Type} {m : M α} {k : α → M β} {st : Sto} {E : EX} {Q : α → Sto → Prop} {R : β → Sto → Prop}
theorem we_run {a : α} {st' : Sto} (e : m st = some (.val a, st')) (q : Q a st') : we m st E Q := ⟨_, _, e, q⟩
theorem we_mono {Q' : α → Sto → Prop} (h : we m st E Q) (i : ∀ a st', Q a st' → Q' a st') : we m st E Q' := by
  obtain ⟨r, st', e, q⟩ := h
  refine ⟨r, st', e, ?_⟩
  cases r with
  | val a => exact i _ _ q
  | exc c f v => exact q
theorem we_monoX {E' : EX} {Q' : α → Sto → Prop} (h : we m st E Q) (j : ∀ c f v st', E c f v st' → E' c f v st') (i : ∀ a st', Q a st' → Q' a st') : we m st E' Q' := by
  obtain ⟨r, st', e, q⟩ := h
  refine ⟨r, st', e, ?_⟩
  cases r with
  | val a => exact i _ _ q
  | exc c f v => exact j _ _ _ _ q
theorem we_nox {Q' : α → Sto → Prop} (h : we m st noX Q) (i : ∀ a st', Q a st' → Q' a st') : we m st E Q' := we_monoX h (fun _ _ _ _ z => z.elim) i
theorem we_bind (h : we m st E fun a st' => we (k a) st' E R) : we (M.bind m k) st E R := by
  obtain ⟨r, st', e, q⟩ := h
  cases r with
  | val a =>
    obtain ⟨r2, st2, e2, q2⟩ := q
    exact ⟨r2, st2, by rw [M.bind_run e]; exact e2, q2⟩
  | exc c f v => exact ⟨_, _, M.bind_run_exc e, q⟩
theorem we_noxM (h : we m st noX Q) : we (M.nox m) st E Q := by
  obtain ⟨r, st', e, q⟩ := h
  cases r with
  | val a => exact ⟨_, _, M.nox_run e, q⟩
  | exc c f v => exact q.elim
theorem we_lift {m : Loc → M α} {k : α → Loc → M Fl} {ls : Loc} {R : Fl → Sto → Prop} (h : we (m ls) st (fun c f v st' => R (.ex ls c f v) st') fun a st' => we (k a ls) st' E R) : we (liftS m k ls) st E R := by
  obtain ⟨r, st', e, q⟩ := h
  cases r with
  | val a =>
    obtain ⟨r2, st2, e2, q2⟩ := q
    exact ⟨r2, st2, by unfold liftS; rw [e]; exact e2, q2⟩
  | exc c f v => exact ⟨.val (.ex ls c f v), st', by unfold liftS; rw [e], q⟩
end
section
variable {st : Sto} {E : EX} {ls : Loc} {Q : IV → Sto → Prop} {QA : List IV → Sto → Prop} {QB : Bool → Sto → Prop} {QF : Fl → Sto → Prop} {fa fb fc m : ME} {ga : MA} {c tc ta tb : MT} {f g : MS}
theorem we_var {i : Nat} {v : IV} (h : ls[i]? = some (some v)) (q : Q v st) : we (mVar i ls) st E Q := by
  refine ⟨.val v, st, ?_, q⟩
  unfold mVar
  rw [h]; rfl
theorem we_c {v : IV} (q : Q v st) : we (mC v ls) st E Q := ⟨_, _, rfl, q⟩
instance i_we_c {v : IV} : Rule (we (mC v ls) st E Q) (Q v st) := ⟨we_c⟩
theorem we_m2 {o : Sto → IV → IV → Option IV} (h : we (fa ls) st E fun a st1 => we (fb ls) st1 E fun b st2 => ∃ v, o st2 a b = some v ∧ Q v st2) : we (m2 o fa fb ls) st E Q :=
  we_bind (we_mono h fun a st1 h1 => we_bind (we_mono h1 fun b st2 ⟨v, e, q⟩ => ⟨.val v, st2, by unfold opM; rw [e]; rfl, q⟩))
instance i_we_m2 {o : Sto → IV → IV → Option IV} : Rule (we (m2 o fa fb ls) st E Q) (we (fa ls) st E fun a st1 => we (fb ls) st1 E fun b st2 => ∃ v, o st2 a b = some v ∧ Q v st2) := ⟨we_m2⟩
theorem we_m1 {o : IV → Option IV} (h : we (fa ls) st E fun a st1 => ∃ v, o a = some v ∧ Q v st1) : we (m1 o fa ls) st E Q :=
  we_bind (we_mono h fun a st1 ⟨v, e, q⟩ => ⟨.val v, st1, by rw [e]; rfl, q⟩)
instance i_we_m1 {o : IV → Option IV} : Rule (we (m1 o fa ls) st E Q) (we (fa ls) st E fun a st1 => ∃ v, o a = some v ∧ Q v st1) := ⟨we_m1⟩
theorem we_B (h : we (m ls) st E fun v st1 => ∃ b, v = .bl b ∧ QB b st1) : we (mB m ls) st E QB :=
  we_bind (we_mono h fun a st1 ⟨v, e, q⟩ => by subst e; exact ⟨_, _, rfl, q⟩)
instance i_we_B  : Rule (we (mB m ls) st E QB) (we (m ls) st E fun v st1 => ∃ b, v = .bl b ∧ QB b st1) := ⟨we_B⟩
theorem we_T (h : we (m ls) st E fun v st1 => ∃ b, truthI st1 v = some b ∧ QB b st1) : we (mT m ls) st E QB :=
  we_bind (we_mono h fun a st1 ⟨v, e, q⟩ => ⟨.val v, st1, by unfold truthM; rw [e]; rfl, q⟩)
instance i_we_T  : Rule (we (mT m ls) st E QB) (we (m ls) st E fun v st1 => ∃ b, truthI st1 v = some b ∧ QB b st1) := ⟨we_T⟩
theorem we_not (h : we (tc ls) st E fun b st1 => QB (!b) st1) : we (mNot tc ls) st E QB := we_bind (we_mono h fun a st1 q => ⟨_, _, rfl, q⟩)
instance i_we_not  : Rule (we (mNot tc ls) st E QB) (we (tc ls) st E fun b st1 => QB (!b) st1) := ⟨we_not⟩
theorem we_notV (h : we (m ls) st E fun v st1 => ∃ b, truthI st1 v = some b ∧ Q (.bl (!b)) st1) : we (mNotV m ls) st E Q :=
  we_bind (we_mono h fun a st1 ⟨b, e, q⟩ => we_bind ⟨.val b, st1, by unfold truthM; rw [e]; rfl, ⟨_, _, rfl, q⟩⟩)
instance i_we_notV  : Rule (we (mNotV m ls) st E Q) (we (m ls) st E fun v st1 => ∃ b, truthI st1 v = some b ∧ Q (.bl (!b)) st1) := ⟨we_notV⟩
theorem we_ite {α : Type} {t f : Loc → M α} {Q : α → Sto → Prop} (h : we (c ls) st E fun b st1 => (b = true → we (t ls) st1 E Q) ∧ (b = false → we (f ls) st1 E Q)) : we (mIte c t f ls) st E Q :=
  we_bind (we_mono h fun b st1 ⟨h1, h2⟩ => by
    cases b with
    | true => exact h1 rfl
    | false => exact h2 rfl)
instance i_we_ite {α : Type} {t f : Loc → M α} {Q : α → Sto → Prop} : Rule (we (mIte c t f ls) st E Q) (we (c ls) st E fun b st1 => (b = true → we (t ls) st1 E Q) ∧ (b = false → we (f ls) st1 E Q)) := ⟨we_ite⟩
theorem we_TB {b : Bool} (q : QB b st) : we (mTB b ls) st E QB := ⟨_, _, rfl, q⟩
instance i_we_TB {b : Bool} : Rule (we (mTB b ls) st E QB) (QB b st) := ⟨we_TB⟩
theorem we_andV (h : we (fa ls) st E fun v st1 => ∃ b, truthI st1 v = some b ∧ (b = true → we (fb ls) st1 E Q) ∧ (b = false → Q v st1)) : we (mAndV fa fb ls) st E Q :=
  we_bind (we_mono h fun v st1 ⟨b, e, h1, h2⟩ => we_bind ⟨.val b, st1, by unfold truthM; rw [e]; rfl, by
    cases b with
    | true => exact h1 rfl
    | false => exact ⟨_, _, rfl, h2 rfl⟩⟩)
instance i_we_andV  : Rule (we (mAndV fa fb ls) st E Q) (we (fa ls) st E fun v st1 => ∃ b, truthI st1 v = some b ∧ (b = true → we (fb ls) st1 E Q) ∧ (b = false → Q v st1)) := ⟨we_andV⟩
theorem we_chain {o o' : Sto → IV → IV → Option IV} (h : we (fa ls) st E fun a st1 => we (fb ls) st1 E fun b st2 => ∃ z, o st2 a b = some (.bl z) ∧ (z = true → we (fc ls) st2 E fun w st3 => ∃ v, o' st3 b w = some v ∧ Q v st3) ∧ (z = false → Q (.bl false) st2)) : we (mChain o o' fa fb fc ls) st E Q :=
  we_bind (we_mono h fun a st1 h1 => we_bind (we_mono h1 fun b st2 ⟨z, e, h2, h3⟩ => we_bind ⟨.val (.bl z), st2, by unfold opM; rw [e]; rfl, by
    cases z with
    | true => exact we_bind (we_mono (h2 rfl) fun w st3 ⟨v, e, q⟩ => ⟨.val v, st3, by unfold opM; rw [e]; rfl, q⟩)
    | false => exact ⟨_, _, rfl, h3 rfl⟩⟩))
instance i_we_chain {o o' : Sto → IV → IV → Option IV} : Rule (we (mChain o o' fa fb fc ls) st E Q) (we (fa ls) st E fun a st1 => we (fb ls) st1 E fun b st2 => ∃ z, o st2 a b = some (.bl z) ∧ (z = true → we (fc ls) st2 E fun w st3 => ∃ v, o' st3 b w = some v ∧ Q v st3) ∧ (z = false → Q (.bl false) st2)) := ⟨we_chain⟩
theorem we_nil (q : QA [] st) : we (mNil ls) st E QA := ⟨_, _, rfl, q⟩
instance i_we_nil  : Rule (we (mNil ls) st E QA) (QA [] st) := ⟨we_nil⟩
theorem we_cons (h : we (fa ls) st E fun v st1 => we (ga ls) st1 E fun l st2 => QA (v :: l) st2) : we (mCons fa ga ls) st E QA :=
  we_bind (we_mono h fun v st1 h1 => we_bind (we_mono h1 fun l st2 q => ⟨_, _, rfl, q⟩))
instance i_we_cons  : Rule (we (mCons fa ga ls) st E QA) (we (fa ls) st E fun v st1 => we (ga ls) st1 E fun l st2 => QA (v :: l) st2) := ⟨we_cons⟩
theorem we_tup (h : we (ga ls) st E fun l st1 => l.length ≤ 16777216 ∧ Q (.tup l) st1) : we (mTup ga ls) st E Q :=
  we_bind (we_mono h fun l st1 ⟨z, q⟩ => by rw [if_pos z]; exact ⟨_, _, rfl, q⟩)
instance i_we_tup  : Rule (we (mTup ga ls) st E Q) (we (ga ls) st E fun l st1 => l.length ≤ 16777216 ∧ Q (.tup l) st1) := ⟨we_tup⟩
theorem we_newF {l : List IV} (q : Q (.lst l) st) : we (newL false l) st E Q := ⟨_, _, rfl, q⟩
instance i_we_newF {l : List IV} : Rule (we (newL false l) st E Q) (Q (.lst l) st) := ⟨we_newF⟩
theorem we_newT {l : List IV} (p : pureL l = true) (q : Q (.cell st.length) (st ++ [.lst l])) : we (newL true l) st E Q := ⟨.val (.cell st.length), _, by unfold newL; simp only [p, if_true], q⟩
theorem we_lst {b : Bool} (h : we (ga ls) st E fun l st1 => l.length ≤ 16777216 ∧ we (newL b l) st1 E Q) : we (mLst b ga ls) st E Q :=
  we_bind (we_mono h fun l st1 ⟨z, q⟩ => by rw [if_pos z]; exact q)
instance i_we_lst {b : Bool} : Rule (we (mLst b ga ls) st E Q) (we (ga ls) st E fun l st1 => l.length ≤ 16777216 ∧ we (newL b l) st1 E Q) := ⟨we_lst⟩
theorem we_cat {b : Bool} (h : we (fa ls) st E fun x st1 => we (fb ls) st1 E fun y st2 => ∃ l m, lstOf st2 x = some l ∧ lstOf st2 y = some m ∧ l.length + m.length ≤ 16777216 ∧ we (newL b (l ++ m)) st2 E Q) : we (mCat b fa fb ls) st E Q :=
  we_bind (we_mono h fun x st1 h1 => we_bind (we_mono h1 fun y st2 ⟨l, m, e1, e2, z, r, st3, e, q⟩ => ⟨r, st3, by unfold catL; simp only [e1, e2, z, if_true]; exact e, q⟩))
instance i_we_cat {b : Bool} : Rule (we (mCat b fa fb ls) st E Q) (we (fa ls) st E fun x st1 => we (fb ls) st1 E fun y st2 => ∃ l m, lstOf st2 x = some l ∧ lstOf st2 y = some m ∧ l.length + m.length ≤ 16777216 ∧ we (newL b (l ++ m)) st2 E Q) := ⟨we_cat⟩
theorem we_call {g : List IV → M IV} (h : we (ga ls) st E fun l st1 => we (g l) st1 E Q) : we (mCall g ga ls) st E Q := we_bind h
instance i_we_call {g : List IV → M IV} : Rule (we (mCall g ga ls) st E Q) (we (ga ls) st E fun l st1 => we (g l) st1 E Q) := ⟨we_call⟩
theorem we_pv1 {o : Sto → IV → Option IV} {a v : IV} (e : o st a = some v) (q : Q v st) : we (pv1 o [a]) st E Q := ⟨.val v, st, by unfold pv1; simp only [e]; rfl, q⟩
theorem we_callD {n : Nat} {g : List IV → M IV} (h : we (ga ls) st E fun l st1 => l.length = n ∧ we (g l) st1 E Q) : we (mCallD n g ga ls) st E Q :=
  we_bind (we_mono h fun l st1 ⟨z, q⟩ => by rw [if_pos z]; exact q)
instance i_we_callD {n : Nat} {g : List IV → M IV} : Rule (we (mCallD n g ga ls) st E Q) (we (ga ls) st E fun l st1 => l.length = n ∧ we (g l) st1 E Q) := ⟨we_callD⟩
theorem we_isi {T : Ty} (h : we (m ls) st E fun v st1 => ∃ t, tyI st1 v = some t ∧ Q (.bl (t.isa T)) st1) : we (mIsi T m ls) st E Q :=
  we_bind (we_mono h fun v st1 ⟨t, e, q⟩ => ⟨.val (.bl (t.isa T)), st1, by unfold isiM; rw [e]; rfl, q⟩)
instance i_we_isi {T : Ty} : Rule (we (mIsi T m ls) st E Q) (we (m ls) st E fun v st1 => ∃ t, tyI st1 v = some t ∧ Q (.bl (t.isa T)) st1) := ⟨we_isi⟩
theorem we_fld {c f : Str} (h : we (m ls) st E fun v st1 => ∃ w, fldM c f v st1 = some (.val w, st1) ∧ Q w st1) : we (mFld c f m ls) st E Q :=
  we_bind (we_mono h fun v st1 ⟨w, e, q⟩ => ⟨.val w, st1, e, q⟩)
instance i_we_fld {c f : Str} : Rule (we (mFld c f m ls) st E Q) (we (m ls) st E fun v st1 => ∃ w, fldM c f v st1 = some (.val w, st1) ∧ Q w st1) := ⟨we_fld⟩
theorem we_recv {n : Nat} {k : List IV} {Q : IV → Sto → Prop} (e : st[n]? = some (.lst k)) (q : Q (.cell n) st) : we (recvM (.cell n)) st E Q := ⟨.val (.cell n), st, by unfold recvM lstOf; simp only [e], q⟩
theorem we_mt {o : IV → List IV → M IV} (h : we (m ls) st E fun v st1 => ∃ n k, v = .cell n ∧ st1[n]? = some (.lst k) ∧ we (ga ls) st1 E fun l st2 => we (o (.cell n) l) st2 E Q) : we (mMt o m ga ls) st E Q :=
  we_bind (we_mono h fun v st1 ⟨n, k, e, z, h1⟩ => by
    subst e
    exact we_bind (we_recv z (we_bind h1)))
instance i_we_mt {o : IV → List IV → M IV} : Rule (we (mMt o m ga ls) st E Q) (we (m ls) st E fun v st1 => ∃ n k, v = .cell n ∧ st1[n]? = some (.lst k) ∧ we (ga ls) st1 E fun l st2 => we (o (.cell n) l) st2 E Q) := ⟨we_mt⟩
theorem we_app {n : Nat} {k : List IV} {x : IV} (e : st[n]? = some (.lst k)) (p : x.pure = true) (z : k.length < 16777216) (q : Q .non (st.set n (.lst (k ++ [x])))) : we (appM (.cell n) [x]) st E Q :=
  ⟨.val .non, _, by unfold appM; simp only [e, p, z, and_self, if_true], q⟩
theorem we_ins {n : Nat} {k : List IV} {x : IV} {i : Int} (e : st[n]? = some (.lst k)) (p : x.pure = true) (z : k.length < 16777216) (h0 : 0 ≤ i) (h1 : i < 2 ^ 63) (q : Q .non (st.set n (.lst (k.take i.toNat ++ [x] ++ k.drop i.toNat)))) : we (insM (.cell n) [.int i, x]) st E Q :=
  ⟨.val .non, _, by unfold insM; simp only [e, p, z, h0, h1, and_self, if_true], q⟩
theorem we_noPart {Q : Option Int → Sto → Prop} (q : Q none st) : we (mNoPart ls) st E Q := ⟨_, _, rfl, q⟩
instance i_we_noPart {Q : Option Int → Sto → Prop} : Rule (we (mNoPart ls) st E Q) (Q none st) := ⟨we_noPart⟩
theorem we_part {Q : Option Int → Sto → Prop} (h : we (m ls) st E fun v st1 => ∃ i, v = .int i ∧ Q (some i) st1) : we (mPart m ls) st E Q :=
  we_bind (we_mono h fun v st1 ⟨i, e, q⟩ => by subst e; exact ⟨_, _, rfl, q⟩)
instance i_we_part {Q : Option Int → Sto → Prop} : Rule (we (mPart m ls) st E Q) (we (m ls) st E fun v st1 => ∃ i, v = .int i ∧ Q (some i) st1) := ⟨we_part⟩
theorem we_sl {b : Bool} {lo hi : MO} (h : we (m ls) st E fun v st1 => we (lo ls) st1 E fun l st2 => we (hi ls) st2 E fun h st3 => we (slM b v l h) st3 E Q) : we (mSl b m lo hi ls) st E Q :=
  we_bind (we_mono h fun v st1 h1 => we_bind (we_mono h1 fun l st2 h2 => we_bind h2))
instance i_we_sl {b : Bool} {lo hi : MO} : Rule (we (mSl b m lo hi ls) st E Q) (we (m ls) st E fun v st1 => we (lo ls) st1 E fun l st2 => we (hi ls) st2 E fun h st3 => we (slM b v l h) st3 E Q) := ⟨we_sl⟩
theorem we_revI {b : Bool} (h : we (m ls) st E fun v st1 => we (revIM b v) st1 E Q) : we (mRevI b m ls) st E Q := we_bind h
instance i_we_revI {b : Bool} : Rule (we (mRevI b m ls) st E Q) (we (m ls) st E fun v st1 => we (revIM b v) st1 E Q) := ⟨we_revI⟩
theorem we_lc {b : Bool} {src : MI} {vs : List Nat} {t : MG} (h : we (src ls) st E fun p st1 => we (compL t tc m p.1 p.2 (wipeI ls vs) p.1) st1 noX fun l st2 => l.length ≤ 16777215 ∧ we (newL b l) st2 E Q) : we (mLc b src vs t tc m ls) st E Q :=
  we_bind (we_mono h fun p st1 h1 => we_bind (we_noxM (we_mono h1 fun l st2 ⟨z, q⟩ => by rw [if_pos z]; exact q)))
instance i_we_lc {b : Bool} {src : MI} {vs : List Nat} {t : MG} : Rule (we (mLc b src vs t tc m ls) st E Q) (we (src ls) st E fun p st1 => we (compL t tc m p.1 p.2 (wipeI ls vs) p.1) st1 noX fun l st2 => l.length ≤ 16777215 ∧ we (newL b l) st2 E Q) := ⟨we_lc⟩
theorem compL_pure {t : MG} {l0 : List IV} {k : Option Nat} {Q : List IV → Sto → Prop} {r : List IV} (pc : IV → Bool) (pe : IV → IV) (z : srcOk k l0 st) (step : ∀ v ∈ r, ∃ ls1, t ls v = some ls1 ∧ tc ls1 st = some (.val (pc v), st) ∧ (pc v = true → m ls1 st = some (.val (pe v), st)))
    (q : Q ((r.filter pc).map pe) st) : we (compL t tc m l0 k ls r) st noX Q := by
  refine ⟨.val ((r.filter pc).map pe), st, ?_, q⟩
  clear q
  induction r with
  | nil => unfold compL; rw [if_pos z]; rfl
  | cons v r ih =>
    obtain ⟨ls1, e1, e2, e3⟩ := step v List.mem_cons_self
    have ih' := ih fun w hw => step w (List.mem_cons_of_mem _ hw)
    unfold compL
    rw [if_pos z, e1]
    show M.bind (M.nox (tc ls1)) _ st = _
    rw [M.bind_run (M.nox_run e2)]
    cases q : pc v with
    | true =>
      rw [if_pos rfl, M.bind_run (M.nox_run (e3 q)), M.bind_run ih', List.filter_cons_of_pos q]
      rfl
    | false =>
      rw [if_neg (by decide), List.filter_cons_of_neg (by rw [q]; decide)]
      exact ih'
theorem we_src {QS : Src → Sto → Prop} (h : we (m ls) st E fun v st1 => ∃ p, srcM v st1 = some (.val p, st1) ∧ QS p st1) : we (mSrc m ls) st E QS := we_bind (we_mono h fun v st1 ⟨p, e, q⟩ => ⟨_, _, e, q⟩)
instance i_we_src {QS : Src → Sto → Prop} : Rule (we (mSrc m ls) st E QS) (we (m ls) st E fun v st1 => ∃ p, srcM v st1 = some (.val p, st1) ∧ QS p st1) := ⟨we_src⟩
theorem we_rng1 {QS : Src → Sto → Prop} (h : we (ga ls) st E fun l st1 => ∃ j, l = [.int j] ∧ (-(2 ^ 62) ≤ j ∧ j < 2 ^ 62) ∧ QS (rangeI 0 j.toNat, none) st1) : we (mRng1 ga ls) st E QS :=
  we_bind (we_mono h fun v st1 ⟨j, e, z, q⟩ => by subst e; exact ⟨.val (rangeI 0 j.toNat, none), st1, by unfold rng1M; simp only [z, and_self, if_true], q⟩)
instance i_we_rng1 {QS : Src → Sto → Prop} : Rule (we (mRng1 ga ls) st E QS) (we (ga ls) st E fun l st1 => ∃ j, l = [.int j] ∧ (-(2 ^ 62) ≤ j ∧ j < 2 ^ 62) ∧ QS (rangeI 0 j.toNat, none) st1) := ⟨we_rng1⟩
theorem we_rng2 {QS : Src → Sto → Prop} (h : we (ga ls) st E fun l st1 => ∃ i j, l = [.int i, .int j] ∧ (-(2 ^ 62) ≤ i ∧ i < 2 ^ 62 ∧ -(2 ^ 62) ≤ j ∧ j < 2 ^ 62) ∧ QS (rangeI i (j - i).toNat, none) st1) : we (mRng2 ga ls) st E QS :=
  we_bind (we_mono h fun v st1 ⟨i, j, e, z, q⟩ => by subst e; exact ⟨.val (rangeI i (j - i).toNat, none), st1, by unfold rng2M; simp only [z, and_self, if_true], q⟩)
instance i_we_rng2 {QS : Src → Sto → Prop} : Rule (we (mRng2 ga ls) st E QS) (we (ga ls) st E fun l st1 => ∃ i j, l = [.int i, .int j] ∧ (-(2 ^ 62) ≤ i ∧ i < 2 ^ 62 ∧ -(2 ^ 62) ≤ j ∧ j < 2 ^ 62) ∧ QS (rangeI i (j - i).toNat, none) st1) := ⟨we_rng2⟩
theorem we_seq (h : we (f ls) st E fun fl st1 => match fl with | .nx ls' => we (g ls') st1 E QF | fl => QF fl st1) : we (mSeq f g ls) st E QF :=
  we_bind (we_mono h fun fl st1 h1 => by
    cases fl with
    | nx ls' => exact h1
    | rt v => exact ⟨_, _, rfl, h1⟩
    | bk l => exact ⟨_, _, rfl, h1⟩
    | ct l => exact ⟨_, _, rfl, h1⟩
    | ex l c f v => exact ⟨_, _, rfl, h1⟩)
instance i_we_seq  : Rule (we (mSeq f g ls) st E QF) (we (f ls) st E fun fl st1 => match fl with | .nx ls' => we (g ls') st1 E QF | fl => QF fl st1) := ⟨we_seq⟩
theorem we_pass (q : QF (.nx ls) st) : we (mPass ls) st E QF := ⟨_, _, rfl, q⟩
instance i_we_pass  : Rule (we (mPass ls) st E QF) (QF (.nx ls) st) := ⟨we_pass⟩
theorem we_expr (h : we (m ls) st (fun c f v st1 => QF (.ex ls c f v) st1) fun _ st1 => QF (.nx ls) st1) : we (mExpr m ls) st E QF := we_lift (we_mono h fun _ _ q => ⟨_, _, rfl, q⟩)
instance i_we_expr  : Rule (we (mExpr m ls) st E QF) (we (m ls) st (fun c f v st1 => QF (.ex ls c f v) st1) fun _ st1 => QF (.nx ls) st1) := ⟨we_expr⟩
theorem we_rt (h : we (m ls) st (fun c f v st1 => QF (.ex ls c f v) st1) fun v st1 => QF (.rt v) st1) : we (mRet m ls) st E QF := we_lift (we_mono h fun _ _ q => ⟨_, _, rfl, q⟩)
instance i_we_rt  : Rule (we (mRet m ls) st E QF) (we (m ls) st (fun c f v st1 => QF (.ex ls c f v) st1) fun v st1 => QF (.rt v) st1) := ⟨we_rt⟩
theorem we_if (h : we (tc ls) st (fun c f v st1 => QF (.ex ls c f v) st1) fun b st1 => (b = true → we (f ls) st1 E QF) ∧ (b = false → we (g ls) st1 E QF)) : we (mIfS tc f g ls) st E QF :=
  we_lift (we_mono h fun b st1 ⟨h1, h2⟩ => by
    cases b with
    | true => exact h1 rfl
    | false => exact h2 rfl)
instance i_we_if  : Rule (we (mIfS tc f g ls) st E QF) (we (tc ls) st (fun c f v st1 => QF (.ex ls c f v) st1) fun b st1 => (b = true → we (f ls) st1 E QF) ∧ (b = false → we (g ls) st1 E QF)) := ⟨we_if⟩
theorem we_set {i : Nat} (h : we (m ls) st (fun c f v st1 => QF (.ex ls c f v) st1) fun v st1 => QF (.nx (ls.set i (some v))) st1) : we (mSet i m ls) st E QF := we_lift (we_mono h fun _ _ q => ⟨_, _, rfl, q⟩)
instance i_we_set {i : Nat} : Rule (we (mSet i m ls) st E QF) (we (m ls) st (fun c f v st1 => QF (.ex ls c f v) st1) fun v st1 => QF (.nx (ls.set i (some v))) st1) := ⟨we_set⟩
theorem we_asg {t : MG} (h : we (m ls) st (fun c f v st1 => QF (.ex ls c f v) st1) fun v st1 => ∃ ls', t ls v = some ls' ∧ QF (.nx ls') st1) : we (mAsg t m ls) st E QF :=
  we_lift (we_mono h fun v st1 ⟨ls', e, q⟩ => ⟨.val (.nx ls'), st1, by rw [e]; rfl, q⟩)
instance i_we_asg {t : MG} : Rule (we (mAsg t m ls) st E QF) (we (m ls) st (fun c f v st1 => QF (.ex ls c f v) st1) fun v st1 => ∃ ls', t ls v = some ls' ∧ QF (.nx ls') st1) := ⟨we_asg⟩
theorem we_par {is : List Nat} (h : we (ga ls) st (fun c f v st1 => QF (.ex ls c f v) st1) fun l st1 => ∃ ls', setAll is l ls = some ls' ∧ QF (.nx ls') st1) : we (mPar is ga ls) st E QF :=
  we_lift (we_mono h fun v st1 ⟨ls', e, q⟩ => ⟨.val (.nx ls'), st1, by rw [e]; rfl, q⟩)
instance i_we_par {is : List Nat} : Rule (we (mPar is ga ls) st E QF) (we (ga ls) st (fun c f v st1 => QF (.ex ls c f v) st1) fun l st1 => ∃ ls', setAll is l ls = some ls' ∧ QF (.nx ls') st1) := ⟨we_par⟩
theorem we_put {i : ME} (h : we (m ls) st (fun c f v st1 => QF (.ex ls c f v) st1) fun v st1 => we (fa ls) st1 (fun c f v st1 => QF (.ex ls c f v) st1) fun a st2 => we (i ls) st2 (fun c f v st1 => QF (.ex ls c f v) st1) fun k st3 =>
    ∃ n j k' l, a = .cell n ∧ k = .int j ∧ st3[n]? = some (.lst l) ∧ ixN l.length j = some k' ∧ v.pure = true ∧ QF (.nx ls) (st3.set n (.lst (l.set k' v)))) : we (mPut fa i m ls) st E QF :=
  we_lift (we_bind (we_mono h fun v st1 h1 => we_bind (we_mono h1 fun a st2 h2 => we_bind (we_mono h2 fun k st3 ⟨n, j, k', l, ea, ek, e1, e2, p, q⟩ => by
    subst ea ek
    exact ⟨.val (), _, by unfold putM; simp only [e1, e2, p, if_true], ⟨_, _, rfl, q⟩⟩))))
instance i_we_put {i : ME} : Rule (we (mPut fa i m ls) st E QF) (we (m ls) st (fun c f v st1 => QF (.ex ls c f v) st1) fun v st1 => we (fa ls) st1 (fun c f v st1 => QF (.ex ls c f v) st1) fun a st2 => we (i ls) st2 (fun c f v st1 => QF (.ex ls c f v) st1) fun k st3 =>
    ∃ n j k' l, a = .cell n ∧ k = .int j ∧ st3[n]? = some (.lst l) ∧ ixN l.length j = some k' ∧ v.pure = true ∧ QF (.nx ls) (st3.set n (.lst (l.set k' v)))) := ⟨we_put⟩
theorem we_raise {c fd : Str} (h : we (m ls) st (fun c f v st1 => QF (.ex ls c f v) st1) fun v st1 => QF (.ex ls c fd v) st1) : we (mRaise c fd m ls) st E QF := we_lift (we_mono h fun _ _ q => ⟨_, _, rfl, q⟩)
instance i_we_raise {c fd : Str} : Rule (we (mRaise c fd m ls) st E QF) (we (m ls) st (fun c f v st1 => QF (.ex ls c f v) st1) fun v st1 => QF (.ex ls c fd v) st1) := ⟨we_raise⟩
theorem we_for {src : MI} {t : MG} (h : we (src ls) st (fun c f v st1 => QF (.ex ls c f v) st1) fun p st1 => we (forL t f p.1 p.2 p.1 ls) st1 E QF) : we (mFor src t f ls) st E QF := we_lift h
instance i_we_for {src : MI} {t : MG} : Rule (we (mFor src t f ls) st E QF) (we (src ls) st (fun c f v st1 => QF (.ex ls c f v) st1) fun p st1 => we (forL t f p.1 p.2 p.1 ls) st1 E QF) := ⟨we_for⟩
theorem forL_inv {t : MG} {l0 : List IV} {k : Option Nat} (I : List IV → Loc → Sto → Prop) (nil : ∀ ls st, I [] ls st → srcOk k l0 st ∧ QF (.nx ls) st)
    (step : ∀ v r ls st, I (v :: r) ls st → srcOk k l0 st ∧ ∃ ls1, t ls v = some ls1 ∧ we (f ls1) st E fun fl st1 => match fl with
      | .nx ls2 => I r ls2 st1
      | .ct ls2 => I r ls2 st1
      | .bk ls2 => QF (.nx ls2) st1
      | fl => QF fl st1) : ∀ (r : List IV) (ls : Loc) (st : Sto), I r ls st → we (forL t f l0 k r ls) st E QF
  | [], ls, st, h => ⟨.val (.nx ls), st, by unfold forL; rw [if_pos (nil _ _ h).1], (nil _ _ h).2⟩
  | v :: r, ls, st, h => by
    obtain ⟨z, ls1, e, hw⟩ := step v r ls st h
    have key := we_bind (k := fun fl => match fl with
      | .nx ls2 => forL t f l0 k r ls2
      | .ct ls2 => forL t f l0 k r ls2
      | .bk ls2 => M.ret (.nx ls2)
      | fl => M.ret fl) (R := QF) (we_mono hw fun fl st1 h1 => by
      cases fl with
      | nx ls2 => exact forL_inv I nil step r ls2 st1 h1
      | ct ls2 => exact forL_inv I nil step r ls2 st1 h1
      | bk ls2 => exact ⟨_, _, rfl, h1⟩
      | rt v => exact ⟨_, _, rfl, h1⟩
      | ex l c f v => exact ⟨_, _, rfl, h1⟩)
    obtain ⟨r1, s1, e1, q1⟩ := key
    exact ⟨r1, s1, by unfold forL; rw [if_pos z, e]; exact e1, q1⟩
end
def closeP (keep : Bool) (k : Nat) (Q : IV → Sto → Prop) (v : IV) (st : Sto) : Prop := ∃ w st', closeM keep k v st = some (.val w, st') ∧ Q w st'
theorem we_fin {keep : Bool} {n : Nat} {body : MS} {l : List IV} {st : Sto} {E : EX} {Q : IV → Sto → Prop} (h : we (body (l.map some ++ List.replicate (n - l.length) none)) st noX fun fl st1 => match fl with
    | .nx _ => closeP keep st.length Q .non st1
    | .rt v => closeP keep st.length Q v st1
    | .ex _ c f v => (st1.length = st.length ∧ E c f v st1) ∨ (st1.length ≠ st.length ∧ v.pure = true ∧ E c f v (st1.take st.length))
    | _ => False) : we (finM keep n body l) st E Q := by
  obtain ⟨r, st1, e, q⟩ := h
  cases r with
  | exc c f v => exact q.elim
  | val fl =>
    cases fl with
    | nx ls =>
      obtain ⟨w, st', e2, q2⟩ := q
      exact ⟨.val w, st', by unfold finM; rw [e]; exact e2, q2⟩
    | rt v =>
      obtain ⟨w, st', e2, q2⟩ := q
      exact ⟨.val w, st', by unfold finM; rw [e]; exact e2, q2⟩
    | bk ls => exact q.elim
    | ct ls => exact q.elim
    | ex ls c f v =>
      rcases q with ⟨z, q⟩ | ⟨z, p, q⟩
      · exact ⟨.exc c f v, st1, by unfold finM; rw [e]; simp only [z, if_true], q⟩
      · exact ⟨.exc c f v, st1.take st.length, by unfold finM; rw [e]; simp only [z, if_false, p, if_true], q⟩
section
variable {keep : Bool} {k : Nat} {st : Sto} {Q : IV → Sto → Prop} {v : IV}
theorem close_len (h : st.length = k) (q : Q v st) : closeP keep k Q v st := ⟨v, st, by unfold closeM; rw [if_pos (.inr h)], q⟩
theorem close_keep (q : Q v st) : closeP true k Q v st := ⟨v, st, by unfold closeM; rw [if_pos (.inl rfl)], q⟩
theorem close_pure (p : v.pure = true) (q : Q v (st.take k)) (h : k ≤ st.length) : closeP false k Q v st := by
  by_cases e : st.length = k
  · refine close_len e ?_
    rw [List.take_of_length_le (Nat.le_of_eq e)] at q
    exact q
  · refine ⟨v, st.take k, ?_, q⟩
    unfold closeM
    rw [if_neg (by simp [e])]
    cases v with
    | cell n => simp [IV.pure] at p
    | _ => exact if_pos p
theorem close_new {n : Nat} {l : List IV} (hn : k ≤ n) (e : st[n]? = some (.lst l)) (q : Q (.lst l) (st.take k)) : closeP false k Q (.cell n) st := by
  have hlt := (List.getElem?_eq_some_iff.mp e).1
  refine ⟨.lst l, st.take k, ?_, q⟩
  unfold closeM
  rw [if_neg (by simp; omega)]
  show (if n < k then _ else _) = _
  rw [if_neg (by omega), e]
end
end MK
namespace MK
open PySem L2
section
variable {st : Sto} {Q : IV → Prop} {i j : Int} {l k : List IV} {a v : IV} {n : Nat} {x y : Str} {b : Bool}
theorem o_add (q : Q (.int (i + j))) : ∃ v, addI st (.int i) (.int j) = some v ∧ Q v := ⟨_, rfl, q⟩
instance i_o_add  : Rule (∃ v, addI st (.int i) (.int j) = some v ∧ Q v) (Q (.int (i + j))) := ⟨o_add⟩
theorem o_addT (h : l.length + k.length ≤ 16777216) (q : Q (.tup (l ++ k))) : ∃ v, addI st (.tup l) (.tup k) = some v ∧ Q v := ⟨.tup (l ++ k), by simp only [addI, h, if_true], q⟩
theorem o_sub (q : Q (.int (i - j))) : ∃ v, subI st (.int i) (.int j) = some v ∧ Q v := ⟨_, rfl, q⟩
instance i_o_sub  : Rule (∃ v, subI st (.int i) (.int j) = some v ∧ Q v) (Q (.int (i - j))) := ⟨o_sub⟩
theorem log2_lt {m : Int} {k : Nat} (h : m.natAbs < 2 ^ k) (hk : 0 < k) : m.natAbs.log2 < k := by
  by_cases z : m.natAbs = 0
  · rw [z]; simpa using hk
  · exact (Nat.log2_lt z).mpr h
theorem o_mul (h1 : -(2 ^ 200) < i ∧ i < 2 ^ 200) (h2 : -(2 ^ 200) < j ∧ j < 2 ^ 200) (q : Q (.int (i * j))) : ∃ v, mulI st (.int i) (.int j) = some v ∧ Q v := by
  refine ⟨_, ?_, q⟩
  have l1 : i.natAbs.log2 < 200 := log2_lt (by omega) (by decide)
  have l2 : j.natAbs.log2 < 200 := log2_lt (by omega) (by decide)
  simp only [mulI]
  rw [if_pos (by omega)]
theorem o_div (h : 0 < j ∧ j < 2 ^ 200) (q : Q (.int (i / j))) : ∃ v, fdivI st (.int i) (.int j) = some v ∧ Q v := by
  have l2 : j.natAbs.log2 < 200 := log2_lt (by omega) (by decide)
  exact ⟨_, by simp only [fdivI]; rw [if_pos ⟨h.1, by omega⟩], q⟩
theorem o_mod (h : 0 < j) (q : Q (.int (i % j))) : ∃ v, modI st (.int i) (.int j) = some v ∧ Q v := ⟨_, by simp only [modI]; rw [if_pos h], q⟩
theorem o_pow (h : 0 ≤ j ∧ j ≤ 1000000) (h2 : -(2 ^ 64) < i ∧ i < 2 ^ 64) (q : Q (.int (i ^ j.toNat))) : ∃ v, powI st (.int i) (.int j) = some v ∧ Q v := ⟨_, by simp only [powI]; rw [if_pos ⟨h.1, h.2, by omega⟩], q⟩
theorem o_cmp {p : Int → Int → Bool} (q : Q (.bl (p i j))) : ∃ v, cmpI p st (.int i) (.int j) = some v ∧ Q v := ⟨_, rfl, q⟩
instance i_o_cmp {p : Int → Int → Bool} : Rule (∃ v, cmpI p st (.int i) (.int j) = some v ∧ Q v) (Q (.bl (p i j))) := ⟨o_cmp⟩
theorem o_neg (q : Q (.int (-i))) : ∃ v, negI (.int i) = some v ∧ Q v := ⟨_, rfl, q⟩
instance i_o_neg  : Rule (∃ v, negI (.int i) = some v ∧ Q v) (Q (.int (-i))) := ⟨o_neg⟩
theorem o_ixT (h : atI l i = some v) (q : Q v) : ∃ w, itemI st (.tup l) (.int i) = some w ∧ Q w := ⟨v, by simp only [itemI, asSeq, Option.bind]; exact h, q⟩
theorem o_ixL (h : atI l i = some v) (q : Q v) : ∃ w, itemI st (.lst l) (.int i) = some w ∧ Q w := ⟨v, by simp only [itemI, asSeq, lstOf, Option.bind]; exact h, q⟩
theorem o_ixS (h : atI l i = some v) (q : Q v) : ∃ w, itemI st (.scr l) (.int i) = some w ∧ Q w := ⟨v, by simp only [itemI, asSeq, Option.bind]; exact h, q⟩
theorem o_ixC (e : st[n]? = some (.lst l)) (h : atI l i = some v) (q : Q v) : ∃ w, itemI st (.cell n) (.int i) = some w ∧ Q w := ⟨v, by simp only [itemI, asSeq, lstOf, e, Option.bind]; exact h, q⟩
theorem atI_get {α : Type} {l : List α} {i : Int} {v : α} (h0 : 0 ≤ i) (h1 : l[i.toNat]? = some v) : atI l i = some v := by
  have hlt := (List.getElem?_eq_some_iff.mp h1).1
  unfold atI ixN
  rw [if_pos h0, if_pos (by omega)]
  exact h1
end
section
variable {st : Sto} {Q : Bool → Prop} {l : List IV} {b : Bool} {n : Nat}
theorem t_bl {E : EX} (q : Q b) : ∃ c, truthI st (.bl b) = some c ∧ Q c := ⟨_, rfl, q⟩
instance i_t_bl : Rule (∃ c, truthI st (.bl b) = some c ∧ Q c) (Q b) := ⟨t_bl (E := noX)⟩
theorem b_bl (q : Q b) : ∃ c, IV.bl b = .bl c ∧ Q c := ⟨_, rfl, q⟩
instance i_b_bl  : Rule (∃ c, IV.bl b = .bl c ∧ Q c) (Q b) := ⟨b_bl⟩
end
theorem way_t {b : Bool} {A B : Prop} (e : b = true) (h : A) : (b = true → A) ∧ (b = false → B) := ⟨fun _ => h, fun z => by (rw [e] at z; cases z)⟩
theorem way_f {b : Bool} {A B : Prop} (e : b = false) (h : B) : (b = true → A) ∧ (b = false → B) := ⟨fun z => by (rw [e] at z; cases z), fun _ => h⟩
theorem we_def {keep : Bool} {n : Nat} {body : MS} {l : List IV} {ls : Loc} {st : Sto} {E : EX} {Q : IV → Sto → Prop} (e : l.map some ++ List.replicate (n - l.length) none = ls) (h : we (body ls) st noX fun fl st1 => match fl with
    | .nx _ => closeP keep st.length Q .non st1
    | .rt v => closeP keep st.length Q v st1
    | .ex _ c f v => (st1.length = st.length ∧ E c f v st1) ∨ (st1.length ≠ st.length ∧ v.pure = true ∧ E c f v (st1.take st.length))
    | _ => False) : we (finM keep n body l) st E Q := we_fin (e ▸ h)
end MK
namespace MK
open PySem L2
section
variable {st : Sto} {E : EX} {Q : IV → Sto → Prop} {QF : Unit → Sto → Prop} {i j : Int} {l k : List IV} {a v : IV} {n : Nat} {b : Bool}
theorem we_int (q : Q (.int i) st) : we (pv1 intI [.int i]) st E Q := we_pv1 rfl q
instance i_we_int  : Rule (we (pv1 intI [.int i]) st E Q) (Q (.int i) st) := ⟨we_int⟩
theorem we_intB (q : Q (.int (if b then 1 else 0)) st) : we (pv1 intI [.bl b]) st E Q := we_pv1 rfl q
instance i_we_intB  : Rule (we (pv1 intI [.bl b]) st E Q) (Q (.int (if b then 1 else 0)) st) := ⟨we_intB⟩
theorem we_abs (q : Q (.int (if i < 0 then -i else i)) st) : we (pv1 absI [.int i]) st E Q := we_pv1 rfl q
instance i_we_abs  : Rule (we (pv1 absI [.int i]) st E Q) (Q (.int (if i < 0 then -i else i)) st) := ⟨we_abs⟩
theorem we_lenT (q : Q (.int l.length) st) : we (pv1 lenI [.tup l]) st E Q := we_pv1 rfl q
instance i_we_lenT  : Rule (we (pv1 lenI [.tup l]) st E Q) (Q (.int l.length) st) := ⟨we_lenT⟩
theorem we_lenL (q : Q (.int l.length) st) : we (pv1 lenI [.lst l]) st E Q := we_pv1 rfl q
instance i_we_lenL  : Rule (we (pv1 lenI [.lst l]) st E Q) (Q (.int l.length) st) := ⟨we_lenL⟩
theorem we_lenS (q : Q (.int l.length) st) : we (pv1 lenI [.scr l]) st E Q := we_pv1 rfl q
instance i_we_lenS  : Rule (we (pv1 lenI [.scr l]) st E Q) (Q (.int l.length) st) := ⟨we_lenS⟩
theorem we_lenC (e : st[n]? = some (.lst l)) (q : Q (.int l.length) st) : we (pv1 lenI [.cell n]) st E Q := we_pv1 (by simp only [lenI, asSeq, lstOf, e]; rfl) q
theorem we_tupleT (q : Q (.tup l) st) : we (pv1 tupleI [.tup l]) st E Q := we_pv1 rfl q
instance i_we_tupleT  : Rule (we (pv1 tupleI [.tup l]) st E Q) (Q (.tup l) st) := ⟨we_tupleT⟩
theorem we_tupleL (q : Q (.tup l) st) : we (pv1 tupleI [.lst l]) st E Q := we_pv1 rfl q
instance i_we_tupleL  : Rule (we (pv1 tupleI [.lst l]) st E Q) (Q (.tup l) st) := ⟨we_tupleL⟩
theorem we_tupleC (e : st[n]? = some (.lst l)) (q : Q (.tup l) st) : we (pv1 tupleI [.cell n]) st E Q := we_pv1 (by simp only [tupleI, seqL, lstOf, e]; rfl) q
theorem we_listT {c : Bool} (h : we (newL c l) st E Q) : we (listM c [.tup l]) st E Q := h
instance i_we_listT {c : Bool} : Rule (we (listM c [.tup l]) st E Q) (we (newL c l) st E Q) := ⟨we_listT⟩
theorem we_listL {c : Bool} (h : we (newL c l) st E Q) : we (listM c [.lst l]) st E Q := h
instance i_we_listL {c : Bool} : Rule (we (listM c [.lst l]) st E Q) (we (newL c l) st E Q) := ⟨we_listL⟩
theorem we_allL {bs : List Bool} (e : boolsOf l = some bs) (q : Q (.bl (bs.all id)) st) : we (pv1 allI [.lst l]) st E Q := we_pv1 (by simp only [allI, boolsAt, seqL, lstOf, Option.bind, e]; rfl) q
theorem we_slT {lo hi : Option Int} {c : Bool} (q : Q (.tup (cutI l lo hi)) st) : we (slM c (.tup l) lo hi) st E Q := ⟨_, _, rfl, q⟩
instance i_we_slT {lo hi : Option Int} {c : Bool} : Rule (we (slM c (.tup l) lo hi) st E Q) (Q (.tup (cutI l lo hi)) st) := ⟨we_slT⟩
theorem we_slL {lo hi : Option Int} {c : Bool} (h : we (newL c (cutI l lo hi)) st E Q) : we (slM c (.lst l) lo hi) st E Q := h
instance i_we_slL {lo hi : Option Int} {c : Bool} : Rule (we (slM c (.lst l) lo hi) st E Q) (we (newL c (cutI l lo hi)) st E Q) := ⟨we_slL⟩
theorem we_slS {lo hi : Option Int} {c : Bool} (h : we (newL c (cutI l lo hi)) st E Q) : we (slM c (.scr l) lo hi) st E Q := h
instance i_we_slS {lo hi : Option Int} {c : Bool} : Rule (we (slM c (.scr l) lo hi) st E Q) (we (newL c (cutI l lo hi)) st E Q) := ⟨we_slS⟩
theorem we_revT {c : Bool} (q : Q (.tup l.reverse) st) : we (revIM c (.tup l)) st E Q := ⟨_, _, rfl, q⟩
instance i_we_revT {c : Bool} : Rule (we (revIM c (.tup l)) st E Q) (Q (.tup l.reverse) st) := ⟨we_revT⟩
theorem we_revL {c : Bool} (h : we (newL c l.reverse) st E Q) : we (revIM c (.lst l)) st E Q := h
instance i_we_revL {c : Bool} : Rule (we (revIM c (.lst l)) st E Q) (we (newL c l.reverse) st E Q) := ⟨we_revL⟩
theorem we_revS {c : Bool} (h : we (newL c l.reverse) st E Q) : we (revIM c (.scr l)) st E Q := h
instance i_we_revS {c : Bool} : Rule (we (revIM c (.scr l)) st E Q) (we (newL c l.reverse) st E Q) := ⟨we_revS⟩
end
theorem set_get {st : Sto} {n : Nat} {c d : CV} (h : st[n]? = some d) : (st.set n c)[n]? = some c := List.getElem?_set_self (List.getElem?_eq_some_iff.mp h).1
structure Only1 (n : Nat) (st st' : Sto) : Prop where
  len : st'.length = st.length
  ne : ∀ m, m ≠ n → st'[m]? = st[m]?
theorem Only1.refl {n : Nat} {st : Sto} : Only1 n st st := ⟨rfl, fun _ _ => rfl⟩
theorem Only1.trans {n : Nat} {a b c : Sto} (h : Only1 n a b) (h' : Only1 n b c) : Only1 n a c := ⟨h'.len.trans h.len, fun m z => (h'.ne m z).trans (h.ne m z)⟩
theorem Only1.set {n : Nat} {st : Sto} {c : CV} : Only1 n st (st.set n c) := ⟨by simp, fun m h => List.getElem?_set_ne (Ne.symm h)⟩
end MK
namespace MK
theorem run_of {α : Type} {m : M α} {st : Sto} {a : α} (h : we m st noX fun v st' => v = a ∧ st' = st) : m st = some (.val a, st) := by
  obtain ⟨r, st', e, q⟩ := h
  cases r with
  | val v => obtain ⟨rfl, rfl⟩ := q; exact e
  | exc c f v => exact q.elim
theorem len_and {l : List IV} {n : Nat} {B : Prop} (h : l.length ≤ n) (b : B) : l.length ≤ n ∧ B := ⟨h, b⟩
theorem eq_and {l : List IV} {n : Nat} {B : Prop} (h : l.length = n) (b : B) : l.length = n ∧ B := ⟨h, b⟩
end MK
namespace MK
open PySem L2
theorem we_putF {st : Sto} {E : EX} {ls : Loc} {QF : Fl → Sto → Prop} {m fo : ME} {c f : Str} (h : we (m ls) st (fun c f v st1 => QF (.ex ls c f v) st1) fun v st1 => we (fo ls) st1 (fun c f v st1 => QF (.ex ls c f v) st1) fun a st2 =>
    ∃ n fs, a = .cell n ∧ st2[n]? = some (.ins c fs) ∧ v.pure = true ∧ fs.length < 1000 ∧ QF (.nx ls) (st2.set n (.ins c (putI f v fs)))) : we (mPutF c f fo m ls) st E QF :=
  we_lift (we_bind (we_mono h fun v st1 h1 => we_bind (we_mono h1 fun a st2 ⟨n, fs, ea, e1, p, z, q⟩ => by
    subst ea
    exact ⟨.val (), _, by unfold putFM; simp only [e1, p, z, and_self, if_true], ⟨_, _, rfl, q⟩⟩)))
instance i_we_putF {st : Sto} {E : EX} {ls : Loc} {QF : Fl → Sto → Prop} {m fo : ME} {c f : Str} : Rule (we (mPutF c f fo m ls) st E QF) (we (m ls) st (fun c f v st1 => QF (.ex ls c f v) st1) fun v st1 => we (fo ls) st1 (fun c f v st1 => QF (.ex ls c f v) st1) fun a st2 =>
    ∃ n fs, a = .cell n ∧ st2[n]? = some (.ins c fs) ∧ v.pure = true ∧ fs.length < 1000 ∧ QF (.nx ls) (st2.set n (.ins c (putI f v fs)))) := ⟨we_putF⟩
end MK
namespace MK
open PySem L2
section
variable {st : Sto} {E : EX} {ls : Loc} {Q : IV → Sto → Prop} {QF : Fl → Sto → Prop} {ga : MA} {c : Str} {n : Nat} {g : MF}
theorem we_make (h : we (ga ls) st E fun l st1 => l.length + 1 = n ∧ we (g (.cell st1.length :: l)) (st1 ++ [.ins c []]) (fun c' f v st' => v.pure = true ∧ E c' f v (st'.take st1.length))
    fun v st' => v = .non ∧ st'.length = st1.length + 1 ∧ ∃ c' fs, st'[st1.length]? = some (.ins c' fs) ∧ Q (.obj c' fs) (st'.take st1.length)) : we (mMake false c n g ga ls) st E Q :=
  we_bind (we_mono h fun l st1 ⟨z, hw⟩ => by
    obtain ⟨r, st', e, q⟩ := hw
    cases r with
    | exc c' f v => exact ⟨.exc c' f v, _, by unfold makeM; rw [if_pos z, e]; exact if_pos q.1, q.2⟩
    | val v =>
      obtain ⟨rfl, hl, c', fs, e2, q⟩ := q
      exact ⟨.val (.obj c' fs), _, by unfold makeM; rw [if_pos z, e]; simp only [hl, if_true, e2], q⟩)
theorem we_try {sub : Str → Str → Option Bool} {body : MS} {cl : List Cl} (h : we (body ls) st E fun fl st1 => match fl with
    | .ex ls' c f v => we (tryCl sub cl ls' c f v) st1 E QF
    | fl => QF fl st1) : we (mTry sub body cl ls) st E QF :=
  we_bind (we_mono h fun fl st1 q => by
    cases fl with
    | ex ls' c f v => exact q
    | nx l => exact ⟨_, _, rfl, q⟩
    | rt v => exact ⟨_, _, rfl, q⟩
    | bk l => exact ⟨_, _, rfl, q⟩
    | ct l => exact ⟨_, _, rfl, q⟩)
instance i_we_try {sub : Str → Str → Option Bool} {body : MS} {cl : List Cl} : Rule (we (mTry sub body cl ls) st E QF) (we (body ls) st E fun fl st1 => match fl with
    | .ex ls' c f v => we (tryCl sub cl ls' c f v) st1 E QF
    | fl => QF fl st1) := ⟨we_try⟩
theorem we_clF {sub : Str → Str → Option Bool} {x f : Str} {i : Nat} {fsu : Su} {r : List Cl} {v : IV} (e : sub c x = some false) (h : we (tryCl sub r ls c f v) st E QF) : we (tryCl sub ((x, i, fsu) :: r) ls c f v) st E QF := by
  obtain ⟨r1, st1, e1, q⟩ := h
  exact ⟨r1, st1, by simp only [tryCl, e]; exact e1, q⟩
theorem we_clR {sub : Str → Str → Option Bool} {x f : Str} {i : Nat} {fsu : Su} {r : List Cl} {v w : IV} {st1 : Sto} (e : sub c x = some true) (h : ∀ (a C d : Addr), fsu a (.ref C) (some d) (ls.set i (some (.exn a (.ref C) d f v c))) st = some (.val (.rt w), st1)) (q : QF (.rt w) st1) :
    we (tryCl sub ((x, i, fsu) :: r) ls c f v) st E QF := by
  refine ⟨.val (.rt w), st1, ?_, q⟩
  simp only [tryCl, e]
  rw [M.bind_run (runCl_eq h)]
  rfl
theorem we_lenO {a : IV} {i : Int} (hc : clsI st a = some c) (e : g [a] st = some (.val (.int i), st)) (h : 0 ≤ i ∧ i < 2 ^ 63) (q : Q (.int i) st) : we (lenOM c g [a]) st E Q := by
  refine ⟨.val (.int i), st, ?_, q⟩
  unfold lenOM
  simp only [hc, if_true, e, h, and_self]
def xv : IV → Option (Addr × Value × Addr × Str × IV)
  | .exn a cls d f w _ => some (a, cls, d, f, w)
  | _ => none
theorem xv_eq {v w : IV} {a d : Addr} {cls : Value} {f : Str} (h : xv v = some (a, cls, d, f, w)) : ∃ c, v = .exn a cls d f w c := by
  cases v <;> simp only [xv] at h <;> cases h
  exact ⟨_, rfl⟩
theorem we_xf {a C d : Addr} {f : Str} {m : ME} (h : we (m ls) st E fun v st1 => ∃ w, xv v = some (a, .ref C, d, f, w) ∧ Q w st1) : we (mXf a (.ref C) (some d) f m ls) st E Q :=
  we_bind (we_mono h fun v st1 ⟨w, e, q⟩ => by
    obtain ⟨c, rfl⟩ := xv_eq e
    exact ⟨.val w, st1, by rw [xfM_run]; rfl, q⟩)
instance i_we_xf {a C d : Addr} {f : Str} {m : ME} : Rule (we (mXf a (.ref C) (some d) f m ls) st E Q) (we (m ls) st E fun v st1 => ∃ w, xv v = some (a, .ref C, d, f, w) ∧ Q w st1) := ⟨we_xf⟩
end
end MK
section
set_option maxHeartbeats 2000000
namespace MK
open PySem PySem.Spec PyProof.Rows L2
abbrev testsRun (ts : List Expr) (en : Env) : Sem Bool :=
  forIn ts true fun t good => if good = true then (do let b ← isTrue t en (eval t en); pure (ForInStep.yield b)) else pure (ForInStep.yield good)
def clauseTurn (e : Expr) (ci : Nat) (it acc : Value) (tg : Expr) (ts : List Expr) (p0 : Pos) (en : Env) (inner : Sem Unit) : Sem Fin := do
  standAt p0
  let nx ← pyNext it
  match nx with
  | none => pure (Fin.done Flow.next)
  | some u => do
    letOwnedTupleGo tg it u
    assign tg en u
    let good ← testsRun ts en
    if good = true then inner >>= fun _ => again (.compLoop e ci it acc en) else again (.compLoop e ci it acc en)
def addElt (elt : Expr) (acc : Value) (en : Env) : Sem Unit := do
  let u ← eval elt en
  standAt elt.pos
  let _ ← call (.builtin "set.add") [acc, u]
def nextClause (e : Expr) (ci : Nat) (i1 : Expr) (acc : Value) (en : Env) : Sem Unit := do
  let x ← eval i1 en
  standAt i1.pos
  let y ← foldedSetIterable i1 en x
  let _ ← runOwn (.compStart e (ci + 1) (← holding [y] (pyIter y)) acc en) en
section
variable {elt t0 i0 t1 i1 : Expr} {ts0 ts1 : List Expr} {sc : Scope} {pos : Pos} {it acc : Value} {en : Env}
theorem turn_first : compTurn (.SetComp elt [⟨t0, i0, ts0, 0⟩, ⟨t1, i1, ts1, 0⟩] sc pos) 0 it acc en =
    clauseTurn (.SetComp elt [⟨t0, i0, ts0, 0⟩, ⟨t1, i1, ts1, 0⟩] sc pos) 0 it acc t0 ts0 i0.pos en (nextClause (.SetComp elt [⟨t0, i0, ts0, 0⟩, ⟨t1, i1, ts1, 0⟩] sc pos) 0 i1 acc en) := by
  unfold clauseTurn nextClause
  simp only [bind_assoc, pure_bind]
  rfl
theorem turn_second : compTurn (.SetComp elt [⟨t0, i0, ts0, 0⟩, ⟨t1, i1, ts1, 0⟩] sc pos) 1 it acc en =
    clauseTurn (.SetComp elt [⟨t0, i0, ts0, 0⟩, ⟨t1, i1, ts1, 0⟩] sc pos) 1 it acc t1 ts1 i1.pos en (addElt elt acc en) := by rfl
end
section
variable {P : Program} {w : World} {A : Around} {R : Result → Shared → Prop} {s : Shared} {elt tg : Expr} {gs : List Comprehension} {sc : Scope} {ps : Pos} {ci : Nat} {it acc : Value} {ts : List Expr} {p0 : Pos} {en : Env} {inner : Sem Unit}
abbrev NoX : Value → Shared → Prop := fun _ _ => False
theorem clause_loop (shape : compTurn (.SetComp elt gs sc ps) ci it acc en = clauseTurn (.SetComp elt gs sc ps) ci it acc tg ts p0 en inner) (J : Nat → Shared → Prop)
    (turn : ∀ m s, J m s → wpAny (model P w) A (pyNext it) (fun r z => match r with
      | none => R (.ok .next) z
      | some u => wpAny (model P w) A (letOwnedTupleGo tg it u) (fun _ z1 => wpAny (model P w) A (assign tg en u) (fun _ z2 => wpAny (model P w) A (testsRun ts en) (fun good z3 =>
          (good = true → wpAny (model P w) A inner (fun _ z4 => ∃ m', m' < m ∧ J m' z4) NoX z3) ∧ (good = false → ∃ m', m' < m ∧ J m' z3)) NoX z2) NoX z1) NoX z) NoX s)
    (m : Nat) (h : J m s) : codeAny (model P w) A (.compLoop (.SetComp elt gs sc ps) ci it acc en) R s := by
  have wk : ∀ {α : Type} {t : Sem α} {Q : α → Shared → Prop} {E : Value → Shared → Prop} {z : Shared}, wpAny (model P w) A t Q NoX z → wpAny (model P w) A t Q E z := fun h => wpAny_mono h (fun _ _ q => q) fun _ _ z => z.elim
  refine codeAny_loop rfl J (fun m z hJ => ?_) m h
  show wpAny _ A ((compTurn (.SetComp elt gs sc ps) ci it acc en).onRaise fun x => do noteFrame x en; theTreesLotGoes x) _ _ z
  rw [shape]
  refine wpAny_noted (wpAny_bind (wpAny_standAt (wpAny_bind (wpAny_mono (turn m z hJ) (fun r z1 h1 => ?_) fun _ _ k => k.elim))))
  cases r with
  | none => exact wpAny_pure h1
  | some u =>
    refine wpAny_bind (wpAny_mono h1 (fun _ z2 h2 => ?_) fun _ _ k => k.elim)
    refine wpAny_bind (wpAny_mono h2 (fun _ z3 h3 => ?_) fun _ _ k => k.elim)
    refine wpAny_bind (wpAny_mono h3 (fun good z4 h4 => ?_) fun _ _ k => k.elim)
    cases good with
    | false => exact wpAny_pure ⟨rfl, h4.2 rfl⟩
    | true => exact wpAny_bind (wpAny_mono (h4.1 rfl) (fun _ z5 h5 => wpAny_pure ⟨rfl, h5⟩) fun _ _ k => k.elim)
end
section
variable {Y : Cx} {elt tg : Expr} {gs : List Comprehension} {sc : Scope} {ps : Pos} {ci : Nat} {it : Addr} {acc : Value} {ts : List Expr} {p0 : Pos} {inner : Sem Unit} {J : It} {fp : List Addr} {tn : Nat → Heap → Prop} {g : TG} {tt : TT} {pins : List (Addr × Obj)} {R : Result → Shared → Prop}
theorem clause_walk (hxe : Y.xe = NoX) (hc : Y.calm = true) (shape : compTurn (.SetComp elt gs sc ps) ci (.ref it) acc Y.env = clauseTurn (.SetComp elt gs sc ps) ci (.ref it) acc tg ts p0 Y.env inner) (T : Turn Y.prog Y.w Y.K tg J fp it tn) (pg : PG Y tg g) (pt : PTs Y ts tt)
    (st : ∀ {H : Hp}, (∀ b ∈ fp, H b = none) → ∀ b ∈ fp, FpOk Y pins H b) {σ0 : L2.St} {vs vi : List Nat} (hvi : ∀ i ∈ vi, i ∈ vs) (hσ : wipe σ0 vs = σ0) {In : (Hp → Prop) → L2.St → Hp → Prop} {Qe : Hp → Prop} {W : Nat → Nat → Hp → Prop}
    (turn : ∀ i m H, W i m H → (J.stop i H ∧ Qe H) ∨ (J.go i H ∧ ∃ Nx : Hp → Prop, (∀ H', Nx H' → ∃ m', m' < m ∧ W (i + 1) m' H') ∧ ∀ x H', J.yld i H x H' → g x σ0 H' fun σ2 H2 => wipe σ2 vs = wipe σ0 vs ∧ tt σ2 H2 fun b H3 =>
      if b = true then In Nx σ2 H3 else Nx H3))
    (hin : ∀ (pl : List (Addr × Obj)) (s : Shared) (σ2 : L2.St) (H : Hp) (Nx : Hp → Prop), Inv Y (pins ++ pl) σ2 H s → In Nx σ2 H → wpAny (model Y.prog Y.w) Y.A inner (fun _ s' => ∃ H', Inv Y (pins ++ pl) (wipe σ2 vi) H' s' ∧ Nx H') NoX s)
    (fin : ∀ s H, Inv Y pins σ0 H s → Qe H → R (.ok .next) s) {s : Shared} {H : Hp} (I : Inv Y pins σ0 H s) (t0 : tn 0 s.heap) (f0 : ∀ b ∈ fp, H b = none) (w0 : ∃ m, W 0 m H) :
    codeAny (model Y.prog Y.w) Y.A (.compLoop (.SetComp elt gs sc ps) ci (.ref it) acc Y.env) R s := by
  obtain ⟨m, w0⟩ := w0
  refine clause_loop shape (fun m z => ∃ i H, Inv Y pins σ0 H z ∧ tn i z.heap ∧ (∀ b ∈ fp, H b = none) ∧ W i m H) ?_ m ⟨0, H, I, t0, f0, w0⟩
  rintro m z ⟨i, H, I, ti, fi, wi⟩
  rcases turn i m H wi with ⟨stop, qe⟩ | ⟨go, Nx, hNx, step⟩
  · refine thn (T.done Y rfl rfl rfl hc i pins z σ0 H NoX I (st fi) ti stop) fun r z1 h1 => ?_
    obtain ⟨rfl, I1⟩ := h1
    exact fin z1 H I1 qe
  · refine thn (T.item Y rfl rfl rfl hc i pins z σ0 H NoX I (st fi) ti go) fun r z1 h1 => ?_
    obtain ⟨u, rfl, h1⟩ := h1
    refine thn h1 fun _ z2 h2 => ?_
    obtain ⟨x, H2, I2, r2, y2, t2, f2⟩ := h2
    have P2 := I2.pinned (st f2) (T.obj _ _ t2)
    have a3 := pg.run _ z2 σ0 H2 x u _ P2 r2 (step x H2 y2)
    rw [hxe] at a3
    refine thn a3 fun _ z3 h3 => ?_
    obtain ⟨σ3, H3, I3, e3, q3⟩ := h3
    have a4 := pt.run _ z3 σ3 H3 _ I3 q3
    rw [hxe] at a4
    refine thn a4 fun good z4 h4 => ?_
    obtain ⟨H4, I4, q4⟩ := h4
    have len3 : σ0.length = σ3.length := by rw [← wipe_length σ3 vs, e3, wipe_length]
    have kn3 : ∀ (j : Nat) v, σ0[j]? = some (some v) → σ3[j]? = some (some v) ∧ j ∉ vs := fun j v q => by
      rw [← hσ, ← e3] at q
      exact wipe_some q
    -- the turn is over
    have over : ∀ {z' : Shared} {σ' : L2.St} {H' : Hp}, Inv Y (pins ++ pinsAt fp z2.heap) σ' H' z' → σ'.length = σ3.length → (∀ j, j ∉ vs → σ'[j]? = σ3[j]?) → Nx H' →
        ∃ m', m' < m ∧ ∃ i H, Inv Y pins σ0 H z' ∧ tn i z'.heap ∧ (∀ b ∈ fp, H b = none) ∧ W i m' H := fun {z' σ' H'} I' hl hs nx => by
      obtain ⟨m', lt, w'⟩ := hNx H' nx
      have pin' : ∀ b ∈ fp, ∀ o, z2.heap.get? b = some o → z'.heap.get? b = some o ∧ H' b = none := fun b hb o q => by
        have k := I'.pin (b, o) (List.mem_append_right _ (List.mem_append_right _ (mem_pinsAt hb q)))
        exact ⟨k.1, k.2.1⟩
      refine ⟨m', lt, i + 1, H', I'.unpinned.weak (len3.trans hl.symm) (fun j v q => ?_), T.keep _ _ _ t2 (fun b hb o q => (pin' b hb o q).1), fun b hb => ?_, w'⟩
      · obtain ⟨k1, k2⟩ := kn3 j v q
        rw [hs j k2]; exact k1
      · obtain ⟨o, q, _⟩ := T.obj _ _ t2 b hb
        exact (pin' b hb o q).2
    cases good with
    | false =>
      simp only [Bool.false_eq_true, if_false] at q4
      exact ⟨fun k => (by cases k), fun _ => over I4 rfl (fun _ _ => rfl) q4⟩
    | true =>
      simp only [if_true] at q4
      refine ⟨fun _ => thn (hin _ z4 σ3 H4 Nx I4 q4) fun _ z5 h5 => ?_, fun k => (by cases k)⟩
      obtain ⟨H5, I5, nx⟩ := h5
      exact over I5 (wipe_length _ _) (fun j hj => wipe_out fun k => hj (hvi j k)) nx
end
end MK
end
section
set_option maxHeartbeats 2000000
namespace MK
open PySem PySem.Spec PyProof.Rows L2
abbrev noInt : Int → Bool := fun _ => false
abbrev andInt (S : Int → Bool) (k : Int) : Int → Bool := fun j => S j || decide (j = k)
def tSet (w : World) (wi : TI) (g : TG) (tt : TT) (In : Addr → (Hp → Prop) → L2.St → Hp → Prop) (vs : List Nat) : TE := fun σ H Q => wi σ H fun J H1 => ∀ D, H1 D = none →
  ∃ W : Nat → Nat → Hp → Prop, (∃ m, W 0 m (upd H1 D (SetO w D noInt 0))) ∧ ∀ i m H, W i m H → (J.stop i H ∧ Q (.ref D) H) ∨ (J.go i H ∧ ∃ Nx : Hp → Prop, (∀ H', Nx H' → ∃ m', m' < m ∧ W (i + 1) m' H') ∧
    ∀ x H', J.yld i H x H' → g x (wipe σ vs) H' fun σ2 H2 => wipe σ2 vs = wipe (wipe σ vs) vs ∧ tt σ2 H2 fun b H3 => if b = true then In D Nx σ2 H3 else Nx H3)
def inAdd (w : World) (te : TE) (D : Addr) (Nx : Hp → Prop) : L2.St → Hp → Prop := fun σ H => te σ H fun y H1 => ∃ (k : Int) (S : Int → Bool) (n : Nat), y = .int k ∧ H1 D = some (SetO w D S n) ∧ n + 1 < scanBound ∧
  Nx (upd H1 D (SetO w D (andInt S k) (if S k = true then n else n + 1)))
def inNext (w : World) (wi : TI) (g : TG) (tt : TT) (te : TE) (vs : List Nat) (D : Addr) (Nx : Hp → Prop) : L2.St → Hp → Prop := fun σ H => wi σ H fun J H1 =>
  ∃ W : Nat → Nat → Hp → Prop, (∃ m, W 0 m H1) ∧ ∀ i m H, W i m H → (J.stop i H ∧ Nx H) ∨ (J.go i H ∧ ∃ Nz : Hp → Prop, (∀ H', Nz H' → ∃ m', m' < m ∧ W (i + 1) m' H') ∧
    ∀ x H', J.yld i H x H' → g x (wipe σ vs) H' fun σ2 H2 => wipe σ2 vs = wipe (wipe σ vs) vs ∧ tt σ2 H2 fun b H3 => if b = true then inAdd w te D Nz σ2 H3 else Nz H3)
theorem wipe2 (σ : L2.St) (vs : List Nat) : wipe (wipe σ vs) vs = wipe σ vs := wipe_wipe
section
variable {Y : Cx} {pins : List (Addr × Obj)} {s : Shared} {σ : L2.St} {H : Hp} {elt : Expr} {te : TE} {D : Addr} {Nx : Hp → Prop}
theorem add_run (hxe : Y.xe = NoX) (pe : PE Y elt te) (I : Inv Y pins σ H s) (h : inAdd Y.w te D Nx σ H) :
    wpAny (model Y.prog Y.w) Y.A (addElt elt (.ref D) Y.env) (fun _ z => ∃ H', Inv Y pins (wipe σ []) H' z ∧ Nx H') NoX s := by
  have a1 := pe.run pins s σ H _ I h
  rw [hxe] at a1
  unfold addElt
  refine wpAny_bind (thn a1 fun u z h1 => ?_)
  obtain ⟨y, H1, I1, r1, k, S, n, rfl, hD, room, nx⟩ := h1
  have a2 := mt_sadd pins z σ H1 (.ref D) [.int k] (.ref D) [u] (fun v H2 => v = .non ∧ Nx H2) I1 rfl (.cons r1 .nil) ⟨D, k, S, n, rfl, rfl, hD, room, rfl, nx⟩
  rw [hxe] at a2
  refine wpAny_bind (wpAny_standAt (wpAny_bind (thn a2 fun _ z2 h2 => ?_)))
  obtain ⟨y2, H2, I2, r2, _, nx2⟩ := h2
  exact wpAny_pure ⟨H2, I2, nx2⟩
end
section
variable {P : Program} {w : World} {A : Around} {R : Result → Shared → Prop} {s : Shared} {elt t0 i0 t1 i1 : Expr} {ts0 ts1 : List Expr} {sc : Scope} {pos : Pos} {it acc : Value} {en : Env}
theorem start_second (h0 : codeAny (model P w) A (.compLoop (.SetComp elt [⟨t0, i0, ts0, 0⟩, ⟨t1, i1, ts1, 0⟩] sc pos) 1 it acc en) R s)
    (h1 : wpAny (model P w) A (pyIter it) (fun it' z => codeAny (model P w) A (.compLoop (.SetComp elt [⟨t0, i0, ts0, 0⟩, ⟨t1, i1, ts1, 0⟩] sc pos) 1 it' acc en) R z) NoX s) :
    codeAny (model P w) A (.compStart (.SetComp elt [⟨t0, i0, ts0, 0⟩, ⟨t1, i1, ts1, 0⟩] sc pos) 1 it acc en) R s := by
  refine codeAny_of_tree ?_
  show wpAny _ _ (Sem.onRaise (compStart (.SetComp elt [⟨t0, i0, ts0, 0⟩, ⟨t1, i1, ts1, 0⟩] sc pos) 1 it acc en) fun x => do noteFrame x en; standAt theWindowsPlace) _ _ s
  refine wpAny_notedAt ?_
  unfold compStart
  show wpAny _ _ (ask >>= _) _ _ s
  refine wpAny_bind (wpAny_askSetting (wpAny_ite ?_))
  split
  · first
      | exact wpAny_bind (wpAny_pure (wpAny_pure (And.intro rfl h0)))
      | exact wpAny_pure (And.intro rfl h0)
  · refine wpAny_bind (wpAny_rule ?_)
    first
      | exact wpAny_bind (wpAny_standAt (wpAny_bind (wpAny_mono h1 (fun it' z k => wpAny_pure ⟨rfl, k⟩) fun _ _ k => k.elim)))
      | (show wpAny _ _ (standAt i1.pos >>= _) _ _ s; exact wpAny_bind (wpAny_standAt (wpAny_bind (wpAny_mono h1 (fun it' z k => wpAny_pure ⟨rfl, k⟩) fun _ _ k => k.elim))))
end
section
variable {Y : Cx} {pins : List (Addr × Obj)} {s : Shared} {σ : L2.St} {H : Hp} {elt t0 i0 t1 i1 : Expr} {ts0 ts1 : List Expr} {sc : Scope} {pos : Pos} {wi : TI} {g : TG} {tt : TT} {te : TE} {vs : List Nat} {D : Addr} {Nx : Hp → Prop}
theorem next_run (hxe : Y.xe = NoX) (hc : Y.calm = true) (hf : ∀ x, foldedSetIterable i1 Y.env x = pure x) (pi : PI Y t1 i1 wi) (pg : PG Y t1 g) (pt : PTs Y ts1 tt) (pe : PE Y elt te)
    (I : Inv Y pins σ H s) (h : inNext Y.w wi g tt te vs D Nx σ H) :
    wpAny (model Y.prog Y.w) Y.A (nextClause (.SetComp elt [⟨t0, i0, ts0, 0⟩, ⟨t1, i1, ts1, 0⟩] sc pos) 0 i1 (.ref D) Y.env) (fun _ z => ∃ H', Inv Y pins (wipe σ vs) H' z ∧ Nx H') NoX s := by
  have a1 := pi.run pins s σ H _ I h
  rw [hxe] at a1
  unfold nextClause
  refine wpAny_bind (thn a1 fun x z1 h1 => ?_)
  refine wpAny_bind (wpAny_standAt (wpAny_bind (wpAny_of_eq (hf x) (wpAny_bind (wpAny_holding (thn h1 fun v z2 h2 => ?_))))))
  obtain ⟨it, fp, tn, J, H2, rfl, I2, T, t2, f2, W, w0, turn⟩ := h2
  refine wpAny_bind (wpAny_runOwn ?_)
  rw [Around.mark_none]
  have loop : codeAny (model Y.prog Y.w) Y.A (.compLoop (.SetComp elt [⟨t0, i0, ts0, 0⟩, ⟨t1, i1, ts1, 0⟩] sc pos) 1 (.ref it) (.ref D) Y.env) (fun r z => match r with
      | .ok _ => ∃ H', Inv Y pins (wipe σ vs) H' z ∧ Nx H'
      | .error _ => False) z2 := by
    refine clause_walk (vs := vs) (vi := []) (σ0 := wipe σ vs) hxe hc turn_second T pg pt (fun hn b hb => ⟨hn b hb, (f2 b hb).2⟩) (fun i k => by cases k) (wipe2 σ vs) turn (fun pl s' σ2 H' Nz I' q => add_run hxe pe I' q) (fun z H' I' q => ⟨H', I', q⟩)
      (I2.weak (wipe_length _ _) fun j v q => (wipe_some q).1) t2 (fun b hb => (f2 b hb).1) w0
  refine codeAny_mono (start_second loop (T.self Y.A 0 _ _ _ t2 loop)) fun r z hr => ?_
  cases r with
  | ok f =>
    first
      | exact wpAny_pure hr
      | exact hr
  | error x => exact hr.elim
end
section
variable {X : Cx} {elt tg iter : Expr} {ts : List Expr} {rest : List Comprehension} {scope : Scope} {own : List (Str × Nat)} {pos : Pos} {wi : TI} {g : TG} {tt : TT} {In : Addr → (Hp → Prop) → L2.St → Hp → Prop} {inner : Value → Env → Sem Unit} {vi : List Nat}
theorem pe_set (hc : X.calm = true) (hN : X.N.Nodup) (hi : PI X tg iter wi) (ok : BlkOk X.N X.env.scope scope own) (hvi : ∀ i ∈ vi, i ∈ own.map (·.2))
    (shape : ∀ it acc en, compTurn (.SetComp elt (⟨tg, iter, ts, 0⟩ :: rest) scope pos) 0 it acc en = clauseTurn (.SetComp elt (⟨tg, iter, ts, 0⟩ :: rest) scope pos) 0 it acc tg ts iter.pos en (inner acc en))
    (hg : ∀ (s : Shared) (H : Hp) (C : Addr) (cl : List (Str × Addr)) (fp : List Addr), PG (X.blk s H scope (compEnvC scope cl C X.env) fp) tg g) (ht : ∀ (s : Shared) (H : Hp) (C : Addr) (cl : List (Str × Addr)) (fp : List Addr), PTs (X.blk s H scope (compEnvC scope cl C X.env) fp) ts tt)
    (hin : ∀ (s : Shared) (H : Hp) (C : Addr) (cl : List (Str × Addr)) (fp : List Addr) (pl : List (Addr × Obj)) (s' : Shared) (σ2 : L2.St) (H' : Hp) (D : Addr) (Nx : Hp → Prop), Inv (X.blk s H scope (compEnvC scope cl C X.env) fp) pl σ2 H' s' → In D Nx σ2 H' →
      wpAny (model X.prog X.w) X.A (inner (.ref D) (compEnvC scope cl C X.env)) (fun _ z => ∃ H2, Inv (X.blk s H scope (compEnvC scope cl C X.env) fp) pl (wipe σ2 vi) H2 z ∧ Nx H2) NoX s')
    (hs : ∀ x, foldedSetIterable iter X.env x = pure x := by intro _; rfl) : PE X (.SetComp elt (⟨tg, iter, ts, 0⟩ :: rest) scope pos) (tSet X.w wi g tt In (own.map (·.2))) := by
  refine ⟨fun pins s σ H Q I h => ?_⟩
  have caught : ∀ y ∈ scope.names, y.2 = .free → ∃ c, X.env.cells.lookup y.1 = some c := fun y hy e => I.ok.has _ (ok.free y hy e)
  rw [PySem.arm_eval_SetComp]
  refine wpAny_comprehension_free (use := none) rfl hs (closure_ok caught) ok.kind (fun y hy e => (ok.uniq y hy).trans (by rw [e])) (thn (hi.run pins s σ H _ I h) fun v s1 h1 => thn h1 fun itv s2 h2 => ?_)
  obtain ⟨it, fp, tn, J, H2, rfl, I2, T, t2, f2, q⟩ := h2
  refine PpSet.newSet_ok (newEnv_comp ?_)
  generalize hD : s2.heap.objs.size = D
  have hDn : H2 D = none := I2.hok.fresh (Nat.le_of_eq hD)
  obtain ⟨W, w0, turn⟩ := q D hDn
  generalize hs3 : ({ s2 with heap := s2.heap.push { cls := .type "set", dict := none, data := .set #[] 0 (.fresh 0 0 (!X.w.params.followText "set-order")) } } : Shared) = s3
  have I3 : Inv X pins σ (upd H2 D (SetO X.w D noInt 0)) s3 := by
    subst hs3 hD
    exact I2.laid (t' := s2.toks) (fun b o e => Heap.get?_push_of_some _ e) (Nat.le_refl _) (setO_new (setR_fresh X.w))
  have e3 : s3.heap = s2.heap.push { cls := .type "set", dict := none, data := .set #[] 0 (.fresh 0 0 (!X.w.params.followText "set-order")) } := by subst hs3; rfl
  have f3 : ∀ b ∈ fp, FpOk X pins (upd H2 D (SetO X.w D noInt 0)) b ∧ b < s3.heap.objs.size := fun b hb => by
    obtain ⟨o, q, _⟩ := T.obj _ _ t2 b hb
    have lt := Heap.lt_size q
    refine ⟨⟨?_, (f2 b hb).2⟩, by rw [e3, Heap.size_push]; exact Nat.lt_succ_of_lt lt⟩
    rw [upd_ne fun z => absurd lt (by rw [z, hD]; exact Nat.lt_irrefl _)]; exact (f2 b hb).1
  have t3 : tn 0 s3.heap := T.keep _ _ _ t2 fun b _ o q => by rw [e3]; exact Heap.get?_push_of_some _ q
  have I4 := block_start I3 ok hN f3
  have pg := hg s3 (upd H2 D (SetO X.w D noInt 0)) s3.heap.objs.size (cellsFrom (s3.heap.objs.size + 1) scope.names (cloFrom X.env.cells scope.names [])) fp
  have pt := ht s3 (upd H2 D (SetO X.w D noInt 0)) s3.heap.objs.size (cellsFrom (s3.heap.objs.size + 1) scope.names (cloFrom X.env.cells scope.names [])) fp
  have pin := hin s3 (upd H2 D (SetO X.w D noInt 0)) s3.heap.objs.size (cellsFrom (s3.heap.objs.size + 1) scope.names (cloFrom X.env.cells scope.names [])) fp
  have eL : (compEnvC scope (cellsFrom (s3.heap.objs.size + 1) scope.names (cloFrom X.env.cells scope.names [])) s3.heap.objs.size X.env).locals = s3.heap.objs.size := rfl
  show codeAny _ _ (.compStart (.SetComp elt (⟨tg, iter, ts, 0⟩ :: rest) scope pos) 0 (.ref it) (.ref D) (compEnvC scope (cellsFrom (s3.heap.objs.size + 1) scope.names (cloFrom X.env.cells scope.names [])) s3.heap.objs.size X.env)) (compPost (model X.prog X.w) X.A X.xe none (EP X pins σ Q) (.ref D) s3.heap.objs.size) _
  generalize compEnvC scope (cellsFrom (s3.heap.objs.size + 1) scope.names (cloFrom X.env.cells scope.names [])) s3.heap.objs.size X.env = ce at I4 pg pt pin eL ⊢
  generalize hH3 : upd H2 D (SetO X.w D noInt 0) = H3 at I3 I4 pg pt pin w0 f3
  generalize hs4 : ({ s3 with heap := pushCells (s3.heap.push { cls := .type "dict", data := .dict #[] }) scope.names } : Shared) = s4 at I4 ⊢
  have t4 : tn 0 s4.heap := T.keep _ _ _ t3 fun b _ o q => by subst hs4; exact pushCells_keeps _ _ _ _ (Heap.get?_push_of_some _ q)
  have st : ∀ {H : Hp}, (∀ b ∈ fp, H b = none) → ∀ b ∈ fp, FpOk (X.blk s3 H3 scope ce fp) [] H b := fun {H} hn b hb =>
    ⟨hn b hb, (I4.ok.exf b hb).1, I4.ok.exfs b hb, .inl hb, fun x c q => (I4.ok.exf b hb).2 x c q, fun p hp => by cases hp⟩
  have loop : codeAny (model X.prog X.w) X.A (.compLoop (.SetComp elt (⟨tg, iter, ts, 0⟩ :: rest) scope pos) 0 (.ref it) (.ref D) ce) (compPost (model X.prog X.w) X.A X.xe none (EP X pins σ Q) (.ref D) s3.heap.objs.size) s4 := by
    refine clause_walk (Y := X.blk s3 H3 scope ce fp) (pins := []) (vs := own.map (·.2)) (vi := vi) (σ0 := wipe σ (own.map (·.2))) rfl hc (shape _ _ _) T pg pt st hvi (wipe2 _ _) turn (fun pl s' σ2 H' Nx I' q => pin ([] ++ pl) s' σ2 H' D Nx I' q) (fun z H' I' q => ?_) I4 t4 (fun b hb => (f3 b hb).1.1) w0
    have I7 : Inv X pins σ H' z := I3.call' (ch := fp) I'.os I'.base I'.hok I'.bare fun b hb => by
      obtain ⟨a1, a2, a3, a4, a5, a6⟩ := (f3 b hb).1
      exact ⟨a4, a2, a5, a6⟩
    obtain ⟨m, hm, _⟩ := I'.loc
    have nC : H' s3.heap.objs.size = none := by rw [← eL]; exact I'.free
    have hm : z.heap.Ns ce.locals m := hm
    rw [eL] at hm
    refine ⟨m, hm, fun h'' sb => ?_⟩
    obtain ⟨k0, k1, k2, k3, k4, k5⟩ := I3.fpOk (H' := H') (Nat.le_refl _) nC
    exact ⟨.ref D, H', I7.turned (t' := z.toks) (fun b o hb q => (sb.2 b hb).trans q) k0 k1 k3 k4 k5, rfl, q⟩
  exact codeAny_compStart_set loop (T.self X.A 0 _ _ _ t4 loop)
end
end MK
end
section
set_option maxHeartbeats 2000000
namespace MK
open PySem PySem.Spec PyProof.Rows L2
def insI (acc : List Int) (k : Int) : List Int := if k ∈ acc then acc else acc ++ [k]
def insL (acc l : List Int) : List Int := l.foldl insI acc
theorem insL_app (acc l m : List Int) : insL acc (l ++ m) = insL (insL acc l) m := List.foldl_append
theorem insI_mem {acc : List Int} {k j : Int} : j ∈ insI acc k ↔ j ∈ acc ∨ j = k := by
  unfold insI
  split
  · exact ⟨.inl, fun h => h.elim id fun e => e ▸ by assumption⟩
  · simp
theorem insI_nodup {acc : List Int} {k : Int} (h : acc.Nodup) : (insI acc k).Nodup := by
  unfold insI
  split
  · exact h
  · rename_i hk
    rw [List.nodup_append]
    exact ⟨h, by simp, fun a ha b hb => by simp at hb; subst hb; exact fun e => hk (e ▸ ha)⟩
theorem insI_len (acc : List Int) (k : Int) : acc.length ≤ (insI acc k).length := by unfold insI; split <;> simp
theorem insL_mem {l acc : List Int} {j : Int} : j ∈ insL acc l ↔ j ∈ acc ∨ j ∈ l := by
  unfold insL
  induction l generalizing acc with
  | nil => simp
  | cons a l ih => rw [List.foldl_cons, ih, insI_mem, List.mem_cons, or_assoc]
theorem insL_nodup {l acc : List Int} (h : acc.Nodup) : (insL acc l).Nodup := by
  unfold insL
  induction l generalizing acc with
  | nil => exact h
  | cons a l ih => exact ih (insI_nodup h)
theorem insL_len (l acc : List Int) : acc.length ≤ (insL acc l).length := by
  unfold insL
  induction l generalizing acc with
  | nil => exact Nat.le_refl _
  | cons a l ih => exact Nat.le_trans (insI_len acc a) (ih _)
def sortS (l : List Int) : List Int := sortI (insL [] l)
theorem sortS_of {l ns : List Int} (h : ns.Pairwise (· < ·)) (m : ∀ k : Int, k ∈ ns ↔ k ∈ insL [] l) : ns = sortS l := by
  have nd : ns.Nodup := h.imp (fun q => Int.ne_of_lt q)
  have p : ns.Perm (insL [] l) := (List.perm_ext_iff_of_nodup nd (insL_nodup List.nodup_nil)).mpr m
  exact sortI_of p (h.imp fun q => Int.le_of_lt q)
def setH (w : World) (D : Addr) (acc : List Int) : HO := SetO w D (fun j => decide (j ∈ acc)) acc.length
theorem setH_add {w : World} {D : Addr} {acc : List Int} {k : Int} : SetO w D (andInt (fun j => decide (j ∈ acc)) k) (if (decide (k ∈ acc)) = true then acc.length else acc.length + 1) = setH w D (insI acc k) := by
  have e1 : (andInt (fun j => decide (j ∈ acc)) k) = fun j => decide (j ∈ insI acc k) := by
    funext j
    show (decide (j ∈ acc) || decide (j = k)) = decide (j ∈ insI acc k)
    rw [Bool.eq_iff_iff]
    simp [insI_mem]
  have e2 : (if (decide (k ∈ acc)) = true then acc.length else acc.length + 1) = (insI acc k).length := by
    unfold insI
    by_cases h : k ∈ acc
    · rw [if_pos (decide_eq_true h), if_pos h]
    · rw [if_neg (by simpa using h), if_neg h]; simp
  rw [e1, e2]; rfl
abbrev MB := Loc → M (List Int)
def mInt (e : ME) : MB := fun ls => M.bind (e ls) fun v => match v with
  | .int i => M.ret [i]
  | _ => M.stuck
open Classical in
noncomputable def compB (t : MG) (c : MT) (inn : MB) (l0 : List IV) (k : Option Nat) (ls : Loc) : List IV → M (List Int)
  | [] => fun st => if srcOk k l0 st then some (.val [], st) else none
  | v :: vs => fun st => if srcOk k l0 st then (match t ls v with
    | some ls1 => M.bind (M.nox (c ls1)) (fun b => if b = true then M.bind (M.nox (inn ls1)) fun ys => M.bind (compB t c inn l0 k ls vs) fun zs => M.ret (ys ++ zs) else compB t c inn l0 k ls vs) st
    | none => none) else none
noncomputable def mClause (src : MI) (vs : List Nat) (t : MG) (c : MT) (inn : MB) : MB := fun ls => M.bind (src ls) fun p => M.nox (compB t c inn p.1 p.2 (wipeI ls vs) p.1)
structure MakS (K : PySem.W.Frag) (mg : Str → Option Value) (w : World) (cm : Wd) (H : Hp) (cm1 : Wd) (H1 : Hp) (st1 : Sto) (D : Addr) (acc : List Int) : Prop where
  ext : Ext cm H cm1 H1
  sto : RelS K mg cm1 st1 H1
  av : D ∈ cm1.av
  nc : D ∉ cm1.cm
  at' : H1 D = some (setH w D acc)
section
variable {K : PySem.W.Frag} {mg : Str → Option Value} {w : World} {H H1 : Hp} {cm cm1 : Wd} {st st1 : Sto} {D : Addr} {acc : List Int}
theorem MakS.mk0 (s : RelS K mg cm st H) (n : H D = none) : MakS K mg w cm H (cm.avoid D) (upd H D (setH w D [])) st D [] where
  ext := Ext.avoid n
  sto := by
    have E : Ext cm H (cm.avoid D) (upd H D (setH w D [])) := Ext.avoid n
    refine ⟨s.len, s.nd, fun i a c h1 h2 => (s.at' i a c h1 h2).ext E (upd_ne fun z => s.notCell n (z ▸ List.mem_of_getElem? h1)), fun a m => ?_⟩
    by_cases z : a = D
    · subst z; exact ⟨_, upd_same⟩
    · obtain ⟨o, q⟩ := s.avs a ((List.mem_cons.mp m).resolve_left z)
      exact ⟨o, (upd_ne z).trans q⟩
  av := List.mem_cons_self
  nc := s.notCell n
  at' := upd_same
theorem MakS.step (m : MakS K mg w cm H cm1 H1 st1 D acc) {cm2 : Wd} {H2 : Hp} {st2 : Sto} (E : Ext cm1 H1 cm2 H2) (s : RelS K mg cm2 st2 H2) : MakS K mg w cm H cm2 H2 st2 D acc :=
  ⟨m.ext.trans E, s, E.keep D m.av, E.new D _ m.at' m.nc, E.fr D _ m.at' m.nc⟩
theorem MakS.add (m : MakS K mg w cm H cm1 H1 st1 D acc) (n : H D = none) (k : Int) : MakS K mg w cm H cm1 (upd H1 D (setH w D (insI acc k))) st1 D (insI acc k) := by
  have T : Tr cm1 H1 cm1 (upd H1 D (setH w D (insI acc k))) := ⟨fun _ _ h => h, fun a o h na => ⟨(upd_ne (fun z : a = D => na (z ▸ m.av))).trans h, na⟩⟩
  refine ⟨⟨m.ext.pre, fun a o h na => (upd_ne (ne_of_none h n)).trans (m.ext.fr a o h na), m.ext.av, m.ext.new, m.ext.keep⟩, ⟨m.sto.len, m.sto.nd, fun i a c h1 h2 => (m.sto.at' i a c h1 h2).tr T (upd_ne fun z => m.nc (z ▸ List.mem_of_getElem? h1)), fun a h => ?_⟩, m.av, m.nc, upd_same⟩
  by_cases z : a = D
  · subst z; exact ⟨_, upd_same⟩
  · obtain ⟨o, q⟩ := m.sto.avs a h
    exact ⟨o, (upd_ne z).trans q⟩
theorem MakS.addTr (m : MakS K mg w cm H cm1 H1 st1 D acc) (k : Int) : Tr cm1 H1 cm1 (upd H1 D (setH w D (insI acc k))) :=
  ⟨fun _ _ h => h, fun a o h na => ⟨(upd_ne (fun z : a = D => na (z ▸ m.av))).trans h, na⟩⟩
theorem clause_turns {J : It} {p : Src} {t : MG} {g : TG} {c : MT} {inn : MB} {vs : List Nat} {ls : Loc} {σ0 : L2.St} {st2 : Sto} {l : List Int} {In : Addr → (Hp → Prop) → L2.St → Hp → Prop} {Qe : Hp → Prop} {acc0 : List Int}
    (ct : CT K mg vs t g) (wk : Walks K mg J p cm1 H1) (mk : MakS K mg w cm H cm1 H1 st1 D acc0) (R0 : RelC K mg cm1 ls σ0 H1)
    (e0 : compB t c inn p.1 p.2 ls p.1 st1 = some (.val l, st2)) (hB : (insL acc0 l).length < 64)
    (hin : ∀ (cm2 : Wd) (H2 : Hp) (st3 st4 : Sto) (σ2 : L2.St) (ls2 : Loc) (acc : List Int) (ys : List Int) (Nx : Hp → Prop), MakS K mg w cm H cm2 H2 st3 D acc → RelC K mg cm2 ls2 σ2 H2 → inn ls2 st3 = some (.val ys, st4) → (insL acc ys).length < 64 →
      (∀ cm3 H3, Tr cm2 H2 cm3 H3 → MakS K mg w cm H cm3 H3 st4 D (insL acc ys) → Nx H3) → In D Nx σ2 H2)
    (hq : ∀ cm2 H2, Tr cm1 H1 cm2 H2 → MakS K mg w cm H cm2 H2 st2 D (insL acc0 l) → Qe H2) :
    ∃ W : Nat → Nat → Hp → Prop, (∃ m, W 0 m H1) ∧ ∀ i m H, W i m H → (J.stop i H ∧ Qe H) ∨ (J.go i H ∧ ∃ Nx : Hp → Prop, (∀ H', Nx H' → ∃ m', m' < m ∧ W (i + 1) m' H') ∧
      ∀ x H', J.yld i H x H' → g x σ0 H' fun σ2 H2 => wipe σ2 vs = wipe σ0 vs ∧ rdT K mg W0 c σ2 H2 fun b H3 => if b = true then In D Nx σ2 H3 else Nx H3) := by
  refine ⟨fun i m H2 => m = p.1.length - i ∧ i ≤ p.1.length ∧ ∃ cm2 st3 acc rest, Tr cm1 H1 cm2 H2 ∧ MakS K mg w cm H cm2 H2 st3 D acc ∧ compB t c inn p.1 p.2 ls (p.1.drop i) st3 = some (.val rest, st2) ∧ insL acc rest = insL acc0 l,
    ⟨p.1.length, by simp, Nat.zero_le _, cm1, st1, acc0, l, Tr.refl, mk, by simpa using e0, rfl⟩, ?_⟩
  rintro i m H2 ⟨rfl, hi, cm2, st3, acc, rest, T2, mk2, e5, hl⟩
  by_cases hlt : i < p.1.length
  · rw [List.drop_eq_getElem_cons hlt] at e5
    simp only [compB] at e5
    split at e5
    · rename_i hok
      cases q : t ls p.1[i] with
      | none => rw [q] at e5; cases e5
      | some ls3 =>
        rw [q] at e5
        obtain ⟨g1, g2⟩ := wk.go i cm2 H2 st3 p.1[i] T2 mk2.sto hok (by simp [hlt])
        refine .inr ⟨g1, fun H' => i + 1 ≤ p.1.length ∧ ∃ cm2 st3 acc rest, Tr cm1 H1 cm2 H' ∧ MakS K mg w cm H cm2 H' st3 D acc ∧ compB t c inn p.1 p.2 ls (p.1.drop (i + 1)) st3 = some (.val rest, st2) ∧ insL acc rest = insL acc0 l,
          fun H' h => ⟨p.1.length - (i + 1), by omega, rfl, h.1, h.2⟩, fun x H3 hy => ?_⟩
        obtain ⟨g3, g4⟩ := g2 x H3 hy
        have E3 : Ext cm2 H2 cm2 H3 := Ext.same g3
        have mk3 := mk2.step E3 (mk2.sto.same g3)
        have T3 := T2.trans E3.tr
        refine ct x σ0 H3 _ cm2 ls p.1[i] ls3 (R0.tr T3) g4 q fun σ4 R4 hl4 ha4 => ⟨wipe_eq hl4 ha4, ?_⟩
        rcases M.bind_inv e5 with ⟨b, st4, e6, e7⟩ | ⟨c', f, v, _, q6⟩
        · obtain ⟨b', q7, e6'⟩ := M.nox_inv e6
          cases q7
          refine ⟨cm2, ls3, st3, _, st4, ⟨mk3.sto, R4⟩, e6', fun cm5 H5 x5 s5 => ?_⟩
          have mk5 := mk3.step x5 s5
          have T5 := T3.trans x5.tr
          cases b with
          | false =>
            simp only [Bool.false_eq_true, if_false] at e7 ⊢
            exact ⟨hlt, cm5, st4, acc, rest, T5, mk5, e7, hl⟩
          | true =>
            simp only [if_true] at e7 ⊢
            rcases M.bind_inv e7 with ⟨ys, st5, e8, e9⟩ | ⟨c', f, v, _, q6⟩
            · obtain ⟨ys', q8, e8'⟩ := M.nox_inv e8
              cases q8
              rcases M.bind_inv e9 with ⟨zs, st6, e10, e11⟩ | ⟨c', f, v, _, q6⟩
              · cases e11
                rw [insL_app] at hl
                refine hin cm5 H5 st4 st5 σ4 ls3 acc ys _ mk5 (R4.ext x5) e8' (Nat.lt_of_le_of_lt (insL_len zs _) (by rw [hl]; exact hB)) fun cm6 H6 T6 mk6 => ?_
                exact ⟨hlt, cm6, st5, insL acc ys, zs, T5.trans T6, mk6, e10, hl⟩
              · cases q6
            · cases q6
        · cases q6
    · cases e5
  · rw [List.drop_eq_nil_of_le (by omega)] at e5
    simp only [compB] at e5
    split at e5
    · rename_i hok
      cases e5
      refine .inl ⟨wk.stop i cm2 H2 st2 T2 mk2.sto hok (by omega), hq cm2 H2 T2 ?_⟩
      rw [← hl]; exact mk2
    · cases e5
theorem in_add {e : ME} {σ2 : L2.St} {ls2 : Loc} {st3 st4 : Sto} {ys : List Int} {Nx : Hp → Prop} (n : H D = none) (mk : MakS K mg w cm H cm1 H1 st3 D acc) (R : RelC K mg cm1 ls2 σ2 H1)
    (h : mInt e ls2 st3 = some (.val ys, st4)) (hB : (insL acc ys).length < 64) (k : ∀ cm3 H3, Tr cm1 H1 cm3 H3 → MakS K mg w cm H cm3 H3 st4 D (insL acc ys) → Nx H3) : inAdd w (rdE K mg W0 e) D Nx σ2 H1 := by
  rcases M.bind_inv h with ⟨v, st5, e1, e2⟩ | ⟨_, _, _, _, q⟩
  · cases v with
    | int i =>
      cases e2
      refine ⟨cm1, ls2, st3, _, st4, ⟨mk.sto, R⟩, e1, fun cm5 H5 x5 s5 x hx => ?_⟩
      cases hx
      have mk5 := mk.step x5 s5
      have hl : acc.length < 64 := Nat.lt_of_le_of_lt (insL_len _ acc) hB
      refine ⟨i, _, _, rfl, mk5.at', by show acc.length + 1 < 4096; omega, ?_⟩
      rw [setH_add]
      exact k cm5 _ (x5.tr.trans (mk5.addTr i)) (mk5.add n i)
    | _ => cases e2
  · cases q
theorem in_next {src1 : MI} {t1 : MG} {g1 : TG} {c1 : MT} {e : ME} {vs1 : List Nat} {σ2 : L2.St} {ls2 : Loc} {st3 st4 : Sto} {ys : List Int} {Nx : Hp → Prop} (ct : CT K mg vs1 t1 g1) (n : H D = none) (mk : MakS K mg w cm H cm1 H1 st3 D acc) (R : RelC K mg cm1 ls2 σ2 H1)
    (h : mClause src1 vs1 t1 c1 (mInt e) ls2 st3 = some (.val ys, st4)) (hB : (insL acc ys).length < 64) (k : ∀ cm3 H3, Tr cm1 H1 cm3 H3 → MakS K mg w cm H cm3 H3 st4 D (insL acc ys) → Nx H3) :
    inNext w (rdI K mg W0 src1) g1 (rdT K mg W0 c1) (rdE K mg W0 e) vs1 D Nx σ2 H1 := by
  rcases M.bind_inv h with ⟨p, st5, e1, e2⟩ | ⟨_, _, _, _, q⟩
  · obtain ⟨ys', q, e2⟩ := M.nox_inv e2
    cases q
    refine ⟨cm1, ls2, st3, _, st5, ⟨mk.sto, R⟩, e1, fun cm5 H5 x5 s5 J wk => ?_⟩
    exact clause_turns ct wk (mk.step x5 s5) ((R.ext x5).wipe vs1) e2 hB (fun cm6 H6 st6 st7 σ6 ls6 acc6 ys6 Nx6 mk6 R6 h6 hB6 k6 => in_add n mk6 R6 h6 hB6 k6) fun cm6 H6 T6 mk6 => k cm6 H6 (x5.tr.trans T6) mk6
  · cases q
end
theorem CT.sub {K : PySem.W.Frag} {mg : Str → Option Value} {vs vs' : List Nat} {t : MG} {g : TG} (h : CT K mg vs t g) (i : ∀ j ∈ vs, j ∈ vs') : CT K mg vs' t g :=
  fun x σ H Q cm ls v ls' R hx e k => h x σ H Q cm ls v ls' R hx e fun σ' R' hl hk => k σ' R' hl fun j hj => hk j fun z => hj (i j z)
def mSortSet (cell : Bool) (m : MB) : ME := fun ls => M.bind (m ls) fun l => if (insL [] l).length < 64 then newL cell ((sortS l).map .int) else M.stuck
theorem rd_set {K : PySem.W.Frag} {mg : Str → Option Value} {w : World} {σ : L2.St} {H : Hp} {W : WX} {cell : Bool} {src : MI} {vs : List Nat} {t : MG} {g : TG} {c : MT} {inn : MB} {In : Addr → (Hp → Prop) → L2.St → Hp → Prop} {Q : VK} (ct : CT K mg vs t g)
    (hin : ∀ (cm : Wd) (H : Hp) (D : Addr), H D = none → ∀ (cm2 : Wd) (H2 : Hp) (st3 st4 : Sto) (σ2 : L2.St) (ls2 : Loc) (acc : List Int) (ys : List Int) (Nx : Hp → Prop), MakS K mg w cm H cm2 H2 st3 D acc → RelC K mg cm2 ls2 σ2 H2 → inn ls2 st3 = some (.val ys, st4) →
      (insL acc ys).length < 64 → (∀ cm3 H3, Tr cm2 H2 cm3 H3 → MakS K mg w cm H cm3 H3 st4 D (insL acc ys) → Nx H3) → In D Nx σ2 H2)
    (h : rdE K mg W (mSortSet cell (mClause src vs t c inn)) σ H Q) : tSet w (rdI K mg W src) g (rdT K mg W0 c) In vs σ H fun x H1 => rSortedSet w [x] H1 Q := by
  obtain ⟨cm, ls, st, r, st', R, e0, o⟩ := h
  rcases M.bind_inv e0 with ⟨l, st1, e1, e2⟩ | ⟨c', f, v, e1, rfl⟩
  · rcases M.bind_inv e1 with ⟨p, st2, e3, e4⟩ | ⟨c', f, v, e3, q⟩
    · refine ⟨cm, ls, st, _, st2, R, e3, fun cm1 H1 x1 s1 J wk D hD => ?_⟩
      obtain ⟨l', q1, e4'⟩ := M.nox_inv e4
      cases q1
      split at e2
      · rename_i hlen
        have mk := MakS.mk0 (w := w) s1 hD
        have T0 : Tr cm1 H1 (cm1.avoid D) (upd H1 D (setH w D [])) := mk.ext.tr
        have z : SetO w D noInt 0 = setH w D [] := by
          unfold setH
          have : noInt = fun j => decide (j ∈ ([] : List Int)) := by funext j; simp
          rw [this]; rfl
        rw [z]
        have wk' : Walks K mg J p (cm1.avoid D) (upd H1 D (setH w D [])) := ⟨fun i cm2 H2 st3 T => wk.stop i cm2 H2 st3 (T0.trans T), fun i cm2 H2 st3 v T => wk.go i cm2 H2 st3 v (T0.trans T)⟩
        refine clause_turns (acc0 := []) ct wk' mk (((R.loc.ext x1).wipe vs).tr T0) e4' hlen (hin cm1 H1 D hD) fun cm2 H2 T2 mk2 => ?_
        refine ⟨D, _, _, rfl, mk2.at', hlen, fun ns d ha hm hn hd => ?_⟩
        have e : ns = sortS l := sortS_of ha fun k => (hm k).trans (by simp)
        rw [e]
        have o2 : Out K mg W σ cm2 H2 (GE K mg Q) r st' := by
          have E2 := x1.trans mk2.ext
          cases r with
          | val a => exact fun cm3 H3 x3 s3 => o cm3 H3 (E2.trans x3) s3
          | exc c f v => exact fun cm3 H3 x3 s3 => o cm3 H3 (E2.trans x3) s3
        exact newL_new mk2.sto e2 hd (rep_ints _) o2
      · cases e2
    · cases q
  · rcases M.bind_inv e1 with ⟨p, st2, e3, e4⟩ | ⟨c'', f', v', e3, q⟩
    · obtain ⟨_, q, _⟩ := M.nox_inv e4
      cases q
    · cases q
      exact ⟨cm, ls, st, _, st', R, e3, fun cm1 H1 x1 s1 => o cm1 H1 x1 s1⟩
section
variable {X : Cx} {W : WX} {tg iter elt tg1 iter1 : Expr} {ifs ifs1 : List Expr} {scope : Scope} {pos p cpos : Pos} {src src1 : MI} {t t1 : MG} {g g1 : TG} {c c1 : MT} {m : ME}
theorem e_sortSet2 (cell : Bool) (own : List (Str × Nat)) (vs1 : List Nat) (hg0 : Gl X "sorted") (hm : X.mg "sorted" = none) (ct : CT X.K X.mg (own.map (·.2)) t g) (ct1 : CT X.K X.mg vs1 t1 g1) (hv : ∀ i ∈ vs1, i ∈ own.map (·.2)) (hc : X.calm = true) (hN : X.N.Nodup) (hi : PI' X W tg iter src) (ok : BlkOk X.N X.env.scope scope own)
    (hg : ∀ (s : Shared) (H : Hp) (C : Addr) (cl : List (Str × Addr)) (fp : List Addr), PG (X.blk s H scope (compEnvC scope cl C X.env) fp) tg g)
    (ht : ∀ (s : Shared) (H : Hp) (C : Addr) (cl : List (Str × Addr)) (fp : List Addr), PTs' (X.blk s H scope (compEnvC scope cl C X.env) fp) W0 ifs c)
    (hi1 : ∀ (s : Shared) (H : Hp) (C : Addr) (cl : List (Str × Addr)) (fp : List Addr), PI' (X.blk s H scope (compEnvC scope cl C X.env) fp) W0 tg1 iter1 src1)
    (hg1 : ∀ (s : Shared) (H : Hp) (C : Addr) (cl : List (Str × Addr)) (fp : List Addr), PG (X.blk s H scope (compEnvC scope cl C X.env) fp) tg1 g1)
    (ht1 : ∀ (s : Shared) (H : Hp) (C : Addr) (cl : List (Str × Addr)) (fp : List Addr), PTs' (X.blk s H scope (compEnvC scope cl C X.env) fp) W0 ifs1 c1)
    (he : ∀ (s : Shared) (H : Hp) (C : Addr) (cl : List (Str × Addr)) (fp : List Addr), PE' (X.blk s H scope (compEnvC scope cl C X.env) fp) W0 elt m) (hs : ∀ x, foldedSetIterable iter X.env x = pure x := by intro _; rfl)
    (hs1 : ∀ env x, foldedSetIterable iter1 env x = pure x := by intro _ _; rfl)
    (hst : starEach [.SetComp elt [⟨tg, iter, ifs, 0⟩, ⟨tg1, iter1, ifs1, 0⟩] scope pos] X.env = (false, eval (.SetComp elt [⟨tg, iter, ifs, 0⟩, ⟨tg1, iter1, ifs1, 0⟩] scope pos) X.env) :: starEach [] X.env := by rfl) :
    PE' X W (.Call (.Name "sorted" p) [.SetComp elt [⟨tg, iter, ifs, 0⟩, ⟨tg1, iter1, ifs1, 0⟩] scope pos] [] cpos) (mSortSet cell (mClause src (own.map (·.2)) t c (mClause src1 vs1 t1 c1 (mInt m)))) := by
  have a := pe_set (pos := pos) (ts := ifs) (tt := rdT X.K X.mg W0 c) (inner := nextClause (.SetComp elt [⟨tg, iter, ifs, 0⟩, ⟨tg1, iter1, ifs1, 0⟩] scope pos) 0 iter1) (vi := vs1) (In := inNext X.w (rdI X.K X.mg W0 src1) g1 (rdT X.K X.mg W0 c1) (rdE X.K X.mg W0 m) vs1) hc hN hi ok hv (fun _ _ _ => turn_first) hg ht
    (fun s H C cl fp pl s' σ2 H' D Nx I q => next_run (Y := X.blk s H scope (compEnvC scope cl C X.env) fp) rfl hc (hs1 _) (hi1 s H C cl fp) (hg1 s H C cl fp) (ht1 s H C cl fp) (he s H C cl fp) I q) hs
  exact PE_imp (pe_callB (cr_sortedSet hc) hg0 hm (by rfl) (pa_cons a pa_nil hst) (by decide) (by decide) hst (by rfl)) fun σ H Q h => rd_set ct (fun cm H D n cm2 H2 st3 st4 σ2 ls2 acc ys Nx mk R e hB k => in_next ct1 n mk R e hB k) h
end
end MK
end
section
set_option maxHeartbeats 2000000
namespace MK
open PySem PySem.Spec PyProof.Rows L2
theorem newEnum {v : Value} {o : Obj} {Hh : Heap → Prop} (B : Begins v o Hh) :
    Meets (Builtin.«enumerate.__new__» ⟨[.type "enumerate", v], []⟩) (fun _ R s => Hh s.heap ∧
      R (.ok (.ret (.ref (s.heap.push o).objs.size))) { s with heap := (s.heap.push o).push { cls := .type "enumerate", data := .fields #[.none, .bool false, .ref s.heap.objs.size, rawInt 0, .none, .none] } }) :=
  .of_wp fun prog w A R s h => by
    obtain ⟨hp, gs, dr, tk, os⟩ := s
    obtain ⟨h1, h2⟩ := h
    have hsub := sub_enumerate
    have it : ∀ {A' : Around} {E : Value → Shared → Prop} {Q : Value → Shared → Prop}, Q (.ref hp.objs.size) ⟨hp.push o, gs, dr, tk, os⟩ → wpAny (model prog w) A' (pyIter v) Q E ⟨hp, gs, dr, tk, os⟩ := fun q => B.iter prog w _ _ ⟨hp, gs, dr, tk, os⟩ _ h1 q
    wp_walk using it
    refine wpAny_stack_any fun st => wpAny_pure ?_
    split
    · rename_i c _ _ _ _ _
      cases (c == Value.type "enumerate") <;> (wp_walk using it; exact ⟨_, rfl, h2⟩)
    · wp_walk using it
      exact ⟨_, rfl, h2⟩
section
variable {P : Program} {w : World} {A : Around} {E : Value → Shared → Prop} {s : Shared}
theorem call_enum {v : Value} {o : Obj} {Hh : Heap → Prop} {Q : Value → Shared → Prop} (B : Begins v o Hh) (h1 : Hh s.heap)
    (h : ∀ h', IsEnum h' (s.heap.objs.size + 1) s.heap.objs.size 0 .none → h'.get? s.heap.objs.size = some o → (∀ b u, s.heap.get? b = some u → h'.get? b = some u) → Q (.ref (s.heap.objs.size + 1)) { s with heap := h' }) :
    wpAny (model P w) A (call (.type "enumerate") [v]) Q E s := by
  refine callType_new F.called_enumerate (by decide) (F.typeCall_enumerate_1 _) (F.newCall_enumerate_1 _) (fun obj => F.args_object_init_2 obj _) F.entry_enumerate_new (newEnum B) ⟨h1, ?_⟩
  have hz : (s.heap.push o).objs.size = s.heap.objs.size + 1 := Heap.size_push ..
  have he := Heap.get?_push_size (s.heap.push o) (o := { cls := .type "enumerate", data := .fields #[.none, .bool false, .ref s.heap.objs.size, rawInt 0, .none, .none] }) rfl
  rw [hz] at he
  rw [hz]
  exact ⟨⟨_, he, rfl⟩, h _ he (Heap.get?_push_of_some _ (Heap.get?_push_size _ B.free)) fun b u q => Heap.get?_push_of_some _ (Heap.get?_push_of_some _ q)⟩
end
def ItE (K : PySem.W.Frag) (a : Addr) (n : Nat) : It :=
  ⟨fun i H => ∃ (xs : List V) (x : V), SqT K H a xs ∧ xs.length = n ∧ xs[i]? = some x, fun i H v H' => ∃ T x, v = .ref T ∧ H T = none ∧ H' = upd H T (.tup [.int (i : Nat), x]) ∧ ∀ xs, SqT K H a xs → xs[i]? = some x, fun i H => n ≤ i ∧ ∃ xs : List V, SqT K H a xs ∧ xs.length = n⟩
theorem turn_enumT {P : Program} {w : World} {K : PySem.W.Frag} {elts : List Expr} {kk : Nat} {tpos : Pos} (a e it : Addr) (n : Nat) (hea : e ≠ a) (hia : it ≠ a) (hne : e ≠ it) :
    Turn P w K (.Tuple elts kk tpos) (ItE K a n) [e, it] e (fun i h => (∃ old, IsEnum h e it ((i : Nat) : Int) old) ∧ h.IsTupleIter it a i ∧ i ≤ n) where
  mem := List.mem_cons_self
  obj := fun i h st b hb => by
    obtain ⟨⟨old, he⟩, ⟨o, ho, hc, hd⟩, _⟩ := st
    rcases List.mem_cons.mp hb with z | z
    · subst z; exact ⟨_, he, fun v q => nomatch q⟩
    · have z := List.mem_singleton.mp z
      subst z; exact ⟨o, ho, fun v q => by rw [hd] at q; cases q⟩
  keep := fun i h h' st k => by
    obtain ⟨⟨old, he⟩, hi, hn⟩ := st
    exact ⟨⟨old, k e (by simp) _ he⟩, hi.at fun o q => k it (by simp) o q, hn⟩
  item := by
    intro X hP hw hK hc i pins s σ H E I hf st go
    subst hP hw hK
    obtain ⟨⟨old, he⟩, hit, hn⟩ := st
    obtain ⟨xs, x, hq, hl, hx⟩ := go
    have ltn : i < n := by rw [← hl]; exact (List.getElem?_eq_some_iff.mp hx).1
    obtain ⟨its, rv, tp, _⟩ := I.tuple hq
    obtain ⟨u, hu, ru⟩ := rv.get hx
    have ht : s.heap.IsTuple a its.toArray := tp
    have le : e < s.heap.objs.size := Heap.lt_size he
    have li : it < s.heap.objs.size := by obtain ⟨_, q, _⟩ := hit; exact Heap.lt_size q
    have ix : i < its.toArray.size := by
      have := (List.getElem?_eq_some_iff.mp hu).1
      simpa using this
    refine wpAny_pyNext_enum_itemD (Draws.tuple (A := X.A.in1) (I.ok.hd hc) it a (Ne.symm hia) its.toArray) he ⟨hit, ht⟩ ix hne (fun z => by
      rcases List.mem_cons.mp z with z | z
      · exact hne z
      · exact hea (List.mem_singleton.mp z)) fun y h' tk hy ho hst hT hsz hk => ?_
    have ey : y = u := by
      have hy : its.toArray[i]? = some y := hy
      rw [List.getElem?_toArray, hu] at hy
      exact (Option.some.inj hy).symm
    subst ey
    refine ⟨_, rfl, wpAny_letOwnedTupleGo_enum (s := { s with heap := h', toks := tk + 1 }) ho fun h'' he' sb => ?_⟩
    have hT2 := (sb.2 _ (Nat.ne_of_gt le)).trans hT
    have new : ObjOk X.prog X.w (upd H s.heap.objs.size (.tup [.int (i : Nat), x])) h'' s.heap.objs.size (.tup [.int (i : Nat), x]) :=
      ⟨by show 2 ≤ sizeLine; decide, [.int i tk, y], .cons ⟨_, rfl⟩ (.cons ru .nil), ⟨_, hT2, rfl, _, rfl⟩⟩
    have I1 : Inv X pins σ (upd H s.heap.objs.size (.tup [.int (i : Nat), x])) { s with heap := h'', toks := tk + 1 } := by
      refine I.turnedNew (ch := [e, it]) (fun b ob hb q => ?_) hf (Nat.le_refl _) new
      have b1 : b ≠ e := fun z => hb (by simp [z])
      have b2 : b ≠ it := fun z => hb (by simp [z])
      exact (sb.2 b b1).trans (hk b ob b1 b2 q)
    refine ⟨.ref s.heap.objs.size, _, I1, rfl, ⟨_, x, rfl, I.hok.fresh (Nat.le_refl _), rfl, fun ys hy => by rw [I.tuple_inj hy hq]; exact hx⟩, ⟨⟨y, ?_⟩, hst.1.at fun o q => (sb.2 it (Ne.symm hne)).trans q, ltn⟩, fun b hb => ?_⟩
    · rw [show ((i + 1 : Nat) : Int) = (i : Int) + 1 by omega]; exact he'
    · have lb : b < s.heap.objs.size := by
        rcases List.mem_cons.mp hb with z | z
        · subst z; exact le
        · rw [List.mem_singleton.mp z]; exact li
      exact (upd_ne (Nat.ne_of_lt lb)).trans (hf b hb).1
  done := by
    intro X hP hw hK hc i pins s σ H E I hf st go
    subst hP hw hK
    obtain ⟨⟨old, he⟩, hit, hn⟩ := st
    obtain ⟨hge, xs, hq, hx⟩ := go
    obtain ⟨its, rv, tp, _⟩ := I.tuple hq
    have ht : s.heap.IsTuple a its.toArray := tp
    obtain ⟨f0, f1, f2, f3, f4, f5⟩ := hf it (by simp)
    have el : its.toArray.size = i := by
      rw [List.size_toArray, ← rv.length, hx]; exact Nat.le_antisymm hge hn
    subst el
    exact wpAny_pyNext_enum_endD (Draws.tuple (A := X.A.in1) (I.ok.hd hc) it a (Ne.symm hia) its.toArray) he ⟨hit, ht⟩ fun h' eb => ⟨rfl, I.turned (t' := s.toks) (fun b o hb q => eb b o hb q) f0 f1 f3 f4 f5⟩
  self := fun A i s Q E st h => by
    obtain ⟨⟨_, he⟩, _⟩ := st
    exact wpAny_pyIter_enum he h
def iEnum2 (K : PySem.W.Frag) (ta : TA) : TI := fun σ H R => ta σ H fun vs H1 => ∃ a xs, vs = [.ref a] ∧ ((SqL K H1 a xs ∧ R (Ite K a) H1) ∨ (SqT K H1 a xs ∧ R (ItE K a xs.length) H1))
theorem pi_enum2 {X : Cx} {e : Expr} {ta : TA} {p pos tpos : Pos} {elts : List Expr} {kk : Nat} (hg : Gl X "enumerate") (hm : X.mg "enumerate" = none) (ha : PA X [e] ta) (hs : starEach [e] X.env = [(false, eval e X.env)] := by rfl) :
    PI X (.Tuple elts kk tpos) (.Call (.Name "enumerate" p) [e] [] pos) (iEnum2 X.K ta) := by
  refine ⟨fun pins s σ H R I h => ?_⟩
  refine Call_ (ld_blt I hg hm boot_enumerate (PyProof.Rows.callWith_type1 (thn (ha.run pos pins s σ H _ I h) fun us s1 h1 => ?_) hs rfl))
  obtain ⟨vs, H1, I1, r1, a, xs, ex, h1⟩ := h1
  subst ex
  rw [Vals.ref1 r1]
  have new : ∀ b, b ∈ [s1.heap.objs.size + 1, s1.heap.objs.size] → s1.heap.objs.size ≤ b := fun b hb => by
    rcases List.mem_cons.mp hb with z | z
    · rw [z]; exact Nat.le_succ _
    · rw [List.mem_singleton.mp z]; exact Nat.le_refl _
  rcases h1 with ⟨hq, q⟩ | ⟨hq, q⟩
  · obtain ⟨its, rv, lp, _⟩ := I1.list hq
    refine call_enumerate_list lp.isList fun h' he hit hsz hk => wpAny_pyIter_enum he ?_
    exact ⟨_, _, _, _, H1, rfl, I1.kept (t' := s1.toks) hk, turn_enum a (s1.heap.objs.size + 1) s1.heap.objs.size, ⟨⟨.none, he⟩, hit, Nat.succ_ne_self _⟩, fun b hb => I1.fpOk (new b hb) (I1.hok.fresh (new b hb)), q⟩
  · obtain ⟨its, rv, tp, _⟩ := I1.tuple hq
    have ht : s1.heap.IsTuple a its.toArray := tp
    have la : a < s1.heap.objs.size := by obtain ⟨o, q, _⟩ := ht; exact Heap.lt_size q
    refine call_enum (begins_tuple a its.toArray) ht fun h' he hit hk => wpAny_pyIter_enum he ?_
    exact ⟨_, _, _, _, H1, rfl, I1.kept (t' := s1.toks) hk, turn_enumT a (s1.heap.objs.size + 1) s1.heap.objs.size xs.length (Nat.ne_of_gt (Nat.lt_succ_of_lt la)) (Nat.ne_of_gt la) (Nat.succ_ne_self _), ⟨⟨.none, he⟩, ⟨_, hit, rfl, rfl⟩, Nat.zero_le _⟩, fun b hb => I1.fpOk (new b hb) (I1.hok.fresh (new b hb)), q⟩
def enumL (l : List IV) : List IV := l.mapIdx fun i v => .tup [.int (i : Nat), v]
def enumM (l : List IV) : M Src := fun st => match l with
  | [.tup l] => some (.val (enumL l, none), st)
  | [.lst l] => some (.val (enumL l, none), st)
  | _ => none
def mEnum (g : MA) : MI := fun ls => M.bind (g ls) enumM
theorem enumL_get {l : List IV} {i : Nat} {v : IV} (h : (enumL l)[i]? = some v) : ∃ u, l[i]? = some u ∧ v = .tup [.int (i : Nat), u] := by
  unfold enumL at h
  rw [List.getElem?_mapIdx] at h
  cases q : l[i]? with
  | none => rw [q] at h; cases h
  | some u => rw [q] at h; cases h; exact ⟨u, rfl, rfl⟩
theorem enumL_len (l : List IV) : (enumL l).length = l.length := by unfold enumL; simp
section
variable {K : PySem.W.Frag} {mg : Str → Option Value} {cm : Wd} {H : Hp}
theorem rep_pair {cm1 : Wd} {st1 : Sto} {H1 : Hp} {T : Addr} {i : Nat} {x : V} {u : IV} (s : RelS K mg cm1 st1 H1) (hT : H1 T = none) (r : Rep K mg cm1 H1 x u) : Rep K mg cm1 (upd H1 T (.tup [.int (i : Nat), x])) (.ref T) (.tup [.int (i : Nat), u]) :=
  .tup (.inl ⟨.inl upd_same, s.notAv hT⟩) (.cons (.int _) (.cons (r.ext (Ext.new' hT)) .nil))
theorem walks_ET {p : Addr} {xs : List V} {l : List IV} (h : FzT K cm H p xs) (r : RepL K mg cm H xs l) : Walks K mg (ItE K p xs.length) (enumL l, none) cm H where
  stop := fun i cm1 H1 st1 e s _ hi => by
    rw [enumL_len, ← r.length] at hi
    exact ⟨hi, xs, (e.fzT h).sq, rfl⟩
  go := fun i cm1 H1 st1 v e s _ hi => by
    obtain ⟨u, h1, rfl⟩ := enumL_get hi
    obtain ⟨x, h2, h3⟩ := r.get h1
    refine ⟨⟨xs, x, (e.fzT h).sq, rfl, h2⟩, fun y H2 hy => ?_⟩
    obtain ⟨T, x', rfl, hT, rfl, hx⟩ := hy
    have q := hx xs (e.fzT h).sq
    rw [h2] at q; cases q
    exact ⟨same_new hT, rep_pair s hT (h3.tr e)⟩
theorem walks_EL {p : Addr} {xs : List V} {l : List IV} (h : FzL cm H p xs) (r : RepL K mg cm H xs l) : Walks K mg (Ite K p) (enumL l, none) cm H where
  stop := fun i cm1 H1 st1 e s _ hi => by
    rw [enumL_len, ← r.length] at hi
    exact ⟨xs, (e.fzL h).sq, hi⟩
  go := fun i cm1 H1 st1 v e s _ hi => by
    obtain ⟨u, h1, rfl⟩ := enumL_get hi
    obtain ⟨x, h2, h3⟩ := r.get h1
    refine ⟨⟨xs, x, (e.fzL h).sq, h2⟩, fun y H2 hy => ?_⟩
    obtain ⟨T, x', rfl, hT, rfl, hx⟩ := hy
    have q := hx xs (e.fzL h).sq
    rw [h2] at q; cases q
    exact ⟨same_new hT, rep_pair s hT (h3.tr e)⟩
end
section
variable {X : Cx} {W : WX} {a : Expr} {g : MA} {p pos tpos : Pos} {elts : List Expr} {kk : Nat}
theorem i_enum (hg : Gl X "enumerate") (hm : X.mg "enumerate" = none) (ha : PA' X W [a] g) (hs : starEach [a] X.env = [(false, eval a X.env)] := by rfl) : PI' X W (.Tuple elts kk tpos) (.Call (.Name "enumerate" p) [a] [] pos) (mEnum g) :=
  PI_imp (pi_enum2 hg hm ha hs) fun σ H R h => rdA_mono (rdIA h) fun xs H1 h1 => by
    obtain ⟨cm, st, l, r, st', s, hx, e, o⟩ := h1
    unfold enumM at e
    split at e
    · cases e
      obtain ⟨y, rfl, hy⟩ := rep1 hx
      cases hy with
      | @tup q ys _ h1 h2 => exact ⟨q, ys, rfl, .inr ⟨h1.sq, o cm H1 (Ext.refl _ _) s _ (walks_ET h1 h2)⟩⟩
    · cases e
      obtain ⟨y, rfl, hy⟩ := rep1 hx
      cases hy with
      | @lst q ys _ h1 h2 => exact ⟨q, ys, rfl, .inl ⟨h1.sq, o cm H1 (Ext.refl _ _) s _ (walks_EL h1 h2)⟩⟩
    · cases e
end
theorem ct_two {K : PySem.W.Frag} {mg : Str → Option Value} (i j : Nat) : CT K mg [i, j] (gTupI 2 (gsCons (gSet i) (gsCons (gSet j) gsNil))) (gTup K 2 (gCons (gName i) (gCons (gName j) gNil))) := by
  intro x σ H Q cm ls v ls' R hx e k
  cases hx with
  | @tup p xs l h1 h2 =>
    simp only [gTupI] at e
    split at e
    · rename_i hl
      cases h2 with
      | nil => cases hl
      | @cons y1 ys v1 l1 r1 rr =>
        cases rr with
        | nil => cases hl
        | @cons y2 ys v2 l2 r2 rr =>
          cases rr with
          | cons => simp at hl
          | nil =>
            cases e
            refine ⟨p, _, rfl, h1.sq, rfl, y1, _, rfl, y2, _, rfl, rfl, k _ ?_ (by simp) fun m hm => ?_⟩
            · exact (R.set i r1).set j r2
            · rw [List.getElem?_set_ne (fun z => hm (by simp [z])), List.getElem?_set_ne (fun z => hm (by simp [z]))]
    · cases e
  | _ => cases e
theorem pg_two {X : Cx} {i j : Nat} {x y : Str} {p1 p2 pos : Pos} {kk : Nat} (hc : X.calm = true) (h1 : PG X (.Name x p1) (gName i)) (h2 : PG X (.Name y p2) (gName j)) (hn : (assignEach [.Name x p1, .Name y p2] X.env).length = 2 := by rfl)
    (hst : (assignEach [.Name x p1, .Name y p2] X.env).findIdx? (·.1) = none := by rfl) (hs1 : (assignEach [.Name x p1, .Name y p2] X.env).map (·.2) = assign (.Name x p1) X.env :: (assignEach [.Name y p2] X.env).map (·.2) := by rfl)
    (hs2 : (assignEach [.Name y p2] X.env).map (·.2) = assign (.Name y p2) X.env :: (assignEach [] X.env).map (·.2) := by rfl) : PG X (.Tuple [.Name x p1, .Name y p2] kk pos) (gTup X.K 2 (gCons (gName i) (gCons (gName j) gNil))) :=
  pg_tup hc (pgs_cons h1 (pgs_cons h2 pgs_nil hs2) hs1) hn hst
end MK
end
section
set_option maxHeartbeats 2000000
namespace MK
open PySem PySem.Spec PyProof.Rows L2
def ltL : List Int → List Int → Bool
  | [], [] => false
  | [], _ :: _ => true
  | _ :: _, [] => false
  | a :: l, b :: m => if a = b then ltL l m else decide (a < b)
theorem ltL_asym : ∀ l m : List Int, ltL l m = true → ltL m l = false
  | [], [], h => by cases h
  | [], _ :: _, _ => rfl
  | _ :: _, [], h => by cases h
  | a :: l, b :: m, h => by
    unfold ltL at h ⊢
    by_cases e : a = b
    · subst e
      rw [if_pos rfl] at h ⊢
      exact ltL_asym l m h
    · rw [if_neg e] at h
      rw [if_neg (fun z => e z.symm)]
      have := of_decide_eq_true h
      exact decide_eq_false (by omega)
theorem ltL_tr : ∀ x y z : List Int, ltL y x = false → ltL z y = false → ltL z x = false
  | [], [], [], _, _ => rfl
  | _, [], _ :: _, _, _ => by
    rename_i x c z h1 h2
    cases x with
    | nil => rfl
    | cons a x => cases h1
  | a :: x, b :: y, [], _, h2 => by cases h2
  | [], b :: y, [], _, h2 => by cases h2
  | a :: x, [], [], h1, _ => by cases h1
  | [], b :: y, c :: z, _, _ => rfl
  | a :: x, b :: y, c :: z, h1, h2 => by
    unfold ltL at h1 h2 ⊢
    by_cases e1 : b = a
    · subst e1
      rw [if_pos rfl] at h1
      by_cases e2 : c = b
      · subst e2
        rw [if_pos rfl] at h2 ⊢
        exact ltL_tr x y z h1 h2
      · rw [if_neg e2] at h2 ⊢; exact h2
    · rw [if_neg e1] at h1
      have k1 := of_decide_eq_false h1
      by_cases e2 : c = b
      · subst e2
        rw [if_neg e1]; exact h1
      · rw [if_neg e2] at h2
        have k2 := of_decide_eq_false h2
        rw [if_neg (by omega)]
        exact decide_eq_false (by omega)
theorem ltL_eq : ∀ l m : List Int, ltL l m = false → ltL m l = false → l = m
  | [], [], _, _ => rfl
  | [], _ :: _, h, _ => by cases h
  | _ :: _, [], _, h => by cases h
  | a :: l, b :: m, h1, h2 => by
    unfold ltL at h1 h2
    by_cases e : a = b
    · subst e
      rw [if_pos rfl] at h1 h2
      rw [ltL_eq l m h1 h2]
    · rw [if_neg e] at h1
      rw [if_neg (fun z => e z.symm)] at h2
      have k1 := of_decide_eq_false h1
      have k2 := of_decide_eq_false h2
      omega
theorem swoL {α : Type} (k : α → List Int) : SrtO.Swo fun x y => ltL (k x) (k y) := ⟨fun x y => ltL_asym (k x) (k y), fun x y z => ltL_tr (k x) (k y) (k z)⟩
theorem lexAt_ltL (ns ms : List Int) : ∀ (n i : Nat), min ns.length ms.length - i = n → i ≤ min ns.length ms.length →
    Ob.lexAt (fun j => decide (ns.getD j 0 = ms.getD j 0)) (fun j => decide (ns.getD j 0 < ms.getD j 0)) (decide (ns.length < ms.length)) i n = ltL (ns.drop i) (ms.drop i)
  | 0, i, hn, hi => by
    rw [Ob.lexAt_zero]
    rcases Nat.lt_or_ge ns.length ms.length with h | h
    · rw [decide_eq_true h, List.drop_of_length_le (by omega : ns.length ≤ i), List.drop_eq_getElem_cons (by omega : i < ms.length)]; rfl
    · rw [decide_eq_false (by omega), List.drop_of_length_le (by omega : ms.length ≤ i)]
      cases ns.drop i <;> rfl
  | n + 1, i, hn, hi => by
    have h1 : i < ns.length := by omega
    have h2 : i < ms.length := by omega
    have ih := lexAt_ltL ns ms n (i + 1) (by omega) (by omega)
    rw [Ob.lexAt_succ, ih, List.drop_eq_getElem_cons h1, List.drop_eq_getElem_cons h2]
    have e1 : ns.getD i 0 = ns[i] := by simp [h1]
    have e2 : ms.getD i 0 = ms[i] := by simp [h2]
    rw [e1, e2]
    have st : ltL (ns[i] :: ns.drop (i + 1)) (ms[i] :: ms.drop (i + 1)) = if ns[i] = ms[i] then ltL (ns.drop (i + 1)) (ms.drop (i + 1)) else decide (ns[i] < ms[i]) := by rw [ltL]
    rw [st]
    by_cases e : ns[i] = ms[i]
    · rw [if_pos e, if_pos (decide_eq_true e)]
    · rw [if_neg e, if_neg (by rw [decide_eq_false e]; exact Bool.false_ne_true)]
def TupInts (h : Heap) (v : Value) (ns : List Int) : Prop := ∃ (t : Addr) (its : List Value), v = .ref t ∧ h.IsTuple t its.toArray ∧ IntsAre its ns
section
variable {P : Program} {w : World} {A : Around} {E : Value → Shared → Prop} {s : Shared} {M : Model}
theorem tups_cmp {vs : List Value} {k : Value → List Int} (hu : A.units + 1 < cLine) (hp : ∀ v ∈ vs, TupInts s.heap v (k v)) : SrtO.Cmp P w A s oneType' (fun p => p.1 ∈ vs) (SrtO.lt2 fun v u => ltL (k v) (k u)) := by
  intro p q hm hm'
  obtain ⟨t1, its1, e1, h1, i1⟩ := hp _ hm
  obtain ⟨t2, its2, e2, h2, i2⟩ := hp _ hm'
  show wpAny (model P w) A (keyLt' oneType' p.1 q.1) (fun r s' => s' = s ∧ r = ltL (k p.1) (k q.1)) (fun _ _ => False) s
  generalize k p.1 = ns at i1 ⊢
  generalize k q.1 = ms at i2 ⊢
  rw [e1, e2, keyLt'_oneType, oneLt'_eq]
  simp only [if_true]
  have z1 : its1.toArray.size = ns.length := by rw [List.size_toArray]; exact i1.length
  have z2 : its2.toArray.size = ms.length := by rw [List.size_toArray]; exact i2.length
  have at1 : ∀ j (h : j < its1.toArray.size), ∃ t, its1.toArray[j] = .int (ns.getD j 0) t := fun j h => PyProof.Rows.IntsAre.int_at i1 _ _ (by simp at h; simp [h])
  have at2 : ∀ j (h : j < its2.toArray.size), ∃ t, its2.toArray[j] = .int (ms.getD j 0) t := fun j h => PyProof.Rows.IntsAre.int_at i2 _ _ (by simp at h; simp [h])
  obtain ⟨⟨c1, dd1, da1, sl1⟩, o1, hc1, n1, hd1⟩ := h1
  obtain ⟨⟨c2, dd2, da2, sl2⟩, o2, hc2, n2, hd2⟩ := h2
  simp only at hc1 hd1 hc2 hd2
  subst hc1 hd1 hc2 hd2
  refine wpAny_bind (wpAny_cRoomFor (by omega) ?_)
  refine wpAny_bind (wpAny_callSpecialIfBound?_slot (T := "tuple") ⟨_, o1, rfl⟩ F.slot_tuple_lt (call_meets F.slot_tuple_lt ⟨_, o1, rfl⟩ F.entry_tuple_lt (F.args_tuple_lt_2 _ _)
    (Ob.tuple_ltAt t1 t2 its1.toArray its2.toArray n1 n2 dd1 dd2 sl1 sl2 (fun j => decide (ns.getD j 0 = ms.getD j 0)) (fun j => decide (ns.getD j 0 < ms.getD j 0))) ⟨o1, o2, fun j a b => ?_, fun j a b _ => ?_, ?_⟩))
  · obtain ⟨u1, q1⟩ := at1 j a
    obtain ⟨u2, q2⟩ := at2 j b
    rw [q1, q2]
    have z : (ns.getD j 0 == ms.getD j 0) = decide (ns.getD j 0 = ms.getD j 0) := by
      rw [Bool.eq_iff_iff]; simp
    rw [← z]
    exact SeqAt.EqAt.int_int _ _ _ _
  · obtain ⟨u1, q1⟩ := at1 j a
    obtain ⟨u2, q2⟩ := at2 j b
    rw [q1, q2]
    exact Ob.RcOp.lt_int _ _ _ _
  · rw [z1, z2, lexAt_ltL ns ms _ 0 (by omega) (Nat.zero_le _)]
    exact wpAny_truthy_bool ⟨rfl, rfl⟩
theorem firsts_any : ∀ (vs : List Value) {Q : List (Option Value) → Shared → Prop}, (∀ v ∈ vs, ∃ ns, TupInts s.heap v ns) → (∀ fs, Q fs s) → wpAny M A (vs.mapM firstOfTuple') Q E s
  | [], _, _, h => by rw [List.mapM_nil]; exact wpAny_pure (h _)
  | v :: vs, Q, hv, h => by
    obtain ⟨ns, t, its, rfl, hT, _⟩ := hv _ List.mem_cons_self
    have hT2 : s.TypeIs (.ref t) "tuple" := by obtain ⟨o, ho, hc, _⟩ := hT; exact ⟨o, ho, hc⟩
    obtain ⟨o, ho, hc, n, hd⟩ := hT
    rw [List.mapM_cons]
    refine wpAny_bind ?_
    rw [PySem.W.kas_first_eq]
    refine wpAny_bind (wpAny_typeOf hT2 ?_)
    rw [if_neg (by first | decide | simp)]
    refine wpAny_bind (listItems_at ho hd (wpAny_pure ?_))
    exact wpAny_bind (firsts_any vs (Q := fun bs s' => wpAny M A (pure (its.toArray[0]? :: bs)) Q E s') (fun u hu => hv u (List.mem_cons_of_mem _ hu)) fun fs => wpAny_pure (h _))
theorem types_tup : ∀ (vs : List Value) {Q : List Value → Shared → Prop}, (∀ v ∈ vs, ∃ ns, TupInts s.heap v ns) → Q (vs.map fun _ => Value.type "tuple") s → wpAny M A (vs.mapM typeOf) Q E s
  | [], _, _, h => by rw [List.mapM_nil]; exact wpAny_pure h
  | v :: vs, Q, hv, h => by
    obtain ⟨ns, t, its, rfl, hT, _⟩ := hv _ List.mem_cons_self
    have hT2 : s.TypeIs (.ref t) "tuple" := by obtain ⟨o, ho, hc, _⟩ := hT; exact ⟨o, ho, hc⟩
    rw [List.mapM_cons]
    refine wpAny_bind (wpAny_typeOf hT2 ?_)
    exact wpAny_bind (types_tup vs (Q := fun bs s' => wpAny M A (pure (Value.type "tuple" :: bs)) Q E s') (fun u hu => hv u (List.mem_cons_of_mem _ hu)) (wpAny_pure h))
theorem kind_empty {v : Value} {vs : List Value} {Q : SortKind → Shared → Prop} (hv : ∀ u ∈ v :: vs, ∃ ns, TupInts s.heap u ns) (h0 : TupInts s.heap v []) (h : Q oneType' s) : wpAny M A (keyKind' (v :: vs).toArray) Q E s := by
  rw [kat_kind_eq, List.mapM_toArray, map_eq_pure_bind]
  have hf : ∀ {Q' : List (Option Value) → Shared → Prop}, (∀ fs, Q' (none :: fs) s) → wpAny M A ((v :: vs).mapM firstOfTuple') Q' E s := fun {Q'} k => by
    obtain ⟨t, its, rfl, hT, hi⟩ := h0
    cases hi
    have hT2 : s.TypeIs (.ref t) "tuple" := by obtain ⟨o, ho, hc, _⟩ := hT; exact ⟨o, ho, hc⟩
    obtain ⟨o, ho, hc, n, hd⟩ := hT
    rw [List.mapM_cons]
    refine wpAny_bind ?_
    rw [PySem.W.kas_first_eq]
    refine wpAny_bind (wpAny_typeOf hT2 ?_)
    rw [if_neg (by first | decide | simp)]
    refine wpAny_bind (listItems_at ho hd (wpAny_pure ?_))
    exact wpAny_bind (firsts_any vs (Q := fun bs s' => wpAny M A (pure ((none : Option Value) :: bs)) Q' E s') (fun u hu => hv u (List.mem_cons_of_mem _ hu)) fun fs => wpAny_pure (k _))
  refine wpAny_bind (wpAny_bind (hf fun fs => wpAny_pure ?_))
  rw [if_neg (by simp)]
  rw [if_neg (by simp)]
  rw [oneTypeOnly'_eq, List.mapM_toArray, map_eq_pure_bind]
  refine wpAny_bind (wpAny_bind (wpAny_bind (types_tup (v :: vs) hv (wpAny_pure ?_))))
  have hall : ((List.map (fun _ => Value.type "tuple") (v :: vs)).toArray.all fun x => x == Value.type "tuple") = true := by
    simp only [List.all_toArray, List.all_map, List.all_eq_true]
    intro _ _
    rfl
  have hz : (List.map (fun _ => Value.type "tuple") (v :: vs)).toArray[0]? = some (Value.type "tuple") := by simp
  rw [hz]
  simp only [hall, if_true]
  exact wpAny_pure (wpAny_pure h)
theorem lex_any {b : Bool} {Q : Bool → Shared → Prop} : ∀ {xs ys : List Value} {ns ms : List Int} (i : Nat), IntsAre xs ns → IntsAre ys ms → Q (ltL ns ms) s → PySem.W.KatLex P w A b (decide (ns.length < ms.length)) Q (xs.zip ys) i s
  | _, _, _, _, i, .nil, .nil, h => PySem.W.kat_nil (by simpa [ltL] using h)
  | _, _, _, _, i, .nil, .cons m t r, h => PySem.W.kat_nil (by simpa [ltL] using h)
  | _, _, _, _, i, .cons n t r, .nil, h => PySem.W.kat_nil (by simpa [ltL] using h)
  | _, _, _, _, i, .cons n t r, .cons m u r2, h => by
    rename_i xs ns ys ms
    have e : (decide ((n :: ns).length < (m :: ms).length)) = decide (ns.length < ms.length) := by simp
    rw [e]
    rw [ltL] at h
    refine PySem.W.kat_cons (SeqAt.EqAt.int_int n t m u P w _ _ ?_)
    refine PySem.W.kat_go (fun e1 => ?_) (fun e1 => ?_)
    · have ex : n = m := by simpa using e1
      rw [if_pos ex] at h
      exact PySem.W.kat_yes (lex_any (i + 1) r r2 h)
    · have ex : ¬ n = m := by simpa using e1
      rw [if_neg ex] at h
      exact PySem.W.kat_no (TS.oneLt_ints _ h)
theorem tups_cmpN {vs : List Value} {k : Value → List Int} (hp : ∀ v ∈ vs, TupInts s.heap v (k v)) : SrtO.Cmp P w A s (tuples' true) (fun p => p.1 ∈ vs) (SrtO.lt2 fun v u => ltL (k v) (k u)) := by
  intro p q hm hm'
  obtain ⟨t1, its1, e1, h1, i1⟩ := hp _ hm
  obtain ⟨t2, its2, e2, h2, i2⟩ := hp _ hm'
  show wpAny (model P w) A (keyLt' (tuples' true) p.1 q.1) (fun r s' => s' = s ∧ r = ltL (k p.1) (k q.1)) (fun _ _ => False) s
  generalize k p.1 = ns at i1 ⊢
  generalize k q.1 = ms at i2 ⊢
  rw [e1, e2]
  obtain ⟨o1, g1, _, n1, d1⟩ := h1
  obtain ⟨o2, g2, _, n2, d2⟩ := h2
  refine PySem.W.kat_lt g1 d1 g2 d2 ?_
  have z1 : its1.toArray.size = ns.length := by rw [List.size_toArray]; exact i1.length
  have z2 : its2.toArray.size = ms.length := by rw [List.size_toArray]; exact i2.length
  rw [z1, z2]
  exact lex_any 0 i1 i2 ⟨rfl, rfl⟩
theorem kat_tups_of {h : Heap} {k : Value → List Int} : ∀ {vs : List Value}, (∀ v ∈ vs, TupInts h v (k v) ∧ k v ≠ []) → ∃ fs, PySem.W.KatTups h vs fs ∧ fs.length = vs.length ∧ ∀ f ∈ fs, ∃ x t, f = Value.int x t
  | [], _ => ⟨[], trivial, rfl, fun f hf => by cases hf⟩
  | v :: vs, hv => by
    obtain ⟨fs, h1, h2, h3⟩ := kat_tups_of (vs := vs) fun u hu => hv u (List.mem_cons_of_mem _ hu)
    obtain ⟨⟨t, its, rfl, hT, hi⟩, ne⟩ := hv _ List.mem_cons_self
    obtain ⟨o, ho, hc, n, hd⟩ := hT
    generalize k (.ref t) = ns at hi ne
    cases hi with
    | nil => exact absurd rfl ne
    | cons x u r =>
      refine ⟨.int x u :: fs, PySem.W.KatTups.cons ho hc hd (by simp) h1, by simp [h2], fun f hf => ?_⟩
      rcases List.mem_cons.mp hf with e | hf
      · exact ⟨x, u, e⟩
      · exact h3 f hf
theorem TupInts.keeps {h h' : Heap} {v : Value} {ns : List Int} (t : TupInts h v ns) (k : ∀ b o, h.get? b = some o → o.cls = .type "tuple" → h'.get? b = some o) : TupInts h' v ns := by
  obtain ⟨a, its, e, hT, i⟩ := t
  obtain ⟨o, ho, hc, n, hd⟩ := hT
  exact ⟨a, its, e, ⟨o, k a o ho hc, hc, n, hd⟩, i⟩
theorem sorted_tupsE {l : Addr} {v : Value} {vs : List Value} {k : Value → List Int} {Q : Value → Shared → Prop} (hu : A.units + 65 < cLine) (hl : s.heap.IsList l (v :: vs).toArray) (hz : (v :: vs).length ≤ sizeLine) (hp : ∀ u ∈ v :: vs, TupInts s.heap u (k u)) (h0 : k v = [] ∨ ∀ u ∈ v :: vs, k u ≠ [])
    (h : ∀ (h' : Heap) (d : Addr) (out : List Value), SrtO.Srtd (fun x y => ltL (k x) (k y)) out → SrtO.Stb (fun x y => ltL (k x) (k y)) out (v :: vs) → (∀ b o, s.heap.get? b = some o → h'.get? b = some o) → s.heap.objs.size ≤ d → (∃ n, h'.get? d = some (seqObj "list" out.toArray n)) → Q (.ref d) { s with heap := h' }) :
    wpAny (model P w) A (call (.builtin "sorted") [.ref l]) Q E s := by
  refine SrtO.sorted_ord (swoL k) hl hz (fun h2 h1 a ha kk => ?_) fun out hs hb => ?_
  · intro h' keep
    have hp' : ∀ u ∈ v :: vs, TupInts h' u (k u) := fun u hm => (hp u hm).keeps fun b o e c => by
      obtain ⟨_, q⟩ := kk b o e
      refine keep b o (fun z => ?_) q
      subst z
      have e' : some o = some (seqObj "list" (v :: vs).toArray 0) := q.symm.trans ha
      cases e'
      exact absurd (Value.type.inj c) (by decide)
    have hu' : A.in1.in1.units + 1 < cLine := by
      have z : A.in1.in1.units ≤ A.units + 2 := by
        first
          | exact Nat.le_refl _
          | (show A.units ≤ A.units + 2; omega)
          | simp [Around.in1]
      omega
    rcases h0 with h0 | h0
    · refine ⟨oneType', fun Q' E' hq => ?_, tups_cmp (s := { s with heap := h' }) hu' hp'⟩
      have h0' := hp' v List.mem_cons_self
      rw [h0] at h0'
      exact kind_empty (s := { s with heap := h' }) (fun u hm => ⟨_, hp' u hm⟩) h0' hq
    · obtain ⟨fs, g1, g2, g3⟩ := kat_tups_of fun u hm => ⟨hp' u hm, h0 u hm⟩
      refine ⟨tuples' true, fun Q' E' hq => ?_, tups_cmpN (s := { s with heap := h' }) hp'⟩
      refine PySem.W.kat_kind (T := .type "int") g1 (by rw [g2]; simp) (fun f hm => ?_) (by rfl) ?_
      · obtain ⟨x, t, rfl⟩ := g3 f hm
        exact PySem.W.Looks.now
      · rw [show (Value.type "int" != Value.type "tuple") = true by first | decide +kernel | rfl | decide]
        exact hq
  · exact h _ _ out hs hb (fun b o e => sortedAll_old e) (Nat.le_succ _) (sortedAll_at s.heap (v :: vs) out.toArray)
end
def TupV (K : PySem.W.Frag) (H : Hp) (x : V) (ns : List Int) : Prop := ∃ t, x = V.ref t ∧ SqT K H t (ns.map V.int)
def rSortE (K : PySem.W.Frag) : List V → Hp → VK → Prop := fun vs H Q => ∃ (a : Addr) (x : V) (xs : List V), vs = [V.ref a] ∧ SqL K H a (x :: xs) ∧ (∀ y ∈ x :: xs, ∃ ns, TupV K H y ns) ∧ (TupV K H x [] ∨ ∀ y ∈ x :: xs, ∃ ns, TupV K H y ns ∧ ns ≠ []) ∧
  ∀ ys p, (ys.Pairwise fun u v => ∀ n m, TupV K H u n → TupV K H v m → ltL m n = false) → ys.Perm (x :: xs) → H p = none → Q (.ref p) (upd H p (.lst ys))
section
variable {X : Cx}
theorem map_int_inj : ∀ {l m : List Int}, l.map V.int = m.map V.int → l = m
  | [], [], _ => rfl
  | [], _ :: _, h => by cases h
  | _ :: _, [], h => by cases h
  | a :: l, b :: m, h => by
    simp only [List.map_cons, List.cons.injEq, V.int.injEq] at h
    rw [h.1, map_int_inj h.2]
open Classical in
theorem cr_sortE (hu : X.A.units + 65 < cLine) : CallR X (.builtin "sorted") (rSortE X.K) := by
  intro pins s σ H vs us Q I r h
  obtain ⟨a, x, xs, rfl, hs, hx, h0, q⟩ := h
  obtain ⟨its, rv, hl, hz⟩ := I.list hs
  have inj : ∀ y n m, TupV X.K H y n → TupV X.K H y m → n = m := fun y n m h1 h2 => by
    obtain ⟨t, rfl, h1⟩ := h1
    obtain ⟨t', e, h2⟩ := h2
    cases e
    exact map_int_inj (I.tuple_inj h1 h2)
  obtain ⟨k, hk⟩ : ∃ k : V → List Int, ∀ y ∈ x :: xs, TupV X.K H y (k y) := ⟨fun y => if h : ∃ ns, TupV X.K H y ns then Classical.choose h else [], fun y hy => by
    have z := hx y hy
    simp only [dif_pos z]
    exact Classical.choose_spec z⟩
  have k0 : k x = [] ∨ ∀ y ∈ x :: xs, k y ≠ [] := h0.imp (fun h0 => inj x _ _ (hk x List.mem_cons_self) h0) fun h0 y hy => by
    obtain ⟨ns, h1, h2⟩ := h0 y hy
    rw [inj y _ _ (hk y hy) h1]; exact h2
  rw [Vals.ref1 r]
  obtain ⟨e1, e2⟩ := refs_back rv fun y m => by
    obtain ⟨t, e, _⟩ := hk y m
    exact ⟨t, e⟩
  cases rv with
  | @cons _ u _ us ru rr =>
    have tup : ∀ v ∈ u :: us, TupInts s.heap v (k (backV v)) := fun v hv => by
      obtain ⟨t, rfl⟩ := e2 v hv
      have hm : V.ref t ∈ x :: xs := by rw [e1]; exact List.mem_map.mpr ⟨_, hv, rfl⟩
      obtain ⟨t', e, ht⟩ := hk _ hm
      cases e
      obtain ⟨is, r2, p2, _⟩ := I.tuple ht
      exact ⟨t, is, rfl, p2, Vals.ints r2⟩
    have eu : backV u = x := by
      have z := e1
      rw [List.map_cons] at z
      exact (List.cons.inj z).1.symm
    have hz' : (u :: us).length ≤ sizeLine := by
      have z := congrArg List.length e1
      rw [List.length_map] at z
      rw [← z]; exact hz
    refine sorted_tupsE (k := fun u => k (backV u)) hu hl.isList hz' tup (k0.imp (fun z => by rw [eu]; exact z) fun z v hv => z _ (by rw [e1]; exact List.mem_map.mpr ⟨v, hv, rfl⟩)) fun h' d out h1 h2 kp hd hn => ?_
    have h3 : ∀ v ∈ out, ∃ a, v = Value.ref a := fun v hv => e2 v (h2.perm.mem_iff.mp hv)
    obtain ⟨n, hn⟩ := hn
    have hb : (out.map backV).Perm (x :: xs) := by rw [e1]; exact h2.perm.map backV
    refine ⟨.ref d, upd H d (.lst (out.map backV)), I.laid (t' := s.toks) kp hd ⟨?_, out, n, vals_back h3, hn⟩, rfl, q _ d ?_ hb (I.hok.fresh hd)⟩
    · rw [hb.length_eq]; exact hz
    · refine List.pairwise_map.mpr (List.Pairwise.imp_of_mem (fun {a b} ha hb' hab n m hn hm => ?_) h1)
      have ma : backV a ∈ x :: xs := hb.mem_iff.mp (List.mem_map.mpr ⟨a, ha, rfl⟩)
      have mb : backV b ∈ x :: xs := hb.mem_iff.mp (List.mem_map.mpr ⟨b, hb', rfl⟩)
      rw [inj _ _ _ hn (hk _ ma), inj _ _ _ hm (hk _ mb)]
      exact hab
end
def tupsOf : List IV → Option (List (List Int))
  | [] => some []
  | .tup l :: r => (intsOf l).bind fun ns => (tupsOf r).map (ns :: ·)
  | _ :: _ => none
abbrev tupI (ns : List Int) : IV := .tup (ns.map .int)
theorem tupsOf_eq : ∀ {l : List IV} {nss : List (List Int)}, tupsOf l = some nss → l = nss.map tupI
  | [], _, h => by cases h; rfl
  | a :: l, nss, h => by
    cases a <;> simp only [tupsOf] at h <;> try cases h
    rename_i m
    cases q : intsOf m with
    | none => rw [q] at h; cases h
    | some ns =>
      rw [q] at h
      cases q2 : tupsOf l with
      | none => simp [q2] at h
      | some ms => simp [q2] at h; subst h; rw [intsOf_eq q, tupsOf_eq q2]; rfl
theorem tupsOf_map (nss : List (List Int)) : tupsOf (nss.map tupI) = some nss := by
  induction nss with
  | nil => rfl
  | cons a l ih => simp [tupsOf, tupI, intsOf_map]; exact ih
def sortLL (l : List (List Int)) : List (List Int) := l.mergeSort fun a b => !ltL b a
theorem sortLL_perm (l : List (List Int)) : (sortLL l).Perm l := List.mergeSort_perm l _
theorem sortLL_le (l : List (List Int)) : (sortLL l).Pairwise fun a b => ltL b a = false := by
  have h := List.pairwise_mergeSort (le := fun a b : List Int => !ltL b a) (by
    intro a b c h1 h2
    simp only [Bool.not_eq_true'] at *
    exact ltL_tr a b c h1 h2) (by
    intro a b
    cases q : ltL b a with
    | false => simp
    | true => simp [ltL_asym _ _ q]) l
  exact h.imp fun h => by simpa using h
theorem sortLL_of {l m : List (List Int)} (p : m.Perm l) (h : m.Pairwise fun a b => ltL b a = false) : m = sortLL l :=
  (p.trans (sortLL_perm l).symm).eq_of_pairwise (fun a b _ _ h1 h2 => ltL_eq a b h2 h1) h (sortLL_le l)
def sortTM (c : Bool) : List IV → M IV := fun l st => match l with
  | [a] => (match (seqL st a).bind tupsOf with
    | some (ns :: nss) => if ns = [] ∨ ∀ m ∈ ns :: nss, m ≠ [] then newL c ((sortLL (ns :: nss)).map tupI) st else none
    | _ => none)
  | _ => none
section
variable {K : PySem.W.Frag} {mg : Str → Option Value} {cm : Wd} {H : Hp}
theorem rep_tupV {x : V} {ns : List Int} (h : Rep K mg cm H x (tupI ns)) : TupV K H x ns := by
  unfold tupI at h
  cases h with
  | @tup t ys _ g1 g2 =>
    have := ints_rep g2
    subst this
    exact ⟨t, rfl, g1.sq⟩
theorem rep_perm : ∀ {xs ys : List V}, xs.Perm ys → ∀ {nss : List (List Int)}, RepL K mg cm H xs (nss.map tupI) → ∃ mss : List (List Int), mss.Perm nss ∧ RepL K mg cm H ys (mss.map tupI) := by
  intro xs ys p
  induction p with
  | nil => intro nss h; exact ⟨nss, List.Perm.refl _, h⟩
  | cons x _ ih =>
    intro nss h
    cases nss with
    | nil => cases h
    | cons n nss =>
      cases h with
      | cons h r =>
        obtain ⟨mss, p, r2⟩ := ih r
        exact ⟨n :: mss, p.cons n, .cons h r2⟩
  | swap x y l =>
    intro nss h
    cases nss with
    | nil => cases h
    | cons n nss =>
      cases h with
      | cons h r =>
        cases nss with
        | nil => cases r
        | cons m nss =>
          cases r with
          | cons h2 r => exact ⟨m :: n :: nss, List.Perm.swap _ _ _, .cons h2 (.cons h r)⟩
  | trans _ _ ih1 ih2 =>
    intro nss h
    obtain ⟨mss, p1, r1⟩ := ih1 h
    obtain ⟨kss, p2, r2⟩ := ih2 r1
    exact ⟨kss, p2.trans p1, r2⟩
theorem rep_pw : ∀ {ys : List V} {mss : List (List Int)}, RepL K mg cm H ys (mss.map tupI) → (ys.Pairwise fun u v => ∀ n m, TupV K H u n → TupV K H v m → ltL m n = false) → mss.Pairwise fun a b => ltL b a = false
  | _, [], _, _ => List.Pairwise.nil
  | _, m :: mss, .cons (x := x) (xs := xs) h r, pw => by
    obtain ⟨h1, h2⟩ := List.pairwise_cons.mp pw
    refine List.pairwise_cons.mpr ⟨fun b hb => ?_, rep_pw r h2⟩
    obtain ⟨i, hi⟩ := List.getElem?_of_mem hb
    obtain ⟨y, hy, ry⟩ := r.get (i := i) (v := tupI b) (by rw [List.getElem?_map, hi]; rfl)
    exact h1 y (List.mem_of_getElem? hy) m b (rep_tupV h) (rep_tupV ry)
theorem v_sortT (c : Bool) : CallV K mg (rSortE K) (sortTM c) := by
  intro W σ cm st H xs l o st' Q s hx e out
  cases hx with
  | nil => cases e
  | cons h1 h2 =>
    cases h2 with
    | cons _ _ => cases e
    | nil =>
      rename_i x a
      simp only [sortTM] at e
      split at e
      · rename_i ns nss q
        cases q1 : seqL st a with
        | none => rw [q1] at q; cases q
        | some m =>
          rw [q1] at q
          have em := tupsOf_eq (show tupsOf m = some (ns :: nss) from q)
          subst em
          obtain ⟨p, ys, rfl, hq, hr⟩ := seqL_rep s h1 q1
          cases hr with
          | @cons y ys v l hy hr =>
            have all : ∀ z ∈ y :: ys, ∃ ns, TupV K H z ns := fun z hz => by
              rcases List.mem_cons.mp hz with e | hz
              · subst e; exact ⟨_, rep_tupV hy⟩
              · obtain ⟨i, hi⟩ := List.getElem?_of_mem hz
                obtain ⟨v, hv, rv⟩ := hr.get' hi
                rw [List.getElem?_map] at hv
                cases q3 : nss[i]? with
                | none => rw [q3] at hv; cases hv
                | some ns => rw [q3] at hv; cases hv; exact ⟨ns, rep_tupV rv⟩
            split at e
            · rename_i hc
              refine ⟨p, y, ys, rfl, hq, all, hc.imp (fun z => by rw [z] at hy; exact rep_tupV hy) (fun z y' hy' => ?_), fun zs d pw pm hd => ?_⟩
              · rcases List.mem_cons.mp hy' with e' | hy'
                · subst e'; exact ⟨ns, rep_tupV hy, z ns List.mem_cons_self⟩
                · obtain ⟨i, hi⟩ := List.getElem?_of_mem hy'
                  obtain ⟨v, hv, rv⟩ := hr.get' hi
                  rw [List.getElem?_map] at hv
                  cases q3 : nss[i]? with
                  | none => rw [q3] at hv; cases hv
                  | some ms => rw [q3] at hv; cases hv; exact ⟨ms, rep_tupV rv, z ms (List.mem_cons_of_mem _ (List.mem_of_getElem? q3))⟩
              · obtain ⟨mss, p1, r1⟩ := rep_perm pm.symm (nss := ns :: nss) (.cons hy hr)
                have em := sortLL_of p1 (rep_pw r1 pw)
                subst em
                exact newL_new s e hd r1 out
            · cases e
      · cases e
end
end MK
end
namespace MK
open PySem L2
section
variable {st : Sto} {E : EX} {ls : Loc} {Q : IV → Sto → Prop} {QS : Src → Sto → Prop} {QB : List Int → Sto → Prop} {ga : MA} {m : ME} {tc : MT} {l : List IV} {c : Bool}
theorem we_enum (h : we (ga ls) st E fun l st1 => we (enumM l) st1 E QS) : we (mEnum ga ls) st E QS := we_bind h
instance i_we_enum  : Rule (we (mEnum ga ls) st E QS) (we (ga ls) st E fun l st1 => we (enumM l) st1 E QS) := ⟨we_enum⟩
theorem we_enumT (q : QS (enumL l, none) st) : we (enumM [.tup l]) st E QS := ⟨_, _, rfl, q⟩
instance i_we_enumT  : Rule (we (enumM [.tup l]) st E QS) (QS (enumL l, none) st) := ⟨we_enumT⟩
theorem we_enumL (q : QS (enumL l, none) st) : we (enumM [.lst l]) st E QS := ⟨_, _, rfl, q⟩
instance i_we_enumL  : Rule (we (enumM [.lst l]) st E QS) (QS (enumL l, none) st) := ⟨we_enumL⟩
theorem we_mInt (h : we (m ls) st E fun v st1 => ∃ i, v = .int i ∧ QB [i] st1) : we (mInt m ls) st E QB :=
  we_bind (we_mono h fun v st1 h => by
    obtain ⟨i, rfl, q⟩ := h
    exact ⟨.val [i], st1, rfl, q⟩)
instance i_we_mInt  : Rule (we (mInt m ls) st E QB) (we (m ls) st E fun v st1 => ∃ i, v = .int i ∧ QB [i] st1) := ⟨we_mInt⟩
theorem we_clause {src : MI} {vs : List Nat} {t : MG} {inn : MB} (h : we (src ls) st E fun p st1 => we (compB t tc inn p.1 p.2 (wipeI ls vs) p.1) st1 noX QB) : we (mClause src vs t tc inn ls) st E QB :=
  we_bind (we_mono h fun p st1 q => we_noxM q)
instance i_we_clause {src : MI} {vs : List Nat} {t : MG} {inn : MB} : Rule (we (mClause src vs t tc inn ls) st E QB) (we (src ls) st E fun p st1 => we (compB t tc inn p.1 p.2 (wipeI ls vs) p.1) st1 noX QB) := ⟨we_clause⟩
theorem we_sortSet {b : MB} (h : we (b ls) st E fun l st1 => (insL [] l).length < 64 ∧ we (newL c ((sortS l).map .int)) st1 E Q) : we (mSortSet c b ls) st E Q :=
  we_bind (we_mono h fun l st1 h => by
    rw [if_pos h.1]; exact h.2)
instance i_we_sortSet {b : MB} : Rule (we (mSortSet c b ls) st E Q) (we (b ls) st E fun l st1 => (insL [] l).length < 64 ∧ we (newL c ((sortS l).map .int)) st1 E Q) := ⟨we_sortSet⟩
theorem we_sortT {nss : List (List Int)} (e : l = nss.map tupI) (n0 : nss ≠ []) (hc : nss.head? = some [] ∨ ∀ m ∈ nss, m ≠ []) (h : we (newL c ((sortLL nss).map tupI)) st E Q) : we (sortTM c [.lst l]) st E Q := by
  subst e
  obtain ⟨r, st', e, q⟩ := h
  refine ⟨r, st', ?_, q⟩
  cases nss with
  | nil => exact absurd rfl n0
  | cons n nss =>
    simp only [sortTM, seqL, lstOf, Option.bind, tupsOf_map]
    rw [if_pos]
    · exact e
    · exact hc.imp (fun z => Option.some.inj z) id
theorem compB_pure {α : Type} {t : MG} {inn : MB} {l0 : List IV} {k : Option Nat} {as : List α} (g : α → IV) (p : α → Bool) (f : α → List Int) (z : srcOk k l0 st)
    (step : ∀ a ∈ as, ∃ ls1, t ls (g a) = some ls1 ∧ we (tc ls1) st noX (fun b st' => b = p a ∧ st' = st) ∧ (p a = true → we (inn ls1) st noX fun v st' => v = f a ∧ st' = st)) (q : QB ((as.filter p).flatMap f) st) :
    we (compB t tc inn l0 k ls (as.map g)) st noX QB := by
  refine ⟨.val ((as.filter p).flatMap f), st, ?_, q⟩
  clear q
  induction as with
  | nil => simp only [List.map_nil]; unfold compB; rw [if_pos z]; rfl
  | cons a as ih =>
    obtain ⟨ls1, e1, e2, e3⟩ := step a List.mem_cons_self
    have e2 := run_of e2
    have ih' := ih fun w hw => step w (List.mem_cons_of_mem _ hw)
    simp only [List.map_cons]
    unfold compB
    rw [if_pos z, e1]
    show M.bind (M.nox (tc ls1)) _ st = _
    rw [M.bind_run (M.nox_run e2)]
    cases q : p a with
    | true =>
      rw [if_pos rfl, M.bind_run (M.nox_run (run_of (e3 q))), M.bind_run ih', List.filter_cons_of_pos q]
      rfl
    | false =>
      rw [if_neg (by decide), List.filter_cons_of_neg (by rw [q]; decide)]
      exact ih'
theorem compL_map {α : Type} {t : MG} {l0 : List IV} {k : Option Nat} {QL : List IV → Sto → Prop} {as : List α} (g : α → IV) (p : α → Bool) (f : α → IV) (z : srcOk k l0 st)
    (step : ∀ a ∈ as, ∃ ls1, t ls (g a) = some ls1 ∧ we (tc ls1) st noX (fun b st' => b = p a ∧ st' = st) ∧ (p a = true → we (m ls1) st noX fun v st' => v = f a ∧ st' = st)) (q : QL ((as.filter p).map f) st) :
    we (compL t tc m l0 k ls (as.map g)) st noX QL := by
  refine ⟨.val ((as.filter p).map f), st, ?_, q⟩
  clear q
  induction as with
  | nil => simp only [List.map_nil]; unfold compL; rw [if_pos z]; rfl
  | cons a as ih =>
    obtain ⟨ls1, e1, e2, e3⟩ := step a List.mem_cons_self
    have e2 := run_of e2
    have ih' := ih fun w hw => step w (List.mem_cons_of_mem _ hw)
    simp only [List.map_cons]
    unfold compL
    rw [if_pos z, e1]
    show M.bind (M.nox (tc ls1)) _ st = _
    rw [M.bind_run (M.nox_run e2)]
    cases q : p a with
    | true =>
      rw [if_pos rfl, M.bind_run (M.nox_run (run_of (e3 q))), M.bind_run ih', List.filter_cons_of_pos q]
      rfl
    | false =>
      rw [if_neg (by decide), List.filter_cons_of_neg (by rw [q]; decide)]
      exact ih'
end
theorem inB_ints {st : Sto} {c : Int} {ns : List Int} : inB st (.int c) (.tup (ns.map .int)) = some (decide (c ∈ ns)) := by
  have hf : (ns.map IV.int).all IV.flat = true := by simp [IV.flat]
  simp only [inB, asSeq]
  rw [if_pos ⟨rfl, hf⟩]
  congr 1
  rw [Bool.eq_iff_iff]
  simp only [List.any_eq_true, decide_eq_true_eq, List.mem_map]
  constructor
  · rintro ⟨_, ⟨i, hi, rfl⟩, e⟩
    have : i = c := by simpa [eqF] using e
    exact this ▸ hi
  · intro h
    exact ⟨_, ⟨c, h, rfl⟩, by simp [eqF]⟩
section
variable {st : Sto} {c : Int} {ns : List Int} {Q : IV → Prop}
theorem o_inT (q : Q (.bl (decide (c ∈ ns)))) : ∃ v, inI st (.int c) (tupI ns) = some v ∧ Q v := ⟨_, by unfold inI tupI; rw [inB_ints]; rfl, q⟩
instance i_o_inT  : Rule (∃ v, inI st (.int c) (tupI ns) = some v ∧ Q v) (Q (.bl (decide (c ∈ ns)))) := ⟨o_inT⟩
theorem o_notInT (q : Q (.bl (!decide (c ∈ ns)))) : ∃ v, notInI st (.int c) (tupI ns) = some v ∧ Q v := ⟨_, by unfold notInI tupI; rw [inB_ints]; rfl, q⟩
instance i_o_notInT  : Rule (∃ v, notInI st (.int c) (tupI ns) = some v ∧ Q v) (Q (.bl (!decide (c ∈ ns)))) := ⟨o_notInT⟩
end
def rngL (n : Int) : List Int := (List.range n.toNat).map fun (i : Nat) => (i : Int)
theorem rngL_mem {n i : Int} : i ∈ rngL n ↔ 0 ≤ i ∧ i < n := by
  unfold rngL
  simp only [List.mem_map, List.mem_range]
  constructor
  · rintro ⟨a, h, rfl⟩; omega
  · rintro ⟨h0, h1⟩; exact ⟨i.toNat, by omega, by omega⟩
theorem rngL_pw {n : Int} : (rngL n).Pairwise (· < ·) := by
  unfold rngL
  rw [List.pairwise_map]
  exact List.pairwise_lt_range.imp fun h => by omega
theorem rngL_len {n : Int} : (rngL n).length = n.toNat := by unfold rngL; simp
theorem rangeI_rng {n : Int} : rangeI 0 n.toNat = (rngL n).map .int := by
  unfold rangeI rngL
  rw [List.map_map]
  congr 1
  funext i
  simp
theorem pw_ext : ∀ {l m : List Int}, l.Pairwise (· < ·) → m.Pairwise (· < ·) → (∀ i, i ∈ l ↔ i ∈ m) → l = m := fun {l m} h1 h2 h => by
  have n1 : l.Nodup := h1.imp fun q => Int.ne_of_lt q
  have n2 : m.Nodup := h2.imp fun q => Int.ne_of_lt q
  exact perm_le_eq ((List.perm_ext_iff_of_nodup n1 n2).mpr h) (h1.imp fun q => Int.le_of_lt q) (h2.imp fun q => Int.le_of_lt q)
def getM (ms : List (List Int)) (i : Int) : List Int := ms.getD i.toNat []
theorem enumL_tups (ms : List (List Int)) : enumL (ms.map tupI) = (rngL ms.length).map fun i => .tup [.int i, tupI (getM ms i)] := by
  apply List.ext_getElem?
  intro i
  unfold enumL rngL getM
  rw [List.getElem?_mapIdx, List.getElem?_map, List.getElem?_map, List.getElem?_map]
  by_cases h : i < ms.length
  · rw [List.getElem?_eq_getElem h, List.getElem?_range (by simpa using h)]
    simp [h]
  · rw [List.getElem?_eq_none (by omega), List.getElem?_eq_none (by simpa using h)]
    rfl
theorem atI_map {α β : Type} {l : List α} {f : α → β} {i : Int} {d : α} (h0 : 0 ≤ i) (h1 : i < l.length) : atI (l.map f) i = some (f (l.getD i.toNat d)) := by
  have hl : i.toNat < l.length := by omega
  refine atI_get h0 ?_
  rw [List.getElem?_map, List.getElem?_eq_getElem hl]
  simp [hl]
end MK
section
set_option maxHeartbeats 2000000
namespace MK
open PySem PySem.Spec PyProof.Rows L2
structure NeOk (K : PySem.W.Frag) (mg : Str → Option Value) (c : Str) : Prop where
  ex : ∃ C, mg c = some (.ref C) ∧ PySem.W.findIn K (.ref C) "__ne__" = some (some (.builtin "object.__ne__")) ∧ PySem.W.plainOver K C = true
theorem NeOk.of {K : PySem.W.Frag} {h : Heap} {mg : Str → Option Value} {c : Str} {C : Addr} (X : K.In h) (G : h.Ns mainGlobals mg) (aC : PySem.W.nsIn K mainGlobals c = some (some (.ref C))) (n : PySem.W.findIn K (.ref C) "__ne__" = some (some (.builtin "object.__ne__"))) (p : PySem.W.plainOver K C = true) : NeOk K mg c :=
  ⟨⟨C, PySem.W.mg_of X G aC, n, p⟩⟩
end MK
end
section
set_option maxHeartbeats 2000000
namespace MK
open PySem PySem.Spec PyProof.Rows L2
theorem co_slot_next : Slot "itertools.combinations" "__next__" "itertools.combinations.__next__" :=
  .of (owner := "itertools.combinations") (n := "__next__") (by rw [typeLookup_type, builtinLookup_eq_fast]; kernel_rfl) (by decide +kernel) (by decide +kernel) (by decide +kernel) (.inl (by decide +kernel)) (by rw [isSubtype_type]; kernel_rfl)
theorem co_entry_next : entryFor table "itertools.combinations.__next__" = some Builtin.«itertools.combinations.__next__» := entryFor_of_fast (by kernel_rfl)
theorem co_args_next (a : Value) : argsOk "itertools.combinations.__next__" ⟨[a], []⟩ := by unfold argsOk; kernel_rfl
theorem co_slot_iter : Slot "itertools.combinations" "__iter__" "itertools.combinations.__iter__" :=
  .of (owner := "itertools.combinations") (n := "__iter__") (by rw [typeLookup_type, builtinLookup_eq_fast]; kernel_rfl) (by decide +kernel) (by decide +kernel) (by decide +kernel) (.inl (by decide +kernel)) (by rw [isSubtype_type]; kernel_rfl)
theorem co_entry_iter : entryFor table "itertools.combinations.__iter__" = some Builtin.«dict_keyiterator.__iter__» :=
  entryFor_alias (id' := "dict_keyiterator.__iter__") (by kernel_rfl) rfl (by decide +kernel) (by kernel_rfl)
theorem co_args_iter (a : Value) : argsOk "itertools.combinations.__iter__" ⟨[a], []⟩ := by unfold argsOk; kernel_rfl
theorem co_slot_init : Slot "itertools.combinations" "__init__" "object.__init__" :=
  .of (owner := "object") (n := "__init__") (by rw [typeLookup_type, builtinLookup_eq_fast]; kernel_rfl) (by decide +kernel) (by decide +kernel) (by decide +kernel) (.inl (by decide +kernel)) (by rw [isSubtype_type]; kernel_rfl)
theorem co_entry_new : entryFor table "itertools.combinations.__new__" = some Builtin.«itertools.combinations.__new__» := entryFor_of_fast (by kernel_rfl)
theorem co_mro : mroOf (.type "itertools.combinations") = pure [.type "itertools.combinations", .type "object"] := by kernel_rfl
theorem co_look_new : typeLookup (.type "itertools.combinations") "__new__" = pure (some (.builtin "itertools.combinations.__new__")) := by rw [typeLookup_type, builtinLookup_eq_fast]; kernel_rfl
theorem co_called : TypeCalled "itertools.combinations" "itertools.combinations.__new__" "object.__init__" :=
  ⟨by decide +kernel, by decide +kernel, ⟨_, _, co_mro⟩, madeBy_type co_mro co_look_new (by decide +kernel), by decide +kernel, by rw [isSubtype_type]; kernel_rfl, co_slot_init⟩
theorem co_typeCall (a b : Value) : checkTypeCall "itertools.combinations" ⟨[a, b], []⟩ = pure () := by kernel_rfl
theorem co_newCall (a b : Value) : checkBuiltinCall "itertools.combinations.__new__" ⟨[.type "itertools.combinations", a, b], []⟩ = pure () := by kernel_rfl
def nextC (n : Nat) (ix : List Nat) : Option (List Nat) :=
  match (List.range ix.length).reverse.find? (fun i => ix.getD i 0 != i + n - ix.length) with
  | none => none
  | some i => some (ix.take i ++ (List.range (ix.length - i)).map fun j => ix.getD i 0 + 1 + j)
theorem co_rest (v : Value) (r : Int) (t : Tok) : Builtin.Itertools.itClassAndRest "combinations" ⟨[.type "itertools.combinations", v, .int r t], []⟩ = pure (.type "itertools.combinations", [v, .int r t]) := by kernel_rfl
theorem co_bind (v w : Value) : Builtin.Itertools.itBindNamed "combinations" ["iterable", "r"] 2 2 [v, w] [] = pure [some v, some w] := by kernel_rfl
def CmbAt (h : Heap) (it P : Addr) (st : Int) (last : Value) (ix : List Nat) : Prop :=
  h.get? it = some { cls := .type "itertools.combinations", dict := none, data := .fields (Value.ref P :: rawInt st :: last :: ix.map fun (i : Nat) => rawInt i).toArray, slots := #[] }
theorem raws_back (ix : List Nat) : ((ix.map fun (i : Nat) => rawInt i).map fun v => match v with | .int n _ => n.toNat | _ => 0) = ix := by
  rw [List.map_map]
  induction ix with
  | nil => rfl
  | cons a l ih => rw [List.map_cons, ih]; rfl
section
variable {prog : Program} {w : World} {A : Around} {E : Value → Shared → Prop} {s : Shared} {it P : Addr} {st : Int} {last : Value} {ix nx : List Nat} {items : Array Value}
theorem cmb_type (h : CmbAt s.heap it P st last ix) : s.TypeIs (.ref it) "itertools.combinations" := ⟨_, h, rfl⟩
theorem nums_at {Q : List Nat → Shared → Prop} (h : CmbAt s.heap it P st last ix) (q : Q ix s) : wpAny (model prog w) A (Builtin.Itertools.itNumbersFrom (.ref it) 3) Q E s := by
  unfold Builtin.Itertools.itNumbersFrom
  refine wpAny_bind (wpAny_load h ?_)
  dsimp only
  refine wpAny_pure ?_
  have e : (List.drop 3 (Value.ref P :: rawInt st :: last :: ix.map fun (i : Nat) => rawInt i)).map (fun v => match v with | .int n _ => n.toNat | _ => 0) = ix := raws_back ix
  exact Eq.mpr (congrArg (fun l => Q l s) e) q
theorem pool_at {Q : Array Value → Shared → Prop} (h : s.heap.IsTuple P items) (q : Q items s) : wpAny (model prog w) A (Builtin.Itertools.itPoolItems (.ref P)) Q E s := by
  obtain ⟨o, ho, _, n, hd⟩ := h
  unfold Builtin.Itertools.itPoolItems
  exact wpAny_bind (wpAny_seqItems ho hd (wpAny_pure q))
def picks (items : Array Value) (ix : List Nat) : List Value := ix.map fun i => items.getD i .none
theorem hand_out {Q : Fin → Shared → Prop} (h : CmbAt s.heap it P st last ix) (hT : s.heap.IsTuple P items) (hP : P ≠ it) (hl : ix.length ≤ 1000)
    (q : ∀ h', CmbAt h' it P st (.ref s.heap.objs.size) ix → h'.get? s.heap.objs.size = some { cls := .type "tuple", data := .seq (picks items ix).toArray } → h'.objs.size = s.heap.objs.size + 1 → (∀ b o, b ≠ it → s.heap.get? b = some o → h'.get? b = some o) → Q (.done (.ret (.ref s.heap.objs.size))) { s with heap := h' }) :
    wpAny (model prog w) A (((Builtin.Itertools.itPoolItems (.ref P) >>= fun xs => newTuple (ix.map fun i => xs.getD i .none)) >>= fun t => field (.ref it) 2 >>= fun old => setField (.ref it) 2 t >>= fun _ => letGo [old] [t] >>= fun _ => ret t : Sem Fin)) Q E s := by
  have lt : it < s.heap.objs.size := Heap.lt_size h
  refine wpAny_bind (wpAny_bind (pool_at hT (wpAny_newTuple ?_ (by rw [List.length_map, sizeLine_eq]; omega))))
  have h1 : CmbAt (s.heap.push { cls := .type "tuple", data := .seq (ix.map fun i => items.getD i .none).toArray }) it P st last ix := Heap.get?_push_of_some _ h
  refine wpAny_bind (wpAny_field h1 rfl (x := last) (by simp) ?_)
  refine wpAny_bind (wpAny_setField_rec h1 (by simp) fun h' e' sb => wpAny_bind (wpAny_letGo ?_))
  refine wpAny_pure ?_
  have e2 : CmbAt h' it P st (.ref s.heap.objs.size) ix := by
    unfold CmbAt
    rw [e']
    simp
  refine q h' e2 ?_ ?_ fun b o hb ho => (sb.2 b hb).trans (Heap.get?_push_of_some _ ho)
  · exact (sb.2 _ (Nat.ne_of_gt lt)).trans (Heap.get?_push_size _ rfl)
  · rw [sb.1, Heap.size_push]
end
end MK
end
section
set_option maxHeartbeats 2000000
namespace MK
open PySem PySem.Spec PyProof.Rows L2
section
variable {prog : Program} {w : World} {A : Around} {E : Value → Shared → Prop} {s : Shared} {it P : Addr} {st : Int} {last : Value} {ix nx : List Nat} {items : Array Value}
theorem co_next_first {Q : Option Value → Shared → Prop} (h : CmbAt s.heap it P 0 last ix) (hT : s.heap.IsTuple P items) (hP : P ≠ it) (hl : ix.length ≤ 1000)
    (q : ∀ h', CmbAt h' it P 1 (.ref s.heap.objs.size) ix → h'.get? s.heap.objs.size = some { cls := .type "tuple", data := .seq (picks items ix).toArray } → (∀ b o, b ≠ it → s.heap.get? b = some o → h'.get? b = some o) → Q (some (.ref s.heap.objs.size)) { s with heap := h' }) :
    wpAny (model prog w) A (pyNext (.ref it)) Q E s := by
  have hT0 := cmb_type h
  unfold pyNext
  refine wpAny_bind (wpAny_attempt (wpAny_callSpecial?_slot (name := Str.ofString "__next__") hT0 co_slot_next
    (wpAny_call_entry co_slot_next hT0 co_entry_next ?_ (co_args_next _))))
  refine wpAny_bind (wpAny_pure ?_)
  show wpAny _ _ (field (.ref it) 0 >>= _) _ _ s
  refine wpAny_bind (wpAny_field h rfl (x := .ref P) rfl ?_)
  refine wpAny_bind (nums_at h ?_)
  refine wpAny_bind ?_
  unfold Builtin.Itertools.itIntField
  refine wpAny_bind (wpAny_field h rfl (x := rawInt 0) rfl (wpAny_pure ?_))
  dsimp only
  refine wpAny_bind (wpAny_setField_rec h (by simp) fun h1 e1 sb => ?_)
  replace e1 : CmbAt h1 it P 1 last ix := by
    unfold CmbAt
    rw [e1]
    simp
  replace sb : Heap.SameBut it s.heap h1 := sb
  have hT1 : h1.IsTuple P items := by
    obtain ⟨o, ho, r⟩ := hT
    exact ⟨o, (sb.2 P hP).trans ho, r⟩
  refine hand_out (s := { s with heap := h1 }) e1 hT1 hP hl fun h2 e2 t2 z2 k2 => ?_
  have ez : h1.objs.size = s.heap.objs.size := sb.1
  refine ⟨_, rfl, wpAny_pure ?_⟩
  have qq := q h2 (by rw [← ez]; exact e2) (by rw [← ez]; exact t2) fun b o hb ho => k2 b o hb ((sb.2 b hb).trans ho)
  rw [← ez] at qq
  exact qq
theorem set_nums {Q : Unit → Shared → Prop} (h : CmbAt s.heap it P st last ix) (hl : nx.length ≤ 1000)
    (q : ∀ h', CmbAt h' it P st last nx → Heap.SameBut it s.heap h' → Q () { s with heap := h' }) : wpAny (model prog w) A (Builtin.Itertools.itSetNumbersFrom (.ref it) 3 nx) Q E s := by
  unfold Builtin.Itertools.itSetNumbersFrom
  have ea : (Value.ref P :: rawInt st :: last :: ix.map fun (i : Nat) => rawInt i).toArray.extract 0 3 ++ (nx.map fun (n : Nat) => rawInt n).toArray = (Value.ref P :: rawInt st :: last :: nx.map fun (i : Nat) => rawInt i).toArray := by
    simp
  refine wpAny_updateFields h rfl (q _ ?_ (Heap.SameBut.update ..)) ?_
  · unfold CmbAt
    rw [Heap.get?_update_self _ h rfl]
    simp only [Obj.mapFields]
    rw [ea]
  · show (_ : Array Value).size ≤ _
    rw [ea, sizeLine_eq]
    simp
    omega
theorem int_at {Q : Int → Shared → Prop} (h : CmbAt s.heap it P st last ix) (q : Q st s) : wpAny (model prog w) A (Builtin.Itertools.itIntField (.ref it) 1) Q E s := by
  unfold Builtin.Itertools.itIntField
  exact wpAny_bind (wpAny_field h rfl (x := rawInt st) rfl (wpAny_pure q))
theorem co_next_more {Q : Option Value → Shared → Prop} (h : CmbAt s.heap it P 1 last ix) (hT : s.heap.IsTuple P items) (hP : P ≠ it) (hn : nextC items.size ix = some nx) (hl : nx.length ≤ 1000)
    (q : ∀ h', CmbAt h' it P 1 (.ref s.heap.objs.size) nx → h'.get? s.heap.objs.size = some { cls := .type "tuple", data := .seq (picks items nx).toArray } → (∀ b o, b ≠ it → s.heap.get? b = some o → h'.get? b = some o) → Q (some (.ref s.heap.objs.size)) { s with heap := h' }) :
    wpAny (model prog w) A (pyNext (.ref it)) Q E s := by
  have hT0 := cmb_type h
  unfold pyNext
  refine wpAny_bind (wpAny_attempt (wpAny_callSpecial?_slot (name := Str.ofString "__next__") hT0 co_slot_next
    (wpAny_call_entry co_slot_next hT0 co_entry_next ?_ (co_args_next _))))
  refine wpAny_bind (wpAny_pure ?_)
  show wpAny _ _ (field (.ref it) 0 >>= _) _ _ s
  refine wpAny_bind (wpAny_field h rfl (x := .ref P) rfl ?_)
  refine wpAny_bind (nums_at h ?_)
  refine wpAny_bind (int_at h ?_)
  dsimp only
  refine wpAny_bind (pool_at hT ?_)
  split
  · rename_i next heq
    have e : next = nx := Option.some.inj (heq.symm.trans hn)
    subst e
    refine wpAny_bind (set_nums h hl fun h1 e1 sb => ?_)
    have hT1 : h1.IsTuple P items := by
      obtain ⟨o, ho, r⟩ := hT
      exact ⟨o, (sb.2 P hP).trans ho, r⟩
    refine hand_out (s := { s with heap := h1 }) e1 hT1 hP hl fun h2 e2 t2 z2 k2 => ?_
    have ez : h1.objs.size = s.heap.objs.size := sb.1
    refine ⟨_, rfl, wpAny_pure ?_⟩
    have qq := q h2 (by rw [← ez]; exact e2) (by rw [← ez]; exact t2) fun b o hb ho => k2 b o hb ((sb.2 b hb).trans ho)
    rw [← ez] at qq
    exact qq
  · rename_i heq
    exact absurd (heq.symm.trans hn) (by simp)
end
end MK
end
section
set_option maxHeartbeats 2000000
namespace MK
open PySem PySem.Spec PyProof.Rows L2
section
variable {prog : Program} {w : World} {A : Around} {E : Value → Shared → Prop} {s : Shared} {it P : Addr} {st : Int} {last : Value} {ix nx : List Nat} {items : Array Value}
theorem co_next_end {Q : Option Value → Shared → Prop} (hh : A.handled = none) (h : CmbAt s.heap it P 1 last ix) (hT : s.heap.IsTuple P items) (hn : nextC items.size ix = none)
    (hQ : ∀ h', Heap.ExtBut it s.heap h' → Q none { s with heap := h' }) : wpAny (model prog w) A (pyNext (.ref it)) Q E s := by
  have hT0 := cmb_type h
  unfold pyNext
  refine wpAny_bind (wpAny_attempt (wpAny_callSpecial?_slot (name := Str.ofString "__next__") hT0 co_slot_next
    (wpAny_call_entry co_slot_next hT0 co_entry_next ?_ (co_args_next _))))
  refine wpAny_bind (wpAny_pure ?_)
  show wpAny _ _ (field (.ref it) 0 >>= _) _ _ s
  refine wpAny_bind (wpAny_field h rfl (x := .ref P) rfl ?_)
  refine wpAny_bind (nums_at h ?_)
  refine wpAny_bind (int_at h ?_)
  dsimp only
  refine wpAny_bind (pool_at hT ?_)
  split
  · rename_i next heq
    exact absurd (heq.symm.trans hn) (by simp)
  · show wpAny _ _ (setField (.ref it) 1 (rawInt 2) >>= _) _ _ s
    refine wpAny_bind (wpAny_setField h rfl (by simp) ?_)
    show wpAny _ _ (newExc (.type "StopIteration") [] >>= _) _ _ _
    refine wpAny_bind ?_
    simp only [newExc, newTuple]
    refine wpAny_bind (wpAny_newObj_type ?_ (by size_fits))
    refine wpAny_bind (m := firstArgMember _ _) (wpAny_of_eq (a := Value.none) (by first | rfl | (simp only [firstArgMember]; rfl)) ?_)
    refine wpAny_newObj_type ?_ (by size_fits)
    simp only [raiseNew]
    refine wpAny_bind (wpAny_handled ?_)
    rw [show A.in1.handled = none from hh]
    refine wpAny_bind (wpAny_pure (wpAny_throw ?_))
    refine wpAny_bind (wpAny_isInstance (T := "StopIteration") (b := true) ⟨_, Heap.get?_push_size _ rfl, rfl⟩ isSubtype_stop ?_)
    exact wpAny_pure (hQ _ (((Heap.SameBut.update ..).extBut.push _).push _))
end
structure CmbOk (n : Nat) (L : List (List Nat)) (r : Nat) : Prop where
  first : L[0]? = some (List.range r)
  next : ∀ i ix, L[i]? = some ix → nextC n ix = L[i + 1]?
  lt : ∀ ix ∈ L, ∀ j ∈ ix, j < n
  len : ∀ ix ∈ L, ix.length ≤ 1000
def ItC (L : List (List Nat)) : It :=
  ⟨fun i _ => i < L.length, fun i H v H' => ∃ T ix, v = .ref T ∧ H T = none ∧ H' = upd H T (.tup (ix.map fun (j : Nat) => V.int j)) ∧ L[i]? = some ix, fun i _ => L.length ≤ i⟩
def CmbTn (P it : Addr) (n : Nat) (L : List (List Nat)) (i : Nat) (h : Heap) : Prop :=
  ∃ items last ix, h.IsTuple P items ∧ ItemsOf (fun j v => ∃ t, v = .int (j : Nat) t) items n ∧ ((i = 0 ∧ L[0]? = some ix ∧ CmbAt h it P 0 last ix) ∨ (∃ k, i = k + 1 ∧ L[k]? = some ix ∧ CmbAt h it P 1 last ix))
theorem picks_rel {items : Array Value} {n : Nat} (hi : ItemsOf (fun j v => ∃ t, v = .int (j : Nat) t) items n) : ∀ {ix : List Nat}, (∀ j ∈ ix, j < n) → Vals (ix.map fun (j : Nat) => V.int j) (picks items ix)
  | [], _ => .nil
  | a :: l, h => .cons (by
      have la : a < items.size := by rw [hi.1]; exact h a (by simp)
      obtain ⟨t, e⟩ := hi.2 a _ (Array.getElem?_eq_getElem la)
      refine ⟨t, ?_⟩
      show items.getD a .none = _
      rw [Array.getD_eq_getD_getElem?, Array.getElem?_eq_getElem la]
      exact e) (picks_rel hi fun j hj => h j (by simp [hj]))
theorem turn_comb {P0 : Program} {w : World} {K : PySem.W.Frag} {tg : Expr} {n r : Nat} {L : List (List Nat)} (hL : CmbOk n L r) (P it : Addr) (hP : P ≠ it) :
    Turn P0 w K tg (ItC L) [it, P] it (CmbTn P it n L) where
  mem := List.mem_cons_self
  obj := fun i h st b hb => by
    obtain ⟨items, last, ix, ⟨o, ho, hc, m, hd⟩, _, q⟩ := st
    rcases List.mem_cons.mp hb with z | z
    · subst z
      rcases q with ⟨_, _, q⟩ | ⟨_, _, _, q⟩
      · exact ⟨_, q, fun v z => nomatch z⟩
      · exact ⟨_, q, fun v z => nomatch z⟩
    · have z := List.mem_singleton.mp z
      subst z; exact ⟨o, ho, fun v q => by rw [hd] at q; cases q⟩
  keep := fun i h h' st k => by
    obtain ⟨items, last, ix, ⟨o, ho, hr⟩, hi, q⟩ := st
    refine ⟨items, last, ix, ⟨o, k P (by simp) _ ho, hr⟩, hi, ?_⟩
    rcases q with ⟨q1, q2, q⟩ | ⟨kk, q1, q2, q⟩
    · exact .inl ⟨q1, q2, k it (by simp) _ q⟩
    · exact .inr ⟨kk, q1, q2, k it (by simp) _ q⟩
  item := by
    intro X hP0 hw hK hc i pins s σ H E I hf st go
    subst hP0 hw hK
    obtain ⟨items, last, ix, hT, hi, q⟩ := st
    have go : i < L.length := go
    obtain ⟨nx, hnx⟩ : ∃ nx, L[i]? = some nx := ⟨_, List.getElem?_eq_getElem go⟩
    have hm : nx ∈ L := List.mem_of_getElem? hnx
    have li : it < s.heap.objs.size := by
      rcases q with ⟨_, _, q⟩ | ⟨_, _, _, q⟩ <;> exact Heap.lt_size q
    have lp : P < s.heap.objs.size := by obtain ⟨o, ho, _⟩ := hT; exact Heap.lt_size ho
    have fin : ∀ h', CmbAt h' it P 1 (.ref s.heap.objs.size) nx → h'.get? s.heap.objs.size = some { cls := .type "tuple", data := .seq (picks items nx).toArray } → (∀ b o, b ≠ it → s.heap.get? b = some o → h'.get? b = some o) →
        (∃ u, (some (Value.ref s.heap.objs.size)) = some u ∧ wpAny (model X.prog X.w) X.A (letOwnedTupleGo tg (.ref it) u) (fun _ s2 => ∃ x H', Inv X pins σ H' s2 ∧ RelV x u ∧ (ItC L).yld i H x H' ∧ CmbTn P it n L (i + 1) s2.heap ∧ ∀ b ∈ [it, P], H' b = none) E { s with heap := h' }) := fun h' e' t' k' => by
      refine ⟨_, rfl, go_of (s := { s with heap := h' }) (n := "itertools.combinations") e' rfl rfl (by decide) ?_⟩
      have pr := picks_rel hi (hL.lt nx hm)
      have new : ObjOk X.prog X.w (upd H s.heap.objs.size (.tup (nx.map fun (j : Nat) => V.int j))) h' s.heap.objs.size (.tup (nx.map fun (j : Nat) => V.int j)) :=
        ⟨by have := hL.len nx hm; rw [List.length_map, sizeLine_eq]; omega, picks items nx, pr, ⟨_, t', rfl, _, rfl⟩⟩
      have I1 : Inv X pins σ (upd H s.heap.objs.size (.tup (nx.map fun (j : Nat) => V.int j))) { s with heap := h', toks := s.toks } :=
        I.turnedNew (ch := [it, P]) (fun b ob hb q => k' b ob (fun z => hb (by simp [z])) q) hf (Nat.le_refl _) new
      refine ⟨.ref s.heap.objs.size, _, I1, rfl, ⟨_, nx, rfl, I.hok.fresh (Nat.le_refl _), rfl, hnx⟩, ⟨items, _, nx, ?_, hi, .inr ⟨i, rfl, hnx, e'⟩⟩, fun b hb => ?_⟩
      · obtain ⟨o, ho, hr⟩ := hT
        exact ⟨o, k' P o hP ho, hr⟩
      · have lb : b < s.heap.objs.size := by
          rcases List.mem_cons.mp hb with z | z
          · subst z; exact li
          · rw [List.mem_singleton.mp z]; exact lp
        exact (upd_ne (Nat.ne_of_lt lb)).trans (hf b hb).1
    rcases q with ⟨q1, q2, q⟩ | ⟨k, q1, q2, q⟩
    · subst q1
      rw [q2] at hnx; cases hnx
      exact co_next_first q hT hP (hL.len _ hm) fun h' e' t' k' => fin h' e' t' k'
    · subst q1
      have hx := hL.next k ix q2
      rw [hnx, ← hi.1] at hx
      exact co_next_more q hT hP hx (hL.len _ hm) fun h' e' t' k' => fin h' e' t' k'
  done := by
    intro X hP0 hw hK hc i pins s σ H E I hf st go
    subst hP0 hw hK
    obtain ⟨items, last, ix, hT, hi, q⟩ := st
    have go : L.length ≤ i := go
    obtain ⟨f0, f1, f2, f3, f4, f5⟩ := hf it (by simp)
    rcases q with ⟨q1, q2, q⟩ | ⟨k, q1, q2, q⟩
    · subst q1
      have := (List.getElem?_eq_some_iff.mp hL.first).1
      omega
    · subst q1
      have hx := hL.next k ix q2
      rw [List.getElem?_eq_none go, ← hi.1] at hx
      exact co_next_end ((I.ok.hd hc)) q hT hx fun h' eb => ⟨rfl, I.turned (t' := s.toks) (fun b o hb q => eb b o hb q) f0 f1 f3 f4 f5⟩
  self := fun A i s Q E st h => by
    obtain ⟨items, last, ix, hT, hi, q⟩ := st
    have hTI : s.TypeIs (.ref it) "itertools.combinations" := by
      rcases q with ⟨_, _, q⟩ | ⟨_, _, _, q⟩ <;> exact cmb_type q
    refine wpAny_pyIter_slot hTI co_slot_iter (wpAny_call_entry co_slot_iter hTI co_entry_iter ?_ (co_args_iter _))
    show wpAny _ _ (ret (.ref it)) _ _ s
    exact wpAny_pure ⟨_, rfl, "itertools.combinations", _, hTI, co_slot_next.lookup, h⟩
section
variable {prog : Program} {w : World} {A : Around} {E : Value → Shared → Prop} {s : Shared} {r : Addr} {n k : Nat} {t0 t1 t2 t3 : Tok}
theorem co_new {Q₁ : Value → Shared → Prop} (hh : A.handled = none) (hr : IsRange s.heap r 0 n 1 t0 t1 t2) (hn : n ≤ 1000) (hk : k ≤ n)
    (h : ∀ (h1 : Heap) (tk : Nat) (items : Array Value), (∀ b o, s.heap.get? b = some o → h1.get? b = some o) → ItemsOf (fun j v => ∃ t, v = .int (j : Nat) t) items n →
      Q₁ (.ref (h1.objs.size + 1)) { s with heap := (h1.push { cls := .type "tuple", data := .seq items }).push { cls := .type "itertools.combinations", data := .fields (Value.ref h1.objs.size :: rawInt 0 :: .none :: (List.range k).map fun (i : Nat) => rawInt i).toArray }, toks := tk }) :
    codeAny (model prog w) A (.call (.builtin "itertools.combinations.__new__") ⟨[.type "itertools.combinations", .ref r, .int k t3], []⟩) (wants Q₁ E) s := by
  refine codeAny_of_tree ?_
  show wpAny _ A.in1 (do checkBuiltinCall "itertools.combinations.__new__" ⟨[.type "itertools.combinations", .ref r, .int k t3], []⟩; again (.builtin "itertools.combinations.__new__" ⟨[.type "itertools.combinations", .ref r, .int k t3], []⟩)) _ _ s
  refine wpAny_bind (wpAny_of_eq (co_newCall _ _) (wpAny_pure ⟨plainId_quiet (by decide +kernel) _, codeAny_builtin co_entry_new ?_⟩))
  rw [Around.under_plainId (by decide +kernel) _]
  unfold Builtin.«itertools.combinations.__new__»
  refine wpAny_bind ?_
  show wpAny _ _ (Builtin.Itertools.itClassAndRest "combinations" ⟨[.type "itertools.combinations", .ref r, .int k t3], []⟩ >>= _) _ _ s
  refine wpAny_bind (wpAny_of_eq (co_rest _ _ _) ?_)
  dsimp only
  refine wpAny_bind (wpAny_of_eq (co_bind _ _) ?_)
  dsimp only
  have i1 : Builtin.Itertools.itSsizeArg (Value.int (↑k) t3) = pure (k : Int) := by
    unfold Builtin.Itertools.itSsizeArg
    rw [show asIndex (Value.int (↑k) t3) = pure (k : Int) from rfl]
    rw [pure_bind]
    rw [if_neg (by simp; omega)]
  refine wpAny_bind (wpAny_of_eq i1 ?_)
  refine wpAny_bind (collect_range (A := A.in1) hh hr (small_one (by omega) (by omega) (by omega) (by omega)) (n := n) (by have := rangeSize_one 0 (n : Int); rw [this]; split <;> omega) (by omega) fun h1 tk acc k1 hi => ?_)
  rw [if_neg (by omega), if_neg (by unfold Builtin.Itertools.itTooMany; simp; omega)]
  have hz : acc.size = n := hi.1
  refine wpAny_bind (wpAny_newTuple ?_ (by rw [sizeLine_eq]; simp; omega))
  refine wpAny_pure ?_
  dsimp only
  unfold Builtin.Itertools.itNewRecord
  refine wpAny_bind ?_
  rw [show typeHasDict (.type "itertools.combinations") = false by kernel_rfl]
  simp only [Bool.not_false, if_true]
  have hl : acc.toList.length = n := by simpa using hi.1
  rw [hl, if_neg (by omega)]
  have e := h h1 tk acc k1 ⟨hi.1, fun j v q => by
      obtain ⟨t, e⟩ := hi.2 j v q
      exact ⟨t, by rw [e]; simp⟩⟩
  refine wpAny_newObj_type ?_ ?_
  · refine wpAny_pure ?_
    show Q₁ (.ref (h1.push { cls := .type "tuple", data := .seq acc.toList.toArray }).objs.size) _
    rw [Heap.size_push]
    simpa using e
  · show (_ : Array Value).size ≤ _
    rw [sizeLine_eq]; simp; omega
theorem call_comb {Q : Value → Shared → Prop} (hh : A.handled = none) (hr : IsRange s.heap r 0 n 1 t0 t1 t2) (hn : n ≤ 1000) (hk : k ≤ n)
    (h : ∀ (h1 : Heap) (tk : Nat) (items : Array Value), (∀ b o, s.heap.get? b = some o → h1.get? b = some o) → ItemsOf (fun j v => ∃ t, v = .int (j : Nat) t) items n →
      Q (.ref (h1.objs.size + 1)) { s with heap := (h1.push { cls := .type "tuple", data := .seq items }).push { cls := .type "itertools.combinations", data := .fields (Value.ref h1.objs.size :: rawInt 0 :: .none :: (List.range k).map fun (i : Nat) => rawInt i).toArray }, toks := tk }) :
    wpAny (model prog w) A (call (.type "itertools.combinations") [.ref r, .int k t3]) Q E s := by
  refine callType_codes (Q₁ := fun obj s₁ => s₁.TypeIs obj "itertools.combinations" ∧ Q obj s₁) co_called (co_typeCall _ _) F.entry_object_init
    (co_new (A := A.in1) hh hr hn hk fun h1 tk items k1 hi => ⟨?_, h h1 tk items k1 hi⟩) fun obj s₁ h₁ => ?_
  · have e := Heap.get?_push_size (h1.push { cls := .type "tuple", data := .seq items }) (o := { cls := .type "itertools.combinations", data := .fields (Value.ref h1.objs.size :: rawInt 0 :: .none :: (List.range k).map fun (i : Nat) => rawInt i).toArray }) rfl
    rw [Heap.size_push] at e
    exact ⟨_, e, rfl⟩
  · exact ⟨h₁.1, by unfold argsOk; kernel_rfl, object_init_meets co_called.init.lookup co_called.made (by decide) prog w A.in1 _ s₁ ⟨h₁.1, rfl, h₁.2⟩⟩
end
def iComb (L : Nat → Nat → List (List Nat)) (ta : TA) (tb : TE) : TI := fun σ H R => ta σ H fun vs H1 => ∃ n : Nat, vs = [.int (n : Nat)] ∧ n ≤ 1000 ∧ tb σ H1 fun y H2 => ∃ k : Nat, y = .int (k : Nat) ∧ k ≤ n ∧ CmbOk n (L n k) k ∧ R (ItC (L n k)) H2
theorem pi_comb {X : Cx} {tg a b : Expr} {ta : TA} {tb : TE} {p p2 pos pos2 : Pos} {L : Nat → Nat → List (List Nat)} (hc : X.calm = true) (hg : Gl X "range") (hm : X.mg "range" = none) (hg2 : Gl X "combinations") (hm2 : X.mg "combinations" = some (.type "itertools.combinations"))
    (ha : PA X [a] ta) (hb : PE X b tb) (hs : starEach [a] X.env = [(false, eval a X.env)] := by rfl)
    (hs2 : starEach [.Call (.Name "range" p) [a] [] pos, b] X.env = (false, eval (.Call (.Name "range" p) [a] [] pos) X.env) :: starEach [b] X.env := by rfl) (hs3 : starEach [b] X.env = (false, eval b X.env) :: starEach [] X.env := by rfl) :
    PI X tg (.Call (.Name "combinations" p2) [.Call (.Name "range" p) [a] [] pos, b] [] pos2) (iComb L ta tb) := by
  refine ⟨fun pins s σ H R I h => ?_⟩
  refine Call_ (ld_glob I hg2 hm2 (PyProof.Rows.callWith_type1 ?_ hs2 (by rw [hs3]; rfl)))
  refine args_cons ?_ hs2
  refine Call_ (ld_blt I hg hm boot_range (PyProof.Rows.callWith_type1 (thn (ha.run pos pins s σ H _ I h) fun us s1 h1 => ?_) hs rfl))
  obtain ⟨vs, H1, I1, r1, q1⟩ := h1
  obtain ⟨m, e1, hm, q1⟩ := q1
  subst e1
  cases r1 with
  | cons rr rn =>
    cases rn
    obtain ⟨t, rfl⟩ := rr
    refine call_range_1 ?_
    have I2 : Inv X pins σ H1 { s1 with heap := s1.heap.push { cls := .type "range", data := .fields #[.int 0 s1.toks, .int (m : Nat) t, .int 1 (s1.toks + 1)] }, toks := s1.toks + 1 + 1 } := I1.kept fun b u e => Heap.get?_push_of_some _ e
    have I3 : Inv X ((s1.heap.objs.size, { cls := .type "range", dict := none, data := .fields #[.int 0 s1.toks, .int (m : Nat) t, .int 1 (s1.toks + 1)], slots := #[] }) :: pins) σ H1 { s1 with heap := s1.heap.push { cls := .type "range", data := .fields #[.int 0 s1.toks, .int (m : Nat) t, .int 1 (s1.toks + 1)] }, toks := s1.toks + 1 + 1 } := I2.pins_of fun p hp => by
      rcases List.mem_cons.mp hp with z | z
      · subst z
        exact ⟨Heap.get?_push_size _ rfl, I1.hok.fresh (Nat.le_refl _), Nat.ne_of_gt I1.lt, I1.nofs (Nat.le_refl _), fun v q => nomatch q⟩
      · exact I2.pin p (List.mem_append_right _ z)
    refine args_cons (thn (hb.run _ _ σ H1 _ I3 q1) fun v s2 h2 => ?_) hs3
    obtain ⟨y, H2, I4, r4, k, e2, hk, hL, q⟩ := h2
    subst e2
    obtain ⟨t3, rfl⟩ := r4
    have hr : IsRange s2.heap s1.heap.objs.size 0 (m : Nat) 1 s1.toks t (s1.toks + 1) := (I4.pin _ (List.mem_append_right _ List.mem_cons_self)).1
    have I5 : Inv X pins σ H2 s2 := I4.pins_of fun p hp => I4.pin p (List.mem_append_right _ (List.mem_cons_of_mem _ hp))
    refine args_nil ?_
    refine call_comb (I5.ok.hd hc) hr hm hk fun h1 tk items k1 hi => ?_
    have I6 : Inv X pins σ H2 { s2 with heap := h1, toks := tk } := I5.kept k1
    have I7 : Inv X pins σ H2 { s2 with heap := (h1.push { cls := .type "tuple", data := .seq items }).push { cls := .type "itertools.combinations", data := .fields (Value.ref h1.objs.size :: rawInt 0 :: .none :: (List.range k).map fun (i : Nat) => rawInt i).toArray }, toks := tk } :=
      I6.kept fun b u e => Heap.get?_push_of_some _ (Heap.get?_push_of_some _ e)
    have e9 := Heap.get?_push_size (h1.push { cls := .type "tuple", data := .seq items }) (o := { cls := .type "itertools.combinations", data := .fields (Value.ref h1.objs.size :: rawInt 0 :: .none :: (List.range k).map fun (i : Nat) => rawInt i).toArray }) rfl
    rw [Heap.size_push] at e9
    have hP : h1.objs.size ≠ h1.objs.size + 1 := by omega
    have T := turn_comb (P0 := X.prog) (w := X.w) (K := X.K) (tg := tg) hL h1.objs.size (h1.objs.size + 1) hP
    have T0 : CmbTn h1.objs.size (h1.objs.size + 1) m (L m k) 0 ((h1.push { cls := .type "tuple", data := .seq items }).push { cls := .type "itertools.combinations", data := .fields (Value.ref h1.objs.size :: rawInt 0 :: .none :: (List.range k).map fun (i : Nat) => rawInt i).toArray }) :=
      ⟨items, .none, List.range k, ⟨_, Heap.get?_push_of_some _ (Heap.get?_push_size _ rfl), rfl, _, rfl⟩, hi, .inl ⟨rfl, hL.first, e9⟩⟩
    refine T.self X.A 0 _ _ _ T0 ?_
    refine ⟨h1.objs.size + 1, _, _, _, H2, rfl, I7, T, T0, fun b hb => ?_, q⟩
    have ge : h1.objs.size ≤ b := by
      rcases List.mem_cons.mp hb with z | z
      · rw [z]; exact Nat.le_succ _
      · rw [List.mem_singleton.mp z]; exact Nat.le_refl _
    exact I6.fpOk ge (I6.hok.fresh ge)
end MK
end
section
set_option maxHeartbeats 2000000
namespace MK
open PySem PySem.Spec PyProof.Rows L2
def combF (n : Nat) : Nat → List Nat → List (List Nat)
  | 0, ix => [ix]
  | f + 1, ix => ix :: (match nextC n ix with | none => [] | some nx => combF n f nx)
def combL (n r : Nat) : List (List Nat) := combF n 40 (List.range r)
def combChk (n r : Nat) : Bool := (combL n r)[0]? == some (List.range r) && (List.range (combL n r).length).all (fun i => nextC n ((combL n r).getD i []) == (combL n r)[i + 1]?) && (combL n r).all (fun ix => ix.all (fun j => decide (j < n)) && decide (ix.length ≤ 1000))
theorem comb_chk : ∀ n, n < 8 → ∀ r, r < 8 → r ≤ n → combChk n r = true := by decide +kernel
theorem comb_ok {n r : Nat} (hn : n ≤ 7) (hr : r ≤ n) : CmbOk n (combL n r) r := by
  have h := comb_chk n (by omega) r (by omega) hr
  unfold combChk at h
  simp only [Bool.and_eq_true, List.all_eq_true, beq_iff_eq, decide_eq_true_eq, List.mem_range] at h
  obtain ⟨⟨h1, h2⟩, h3⟩ := h
  refine ⟨h1, fun i ix e => ?_, fun ix hx j hj => (h3 ix hx).1 j hj, fun ix hx => (h3 ix hx).2⟩
  have q := h2 i (List.getElem?_eq_some_iff.mp e).1
  rw [List.getD_eq_getElem?_getD, e] at q
  exact q
theorem rep_nats {K : PySem.W.Frag} {mg : Str → Option Value} {cm : Wd} {H : Hp} : ∀ ix : List Nat, RepL K mg cm H (ix.map fun (j : Nat) => V.int j) (ix.map fun (j : Nat) => IV.int j)
  | [] => .nil
  | a :: l => .cons (.int _) (rep_nats l)
def combI (n r : Nat) : List IV := (combL n r).map fun ix => .tup (ix.map fun (j : Nat) => .int j)
def mComb (g : MA) (fb : ME) : MI := fun ls => M.bind (g ls) fun vs => match vs with
  | [.int n] => if 0 ≤ n ∧ n ≤ 7 then M.bind (fb ls) fun r st => (match r with
      | .int r => if 0 ≤ r ∧ r ≤ n then some (.val (combI n.toNat r.toNat, none), st) else none
      | _ => none) else M.stuck
  | _ => M.stuck
section
variable {K : PySem.W.Frag} {mg : Str → Option Value} {cm : Wd} {H : Hp}
theorem walks_C' (n r : Nat) : Walks K mg (ItC (combL n r)) (combI n r, none) cm H where
  stop := fun i cm1 H1 st1 e s _ hi => by
    have : (combI n r).length = (combL n r).length := by unfold combI; simp
    rw [this] at hi
    exact hi
  go := fun i cm1 H1 st1 v e s _ hi => by
    unfold combI at hi
    rw [List.getElem?_map] at hi
    cases q : (combL n r)[i]? with
    | none => rw [q] at hi; cases hi
    | some ix =>
      rw [q] at hi; cases hi
      refine ⟨(List.getElem?_eq_some_iff.mp q).1, fun y H2 hy => ?_⟩
      obtain ⟨T, ix', rfl, hT, rfl, hx⟩ := hy
      rw [q] at hx; cases hx
      refine ⟨same_new hT, ?_⟩
      exact .tup (.inl ⟨.inl upd_same, s.notAv hT⟩) (rep_nats ix)
theorem rd_comb {σ : L2.St} {W : WX} {g : MA} {fb : ME} {R : It → Hp → Prop} (h : rdI K mg W (mComb g fb) σ H R) : iComb combL (rdA K mg W g) (rdE K mg W fb) σ H R := by
  obtain ⟨cm, ls, st, r, st', R0, e, o⟩ := h
  rcases M.bind_inv e with ⟨vs, st1, e1, e2⟩ | ⟨c, f, v, e1, rfl⟩
  · refine ⟨cm, ls, st, _, st1, R0, e1, fun cm1 H1 x1 s1 xs hx => ?_⟩
    split at e2
    · rename_i n
      split at e2
      · rename_i hn
        obtain ⟨y, rfl, hy⟩ := rep1 hx
        cases hy
        have en : ((n.toNat : Nat) : Int) = n := Int.toNat_of_nonneg hn.1
        refine ⟨n.toNat, by rw [en], by omega, ?_⟩
        rcases M.bind_inv e2 with ⟨b, st2, e3, e4⟩ | ⟨c, f, v, e3, rfl⟩
        · refine ⟨cm1, ls, st1, _, st2, R0.ext x1 s1, e3, fun cm2 H2 x2 s2 z hz => ?_⟩
          split at e4
          · rename_i k
            split at e4
            · rename_i hk
              cases e4
              cases hz
              have ek : ((k.toNat : Nat) : Int) = k := Int.toNat_of_nonneg hk.1
              exact ⟨k.toNat, by rw [ek], by omega, comb_ok (by omega) (by omega), o cm2 H2 (x1.trans x2) s2 _ (walks_C' n.toNat k.toNat)⟩
            · cases e4
          · cases e4
        · exact ⟨cm1, ls, st1, _, st', R0.ext x1 s1, e3, fun cm2 H2 x2 s2 => o cm2 H2 (x1.trans x2) s2⟩
      · cases e2
    · cases e2
  · exact ⟨cm, ls, st, _, st', R0, e1, o⟩
end
section
variable {X : Cx} {W : WX} {tg a b : Expr} {g : MA} {fb : ME} {p p2 pos pos2 : Pos}
theorem i_comb (hc : X.calm = true) (hg : Gl X "range") (hm : X.mg "range" = none) (hg2 : Gl X "combinations") (hm2 : X.mg "combinations" = some (.type "itertools.combinations"))
    (ha : PA' X W [a] g) (hb : PE' X W b fb) (hs : starEach [a] X.env = [(false, eval a X.env)] := by rfl)
    (hs2 : starEach [.Call (.Name "range" p) [a] [] pos, b] X.env = (false, eval (.Call (.Name "range" p) [a] [] pos) X.env) :: starEach [b] X.env := by rfl) (hs3 : starEach [b] X.env = (false, eval b X.env) :: starEach [] X.env := by rfl) :
    PI' X W tg (.Call (.Name "combinations" p2) [.Call (.Name "range" p) [a] [] pos, b] [] pos2) (mComb g fb) :=
  PI_imp (pi_comb hc hg hm hg2 hm2 ha hb hs hs2 hs3) fun σ H R h => rd_comb h
end
end MK
end
section
set_option maxHeartbeats 2000000
namespace MK
open PySem PySem.Spec PyProof.Rows L2
section
variable {X : Cx}
def rComb : List V → Hp → VK → Prop := fun vs H Q => ∃ a b : Int, vs = [.int a, .int b] ∧ 0 ≤ a ∧ 0 ≤ b ∧ a < 9000 ∧ b < 9000 ∧ Q (.int (PySem.W.mcComb a b)) H
theorem cr_comb : CallR X (.builtin "math.comb") rComb := by
  intro pins s σ H vs us Q I r h
  obtain ⟨a, b, rfl, ha, hb, ha2, hb2, q⟩ := h
  obtain ⟨t, u, rfl⟩ := Vals.int2 r
  exact PySem.W.mc_comb ha hb (by omega) (.inl (by omega)) fun _ => ⟨.int _, H, I.tok _, ⟨_, rfl⟩, q⟩
variable {W : WX} {e : Expr} {es : List Expr} {ga : MA} {x : Str} {p pos : Pos} {id : String} {r : List V → Hp → VK → Prop} {g : List IV → M IV} {K : PySem.W.Frag} {mg : Str → Option Value}
theorem e_callBf (hc : CallR X (.builtin id) r) (hv : CallV X.K X.mg r g) (hg : Gl X x) (hm : X.mg x = some (.builtin id)) (ha : PA' X W (e :: es) ga) (hdb : (x == ("__debug__" : Str)) = false := by decide)
    (he : starEach (e :: es) X.env = (false, eval e X.env) :: starEach es X.env := by rfl) (hpl : (backTo pos (starEach es X.env)).any (·.1) = false := by rfl) : PE' X W (.Call (.Name x p) (e :: es) [] pos) (mCall g ga) := by
  refine PE_imp (pe_callBfun hc hg hm ha hdb he hpl) fun σ H Q h => rdA_mono (rdA1 h) fun xs H1 h1 => ?_
  obtain ⟨cm, st, l, r, st', s, hx, e, o⟩ := h1
  exact hv W σ cm st H1 xs l r st' Q s hx e o
def combM : List IV → M IV := fun l st => match l with
  | [.int a, .int b] => if 0 ≤ a ∧ 0 ≤ b ∧ a < 9000 ∧ b < 9000 then some (.val (.int (PySem.W.mcComb a b)), st) else none
  | _ => none
def gcdM : List IV → M IV := fun l st => match l with
  | [.int a, .int b] => some (.val (.int ((Nat.gcd a.natAbs b.natAbs : Nat) : Int)), st)
  | _ => none
theorem v_comb : CallV K mg rComb combM := by
  intro W σ cm st H xs l o st' Q s hx e ho
  unfold combM at e
  split at e
  · split at e
    · rename_i a b hh
      cases e
      obtain ⟨y, z, rfl, hy, hz⟩ := rep2 hx
      cases hy
      cases hz
      exact ⟨a, b, rfl, hh.1, hh.2.1, hh.2.2.1, hh.2.2.2, ho cm H (Ext.refl _ _) s _ (.int _)⟩
    · cases e
  · cases e
theorem v_gcd : CallV K mg rGcd gcdM := by
  intro W σ cm st H xs l o st' Q s hx e ho
  unfold gcdM at e
  split at e
  · rename_i a b
    cases e
    obtain ⟨y, z, rfl, hy, hz⟩ := rep2 hx
    cases hy
    cases hz
    exact ⟨a, b, rfl, ho cm H (Ext.refl _ _) s _ (.int _)⟩
  · cases e
variable {a b : Expr} {fa fb : ME}
end
end MK
end
section
set_option maxHeartbeats 2000000
namespace MK
open PySem PySem.Spec PyProof.Rows L2
section
variable {X : Cx} {W : WX} {e : Expr} {fa : ME} {c f : Str} {p p2 pos : Pos}
def ErrC (K : PySem.W.Frag) (mg : Str → Option Value) (c : Str) : Prop := ∃ C, mg c = some (.ref C) ∧ ExcC K C
def ErrRow (K : PySem.W.Frag) (mg : Str → Option Value) (t : Str × Str × Bool) : Prop := ∃ C D, mg t.1 = some (.ref C) ∧ mg t.2.1 = some (.ref D) ∧ PySem.W.kitOne K (.ref C) (.ref D) = some t.2.2
section
variable {K : PySem.W.Frag} {mg : Str → Option Value} {h : Heap}
theorem ErrC.of {c : Str} {C : Addr} (X : K.In h) (G : h.Ns mainGlobals mg) (aC : PySem.W.nsIn K mainGlobals c = some (some (.ref C))) (hg : PySem.W.findIn K (.ref C) "__getattribute__" = some (some (.builtin "BaseException.__getattribute__"))) (hk : PySem.W.findIn K (.ref C) "__getattr__" = some none)
    (hs : PySem.W.subIn K (.ref C) (.type "BaseException") = some true) (hd : PySem.W.hasDictIn K C = true) (ha : PySem.W.findIn K (.ref C) "__class__" = some (some (.builtin "object.__class__"))) (hn : PySem.W.specialIn K (.builtin "object.__class__") "__get__" = some (some (.builtin "getset_descriptor.__get__")))
    (ht : PySem.W.takesIn K (.builtin "object.__class__") = some true) (hm : PySem.W.mroIn K C (.type "object") = some true) : ErrC K mg c := ⟨C, PySem.W.mg_of X G aC, ⟨hg, hk, hs, hd, ha, hn, ht, hm⟩⟩
theorem ErrRow.of {c D : Str} {b : Bool} {C Dv : Addr} (X : K.In h) (G : h.Ns mainGlobals mg) (aC : PySem.W.nsIn K mainGlobals c = some (some (.ref C))) (aD : PySem.W.nsIn K mainGlobals D = some (some (.ref Dv))) (hne : (Value.ref C == Value.ref Dv) = false) (i : PySem.W.isClsIn K Dv = true) (tC : PySem.W.typeIn K (.ref Dv) = some (.type "type"))
    (s : PySem.W.subIn K (.ref C) (.ref Dv) = some b) : ErrRow K mg (c, D, b) := ⟨C, Dv, PySem.W.mg_of X G aC, PySem.W.mg_of X G aD, kit_sub hne i tC s⟩
theorem ErrRow.same {c : Str} (e : ErrC K mg c) : ErrRow K mg (c, c, true) := by
  obtain ⟨C, m, _⟩ := e
  exact ⟨C, C, m, m, by unfold PySem.W.kitOne; rw [if_pos (by simp)]⟩
end
variable {a : Expr}
end
end MK
end
namespace MK
open PySem PySem.Spec PyProof.Rows L2
def ErrRowB (K : PySem.W.Frag) (mg : Str → Option Value) (T : String) (t : Str × Bool) : Prop := ∃ C, mg t.1 = some (.ref C) ∧ PySem.W.kitOne K (.ref C) (.type T) = some t.2
section
variable {K : PySem.W.Frag} {mg : Str → Option Value} {h : Heap} {T : String}
theorem ErrRowB.of {c : Str} {b : Bool} {C : Addr} (X : K.In h) (G : h.Ns mainGlobals mg) (aC : PySem.W.nsIn K mainGlobals c = some (some (.ref C))) (s : PySem.W.subIn K (.ref C) (.type T) = some b) (k : PySem.W.kitMeta T = true := by decide +kernel) : ErrRowB K mg T (c, b) := ⟨C, PySem.W.mg_of X G aC, by
  unfold PySem.W.kitOne
  rw [if_neg (by intro z; cases z)]
  show (if PySem.W.kitMeta T = true then PySem.W.subIn K (.ref C) (.type T) else none) = _
  rw [if_pos k]
  exact s⟩
end
end MK
section
set_option maxHeartbeats 2000000
namespace MK
open PySem PySem.Spec PyProof.Rows L2
theorem co_no_len : typeLookup (.type "itertools.combinations") "__len__" = pure none := by rw [typeLookup_type, builtinLookup_eq_fast]; kernel_rfl
theorem co_no_hint : typeLookup (.type "itertools.combinations") "__length_hint__" = pure none := by rw [typeLookup_type, builtinLookup_eq_fast]; kernel_rfl
def CmbI (P it : Addr) (items : Array Value) (L : List (List Nat)) (i : Nat) (h : Heap) : Prop :=
  h.IsTuple P items ∧ ∃ last ix, ((i = 0 ∧ L[0]? = some ix ∧ CmbAt h it P 0 last ix) ∨ (∃ k, i = k + 1 ∧ L[k]? = some ix ∧ CmbAt h it P 1 last ix))
theorem CmbI.keep {P it : Addr} {items : Array Value} {L : List (List Nat)} {i : Nat} {h h' : Heap} (c : CmbI P it items L i h) (k1 : ∀ o, h.get? P = some o → h'.get? P = some o) (k2 : ∀ o, h.get? it = some o → h'.get? it = some o) : CmbI P it items L i h' := by
  obtain ⟨⟨o, ho, r⟩, last, ix, q⟩ := c
  refine ⟨⟨o, k1 _ ho, r⟩, last, ix, ?_⟩
  rcases q with ⟨q1, q2, q⟩ | ⟨kk, q1, q2, q⟩
  · exact .inl ⟨q1, q2, k2 _ q⟩
  · exact .inr ⟨kk, q1, q2, k2 _ q⟩
theorem CmbI.type {P it : Addr} {items : Array Value} {L : List (List Nat)} {i : Nat} {s : Shared} (c : CmbI P it items L i s.heap) : s.TypeIs (.ref it) "itertools.combinations" := by
  obtain ⟨_, last, ix, q⟩ := c
  rcases q with ⟨_, _, q⟩ | ⟨_, _, _, q⟩ <;> exact cmb_type q
theorem CmbI.there {P it : Addr} {items : Array Value} {L : List (List Nat)} {i : Nat} {h : Heap} (c : CmbI P it items L i h) : (∃ o, h.get? it = some o) ∧ ∃ o, h.get? P = some o := by
  obtain ⟨⟨o, ho, _⟩, last, ix, q⟩ := c
  refine ⟨?_, o, ho⟩
  rcases q with ⟨_, _, q⟩ | ⟨_, _, _, q⟩ <;> exact ⟨_, q⟩
structure Gvn (items : Array Value) (L : List (List Nat)) (S it : Addr) (Ts : List Addr) (h : Heap) : Prop where
  nd : Ts.Nodup
  gt : ∀ T ∈ Ts, S < T
  ne : ∀ T ∈ Ts, T ≠ it
  at' : ∀ (j : Nat) (T : Addr), Ts[j]? = some T → ∃ ix : List Nat, L[j]? = some ix ∧ h.get? T = some { cls := .type "tuple", data := .seq (picks items ix).toArray }
theorem Gvn.keep {items : Array Value} {L : List (List Nat)} {S it : Addr} {Ts : List Addr} {h h' : Heap} (g : Gvn items L S it Ts h) (k : ∀ b o, b ≠ S → b ≠ it → h.get? b = some o → h'.get? b = some o) : Gvn items L S it Ts h' :=
  ⟨g.nd, g.gt, g.ne, fun j T e => by
    obtain ⟨ix, e1, e2⟩ := g.at' j T e
    have m := List.mem_of_getElem? e
    exact ⟨ix, e1, k T _ (Nat.ne_of_gt (g.gt T m)) (g.ne T m) e2⟩⟩
theorem Gvn.nil {items : Array Value} {L : List (List Nat)} {S it : Addr} {h : Heap} : Gvn items L S it [] h := ⟨List.nodup_nil, fun _ h => (by cases h), fun _ h => (by cases h), fun j T e => (by simp at e)⟩
theorem Gvn.add {items : Array Value} {L : List (List Nat)} {S it : Addr} {Ts : List Addr} {h h' : Heap} {T : Addr} {ix : List Nat} (g : Gvn items L S it Ts h) (k : ∀ b o, b ≠ it → h.get? b = some o → h'.get? b = some o)
    (hT : h.get? T = none) (h1 : S < T) (h2 : T ≠ it) (hx : L[Ts.length]? = some ix) (e : h'.get? T = some { cls := .type "tuple", data := .seq (picks items ix).toArray }) : Gvn items L S it (Ts ++ [T]) h' := by
  have hn : T ∉ Ts := fun m => by
    obtain ⟨j, hj⟩ := List.getElem?_of_mem m
    obtain ⟨ix, _, q⟩ := g.at' j T hj
    rw [hT] at q; cases q
  refine ⟨List.nodup_append.mpr ⟨g.nd, by simp, fun a ha b hb => by simp at hb; subst hb; exact fun z => hn (z ▸ ha)⟩, fun U m => ?_, fun U m => ?_, fun j U q => ?_⟩
  · rcases List.mem_append.mp m with m | m
    · exact g.gt U m
    · simp at m; subst m; exact h1
  · rcases List.mem_append.mp m with m | m
    · exact g.ne U m
    · simp at m; subst m; exact h2
  · by_cases hlt : j < Ts.length
    · rw [List.getElem?_append_left hlt] at q
      obtain ⟨ix, e1, e2⟩ := g.at' j U q
      exact ⟨ix, e1, k U _ (g.ne U (List.mem_of_getElem? q)) e2⟩
    · have hj := (List.getElem?_eq_some_iff.mp q).1
      simp at hj
      have : j = Ts.length := by omega
      subst this
      rw [List.getElem?_append_right (Nat.le_refl _)] at q
      simp at q
      subst q
      exact ⟨ix, hx, e⟩
theorem sub_one_of {a b c : Nat} (h : a - b = c + 1) : a - (b + 1) = c := by omega
section
variable {prog : Program} {w : World} {A : Around} {R : Result → Shared → Prop} {P it S : Addr} {items : Array Value} {L : List (List Nat)} {r : Nat}
abbrev lstO (acc : Array Value) (c : Nat) : Obj := { cls := .type "list", dict := none, data := .seq acc c, slots := #[] }
theorem co_fill (hh : A.handled = none) (hL : CmbOk items.size L r) (hz : L.length ≤ 1000) (hPit : P ≠ it) (hSit : S ≠ it) (hSP : S ≠ P) (res : Value) : ∀ (k i : Nat) (s : Shared) (Ts : List Addr) (c : Nat), L.length - i = k → i ≤ L.length → Ts.length = i → CmbI P it items L i s.heap →
    s.heap.get? S = some (lstO (Ts.map Value.ref).toArray c) → Gvn items L S it Ts s.heap →
    (∀ h' Ts' c', (∀ b o, b ≠ S → b ≠ it → s.heap.get? b = some o → h'.get? b = some o) → h'.get? S = some (lstO (Ts'.map Value.ref).toArray c') → Ts'.length = L.length → Gvn items L S it Ts' h' → R (.ok (.ret res)) { s with heap := h' }) →
    codeAny (model prog w) A (.builtin "list.extend.loop" ⟨[.ref S, .ref it, res], []⟩) R s
  | 0, i, s, Ts, c, hk, hi, hTs, st, hS, g, hR => by
    have hin : i = L.length := by omega
    subst hin
    refine codeAny_builtin F.entry_extend_loop ?_
    rw [Around.under_plainId F.plain_extend_loop _]
    show wpAny _ A.in1 (pyNext (.ref it) >>= _) _ _ s
    refine wpAny_bind ?_
    obtain ⟨hT, last, ix, q⟩ := st
    rcases q with ⟨q1, q2, q⟩ | ⟨kk, q1, q2, q⟩
    · have := (List.getElem?_eq_some_iff.mp hL.first).1
      omega
    · have hx := hL.next kk ix q2
      rw [← q1, List.getElem?_eq_none (Nat.le_refl _)] at hx
      exact co_next_end (A := A.in1) hh q hT hx fun h' eb => wpAny_pure (hR h' Ts c (fun b o _ n2 e => eb b o n2 e) (eb _ _ hSit hS) hTs (g.keep fun b o _ n2 e => eb b o n2 e))
  | k + 1, i, s, Ts, c, hk, hi, hTs, st, hS, g, hR => by
    have go : i < L.length := by omega
    refine codeAny_builtin F.entry_extend_loop ?_
    rw [Around.under_plainId F.plain_extend_loop _]
    show wpAny _ A.in1 (pyNext (.ref it) >>= _) _ _ s
    refine wpAny_bind ?_
    obtain ⟨hT, last, ix, q⟩ := st
    obtain ⟨nx, hnx⟩ : ∃ nx, L[i]? = some nx := ⟨_, List.getElem?_eq_getElem go⟩
    have hm : nx ∈ L := List.mem_of_getElem? hnx
    have lS : S < s.heap.objs.size := Heap.lt_size hS
    have li : it < s.heap.objs.size := by
      rcases q with ⟨_, _, q⟩ | ⟨_, _, _, q⟩ <;> exact Heap.lt_size q
    have step : ∀ h', CmbAt h' it P 1 (.ref s.heap.objs.size) nx → h'.get? s.heap.objs.size = some { cls := .type "tuple", data := .seq (picks items nx).toArray } → (∀ b o, b ≠ it → s.heap.get? b = some o → h'.get? b = some o) →
        wpAny (model prog w) A.in1 (updateSeq S (·.push (.ref s.heap.objs.size)) >>= fun _ => again (.builtin "list.extend.loop" ⟨[.ref S, .ref it, res], []⟩)) (fun fin s' => match fin with | .done f => R (.ok f) s' | .again c' => c'.quiet = true ∧ codeAny (model prog w) A c' R s') (fun e s' => R (.error e) s') { s with heap := h' } := fun h' e' t' k' => by
      have hS' := k' S _ hSit hS
      refine wpAny_bind ?_
      have sb := Heap.SameBut.update (h := h') S (Obj.mapSeq (·.push (.ref s.heap.objs.size)))
      have hT' : h'.IsTuple P items := by
        obtain ⟨o, ho, hr⟩ := hT
        exact ⟨o, k' P o hPit ho, hr⟩
      have hlt : (Ts.map Value.ref).toArray.size < 1001 := by simp; omega
      refine wpAny_updateSeq hS' rfl (wpAny_pure ⟨plainId_quiet F.plain_extend_loop _, ?_⟩) (by rw [sizeLine_eq]; omega) (by show ((Ts.map Value.ref).toArray.push _).size ≤ sizeLine + 1; rw [Array.size_push, sizeLine_eq]; omega)
      obtain ⟨c2, hS2⟩ : ∃ c2, (h'.update S (Obj.mapSeq (·.push (.ref s.heap.objs.size)))).get? S = some (lstO ((Ts.map Value.ref).toArray.push (.ref s.heap.objs.size)) c2) := ⟨_, Heap.get?_update_self _ hS' rfl⟩
      rw [show (Ts.map Value.ref).toArray.push (.ref s.heap.objs.size) = ((Ts ++ [s.heap.objs.size]).map Value.ref).toArray by simp] at hS2
      have hk2 : L.length - (i + 1) = k := sub_one_of hk
      have fresh : s.heap.get? s.heap.objs.size = none := Heap.get?_none_of_le (Nat.le_refl _)
      have g2 := (g.add (T := s.heap.objs.size) (ix := nx) k' fresh lS (Nat.ne_of_gt li) (by rw [hTs]; exact hnx) t').keep (h' := h'.update S (Obj.mapSeq (·.push (.ref s.heap.objs.size)))) fun b o n1 _ e => (Heap.get?_update_other _ _ (Ne.symm n1)).trans e
      refine co_fill hh hL hz hPit hSit hSP res k (i + 1) { s with heap := h'.update S (Obj.mapSeq (·.push (.ref s.heap.objs.size))) } (Ts ++ [s.heap.objs.size]) c2 hk2 go (by simp [hTs]) ?_ hS2 g2 fun h2 Ts' c' k2 e2 l2 g3 => ?_
      · refine CmbI.keep (h := h') ⟨hT', .ref s.heap.objs.size, nx, .inr ⟨i, rfl, hnx, e'⟩⟩ (fun o e => (Heap.get?_update_other _ _ hSP).trans e) fun o e => (Heap.get?_update_other _ _ hSit).trans e
      · exact hR h2 Ts' c' (fun b o n1 n2 e => k2 b o n1 n2 ((Heap.get?_update_other _ _ (Ne.symm n1)).trans (k' b o n2 e))) e2 l2 g3
    rcases q with ⟨q1, q2, q⟩ | ⟨kk, q1, q2, q⟩
    · subst q1
      rw [q2] at hnx; cases hnx
      exact co_next_first q hT hPit (hL.len _ hm) fun h' e' t' k' => step h' e' t' k'
    · subst q1
      have hx := hL.next kk ix q2
      rw [hnx] at hx
      exact co_next_more q hT hPit hx (hL.len _ hm) fun h' e' t' k' => step h' e' t' k'
theorem co_extend (hh : A.handled = none) (hL : CmbOk items.size L r) (hz : L.length ≤ 1000) (hPit : P ≠ it) (hSit : S ≠ it) (hSP : S ≠ P) (res : Value) (s : Shared) (c : Nat) (st : CmbI P it items L 0 s.heap) (hS : s.heap.get? S = some (lstO #[] c))
    (hR : ∀ h' Ts' c', (∀ b o, b ≠ S → b ≠ it → s.heap.get? b = some o → h'.get? b = some o) → h'.get? S = some (lstO (Ts'.map Value.ref).toArray c') → Ts'.length = L.length → Gvn items L S it Ts' h' → R (.ok (.ret res)) { s with heap := h' }) :
    wpAny (model prog w) A.in1 (Builtin.List.listExtendWith (.ref S) (.ref it) res) (fun fin s' => match fin with | .done f => R (.ok f) s' | .again c' => c'.quiet = true ∧ codeAny (model prog w) A c' R s') (fun e s' => R (.error e) s') s := by
  have hT := st.type
  unfold Builtin.List.listExtendWith
  refine wpAny_bind (wpAny_typeOf hT ?_)
  have z1 : Builtin.List.listSameRef (.ref S) (.ref it) = false := by simp [Builtin.List.listSameRef, hSit]
  simp only [z1, show (Value.type "itertools.combinations" == Value.type "list") = false by decide, show (Value.type "itertools.combinations" == Value.type "tuple") = false by decide, Bool.or_false, Bool.false_eq_true, if_false]
  refine wpAny_bind (wpAny_pyIter_slot hT co_slot_iter (wpAny_call_entry co_slot_iter hT co_entry_iter ?_ (co_args_iter _)))
  refine (wpAny_pure ?_ : wpAny _ _ (ret (.ref it)) _ _ _)
  refine ⟨_, rfl, "itertools.combinations", _, hT, co_slot_next.lookup, wpAny_bind (wpAny_holding ?_)⟩
  unfold Builtin.List.listLengthHint
  refine wpAny_bind (wpAny_specialOf hT co_no_len ?_)
  show wpAny _ _ (specialOf (Value.ref it) (Str.ofString "__length_hint__") >>= _) _ _ _
  refine wpAny_bind (wpAny_specialOf hT co_no_hint ?_)
  refine wpAny_pure ?_
  refine (wpAny_bind (wpAny_rule (wpAny_bind ?_)) : wpAny _ _ (rule "list.extend.makes-room" >>= fun _ => Builtin.List.listTouch (.ref S) >>= fun _ => again (.builtin "list.extend.loop" ⟨[.ref S, .ref it, res], []⟩)) _ _ _)
  refine (wpAny_bind (wpAny_updateSeq hS rfl ?_) : wpAny _ _ (updateSeq S (·.push .none) >>= fun _ => updateSeq S (·.pop)) _ _ _)
  have e1 := Heap.get?_update_self (Obj.mapSeq (·.push Value.none)) hS rfl
  refine wpAny_updateSeq (hz := by seq_fits) e1 rfl ?_
  obtain ⟨c2, e2⟩ : ∃ c2, ((s.heap.update S (Obj.mapSeq (·.push Value.none))).update S (Obj.mapSeq (·.pop))).get? S = some (lstO #[] c2) := ⟨_, Heap.get?_update_self (Obj.mapSeq (·.pop)) e1 rfl⟩
  have oth : ∀ b o, b ≠ S → s.heap.get? b = some o → ((s.heap.update S (Obj.mapSeq (·.push Value.none))).update S (Obj.mapSeq (·.pop))).get? b = some o := fun b o n e => (Heap.get?_update_other _ _ (Ne.symm n)).trans ((Heap.get?_update_other _ _ (Ne.symm n)).trans e)
  refine wpAny_pure ⟨plainId_quiet F.plain_extend_loop _, co_fill hh hL hz hPit hSit hSP res L.length 0 { s with heap := (s.heap.update S (Obj.mapSeq (·.push Value.none))).update S (Obj.mapSeq (·.pop)) } [] c2 rfl (Nat.zero_le _) rfl (st.keep (fun o => oth P o (Ne.symm hSP)) (fun o => oth it o (Ne.symm hSit))) e2 Gvn.nil fun h' Ts' c' k e l g => ?_⟩
  exact hR h' Ts' c' (fun b o n1 n2 q => k b o n1 n2 (oth b o n1 q)) e l g
end
section
variable {prog : Program} {w : World} {A : Around} {E : Value → Shared → Prop} {s : Shared} {P it : Addr} {items : Array Value} {L : List (List Nat)} {r : Nat}
theorem call_listC {Q : Value → Shared → Prop} (hh : A.handled = none) (hL : CmbOk items.size L r) (hz : L.length ≤ 1000) (hPit : P ≠ it) (st : CmbI P it items L 0 s.heap)
    (hQ : ∀ h' Ts' c', (∀ b o, b ≠ it → s.heap.get? b = some o → h'.get? b = some o) → h'.get? s.heap.objs.size = some (lstO (Ts'.map Value.ref).toArray c') → Ts'.length = L.length → Gvn items L s.heap.objs.size it Ts' h' → Q (.ref s.heap.objs.size) { s with heap := h' }) :
    wpAny (model prog w) A (call (.type "list") [.ref it]) Q E s := by
  obtain ⟨⟨o1, ho1⟩, o2, ho2⟩ := st.there
  have n1 : s.heap.objs.size ≠ it := Nat.ne_of_gt (Heap.lt_size ho1)
  have n2 : s.heap.objs.size ≠ P := Nat.ne_of_gt (Heap.lt_size ho2)
  refine callType_codes (Q₁ := fun obj s₁ => obj = .ref s.heap.objs.size ∧ s₁ = { s with heap := s.heap.push { cls := .type "list", data := .seq #[] } }) F.called_list (F.typeCall_list_1 _) F.entry_list_init (code_list_new _ ⟨rfl, rfl⟩) fun obj s₁ h₁ => ?_
  obtain ⟨rfl, rfl⟩ := h₁
  have hS : (s.heap.push { cls := .type "list", data := .seq #[] }).get? s.heap.objs.size = some (lstO #[] 0) := Heap.get?_push_size _ rfl
  refine ⟨⟨_, hS, rfl⟩, F.args_list_init_2 _ _, ?_⟩
  refine (wpAny_bind ?_ : wpAny _ A.in1.in1 (do let old ← Builtin.List.listItems (.ref s.heap.objs.size); Builtin.List.listUpdate (.ref s.heap.objs.size) (fun _ => #[]); letGo old.toList.reverse; Builtin.List.listExtendWith (.ref s.heap.objs.size) (.ref it) .none) _ _ _)
  unfold Builtin.List.listItems
  refine wpAny_bind (wpAny_seqItems hS rfl (wpAny_pure ?_))
  show wpAny _ _ (updateSeq s.heap.objs.size (fun _ => #[]) >>= fun _ => letGo (#[] : Array Value).toList.reverse >>= fun _ => Builtin.List.listExtendWith (.ref s.heap.objs.size) (.ref it) .none) _ _ _
  refine wpAny_bind (wpAny_updateSeq hS rfl ?_ (Nat.zero_le _) (Nat.zero_le _))
  obtain ⟨c2, e2⟩ : ∃ c2, ((s.heap.push { cls := .type "list", data := .seq #[] }).update s.heap.objs.size (Obj.mapSeq (fun _ => (#[] : Array Value)))).get? s.heap.objs.size = some (lstO #[] c2) := ⟨_, Heap.get?_update_self (Obj.mapSeq (fun _ => (#[] : Array Value))) hS rfl⟩
  have oth : ∀ b o, s.heap.get? b = some o → ((s.heap.push { cls := .type "list", data := .seq #[] }).update s.heap.objs.size (Obj.mapSeq (fun _ => (#[] : Array Value)))).get? b = some o := fun b o e => (Heap.get?_update_other _ _ (Nat.ne_of_gt (Heap.lt_size e))).trans (Heap.get?_push_of_some _ e)
  refine wpAny_bind (wpAny_letGo (co_extend (A := A.in1) (S := s.heap.objs.size) hh hL hz hPit n1 n2 .none _ c2 (st.keep (fun o => oth P o) (fun o => oth it o)) e2 fun h' Ts' c' k e l g => ⟨rfl, ?_⟩))
  exact hQ h' Ts' c' (fun b o n q => k b o (Nat.ne_of_lt (Heap.lt_size q)) n (oth b o q)) e l g
end
end MK
end
section
set_option maxHeartbeats 2000000
namespace MK
open PySem PySem.Spec PyProof.Rows L2
theorem Un.many {fs ex : List Addr} {H H' : Hp} {h h' : Heap} (k : ∀ b u, h.get? b = some u → h'.get? b = some u) (sm : Same H H') (fr : ∀ b o, h.get? b = some o → H b = none → H' b = none) : Un fs ex H H' h h' where
  keep := fun b u q _ _ _ => k b u q
  slot := fun b u q _ _ _ => ⟨u.slots, k b u q⟩
  free := fun b u q n _ => fr b u q n
  there := fun b u q _ => ⟨u, k b u q⟩
  tups := fun b xs q => sm _ _ q
  frzs := fun b u xs q => sm _ _ q
  tbls := fun b ps q => ⟨#[], by rw [sm _ _ q]; simp⟩
def layT : List (Addr × List V) → Hp → Hp
  | [], H => H
  | p :: ps, H => layT ps (upd H p.1 (.tup p.2))
theorem layT_old {a : Addr} : ∀ {ps : List (Addr × List V)} {H : Hp}, a ∉ ps.map (·.1) → layT ps H a = H a
  | [], H, _ => rfl
  | p :: ps, H, h => by
    simp only [List.map_cons, List.mem_cons, not_or] at h
    show layT ps _ a = _
    rw [layT_old h.2, upd_ne h.1]
theorem layT_at {p : Addr × List V} : ∀ {ps : List (Addr × List V)} {H : Hp}, (ps.map (·.1)).Nodup → p ∈ ps → layT ps H p.1 = some (.tup p.2)
  | [], H, _, h => by cases h
  | q :: ps, H, nd, h => by
    simp only [List.map_cons, List.nodup_cons] at nd
    show layT ps _ p.1 = _
    rcases List.mem_cons.mp h with rfl | h
    · rw [layT_old nd.1, upd_same]
    · exact layT_at nd.2 h
theorem layT_same : ∀ {ps : List (Addr × List V)} {H : Hp}, (∀ p ∈ ps, H p.1 = none) → Same H (layT ps H) := fun {ps H} hn a u e => by
  rw [layT_old fun m => ?_]
  · exact e
  · obtain ⟨p, hp, rfl⟩ := List.mem_map.mp m
    rw [hn p hp] at e; cases e
theorem layT_hok {P : Program} {w : World} {h : Heap} : ∀ {ps : List (Addr × List V)} {H : Hp}, HOk P w H h → (ps.map (·.1)).Nodup → (∀ p ∈ ps, H p.1 = none) → (∀ p ∈ ps, ∃ us : List Value, Vals p.2 us ∧ us.length ≤ sizeLine ∧ IsTup h p.1 us.toArray) → HOk P w (layT ps H) h
  | [], H, x, _, _, _ => x
  | p :: ps, H, x, nd, hn, ho => by
    simp only [List.map_cons, List.nodup_cons] at nd
    refine layT_hok (ps := ps) (H := upd H p.1 (.tup p.2)) ?_ nd.2 (fun q hq => ?_) fun q hq => ho q (List.mem_cons_of_mem _ hq)
    · obtain ⟨us, r, l, t⟩ := ho p List.mem_cons_self
      exact x.laidN (fun _ _ q => q) (hn p List.mem_cons_self) ⟨by rw [r.length]; exact l, us, r, t⟩
    · have ne : q.1 ≠ p.1 := fun z => nd.1 (List.mem_map.mpr ⟨q, hq, z⟩)
      rw [upd_ne ne]
      exact hn q (List.mem_cons_of_mem _ hq)
def tListC (L : Nat → Nat → List (List Nat)) (ta : TA) (tb : TE) : TE := fun σ H Q => ta σ H fun vs H1 => ∃ n : Nat, vs = [.int (n : Nat)] ∧ n ≤ 1000 ∧ tb σ H1 fun y H2 => ∃ k : Nat, y = .int (k : Nat) ∧ k ≤ n ∧ CmbOk n (L n k) k ∧ (L n k).length ≤ 1000 ∧
  ∀ (ps : List (Addr × List V)) (S : Addr), ps.map (·.2) = (L n k).map (fun ix => ix.map fun (j : Nat) => V.int j) → (ps.map (·.1)).Nodup → (∀ p ∈ ps, H2 p.1 = none) → H2 S = none → S ∉ ps.map (·.1) → Q (.ref S) (upd (layT ps H2) S (.lst (ps.map fun p => V.ref p.1)))
theorem pe_listC {X : Cx} {a b : Expr} {ta : TA} {tb : TE} {p p2 p3 pos pos2 pos3 : Pos} {L : Nat → Nat → List (List Nat)} (hc : X.calm = true) (hg : Gl X "range") (hm : X.mg "range" = none) (hg2 : Gl X "combinations") (hm2 : X.mg "combinations" = some (.type "itertools.combinations")) (hg3 : Gl X "list") (hm3 : X.mg "list" = none)
    (ha : PA X [a] ta) (hb : PE X b tb) (hs : starEach [a] X.env = [(false, eval a X.env)] := by rfl)
    (hs2 : starEach [.Call (.Name "range" p) [a] [] pos, b] X.env = (false, eval (.Call (.Name "range" p) [a] [] pos) X.env) :: starEach [b] X.env := by rfl) (hs3 : starEach [b] X.env = (false, eval b X.env) :: starEach [] X.env := by rfl)
    (hs4 : starEach [.Call (.Name "combinations" p2) [.Call (.Name "range" p) [a] [] pos, b] [] pos2] X.env = (false, eval (.Call (.Name "combinations" p2) [.Call (.Name "range" p) [a] [] pos, b] [] pos2) X.env) :: starEach [] X.env := by rfl) :
    PE X (.Call (.Name "list" p3) [.Call (.Name "combinations" p2) [.Call (.Name "range" p) [a] [] pos, b] [] pos2] [] pos3) (tListC L ta tb) := by
  refine ⟨fun pins s σ H Q I h => ?_⟩
  refine Call_ (ld_blt I hg3 hm3 boot_list (PyProof.Rows.callWith_type1 ?_ hs4 (by rfl)))
  refine args_cons ?_ hs4
  refine Call_ (ld_glob I hg2 hm2 (PyProof.Rows.callWith_type1 ?_ hs2 (by rw [hs3]; rfl)))
  refine args_cons ?_ hs2
  refine Call_ (ld_blt I hg hm boot_range (PyProof.Rows.callWith_type1 (thn (ha.run pos pins s σ H _ I h) fun us s1 h1 => ?_) hs rfl))
  obtain ⟨vs, H1, I1, r1, q1⟩ := h1
  obtain ⟨m, e1, hm, q1⟩ := q1
  subst e1
  cases r1 with
  | cons rr rn =>
    cases rn
    obtain ⟨t, rfl⟩ := rr
    refine call_range_1 ?_
    have I2 : Inv X pins σ H1 { s1 with heap := s1.heap.push { cls := .type "range", data := .fields #[.int 0 s1.toks, .int (m : Nat) t, .int 1 (s1.toks + 1)] }, toks := s1.toks + 1 + 1 } := I1.kept fun b u e => Heap.get?_push_of_some _ e
    have I3 : Inv X ((s1.heap.objs.size, { cls := .type "range", dict := none, data := .fields #[.int 0 s1.toks, .int (m : Nat) t, .int 1 (s1.toks + 1)], slots := #[] }) :: pins) σ H1 { s1 with heap := s1.heap.push { cls := .type "range", data := .fields #[.int 0 s1.toks, .int (m : Nat) t, .int 1 (s1.toks + 1)] }, toks := s1.toks + 1 + 1 } := I2.pins_of fun p hp => by
      rcases List.mem_cons.mp hp with z | z
      · subst z
        exact ⟨Heap.get?_push_size _ rfl, I1.hok.fresh (Nat.le_refl _), Nat.ne_of_gt I1.lt, I1.nofs (Nat.le_refl _), fun v q => nomatch q⟩
      · exact I2.pin p (List.mem_append_right _ z)
    refine args_cons (thn (hb.run _ _ σ H1 _ I3 q1) fun v s2 h2 => ?_) hs3
    obtain ⟨y, H2, I4, r4, k, e2, hk, hL, hz, q⟩ := h2
    subst e2
    obtain ⟨t3, rfl⟩ := r4
    have hr : IsRange s2.heap s1.heap.objs.size 0 (m : Nat) 1 s1.toks t (s1.toks + 1) := (I4.pin _ (List.mem_append_right _ List.mem_cons_self)).1
    have I5 : Inv X pins σ H2 s2 := I4.pins_of fun p hp => I4.pin p (List.mem_append_right _ (List.mem_cons_of_mem _ hp))
    refine args_nil ?_
    refine call_comb (I5.ok.hd hc) hr hm hk fun h1 tk items k1 hi => args_nil ?_
    have hP : h1.objs.size ≠ h1.objs.size + 1 := by omega
    have e9 := Heap.get?_push_size (h1.push { cls := .type "tuple", data := .seq items }) (o := { cls := .type "itertools.combinations", data := .fields (Value.ref h1.objs.size :: rawInt 0 :: .none :: (List.range k).map fun (i : Nat) => rawInt i).toArray }) rfl
    rw [Heap.size_push] at e9
    have T0 : CmbI h1.objs.size (h1.objs.size + 1) items (L m k) 0 ((h1.push { cls := .type "tuple", data := .seq items }).push { cls := .type "itertools.combinations", data := .fields (Value.ref h1.objs.size :: rawInt 0 :: .none :: (List.range k).map fun (i : Nat) => rawInt i).toArray }) :=
      ⟨⟨_, Heap.get?_push_of_some _ (Heap.get?_push_size _ rfl), rfl, _, rfl⟩, .none, List.range k, .inl ⟨rfl, hL.first, e9⟩⟩
    have hL' : CmbOk items.size (L m k) k := by rw [hi.1]; exact hL
    refine call_listC (I5.ok.hd hc) hL' hz hP T0 fun h2 Ts c2 k2 e2 l2 g => ?_
    generalize hS : ((h1.push { cls := .type "tuple", data := .seq items }).push { cls := .type "itertools.combinations", data := .fields (Value.ref h1.objs.size :: rawInt 0 :: .none :: (List.range k).map fun (i : Nat) => rawInt i).toArray }).objs.size = S at e2 g ⊢
    have hS1 : h1.objs.size + 2 = S := by rw [← hS, Heap.size_push, Heap.size_push]
    have k12 : ∀ b u, s2.heap.get? b = some u → h2.get? b = some u := fun b u e => by
      have e' := k1 b u e
      exact k2 b u (Nat.ne_of_lt (Nat.lt_succ_of_lt (Heap.lt_size e'))) (Heap.get?_push_of_some _ (Heap.get?_push_of_some _ e'))
    have le2 : ∀ b u, s2.heap.get? b = some u → b < S := fun b u e => hS1 ▸ Nat.lt_of_lt_of_le (Heap.lt_size (k1 b u e)) (Nat.le_add_right _ 2)
    have gt2 : ∀ b, S ≤ b → s2.heap.get? b = none := fun b hb => by
      cases e : s2.heap.get? b with
      | none => rfl
      | some u => exact absurd (Nat.lt_of_lt_of_le (le2 b u e) hb) (Nat.lt_irrefl _)
    have none2 : ∀ b, S ≤ b → H2 b = none := fun b hb => by
      cases e : H2 b with
      | none => rfl
      | some u =>
        have l1 : b < h1.objs.size := (I5.hok.kept (h' := h1) k1).lt e
        exact absurd (Nat.lt_of_lt_of_le (Nat.lt_of_lt_of_le l1 (hS1 ▸ Nat.le_add_right _ 2)) hb) (Nat.lt_irrefl _)
    have hlen : Ts.length = (L m k).length := l2
    let ps : List (Addr × List V) := Ts.zip ((L m k).map fun ix => ix.map fun (j : Nat) => V.int j)
    have p1 : ps.map (·.1) = Ts := List.map_fst_zip (by rw [List.length_map]; omega)
    have p2 : ps.map (·.2) = (L m k).map fun ix => ix.map fun (j : Nat) => V.int j := List.map_snd_zip (by rw [List.length_map]; omega)
    have pm : ∀ p ∈ ps, ∃ ix, ix ∈ L m k ∧ p.2 = (ix.map fun (j : Nat) => V.int j) ∧ p.1 ∈ Ts ∧ h2.get? p.1 = some { cls := .type "tuple", data := .seq (picks items ix).toArray } := fun p hp => by
      obtain ⟨j, hj⟩ := List.getElem?_of_mem hp
      have z := List.getElem?_zip_eq_some.mp hj
      obtain ⟨ix, e1, e3⟩ := g.at' j p.1 z.1
      have z2 := z.2
      rw [List.getElem?_map, e1] at z2
      exact ⟨ix, List.mem_of_getElem? e1, (Option.some.inj z2).symm, List.mem_of_getElem? z.1, e3⟩
    have pn : ∀ p ∈ ps, H2 p.1 = none := fun p hp => by
      obtain ⟨ix, _, _, hT, _⟩ := pm p hp
      exact none2 _ (Nat.le_of_lt (g.gt _ hT))
    have nS : S ∉ ps.map (·.1) := by
      rw [p1]
      exact fun z => Nat.lt_irrefl _ (g.gt _ z)
    have nd : (ps.map (·.1)).Nodup := by rw [p1]; exact g.nd
    have hS2 : H2 S = none := none2 S (Nat.le_refl _)
    have lS : layT ps H2 S = none := by rw [layT_old nS]; exact hS2
    have ok1 : HOk X.prog X.w (layT ps H2) h2 := layT_hok (I5.hok.kept k12) nd pn fun p hp => by
      obtain ⟨ix, hx, e1, _, e3⟩ := pm p hp
      refine ⟨picks items ix, ?_, ?_, ⟨_, e3, rfl, _, rfl⟩⟩
      · rw [e1]; exact picks_rel hi (hL.lt ix hx)
      · have := hL.len ix hx
        unfold picks
        rw [List.length_map, sizeLine_eq]; omega
    have rv : ∀ Us : List Addr, Vals (Us.map V.ref) (Us.map Value.ref) := fun Us => by
      induction Us with
      | nil => exact .nil
      | cons a l ih => exact .cons rfl ih
    have eT : ps.map (fun p => V.ref p.1) = Ts.map V.ref := by rw [← p1, List.map_map]; rfl
    have ok2 : HOk X.prog X.w (upd (layT ps H2) S (.lst (ps.map fun p => V.ref p.1))) h2 := ok1.laidN (fun _ _ q => q) lS ⟨by
      rw [List.length_map, show ps.length = Ts.length by rw [← p1, List.length_map], sizeLine_eq]; omega, Ts.map Value.ref, c2, by rw [eT]; exact rv Ts, e2⟩
    have sm : Same H2 (upd (layT ps H2) S (.lst (ps.map fun p => V.ref p.1))) := fun b u e => by
      rw [upd_ne (ne_of_none e hS2)]
      exact layT_same pn b u e
    have I6 : Inv X pins σ (upd (layT ps H2) S (.lst (ps.map fun p => V.ref p.1))) { s2 with heap := h2, toks := tk } := I5.un (Un.many k12 sm fun b o e n => by
      have lb := le2 b o e
      rw [upd_ne (Nat.ne_of_lt lb), layT_old fun z => ?_]
      · exact n
      · rw [p1] at z
        exact Nat.lt_asymm lb (g.gt b z)) ok2
    exact ⟨.ref S, _, I6, rfl, q ps S p2 nd pn hS2 nS⟩
def combL8 (n r : Nat) : List (List Nat) := combF n 80 (List.range r)
def comb8Chk (n r : Nat) : Bool := (combL8 n r)[0]? == some (List.range r) && (List.range (combL8 n r).length).all (fun i => nextC n ((combL8 n r).getD i []) == (combL8 n r)[i + 1]?) && (combL8 n r).all (fun ix => ix.all (fun j => decide (j < n)) && decide (ix.length ≤ 1000)) && decide ((combL8 n r).length ≤ 1000)
theorem comb8_chk : ∀ n, n < 9 → ∀ r, r < 9 → r ≤ n → comb8Chk n r = true := by decide +kernel
theorem comb8_ok {n r : Nat} (hn : n ≤ 8) (hr : r ≤ n) : CmbOk n (combL8 n r) r ∧ (combL8 n r).length ≤ 1000 := by
  have h := comb8_chk n (by omega) r (by omega) hr
  unfold comb8Chk at h
  simp only [Bool.and_eq_true, List.all_eq_true, beq_iff_eq, decide_eq_true_eq, List.mem_range] at h
  obtain ⟨⟨⟨h1, h2⟩, h3⟩, h4⟩ := h
  refine ⟨⟨h1, fun i ix e => ?_, fun ix hx j hj => (h3 ix hx).1 j hj, fun ix hx => (h3 ix hx).2⟩, h4⟩
  have q := h2 i (List.getElem?_eq_some_iff.mp e).1
  rw [List.getD_eq_getElem?_getD, e] at q
  exact q
def combI8 (n r : Nat) : List IV := (combL8 n r).map fun ix => .tup (ix.map fun (j : Nat) => .int j)
def mListC (c : Bool) (g : MA) (fb : ME) : ME := fun ls => M.bind (g ls) fun vs => match vs with
  | [.int n] => if 0 ≤ n ∧ n ≤ 8 then M.bind (fb ls) fun r st => (match r with
      | .int r => if 0 ≤ r ∧ r ≤ n then newL c (combI8 n.toNat r.toNat) st else none
      | _ => none) else M.stuck
  | _ => M.stuck
section
variable {K : PySem.W.Frag} {mg : Str → Option Value} {cm : Wd} {H : Hp} {W : WX} {σ : L2.St}
theorem Out.tr {α : Type} {G : Wd → Hp → α → Prop} {cm' : Wd} {H' : Hp} {r : OX α} {st' : Sto} (x : Ext cm H cm' H') (o : Out K mg W σ cm H G r st') : Out K mg W σ cm' H' G r st' := by
  cases r with
  | val b => exact fun cm2 H2 x2 s2 => o cm2 H2 (x.trans x2) s2
  | exc c f v => exact fun cm2 H2 x2 s2 => o cm2 H2 (x.trans x2) s2
theorem rep_layT {st : Sto} (s : RelS K mg cm st H) {ps : List (Addr × List V)} (nd : (ps.map (·.1)).Nodup) (pn : ∀ p ∈ ps, H p.1 = none) : ∀ {L : List (List Nat)} {qs : List (Addr × List V)}, (∀ q ∈ qs, q ∈ ps) → qs.map (·.2) = L.map (fun ix => ix.map fun (j : Nat) => V.int j) →
    RepL K mg cm (layT ps H) (qs.map fun p => V.ref p.1) (L.map fun ix => .tup (ix.map fun (j : Nat) => .int j))
  | [], [], _, _ => .nil
  | [], q :: qs, _, e => by simp at e
  | ix :: L, [], _, e => by simp at e
  | ix :: L, q :: qs, hq, e => by
    rw [List.map_cons, List.map_cons] at e
    have e1 := (List.cons.inj e).1
    have e2 := (List.cons.inj e).2
    refine .cons (.tup (.inl ⟨.inl (layT_at nd (hq q List.mem_cons_self)), s.notAv (pn q (hq q List.mem_cons_self))⟩) ?_) (rep_layT s nd pn (fun q hq' => hq q (List.mem_cons_of_mem _ hq')) e2)
    rw [e1]
    exact rep_nats ix
theorem rd_listC {c : Bool} {g : MA} {fb : ME} {Q : VK} (h : rdE K mg W (mListC c g fb) σ H Q) : tListC combL8 (rdA K mg W g) (rdE K mg W fb) σ H Q := by
  obtain ⟨cm, ls, st, r, st', R0, e, o⟩ := h
  rcases M.bind_inv e with ⟨vs, st1, e1, e2⟩ | ⟨c, f, v, e1, rfl⟩
  · refine ⟨cm, ls, st, _, st1, R0, e1, fun cm1 H1 x1 s1 xs hx => ?_⟩
    split at e2
    · rename_i n
      split at e2
      · rename_i hn
        obtain ⟨y, rfl, hy⟩ := rep1 hx
        cases hy
        have en : ((n.toNat : Nat) : Int) = n := Int.toNat_of_nonneg hn.1
        refine ⟨n.toNat, by rw [en], by omega, ?_⟩
        rcases M.bind_inv e2 with ⟨b, st2, e3, e4⟩ | ⟨c, f, v, e3, rfl⟩
        · refine ⟨cm1, ls, st1, _, st2, R0.ext x1 s1, e3, fun cm2 H2 x2 s2 z hz => ?_⟩
          split at e4
          · rename_i k
            split at e4
            · rename_i hk
              cases hz
              have ek : ((k.toNat : Nat) : Int) = k := Int.toNat_of_nonneg hk.1
              obtain ⟨c1, c2⟩ := comb8_ok (n := n.toNat) (r := k.toNat) (by omega) (by omega)
              refine ⟨k.toNat, by rw [ek], by omega, c1, c2, fun ps S p2 nd pn hS nS => ?_⟩
              have E : Ext cm2 H2 cm2 (layT ps H2) := Ext.same (layT_same pn)
              exact newL_new (s2.same (layT_same pn)) e4 (by rw [layT_old nS]; exact hS) (rep_layT s2 nd pn (fun _ h => h) p2) (o.tr ((x1.trans x2).trans E))
            · cases e4
          · cases e4
        · exact ⟨cm1, ls, st1, _, st', R0.ext x1 s1, e3, fun cm2 H2 x2 s2 => o cm2 H2 (x1.trans x2) s2⟩
      · cases e2
    · cases e2
  · exact ⟨cm, ls, st, _, st', R0, e1, o⟩
end
theorem e_listC (c : Bool) {X : Cx} {W : WX} {a b : Expr} {g : MA} {fb : ME} {p p2 p3 pos pos2 pos3 : Pos} (hc : X.calm = true) (hg : Gl X "range") (hm : X.mg "range" = none) (hg2 : Gl X "combinations") (hm2 : X.mg "combinations" = some (.type "itertools.combinations")) (hg3 : Gl X "list") (hm3 : X.mg "list" = none)
    (ha : PA' X W [a] g) (hb : PE' X W b fb) (hs : starEach [a] X.env = [(false, eval a X.env)] := by rfl)
    (hs2 : starEach [.Call (.Name "range" p) [a] [] pos, b] X.env = (false, eval (.Call (.Name "range" p) [a] [] pos) X.env) :: starEach [b] X.env := by rfl) (hs3 : starEach [b] X.env = (false, eval b X.env) :: starEach [] X.env := by rfl)
    (hs4 : starEach [.Call (.Name "combinations" p2) [.Call (.Name "range" p) [a] [] pos, b] [] pos2] X.env = (false, eval (.Call (.Name "combinations" p2) [.Call (.Name "range" p) [a] [] pos, b] [] pos2) X.env) :: starEach [] X.env := by rfl) :
    PE' X W (.Call (.Name "list" p3) [.Call (.Name "combinations" p2) [.Call (.Name "range" p) [a] [] pos, b] [] pos2] [] pos3) (mListC c g fb) :=
  PE_imp (pe_listC hc hg hm hg2 hm2 hg3 hm3 ha hb hs hs2 hs3 hs4) fun σ H R h => rd_listC h
end MK
end
section
set_option maxHeartbeats 2000000
namespace MK
open PySem PySem.Spec PyProof.Rows L2
abbrev MBL := Loc → M (List IV)
def mOne (e : ME) : MBL := fun ls => M.bind (e ls) fun v => M.ret [v]
open Classical in
noncomputable def compF (t : MG) (c : MT) (inn : MBL) (l0 : List IV) (k : Option Nat) (ls : Loc) : List IV → M (List IV)
  | [] => fun st => if srcOk k l0 st then some (.val [], st) else none
  | v :: vs => fun st => if srcOk k l0 st then (match t ls v with
    | some ls1 => M.bind (M.nox (c ls1)) (fun b => if b = true then M.bind (M.nox (inn ls1)) fun ys => M.bind (compF t c inn l0 k ls vs) fun zs => M.ret (ys ++ zs) else compF t c inn l0 k ls vs) st
    | none => none) else none
noncomputable def mClauseL (src : MI) (vs : List Nat) (t : MG) (c : MT) (inn : MBL) : MBL := fun ls => M.bind (src ls) fun p => M.nox (compF t c inn p.1 p.2 (wipeI ls vs) p.1)
section
variable {K : PySem.W.Frag} {mg : Str → Option Value} {H H1 : Hp} {cm cm1 : Wd} {st st1 : Sto} {D : Addr} {xs : List V} {acc : List IV}
theorem Making.addTr (m : Making K mg cm H cm1 H1 st1 D xs acc) (ys : List V) : Tr cm1 H1 cm1 (upd H1 D (.lst ys)) :=
  ⟨fun _ _ h => h, fun a o h na => ⟨(upd_ne (fun z : a = D => na (z ▸ m.av))).trans h, na⟩⟩
theorem lturns {J : It} {p : Src} {t : MG} {g : TG} {c : MT} {inn : MBL} {vs : List Nat} {ls : Loc} {σ0 : L2.St} {st2 : Sto} {l acc0 : List IV} {xs0 : List V} {In : (Hp → Prop) → L2.St → Hp → Prop} {Qe : Hp → Prop} {B : Nat}
    (ct : CT K mg vs t g) (wk : Walks K mg J p cm1 H1) (mk : Making K mg cm H cm1 H1 st1 D xs0 acc0) (R0 : RelC K mg cm1 ls σ0 H1) (hD : H D = none)
    (e0 : compF t c inn p.1 p.2 ls p.1 st1 = some (.val l, st2)) (hB : (acc0 ++ l).length ≤ B)
    (hin : ∀ (cm2 : Wd) (H2 : Hp) (st3 st4 : Sto) (σ2 : L2.St) (ls2 : Loc) (xs : List V) (acc ys : List IV) (Nx : Hp → Prop), Making K mg cm H cm2 H2 st3 D xs acc → RelC K mg cm2 ls2 σ2 H2 → inn ls2 st3 = some (.val ys, st4) → (acc ++ ys).length ≤ B →
      (∀ cm3 H3 xs', Tr cm2 H2 cm3 H3 → Making K mg cm H cm3 H3 st4 D xs' (acc ++ ys) → Nx H3) → In Nx σ2 H2)
    (hq : ∀ cm2 H2 xs', Tr cm1 H1 cm2 H2 → Making K mg cm H cm2 H2 st2 D xs' (acc0 ++ l) → Qe H2) :
    ∃ W : Nat → Nat → Hp → Prop, (∃ m, W 0 m H1) ∧ ∀ i m H, W i m H → (J.stop i H ∧ Qe H) ∨ (J.go i H ∧ ∃ Nx : Hp → Prop, (∀ H', Nx H' → ∃ m', m' < m ∧ W (i + 1) m' H') ∧
      ∀ x H', J.yld i H x H' → g x σ0 H' fun σ2 H2 => wipe σ2 vs = wipe σ0 vs ∧ rdT K mg W0 c σ2 H2 fun b H3 => if b = true then In Nx σ2 H3 else Nx H3) := by
  refine ⟨fun i m H2 => m = p.1.length - i ∧ i ≤ p.1.length ∧ ∃ cm2 st3 xs acc rest, Tr cm1 H1 cm2 H2 ∧ Making K mg cm H cm2 H2 st3 D xs acc ∧ compF t c inn p.1 p.2 ls (p.1.drop i) st3 = some (.val rest, st2) ∧ acc ++ rest = acc0 ++ l,
    ⟨p.1.length, by simp, Nat.zero_le _, cm1, st1, xs0, acc0, l, Tr.refl, mk, by simpa using e0, rfl⟩, ?_⟩
  rintro i m H2 ⟨rfl, hi, cm2, st3, xs, acc, rest, T2, mk2, e5, hl⟩
  by_cases hlt : i < p.1.length
  · rw [List.drop_eq_getElem_cons hlt] at e5
    simp only [compF] at e5
    split at e5
    · rename_i hok
      cases q : t ls p.1[i] with
      | none => rw [q] at e5; cases e5
      | some ls3 =>
        rw [q] at e5
        obtain ⟨g1, g2⟩ := wk.go i cm2 H2 st3 p.1[i] T2 mk2.sto hok (by simp [hlt])
        refine .inr ⟨g1, fun H' => i + 1 ≤ p.1.length ∧ ∃ cm2 st3 xs acc rest, Tr cm1 H1 cm2 H' ∧ Making K mg cm H cm2 H' st3 D xs acc ∧ compF t c inn p.1 p.2 ls (p.1.drop (i + 1)) st3 = some (.val rest, st2) ∧ acc ++ rest = acc0 ++ l,
          fun H' h => ⟨p.1.length - (i + 1), by omega, rfl, h.1, h.2⟩, fun x H3 hy => ?_⟩
        obtain ⟨g3, g4⟩ := g2 x H3 hy
        have E3 : Ext cm2 H2 cm2 H3 := Ext.same g3
        have mk3 := mk2.step hD E3 (mk2.sto.same g3)
        have T3 := T2.trans E3.tr
        refine ct x σ0 H3 _ cm2 ls p.1[i] ls3 (R0.tr T3) g4 q fun σ4 R4 hl4 ha4 => ⟨wipe_eq hl4 ha4, ?_⟩
        rcases M.bind_inv e5 with ⟨b, st4, e6, e7⟩ | ⟨c', f, v, _, q6⟩
        · obtain ⟨b', q7, e6'⟩ := M.nox_inv e6
          cases q7
          refine ⟨cm2, ls3, st3, _, st4, ⟨mk3.sto, R4⟩, e6', fun cm5 H5 x5 s5 => ?_⟩
          have mk5 := mk3.step hD x5 s5
          have T5 := T3.trans x5.tr
          cases b with
          | false =>
            simp only [Bool.false_eq_true, if_false] at e7 ⊢
            exact ⟨hlt, cm5, st4, xs, acc, rest, T5, mk5, e7, hl⟩
          | true =>
            simp only [if_true] at e7 ⊢
            rcases M.bind_inv e7 with ⟨ys, st5, e8, e9⟩ | ⟨c', f, v, _, q6⟩
            · obtain ⟨ys', q8, e8'⟩ := M.nox_inv e8
              cases q8
              rcases M.bind_inv e9 with ⟨zs, st6, e10, e11⟩ | ⟨c', f, v, _, q6⟩
              · cases e11
                rw [← List.append_assoc] at hl
                refine hin cm5 H5 st4 st5 σ4 ls3 xs acc ys _ mk5 (R4.ext x5) e8' ?_ fun cm6 H6 xs' T6 mk6 => ?_
                · have := congrArg List.length hl
                  simp only [List.length_append] at this hB ⊢
                  omega
                · exact ⟨hlt, cm6, st5, xs', acc ++ ys, zs, T5.trans T6, mk6, e10, hl⟩
              · cases q6
            · cases q6
        · cases q6
    · cases e5
  · rw [List.drop_eq_nil_of_le (by omega)] at e5
    simp only [compF] at e5
    split at e5
    · rename_i hok
      cases e5
      rw [List.append_nil] at hl
      refine .inl ⟨wk.stop i cm2 H2 st2 T2 mk2.sto hok (by omega), hq cm2 H2 xs T2 ?_⟩
      rw [← hl]; exact mk2
    · cases e5
theorem rd_lc2 {cell : Bool} {src src1 : MI} {vs vs1 : List Nat} {t t1 : MG} {g g1 : TG} {c c1 : MT} {e : ME} {σ : L2.St} {W : WX} {Q : VK} (ct : CT K mg vs t g) (ct1 : CT K mg vs1 t1 g1)
    (h : rdE K mg W (fun ls => M.bind (mClauseL src vs t c (mClauseL src1 vs1 t1 c1 (mOne e)) ls) fun l => if l.length ≤ 16777215 then newL cell l else M.stuck) σ H Q) :
    tLc2 (rdI K mg W src) g (rdT K mg W0 c) (rdI K mg W0 src1) g1 (rdT K mg W0 c1) (rdE K mg W0 e) vs vs1 σ H Q := by
  obtain ⟨cm, ls, st, r, st', R, e0, o⟩ := h
  have zl := sizeLine_eq
  rcases M.bind_inv e0 with ⟨l, st1, e1, e2⟩ | ⟨c', f, v, e1, rfl⟩
  · rcases M.bind_inv e1 with ⟨p, st2, e3, e4⟩ | ⟨c', f, v, e3, q⟩
    · refine ⟨cm, ls, st, _, st2, R, e3, fun cm1 H1 x1 s1 J wk D hD => ?_⟩
      obtain ⟨l', q1, e4'⟩ := M.nox_inv e4
      cases q1
      split at e2
      · rename_i hlen
        have mk := Making.mk0 s1 hD
        have T0 : Tr cm1 H1 (cm1.avoid D) (upd H1 D (.lst [])) := mk.ext.tr
        have wk' : Walks K mg J p (cm1.avoid D) (upd H1 D (.lst [])) := ⟨fun i cm2 H2 st3 T => wk.stop i cm2 H2 st3 (T0.trans T), fun i cm2 H2 st3 v T => wk.go i cm2 H2 st3 v (T0.trans T)⟩
        have o1 : Out K mg W σ cm1 H1 (GE K mg Q) r st' := o.tr x1
        refine Exists.elim (lturns (acc0 := []) (xs0 := []) (B := 16777215) (Qe := fun H => Q (.ref D) H) (In := fun Nx σ2 H4 => rdI K mg W0 src1 σ2 H4 fun J1 H4 => ∃ W1 : Nat → Nat → Hp → Prop, (∃ m, W1 0 m H4) ∧ ∀ j k H, W1 j k H →
            (J1.stop j H ∧ Nx H) ∨ (J1.go j H ∧ ∃ Nx1 : Hp → Prop, (∀ H', Nx1 H' → ∃ k', k' < k ∧ W1 (j + 1) k' H') ∧ ∀ x H', J1.yld j H x H' → g1 x (wipe σ2 vs1) H' fun σ3 H5 => wipe σ3 vs1 = wipe (wipe σ2 vs1) vs1 ∧ rdT K mg W0 c1 σ3 H5 fun b H6 =>
              if b = true then rdE K mg W0 e σ3 H6 fun y H7 => ∃ acc, H7 D = some (.lst acc) ∧ acc.length < sizeLine ∧ Nx1 (upd H7 D (.lst (acc ++ [y]))) else Nx1 H6)) ct wk' mk (((R.loc.ext x1).wipe vs).tr T0) hD e4' (by simpa using hlen)
          (fun cm2 H2 st3 st4 σ2 ls2 xs acc ys Nx mk2 R2 h hB k => ?_) fun cm2 H2 xs' T2 mk2 => mk2.done s1 hD e2 o1) fun WW hWW => ?_
        rotate_left 1
        · obtain ⟨h1, h2⟩ := hWW
          refine ⟨WW, h1, fun i m H3 hW => ?_⟩
          rcases h2 i m H3 hW with hh | ⟨hg, Nx, hn, hy⟩
          · exact .inl hh
          · refine .inr ⟨hg, Nx, hn, fun x H' hx => ?_⟩
            have z := hy x H' hx
            simp only [wipe_wipe] at z ⊢
            exact z
        · rcases M.bind_inv h with ⟨p1, st5, e5, e6⟩ | ⟨_, _, _, _, q⟩
          · obtain ⟨ys', q, e6⟩ := M.nox_inv e6
            cases q
            refine ⟨cm2, ls2, st3, _, st5, ⟨mk2.sto, R2⟩, e5, fun cm5 H5 x5 s5 J1 wk1 => ?_⟩
            refine lturns (B := 16777215) (In := fun Nx1 σ3 H6 => rdE K mg W0 e σ3 H6 fun y H7 => ∃ acc, H7 D = some (.lst acc) ∧ acc.length < sizeLine ∧ Nx1 (upd H7 D (.lst (acc ++ [y])))) ct1 wk1 (mk2.step hD x5 s5) ((R2.ext x5).wipe vs1) hD e6 hB
              (fun cm6 H6 st6 st7 σ6 ls6 xs6 acc6 ys6 Nx6 mk6 R6 h6 hB6 k6 => ?_) fun cm6 H6 xs6 T6 mk6 => k cm6 H6 xs6 (x5.tr.trans T6) mk6
            rcases M.bind_inv h6 with ⟨v, st8, e8, e9⟩ | ⟨_, _, _, _, q⟩
            · cases e9
              refine ⟨cm6, ls6, st6, _, _, ⟨mk6.sto, R6⟩, e8, fun cm7 H7 x7 s7 y hy => ?_⟩
              have mk7 := mk6.step hD x7 s7
              refine ⟨xs6, mk7.at', ?_, k6 cm7 _ _ (x7.tr.trans (mk7.addTr _)) (mk7.add hD hy)⟩
              have := mk7.rep.length
              simp only [List.length_append, List.length_cons, List.length_nil] at hB6
              omega
            · cases q
          · cases q
      · cases e2
    · cases q
  · rcases M.bind_inv e1 with ⟨p, st2, e3, e4⟩ | ⟨c'', f', v', e3, q⟩
    · obtain ⟨_, q, _⟩ := M.nox_inv e4
      cases q
    · cases q
      exact ⟨cm, ls, st, _, st', R, e3, fun cm1 H1 x1 s1 => o cm1 H1 x1 s1⟩
end
noncomputable def mLc2 (cell : Bool) (src : MI) (vs : List Nat) (t : MG) (c : MT) (src1 : MI) (vs1 : List Nat) (t1 : MG) (c1 : MT) (e : ME) : ME := fun ls => M.bind (mClauseL src vs t c (mClauseL src1 vs1 t1 c1 (mOne e)) ls) fun l => if l.length ≤ 16777215 then newL cell l else M.stuck
section
variable {X : Cx} {W : WX} {tg iter elt tg1 iter1 : Expr} {ifs ifs1 : List Expr} {scope : Scope} {pos : Pos} {src src1 : MI} {t t1 : MG} {g g1 : TG} {c c1 : MT} {m : ME}
theorem e_lc2 (cell : Bool) (own : List (Str × Nat)) (vs1 : List Nat) (ct : CT X.K X.mg (own.map (·.2)) t g) (ct1 : CT X.K X.mg vs1 t1 g1) (hv : ∀ i ∈ vs1, i ∈ own.map (·.2)) (hc : X.calm = true) (hN : X.N.Nodup) (hi : PI' X W tg iter src) (ok : BlkOk X.N X.env.scope scope own)
    (hg : ∀ (s : Shared) (H : Hp) (C : Addr) (cl : List (Str × Addr)) (fp : List Addr), PG (X.blk s H scope (compEnvC scope cl C X.env) fp) tg g)
    (ht : ∀ (s : Shared) (H : Hp) (C : Addr) (cl : List (Str × Addr)) (fp : List Addr), PTs' (X.blk s H scope (compEnvC scope cl C X.env) fp) W0 ifs c)
    (hi1 : ∀ (s : Shared) (H : Hp) (C : Addr) (cl : List (Str × Addr)) (fp : List Addr), PI' (X.blk s H scope (compEnvC scope cl C X.env) fp) W0 tg1 iter1 src1)
    (hg1 : ∀ (s : Shared) (H : Hp) (C : Addr) (cl : List (Str × Addr)) (fp : List Addr), PG (X.blk s H scope (compEnvC scope cl C X.env) fp) tg1 g1)
    (ht1 : ∀ (s : Shared) (H : Hp) (C : Addr) (cl : List (Str × Addr)) (fp : List Addr), PTs' (X.blk s H scope (compEnvC scope cl C X.env) fp) W0 ifs1 c1)
    (he : ∀ (s : Shared) (H : Hp) (C : Addr) (cl : List (Str × Addr)) (fp : List Addr), PE' (X.blk s H scope (compEnvC scope cl C X.env) fp) W0 elt m) (hs : ∀ x, foldedSetIterable iter X.env x = pure x := by intro _; rfl)
    (hs1 : ∀ env x, foldedSetIterable iter1 env x = pure x := by intro _ _; rfl) :
    PE' X W (.ListComp elt [⟨tg, iter, ifs, 0⟩, ⟨tg1, iter1, ifs1, 0⟩] scope pos) (mLc2 cell src (own.map (·.2)) t c src1 vs1 t1 c1 m) :=
  PE_imp (pe_lc2 hc hN hi ok hv hg ht hi1 hg1 ht1 he hs hs1) fun _ _ _ h => rd_lc2 ct ct1 h
end
end MK
end
set_option maxHeartbeats 4000000
namespace MK
open PySem PySem.Spec PyProof.Rows L2
open PySem.AutoSeq1 (wpAny_loadPart')
def TupC (K : PySem.W.Frag) (mg : Str → Option Value) (x : Str) (vs : List V) : Prop := ∃ (A : Addr) (o : Obj) (its : Array Value) (n : Nat), mg x = some (.ref A) ∧ K.lookup A = some o ∧ o.cls = .type "tuple" ∧ o.data = .seq its n ∧ its.size ≤ sizeLine ∧ Vals vs its.toList
theorem TupC.of {K : PySem.W.Frag} {mg : Str → Option Value} {h : Heap} {x : Str} {vs : List V} (X : K.In h) (G : h.Ns mainGlobals mg) {A : Addr} {d : Option Addr} {its : Array Value} {n : Nat} {sl : Array (Option Value)} (a : PySem.W.nsIn K mainGlobals x = some (some (.ref A)))
    (l : K.lookup A = some ⟨.type "tuple", d, .seq its n, sl⟩) (hz : vs.length ≤ 1000) (hv : Vals vs its.toList) : TupC K mg x vs := by
  refine ⟨A, _, its, n, PySem.W.mg_of X G a, l, rfl, rfl, ?_, hv⟩
  have : vs.length = its.size := hv.length
  rw [sizeLine_eq]; omega
end MK
section
set_option maxHeartbeats 2000000
namespace MK
open PySem PySem.Spec PyProof.Rows L2
theorem RepL.erase {K : PySem.W.Frag} {mg : Str → Option Value} {cm : Wd} {H : Hp} : ∀ {xs : List V} {l : List IV} (n : Nat), RepL K mg cm H xs l → RepL K mg cm H (xs.eraseIdx n) (l.eraseIdx n)
  | _, _, _, .nil => .nil
  | _, _, 0, .cons h r => r
  | _, _, n + 1, .cons h r => .cons h (RepL.erase n r)
end MK
end
section
set_option maxHeartbeats 2000000
namespace MK
open PySem PySem.Spec PyProof.Rows L2
abbrev rngV (n : Int) : IV := .exn 0 .none 0 "" (.int n) ""
section
variable {X : Cx}
def rRange1 : List V → Hp → VK → Prop := fun vs H Q => ∃ n, vs = [V.int n] ∧ ∀ p, H p = none → Q (.ref p) (upd H p (.rng 0 n))
theorem cr_range1 : CallR X (.type "range") rRange1 := by
  intro pins s σ H vs us Q I r h
  obtain ⟨n, rfl, q⟩ := h
  cases r with
  | cons r rr =>
    cases rr
    obtain ⟨t, rfl⟩ := r
    refine call_range_1 ⟨.ref s.heap.objs.size, upd H s.heap.objs.size (.rng 0 n), I.laid (t' := s.toks + 1 + 1) (fun b o e => Heap.get?_push_of_some _ e) (Nat.le_refl _) ?_, rfl, q _ (I.hok.fresh (Nat.le_refl _))⟩
    exact ⟨s.toks, t, s.toks + 1, Heap.get?_push_size _ rfl⟩
def rangeVM (l : List IV) : M IV := fun st => match l with
  | [.int n] => if -(2 ^ 62) ≤ n ∧ n < 2 ^ 62 then some (.val (rngV n), st) else none
  | _ => none
theorem v_range1 {K : PySem.W.Frag} {mg : Str → Option Value} : CallV K mg rRange1 rangeVM := by
  intro W σ cm st H xs l o st' Q s hx e ho
  unfold rangeVM at e
  split at e
  · split at e
    · rename_i n hn
      cases e
      obtain ⟨y, rfl, hy⟩ := rep1 hx
      cases hy
      exact ⟨n, rfl, fun p hp => ho cm _ (Ext.new' hp) (s.new hp) _ (.rng (by simp [upd]) (s.notAv hp))⟩
    · cases e
  · cases e
variable {W : WX} {e a : Expr} {es : List Expr} {ga : MA} {p pos : Pos} {tg : Expr} {fa : ME}
theorem e_range1 (hg : Gl X "range") (hm : X.mg "range" = none) (hb : bootBuiltins "range" = some (.type "range")) (ha : PA' X W [a] ga) (he : starEach [a] X.env = [(false, eval a X.env)] := by rfl) : PE' X W (.Call (.Name "range" p) [a] [] pos) (mCall rangeVM ga) :=
  e_callTy cr_range1 v_range1 hg hm hb ha (by decide) (by decide) he
theorem pi_rngO {te : TE} (he : PE X e te) : PI X tg e (fun σ H R => te σ H fun v H1 => ∃ a hi, v = .ref a ∧ H1 a = some (.rng 0 hi) ∧ -(2 ^ 62) ≤ hi ∧ hi < 2 ^ 62 ∧ R (Itr 0 hi.toNat) H1) := by
  refine ⟨fun pins s σ H R I h => ?_⟩
  refine thn (he.run pins s σ H _ I h) fun v s1 ⟨x, H1, I1, r1, q1⟩ => ?_
  obtain ⟨a, hi, e, hH, h1, h2, q⟩ := q1
  subst e
  cases r1
  obtain ⟨t, u, w, hl⟩ := I1.hok a _ hH
  refine wpAny_pyIter_range (show IsRange s1.heap a 0 hi 1 t u w from hl) (small_one (by omega) (by omega) h1 h2) ?_
  refine ⟨s1.heap.objs.size, [s1.heap.objs.size], _, _, H1, rfl, I1.kept (t' := s1.toks) fun b o e => Heap.get?_push_of_some _ e, turn_range _ 0 hi.toNat, ?_, fun b hb => ?_, q⟩
  · have e1 : (0 : Int) + ((0 : Nat) : Int) * 1 = 0 := by simp
    have e2 : ((hi.toNat : Nat) : Int) - ((0 : Nat) : Int) = Builtin.Range.rangeSize 0 hi 1 := by rw [rangeSize_one]; split <;> omega
    show IsRangeIter _ _ ((0 : Int) + ((0 : Nat) : Int) * 1) (((hi.toNat : Nat) : Int) - ((0 : Nat) : Int)) 1
    rw [e1, e2]
    exact Heap.get?_push_size _ rfl
  · have e : b = s1.heap.objs.size := by simpa using hb
    subst e
    exact I1.fpOk (Nat.le_refl _) (I1.hok.fresh (Nat.le_refl _))
def srcRM (v : IV) : M Src := fun st => match v with
  | .exn _ .none _ _ (.int n) _ => if -(2 ^ 62) ≤ n ∧ n < 2 ^ 62 then some (.val (rangeI 0 n.toNat, none), st) else none
  | _ => none
def mSrcR (m : ME) : MI := fun ls => M.bind (m ls) srcRM
theorem i_rngO (h : PE' X W e fa) : PI' X W tg e (mSrcR fa) := PI_imp (pi_rngO h) fun σ H R h => rdE_mono (rdI1 h) fun x H1 h1 => by
  obtain ⟨cm, st, v, r, st', s, hx, e, o⟩ := h1
  unfold srcRM at e
  split at e
  · split at e
    · rename_i a0 d0 f0 n c0 hn
      cases e
      generalize hv : IV.exn _ Value.none _ _ (.int n) _ = w at hx
      cases hx with
      | rng hH hav =>
        cases hv
        exact ⟨_, n, rfl, hH, hn.1, hn.2, o cm H1 (Ext.refl _ _) s _ (walks_R 0 n.toNat)⟩
      | _ => cases hv
    · cases e
  · cases e
def rFac : List V → Hp → VK → Prop := fun vs H Q => ∃ a : Int, vs = [.int a] ∧ 0 ≤ a ∧ a ≤ 1000 ∧ Q (.int ((Builtin.Math.factorialNat a.toNat : Nat) : Int)) H
theorem cr_fac : CallR X (.builtin "math.factorial") rFac := by
  intro pins s σ H vs us Q I r h
  obtain ⟨a, rfl, h0, h1, q⟩ := h
  cases r with
  | cons r rr =>
    cases rr
    obtain ⟨t, rfl⟩ := r
    exact PySem.W.mc_factorial h0 (by omega) fun _ => ⟨.int _, H, I.tok _, ⟨_, rfl⟩, q⟩
def facM : List IV → M IV := fun l st => match l with
  | [.int a] => if 0 ≤ a ∧ a ≤ 1000 then some (.val (.int ((Builtin.Math.factorialNat a.toNat : Nat) : Int)), st) else none
  | _ => none
theorem v_fac {K : PySem.W.Frag} {mg : Str → Option Value} : CallV K mg rFac facM := by
  intro W σ cm st H xs l o st' Q s hx e ho
  unfold facM at e
  split at e
  · split at e
    · rename_i a hh
      cases e
      obtain ⟨y, rfl, hy⟩ := rep1 hx
      cases hy
      exact ⟨a, rfl, hh.1, hh.2, ho cm H (Ext.refl _ _) s _ (.int _)⟩
    · cases e
  · cases e
end
section
variable {st : Sto} {E : EX} {ls : Loc} {Q : IV → Sto → Prop} {n : Int}
theorem we_rangeV (h : -(2 ^ 62) ≤ n ∧ n < 2 ^ 62) (q : Q (rngV n) st) : we (rangeVM [.int n]) st E Q := ⟨_, _, by unfold rangeVM; simp only [h, and_self, if_true]; rfl, q⟩
theorem we_srcR {m : ME} {QS : Src → Sto → Prop} (h : we (m ls) st E fun v st1 => ∃ n, v = rngV n ∧ (-(2 ^ 62) ≤ n ∧ n < 2 ^ 62) ∧ QS (rangeI 0 n.toNat, none) st1) : we (mSrcR m ls) st E QS :=
  we_bind (we_mono h fun v st1 ⟨n, e, hn, q⟩ => by subst e; exact ⟨_, _, by unfold srcRM; simp only [hn, and_self, if_true]; rfl, q⟩)
theorem we_fac (h : 0 ≤ n ∧ n ≤ 1000) (q : Q (.int ((Builtin.Math.factorialNat n.toNat : Nat) : Int)) st) : we (facM [.int n]) st E Q := ⟨_, _, by unfold facM; simp only [h, and_self, if_true]; rfl, q⟩
end
end MK
end
section
set_option maxHeartbeats 2000000
namespace MK
open PySem PySem.Spec PyProof.Rows L2
def HasB (b : Bool) (h : Heap) (a : Addr) (items : Array Value) : Prop := if b = true then h.IsTuple a items else h.IsList a items
def IterB (b : Bool) (h : Heap) (it a : Addr) (i : Nat) : Prop := if b = true then h.IsTupleIter it a i else h.IsListIter it a i
theorem IterB.obj {b : Bool} {h : Heap} {it a : Addr} {i : Nat} (r : IterB b h it a i) : ∃ o, h.get? it = some o ∧ ∀ v, o.data ≠ .cell v := by
  cases b
  · obtain ⟨o, e, _, d⟩ := r
    exact ⟨o, e, fun v q => by rw [d] at q; cases q⟩
  · obtain ⟨o, e, _, d⟩ := r
    exact ⟨o, e, fun v q => by rw [d] at q; cases q⟩
theorem HasB.lt {b : Bool} {h : Heap} {a : Addr} {items : Array Value} (r : HasB b h a items) : a < h.objs.size := by
  cases b
  · obtain ⟨o, e, _⟩ := r; exact Heap.lt_size e
  · obtain ⟨o, e, _⟩ := r; exact Heap.lt_size e
end MK
end
section
set_option maxHeartbeats 2000000
namespace MK
open PySem PySem.Spec PyProof.Rows L2
inductive TabE (w : World) : List DictEntry → List (Str × Str) → Prop where
  | nil : TabE w [] []
  | cons {k v : Str} {t u : Tok} {n : Int} {es : List DictEntry} {tab : List (Str × Str)} : n = hashStr w k → TabE w es tab → TabE w (⟨n, .str k t, .str v u⟩ :: es) ((k, v) :: tab)
def DictC (w : World) (K : PySem.W.Frag) (mg : Str → Option Value) (x : Str) (tab : List (Str × Str)) : Prop :=
  ∃ (A : Addr) (o : Obj) (es : Array DictEntry) (ep : Nat), mg x = some (.ref A) ∧ (A == sysModules) = false ∧ K.lookup A = some o ∧ o.ExactDict ∧ o.data = .dict es ep ∧ TabE w es.toList tab
theorem DictC.of {w : World} {K : PySem.W.Frag} {mg : Str → Option Value} {h : Heap} {x : Str} {tab : List (Str × Str)} (X : K.In h) (G : h.Ns mainGlobals mg) {A : Addr} {es : Array DictEntry} {ep : Nat} (a : PySem.W.nsIn K mainGlobals x = some (some (.ref A)))
    (l : K.lookup A = some ⟨.type "dict", none, .dict es ep, #[]⟩) (n : (A == sysModules) = false) (e : TabE w es.toList tab) : DictC w K mg x tab := ⟨A, _, es, ep, PySem.W.mg_of X G a, n, l, ⟨rfl, rfl, rfl⟩, rfl, e⟩
end MK
end
namespace Law
open PySem PySem.Spec PyProof.Rows L2 MK
def top (i : Nat) : Stmt := PySem.Challenge.pw_markfilters_k23_whole_most_items.main.body.getD i (.Pass ⟨0, 0, 0, 0⟩)
abbrev s_is_integer : Stmt := top 3
abbrev s_is_integer_within : Stmt := top 4
abbrev s_is_ascending : Stmt := top 5
abbrev s_lies_within : Stmt := top 6
abbrev s_chosen : Stmt := top 7
abbrev s_InvalidNumber_init : Stmt := inClass (top 10) 0
abbrev s_InvalidMarks_init : Stmt := inClass (top 11) 0
abbrev s_InvalidKeys_init : Stmt := inClass (top 12) 0
abbrev s_InvalidBits_init : Stmt := inClass (top 13) 0
abbrev s_is_mark : Stmt := top 17
abbrev s_are_marks : Stmt := top 18
abbrev s_Marking_init : Stmt := inClass (top 19) 0
abbrev s_Marking_eq : Stmt := inClass (top 19) 1
abbrev s_Marking_len : Stmt := inClass (top 19) 2
abbrev s_are_keys : Stmt := top 20
abbrev s_are_bits : Stmt := top 21
abbrev s_filled : Stmt := top 23
abbrev s_says : Stmt := top 24
abbrev s_wrong : Stmt := top 25
abbrev s_wrong_total : Stmt := top 26
abbrev s_ratio : Stmt := top 28
abbrev s_is_free : Stmt := top 30
abbrev s_half_of : Stmt := top 31
abbrev s_most_free : Stmt := top 32
abbrev s_free_marks : Stmt := top 33
abbrev s_free_share : Stmt := top 34
abbrev s_are_apart : Stmt := top 35
abbrev s_law_box : Stmt := top 37
abbrev s_law_take : Stmt := top 38
abbrev s_law_pick : Stmt := top 39
abbrev s_law_whole : Stmt := top 40
abbrev s_law_is_numbers : Stmt := top 41
abbrev s_law_spoilt : Stmt := top 42
abbrev s_law_shuffled : Stmt := top 43
abbrev s_law_gcd : Stmt := top 44
abbrev s_law_ascends : Stmt := top 45
abbrev s_law_choose : Stmt := top 46
abbrev s_law_ratio : Stmt := top 47
abbrev s_law_sets : Stmt := top 48
abbrev s_law_all_sets : Stmt := top 49
abbrev s_law_is_set : Stmt := top 50
abbrev s_law_told : Stmt := top 51
abbrev s_law_are_apart : Stmt := top 52
abbrev s_law : Stmt := top 53
theorem sc_is_integer : FnScope ["value"] ["value"] (defScope s_is_integer) := ⟨rfl, rfl, rfl, by decide +kernel, rfl, by decide +kernel, by decide +kernel⟩
theorem sc_is_integer_within : FnScope ["value", "low", "high"] ["value", "low", "high"] (defScope s_is_integer_within) := ⟨rfl, rfl, rfl, by decide +kernel, rfl, by decide +kernel, by decide +kernel⟩
theorem sc_is_ascending : FnScope ["value", "below", "least", "member"] ["value", "below"] (defScope s_is_ascending) := ⟨rfl, rfl, rfl, by decide +kernel, rfl, by decide +kernel, by decide +kernel⟩
theorem sc_lies_within : FnScope ["part", "whole", "member"] ["part", "whole"] (defScope s_lies_within) := ⟨rfl, rfl, rfl, by decide +kernel, rfl, by decide +kernel, by decide +kernel⟩
theorem sc_chosen : FnScope ["many", "size"] ["many", "size"] (defScope s_chosen) := ⟨rfl, rfl, rfl, by decide +kernel, rfl, by decide +kernel, by decide +kernel⟩
theorem sc_InvalidNumber_init : FnScope ["self", "value"] ["self", "value"] (defScope s_InvalidNumber_init) := ⟨rfl, rfl, rfl, by decide +kernel, rfl, by decide +kernel, by decide +kernel⟩
theorem sc_InvalidMarks_init : FnScope ["self", "value"] ["self", "value"] (defScope s_InvalidMarks_init) := ⟨rfl, rfl, rfl, by decide +kernel, rfl, by decide +kernel, by decide +kernel⟩
theorem sc_InvalidKeys_init : FnScope ["self", "value"] ["self", "value"] (defScope s_InvalidKeys_init) := ⟨rfl, rfl, rfl, by decide +kernel, rfl, by decide +kernel, by decide +kernel⟩
theorem sc_InvalidBits_init : FnScope ["self", "value"] ["self", "value"] (defScope s_InvalidBits_init) := ⟨rfl, rfl, rfl, by decide +kernel, rfl, by decide +kernel, by decide +kernel⟩
theorem sc_is_mark : FnScope ["cells", "value"] ["cells", "value"] (defScope s_is_mark) := ⟨rfl, rfl, rfl, by decide +kernel, rfl, by decide +kernel, by decide +kernel⟩
theorem sc_are_marks : FnScope ["cells", "value", "mark"] ["cells", "value"] (defScope s_are_marks) := ⟨rfl, rfl, rfl, by decide +kernel, rfl, by decide +kernel, by decide +kernel⟩
theorem sc_Marking_init : FnScope ["self", "cells", "marks", "mark"] ["self", "cells", "marks"] (defScope s_Marking_init) := ⟨rfl, rfl, rfl, by decide +kernel, rfl, by decide +kernel, by decide +kernel⟩
theorem sc_Marking_len : FnScope ["self"] ["self"] (defScope s_Marking_len) := ⟨rfl, rfl, rfl, by decide +kernel, rfl, by decide +kernel, by decide +kernel⟩
theorem sc_are_keys : FnScope ["marking", "value"] ["marking", "value"] (defScope s_are_keys) := ⟨rfl, rfl, rfl, by decide +kernel, rfl, by decide +kernel, by decide +kernel⟩
theorem sc_are_bits : FnScope ["marking", "value"] ["marking", "value"] (defScope s_are_bits) := ⟨rfl, rfl, rfl, by decide +kernel, rfl, by decide +kernel, by decide +kernel⟩
theorem sc_filled : FnScope ["marking", "keys", "key", "cell"] ["marking", "keys"] (defScope s_filled) := ⟨rfl, rfl, rfl, by decide +kernel, rfl, by decide +kernel, by decide +kernel⟩
theorem sc_says : FnScope ["marking", "bits", "item", "mark"] ["marking", "bits"] (defScope s_says) := ⟨rfl, rfl, rfl, by decide +kernel, rfl, by decide +kernel, by decide +kernel⟩
theorem sc_wrong : FnScope ["marking", "keys", "yes", "item"] ["marking", "keys"] (defScope s_wrong) := ⟨rfl, rfl, rfl, by decide +kernel, rfl, by decide +kernel, by decide +kernel⟩
theorem sc_wrong_total : FnScope ["marking", "size", "keys"] ["marking", "size"] (defScope s_wrong_total) := ⟨rfl, rfl, rfl, by decide +kernel, rfl, by decide +kernel, by decide +kernel⟩
theorem sc_ratio : FnScope ["part", "whole", "divisor"] ["part", "whole"] (defScope s_ratio) := ⟨rfl, rfl, rfl, by decide +kernel, rfl, by decide +kernel, by decide +kernel⟩
theorem sc_is_free : FnScope ["marking", "size"] ["marking", "size"] (defScope s_is_free) := ⟨rfl, rfl, rfl, by decide +kernel, rfl, by decide +kernel, by decide +kernel⟩
theorem sc_half_of : FnScope ["cells"] ["cells"] (defScope s_half_of) := ⟨rfl, rfl, rfl, by decide +kernel, rfl, by decide +kernel, by decide +kernel⟩
theorem sc_most_free : FnScope ["cells"] ["cells"] (defScope s_most_free) := ⟨rfl, rfl, rfl, by decide +kernel, rfl, by decide +kernel, by decide +kernel⟩
theorem sc_free_marks : FnScope ["cells", "many"] ["cells", "many"] (defScope s_free_marks) := ⟨rfl, rfl, rfl, by decide +kernel, rfl, by decide +kernel, by decide +kernel⟩
theorem sc_free_share : FnScope ["cells", "marks", "most", "orders", "mark"] ["cells", "marks"] (defScope s_free_share) := ⟨rfl, rfl, rfl, by decide +kernel, rfl, by decide +kernel, by decide +kernel⟩
theorem sc_are_apart : FnScope ["cells", "marks", "places", "mark", "at", "to"] ["cells", "marks"] (defScope s_are_apart) := ⟨rfl, rfl, rfl, by decide +kernel, rfl, by decide +kernel, by decide +kernel⟩
theorem sc_law_box : FnScope ["script", "k", "cell", "great"] ["script", "k"] (defScope s_law_box) := ⟨rfl, rfl, rfl, by decide +kernel, rfl, by decide +kernel, by decide +kernel⟩
theorem sc_law_take : FnScope ["box", "many", "got"] ["box", "many"] (defScope s_law_take) := ⟨rfl, rfl, rfl, by decide +kernel, rfl, by decide +kernel, by decide +kernel⟩
theorem sc_law_pick : FnScope ["box", "some"] ["box", "some"] (defScope s_law_pick) := ⟨rfl, rfl, rfl, by decide +kernel, rfl, by decide +kernel, by decide +kernel⟩
theorem sc_law_whole : FnScope ["value"] ["value"] (defScope s_law_whole) := ⟨rfl, rfl, rfl, by decide +kernel, rfl, by decide +kernel, by decide +kernel⟩
theorem sc_law_is_numbers : FnScope ["value", "many", "one"] ["value", "many"] (defScope s_law_is_numbers) := ⟨rfl, rfl, rfl, by decide +kernel, rfl, by decide +kernel, by decide +kernel⟩
theorem sc_law_spoilt : FnScope ["box", "value", "deep", "at", "how"] ["box", "value", "deep"] (defScope s_law_spoilt) := ⟨rfl, rfl, rfl, by decide +kernel, rfl, by decide +kernel, by decide +kernel⟩
theorem sc_law_shuffled : FnScope ["box", "some", "found", "one"] ["box", "some"] (defScope s_law_shuffled) := ⟨rfl, rfl, rfl, by decide +kernel, rfl, by decide +kernel, by decide +kernel⟩
theorem sc_law_gcd : FnScope ["a", "b", "turn"] ["a", "b"] (defScope s_law_gcd) := ⟨rfl, rfl, rfl, by decide +kernel, rfl, by decide +kernel, by decide +kernel⟩
theorem sc_law_ascends : FnScope ["value", "k"] ["value"] (defScope s_law_ascends) := ⟨rfl, rfl, rfl, by decide +kernel, rfl, by decide +kernel, by decide +kernel⟩
theorem sc_law_choose : FnScope ["k", "r", "found", "j"] ["k", "r"] (defScope s_law_choose) := ⟨rfl, rfl, rfl, by decide +kernel, rfl, by decide +kernel, by decide +kernel⟩
theorem sc_law_ratio : FnScope ["a", "b", "g"] ["a", "b"] (defScope s_law_ratio) := ⟨rfl, rfl, rfl, by decide +kernel, rfl, by decide +kernel, by decide +kernel⟩
theorem sc_law_sets : FnScope ["many", "size", "found", "one", "row"] ["many", "size"] (defScope s_law_sets) := ⟨rfl, rfl, rfl, by decide +kernel, rfl, by decide +kernel, by decide +kernel⟩
theorem sc_law_all_sets : FnScope ["many", "found", "one", "row"] ["many"] (defScope s_law_all_sets) := ⟨rfl, rfl, rfl, by decide +kernel, rfl, by decide +kernel, by decide +kernel⟩
theorem sc_law_is_set : FnScope ["value", "many"] ["value", "many"] (defScope s_law_is_set) := ⟨rfl, rfl, rfl, by decide +kernel, rfl, by decide +kernel, by decide +kernel⟩
theorem sc_law_told : FnScope ["kind", "cells", "value", "e"] ["kind", "cells", "value"] (defScope s_law_told) := ⟨rfl, rfl, rfl, by decide +kernel, rfl, by decide +kernel, by decide +kernel⟩
theorem sc_law_are_apart : FnScope ["cells", "value", "i", "j", "mark", "cell"] ["cells", "value"] (defScope s_law_are_apart) := ⟨rfl, rfl, rfl, by decide +kernel, rfl, by decide +kernel, by decide +kernel⟩
theorem sc_law : FnScope ["script", "box", "cells", "half", "most", "many", "due", "mine", "mark", "some", "values", "k", "value", "a", "b", "size", "odd", "one", "kind"] ["script"] (defScope s_law) := ⟨rfl, rfl, rfl, by decide +kernel, rfl, by decide +kernel, by decide +kernel⟩
def subTab : List (Str × Str × Bool) := [("InvalidNumber", "InvalidMarks", false), ("InvalidNumber", "InvalidNumber", true), ("InvalidMarks", "InvalidMarks", true), ("InvalidMarks", "InvalidNumber", false), ("InvalidKeys", "InvalidMarks", false), ("InvalidKeys", "InvalidNumber", false), ("InvalidBits", "InvalidMarks", false), ("InvalidBits", "InvalidNumber", false)]
structure Tx (K : PySem.W.Frag) (mg : Str → Option Value) : Prop where
  b_ValueError : mg "ValueError" = none
  b_abs : mg "abs" = none
  b_all : mg "all" = none
  b_any : mg "any" = none
  b_bool : mg "bool" = none
  b_enumerate : mg "enumerate" = none
  b_int : mg "int" = none
  b_isinstance : mg "isinstance" = none
  b_len : mg "len" = none
  b_list : mg "list" = none
  b_range : mg "range" = none
  b_sorted : mg "sorted" = none
  b_str : mg "str" = none
  b_sum : mg "sum" = none
  b_tuple : mg "tuple" = none
  b_combinations : mg "combinations" = some (.type "itertools.combinations")
  b_comb : mg "comb" = some (.builtin "math.comb")
  b_factorial : mg "factorial" = some (.builtin "math.factorial")
  b_gcd : mg "gcd" = some (.builtin "math.gcd")
  c_MOST_CELLS : ∃ t, mg "MOST_CELLS" = some (.int 8 t)
  c_MOST_MARKS : ∃ t, mg "MOST_MARKS" = some (.int 7 t)
  F_is_integer : FunOk K mg "is_integer" s_is_integer ["value"]
  F_is_integer_within : FunOk K mg "is_integer_within" s_is_integer_within ["value", "low", "high"]
  F_is_ascending : FunOk K mg "is_ascending" s_is_ascending ["value", "below"]
  F_lies_within : FunOk K mg "lies_within" s_lies_within ["part", "whole"]
  F_chosen : FunOk K mg "chosen" s_chosen ["many", "size"]
  X_InvalidNumber : ExcFun K mg "InvalidNumber" "value" "InvalidNumber.__init__" s_InvalidNumber_init ["self", "value"]
  X_InvalidMarks : ExcFun K mg "InvalidMarks" "value" "InvalidMarks.__init__" s_InvalidMarks_init ["self", "value"]
  X_InvalidKeys : ExcFun K mg "InvalidKeys" "value" "InvalidKeys.__init__" s_InvalidKeys_init ["self", "value"]
  X_InvalidBits : ExcFun K mg "InvalidBits" "value" "InvalidBits.__init__" s_InvalidBits_init ["self", "value"]
  F_is_mark : FunOk K mg "is_mark" s_is_mark ["cells", "value"]
  F_are_marks : FunOk K mg "are_marks" s_are_marks ["cells", "value"]
  C_Marking : ClsFun K mg "Marking" "Marking.__init__" s_Marking_init ["self", "cells", "marks"]
  M_Marking_eq : MetFun K mg "Marking" "__eq__" "Marking.__eq__" s_Marking_eq ["self", "other"]
  M_Marking_len : MetFun K mg "Marking" "__len__" "Marking.__len__" s_Marking_len ["self"]
  F_are_keys : FunOk K mg "are_keys" s_are_keys ["marking", "value"]
  F_are_bits : FunOk K mg "are_bits" s_are_bits ["marking", "value"]
  F_filled : FunOk K mg "filled" s_filled ["marking", "keys"]
  F_says : FunOk K mg "says" s_says ["marking", "bits"]
  F_wrong : FunOk K mg "wrong" s_wrong ["marking", "keys"]
  F_wrong_total : FunOk K mg "wrong_total" s_wrong_total ["marking", "size"]
  F_ratio : FunOk K mg "ratio" s_ratio ["part", "whole"]
  F_is_free : FunOk K mg "is_free" s_is_free ["marking", "size"]
  F_half_of : FunOk K mg "half_of" s_half_of ["cells"]
  F_most_free : FunOk K mg "most_free" s_most_free ["cells"]
  F_free_marks : FunOk K mg "free_marks" s_free_marks ["cells", "many"]
  F_free_share : FunOk K mg "free_share" s_free_share ["cells", "marks"]
  F_are_apart : FunOk K mg "are_apart" s_are_apart ["cells", "marks"]
  F_law_box : FunOk K mg "_law_box" s_law_box ["script", "k"]
  F_law_take : FunOk K mg "_law_take" s_law_take ["box", "many"]
  F_law_pick : FunOk K mg "_law_pick" s_law_pick ["box", "some"]
  F_law_whole : FunOk K mg "_law_whole" s_law_whole ["value"]
  F_law_is_numbers : FunOk K mg "_law_is_numbers" s_law_is_numbers ["value", "many"]
  F_law_spoilt : FunOk K mg "_law_spoilt" s_law_spoilt ["box", "value", "deep"]
  F_law_shuffled : FunOk K mg "_law_shuffled" s_law_shuffled ["box", "some"]
  F_law_gcd : FunOk K mg "_law_gcd" s_law_gcd ["a", "b"]
  F_law_ascends : FunOk K mg "_law_ascends" s_law_ascends ["value"]
  F_law_choose : FunOk K mg "_law_choose" s_law_choose ["k", "r"]
  F_law_ratio : FunOk K mg "_law_ratio" s_law_ratio ["a", "b"]
  F_law_sets : FunOk K mg "_law_sets" s_law_sets ["many", "size"]
  F_law_all_sets : FunOk K mg "_law_all_sets" s_law_all_sets ["many"]
  F_law_is_set : FunOk K mg "_law_is_set" s_law_is_set ["value", "many"]
  F_law_told : FunOk K mg "_law_told" s_law_told ["kind", "cells", "value"]
  F_law_are_apart : FunOk K mg "_law_are_apart" s_law_are_apart ["cells", "value"]
  F_law : FunOk K mg "law" s_law ["script"]
  i_Marking : IsOk K mg "Marking" []
  f_Marking_cells : FldOk K mg "Marking" "cells"
  f_Marking_marks : FldOk K mg "Marking" "marks"
  m_InvalidMarks : ∃ C, mg "InvalidMarks" = some (.ref C)
  m_InvalidNumber : ∃ C, mg "InvalidNumber" = some (.ref C)
  sub : SubOk K mg (subT subTab)
section
variable {P : Program} {w : World} {K : PySem.W.Frag} {mg : Str → Option Value} {base : Heap}
theorem x_InvalidNumber (T : Tx K mg) : ExcOk P w K mg base "InvalidNumber" "value" := exc_ok T.X_InvalidNumber sc_InvalidNumber_init fun g cdv A outer s H E => pss_one (ps_ost (pv 0) (pv 1))
theorem x_InvalidMarks (T : Tx K mg) : ExcOk P w K mg base "InvalidMarks" "value" := exc_ok T.X_InvalidMarks sc_InvalidMarks_init fun g cdv A outer s H E => pss_one (ps_ost (pv 0) (pv 1))
theorem x_InvalidKeys (T : Tx K mg) : ExcOk P w K mg base "InvalidKeys" "value" := exc_ok T.X_InvalidKeys sc_InvalidKeys_init fun g cdv A outer s H E => pss_one (ps_ost (pv 0) (pv 1))
theorem x_InvalidBits (T : Tx K mg) : ExcOk P w K mg base "InvalidBits" "value" := exc_ok T.X_InvalidBits sc_InvalidBits_init fun g cdv A outer s H E => pss_one (ps_ost (pv 0) (pv 1))
noncomputable def m_is_integer : MS := mRet (mAndV (mIsi .int (mVar 0)) (mNotV (mIsi .bool (mVar 0))))
noncomputable def g_is_integer : MF := finM false 1 m_is_integer
theorem d_is_integer (T : Tx K mg) : DefOk P w K mg base 1 "is_integer" ["value"] g_is_integer := def_okF false T.F_is_integer sc_is_integer (fun f cdv A outer s H E hr => ss_one (s_ret (e_and (e_isi .int T.b_isinstance (by rfl) (by rfl) (by rfl) T.b_int (by decide +kernel) (e_var 0)) (e_and1 (e_notV (e_isi .bool T.b_isinstance (by rfl) (by rfl) (by rfl) T.b_bool (by decide +kernel) (e_var 0)))))))
noncomputable def m_lies_within : MS := mRet (mCall (pv1 allI) (mCons (mLc false (mSrc (mVar 0)) [2] (gSet 2) (mTB true) (m2 (inI) (mVar 2) (mVar 1))) (mNil)))
noncomputable def g_lies_within : MF := finM false 3 m_lies_within
theorem d_lies_within (T : Tx K mg) : DefOk P w K mg base 1 "lies_within" ["part", "whole"] g_lies_within := def_okF false T.F_lies_within sc_lies_within (fun f cdv A outer s H E hr => ss_one (s_ret (e_callB (cr_all (by rfl)) v_all (by rfl) T.b_all (by decide +kernel) (a_cons (e_lc false [("member", 2)] (ct_name 2) rfl sc_lies_within.nd (i_seq (e_var 0)) (blkOk_by (by kernel_rfl)) (fun _ _ _ _ _ => (pg_name (i := 2) sc_lies_within.nd rfl (by first | exact Or.inl rfl | exact Or.inr rfl))) (fun _ _ _ _ _ => ts_nil) (fun _ _ _ _ _ => e_cmp (c_in (hu65 hr)) (e_var 2) (e_var 1))) (a_nil)))))
noncomputable def m_chosen : MS := mRet (mListC false (mCons (mVar 0) (mNil)) (mVar 1))
noncomputable def g_chosen : MF := finM false 2 m_chosen
theorem d_chosen (T : Tx K mg) : DefOk P w K mg base 1 "chosen" ["many", "size"] g_chosen := def_okF false T.F_chosen sc_chosen (fun f cdv A outer s H E hr => ss_one (s_ret (e_listC false rfl (by rfl) T.b_range (by rfl) T.b_combinations (by rfl) T.b_list (a_cons (e_var 0) (a_nil)) (e_var 1))))
noncomputable def m_Marking_len : MS := mRet (mCall (pv1 lenI) (mCons (mFld "Marking" "marks" (mVar 0)) (mNil)))
noncomputable def g_Marking_len : MF := finM false 1 m_Marking_len
theorem d_Marking_len (T : Tx K mg) : MetOk P w K mg base 1 "Marking" "__len__" ["self"] g_Marking_len := met_ok false T.M_Marking_len sc_Marking_len (fun f cdv A outer s H E hr => ss_one (s_ret (e_callB call_len v_len (by rfl) T.b_len (by decide +kernel) (a_cons (e_fld "Marking" (e_var 0) (T.f_Marking_marks)) (a_nil)))))
noncomputable def m_ratio : MS := mSeq (mSet 2 (mCall gcdM (mCons (mVar 0) (mCons (mVar 1) (mNil))))) (mRet (mTup (mCons (m2 fdivI (mVar 0) (mVar 2)) (mCons (m2 fdivI (mVar 1) (mVar 2)) (mNil)))))
noncomputable def g_ratio : MF := finM false 3 m_ratio
theorem d_ratio (T : Tx K mg) : DefOk P w K mg base 1 "ratio" ["part", "whole"] g_ratio := def_okF false T.F_ratio sc_ratio (fun f cdv A outer s H E hr => ss_cons (s_set 2 sc_ratio.nd (e_callBf cr_gcd v_gcd (by rfl) T.b_gcd (a_cons (e_var 0) (a_cons (e_var 1) (a_nil)))))
    (ss_one (s_ret (e_tup (a_cons (e_fdiv (e_var 0) (e_var 2)) (a_cons (e_fdiv (e_var 1) (e_var 2)) (a_nil)))))))
noncomputable def m_half_of : MS := mRet (m2 fdivI (m2 addI (mVar 0) (mC (.int 1))) (mC (.int 2)))
noncomputable def g_half_of : MF := finM false 1 m_half_of
theorem d_half_of (T : Tx K mg) : DefOk P w K mg base 1 "half_of" ["cells"] g_half_of := def_okF false T.F_half_of sc_half_of (fun f cdv A outer s H E hr => ss_one (s_ret (e_fdiv (e_add (e_var 0) (e_int)) (e_int))))
noncomputable def m_law_take : MS := mSeq (mIfS (mB (m2 (cmpI fun i j => decide (j < i)) (m2 itemI (mVar 0) (mC (.int 0))) (mC (.int 0)))) (mSeq (mSet 2 (m2 modI (mCall (pv1 intI) (mCons (m2 itemI (mVar 0) (mC (.int 0))) (mNil))) (mVar 1))) (mSeq (mPut (mVar 0) (mC (.int 0)) (m2 fdivI (m2 itemI (mVar 0) (mC (.int 0))) (mVar 1))) (mRet (mVar 2)))) (mPass)) (mSeq (mPut (mVar 0) (mC (.int 1)) (m2 modI (mCall (pv1 intI) (mCons (m2 addI (m2 mulI (m2 itemI (mVar 0) (mC (.int 1))) (mC (.int 39373))) (mC (.int 69621))) (mNil))) (mC (.int 2147483647)))) (mRet (m2 modI (mCall (pv1 intI) (mCons (m2 fdivI (m2 itemI (mVar 0) (mC (.int 1))) (mC (.int 8191))) (mNil))) (mVar 1))))
noncomputable def g_law_take : MF := finM false 3 m_law_take
theorem d_law_take (T : Tx K mg) : DefOk P w K mg base 1 "_law_take" ["box", "many"] g_law_take := def_okF false T.F_law_take sc_law_take (fun f cdv A outer s H E hr => ss_cons (s_if (t_cmp (c_gt) (e_ix (e_var 0) (e_int)) (e_int)) (ss_cons (s_set 2 sc_law_take.nd (e_mod (e_callTy call_int1 v_int (by rfl) T.b_int (by decide +kernel) (a_cons (e_ix (e_var 0) (e_int)) (a_nil))) (e_var 1)))
    (ss_cons (s_put (e_var 0) (e_int) (e_fdiv (e_ix (e_var 0) (e_int)) (e_var 1)))
    (ss_one (s_ret (e_var 2))))) (ss_nil))
    (ss_cons (s_put (e_var 0) (e_int) (e_mod (e_callTy call_int1 v_int (by rfl) T.b_int (by decide +kernel) (a_cons (e_add (e_mul (e_ix (e_var 0) (e_int)) (e_int)) (e_int)) (a_nil))) (e_int)))
    (ss_one (s_ret (e_mod (e_callTy call_int1 v_int (by rfl) T.b_int (by decide +kernel) (a_cons (e_fdiv (e_ix (e_var 0) (e_int)) (e_int)) (a_nil))) (e_var 1))))))
noncomputable def m_law_whole : MS := mRet (mAndV (mIsi .int (mVar 0)) (mNotV (mIsi .bool (mVar 0))))
noncomputable def g_law_whole : MF := finM false 1 m_law_whole
theorem d_law_whole (T : Tx K mg) : DefOk P w K mg base 1 "_law_whole" ["value"] g_law_whole := def_okF false T.F_law_whole sc_law_whole (fun f cdv A outer s H E hr => ss_one (s_ret (e_and (e_isi .int T.b_isinstance (by rfl) (by rfl) (by rfl) T.b_int (by decide +kernel) (e_var 0)) (e_and1 (e_notV (e_isi .bool T.b_isinstance (by rfl) (by rfl) (by rfl) T.b_bool (by decide +kernel) (e_var 0)))))))
noncomputable def m_law_choose : MS := mSeq (mSet 2 (mC (.int 1))) (mSeq (mFor (mRng1 (mCons (mVar 1) (mNil))) (gSet 3) (mSet 2 (m2 fdivI (m2 mulI (mVar 2) (m2 subI (mVar 0) (mVar 3))) (m2 addI (mVar 3) (mC (.int 1)))))) (mRet (mVar 2)))
noncomputable def g_law_choose : MF := finM false 4 m_law_choose
theorem d_law_choose (T : Tx K mg) : DefOk P w K mg base 1 "_law_choose" ["k", "r"] g_law_choose := def_okF false T.F_law_choose sc_law_choose (fun f cdv A outer s H E hr => ss_cons (s_set 2 sc_law_choose.nd (e_int))
    (ss_cons (s_for po_def rfl (i_rng1 (by rfl) T.b_range (a_cons (e_var 1) (a_nil))) (g_name 3 sc_law_choose.nd) (ss_one (s_set 2 sc_law_choose.nd (e_fdiv (e_mul (e_var 2) (e_sub (e_var 0) (e_var 3))) (e_add (e_var 3) (e_int))))))
    (ss_one (s_ret (e_var 2)))))
noncomputable def m_law_all_sets : MS := mSeq (mSet 1 (mLst false (mCons (mTup (mNil)) (mNil)))) (mSeq (mFor (mRng1 (mCons (mVar 0) (mNil))) (gSet 2) (mSet 1 (mCat false (mVar 1) (mLc false (mSrc (mVar 1)) [3] (gSet 3) (mTB true) (m2 addI (mVar 3) (mTup (mCons (mVar 2) (mNil)))))))) (mRet (mCall (sortTM false) (mCons (mVar 1) (mNil)))))
noncomputable def g_law_all_sets : MF := finM false 4 m_law_all_sets
theorem d_law_all_sets (T : Tx K mg) : DefOk P w K mg base 1 "_law_all_sets" ["many"] g_law_all_sets := def_okF false T.F_law_all_sets sc_law_all_sets (fun f cdv A outer s H E hr => ss_cons (s_set 1 sc_law_all_sets.nd (e_lst false (a_cons (e_tup (a_nil)) (a_nil))))
    (ss_cons (s_for po_def rfl (i_rng1 (by rfl) T.b_range (a_cons (e_var 0) (a_nil))) (g_name 2 sc_law_all_sets.nd) (ss_one (s_set 1 sc_law_all_sets.nd (e_cat false (e_var 1) (e_lc false [("row", 3)] (ct_name 3) rfl sc_law_all_sets.nd (i_seq (e_var 1)) (blkOk_by (by kernel_rfl)) (fun _ _ _ _ _ => (pg_name (i := 3) sc_law_all_sets.nd rfl (by first | exact Or.inl rfl | exact Or.inr rfl))) (fun _ _ _ _ _ => ts_nil) (fun _ _ _ _ _ => e_add (e_var 3) (e_tup (a_cons (e_var 2) (a_nil)))))))))
    (ss_one (s_ret (e_callB (cr_sortE (hu65 hr)) (v_sortT false) (by rfl) T.b_sorted (by decide +kernel) (a_cons (e_var 1) (a_nil)))))))
noncomputable def m_is_integer_within : MS := mRet (mAndV (mCallD 1 g_is_integer (mCons (mVar 0) (mNil))) (mChain (cmpI fun i j => decide (i ≤ j)) (cmpI fun i j => decide (i ≤ j)) (mVar 1) (mVar 0) (mVar 2)))
noncomputable def g_is_integer_within : MF := finM false 3 m_is_integer_within
theorem d_is_integer_within (T : Tx K mg) : DefOk P w K mg base 2 "is_integer_within" ["value", "low", "high"] g_is_integer_within := def_okF false T.F_is_integer_within sc_is_integer_within (fun f cdv A outer s H E hr => ss_one (s_ret (e_and (e_call (d_is_integer T) (hr.mono (by decide)) (by rfl) tk_def (a_cons (e_var 0) (a_nil))) (e_and1 (e_chain (c_le) (c_le) (e_var 1) (e_var 0) (e_var 2))))))
noncomputable def m_is_ascending : MS := mSeq (mIfS (mNot (mT (mIsi .tup (mVar 0)))) (mRet (mC (.bl false))) (mPass)) (mSeq (mSet 2 (mC (.int 0))) (mSeq (mFor (mSrc (mVar 0)) (gSet 3) (mSeq (mIfS (mNot (mT (mCallD 3 g_is_integer_within (mCons (mVar 3) (mCons (mVar 2) (mCons (m2 subI (mVar 1) (mC (.int 1))) (mNil))))))) (mRet (mC (.bl false))) (mPass)) (mSet 2 (m2 addI (mVar 3) (mC (.int 1)))))) (mRet (mC (.bl true)))))
noncomputable def g_is_ascending : MF := finM false 4 m_is_ascending
theorem d_is_ascending (T : Tx K mg) : DefOk P w K mg base 3 "is_ascending" ["value", "below"] g_is_ascending := def_okF false T.F_is_ascending sc_is_ascending (fun f cdv A outer s H E hr => ss_cons (s_if (t_not (t_val (e_isi .tup T.b_isinstance (by rfl) (by rfl) (by rfl) T.b_tuple (by decide +kernel) (e_var 0)))) (ss_one (s_ret (e_bl))) (ss_nil))
    (ss_cons (s_set 2 sc_is_ascending.nd (e_int))
    (ss_cons (s_for po_def rfl (i_seq (e_var 0)) (g_name 3 sc_is_ascending.nd) (ss_cons (s_if (t_not (t_val (e_call (d_is_integer_within T) (hr.mono (by decide)) (by rfl) tk_def (a_cons (e_var 3) (a_cons (e_var 2) (a_cons (e_sub (e_var 1) (e_int)) (a_nil))))))) (ss_one (s_ret (e_bl))) (ss_nil))
    (ss_one (s_set 2 sc_is_ascending.nd (e_add (e_var 3) (e_int))))))
    (ss_one (s_ret (e_bl))))))
noncomputable def m_most_free : MS := mSeq (mIfS (mNot (mT (mCallD 3 g_is_integer_within (mCons (mVar 0) (mCons (mC (.int 1)) (mCons (mC (.int 8)) (mNil))))))) (mRaise "InvalidNumber" "value" (mVar 0)) (mPass)) (mRet (mCall combM (mCons (mVar 0) (mCons (mCallD 1 g_half_of (mCons (mVar 0) (mNil))) (mNil)))))
noncomputable def g_most_free : MF := finM false 1 m_most_free
theorem d_most_free (T : Tx K mg) : DefOk P w K mg base 3 "most_free" ["cells"] g_most_free := def_okF false T.F_most_free sc_most_free (fun f cdv A outer s H E hr => ss_cons (s_if (t_not (t_val (e_call (d_is_integer_within T) (hr.mono (by decide)) (by rfl) tk_def (a_cons (e_var 0) (a_cons (e_int) (a_cons (e_gI T.c_MOST_CELLS) (a_nil))))))) (ss_one (s_raise (x_InvalidNumber T) (by rfl) (hr.mono (by decide)) (by rfl) tk_def (e_var 0))) (ss_nil))
    (ss_one (s_ret (e_callBf cr_comb v_comb (by rfl) T.b_comb (a_cons (e_var 0) (a_cons (e_call (d_half_of T) (hr.mono (by decide)) (by rfl) tk_def (a_cons (e_var 0) (a_nil))) (a_nil)))))))
noncomputable def m_law_box : MS := mSeq (mSet 2 (m2 addI (m2 mulI (mC (.int 7919)) (mVar 1)) (mC (.int 101)))) (mSeq (mIfS (mB (m2 (cmpI fun i j => decide (i < j)) (mVar 1) (mCall (pv1 lenI) (mCons (mVar 0) (mNil))))) (mSet 2 (mCall (pv1 absI) (mCons (m2 itemI (mVar 0) (mVar 1)) (mNil)))) (mIfS (mB (m2 (cmpI fun i j => decide (j < i)) (mCall (pv1 lenI) (mCons (mVar 0) (mNil))) (mC (.int 0)))) (mSet 2 (m2 addI (m2 mulI (m2 modI (mCall (pv1 intI) (mCons (mCall (pv1 absI) (mCons (m2 itemI (mVar 0) (m2 modI (mCall (pv1 intI) (mCons (mVar 1) (mNil))) (mCall (pv1 lenI) (mCons (mVar 0) (mNil))))) (mNil))) (mNil))) (mC (.int 1000000007))) (mC (.int 31))) (m2 mulI (mC (.int 7919)) (mVar 1)))) (mPass))) (mSeq (mSet 3 (m2 itemI (mLst false (mCons (mC (.int 0)) (mCons (mVar 2) (mNil)))) (mCall (pv1 intI) (mCons (m2 (cmpI fun i j => decide (j ≤ i)) (mVar 2) (m2 powI (mC (.int 10)) (mC (.int 18)))) (mNil))))) (mRet (mLst true (mCons (mVar 3) (mCons (m2 addI (m2 modI (mCall (pv1 intI) (mCons (m2 addI (m2 mulI (m2 modI (mCall (pv1 intI) (mCons (mVar 2) (mNil))) (mC (.int 1000000007))) (mC (.int 48271))) (m2 mulI (mC (.int 613)) (mVar 1))) (mNil))) (mC (.int 2147483647))) (mC (.int 1))) (mNil)))))))
noncomputable def g_law_box : MF := finM true 4 m_law_box
theorem d_law_box (T : Tx K mg) : DefOk P w K mg base 3 "_law_box" ["script", "k"] g_law_box := def_okF true T.F_law_box sc_law_box (fun f cdv A outer s H E hr => ss_cons (s_set 2 sc_law_box.nd (e_add (e_mul (e_int) (e_var 1)) (e_int)))
    (ss_cons (s_if (t_cmp (c_lt) (e_var 1) (e_callB call_len v_len (by rfl) T.b_len (by decide +kernel) (a_cons (e_var 0) (a_nil)))) (ss_one (s_set 2 sc_law_box.nd (e_callB call_abs v_abs (by rfl) T.b_abs (by decide +kernel) (a_cons (e_ix (e_var 0) (e_var 1)) (a_nil))))) (ss_one (s_if (t_cmp (c_gt) (e_callB call_len v_len (by rfl) T.b_len (by decide +kernel) (a_cons (e_var 0) (a_nil))) (e_int)) (ss_one (s_set 2 sc_law_box.nd (e_add (e_mul (e_mod (e_callTy call_int1 v_int (by rfl) T.b_int (by decide +kernel) (a_cons (e_callB call_abs v_abs (by rfl) T.b_abs (by decide +kernel) (a_cons (e_ix (e_var 0) (e_mod (e_callTy call_int1 v_int (by rfl) T.b_int (by decide +kernel) (a_cons (e_var 1) (a_nil))) (e_callB call_len v_len (by rfl) T.b_len (by decide +kernel) (a_cons (e_var 0) (a_nil))))) (a_nil))) (a_nil))) (e_int)) (e_int)) (e_mul (e_int) (e_var 1))))) (ss_nil))))
    (ss_cons (s_set 3 sc_law_box.nd (e_ix (e_lst false (a_cons (e_int) (a_cons (e_var 2) (a_nil)))) (e_callTy call_int1 v_int (by rfl) T.b_int (by decide +kernel) (a_cons (e_cmp (c_ge) (e_var 2) (e_pow (e_int) (e_int))) (a_nil)))))
    (ss_one (s_ret (e_lst true (a_cons (e_var 3) (a_cons (e_add (e_mod (e_callTy call_int1 v_int (by rfl) T.b_int (by decide +kernel) (a_cons (e_add (e_mul (e_mod (e_callTy call_int1 v_int (by rfl) T.b_int (by decide +kernel) (a_cons (e_var 2) (a_nil))) (e_int)) (e_int)) (e_mul (e_int) (e_var 1))) (a_nil))) (e_int)) (e_int)) (a_nil)))))))))
noncomputable def m_law_pick : MS := mRet (m2 itemI (mVar 1) (mCallD 2 g_law_take (mCons (mVar 0) (mCons (mCall (pv1 lenI) (mCons (mVar 1) (mNil))) (mNil)))))
noncomputable def g_law_pick : MF := finM false 2 m_law_pick
theorem d_law_pick (T : Tx K mg) : DefOk P w K mg base 3 "_law_pick" ["box", "some"] g_law_pick := def_okF false T.F_law_pick sc_law_pick (fun f cdv A outer s H E hr => ss_one (s_ret (e_ix (e_var 1) (e_call (d_law_take T) (hr.mono (by decide)) (by rfl) tk_def (a_cons (e_var 0) (a_cons (e_callB call_len v_len (by rfl) T.b_len (by decide +kernel) (a_cons (e_var 1) (a_nil))) (a_nil)))))))
noncomputable def m_law_is_numbers : MS := mSeq (mIfS (mNot (mT (mIsi .tup (mVar 0)))) (mRet (mC (.bl false))) (mPass)) (mRet (m2 (eqI) (mLc false (mSrc (mVar 0)) [2] (gSet 2) (mIte (mNot (mT (mCallD 1 g_law_whole (mCons (mVar 2) (mNil))))) (mTB true) (mIte (mB (m2 (cmpI fun i j => decide (i < j)) (mVar 2) (mC (.int 0)))) (mTB true) (mB (m2 (cmpI fun i j => decide (j ≤ i)) (mVar 2) (mVar 1))))) (mVar 2)) (mLst false (mNil))))
noncomputable def g_law_is_numbers : MF := finM false 3 m_law_is_numbers
theorem d_law_is_numbers (T : Tx K mg) : DefOk P w K mg base 3 "_law_is_numbers" ["value", "many"] g_law_is_numbers := def_okF false T.F_law_is_numbers sc_law_is_numbers (fun f cdv A outer s H E hr => ss_cons (s_if (t_not (t_val (e_isi .tup T.b_isinstance (by rfl) (by rfl) (by rfl) T.b_tuple (by decide +kernel) (e_var 0)))) (ss_one (s_ret (e_bl))) (ss_nil))
    (ss_one (s_ret (e_cmp (c_eq hr.units) (e_lc false [("one", 2)] (ct_name 2) rfl sc_law_is_numbers.nd (i_seq (e_var 0)) (blkOk_by (by kernel_rfl)) (fun _ _ _ _ _ => (pg_name (i := 2) sc_law_is_numbers.nd rfl (by first | exact Or.inl rfl | exact Or.inr rfl))) (fun _ _ _ _ _ => ts_one (t_w (w_or (t_not (t_val (e_call (d_law_whole T) (hr.mono (by decide)) (by rfl) takes0 (a_cons (e_var 2) (a_nil))))) (w_or (t_cmp (c_lt) (e_var 2) (e_int)) (w_or1 (t_cmp (c_ge) (e_var 2) (e_var 1))))))) (fun _ _ _ _ _ => e_var 2)) (e_lst false (a_nil))))))
noncomputable def m_law_shuffled : MS := mSeq (mSet 2 (mLst true (mNil))) (mSeq (mFor (mSrc (mVar 1)) (gSet 3) (mExpr (mMt insM (mVar 2) (mCons (mCallD 2 g_law_take (mCons (mVar 0) (mCons (m2 addI (mCall (pv1 lenI) (mCons (mVar 2) (mNil))) (mC (.int 1))) (mNil)))) (mCons (mVar 3) (mNil)))))) (mRet (mVar 2)))
noncomputable def g_law_shuffled : MF := finM false 4 m_law_shuffled
theorem d_law_shuffled (T : Tx K mg) : DefOk P w K mg base 3 "_law_shuffled" ["box", "some"] g_law_shuffled := def_okF false T.F_law_shuffled sc_law_shuffled (fun f cdv A outer s H E hr => ss_cons (s_set 2 sc_law_shuffled.nd (e_lst true (a_nil)))
    (ss_cons (s_for po_def rfl (i_seq (e_var 1)) (g_name 3 sc_law_shuffled.nd) (ss_one (s_expr (e_insert (e_var 2) (a_cons (e_call (d_law_take T) (hr.mono (by decide)) (by rfl) tk_def (a_cons (e_var 0) (a_cons (e_add (e_callB call_len v_len (by rfl) T.b_len (by decide +kernel) (a_cons (e_var 2) (a_nil))) (e_int)) (a_nil)))) (a_cons (e_var 3) (a_nil)))))))
    (ss_one (s_ret (e_var 2)))))
noncomputable def m_law_gcd : MS := mSeq (mFor (mRng1 (mCons (mC (.int 9999)) (mNil))) (gSet 2) (mSeq (mIfS (mB (m2 (eqI) (mVar 1) (mC (.int 0)))) (mRet (mVar 0)) (mPass)) (mPar [0, 1] (mCons (mVar 1) (mCons (m2 modI (mCall (pv1 intI) (mCons (mVar 0) (mNil))) (mVar 1)) (mNil)))))) (mRet (mC (.int 1)))
noncomputable def g_law_gcd : MF := finM false 3 m_law_gcd
theorem d_law_gcd (T : Tx K mg) : DefOk P w K mg base 3 "_law_gcd" ["a", "b"] g_law_gcd := def_okF false T.F_law_gcd sc_law_gcd (fun f cdv A outer s H E hr => ss_cons (s_for po_def rfl (i_rng1 (by rfl) T.b_range (a_cons (e_int) (a_nil))) (g_name 2 sc_law_gcd.nd) (ss_cons (s_if (t_cmp (c_eq hr.units) (e_var 1) (e_int)) (ss_one (s_ret (e_var 0))) (ss_nil))
    (ss_one (s_par2 0 1 rfl sc_law_gcd.nd (a_cons (e_var 1) (a_cons (e_mod (e_callTy call_int1 v_int (by rfl) T.b_int (by decide +kernel) (a_cons (e_var 0) (a_nil))) (e_var 1)) (a_nil)))))))
    (ss_one (s_ret (e_int))))
noncomputable def m_law_ascends : MS := mRet (m2 (eqI) (mLc false (mRng2 (mCons (mC (.int 1)) (mCons (mCall (pv1 lenI) (mCons (mVar 0) (mNil))) (mNil)))) [1] (gSet 1) (mB (m2 (cmpI fun i j => decide (j ≤ i)) (m2 itemI (mVar 0) (m2 subI (mVar 1) (mC (.int 1)))) (m2 itemI (mVar 0) (mVar 1)))) (mVar 1)) (mLst false (mNil)))
noncomputable def g_law_ascends : MF := finM false 2 m_law_ascends
theorem d_law_ascends (T : Tx K mg) : DefOk P w K mg base 3 "_law_ascends" ["value"] g_law_ascends := def_okF false T.F_law_ascends sc_law_ascends (fun f cdv A outer s H E hr => ss_one (s_ret (e_cmp (c_eq hr.units) (e_lc false [("k", 1)] (ct_name 1) rfl sc_law_ascends.nd (i_rng2 (by rfl) T.b_range (a_cons (e_int) (a_cons (e_callB call_len v_len (by rfl) T.b_len (by decide +kernel) (a_cons (e_var 0) (a_nil))) (a_nil)))) (blkOk_by (by kernel_rfl)) (fun _ _ _ _ _ => (pg_name (i := 1) sc_law_ascends.nd rfl (by first | exact Or.inl rfl | exact Or.inr rfl))) (fun _ _ _ _ _ => ts_one (t_cmp (c_ge) (e_ix (e_var 0) (e_sub (e_var 1) (e_int))) (e_ix (e_var 0) (e_var 1)))) (fun _ _ _ _ _ => e_var 1)) (e_lst false (a_nil)))))
noncomputable def m_law_sets : MS := mSeq (mSet 2 (mLst false (mCons (mTup (mNil)) (mNil)))) (mSeq (mFor (mRng1 (mCons (mVar 0) (mNil))) (gSet 3) (mSet 2 (mCat false (mVar 2) (mLc false (mSrc (mVar 2)) [4] (gSet 4) (mB (m2 (cmpI fun i j => decide (i < j)) (mCall (pv1 lenI) (mCons (mVar 4) (mNil))) (mVar 1))) (m2 addI (mVar 4) (mTup (mCons (mVar 3) (mNil)))))))) (mRet (mCall (sortTM false) (mCons (mLc false (mSrc (mVar 2)) [4] (gSet 4) (mB (m2 (eqI) (mCall (pv1 lenI) (mCons (mVar 4) (mNil))) (mVar 1))) (mVar 4)) (mNil)))))
noncomputable def g_law_sets : MF := finM false 5 m_law_sets
theorem d_law_sets (T : Tx K mg) : DefOk P w K mg base 3 "_law_sets" ["many", "size"] g_law_sets := def_okF false T.F_law_sets sc_law_sets (fun f cdv A outer s H E hr => ss_cons (s_set 2 sc_law_sets.nd (e_lst false (a_cons (e_tup (a_nil)) (a_nil))))
    (ss_cons (s_for po_def rfl (i_rng1 (by rfl) T.b_range (a_cons (e_var 0) (a_nil))) (g_name 3 sc_law_sets.nd) (ss_one (s_set 2 sc_law_sets.nd (e_cat false (e_var 2) (e_lc false [("row", 4)] (ct_name 4) rfl sc_law_sets.nd (i_seq (e_var 2)) (blkOk_by (by kernel_rfl)) (fun _ _ _ _ _ => (pg_name (i := 4) sc_law_sets.nd rfl (by first | exact Or.inl rfl | exact Or.inr rfl))) (fun _ _ _ _ _ => ts_one (t_cmp (c_lt) (e_callB call_len v_len (by rfl) T.b_len (by decide +kernel) (a_cons (e_var 4) (a_nil))) (e_var 1))) (fun _ _ _ _ _ => e_add (e_var 4) (e_tup (a_cons (e_var 3) (a_nil)))))))))
    (ss_one (s_ret (e_callB (cr_sortE (hu65 hr)) (v_sortT false) (by rfl) T.b_sorted (by decide +kernel) (a_cons (e_lc false [("row", 4)] (ct_name 4) rfl sc_law_sets.nd (i_seq (e_var 2)) (blkOk_by (by kernel_rfl)) (fun _ _ _ _ _ => (pg_name (i := 4) sc_law_sets.nd rfl (by first | exact Or.inl rfl | exact Or.inr rfl))) (fun _ _ _ _ _ => ts_one (t_cmp (c_eq hr.units) (e_callB call_len v_len (by rfl) T.b_len (by decide +kernel) (a_cons (e_var 4) (a_nil))) (e_var 1))) (fun _ _ _ _ _ => e_var 4)) (a_nil)))))))
noncomputable def m_is_mark : MS := mRet (mAndV (mCallD 2 g_is_ascending (mCons (mVar 1) (mCons (mVar 0) (mNil)))) (m2 (cmpI fun i j => decide (j < i)) (mCall (pv1 lenI) (mCons (mVar 1) (mNil))) (mC (.int 0))))
noncomputable def g_is_mark : MF := finM false 2 m_is_mark
theorem d_is_mark (T : Tx K mg) : DefOk P w K mg base 4 "is_mark" ["cells", "value"] g_is_mark := def_okF false T.F_is_mark sc_is_mark (fun f cdv A outer s H E hr => ss_one (s_ret (e_and (e_call (d_is_ascending T) (hr.mono (by decide)) (by rfl) tk_def (a_cons (e_var 1) (a_cons (e_var 0) (a_nil)))) (e_and1 (e_cmp (c_gt) (e_callB call_len v_len (by rfl) T.b_len (by decide +kernel) (a_cons (e_var 1) (a_nil))) (e_int))))))
noncomputable def m_are_keys : MS := mRet (mCallD 2 g_is_ascending (mCons (mVar 1) (mCons (mCall (lenOM "Marking" g_Marking_len) (mCons (mVar 0) (mNil))) (mNil))))
noncomputable def g_are_keys : MF := finM false 2 m_are_keys
theorem d_are_keys (T : Tx K mg) : DefOk P w K mg base 4 "are_keys" ["marking", "value"] g_are_keys := def_okF false T.F_are_keys sc_are_keys (fun f cdv A outer s H E hr => ss_one (s_ret (e_call (d_is_ascending T) (hr.mono (by decide)) (by rfl) tk_def (a_cons (e_var 1) (a_cons (e_lenO (d_Marking_len T) rfl (hr.mono (by decide)) (by rfl) T.b_len (a_cons (e_var 0) (a_nil))) (a_nil))))))
noncomputable def m_are_bits : MS := mRet (mCallD 2 g_is_ascending (mCons (mVar 1) (mCons (mFld "Marking" "cells" (mVar 0)) (mNil))))
noncomputable def g_are_bits : MF := finM false 2 m_are_bits
theorem d_are_bits (T : Tx K mg) : DefOk P w K mg base 4 "are_bits" ["marking", "value"] g_are_bits := def_okF false T.F_are_bits sc_are_bits (fun f cdv A outer s H E hr => ss_one (s_ret (e_call (d_is_ascending T) (hr.mono (by decide)) (by rfl) tk_def (a_cons (e_var 1) (a_cons (e_fld "Marking" (e_var 0) (T.f_Marking_cells)) (a_nil))))))
noncomputable def m_free_marks : MS := mSeq (mIfS (mNot (mT (mCallD 3 g_is_integer_within (mCons (mVar 1) (mCons (mC (.int 1)) (mCons (mCallD 1 g_most_free (mCons (mVar 0) (mNil))) (mNil))))))) (mRaise "InvalidNumber" "value" (mVar 1)) (mPass)) (mRet (mCall (pv1 tupleI) (mCons (mSl false (mCallD 2 g_chosen (mCons (mVar 0) (mCons (mCallD 1 g_half_of (mCons (mVar 0) (mNil))) (mNil)))) (mNoPart) (mPart (mVar 1))) (mNil))))
noncomputable def g_free_marks : MF := finM false 2 m_free_marks
theorem d_free_marks (T : Tx K mg) : DefOk P w K mg base 4 "free_marks" ["cells", "many"] g_free_marks := def_okF false T.F_free_marks sc_free_marks (fun f cdv A outer s H E hr => ss_cons (s_if (t_not (t_val (e_call (d_is_integer_within T) (hr.mono (by decide)) (by rfl) tk_def (a_cons (e_var 1) (a_cons (e_int) (a_cons (e_call (d_most_free T) (hr.mono (by decide)) (by rfl) tk_def (a_cons (e_var 0) (a_nil))) (a_nil))))))) (ss_one (s_raise (x_InvalidNumber T) (by rfl) (hr.mono (by decide)) (by rfl) tk_def (e_var 1))) (ss_nil))
    (ss_one (s_ret (e_callTy call_tuple_of v_tuple (by rfl) T.b_tuple (by decide +kernel) (a_cons (e_sl false (e_call (d_chosen T) (hr.mono (by decide)) (by rfl) tk_def (a_cons (e_var 0) (a_cons (e_call (d_half_of T) (hr.mono (by decide)) (by rfl) tk_def (a_cons (e_var 0) (a_nil))) (a_nil)))) (o_none) (o_some (e_var 1))) (a_nil))))))
noncomputable def m_law_spoilt_k0 (g : MF) : MS := mSeq (mSet 4 (mCallD 2 g_law_take (mCons (mVar 0) (mCons (mC (.int 8)) (mNil))))) (mSeq (mIfS (mB (m2 (eqI) (mVar 4) (mC (.int 0)))) (mRet (mCall (listM false) (mCons (mVar 1) (mNil)))) (mPass)) (mSeq (mIfS (mB (m2 (eqI) (mVar 4) (mC (.int 1)))) (mRet (m2 addI (mSl false (mVar 1) (mNoPart) (mPart (mVar 3))) (mSl false (mVar 1) (mPart (m2 addI (mVar 3) (mC (.int 1)))) (mNoPart)))) (mPass)) (mSeq (mIfS (mB (m2 (eqI) (mVar 4) (mC (.int 2)))) (mRet (m2 addI (m2 addI (mSl false (mVar 1) (mNoPart) (mPart (mVar 3))) (mSl false (mVar 1) (mPart (mVar 3)) (mPart (m2 addI (mVar 3) (mC (.int 1)))))) (mSl false (mVar 1) (mPart (mVar 3)) (mNoPart)))) (mPass)) (mSeq (mIfS (mB (m2 (eqI) (mVar 4) (mC (.int 3)))) (mRet (m2 addI (mSl false (mVar 1) (mPart (mVar 3)) (mNoPart)) (mSl false (mVar 1) (mNoPart) (mPart (mVar 3))))) (mPass)) (mSeq (mIfS (mB (m2 (eqI) (mVar 4) (mC (.int 4)))) (mRet (m2 addI (mVar 1) (mTup (mCons (mTup (mNil)) (mNil))))) (mPass)) (mSeq (mIfS (mB (m2 (eqI) (mVar 4) (mC (.int 5)))) (mRet (m2 addI (m2 addI (mSl false (mVar 1) (mNoPart) (mPart (mVar 3))) (mTup (mCons (mC (.int 0)) (mNil)))) (mSl false (mVar 1) (mPart (mVar 3)) (mNoPart)))) (mPass)) (mSeq (mIfS (mB (m2 (eqI) (mVar 4) (mC (.int 6)))) (mRet (m2 addI (mSl false (mVar 1) (mNoPart) (mPart (m1 negI (mC (.int 1))))) (mSl false (mVar 1) (mNoPart) (mPart (mC (.int 1)))))) (mPass)) (mRet (mC .non)))))))))
noncomputable def m_law_spoilt (g : MF) : MS := mSeq (mIfS (mT (mIsi .tup (mVar 1))) (mSeq (mSet 3 (mCallD 2 g_law_take (mCons (mVar 0) (mCons (m2 addI (mCall (pv1 lenI) (mCons (mVar 1) (mNil))) (mC (.int 1))) (mNil))))) (mSeq (mIfS (mIte (mB (m2 (neI) (mVar 1) (mTup (mNil)))) (mIte (mB (m2 (cmpI fun i j => decide (j < i)) (mVar 2) (mC (.int 0)))) (mB (m2 (cmpI fun i j => decide (j < i)) (mCallD 2 g_law_take (mCons (mVar 0) (mCons (mC (.int 5)) (mNil)))) (mC (.int 0)))) (mTB false)) (mTB false)) (mSeq (mSet 3 (m2 modI (mCall (pv1 intI) (mCons (mVar 3) (mNil))) (mCall (pv1 lenI) (mCons (mVar 1) (mNil))))) (mRet (m2 addI (m2 addI (mSl false (mVar 1) (mNoPart) (mPart (mVar 3))) (mTup (mCons (mCallD 3 g (mCons (mVar 0) (mCons (m2 itemI (mVar 1) (mVar 3)) (mCons (m2 subI (mVar 2) (mC (.int 1))) (mNil))))) (mNil)))) (mSl false (mVar 1) (mPart (m2 addI (mVar 3) (mC (.int 1)))) (mNoPart))))) (mPass)) (m_law_spoilt_k0 g))) (mPass)) (mSeq (mIfS (mT (mIsi .str (mVar 1))) (mRet (mCallD 2 g_law_pick (mCons (mVar 0) (mCons (mLst false (mCons (m2 addI (mVar 1) (mC (.str "b"))) (mCons (mC (.str "")) (mCons (mSl false (mVar 1) (mPart (mC (.int 1))) (mNoPart)) (mCons (m2 addI (mC (.str "a")) (mVar 1)) (mCons (mC (.int 0)) (mNil))))))) (mNil))))) (mPass)) (mSeq (mIfS (mT (mCallD 1 g_law_whole (mCons (mVar 1) (mNil)))) (mRet (mCallD 2 g_law_pick (mCons (mVar 0) (mCons (mLst false (mCons (m2 addI (mVar 1) (mC (.int 1))) (mCons (m2 subI (mVar 1) (mC (.int 1))) (mCons (m2 (cmpI fun i j => decide (j < i)) (mVar 1) (mC (.int 0))) (mCons (m2 subI (m1 negI (mC (.int 1))) (mVar 1)) (mCons (mTup (mCons (mVar 1) (mNil))) (mCons (mC .non) (mCons (mCall (pv1 strI) (mCons (mVar 1) (mNil))) (mCons (m2 addI (mVar 1) (mC (.int 16))) (mNil)))))))))) (mNil))))) (mPass)) (mRet (mCallD 2 g_law_pick (mCons (mVar 0) (mCons (mLst false (mCons (mC (.int 0)) (mCons (mTup (mNil)) (mCons (mC (.str "none")) (mNil))))) (mNil)))))))
noncomputable def g_law_spoilt : Nat → MF
  | 0 => fun _ _ => none
  | n + 1 => finM false 5 (m_law_spoilt (g_law_spoilt n))
theorem d_law_spoilt (T : Tx K mg) : ∀ n, DefOk P w K mg base (4 + n) "_law_spoilt" ["box", "value", "deep"] (g_law_spoilt n)
  | 0 => def_zero T.F_law_spoilt
  | n + 1 => by
    have D : DefOk P w K mg base (4 + n) "_law_spoilt" ["box", "value", "deep"] (g_law_spoilt n) := d_law_spoilt T n
    exact def_okF (k := 4 + n) false T.F_law_spoilt sc_law_spoilt (fun f cdv A outer s H E hr => ss_cons (s_if (t_val (e_isi .tup T.b_isinstance (by rfl) (by rfl) (by rfl) T.b_tuple (by decide +kernel) (e_var 1))) (ss_cons (s_set 3 sc_law_spoilt.nd (e_call (d_law_take T) (hr.mono (by omega)) (by rfl) tk_def (a_cons (e_var 0) (a_cons (e_add (e_callB call_len v_len (by rfl) T.b_len (by decide +kernel) (a_cons (e_var 1) (a_nil))) (e_int)) (a_nil)))))
    (ss_cons (s_if (t_w (w_and (t_cmp (c_ne hr.units) (e_var 1) (e_tup (a_nil))) (w_and (t_cmp (c_gt) (e_var 2) (e_int)) (w_and1 (t_cmp (c_gt) (e_call (d_law_take T) (hr.mono (by omega)) (by rfl) tk_def (a_cons (e_var 0) (a_cons (e_int) (a_nil)))) (e_int)))))) (ss_cons (s_set 3 sc_law_spoilt.nd (e_mod (e_callTy call_int1 v_int (by rfl) T.b_int (by decide +kernel) (a_cons (e_var 3) (a_nil))) (e_callB call_len v_len (by rfl) T.b_len (by decide +kernel) (a_cons (e_var 1) (a_nil)))))
    (ss_one (s_ret (e_add (e_add (e_sl false (e_var 1) (o_none) (o_some (e_var 3))) (e_tup (a_cons (e_call D hr (by rfl) tk_def (a_cons (e_var 0) (a_cons (e_ix (e_var 1) (e_var 3)) (a_cons (e_sub (e_var 2) (e_int)) (a_nil))))) (a_nil)))) (e_sl false (e_var 1) (o_some (e_add (e_var 3) (e_int))) (o_none)))))) (ss_nil))
    (ss_cons (s_set 4 sc_law_spoilt.nd (e_call (d_law_take T) (hr.mono (by omega)) (by rfl) tk_def (a_cons (e_var 0) (a_cons (e_int) (a_nil)))))
    (ss_cons (s_if (t_cmp (c_eq hr.units) (e_var 4) (e_int)) (ss_one (s_ret (e_callTy call_list_of (v_list false) (by rfl) T.b_list (by decide +kernel) (a_cons (e_var 1) (a_nil))))) (ss_nil))
    (ss_cons (s_if (t_cmp (c_eq hr.units) (e_var 4) (e_int)) (ss_one (s_ret (e_add (e_sl false (e_var 1) (o_none) (o_some (e_var 3))) (e_sl false (e_var 1) (o_some (e_add (e_var 3) (e_int))) (o_none))))) (ss_nil))
    (ss_cons (s_if (t_cmp (c_eq hr.units) (e_var 4) (e_int)) (ss_one (s_ret (e_add (e_add (e_sl false (e_var 1) (o_none) (o_some (e_var 3))) (e_sl false (e_var 1) (o_some (e_var 3)) (o_some (e_add (e_var 3) (e_int))))) (e_sl false (e_var 1) (o_some (e_var 3)) (o_none))))) (ss_nil))
    (ss_cons (s_if (t_cmp (c_eq hr.units) (e_var 4) (e_int)) (ss_one (s_ret (e_add (e_sl false (e_var 1) (o_some (e_var 3)) (o_none)) (e_sl false (e_var 1) (o_none) (o_some (e_var 3)))))) (ss_nil))
    (ss_cons (s_if (t_cmp (c_eq hr.units) (e_var 4) (e_int)) (ss_one (s_ret (e_add (e_var 1) (e_tup (a_cons (e_tup (a_nil)) (a_nil)))))) (ss_nil))
    (ss_cons (s_if (t_cmp (c_eq hr.units) (e_var 4) (e_int)) (ss_one (s_ret (e_add (e_add (e_sl false (e_var 1) (o_none) (o_some (e_var 3))) (e_tup (a_cons (e_int) (a_nil)))) (e_sl false (e_var 1) (o_some (e_var 3)) (o_none))))) (ss_nil))
    (ss_cons (s_if (t_cmp (c_eq hr.units) (e_var 4) (e_int)) (ss_one (s_ret (e_add (e_sl false (e_var 1) (o_none) (o_some (e_neg (e_int)))) (e_sl false (e_var 1) (o_none) (o_some (e_int)))))) (ss_nil))
    (ss_one (s_ret (e_non))))))))))))) (ss_nil))
    (ss_cons (s_if (t_val (e_isi .str T.b_isinstance (by rfl) (by rfl) (by rfl) T.b_str (by decide +kernel) (e_var 1))) (ss_one (s_ret (e_call (d_law_pick T) (hr.mono (by omega)) (by rfl) tk_def (a_cons (e_var 0) (a_cons (e_lst false (a_cons (e_add (e_var 1) (e_str)) (a_cons (e_str) (a_cons (e_sl false (e_var 1) (o_some (e_int)) (o_none)) (a_cons (e_add (e_str) (e_var 1)) (a_cons (e_int) (a_nil))))))) (a_nil)))))) (ss_nil))
    (ss_cons (s_if (t_val (e_call (d_law_whole T) (hr.mono (by omega)) (by rfl) tk_def (a_cons (e_var 1) (a_nil)))) (ss_one (s_ret (e_call (d_law_pick T) (hr.mono (by omega)) (by rfl) tk_def (a_cons (e_var 0) (a_cons (e_lst false (a_cons (e_add (e_var 1) (e_int)) (a_cons (e_sub (e_var 1) (e_int)) (a_cons (e_cmp (c_gt) (e_var 1) (e_int)) (a_cons (e_sub (e_neg (e_int)) (e_var 1)) (a_cons (e_tup (a_cons (e_var 1) (a_nil))) (a_cons (e_non) (a_cons (e_callTy call_str_int v_str (by rfl) T.b_str (by decide +kernel) (a_cons (e_var 1) (a_nil))) (a_cons (e_add (e_var 1) (e_int)) (a_nil)))))))))) (a_nil)))))) (ss_nil))
    (ss_one (s_ret (e_call (d_law_pick T) (hr.mono (by omega)) (by rfl) tk_def (a_cons (e_var 0) (a_cons (e_lst false (a_cons (e_int) (a_cons (e_tup (a_nil)) (a_cons (e_str) (a_nil))))) (a_nil)))))))))
noncomputable def m_law_ratio : MS := mSeq (mSet 2 (mCallD 2 g_law_gcd (mCons (mCall (pv1 absI) (mCons (mVar 0) (mNil))) (mCons (mVar 1) (mNil))))) (mRet (mTup (mCons (m2 fdivI (mVar 0) (mVar 2)) (mCons (m2 fdivI (mVar 1) (mVar 2)) (mNil)))))
noncomputable def g_law_ratio : MF := finM false 3 m_law_ratio
theorem d_law_ratio (T : Tx K mg) : DefOk P w K mg base 4 "_law_ratio" ["a", "b"] g_law_ratio := def_okF false T.F_law_ratio sc_law_ratio (fun f cdv A outer s H E hr => ss_cons (s_set 2 sc_law_ratio.nd (e_call (d_law_gcd T) (hr.mono (by decide)) (by rfl) tk_def (a_cons (e_callB call_abs v_abs (by rfl) T.b_abs (by decide +kernel) (a_cons (e_var 0) (a_nil))) (a_cons (e_var 1) (a_nil)))))
    (ss_one (s_ret (e_tup (a_cons (e_fdiv (e_var 0) (e_var 2)) (a_cons (e_fdiv (e_var 1) (e_var 2)) (a_nil)))))))
noncomputable def m_law_is_set : MS := mRet (mAndV (mCallD 2 g_law_is_numbers (mCons (mVar 0) (mCons (mVar 1) (mNil)))) (mCallD 1 g_law_ascends (mCons (mVar 0) (mNil))))
noncomputable def g_law_is_set : MF := finM false 2 m_law_is_set
theorem d_law_is_set (T : Tx K mg) : DefOk P w K mg base 4 "_law_is_set" ["value", "many"] g_law_is_set := def_okF false T.F_law_is_set sc_law_is_set (fun f cdv A outer s H E hr => ss_one (s_ret (e_and (e_call (d_law_is_numbers T) (hr.mono (by decide)) (by rfl) tk_def (a_cons (e_var 0) (a_cons (e_var 1) (a_nil)))) (e_and1 (e_call (d_law_ascends T) (hr.mono (by decide)) (by rfl) tk_def (a_cons (e_var 0) (a_nil)))))))
noncomputable def m_are_marks : MS := mSeq (mIfS (mIte (mNot (mT (mIsi .tup (mVar 1)))) (mTB true) (mNot (mB (mChain (cmpI fun i j => decide (i ≤ j)) (cmpI fun i j => decide (i ≤ j)) (mC (.int 1)) (mCall (pv1 lenI) (mCons (mVar 1) (mNil))) (mC (.int 7)))))) (mRet (mC (.bl false))) (mPass)) (mRet (mCall (pv1 allI) (mCons (mLc false (mSrc (mVar 1)) [2] (gSet 2) (mTB true) (mCallD 2 g_is_mark (mCons (mVar 0) (mCons (mVar 2) (mNil))))) (mNil))))
noncomputable def g_are_marks : MF := finM false 3 m_are_marks
theorem d_are_marks (T : Tx K mg) : DefOk P w K mg base 5 "are_marks" ["cells", "value"] g_are_marks := def_okF false T.F_are_marks sc_are_marks (fun f cdv A outer s H E hr => ss_cons (s_if (t_w (w_or (t_not (t_val (e_isi .tup T.b_isinstance (by rfl) (by rfl) (by rfl) T.b_tuple (by decide +kernel) (e_var 1)))) (w_or1 (t_not (t_chain (c_le) (c_le) (e_int) (e_callB call_len v_len (by rfl) T.b_len (by decide +kernel) (a_cons (e_var 1) (a_nil))) (e_gI T.c_MOST_MARKS)))))) (ss_one (s_ret (e_bl))) (ss_nil))
    (ss_one (s_ret (e_callB (cr_all (by rfl)) v_all (by rfl) T.b_all (by decide +kernel) (a_cons (e_lc false [("mark", 2)] (ct_name 2) rfl sc_are_marks.nd (i_seq (e_var 1)) (blkOk_by (by kernel_rfl)) (fun _ _ _ _ _ => (pg_name (i := 2) sc_are_marks.nd rfl (by first | exact Or.inl rfl | exact Or.inr rfl))) (fun _ _ _ _ _ => ts_nil) (fun _ _ _ _ _ => e_call (d_is_mark T) (hr.mono (by decide)) (by rfl) takes0 (a_cons (e_var 0) (a_cons (e_var 2) (a_nil))))) (a_nil))))))
noncomputable def m_filled : MS := mSeq (mIfS (mNot (mT (mCallD 2 g_are_keys (mCons (mVar 0) (mCons (mVar 1) (mNil)))))) (mRaise "InvalidKeys" "value" (mVar 1)) (mPass)) (mRet (mCall (pv1 tupleI) (mCons (mSortSet false (mClause (mSrc (mVar 1)) [2, 3] (gSet 2) (mTB true) (mClause (mSrc (m2 itemI (mFld "Marking" "marks" (mVar 0)) (mVar 2))) [3] (gSet 3) (mTB true) (mInt (mVar 3))))) (mNil))))
noncomputable def g_filled : MF := finM false 4 m_filled
theorem d_filled (T : Tx K mg) : DefOk P w K mg base 5 "filled" ["marking", "keys"] g_filled := def_okF false T.F_filled sc_filled (fun f cdv A outer s H E hr => ss_cons (s_if (t_not (t_val (e_call (d_are_keys T) (hr.mono (by decide)) (by rfl) tk_def (a_cons (e_var 0) (a_cons (e_var 1) (a_nil)))))) (ss_one (s_raise (x_InvalidKeys T) (by rfl) (hr.mono (by decide)) (by rfl) tk_def (e_var 1))) (ss_nil))
    (ss_one (s_ret (e_callTy call_tuple_of v_tuple (by rfl) T.b_tuple (by decide +kernel) (a_cons (e_sortSet2 false [("key", 2), ("cell", 3)] [3] (by rfl) T.b_sorted (CT.sub (ct_name 2) (by decide)) (ct_name 3) (by decide) rfl sc_filled.nd (i_seq (e_var 1)) (blkOk_by (by kernel_rfl)) (fun _ _ _ _ _ => (pg_name (i := 2) sc_filled.nd rfl (by first | exact Or.inl rfl | exact Or.inr rfl))) (fun _ _ _ _ _ => ts_nil) (fun _ _ _ _ _ => i_seq (e_ix (e_fld "Marking" (e_var 0) (T.f_Marking_marks)) (e_var 2))) (fun _ _ _ _ _ => (pg_name (i := 3) sc_filled.nd rfl (by first | exact Or.inl rfl | exact Or.inr rfl))) (fun _ _ _ _ _ => ts_nil) (fun _ _ _ _ _ => e_var 3)) (a_nil))))))
noncomputable def m_says : MS := mSeq (mIfS (mNot (mT (mCallD 2 g_are_bits (mCons (mVar 0) (mCons (mVar 1) (mNil)))))) (mRaise "InvalidBits" "value" (mVar 1)) (mPass)) (mRet (mCall (pv1 tupleI) (mCons (mLc false (mEnum (mCons (mFld "Marking" "marks" (mVar 0)) (mNil))) [2, 3] (gTupI 2 (gsCons (gSet 2) (gsCons (gSet 3) gsNil))) (mT (mCallD 2 g_lies_within (mCons (mVar 3) (mCons (mVar 1) (mNil))))) (mVar 2)) (mNil))))
noncomputable def g_says : MF := finM false 4 m_says
theorem d_says (T : Tx K mg) : DefOk P w K mg base 5 "says" ["marking", "bits"] g_says := def_okF false T.F_says sc_says (fun f cdv A outer s H E hr => ss_cons (s_if (t_not (t_val (e_call (d_are_bits T) (hr.mono (by decide)) (by rfl) tk_def (a_cons (e_var 0) (a_cons (e_var 1) (a_nil)))))) (ss_one (s_raise (x_InvalidBits T) (by rfl) (hr.mono (by decide)) (by rfl) tk_def (e_var 1))) (ss_nil))
    (ss_one (s_ret (e_callTy call_tuple_of v_tuple (by rfl) T.b_tuple (by decide +kernel) (a_cons (e_lc false [("item", 2), ("mark", 3)] (ct_two 2 3) rfl sc_says.nd (i_enum (by rfl) T.b_enumerate (a_cons (e_fld "Marking" (e_var 0) (T.f_Marking_marks)) (a_nil))) (blkOk_by (by kernel_rfl)) (fun _ _ _ _ _ => pg_two rfl (pg_name (i := 2) sc_says.nd rfl (by first | exact Or.inl rfl | exact Or.inr rfl)) (pg_name (i := 3) sc_says.nd rfl (by first | exact Or.inl rfl | exact Or.inr rfl))) (fun _ _ _ _ _ => ts_one (t_val (e_call (d_lies_within T) (hr.mono (by decide)) (by rfl) takes0 (a_cons (e_var 3) (a_cons (e_var 1) (a_nil)))))) (fun _ _ _ _ _ => e_var 2)) (a_nil))))))
noncomputable def m_are_apart : MS := mSeq (mIfS (mNot (mT (mCall (pv1 allI) (mCons (mLc false (mSrc (mVar 1)) [3] (gSet 3) (mTB true) (mCallD 2 g_is_mark (mCons (mVar 0) (mCons (mVar 3) (mNil))))) (mNil))))) (mRet (mC (.bl false))) (mPass)) (mSeq (mSet 2 (mCall rangeVM (mCons (mCall (pv1 lenI) (mCons (mVar 1) (mNil))) (mNil)))) (mRet (mNotV (mCall (pv1 anyI) (mCons (mLc2 false (mSrcR (mVar 2)) [4, 5] (gSet 4) (mTB true) (mSrcR (mVar 2)) [5] (gSet 5) (mB (m2 (neI) (mVar 4) (mVar 5))) (mCallD 2 g_lies_within (mCons (m2 itemI (mVar 1) (mVar 4)) (mCons (m2 itemI (mVar 1) (mVar 5)) (mNil))))) (mNil))))))
noncomputable def g_are_apart : MF := finM false 6 m_are_apart
theorem d_are_apart (T : Tx K mg) : DefOk P w K mg base 5 "are_apart" ["cells", "marks"] g_are_apart := def_okF false T.F_are_apart sc_are_apart (fun f cdv A outer s H E hr => ss_cons (s_if (t_not (t_val (e_callB (cr_all (by rfl)) v_all (by rfl) T.b_all (by decide +kernel) (a_cons (e_lc false [("mark", 3)] (ct_name 3) rfl sc_are_apart.nd (i_seq (e_var 1)) (blkOk_by (by kernel_rfl)) (fun _ _ _ _ _ => (pg_name (i := 3) sc_are_apart.nd rfl (by first | exact Or.inl rfl | exact Or.inr rfl))) (fun _ _ _ _ _ => ts_nil) (fun _ _ _ _ _ => e_call (d_is_mark T) (hr.mono (by decide)) (by rfl) takes0 (a_cons (e_var 0) (a_cons (e_var 3) (a_nil))))) (a_nil))))) (ss_one (s_ret (e_bl))) (ss_nil))
    (ss_cons (s_set 2 sc_are_apart.nd (e_range1 (by rfl) T.b_range (by decide +kernel) (a_cons (e_callB call_len v_len (by rfl) T.b_len (by decide +kernel) (a_cons (e_var 1) (a_nil))) (a_nil))))
    (ss_one (s_ret (e_notV (e_callB (cr_any (by rfl)) v_any (by rfl) T.b_any (by decide +kernel) (a_cons (e_lc2 false [("at", 4), ("to", 5)] [5] (CT.sub (ct_name 4) (by decide)) (ct_name 5) (by decide) rfl sc_are_apart.nd (i_rngO (e_var 2)) (blkOk_by (by kernel_rfl)) (fun _ _ _ _ _ => (pg_name (i := 4) sc_are_apart.nd rfl (by first | exact Or.inl rfl | exact Or.inr rfl))) (fun _ _ _ _ _ => ts_nil) (fun _ _ _ _ _ => i_rngO (e_var 2)) (fun _ _ _ _ _ => (pg_name (i := 5) sc_are_apart.nd rfl (by first | exact Or.inl rfl | exact Or.inr rfl))) (fun _ _ _ _ _ => ts_one (t_cmp (c_ne hr.units) (e_var 4) (e_var 5))) (fun _ _ _ _ _ => e_call (d_lies_within T) (hr.mono (by decide)) (by rfl) takes0 (a_cons (e_ix (e_var 1) (e_var 4)) (a_cons (e_ix (e_var 1) (e_var 5)) (a_nil))))) (a_nil))))))))
noncomputable def m_law_are_apart : MS := mSeq (mIfS (mIte (mNot (mT (mIsi .tup (mVar 1)))) (mTB true) (mB (m2 (neI) (mLc false (mSrc (mVar 1)) [4] (gSet 4) (mIte (mNot (mT (mCallD 2 g_law_is_set (mCons (mVar 4) (mCons (mVar 0) (mNil)))))) (mTB true) (mB (m2 (eqI) (mVar 4) (mTup (mNil))))) (mVar 4)) (mLst false (mNil))))) (mRet (mC (.bl false))) (mPass)) (mSeq (mFor (mRng1 (mCons (mCall (pv1 lenI) (mCons (mVar 1) (mNil))) (mNil))) (gSet 2) (mFor (mRng1 (mCons (mCall (pv1 lenI) (mCons (mVar 1) (mNil))) (mNil))) (gSet 3) (mIfS (mIte (mB (m2 (neI) (mVar 2) (mVar 3))) (mB (m2 (eqI) (mLc false (mSrc (m2 itemI (mVar 1) (mVar 2))) [5] (gSet 5) (mB (m2 (notInI) (mVar 5) (m2 itemI (mVar 1) (mVar 3)))) (mVar 5)) (mLst false (mNil)))) (mTB false)) (mRet (mC (.bl false))) (mPass)))) (mRet (mC (.bl true))))
noncomputable def g_law_are_apart : MF := finM false 6 m_law_are_apart
theorem d_law_are_apart (T : Tx K mg) : DefOk P w K mg base 5 "_law_are_apart" ["cells", "value"] g_law_are_apart := def_okF false T.F_law_are_apart sc_law_are_apart (fun f cdv A outer s H E hr => ss_cons (s_if (t_w (w_or (t_not (t_val (e_isi .tup T.b_isinstance (by rfl) (by rfl) (by rfl) T.b_tuple (by decide +kernel) (e_var 1)))) (w_or1 (t_cmp (c_ne hr.units) (e_lc false [("mark", 4)] (ct_name 4) rfl sc_law_are_apart.nd (i_seq (e_var 1)) (blkOk_by (by kernel_rfl)) (fun _ _ _ _ _ => (pg_name (i := 4) sc_law_are_apart.nd rfl (by first | exact Or.inl rfl | exact Or.inr rfl))) (fun _ _ _ _ _ => ts_one (t_w (w_or (t_not (t_val (e_call (d_law_is_set T) (hr.mono (by decide)) (by rfl) takes0 (a_cons (e_var 4) (a_cons (e_var 0) (a_nil)))))) (w_or1 (t_cmp (c_eq hr.units) (e_var 4) (e_tup (a_nil))))))) (fun _ _ _ _ _ => e_var 4)) (e_lst false (a_nil)))))) (ss_one (s_ret (e_bl))) (ss_nil))
    (ss_cons (s_for po_def rfl (i_rng1 (by rfl) T.b_range (a_cons (e_callB call_len v_len (by rfl) T.b_len (by decide +kernel) (a_cons (e_var 1) (a_nil))) (a_nil))) (g_name 2 sc_law_are_apart.nd) (ss_one (s_for po_def rfl (i_rng1 (by rfl) T.b_range (a_cons (e_callB call_len v_len (by rfl) T.b_len (by decide +kernel) (a_cons (e_var 1) (a_nil))) (a_nil))) (g_name 3 sc_law_are_apart.nd) (ss_one (s_if (t_w (w_and (t_cmp (c_ne hr.units) (e_var 2) (e_var 3)) (w_and1 (t_cmp (c_eq hr.units) (e_lc false [("cell", 5)] (ct_name 5) rfl sc_law_are_apart.nd (i_seq (e_ix (e_var 1) (e_var 2))) (blkOk_by (by kernel_rfl)) (fun _ _ _ _ _ => (pg_name (i := 5) sc_law_are_apart.nd rfl (by first | exact Or.inl rfl | exact Or.inr rfl))) (fun _ _ _ _ _ => ts_one (t_cmp (c_notIn (hu65 hr)) (e_var 5) (e_ix (e_var 1) (e_var 3)))) (fun _ _ _ _ _ => e_var 5)) (e_lst false (a_nil)))))) (ss_one (s_ret (e_bl))) (ss_nil))))))
    (ss_one (s_ret (e_bl)))))
noncomputable def m_Marking_init : MS := mSeq (mIfS (mNot (mT (mCallD 3 g_is_integer_within (mCons (mVar 1) (mCons (mC (.int 1)) (mCons (mC (.int 8)) (mNil))))))) (mRaise "InvalidNumber" "value" (mVar 1)) (mPass)) (mSeq (mIfS (mNot (mT (mCallD 2 g_are_marks (mCons (mVar 1) (mCons (mVar 2) (mNil)))))) (mRaise "InvalidMarks" "value" (mVar 2)) (mPass)) (mSeq (mPutF "Marking" "cells" (mVar 0) (mVar 1)) (mPutF "Marking" "marks" (mVar 0) (mCall (pv1 tupleI) (mCons (mLc false (mSrc (mVar 2)) [3] (gSet 3) (mTB true) (mCall (pv1 tupleI) (mCons (mVar 3) (mNil)))) (mNil))))))
noncomputable def g_Marking_init : MF := finM false 4 m_Marking_init
theorem d_Marking_init (T : Tx K mg) : ClsOk P w K mg base 6 "Marking" ["self", "cells", "marks"] g_Marking_init := cls_ok false T.C_Marking sc_Marking_init (fun f cdv A outer s H E hr => ss_cons (s_if (t_not (t_val (e_call (d_is_integer_within T) (hr.mono (by decide)) (by rfl) tk_def (a_cons (e_var 1) (a_cons (e_int) (a_cons (e_gI T.c_MOST_CELLS) (a_nil))))))) (ss_one (s_raise (x_InvalidNumber T) (by rfl) (hr.mono (by decide)) (by rfl) tk_def (e_var 1))) (ss_nil))
    (ss_cons (s_if (t_not (t_val (e_call (d_are_marks T) (hr.mono (by decide)) (by rfl) tk_def (a_cons (e_var 1) (a_cons (e_var 2) (a_nil)))))) (ss_one (s_raise (x_InvalidMarks T) (by rfl) (hr.mono (by decide)) (by rfl) tk_def (e_var 2))) (ss_nil))
    (ss_cons (s_fld "Marking" (e_var 0) (e_var 1) (T.f_Marking_cells))
    (ss_one (s_fld "Marking" (e_var 0) (e_callTy call_tuple_of v_tuple (by rfl) T.b_tuple (by decide +kernel) (a_cons (e_lc false [("mark", 3)] (ct_name 3) rfl sc_Marking_init.nd (i_seq (e_var 2)) (blkOk_by (by kernel_rfl)) (fun _ _ _ _ _ => (pg_name (i := 3) sc_Marking_init.nd rfl (by first | exact Or.inl rfl | exact Or.inr rfl))) (fun _ _ _ _ _ => ts_nil) (fun _ _ _ _ _ => e_callTy call_tuple_of v_tuple (by rfl) T.b_tuple (by decide +kernel) (a_cons (e_var 3) (a_nil)))) (a_nil))) (T.f_Marking_marks))))))
noncomputable def m_wrong : MS := mSeq (mIfS (mNot (mT (mCallD 2 g_are_keys (mCons (mVar 0) (mCons (mVar 1) (mNil)))))) (mRaise "InvalidKeys" "value" (mVar 1)) (mPass)) (mSeq (mSet 2 (mCallD 2 g_says (mCons (mVar 0) (mCons (mCallD 2 g_filled (mCons (mVar 0) (mCons (mVar 1) (mNil)))) (mNil))))) (mRet (mCall (pv1 tupleI) (mCons (mLc false (mSrc (mVar 2)) [3] (gSet 3) (mB (m2 (notInI) (mVar 3) (mVar 1))) (mVar 3)) (mNil)))))
noncomputable def g_wrong : MF := finM false 4 m_wrong
theorem d_wrong (T : Tx K mg) : DefOk P w K mg base 6 "wrong" ["marking", "keys"] g_wrong := def_okF false T.F_wrong sc_wrong (fun f cdv A outer s H E hr => ss_cons (s_if (t_not (t_val (e_call (d_are_keys T) (hr.mono (by decide)) (by rfl) tk_def (a_cons (e_var 0) (a_cons (e_var 1) (a_nil)))))) (ss_one (s_raise (x_InvalidKeys T) (by rfl) (hr.mono (by decide)) (by rfl) tk_def (e_var 1))) (ss_nil))
    (ss_cons (s_set 2 sc_wrong.nd (e_call (d_says T) (hr.mono (by decide)) (by rfl) tk_def (a_cons (e_var 0) (a_cons (e_call (d_filled T) (hr.mono (by decide)) (by rfl) tk_def (a_cons (e_var 0) (a_cons (e_var 1) (a_nil)))) (a_nil)))))
    (ss_one (s_ret (e_callTy call_tuple_of v_tuple (by rfl) T.b_tuple (by decide +kernel) (a_cons (e_lc false [("item", 3)] (ct_name 3) rfl sc_wrong.nd (i_seq (e_var 2)) (blkOk_by (by kernel_rfl)) (fun _ _ _ _ _ => (pg_name (i := 3) sc_wrong.nd rfl (by first | exact Or.inl rfl | exact Or.inr rfl))) (fun _ _ _ _ _ => ts_one (t_cmp (c_notIn (hu65 hr)) (e_var 3) (e_var 1))) (fun _ _ _ _ _ => e_var 3)) (a_nil)))))))
noncomputable def m_free_share : MS := mSeq (mSet 2 (mCallD 1 g_most_free (mCons (mVar 0) (mNil)))) (mSeq (mIfS (mIte (mNot (mT (mIsi .tup (mVar 1)))) (mTB true) (mIte (mB (m2 (cmpI fun i j => decide (j < i)) (mCall (pv1 lenI) (mCons (mVar 1) (mNil))) (mVar 2))) (mTB true) (mNot (mT (mCallD 2 g_are_apart (mCons (mVar 0) (mCons (mVar 1) (mNil)))))))) (mRaise "InvalidMarks" "value" (mVar 1)) (mPass)) (mSeq (mSet 3 (mLc false (mSrc (mVar 1)) [4] (gSet 4) (mTB true) (m2 mulI (mCall facM (mCons (mCall (pv1 lenI) (mCons (mVar 4) (mNil))) (mNil))) (mCall facM (mCons (m2 subI (mVar 0) (mCall (pv1 lenI) (mCons (mVar 4) (mNil)))) (mNil)))))) (mRet (mCallD 2 g_ratio (mCons (mCall (pv1 sumI) (mCons (mVar 3) (mNil))) (mCons (mCall facM (mCons (mVar 0) (mNil))) (mNil)))))))
noncomputable def g_free_share : MF := finM false 5 m_free_share
theorem d_free_share (T : Tx K mg) : DefOk P w K mg base 6 "free_share" ["cells", "marks"] g_free_share := def_okF false T.F_free_share sc_free_share (fun f cdv A outer s H E hr => ss_cons (s_set 2 sc_free_share.nd (e_call (d_most_free T) (hr.mono (by decide)) (by rfl) tk_def (a_cons (e_var 0) (a_nil))))
    (ss_cons (s_if (t_w (w_or (t_not (t_val (e_isi .tup T.b_isinstance (by rfl) (by rfl) (by rfl) T.b_tuple (by decide +kernel) (e_var 1)))) (w_or (t_cmp (c_gt) (e_callB call_len v_len (by rfl) T.b_len (by decide +kernel) (a_cons (e_var 1) (a_nil))) (e_var 2)) (w_or1 (t_not (t_val (e_call (d_are_apart T) (hr.mono (by decide)) (by rfl) tk_def (a_cons (e_var 0) (a_cons (e_var 1) (a_nil)))))))))) (ss_one (s_raise (x_InvalidMarks T) (by rfl) (hr.mono (by decide)) (by rfl) tk_def (e_var 1))) (ss_nil))
    (ss_cons (s_setLc false 3 [("mark", 4)] (ct_name 4) rfl sc_free_share.nd (i_seq (e_var 1)) (blkOk_by (by kernel_rfl)) (fun _ _ _ _ _ => (pg_name (i := 4) sc_free_share.nd rfl (by first | exact Or.inl rfl | exact Or.inr rfl))) (fun _ _ _ _ _ => ts_nil) (fun _ _ _ _ _ => e_mul (e_callBf cr_fac v_fac (by rfl) T.b_factorial (a_cons (e_callB call_len v_len (by rfl) T.b_len (by decide +kernel) (a_cons (e_var 4) (a_nil))) (a_nil))) (e_callBf cr_fac v_fac (by rfl) T.b_factorial (a_cons (e_sub (e_var 0) (e_callB call_len v_len (by rfl) T.b_len (by decide +kernel) (a_cons (e_var 4) (a_nil)))) (a_nil)))))
    (ss_one (s_ret (e_call (d_ratio T) (hr.mono (by decide)) (by rfl) tk_def (a_cons (e_callB (cr_sum (by rfl)) v_sum (by rfl) T.b_sum (by decide +kernel) (a_cons (e_var 3) (a_nil))) (a_cons (e_callBf cr_fac v_fac (by rfl) T.b_factorial (a_cons (e_var 0) (a_nil))) (a_nil)))))))))
noncomputable def m_wrong_total : MS := mSeq (mIfS (mNot (mT (mCallD 3 g_is_integer_within (mCons (mVar 1) (mCons (mC (.int 0)) (mCons (mCall (lenOM "Marking" g_Marking_len) (mCons (mVar 0) (mNil))) (mNil))))))) (mRaise "InvalidNumber" "value" (mVar 1)) (mPass)) (mRet (mCall (pv1 sumI) (mCons (mLc false (mComb (mCons (mCall (lenOM "Marking" g_Marking_len) (mCons (mVar 0) (mNil))) (mNil)) (mVar 1)) [2] (gSet 2) (mTB true) (mCall (pv1 lenI) (mCons (mCallD 2 g_wrong (mCons (mVar 0) (mCons (mVar 2) (mNil)))) (mNil)))) (mNil))))
noncomputable def g_wrong_total : MF := finM false 3 m_wrong_total
theorem d_wrong_total (T : Tx K mg) : DefOk P w K mg base 7 "wrong_total" ["marking", "size"] g_wrong_total := def_okF false T.F_wrong_total sc_wrong_total (fun f cdv A outer s H E hr => ss_cons (s_if (t_not (t_val (e_call (d_is_integer_within T) (hr.mono (by decide)) (by rfl) tk_def (a_cons (e_var 1) (a_cons (e_int) (a_cons (e_lenO (d_Marking_len T) rfl (hr.mono (by decide)) (by rfl) T.b_len (a_cons (e_var 0) (a_nil))) (a_nil))))))) (ss_one (s_raise (x_InvalidNumber T) (by rfl) (hr.mono (by decide)) (by rfl) tk_def (e_var 1))) (ss_nil))
    (ss_one (s_ret (e_callB (cr_sum (by rfl)) v_sum (by rfl) T.b_sum (by decide +kernel) (a_cons (e_lc false [("keys", 2)] (ct_name 2) rfl sc_wrong_total.nd (i_comb rfl (by rfl) T.b_range (by rfl) T.b_combinations (a_cons (e_lenO (d_Marking_len T) rfl (hr.mono (by decide)) (by rfl) T.b_len (a_cons (e_var 0) (a_nil))) (a_nil)) (e_var 1)) (blkOk_by (by kernel_rfl)) (fun _ _ _ _ _ => (pg_name (i := 2) sc_wrong_total.nd rfl (by first | exact Or.inl rfl | exact Or.inr rfl))) (fun _ _ _ _ _ => ts_nil) (fun _ _ _ _ _ => e_callB call_len v_len (by rfl) T.b_len (by decide +kernel) (a_cons (e_call (d_wrong T) (hr.mono (by decide)) (by rfl) takes0 (a_cons (e_var 0) (a_cons (e_var 2) (a_nil)))) (a_nil)))) (a_nil))))))
noncomputable def m_law_told : MS := mTry (subT subTab) (mSeq (mIfS (mB (m2 (eqI) (mVar 0) (mC (.int 0)))) (mRet (mTup (mCons (mC (.str "told")) (mCons (mCallD 1 g_most_free (mCons (mVar 1) (mNil))) (mNil))))) (mPass)) (mRet (mTup (mCons (mC (.str "told")) (mCons (mIte (mB (m2 (eqI) (mVar 0) (mC (.int 1)))) (mCallD 2 g_free_marks (mCons (mVar 1) (mCons (mVar 2) (mNil)))) (mCallD 2 g_free_share (mCons (mVar 1) (mCons (mVar 2) (mNil))))) (mNil)))))) [("InvalidNumber", 3, fun a cls d => mRet (mTup (mCons (mC (.str "number")) (mCons (mXf a cls d "value" (mVar 3)) (mNil))))), ("InvalidMarks", 3, fun a cls d => mRet (mTup (mCons (mC (.str "marks")) (mCons (mXf a cls d "value" (mVar 3)) (mNil)))))]
noncomputable def g_law_told : MF := finM false 4 m_law_told
theorem d_law_told (T : Tx K mg) : DefOk P w K mg base 7 "_law_told" ["kind", "cells", "value"] g_law_told := def_okF false T.F_law_told sc_law_told (fun f cdv A outer s H E hr => ss_one (s_try rfl rfl sc_law_told.nd tk_def T.sub (fun W pn xe tk hp => ss_cons (s_if (t_cmp (c_eq hr.units) (e_var 0) (e_int)) (ss_one (s_ret (e_tup (a_cons (e_str) (a_cons (e_call (d_most_free T) (hr.mono (by decide)) (by rfl) tk (a_cons (e_var 1) (a_nil))) (a_nil)))))) (ss_nil))
    (ss_one (s_ret (e_tup (a_cons (e_str) (a_cons (e_ifx (t_cmp (c_eq hr.units) (e_var 0) (e_int)) (e_call (d_free_marks T) (hr.mono (by decide)) (by rfl) tk (a_cons (e_var 1) (a_cons (e_var 2) (a_nil)))) (e_call (d_free_share T) (hr.mono (by decide)) (by rfl) tk (a_cons (e_var 1) (a_cons (e_var 2) (a_nil))))) (a_nil))))))) (.cons (i := 3) rfl rfl rfl (by decide) T.m_InvalidNumber (fun a oe cls d pn hz hf => ss_one (s_ret (e_tup (a_cons (e_str) (a_cons (e_xf hz hf (e_var 3)) (a_nil)))))) (.cons (i := 3) rfl rfl rfl (by decide) T.m_InvalidMarks (fun a oe cls d pn hz hf => ss_one (s_ret (e_tup (a_cons (e_str) (a_cons (e_xf hz hf (e_var 3)) (a_nil)))))) (.nil)))))
noncomputable def m_is_free : MS := mRet (m2 (eqI) (mCallD 2 g_wrong_total (mCons (mVar 0) (mCons (mVar 1) (mNil)))) (mC (.int 0)))
noncomputable def g_is_free : MF := finM false 2 m_is_free
theorem d_is_free (T : Tx K mg) : DefOk P w K mg base 8 "is_free" ["marking", "size"] g_is_free := def_okF false T.F_is_free sc_is_free (fun f cdv A outer s H E hr => ss_one (s_ret (e_cmp (c_eq hr.units) (e_call (d_wrong_total T) (hr.mono (by decide)) (by rfl) tk_def (a_cons (e_var 0) (a_cons (e_var 1) (a_nil)))) (e_int))))
noncomputable def m_law : MS := mSeq (mSet 1 (mCallD 2 g_law_box (mCons (mVar 0) (mCons (mC (.int 0)) (mNil))))) (mSeq (mSet 2 (m2 addI (mC (.int 1)) (mCallD 2 g_law_take (mCons (mVar 1) (mCons (mC (.int 8)) (mNil)))))) (mSeq (mSet 3 (m2 fdivI (m2 addI (mVar 2) (mC (.int 1))) (mC (.int 2)))) (mSeq (mSet 4 (mCallD 2 g_law_choose (mCons (mVar 2) (mCons (mVar 3) (mNil))))) (mSeq (mIfS (mB (m2 (neI) (mCallD 3 g_law_told (mCons (mC (.int 0)) (mCons (mVar 2) (mCons (mC .non) (mNil))))) (mTup (mCons (mC (.str "told")) (mCons (mVar 4) (mNil)))))) (mRet (mC (.bl false))) (mPass)) (mSeq (mFor (mSrc (mLst false (mCons (mC (.int 1)) (mCons (mVar 4) (mCons (m2 addI (mC (.int 1)) (mCallD 2 g_law_take (mCons (mVar 1) (mCons (mVar 4) (mNil))))) (mNil)))))) (gSet 5) (mSeq (mSet 6 (mCall (pv1 tupleI) (mCons (mSl false (mCallD 2 g_law_sets (mCons (mVar 2) (mCons (mVar 3) (mNil)))) (mNoPart) (mPart (mVar 5))) (mNil)))) (mSeq (mIfS (mIte (mB (m2 (neI) (mCallD 3 g_law_told (mCons (mC (.int 1)) (mCons (mVar 2) (mCons (mVar 5) (mNil))))) (mTup (mCons (mC (.str "told")) (mCons (mVar 6) (mNil)))))) (mTB true) (mNot (mT (mCallD 2 g_law_are_apart (mCons (mVar 2) (mCons (mVar 6) (mNil))))))) (mRet (mC (.bl false))) (mPass)) (mIfS (mB (m2 (isNotI) (mCallD 2 g_is_free (mCons (mMake false "Marking" 3 g_Marking_init (mCons (mVar 2) (mCons (mSl false (mVar 6) (mNoPart) (mPart (mC (.int 7)))) (mNil)))) (mCons (mC (.int 1)) (mNil)))) (mC (.bl true)))) (mRet (mC (.bl false))) (mPass))))) (mSeq (mSet 7 (mTup (mNil))) (mSeq (mFor (mSrc (mSl false (mCallD 2 g_law_shuffled (mCons (mVar 1) (mCons (mLc false (mSrc (mCallD 1 g_law_all_sets (mCons (mVar 2) (mNil)))) [17] (gSet 17) (mB (m2 (neI) (mVar 17) (mTup (mNil)))) (mVar 17)) (mNil)))) (mNoPart) (mPart (mC (.int 60))))) (gSet 8) (mIfS (mT (mCallD 2 g_law_are_apart (mCons (mVar 2) (mCons (m2 addI (mVar 7) (mTup (mCons (mVar 8) (mNil)))) (mNil))))) (mSet 7 (m2 addI (mVar 7) (mTup (mCons (mVar 8) (mNil))))) (mPass))) (mSeq (mSet 9 (mSl false (mVar 7) (mNoPart) (mPart (mC (.int 7))))) (mSeq (mIfS (mIte (mB (m2 (cmpI fun i j => decide (j < i)) (mCall (pv1 lenI) (mCons (mVar 9) (mNil))) (mC (.int 1)))) (mB (m2 (isNotI) (mCallD 2 g_is_free (mCons (mMake false "Marking" 3 g_Marking_init (mCons (mVar 2) (mCons (mVar 9) (mNil)))) (mCons (mC (.int 1)) (mNil)))) (mC (.bl true)))) (mTB false)) (mRet (mC (.bl false))) (mPass)) (mSeq (mSet 10 (mLst true (mCons (mVar 7) (mCons (mCallD 2 g_free_marks (mCons (mVar 2) (mCons (mVar 4) (mNil)))) (mCons (mTup (mNil)) (mCons (m2 addI (mVar 9) (mSl false (mVar 9) (mNoPart) (mPart (mC (.int 1))))) (mCons (m2 addI (mVar 9) (mTup (mCons (mTupRg (mCons (mVar 2) (mNil))) (mNil)))) (mCons (mCall (listM false) (mCons (mVar 9) (mNil))) (mCons (m2 addI (mVar 9) (mTup (mCons (mTup (mNil)) (mNil)))) (mCons (mRevI false (mVar 9)) (mCons (mC .non) (mCons (mTup (mCons (mTup (mCons (mVar 2) (mNil))) (mNil))) (mCons (mTup (mCons (mTup (mCons (mC (.int 0)) (mCons (mC (.int 0)) (mNil)))) (mNil))) (mNil)))))))))))))) (mSeq (mFor (mRng1 (mCons (mC (.int 3)) (mNil))) (gSet 11) (mExpr (mMt appM (mVar 10) (mCons (mCallD 3 (g_law_spoilt 4) (mCons (mVar 1) (mCons (mVar 9) (mCons (mC (.int 2)) (mNil))))) (mNil))))) (mSeq (mFor (mSrc (mVar 10)) (gSet 12) (mIfS (mNot (mT (mCallD 2 g_law_are_apart (mCons (mVar 2) (mCons (mVar 12) (mNil)))))) (mIfS (mB (m2 (neI) (mCallD 3 g_law_told (mCons (mC (.int 2)) (mCons (mVar 2) (mCons (mVar 12) (mNil))))) (mTup (mCons (mC (.str "marks")) (mCons (mVar 12) (mNil)))))) (mRet (mC (.bl false))) (mPass)) (mSeq (mAsg (gTupI 2 (gsCons (gSet 13) (gsCons (gSet 14) (gsNil)))) (mTup (mCons (mC (.int 0)) (mCons (mC (.int 1)) (mNil))))) (mSeq (mFor (mSrc (mVar 12)) (gSet 8) (mSeq (mSet 15 (mCallD 2 g_law_choose (mCons (mVar 2) (mCons (mCall (pv1 lenI) (mCons (mVar 8) (mNil))) (mNil))))) (mAsg (gTupI 2 (gsCons (gSet 13) (gsCons (gSet 14) (gsNil)))) (mCallD 2 g_law_ratio (mCons (m2 addI (m2 mulI (mVar 13) (mVar 15)) (mVar 14)) (mCons (m2 mulI (mVar 14) (mVar 15)) (mNil))))))) (mIfS (mIte (mB (m2 (neI) (mCallD 3 g_law_told (mCons (mC (.int 2)) (mCons (mVar 2) (mCons (mVar 12) (mNil))))) (mTup (mCons (mC (.str "told")) (mCons (mTup (mCons (mVar 13) (mCons (mVar 14) (mNil)))) (mNil)))))) (mTB true) (mIte (mB (m2 (cmpI fun i j => decide (j < i)) (mVar 13) (mVar 14))) (mTB true) (mB (m2 (cmpI fun i j => decide (j < i)) (mCall (pv1 lenI) (mCons (mVar 12) (mNil))) (mVar 4))))) (mRet (mC (.bl false))) (mPass)))))) (mSeq (mFor (mSrc (mLst false (mCons (mC (.int 0)) (mCons (mC (.int 9)) (mCons (m1 negI (mC (.int 1))) (mCons (mC .non) (mCons (mC (.bl true)) (mCons (mC (.str "2")) (mNil))))))))) (gSet 16) (mIfS (mB (m2 (neI) (mLc false (mRng1 (mCons (mC (.int 3)) (mNil))) [18] (gSet 18) (mB (m2 (neI) (mCallD 3 g_law_told (mCons (mVar 18) (mCons (mVar 16) (mCons (mC .non) (mNil))))) (mTup (mCons (mC (.str "number")) (mCons (mVar 16) (mNil)))))) (mVar 18)) (mLst false (mNil)))) (mRet (mC (.bl false))) (mPass))) (mSeq (mFor (mSrc (mLst false (mCons (mC (.int 0)) (mCons (m2 addI (mVar 4) (mC (.int 1))) (mCons (m1 negI (mC (.int 1))) (mCons (mC .non) (mCons (mC (.bl true)) (mCons (mC (.str "1")) (mCons (mLst false (mCons (mC (.int 0)) (mNil))) (mNil)))))))))) (gSet 16) (mIfS (mB (m2 (neI) (mCallD 3 g_law_told (mCons (mC (.int 1)) (mCons (mVar 2) (mCons (mVar 16) (mNil))))) (mTup (mCons (mC (.str "number")) (mCons (mVar 16) (mNil)))))) (mRet (mC (.bl false))) (mPass))) (mRet (mC (.bl true)))))))))))))))))
noncomputable def g_law : MF := finM false 19 m_law
theorem b_law (T : Tx K mg) : Body P w K mg base ["script", "box", "cells", "half", "most", "many", "due", "mine", "mark", "some", "values", "k", "value", "a", "b", "size", "odd", "one", "kind"] "law" s_law 8 m_law := fun f cdv A outer s H E hr => ss_cons (s_set 1 sc_law.nd (e_call (d_law_box T) (hr.mono (by decide)) (by rfl) tk_def (a_cons (e_var 0) (a_cons (e_int) (a_nil)))))
    (ss_cons (s_set 2 sc_law.nd (e_add (e_int) (e_call (d_law_take T) (hr.mono (by decide)) (by rfl) tk_def (a_cons (e_var 1) (a_cons (e_int) (a_nil))))))
    (ss_cons (s_set 3 sc_law.nd (e_fdiv (e_add (e_var 2) (e_int)) (e_int)))
    (ss_cons (s_set 4 sc_law.nd (e_call (d_law_choose T) (hr.mono (by decide)) (by rfl) tk_def (a_cons (e_var 2) (a_cons (e_var 3) (a_nil)))))
    (ss_cons (s_if (t_cmp (c_ne hr.units) (e_call (d_law_told T) (hr.mono (by decide)) (by rfl) tk_def (a_cons (e_int) (a_cons (e_var 2) (a_cons (e_non) (a_nil))))) (e_tup (a_cons (e_str) (a_cons (e_var 4) (a_nil))))) (ss_one (s_ret (e_bl))) (ss_nil))
    (ss_cons (s_for po_def rfl (i_seq (e_lst false (a_cons (e_int) (a_cons (e_var 4) (a_cons (e_add (e_int) (e_call (d_law_take T) (hr.mono (by decide)) (by rfl) tk_def (a_cons (e_var 1) (a_cons (e_var 4) (a_nil))))) (a_nil)))))) (g_name 5 sc_law.nd) (ss_cons (s_set 6 sc_law.nd (e_callTy call_tuple_of v_tuple (by rfl) T.b_tuple (by decide +kernel) (a_cons (e_sl false (e_call (d_law_sets T) (hr.mono (by decide)) (by rfl) tk_def (a_cons (e_var 2) (a_cons (e_var 3) (a_nil)))) (o_none) (o_some (e_var 5))) (a_nil))))
    (ss_cons (s_if (t_w (w_or (t_cmp (c_ne hr.units) (e_call (d_law_told T) (hr.mono (by decide)) (by rfl) tk_def (a_cons (e_int) (a_cons (e_var 2) (a_cons (e_var 5) (a_nil))))) (e_tup (a_cons (e_str) (a_cons (e_var 6) (a_nil))))) (w_or1 (t_not (t_val (e_call (d_law_are_apart T) (hr.mono (by decide)) (by rfl) tk_def (a_cons (e_var 2) (a_cons (e_var 6) (a_nil))))))))) (ss_one (s_ret (e_bl))) (ss_nil))
    (ss_one (s_if (t_cmp (c_isNot) (e_call (d_is_free T) (hr.mono (by decide)) (by rfl) tk_def (a_cons (e_make false (d_Marking_init T) (hr.mono (by decide)) (by rfl) tk_def (a_cons (e_var 2) (a_cons (e_sl false (e_var 6) (o_none) (o_some (e_int))) (a_nil)))) (a_cons (e_int) (a_nil)))) (e_bl)) (ss_one (s_ret (e_bl))) (ss_nil))))))
    (ss_cons (s_set 7 sc_law.nd (e_tup (a_nil)))
    (ss_cons (s_for po_def rfl (i_seq (e_sl false (e_call (d_law_shuffled T) (hr.mono (by decide)) (by rfl) tk_def (a_cons (e_var 1) (a_cons (e_lc false [("one", 17)] (ct_name 17) rfl sc_law.nd (i_seq (e_call (d_law_all_sets T) (hr.mono (by decide)) (by rfl) tk_def (a_cons (e_var 2) (a_nil)))) (blkOk_by (by kernel_rfl)) (fun _ _ _ _ _ => (pg_name (i := 17) sc_law.nd rfl (by first | exact Or.inl rfl | exact Or.inr rfl))) (fun _ _ _ _ _ => ts_one (t_cmp (c_ne hr.units) (e_var 17) (e_tup (a_nil)))) (fun _ _ _ _ _ => e_var 17)) (a_nil)))) (o_none) (o_some (e_int)))) (g_name 8 sc_law.nd) (ss_one (s_if (t_val (e_call (d_law_are_apart T) (hr.mono (by decide)) (by rfl) tk_def (a_cons (e_var 2) (a_cons (e_add (e_var 7) (e_tup (a_cons (e_var 8) (a_nil)))) (a_nil))))) (ss_one (s_set 7 sc_law.nd (e_add (e_var 7) (e_tup (a_cons (e_var 8) (a_nil)))))) (ss_nil))))
    (ss_cons (s_set 9 sc_law.nd (e_sl false (e_var 7) (o_none) (o_some (e_int))))
    (ss_cons (s_if (t_w (w_and (t_cmp (c_gt) (e_callB call_len v_len (by rfl) T.b_len (by decide +kernel) (a_cons (e_var 9) (a_nil))) (e_int)) (w_and1 (t_cmp (c_isNot) (e_call (d_is_free T) (hr.mono (by decide)) (by rfl) tk_def (a_cons (e_make false (d_Marking_init T) (hr.mono (by decide)) (by rfl) tk_def (a_cons (e_var 2) (a_cons (e_var 9) (a_nil)))) (a_cons (e_int) (a_nil)))) (e_bl))))) (ss_one (s_ret (e_bl))) (ss_nil))
    (ss_cons (s_set 10 sc_law.nd (e_lst true (a_cons (e_var 7) (a_cons (e_call (d_free_marks T) (hr.mono (by decide)) (by rfl) tk_def (a_cons (e_var 2) (a_cons (e_var 4) (a_nil)))) (a_cons (e_tup (a_nil)) (a_cons (e_add (e_var 9) (e_sl false (e_var 9) (o_none) (o_some (e_int)))) (a_cons (e_add (e_var 9) (e_tup (a_cons (e_tupRg1 (by rfl) T.b_range rfl (by rfl) T.b_tuple (e_var 2)) (a_nil)))) (a_cons (e_callTy call_list_of (v_list false) (by rfl) T.b_list (by decide +kernel) (a_cons (e_var 9) (a_nil))) (a_cons (e_add (e_var 9) (e_tup (a_cons (e_tup (a_nil)) (a_nil)))) (a_cons (e_revI false (e_var 9)) (a_cons (e_non) (a_cons (e_tup (a_cons (e_tup (a_cons (e_var 2) (a_nil))) (a_nil))) (a_cons (e_tup (a_cons (e_tup (a_cons (e_int) (a_cons (e_int) (a_nil)))) (a_nil))) (a_nil))))))))))))))
    (ss_cons (s_for po_def rfl (i_rng1 (by rfl) T.b_range (a_cons (e_int) (a_nil))) (g_name 11 sc_law.nd) (ss_one (s_expr (e_append (e_var 10) (a_cons (e_call (d_law_spoilt T 4) (hr.mono (by decide)) (by rfl) tk_def (a_cons (e_var 1) (a_cons (e_var 9) (a_cons (e_int) (a_nil))))) (a_nil))))))
    (ss_cons (s_for po_def rfl (i_seq (e_var 10)) (g_name 12 sc_law.nd) (ss_one (s_if (t_not (t_val (e_call (d_law_are_apart T) (hr.mono (by decide)) (by rfl) tk_def (a_cons (e_var 2) (a_cons (e_var 12) (a_nil)))))) (ss_one (s_if (t_cmp (c_ne hr.units) (e_call (d_law_told T) (hr.mono (by decide)) (by rfl) tk_def (a_cons (e_int) (a_cons (e_var 2) (a_cons (e_var 12) (a_nil))))) (e_tup (a_cons (e_str) (a_cons (e_var 12) (a_nil))))) (ss_one (s_ret (e_bl))) (ss_nil))) (ss_cons (s_asg (e_tup (a_cons (e_int) (a_cons (e_int) (a_nil)))) (g_tup rfl (gs_cons (g_name 13 sc_law.nd) (gs_cons (g_name 14 sc_law.nd) (gs_nil)))))
    (ss_cons (s_for po_def rfl (i_seq (e_var 12)) (g_name 8 sc_law.nd) (ss_cons (s_set 15 sc_law.nd (e_call (d_law_choose T) (hr.mono (by decide)) (by rfl) tk_def (a_cons (e_var 2) (a_cons (e_callB call_len v_len (by rfl) T.b_len (by decide +kernel) (a_cons (e_var 8) (a_nil))) (a_nil)))))
    (ss_one (s_asg (e_call (d_law_ratio T) (hr.mono (by decide)) (by rfl) tk_def (a_cons (e_add (e_mul (e_var 13) (e_var 15)) (e_var 14)) (a_cons (e_mul (e_var 14) (e_var 15)) (a_nil)))) (g_tup rfl (gs_cons (g_name 13 sc_law.nd) (gs_cons (g_name 14 sc_law.nd) (gs_nil))))))))
    (ss_one (s_if (t_w (w_or (t_cmp (c_ne hr.units) (e_call (d_law_told T) (hr.mono (by decide)) (by rfl) tk_def (a_cons (e_int) (a_cons (e_var 2) (a_cons (e_var 12) (a_nil))))) (e_tup (a_cons (e_str) (a_cons (e_tup (a_cons (e_var 13) (a_cons (e_var 14) (a_nil)))) (a_nil))))) (w_or (t_cmp (c_gt) (e_var 13) (e_var 14)) (w_or1 (t_cmp (c_gt) (e_callB call_len v_len (by rfl) T.b_len (by decide +kernel) (a_cons (e_var 12) (a_nil))) (e_var 4)))))) (ss_one (s_ret (e_bl))) (ss_nil))))))))
    (ss_cons (s_for po_def rfl (i_seq (e_lst false (a_cons (e_int) (a_cons (e_int) (a_cons (e_neg (e_int)) (a_cons (e_non) (a_cons (e_bl) (a_cons (e_str) (a_nil))))))))) (g_name 16 sc_law.nd) (ss_one (s_if (t_cmp (c_ne hr.units) (e_lc false [("kind", 18)] (ct_name 18) rfl sc_law.nd (i_rng1 (by rfl) T.b_range (a_cons (e_int) (a_nil))) (blkOk_by (by kernel_rfl)) (fun _ _ _ _ _ => (pg_name (i := 18) sc_law.nd rfl (by first | exact Or.inl rfl | exact Or.inr rfl))) (fun _ _ _ _ _ => ts_one (t_cmp (c_ne hr.units) (e_call (d_law_told T) (hr.mono (by decide)) (by rfl) takes0 (a_cons (e_var 18) (a_cons (e_var 16) (a_cons (e_non) (a_nil))))) (e_tup (a_cons (e_str) (a_cons (e_var 16) (a_nil)))))) (fun _ _ _ _ _ => e_var 18)) (e_lst false (a_nil))) (ss_one (s_ret (e_bl))) (ss_nil))))
    (ss_cons (s_for po_def rfl (i_seq (e_lst false (a_cons (e_int) (a_cons (e_add (e_var 4) (e_int)) (a_cons (e_neg (e_int)) (a_cons (e_non) (a_cons (e_bl) (a_cons (e_str) (a_cons (e_lst false (a_cons (e_int) (a_nil))) (a_nil)))))))))) (g_name 16 sc_law.nd) (ss_one (s_if (t_cmp (c_ne hr.units) (e_call (d_law_told T) (hr.mono (by decide)) (by rfl) tk_def (a_cons (e_int) (a_cons (e_var 2) (a_cons (e_var 16) (a_nil))))) (e_tup (a_cons (e_str) (a_cons (e_var 16) (a_nil))))) (ss_one (s_ret (e_bl))) (ss_nil))))
    (ss_one (s_ret (e_bl)))))))))))))))))
theorem law_end (hp : ∀ ns : List Int, ns.length ≤ 63 → ∃ st', g_law [.scr (ns.map .int)] [] = some (.val (.bl true), st')) {fa : Addr} (T : Tx K mg) (hmg : mg "law" = some (.ref fa)) :
    ∃ fd : FuncData, BindsAll fd ["script"] ∧ ∀ base : Heap, K.In base → base.Ns mainGlobals mg → FnOk P w K mg base (L2.CX P w) 9 fa fd ["script"] (spLaw K) := by
  obtain ⟨f, fd, h1, h2, h3⟩ := T.F_law.ex
  rw [hmg] at h1
  cases h1
  exact ⟨fd, h3, fun base _ _ => law_fn (N := ["script", "box", "cells", "half", "most", "many", "due", "mine", "mark", "some", "values", "k", "value", "a", "b", "size", "odd", "one", "kind"]) h2 sc_law (b_law T) hp⟩
end
end Law
section
set_option maxHeartbeats 2000000
namespace Law
open PySem L2 MK
local macro_rules | `(tactic| walk_at "mk1") => `(tactic| first
  | with_reducible refine Rule.ok ?_ | with_reducible refine we_make ?_ | ((with_reducible refine' we_var ?hh ?_); (case hh => rfl)) | with_reducible refine eq_and rfl ?_ | ((with_reducible refine len_and ?hh ?_); (case hh => simp; done)) | with_reducible refine o_mod (by omega) ?_
  | with_reducible refine o_div (by omega) ?_ | with_reducible refine o_mul (by omega) (by omega) ?_ | ((with_reducible refine' o_ixC ?hh ?h2 ?_); (case hh => assumption); (case h2 => rfl)) | ((with_reducible refine' o_ixS ?hh ?_); (case hh => assumption))
  | ((with_reducible refine' o_ixT ?hh ?_); (case hh => assumption)) | ((with_reducible refine' o_ixL ?hh ?_); (case hh => assumption)) | ((with_reducible refine' o_ixT ?hh ?_); (case hh => rfl)) | ((with_reducible refine' o_ixL ?hh ?_); (case hh => rfl))
  | with_reducible refine o_pow (by decide) (by decide) ?_ | ((with_reducible refine' we_lenC ?hh ?_); (case hh => assumption)) | ((with_reducible refine' we_tupleC ?hh ?_); (case hh => assumption)) | (refine way_t rfl ?_) | (refine way_f rfl ?_) | ((refine' ⟨_, ?hh, ?_⟩); (case hh => rfl)))
local macro_rules | `(tactic| walk_at "mk") => `(tactic| repeat walk_at "mk1")
def BoxAt (st : Sto) (n : Nat) : Prop := ∃ a b : Int, st[n]? = some (.lst [.int a, .int b]) ∧ 0 ≤ b ∧ b < 2147483648
theorem BoxAt.lt {st : Sto} {n : Nat} (h : BoxAt st n) : n < st.length := by
  obtain ⟨a, b, e, _⟩ := h
  exact (List.getElem?_eq_some_iff.mp e).1
theorem r_take {st : Sto} {n : Nat} {many : Int} (hb : BoxAt st n) (h1 : 0 < many) (h2 : many < 1000000000) :
    we (g_law_take [.cell n, .int many]) st noX fun v st' => ∃ r : Int, v = .int r ∧ 0 ≤ r ∧ r < many ∧ Only1 n st st' ∧ BoxAt st' n := by
  obtain ⟨a, b, e, b0, b1⟩ := hb
  refine we_def (ls := [some (.cell n), some (.int many), none]) rfl ?_
  unfold m_law_take
  walk_at "mk"
  refine ⟨fun hp => ?_, fun hp => ?_⟩
  · walk_at "mk"
    refine ⟨n, _, _, _, rfl, rfl, e, rfl, rfl, ?_⟩
    walk_at "mk"
    refine close_len (by simp) ⟨_, rfl, Int.emod_nonneg _ (by omega), Int.emod_lt_of_pos _ h1, .set, a / many, b, set_get e, b0, b1⟩
  · walk_at "mk"
    refine ⟨n, _, _, _, rfl, rfl, e, rfl, rfl, ?_⟩
    have e' := set_get (c := .lst [.int a, .int ((b * 39373 + 69621) % 2147483647)]) e
    walk_at "mk"
    refine close_len (by simp) ⟨_, rfl, Int.emod_nonneg _ (by omega), Int.emod_lt_of_pos _ h1, .set, a, _, e', Int.emod_nonneg _ (by omega), by omega⟩
structure SeqIn (n : Nat) (st : Sto) (a : IV) (l : List IV) : Prop where
  len : lenI st a = some (.int l.length)
  ix : ∀ (st' : Sto) (i : Int) (v : IV), Only1 n st st' → atI l i = some v → itemI st' a (.int i) = some v
theorem SeqIn.tup {n : Nat} {st : Sto} {l : List IV} : SeqIn n st (.tup l) l := ⟨rfl, fun st' i v _ h => by simp only [itemI, asSeq, Option.bind]; exact h⟩
theorem SeqIn.lst {n : Nat} {st : Sto} {l : List IV} : SeqIn n st (.lst l) l := ⟨rfl, fun st' i v _ h => by simp only [itemI, asSeq, lstOf, Option.bind]; exact h⟩
theorem SeqIn.cell {n m : Nat} {st : Sto} {l : List IV} (e : st[m]? = some (.lst l)) (h : m ≠ n) : SeqIn n st (.cell m) l := ⟨by simp only [lenI, asSeq, lstOf, e]; rfl, fun st' i v o h' => by
  have e' : st'[m]? = some (.lst l) := by rw [o.ne m h]; exact e
  simp only [itemI, asSeq, lstOf, e', Option.bind]; exact h'⟩
theorem r_pick {st : Sto} {n : Nat} {a : IV} {l : List IV} (hb : BoxAt st n) (hs : SeqIn n st a l) (h0 : l ≠ []) (h2 : l.length < 1000000000) :
    we (g_law_pick [.cell n, a]) st noX fun v st' => v ∈ l ∧ Only1 n st st' ∧ BoxAt st' n := by
  refine we_def (ls := [some (.cell n), some a]) rfl ?_
  unfold m_law_pick
  walk_at "mk"
  have hl : 0 < l.length := List.length_pos_iff.mpr h0
  refine we_pv1 hs.len ?_
  walk_at "mk"
  refine we_nox (r_take hb (by omega) (by omega)) ?_
  rintro v st' ⟨r, rfl, r0, r1, o, hb'⟩
  have hr : r.toNat < l.length := by omega
  refine ⟨l[r.toNat], hs.ix st' r _ o (atI_get r0 (List.getElem?_eq_getElem hr)), close_len o.len ⟨List.getElem_mem hr, o, hb'⟩⟩
def isIntI : IV → Bool
  | .int _ => true
  | _ => false
def plain : IV → Bool
  | .obj .. => false
  | .cell _ => false
  | .exn .. => false
  | _ => true
theorem r_whole {st : Sto} {v : IV} (h : plain v = true) : g_law_whole [v] st = some (.val (.bl (isIntI v)), st) := by
  refine run_of (we_def (ls := [some v]) rfl ?_)
  unfold m_law_whole
  cases v <;> first | (cases h; done) | (walk_at "mk"; refine close_len ?_ ?_ <;> first | rfl | exact ⟨rfl, rfl⟩)
structure Grow (st st' : Sto) : Prop where
  len : st.length ≤ st'.length
  old : ∀ m, m < st.length → st'[m]? = st[m]?
theorem Grow.app {st l : Sto} : Grow st (st ++ l) := ⟨by simp, fun m h => List.getElem?_append_left h⟩
theorem ixZ {ns : List Int} {i : Int} (h0 : 0 ≤ i) (h1 : i < ns.length) : ∃ z : Int, atI (ns.map IV.int) i = some (.int z) := by
  have hlt : i.toNat < ns.length := by omega
  exact ⟨ns[i.toNat], atI_get h0 (by rw [List.getElem?_map, List.getElem?_eq_getElem hlt]; rfl)⟩
theorem ixPair {a c : Int} {b : Bool} : ∃ z : Int, atI [IV.int a, IV.int c] (if b = true then 1 else 0) = some (.int z) := by
  cases b
  · exact ⟨a, rfl⟩
  · exact ⟨c, rfl⟩
theorem app_get {st : Sto} {c : CV} : (st ++ [c])[st.length]? = some c := by simp
theorem r_box {st : Sto} {ns : List Int} {k : Int} (hl : ns.length ≤ 63) (h0 : 0 ≤ k) (h1 : k < 1000) :
    we (g_law_box [.scr (ns.map .int), .int k]) st noX fun v st' => ∃ n, v = .cell n ∧ n = st.length ∧ Grow st st' ∧ st'.length = st.length + 1 ∧ BoxAt st' n := by
  refine we_def (ls := [some (.scr (ns.map .int)), some (.int k), none, none]) rfl ?_
  unfold m_law_box
  walk_at "mk"
  refine ⟨fun hp => ?_, fun hp => ?_⟩
  · have hp' : k < ns.length := by simpa using hp
    obtain ⟨z, hz⟩ := ixZ h0 hp'
    walk_at "mk"
    obtain ⟨y, hy⟩ := ixPair (a := 0) (c := if z < 0 then -z else z) (b := decide (10 ^ (18 : Int).toNat ≤ if z < 0 then -z else z))
    walk_at "mk"
    exact we_newT rfl (close_keep ⟨_, rfl, rfl, .app, by simp, y, _, app_get, by omega, by omega⟩)
  · walk_at "mk"
    refine ⟨fun hq => ?_, fun hq => ?_⟩
    · have hq' : 0 < ns.length := by simpa using hq
      obtain ⟨z, hz⟩ := ixZ (ns := ns) (i := k % (ns.length : Int)) (Int.emod_nonneg _ (by omega)) (Int.emod_lt_of_pos _ (by omega))
      rw [show ((ns.length : Int)) = (((ns.map IV.int).length : Nat) : Int) by simp] at hz
      have hq2 : (0 : Int) < ((ns.map IV.int).length : Nat) := by simpa using hq'
      walk_at "mk"
      obtain ⟨y, hy⟩ := ixPair (a := 0) (c := (if z < 0 then -z else z) % 1000000007 * 31 + 7919 * k) (b := decide (10 ^ (18 : Int).toNat ≤ (if z < 0 then -z else z) % 1000000007 * 31 + 7919 * k))
      walk_at "mk"
      exact we_newT rfl (close_keep ⟨_, rfl, rfl, .app, by simp, y, _, app_get, by omega, by omega⟩)
    · walk_at "mk"
      obtain ⟨y, hy⟩ := ixPair (a := 0) (c := 7919 * k + 101) (b := decide (10 ^ (18 : Int).toNat ≤ 7919 * k + 101))
      walk_at "mk"
      exact we_newT rfl (close_keep ⟨_, rfl, rfl, .app, by simp, y, _, app_get, by omega, by omega⟩)
end Law
end
section
set_option maxHeartbeats 2000000
namespace Law
open PySem L2 MK
local macro_rules | `(tactic| walk_at "mk1") => `(tactic| first
  | with_reducible refine Rule.ok ?_ | with_reducible refine we_make ?_ | ((with_reducible refine' we_var ?hh ?_); (case hh => rfl)) | with_reducible refine eq_and rfl ?_ | ((with_reducible refine len_and ?hh ?_); (case hh => simp; done)) | with_reducible refine o_mod (by omega) ?_
  | with_reducible refine o_div (by omega) ?_ | with_reducible refine o_mul (by omega) (by omega) ?_ | ((with_reducible refine' o_ixC ?hh ?h2 ?_); (case hh => assumption); (case h2 => rfl)) | ((with_reducible refine' o_ixS ?hh ?_); (case hh => assumption))
  | ((with_reducible refine' o_ixT ?hh ?_); (case hh => assumption)) | ((with_reducible refine' o_ixL ?hh ?_); (case hh => assumption)) | ((with_reducible refine' o_ixT ?hh ?_); (case hh => rfl)) | ((with_reducible refine' o_ixL ?hh ?_); (case hh => rfl))
  | with_reducible refine o_pow (by decide) (by decide) ?_ | ((with_reducible refine' we_lenC ?hh ?_); (case hh => assumption)) | ((with_reducible refine' we_tupleC ?hh ?_); (case hh => assumption)) | (refine way_t rfl ?_) | (refine way_f rfl ?_) | ((refine' ⟨_, ?hh, ?_⟩); (case hh => rfl)))
local macro_rules | `(tactic| walk_at "mk") => `(tactic| repeat walk_at "mk1")
mutual
def dat : IV → Bool
  | .obj .. => false
  | .cell _ => false
  | .exn .. => false
  | .tup l => datL l
  | .lst l => datL l
  | .scr l => datL l
  | _ => true
def datL : List IV → Bool
  | [] => true
  | x :: xs => dat x && datL xs
end
theorem datL_cons {x : IV} {xs : List IV} (h : datL (x :: xs) = true) : dat x = true ∧ datL xs = true := by simpa [datL, Bool.and_eq_true] using h
theorem datL_mem : ∀ {l : List IV} {v : IV}, datL l = true → v ∈ l → dat v = true
  | x :: xs, v, h, m => by
    obtain ⟨h1, h2⟩ := datL_cons h
    rcases List.mem_cons.mp m with e | e
    · subst e; exact h1
    · exact datL_mem h2 e
mutual
theorem dat_pure : ∀ v : IV, dat v = true → v.pure = true
  | .non, _ => rfl
  | .bl _, _ => rfl
  | .int _, _ => rfl
  | .str _, _ => rfl
  | .tup l, h => by simp only [dat] at h; simp only [IV.pure]; exact datL_pure l h
  | .lst l, h => by simp only [dat] at h; simp only [IV.pure]; exact datL_pure l h
  | .scr l, h => by simp only [dat] at h; simp only [IV.pure]; exact datL_pure l h
  | .obj .., h => by simp [dat] at h
  | .cell _, h => by simp [dat] at h
  | .exn .., h => by simp [dat] at h
theorem datL_pure : ∀ l : List IV, datL l = true → pureL l = true
  | [], _ => rfl
  | x :: xs, h => by
    obtain ⟨h1, h2⟩ := datL_cons h
    simp only [pureL, dat_pure x h1, datL_pure xs h2, Bool.and_self]
end
def isIn (lo hi : Int) : IV → Bool
  | .int i => decide (lo ≤ i) && decide (i ≤ hi)
  | _ => false
theorem r_isint {st : Sto} {v : IV} (h : dat v = true) : g_is_integer [v] st = some (.val (.bl (isIntI v)), st) := by
  refine run_of (we_def (ls := [some v]) rfl ?_)
  unfold m_is_integer
  cases v <;> first | (simp [dat] at h; done) | (walk_at "mk"; refine close_len ?_ ?_ <;> first | rfl | exact ⟨rfl, rfl⟩)
theorem r_within {st : Sto} {v : IV} {lo hi : Int} (h : dat v = true) : g_is_integer_within [v, .int lo, .int hi] st = some (.val (.bl (isIn lo hi v)), st) := by
  refine run_of (we_def (ls := [some v, some (.int lo), some (.int hi)]) rfl ?_)
  unfold m_is_integer_within
  walk_at "mk"
  refine we_run (r_isint h) ?_
  cases v with
  | int i =>
    walk_at "mk"
    refine ⟨fun h1 => ?_, fun h1 => ?_⟩
    · walk_at "mk"
      exact close_len rfl ⟨by (rw [isIn]; show _ = IV.bl (decide (lo ≤ i) && decide (i ≤ hi)); replace h1 : decide (lo ≤ i) = _ := h1; rw [h1]; rfl), rfl⟩
    · exact close_len rfl ⟨by (rw [isIn]; show _ = IV.bl (decide (lo ≤ i) && decide (i ≤ hi)); replace h1 : decide (lo ≤ i) = _ := h1; rw [h1]; rfl), rfl⟩
  | obj c fs => simp [dat] at h
  | cell n => simp [dat] at h
  | exn a b c d e => simp [dat] at h
  | _ =>
    walk_at "mk"
    exact close_len rfl ⟨rfl, rfl⟩
def ascI (least b : Int) : List IV → Bool
  | [] => true
  | .int i :: r => isIn least (b - 1) (.int i) && ascI (i + 1) b r
  | _ :: _ => false
def isAsc (b : Int) : IV → Bool
  | .tup l => ascI 0 b l
  | _ => false
theorem r_ascending {st : Sto} {v : IV} {b : Int} (h : dat v = true) : g_is_ascending [v, .int b] st = some (.val (.bl (isAsc b v)), st) := by
  refine run_of (we_def (ls := [some v, some (.int b), none, none]) rfl ?_)
  unfold m_is_ascending
  cases v with
  | tup l =>
    walk_at "mk"
    refine forL_inv (fun r ls s => s = st ∧ datL r = true ∧ ∃ least x, ls = [some (.tup l), some (.int b), some (.int least), x] ∧ ascI least b r = ascI 0 b l) ?_ ?_ _ _ _ ⟨rfl, h, 0, none, rfl, rfl⟩
    · rintro ls s ⟨rfl, _, least, x, rfl, e⟩
      refine ⟨trivial, ?_⟩
      walk_at "mk"
      exact close_len rfl ⟨by rw [isAsc, ← e]; rfl, rfl⟩
    · rintro v r ls s ⟨rfl, hd, least, x, rfl, e⟩
      obtain ⟨d1, d2⟩ := datL_cons hd
      refine ⟨trivial, _, rfl, ?_⟩
      walk_at "mk"
      refine we_run (r_within d1) ?_
      walk_at "mk"
      refine ⟨fun h1 => ?_, fun h1 => ?_⟩
      · walk_at "mk"
        refine close_len rfl ⟨?_, rfl⟩
        rw [isAsc, ← e]
        cases v <;> first | rfl | (simp only [ascI]; simp at h1; rw [h1]; rfl)
      · walk_at "mk"
        cases v with
        | int i =>
          walk_at "mk"
          refine ⟨rfl, d2, i + 1, some (.int i), rfl, ?_⟩
          rw [← e]
          simp at h1
          simp only [ascI, h1, Bool.true_and]
        | _ => simp [isIn] at h1
  | obj c fs => simp [dat] at h
  | cell n => simp [dat] at h
  | exn a b c d e => simp [dat] at h
  | _ =>
    walk_at "mk"
    exact close_len rfl ⟨rfl, rfl⟩
def isMark (cells : Int) (v : IV) : Bool := isAsc cells v && !(match v with | .tup l => l.isEmpty | _ => true)
theorem r_mark {st : Sto} {v : IV} {c : Int} (h : dat v = true) : g_is_mark [.int c, v] st = some (.val (.bl (isMark c v)), st) := by
  refine run_of (we_def (ls := [some (.int c), some v]) rfl ?_)
  unfold m_is_mark
  walk_at "mk"
  refine we_run (r_ascending h) ?_
  walk_at "mk"
  refine ⟨fun h1 => ?_, fun h1 => ?_⟩
  · cases v with
    | tup l =>
      walk_at "mk"
      refine close_len rfl ⟨?_, rfl⟩
      cases l with
      | nil => simp [isMark, h1]
      | cons a r => simp [isMark, h1]
    | _ => simp [isAsc] at h1
  · exact close_len rfl ⟨by simp [isMark, h1], rfl⟩
def areMarks (cells : Int) : IV → Bool
  | .tup l => decide (1 ≤ l.length) && decide (l.length ≤ 7) && l.all (isMark cells)
  | _ => false
theorem boolsOf_map' (l : List IV) (p : IV → Bool) : boolsOf (l.map fun v => .bl (p v)) = some (l.map p) := by
  induction l with
  | nil => rfl
  | cons a l ih => simp [boolsOf, ih]
theorem r_marks {st : Sto} {v : IV} {c : Int} (h : dat v = true) : g_are_marks [.int c, v] st = some (.val (.bl (areMarks c v)), st) := by
  refine run_of (we_def (ls := [some (.int c), some v, none]) rfl ?_)
  unfold m_are_marks
  cases v with
  | tup l =>
    walk_at "mk"
    refine ⟨fun h1 => ?_, fun h1 => ?_⟩
    · walk_at "mk"
      refine ⟨fun h2 => ?_, fun h2 => ?_⟩
      · walk_at "mk"
        refine close_len rfl ⟨?_, rfl⟩
        simp at h1 h2
        simp [areMarks]
        omega
      · walk_at "mk"
        refine compL_pure (fun _ => true) (fun v => .bl (isMark c v)) trivial (fun v hv => ⟨_, rfl, rfl, fun _ => ?_⟩) ?_
        · refine run_of ?_
          walk_at "mk"
          exact we_run (r_mark (datL_mem h hv)) ⟨rfl, rfl⟩
        · have h2' : l.length ≤ 7 := by simp at h2; omega
          have h1' : 1 ≤ l.length := by have := of_decide_eq_true h1; omega
          rw [show List.filter (fun _ => true) ((l, (none : Option Nat)).1) = l by simp]
          refine len_and (by rw [List.length_map]; show l.length ≤ _; omega) ?_
          walk_at "mk"
          refine we_allL (boolsOf_map' l (isMark c)) (close_len rfl ⟨?_, rfl⟩)
          simp only [areMarks, h1', h2', decide_true, Bool.true_and, List.all_map]
          rfl
    · walk_at "mk"
      refine close_len rfl ⟨?_, rfl⟩
      simp at h1
      have h1' : ¬ 1 ≤ l.length := by omega
      simp [areMarks, h1']
  | obj c fs => simp [dat] at h
  | cell n => simp [dat] at h
  | exn a b c d e => simp [dat] at h
  | _ =>
    walk_at "mk"
    exact close_len rfl ⟨rfl, rfl⟩
def mkObj (c : Int) (l : List IV) : List (Str × IV) := [("cells", .int c), ("marks", .tup l)]
theorem mkObj_eq (k : Int) (l : List IV) : putI "marks" (.tup l) (putI "cells" (.int k) []) = mkObj k l := by
  show (if ("cells" : Str) = "marks" then _ else _) = _
  rw [if_neg (by decide +kernel)]
  rfl
theorem r_init {st : Sto} {c m : IV} {n : Nat} (hc : dat c = true) (hm : dat m = true) (e : st[n]? = some (.ins "Marking" [])) :
    we (g_Marking_init [.cell n, c, m]) st (fun cl f v st' => st' = st ∧ f = "value" ∧ ((isIn 1 8 c = false ∧ cl = "InvalidNumber" ∧ v = c) ∨ (isIn 1 8 c = true ∧ (∃ k, c = .int k ∧ areMarks k m = false) ∧ cl = "InvalidMarks" ∧ v = m)))
      fun v st' => v = .non ∧ ∃ k l, c = .int k ∧ m = .tup l ∧ isIn 1 8 c = true ∧ areMarks k m = true ∧ st' = st.set n (.ins "Marking" (mkObj k l)) := by
  refine we_def (ls := [some (.cell n), some c, some m, none]) rfl ?_
  unfold m_Marking_init
  walk_at "mk"
  refine we_run (r_within hc) ?_
  walk_at "mk"
  refine ⟨fun h1 => ?_, fun h1 => ?_⟩
  · walk_at "mk"
    simp at h1
    exact .inl ⟨rfl, rfl, rfl, .inl ⟨h1, rfl, rfl⟩⟩
  · simp at h1
    cases c with
    | int k =>
      walk_at "mk"
      refine we_run (r_marks hm) ?_
      walk_at "mk"
      refine ⟨fun h2 => ?_, fun h2 => ?_⟩
      · walk_at "mk"
        simp at h2
        exact .inl ⟨rfl, rfl, rfl, .inr ⟨h1, ⟨k, rfl, h2⟩, rfl, rfl⟩⟩
      · simp at h2
        cases m with
        | tup l =>
          walk_at "mk"
          refine ⟨n, [], rfl, e, rfl, by decide, ?_⟩
          have e1 := set_get (c := .ins "Marking" (putI "cells" (.int k) [])) e
          walk_at "mk"
          refine compL_pure (fun _ => true) id trivial (fun v hv => ⟨_, rfl, rfl, fun _ => ?_⟩) ?_
          · have hv' : v ∈ l := hv
            have hmk : isMark k v = true := by
              simp only [areMarks, Bool.and_eq_true, List.all_eq_true] at h2
              exact h2.2 v hv'
            cases v with
            | tup q => rfl
            | _ => simp [isMark, isAsc] at hmk
          · rw [show List.map id (List.filter (fun _ => true) ((l, (none : Option Nat)).1)) = l by simp]
            have hl : l.length ≤ 7 := by
              simp only [areMarks, Bool.and_eq_true, decide_eq_true_eq] at h2
              exact h2.1.2
            refine len_and (by omega) ?_
            walk_at "mk"
            refine ⟨n, _, rfl, e1, dat_pure _ hm, by simp [putI], ?_⟩
            rw [List.set_set, mkObj_eq]
            exact close_len (by simp) ⟨rfl, k, l, rfl, rfl, h1, h2, rfl⟩
        | _ => simp [areMarks] at h2
    | _ => simp [isIn] at h1
end Law
end
section
set_option maxHeartbeats 2000000
namespace Law
open PySem L2 MK
local macro_rules | `(tactic| walk_at "mk1") => `(tactic| first
  | with_reducible refine Rule.ok ?_ | with_reducible refine we_make ?_ | ((with_reducible refine' we_var ?hh ?_); (case hh => rfl)) | with_reducible refine eq_and rfl ?_ | ((with_reducible refine len_and ?hh ?_); (case hh => simp; done)) | with_reducible refine o_mod (by omega) ?_
  | with_reducible refine o_div (by omega) ?_ | with_reducible refine o_mul (by omega) (by omega) ?_ | ((with_reducible refine' o_ixC ?hh ?h2 ?_); (case hh => assumption); (case h2 => rfl)) | ((with_reducible refine' o_ixS ?hh ?_); (case hh => assumption))
  | ((with_reducible refine' o_ixT ?hh ?_); (case hh => assumption)) | ((with_reducible refine' o_ixL ?hh ?_); (case hh => assumption)) | ((with_reducible refine' o_ixT ?hh ?_); (case hh => rfl)) | ((with_reducible refine' o_ixL ?hh ?_); (case hh => rfl))
  | with_reducible refine o_pow (by decide) (by decide) ?_ | ((with_reducible refine' we_lenC ?hh ?_); (case hh => assumption)) | ((with_reducible refine' we_tupleC ?hh ?_); (case hh => assumption)) | (refine way_t rfl ?_) | (refine way_f rfl ?_) | ((refine' ⟨_, ?hh, ?_⟩); (case hh => rfl)))
local macro_rules | `(tactic| walk_at "mk") => `(tactic| repeat walk_at "mk1")
mutual
def veq : IV → IV → Bool
  | .non, .non => true
  | .bl a, .bl b => a == b
  | .bl a, .int b => (if a then 1 else 0) == b
  | .int a, .bl b => a == (if b then 1 else 0)
  | .int a, .int b => a == b
  | .str a, .str b => a == b
  | .tup l, .tup m => veqL l m
  | .lst l, .lst m => veqL l m
  | .lst l, .scr m => veqL l m
  | .scr l, .lst m => veqL l m
  | .scr l, .scr m => veqL l m
  | _, _ => false
def veqL : List IV → List IV → Bool
  | [], [] => true
  | x :: xs, y :: ys => veq x y && veqL xs ys
  | _, _ => false
end
mutual
def cmpb : Nat → IV → Bool
  | _, .non => true
  | _, .bl _ => true
  | _, .int _ => true
  | _, .str x => PyData.strOk x
  | n + 1, .tup l => decide (l.length ≤ 1000000) && cmpbL n l
  | n + 1, .lst l => decide (l.length ≤ 1000000) && cmpbL n l
  | n + 1, .scr l => decide (l.length ≤ 1000000) && cmpbL n l
  | _, _ => false
def cmpbL : Nat → List IV → Bool
  | _, [] => true
  | n, x :: xs => cmpb n x && cmpbL n xs
end
mutual
theorem cmpb_data : ∀ (n : Nat) (v : IV), cmpb n v = true → ∃ d, v.toD = some d ∧ d.canLay0 = true ∧ d.depth ≤ n
  | n, .non, _ => ⟨_, rfl, by simp [PyData.canLay0], by simp [PyData.depth]⟩
  | n, .bl _, _ => ⟨_, rfl, by simp [PyData.canLay0], by simp [PyData.depth]⟩
  | n, .int _, _ => ⟨_, rfl, by simp [PyData.canLay0], by simp [PyData.depth]⟩
  | n, .str x, h => ⟨_, rfl, by
    have h' : PyData.strOk x = true := by cases n <;> simpa [cmpb] using h
    simp [PyData.canLay0, h'], by simp [PyData.depth]⟩
  | 0, .tup l, h => by simp [cmpb] at h
  | 0, .lst l, h => by simp [cmpb] at h
  | 0, .scr l, h => by simp [cmpb] at h
  | n + 1, .tup l, h => by
    obtain ⟨ds, h1, h2, h3⟩ := cmpbL_data n l (by simp only [cmpb, Bool.and_eq_true] at h; exact h.2)
    exact ⟨.tuple ds, by simp [IV.toD, h1], by simpa [PyData.canLay0] using h2, by simpa [PyData.depth] using h3⟩
  | n + 1, .lst l, h => by
    obtain ⟨ds, h1, h2, h3⟩ := cmpbL_data n l (by simp only [cmpb, Bool.and_eq_true] at h; exact h.2)
    exact ⟨.list ds, by simp [IV.toD, h1], by simpa [PyData.canLay0] using h2, by simpa [PyData.depth] using h3⟩
  | n + 1, .scr l, h => by
    obtain ⟨ds, h1, h2, h3⟩ := cmpbL_data n l (by simp only [cmpb, Bool.and_eq_true] at h; exact h.2)
    exact ⟨.list ds, by simp [IV.toD, h1], by simpa [PyData.canLay0] using h2, by simpa [PyData.depth] using h3⟩
  | n, .obj .., h => by cases n <;> simp [cmpb] at h
  | n, .cell _, h => by cases n <;> simp [cmpb] at h
  | n, .exn .., h => by cases n <;> simp [cmpb] at h
theorem cmpbL_data : ∀ (n : Nat) (l : List IV), cmpbL n l = true → ∃ ds, toDL l = some ds ∧ PyData.canLayAll0 ds = true ∧ PyData.depthAll ds ≤ n
  | n, [], _ => ⟨[], rfl, by simp [PyData.canLayAll0], by simp [PyData.depthAll]⟩
  | n, x :: xs, h => by
    simp only [cmpbL, Bool.and_eq_true] at h
    obtain ⟨d, h1, h2, h3⟩ := cmpb_data n x h.1
    obtain ⟨ds, g1, g2, g3⟩ := cmpbL_data n xs h.2
    exact ⟨d :: ds, by simp [toDL, h1, g1], by simp [PyData.canLayAll0, h2, g2], by simp only [PyData.depthAll]; omega⟩
end
theorem toD_inv {b : IV} {e : PyData} (h : b.toD = some e) : (b = .non ∧ e = .none) ∨ (∃ x, b = .bl x ∧ e = .bool x) ∨ (∃ x, b = .int x ∧ e = .int x) ∨ (∃ x, b = .str x ∧ e = .str x) ∨ (∃ l ds, b = .tup l ∧ toDL l = some ds ∧ e = .tuple ds) ∨
    (∃ l ds, b = .lst l ∧ toDL l = some ds ∧ e = .list ds) ∨ (∃ l ds, b = .scr l ∧ toDL l = some ds ∧ e = .list ds) := by
  cases b with
  | non => cases h; exact .inl ⟨rfl, rfl⟩
  | bl x => cases h; exact .inr (.inl ⟨x, rfl, rfl⟩)
  | int x => cases h; exact .inr (.inr (.inl ⟨x, rfl, rfl⟩))
  | str x => cases h; exact .inr (.inr (.inr (.inl ⟨x, rfl, rfl⟩)))
  | tup l =>
    simp only [IV.toD] at h
    cases q : toDL l with
    | none => rw [q] at h; cases h
    | some ds => rw [q] at h; cases h; exact .inr (.inr (.inr (.inr (.inl ⟨l, ds, rfl, q, rfl⟩))))
  | lst l =>
    simp only [IV.toD] at h
    cases q : toDL l with
    | none => rw [q] at h; cases h
    | some ds => rw [q] at h; cases h; exact .inr (.inr (.inr (.inr (.inr (.inl ⟨l, ds, rfl, q, rfl⟩)))))
  | scr l =>
    simp only [IV.toD] at h
    cases q : toDL l with
    | none => rw [q] at h; cases h
    | some ds => rw [q] at h; cases h; exact .inr (.inr (.inr (.inr (.inr (.inr ⟨l, ds, rfl, q, rfl⟩)))))
  | _ => simp [IV.toD] at h
mutual
theorem veq_data : ∀ (d : PyData) (a b : IV) (e : PyData), a.toD = some d → b.toD = some e → PyData.eqv d e = veq a b
  | .list ds, a, b, e, h1, h2 => by
    rcases toD_inv h1 with ⟨_, h⟩ | ⟨_, _, h⟩ | ⟨_, _, h⟩ | ⟨_, _, h⟩ | ⟨_, _, _, _, h⟩ | ⟨l, ds', ha, hl, h⟩ | ⟨l, ds', ha, hl, h⟩ <;> try (cases h; done)
    all_goals
      cases h
      subst ha
      rcases toD_inv h2 with ⟨rfl, rfl⟩ | ⟨_, rfl, rfl⟩ | ⟨_, rfl, rfl⟩ | ⟨_, rfl, rfl⟩ | ⟨_, _, rfl, _, rfl⟩ | ⟨m, es, rfl, hm, rfl⟩ | ⟨m, es, rfl, hm, rfl⟩ <;> first | (simp only [PyData.eqv, veq]; done) | (simp only [PyData.eqv, veq]; exact veqL_data ds l m es hl hm)
  | .tuple ds, a, b, e, h1, h2 => by
    rcases toD_inv h1 with ⟨_, h⟩ | ⟨_, _, h⟩ | ⟨_, _, h⟩ | ⟨_, _, h⟩ | ⟨l, ds', ha, hl, h⟩ | ⟨_, _, _, _, h⟩ | ⟨_, _, _, _, h⟩ <;> try (cases h; done)
    cases h
    subst ha
    rcases toD_inv h2 with ⟨rfl, rfl⟩ | ⟨_, rfl, rfl⟩ | ⟨_, rfl, rfl⟩ | ⟨_, rfl, rfl⟩ | ⟨m, es, rfl, hm, rfl⟩ | ⟨_, _, rfl, _, rfl⟩ | ⟨_, _, rfl, _, rfl⟩ <;> first | (simp only [PyData.eqv, veq]; done) | (simp only [PyData.eqv, veq]; exact veqL_data ds l m es hl hm)
  | .none, a, b, e, h1, h2 => by
    rcases toD_inv h1 with ⟨rfl, h⟩ | ⟨_, _, h⟩ | ⟨_, _, h⟩ | ⟨_, _, h⟩ | ⟨_, _, _, _, h⟩ | ⟨_, _, _, _, h⟩ | ⟨_, _, _, _, h⟩ <;> try (cases h; done)
    rcases toD_inv h2 with ⟨rfl, rfl⟩ | ⟨_, rfl, rfl⟩ | ⟨_, rfl, rfl⟩ | ⟨_, rfl, rfl⟩ | ⟨_, _, rfl, _, rfl⟩ | ⟨_, _, rfl, _, rfl⟩ | ⟨_, _, rfl, _, rfl⟩ <;> simp only [PyData.eqv, veq]
  | .bool x, a, b, e, h1, h2 => by
    rcases toD_inv h1 with ⟨_, h⟩ | ⟨y, rfl, h⟩ | ⟨_, _, h⟩ | ⟨_, _, h⟩ | ⟨_, _, _, _, h⟩ | ⟨_, _, _, _, h⟩ | ⟨_, _, _, _, h⟩ <;> try (cases h; done)
    cases h
    rcases toD_inv h2 with ⟨rfl, rfl⟩ | ⟨_, rfl, rfl⟩ | ⟨_, rfl, rfl⟩ | ⟨_, rfl, rfl⟩ | ⟨_, _, rfl, _, rfl⟩ | ⟨_, _, rfl, _, rfl⟩ | ⟨_, _, rfl, _, rfl⟩ <;> simp only [PyData.eqv, veq]
  | .int x, a, b, e, h1, h2 => by
    rcases toD_inv h1 with ⟨_, h⟩ | ⟨_, _, h⟩ | ⟨y, rfl, h⟩ | ⟨_, _, h⟩ | ⟨_, _, _, _, h⟩ | ⟨_, _, _, _, h⟩ | ⟨_, _, _, _, h⟩ <;> try (cases h; done)
    cases h
    rcases toD_inv h2 with ⟨rfl, rfl⟩ | ⟨_, rfl, rfl⟩ | ⟨_, rfl, rfl⟩ | ⟨_, rfl, rfl⟩ | ⟨_, _, rfl, _, rfl⟩ | ⟨_, _, rfl, _, rfl⟩ | ⟨_, _, rfl, _, rfl⟩ <;> simp only [PyData.eqv, veq]
  | .str x, a, b, e, h1, h2 => by
    rcases toD_inv h1 with ⟨_, h⟩ | ⟨_, _, h⟩ | ⟨_, _, h⟩ | ⟨y, rfl, h⟩ | ⟨_, _, _, _, h⟩ | ⟨_, _, _, _, h⟩ | ⟨_, _, _, _, h⟩ <;> try (cases h; done)
    cases h
    rcases toD_inv h2 with ⟨rfl, rfl⟩ | ⟨_, rfl, rfl⟩ | ⟨_, rfl, rfl⟩ | ⟨_, rfl, rfl⟩ | ⟨_, _, rfl, _, rfl⟩ | ⟨_, _, rfl, _, rfl⟩ | ⟨_, _, rfl, _, rfl⟩ <;> simp only [PyData.eqv, veq]
  | .dict x, a, b, e, h1, h2 => by
    rcases toD_inv h1 with ⟨_, h⟩ | ⟨_, _, h⟩ | ⟨_, _, h⟩ | ⟨_, _, h⟩ | ⟨_, _, _, _, h⟩ | ⟨_, _, _, _, h⟩ | ⟨_, _, _, _, h⟩ <;> (cases h; done)
theorem veqL_data : ∀ (ds : List PyData) (l m : List IV) (es : List PyData), toDL l = some ds → toDL m = some es → PyData.eqvAll ds es = veqL l m
  | ds, [], m, es, h1, h2 => by
    cases h1
    cases m with
    | nil => cases h2; simp only [PyData.eqvAll, veqL]
    | cons y ys =>
      simp only [toDL] at h2
      split at h2
      · cases h2; simp only [PyData.eqvAll, veqL]
      · cases h2
  | [], x :: xs, m, es, h1, h2 => by
    simp only [toDL] at h1
    split at h1 <;> cases h1
  | d :: ds, x :: xs, m, es, h1, h2 => by
    simp only [toDL] at h1
    split at h1
    · rename_i d' ds' q1 q2
      cases h1
      cases m with
      | nil => cases h2; simp only [PyData.eqvAll, veqL]
      | cons y ys =>
        simp only [toDL] at h2
        split at h2
        · rename_i e' es' q3 q4
          cases h2
          simp only [PyData.eqvAll, veqL]
          rw [veq_data d x y e' q1 q3, veqL_data ds xs ys es' q2 q4]
        · cases h2
    · cases h1
end
theorem eqB_cmpb {st : Sto} {a b : IV} (ha : cmpb 64 a = true) (hb : cmpb 64 b = true) : eqB st a b = some (veq a b) := by
  obtain ⟨d, h1, h2, h3⟩ := cmpb_data 64 a ha
  obtain ⟨e, g1, g2, g3⟩ := cmpb_data 64 b hb
  have da : a.data st = some d := by cases a <;> first | exact h1 | simp [IV.toD] at h1
  have db : b.data st = some e := by cases b <;> first | exact g1 | simp [IV.toD] at g1
  unfold eqB
  rw [da, db]
  simp only [SeqAt.shaped, h2, g2, h3, g3, decide_true, Bool.and_self, and_self, if_true]
  rw [veq_data d a b e h1 g1]
theorem o_eq {st : Sto} {a b : IV} {Q : IV → Prop} (ha : cmpb 64 a = true) (hb : cmpb 64 b = true) (q : Q (.bl (veq a b))) : ∃ v, eqI st a b = some v ∧ Q v := ⟨_, by unfold eqI; rw [eqB_cmpb ha hb]; rfl, q⟩
theorem o_ne {st : Sto} {a b : IV} {Q : IV → Prop} (ha : cmpb 64 a = true) (hb : cmpb 64 b = true) (q : Q (.bl (!veq a b))) : ∃ v, neI st a b = some v ∧ Q v := ⟨_, by unfold neI; rw [eqB_cmpb ha hb]; rfl, q⟩
end Law
end
section
set_option maxHeartbeats 2000000
namespace Law
open PySem L2 MK
local macro_rules | `(tactic| walk_at "mk1") => `(tactic| first
  | with_reducible refine Rule.ok ?_ | with_reducible refine we_make ?_ | ((with_reducible refine' we_var ?hh ?_); (case hh => rfl)) | with_reducible refine eq_and rfl ?_ | ((with_reducible refine len_and ?hh ?_); (case hh => simp; done)) | with_reducible refine o_mod (by omega) ?_
  | with_reducible refine o_div (by omega) ?_ | with_reducible refine o_mul (by omega) (by omega) ?_ | ((with_reducible refine' o_ixC ?hh ?h2 ?_); (case hh => assumption); (case h2 => rfl)) | ((with_reducible refine' o_ixS ?hh ?_); (case hh => assumption))
  | ((with_reducible refine' o_ixT ?hh ?_); (case hh => assumption)) | ((with_reducible refine' o_ixL ?hh ?_); (case hh => assumption)) | ((with_reducible refine' o_ixT ?hh ?_); (case hh => rfl)) | ((with_reducible refine' o_ixL ?hh ?_); (case hh => rfl))
  | with_reducible refine o_pow (by decide) (by decide) ?_ | ((with_reducible refine' we_lenC ?hh ?_); (case hh => assumption)) | ((with_reducible refine' we_tupleC ?hh ?_); (case hh => assumption)) | (refine way_t rfl ?_) | (refine way_f rfl ?_) | ((refine' ⟨_, ?hh, ?_⟩); (case hh => rfl)))
local macro_rules | `(tactic| walk_at "mk") => `(tactic| repeat walk_at "mk1")
mutual
theorem cmpb_dat : ∀ (n : Nat) (v : IV), cmpb n v = true → dat v = true
  | n, .non, _ => rfl
  | n, .bl _, _ => rfl
  | n, .int _, _ => rfl
  | n, .str x, h => rfl
  | 0, .tup l, h => by simp [cmpb] at h
  | 0, .lst l, h => by simp [cmpb] at h
  | 0, .scr l, h => by simp [cmpb] at h
  | n + 1, .tup l, h => by simp only [dat]; exact cmpbL_dat n l (by simp only [cmpb, Bool.and_eq_true] at h; exact h.2)
  | n + 1, .lst l, h => by simp only [dat]; exact cmpbL_dat n l (by simp only [cmpb, Bool.and_eq_true] at h; exact h.2)
  | n + 1, .scr l, h => by simp only [dat]; exact cmpbL_dat n l (by simp only [cmpb, Bool.and_eq_true] at h; exact h.2)
  | n, .obj .., h => by cases n <;> simp [cmpb] at h
  | n, .cell _, h => by cases n <;> simp [cmpb] at h
  | n, .exn .., h => by cases n <;> simp [cmpb] at h
theorem cmpbL_dat : ∀ (n : Nat) (l : List IV), cmpbL n l = true → datL l = true
  | n, [], _ => rfl
  | n, x :: xs, h => by
    simp only [cmpbL, Bool.and_eq_true] at h
    simp only [datL, cmpb_dat n x h.1, cmpbL_dat n xs h.2, Bool.and_self]
end
mutual
theorem cmpb_up : ∀ (n m : Nat) (v : IV), n ≤ m → cmpb n v = true → cmpb m v = true
  | n, m, .non, _, _ => by cases m <;> rfl
  | n, m, .bl _, _, _ => by cases m <;> rfl
  | n, m, .int _, _, _ => by cases m <;> rfl
  | n, m, .str x, _, h => by
    have h' : PyData.strOk x = true := by cases n <;> simpa [cmpb] using h
    cases m <;> simpa [cmpb] using h'
  | 0, m, .tup l, _, h => by simp [cmpb] at h
  | 0, m, .lst l, _, h => by simp [cmpb] at h
  | 0, m, .scr l, _, h => by simp [cmpb] at h
  | n + 1, m, .tup l, hm, h => by
    obtain ⟨k, rfl⟩ : ∃ k, m = k + 1 := ⟨m - 1, by omega⟩
    simp only [cmpb, Bool.and_eq_true] at h ⊢
    exact ⟨h.1, cmpbL_up n k l (by omega) h.2⟩
  | n + 1, m, .lst l, hm, h => by
    obtain ⟨k, rfl⟩ : ∃ k, m = k + 1 := ⟨m - 1, by omega⟩
    simp only [cmpb, Bool.and_eq_true] at h ⊢
    exact ⟨h.1, cmpbL_up n k l (by omega) h.2⟩
  | n + 1, m, .scr l, hm, h => by
    obtain ⟨k, rfl⟩ : ∃ k, m = k + 1 := ⟨m - 1, by omega⟩
    simp only [cmpb, Bool.and_eq_true] at h ⊢
    exact ⟨h.1, cmpbL_up n k l (by omega) h.2⟩
  | n, m, .obj .., _, h => by cases n <;> simp [cmpb] at h
  | n, m, .cell _, _, h => by cases n <;> simp [cmpb] at h
  | n, m, .exn .., _, h => by cases n <;> simp [cmpb] at h
theorem cmpbL_up : ∀ (n m : Nat) (l : List IV), n ≤ m → cmpbL n l = true → cmpbL m l = true
  | n, m, [], _, _ => rfl
  | n, m, x :: xs, hm, h => by
    simp only [cmpbL, Bool.and_eq_true] at h ⊢
    exact ⟨cmpb_up n m x hm h.1, cmpbL_up n m xs hm h.2⟩
end
theorem cmpbL_iff {n : Nat} {l : List IV} : cmpbL n l = true ↔ ∀ v ∈ l, cmpb n v = true := by
  induction l with
  | nil => simp [cmpbL]
  | cons a l ih => simp [cmpbL, ih]
theorem cmpb_tup {n : Nat} {l : List IV} : cmpb (n + 1) (.tup l) = true ↔ l.length ≤ 1000000 ∧ ∀ v ∈ l, cmpb n v = true := by
  simp only [cmpb, Bool.and_eq_true, decide_eq_true_eq, cmpbL_iff]
theorem cmpb_lst {n : Nat} {l : List IV} : cmpb (n + 1) (.lst l) = true ↔ l.length ≤ 1000000 ∧ ∀ v ∈ l, cmpb n v = true := by
  simp only [cmpb, Bool.and_eq_true, decide_eq_true_eq, cmpbL_iff]
theorem veqL_nil {l : List IV} : veqL l [] = l.isEmpty := by cases l <;> rfl
def isNums (many : Int) : IV → Bool
  | .tup l => l.all (isIn 0 (many - 1))
  | _ => false
theorem filter_empty {l : List IV} {p q : IV → Bool} (h : ∀ v ∈ l, p v = !q v) : (l.filter p).isEmpty = l.all q := by
  induction l with
  | nil => rfl
  | cons a l ih =>
    have ih' := ih fun v m => h v (List.mem_cons_of_mem _ m)
    have ha := h a List.mem_cons_self
    cases q1 : q a with
    | true =>
      rw [List.filter_cons_of_neg (by rw [ha, q1]; decide), ih']
      simp [q1]
    | false =>
      rw [List.filter_cons_of_pos (by rw [ha, q1]; rfl)]
      simp [q1]
theorem r_numbers {st : Sto} {v : IV} {many : Int} (h : cmpb 60 v = true) : g_law_is_numbers [v, .int many] st = some (.val (.bl (isNums many v)), st) := by
  refine run_of (we_def (ls := [some v, some (.int many), none]) rfl ?_)
  unfold m_law_is_numbers
  cases v with
  | tup l =>
    obtain ⟨hz, hl⟩ := cmpb_tup.mp h
    walk_at "mk"
    refine compL_pure (fun v => !isIn 0 (many - 1) v) id trivial (fun v hv => ⟨_, rfl, run_of ?_, fun _ => rfl⟩) ?_
    · have hv' : v ∈ l := hv
      have d := cmpb_dat _ _ (hl v hv')
      walk_at "mk"
      refine we_run (r_whole (by cases v <;> first | rfl | simp [dat] at d)) ?_
      cases v with
      | int i =>
        walk_at "mk"
        refine ⟨fun h1 => ?_, fun h1 => ?_⟩
        · walk_at "mk"
          have h1' : i < 0 := of_decide_eq_true h1
          exact ⟨by simp [isIn]; omega, rfl⟩
        · walk_at "mk"
          have h1' : ¬ i < 0 := of_decide_eq_false h1
          exact ⟨by simp only [isIn]; rw [Bool.eq_iff_iff]; simp; omega, rfl⟩
      | obj c fs => simp [dat] at d
      | cell n => simp [dat] at d
      | exn a1 b1 c1 d1 e1 => simp [dat] at d
      | _ =>
        walk_at "mk"
        exact ⟨rfl, rfl⟩
    · rw [List.map_id]
      have hf : (List.filter (fun v => !isIn 0 (many - 1) v) l).length ≤ l.length := List.length_filter_le _ _
      refine len_and (by show (List.filter (fun v => !isIn 0 (many - 1) v) l).length ≤ _; omega) ?_
      walk_at "mk"
      refine o_eq (cmpb_up 60 64 _ (by decide) (cmpb_lst.mpr ⟨by show (List.filter (fun v => !isIn 0 (many - 1) v) l).length ≤ _; omega, fun v hv => hl v (List.mem_filter.mp hv).1⟩)) rfl (close_len rfl ⟨?_, rfl⟩)
      simp only [veq, veqL_nil, isNums]
      rw [filter_empty (q := isIn 0 (many - 1)) fun v _ => rfl]
  | obj c fs => simp [cmpb] at h
  | cell n => simp [cmpb] at h
  | exn a b c d e => simp [cmpb] at h
  | _ =>
    walk_at "mk"
    exact close_len rfl ⟨rfl, rfl⟩
end Law
end
section
set_option maxHeartbeats 2000000
namespace Law
open PySem L2 MK
local macro_rules | `(tactic| walk_at "mk1") => `(tactic| first
  | with_reducible refine Rule.ok ?_ | with_reducible refine we_make ?_ | ((with_reducible refine' we_var ?hh ?_); (case hh => rfl)) | with_reducible refine eq_and rfl ?_ | ((with_reducible refine len_and ?hh ?_); (case hh => simp; done)) | with_reducible refine o_mod (by omega) ?_
  | with_reducible refine o_div (by omega) ?_ | with_reducible refine o_mul (by omega) (by omega) ?_ | ((with_reducible refine' o_ixC ?hh ?h2 ?_); (case hh => assumption); (case h2 => rfl)) | ((with_reducible refine' o_ixS ?hh ?_); (case hh => assumption))
  | ((with_reducible refine' o_ixT ?hh ?_); (case hh => assumption)) | ((with_reducible refine' o_ixL ?hh ?_); (case hh => assumption)) | ((with_reducible refine' o_ixT ?hh ?_); (case hh => rfl)) | ((with_reducible refine' o_ixL ?hh ?_); (case hh => rfl))
  | with_reducible refine o_pow (by decide) (by decide) ?_ | ((with_reducible refine' we_lenC ?hh ?_); (case hh => assumption)) | ((with_reducible refine' we_tupleC ?hh ?_); (case hh => assumption)) | (refine way_t rfl ?_) | (refine way_f rfl ?_) | ((refine' ⟨_, ?hh, ?_⟩); (case hh => rfl)))
local macro_rules | `(tactic| walk_at "mk") => `(tactic| repeat walk_at "mk1")
def adj : List Int → Bool
  | [] => true
  | [_] => true
  | a :: b :: r => decide (a < b) && adj (b :: r)
theorem adj_pw : ∀ {ns : List Int}, adj ns = true ↔ ns.Pairwise (· < ·)
  | [] => by simp [adj]
  | [a] => by simp [adj]
  | a :: b :: r => by
    rw [adj, Bool.and_eq_true, adj_pw (ns := b :: r), decide_eq_true_eq]
    refine ⟨fun ⟨h1, h2⟩ => List.pairwise_cons.mpr ⟨fun x hx => ?_, h2⟩, fun h => ⟨(List.pairwise_cons.mp h).1 b List.mem_cons_self, (List.pairwise_cons.mp h).2⟩⟩
    rcases List.mem_cons.mp hx with e | e
    · rw [e]; exact h1
    · exact Int.lt_trans h1 ((List.pairwise_cons.mp h2).1 x e)
theorem adj_iff : ∀ {ns : List Int}, adj ns = true ↔ ∀ k, 1 ≤ k → k < ns.length → ns.getD (k - 1) 0 < ns.getD k 0
  | [] => by simp [adj]
  | [a] => by simp [adj]; intro k h1 h2; omega
  | a :: b :: r => by
    rw [adj, Bool.and_eq_true, adj_iff (ns := b :: r), decide_eq_true_eq]
    refine ⟨fun ⟨h1, h2⟩ k k1 k2 => ?_, fun h => ⟨h 1 (Nat.le_refl _) (by simp), fun k k1 k2 => ?_⟩⟩
    · cases k with
      | zero => omega
      | succ k =>
        cases k with
        | zero => exact h1
        | succ k =>
          have := h2 (k + 1) (by omega) (by simpa using k2)
          simpa using this
    · have := h (k + 1) (by omega) (by simpa using k2)
      cases k with
      | zero => omega
      | succ k => simpa using this
def pairBad (ns : List Int) : IV → Bool
  | .int k => decide (ns.getD k.toNat 0 ≤ ns.getD (k.toNat - 1) 0)
  | _ => false
theorem range_bad (ns : List Int) : (rangeI 1 ((ns.length : Int) - 1).toNat).all (fun v => !pairBad ns v) = adj ns := by
  rw [Bool.eq_iff_iff, adj_iff, List.all_eq_true]
  unfold rangeI
  refine ⟨fun h k k1 k2 => ?_, fun h v hv => ?_⟩
  · have := h (.int k) (List.mem_map.mpr ⟨k - 1, by simp; omega, by congr 1; omega⟩)
    simpa [pairBad] using this
  · obtain ⟨i, hi, rfl⟩ := List.mem_map.mp hv
    simp at hi
    have := h (1 + i) (by omega) (by omega)
    have e : (1 + (i : Int)).toNat = 1 + i := by omega
    simp only [pairBad, e]
    simpa using this
theorem ints_all {l : List IV} {p : IV → Bool} (hp : ∀ v, p v = true → isIntI v = true) (h : l.all p = true) : ∃ ns : List Int, l = ns.map .int := by
  induction l with
  | nil => exact ⟨[], rfl⟩
  | cons a l ih =>
    simp only [List.all_cons, Bool.and_eq_true] at h
    obtain ⟨ns, rfl⟩ := ih h.2
    have := hp a h.1
    cases a <;> first | (simp [isIntI] at this; done) | skip
    rename_i i
    exact ⟨i :: ns, rfl⟩
theorem at_map {ns : List Int} {k : Nat} (h : k < ns.length) : atI (ns.map IV.int) (k : Int) = some (.int (ns.getD k 0)) := by
  refine atI_get (by omega) ?_
  rw [List.getElem?_map, show ((k : Int)).toNat = k by omega, List.getElem?_eq_getElem h]
  simp [List.getD, List.getElem?_eq_getElem h]
theorem r_ascends {st : Sto} {ns : List Int} (h : ns.length ≤ 1000000) : g_law_ascends [.tup (ns.map .int)] st = some (.val (.bl (adj ns)), st) := by
  refine run_of (we_def (ls := [some (.tup (ns.map .int)), none]) rfl ?_)
  unfold m_law_ascends
  walk_at "mk"
  refine ⟨1, _, rfl, by (have := List.length_map (as := ns) IV.int); omega, ?_⟩
  have hr : ∀ v ∈ rangeI 1 ((((ns.map IV.int).length : Nat) : Int) - 1).toNat, ∃ k : Nat, v = .int k ∧ 1 ≤ k ∧ k < ns.length := fun v hv => by
    obtain ⟨i, hi, rfl⟩ := List.mem_map.mp hv
    simp at hi
    exact ⟨1 + i, by congr 1, by omega, by omega⟩
  refine compL_pure (pairBad ns) id trivial (fun v hv => ⟨_, rfl, run_of ?_, fun _ => ?_⟩) ?_
  · obtain ⟨k, rfl, k1, k2⟩ := hr v hv
    have e1 : atI (ns.map IV.int) ((k : Int) - 1) = some (.int (ns.getD (k - 1) 0)) := by
      rw [show (k : Int) - 1 = ((k - 1 : Nat) : Int) by omega]
      exact at_map (by omega)
    have e2 := at_map (ns := ns) k2
    walk_at "mk"
    exact ⟨rfl, rfl⟩
  · rfl
  · rw [List.map_id]
    have hf : (List.filter (pairBad ns) (rangeI 1 ((((ns.map IV.int).length : Nat) : Int) - 1).toNat)).length ≤ ns.length := by
      refine Nat.le_trans (List.length_filter_le _ _) ?_
      simp only [rangeI, List.length_map, List.length_range]; omega
    refine len_and (by refine Nat.le_trans hf ?_; omega) ?_
    walk_at "mk"
    refine o_eq (cmpb_up 1 64 _ (by decide) (cmpb_lst.mpr ⟨by refine Nat.le_trans hf ?_; omega, fun v hv => ?_⟩)) rfl (close_len rfl ⟨?_, rfl⟩)
    · obtain ⟨k, rfl, _⟩ := hr v (List.mem_filter.mp hv).1
      rfl
    · simp only [veq, veqL_nil]
      rw [filter_empty (q := fun v => !pairBad ns v) fun v _ => by simp]
      show IV.bl ((rangeI 1 ((((ns.map IV.int).length : Nat) : Int) - 1).toNat).all _) = _
      rw [List.length_map, range_bad]
theorem ascI_map : ∀ (ns : List Int) (least b : Int), ascI least b (ns.map .int) = ((ns.map IV.int).all (isIn least (b - 1)) && adj ns)
  | [], _, _ => rfl
  | i :: r, least, b => by
    rw [List.map_cons, ascI, ascI_map r, Bool.eq_iff_iff]
    simp only [Bool.and_eq_true, List.all_cons, adj_pw, List.pairwise_cons, List.all_eq_true, List.mem_map, forall_exists_index, and_imp, forall_apply_eq_imp_iff₂, isIn, decide_eq_true_eq]
    constructor
    · rintro ⟨⟨h1, h2⟩, h3, h4⟩
      exact ⟨⟨⟨h1, h2⟩, fun x hx => ⟨by have := (h3 x hx).1; omega, (h3 x hx).2⟩⟩, fun x hx => by have := (h3 x hx).1; omega, h4⟩
    · rintro ⟨⟨⟨h1, h2⟩, h3⟩, h4, h5⟩
      exact ⟨⟨h1, h2⟩, fun x hx => ⟨by have := h4 x hx; omega, (h3 x hx).2⟩, h5⟩
theorem r_set {st : Sto} {v : IV} {many : Int} (h : cmpb 60 v = true) : g_law_is_set [v, .int many] st = some (.val (.bl (isAsc many v)), st) := by
  refine run_of (we_def (ls := [some v, some (.int many)]) rfl ?_)
  unfold m_law_is_set
  walk_at "mk"
  refine we_run (r_numbers h) ?_
  walk_at "mk"
  refine ⟨fun h1 => ?_, fun h1 => ?_⟩
  · cases v with
    | tup l =>
      obtain ⟨ns, rfl⟩ := ints_all (fun v hv => by cases v <;> first | rfl | simp [isIn] at hv) h1
      walk_at "mk"
      refine we_run (r_ascends (by simpa using (cmpb_tup.mp h).1)) (close_len rfl ⟨?_, rfl⟩)
      simp only [isAsc, ascI_map]
      simp only [isNums] at h1
      rw [h1, Bool.true_and]
    | _ => simp [isNums] at h1
  · refine close_len rfl ⟨?_, rfl⟩
    cases v with
    | tup l =>
      simp only [isAsc]
      congr 1
      cases q : ascI 0 many l with
      | false => exact h1
      | true =>
        exfalso
        have hi : ∀ (l : List IV) (a : Int), ascI a many l = true → ∃ ns : List Int, l = ns.map .int := by
          intro l
          induction l with
          | nil => intro a _; exact ⟨[], rfl⟩
          | cons x xs ih =>
            intro a ha
            cases x <;> first | (simp [ascI] at ha; done) | skip
            rename_i i
            simp only [ascI, Bool.and_eq_true] at ha
            obtain ⟨ns, e⟩ := ih _ ha.2
            exact ⟨i :: ns, by rw [e]; rfl⟩
        obtain ⟨ns, rfl⟩ := hi l 0 q
        rw [ascI_map] at q
        simp only [isNums] at h1
        rw [h1] at q
        simp at q
    | _ => rfl
end Law
end
section
set_option maxHeartbeats 2000000
namespace Law
open PySem L2 MK
local macro_rules | `(tactic| walk_at "mk1") => `(tactic| first
  | with_reducible refine Rule.ok ?_ | with_reducible refine we_make ?_ | ((with_reducible refine' we_var ?hh ?_); (case hh => rfl)) | with_reducible refine eq_and rfl ?_ | ((with_reducible refine len_and ?hh ?_); (case hh => simp; done)) | with_reducible refine o_mod (by omega) ?_
  | with_reducible refine o_div (by omega) ?_ | with_reducible refine o_mul (by omega) (by omega) ?_ | ((with_reducible refine' o_ixC ?hh ?h2 ?_); (case hh => assumption); (case h2 => rfl)) | ((with_reducible refine' o_ixS ?hh ?_); (case hh => assumption))
  | ((with_reducible refine' o_ixT ?hh ?_); (case hh => assumption)) | ((with_reducible refine' o_ixL ?hh ?_); (case hh => assumption)) | ((with_reducible refine' o_ixT ?hh ?_); (case hh => rfl)) | ((with_reducible refine' o_ixL ?hh ?_); (case hh => rfl))
  | with_reducible refine o_pow (by decide) (by decide) ?_ | ((with_reducible refine' we_lenC ?hh ?_); (case hh => assumption)) | ((with_reducible refine' we_tupleC ?hh ?_); (case hh => assumption)) | (refine way_t rfl ?_) | (refine way_f rfl ?_) | ((refine' ⟨_, ?hh, ?_⟩); (case hh => rfl)))
local macro_rules | `(tactic| walk_at "mk") => `(tactic| repeat walk_at "mk1")
theorem Grow.take {st : Sto} {c : CV} : (st ++ [c]).take st.length = st := by simp
theorem r_len {st : Sto} {k : Int} {l : List IV} : g_Marking_len [.obj "Marking" (mkObj k l)] st = some (.val (.int l.length), st) := by
  refine run_of (we_def (ls := [some (.obj "Marking" (mkObj k l))]) rfl ?_)
  unfold m_Marking_len
  walk_at "mk"
  exact close_len rfl ⟨rfl, rfl⟩
end Law
end
section
set_option maxHeartbeats 2000000
namespace Law
open PySem L2 MK
local macro_rules | `(tactic| walk_at "mk1") => `(tactic| first
  | with_reducible refine Rule.ok ?_ | with_reducible refine we_make ?_ | ((with_reducible refine' we_var ?hh ?_); (case hh => rfl)) | with_reducible refine eq_and rfl ?_ | ((with_reducible refine len_and ?hh ?_); (case hh => simp; done)) | with_reducible refine o_mod (by omega) ?_
  | with_reducible refine o_div (by omega) ?_ | with_reducible refine o_mul (by omega) (by omega) ?_ | ((with_reducible refine' o_ixC ?hh ?h2 ?_); (case hh => assumption); (case h2 => rfl)) | ((with_reducible refine' o_ixS ?hh ?_); (case hh => assumption))
  | ((with_reducible refine' o_ixT ?hh ?_); (case hh => assumption)) | ((with_reducible refine' o_ixL ?hh ?_); (case hh => assumption)) | ((with_reducible refine' o_ixT ?hh ?_); (case hh => rfl)) | ((with_reducible refine' o_ixL ?hh ?_); (case hh => rfl))
  | with_reducible refine o_pow (by decide) (by decide) ?_ | ((with_reducible refine' we_lenC ?hh ?_); (case hh => assumption)) | ((with_reducible refine' we_tupleC ?hh ?_); (case hh => assumption)) | (refine way_t rfl ?_) | (refine way_f rfl ?_) | ((refine' ⟨_, ?hh, ?_⟩); (case hh => rfl)))
local macro_rules | `(tactic| walk_at "mk") => `(tactic| repeat walk_at "mk1")
structure OnlyN (n : Nat) (st st' : Sto) : Prop where
  len : st.length ≤ st'.length
  ne : ∀ m, m ≠ n → m < st.length → st'[m]? = st[m]?
theorem OnlyN.trans {n : Nat} {a b c : Sto} (h : OnlyN n a b) (h' : OnlyN n b c) : OnlyN n a c := ⟨Nat.le_trans h.len h'.len, fun m z l => (h'.ne m z (Nat.lt_of_lt_of_le l h.len)).trans (h.ne m z l)⟩
theorem OnlyN.of {n : Nat} {a b : Sto} (h : Only1 n a b) : OnlyN n a b := ⟨Nat.le_of_eq h.len.symm, fun m z _ => h.ne m z⟩
theorem OnlyN.app {n : Nat} {a l : Sto} : OnlyN n a (a ++ l) := ⟨by simp, fun m _ h => List.getElem?_append_left h⟩
theorem OnlyN.set {n m : Nat} {a : Sto} {c : CV} {st : Sto} (h : OnlyN n st a) (hm : st.length ≤ m) : OnlyN n st (a.set m c) := ⟨by simpa using h.len, fun j z l => by rw [List.getElem?_set_ne (by omega)]; exact h.ne j z l⟩
theorem OnlyN.take {n : Nat} {st s : Sto} (h : OnlyN n st s) : Only1 n st (s.take st.length) := ⟨by rw [List.length_take]; have := h.len; omega, fun m z => by
  by_cases hm : m < st.length
  · rw [List.getElem?_take_of_lt hm]; exact h.ne m z hm
  · rw [List.getElem?_eq_none (by rw [List.length_take]; omega), List.getElem?_eq_none (by omega)]⟩
theorem BoxAt.take {n k : Nat} {s : Sto} (h : BoxAt s n) (hn : n < k) : BoxAt (s.take k) n := by
  obtain ⟨a, b, e, r⟩ := h
  exact ⟨a, b, by rw [List.getElem?_take_of_lt hn]; exact e, r⟩
theorem BoxAt.app {n : Nat} {s l : Sto} (h : BoxAt s n) : BoxAt (s ++ l) n := by
  obtain ⟨a, b, e, r⟩ := h
  exact ⟨a, b, by rw [List.getElem?_append_left (List.getElem?_eq_some_iff.mp e).1]; exact e, r⟩
theorem BoxAt.set {n m : Nat} {s : Sto} {c : CV} (h : BoxAt s n) (hm : m ≠ n) : BoxAt (s.set m c) n := by
  obtain ⟨a, b, e, r⟩ := h
  exact ⟨a, b, by rw [List.getElem?_set_ne hm]; exact e, r⟩
theorem ins_perm {f d : List IV} {v : IV} (i : Nat) (h : f.Perm d) : (f.take i ++ [v] ++ f.drop i).Perm (d ++ [v]) := by
  have h1 : (f.take i ++ [v] ++ f.drop i).Perm (v :: f) := by
    rw [List.append_assoc]
    refine (List.perm_append_comm).trans ?_
    simp only [List.singleton_append, List.cons_append]
    refine List.Perm.cons v ?_
    refine (List.perm_append_comm).trans ?_
    rw [List.nil_append, List.take_append_drop]
  exact h1.trans ((List.Perm.cons v h).trans (List.perm_append_comm (l₁ := [v]) (l₂ := d)))
theorem pureL_ins {f : List IV} {v : IV} (i : Nat) (h : pureL f = true) (hv : v.pure = true) : pureL (f.take i ++ [v] ++ f.drop i) = true :=
  pureL_app (pureL_app (pureL_take i h) (by simp [pureL, hv])) (pureL_drop i h)
theorem r_shuffled {st : Sto} {n : Nat} {l : List IV} (hb : BoxAt st n) (hl : l.length ≤ 1000) (hp : pureL l = true) :
    we (g_law_shuffled [.cell n, .lst l]) st noX fun v st' => ∃ p, v = .lst p ∧ p.Perm l ∧ Only1 n st st' ∧ BoxAt st' n := by
  have hn := hb.lt
  refine we_def (ls := [some (.cell n), some (.lst l), none, none]) rfl ?_
  unfold m_law_shuffled
  walk_at "mk"
  refine we_newT rfl ?_
  walk_at "mk"
  refine forL_inv (fun r ls s => ∃ f d x, ls = [some (.cell n), some (.lst l), some (.cell st.length), x] ∧ s[st.length]? = some (.lst f) ∧ f.Perm d ∧ l = d ++ r ∧ BoxAt s n ∧ OnlyN n st s ∧ pureL f = true ∧ pureL r = true) ?_ ?_ _ _ _
    ⟨[], [], none, rfl, app_get, .nil, rfl, hb.app, .app, rfl, hp⟩
  · rintro ls s ⟨f, d, x, rfl, e, pm, el, hb', o, pf, _⟩
    refine ⟨trivial, ?_⟩
    walk_at "mk"
    rw [List.append_nil] at el
    exact close_new (Nat.le_refl _) e ⟨f, rfl, el ▸ pm, o.take, hb'.take hn⟩
  · rintro v r ls s ⟨f, d, x, rfl, e, pm, el, hb', o, pf, pr⟩
    simp only [pureL, Bool.and_eq_true] at pr
    have hfl : f.length ≤ 1000 := by
      rw [pm.length_eq]
      have := congrArg List.length el
      simp at this
      omega
    refine ⟨trivial, _, rfl, ?_⟩
    walk_at "mk"
    refine ⟨st.length, f, rfl, e, ?_⟩
    walk_at "mk"
    refine we_nox (r_take hb' (by omega) (by omega)) ?_
    rintro v1 s1 ⟨i, rfl, i0, i1, o1, hb1⟩
    have e1 : s1[st.length]? = some (.lst f) := by rw [o1.ne _ (by omega)]; exact e
    walk_at "mk"
    refine we_ins e1 pr.1 (by omega) i0 (by omega) ?_
    exact ⟨_, d ++ [v], some v, rfl, set_get e1, ins_perm _ pm, by rw [el]; simp, hb1.set (by omega), (o.trans (.of o1)).set (Nat.le_refl _), pureL_ins _ pf pr.1, pr.2⟩
end Law
end
section
set_option maxHeartbeats 2000000
namespace Law
open PySem L2 MK
local macro_rules | `(tactic| walk_at "mk1") => `(tactic| first
  | with_reducible refine Rule.ok ?_ | with_reducible refine we_make ?_ | ((with_reducible refine' we_var ?hh ?_); (case hh => rfl)) | with_reducible refine eq_and rfl ?_ | ((with_reducible refine len_and ?hh ?_); (case hh => simp; done)) | with_reducible refine o_mod (by omega) ?_
  | with_reducible refine o_div (by omega) ?_ | with_reducible refine o_mul (by omega) (by omega) ?_ | ((with_reducible refine' o_ixC ?hh ?h2 ?_); (case hh => assumption); (case h2 => rfl)) | ((with_reducible refine' o_ixS ?hh ?_); (case hh => assumption))
  | ((with_reducible refine' o_ixT ?hh ?_); (case hh => assumption)) | ((with_reducible refine' o_ixL ?hh ?_); (case hh => assumption)) | ((with_reducible refine' o_ixT ?hh ?_); (case hh => rfl)) | ((with_reducible refine' o_ixL ?hh ?_); (case hh => rfl))
  | with_reducible refine o_pow (by decide) (by decide) ?_ | ((with_reducible refine' we_lenC ?hh ?_); (case hh => assumption)) | ((with_reducible refine' we_tupleC ?hh ?_); (case hh => assumption)) | (refine way_t rfl ?_) | (refine way_f rfl ?_) | ((refine' ⟨_, ?hh, ?_⟩); (case hh => rfl)))
local macro_rules | `(tactic| walk_at "mk") => `(tactic| repeat walk_at "mk1")
theorem OnlyN.all {n : Nat} {st s : Sto} (h : OnlyN n st s) (hn : st.length ≤ n) : s.take st.length = st := by
  apply List.ext_getElem?
  intro m
  by_cases hm : m < st.length
  · rw [List.getElem?_take_of_lt hm]; exact h.ne m (by omega) hm
  · rw [List.getElem?_eq_none (by rw [List.length_take]; omega), List.getElem?_eq_none (by omega)]
def MarkOk (k : Int) (v : IV) : Prop := ∃ ns : List Int, v = .tup (ns.map .int) ∧ ns ≠ [] ∧ ns.Pairwise (· < ·) ∧ ns.length ≤ 8 ∧ ∀ i ∈ ns, 0 ≤ i ∧ i < k
theorem MarkOk.is {k : Int} {v : IV} (h : MarkOk k v) : isMark k v = true := by
  obtain ⟨ns, rfl, h1, h2, _, h3⟩ := h
  simp only [isMark, isAsc, ascI_map, Bool.and_eq_true, List.all_eq_true, adj_pw]
  refine ⟨⟨fun v hv => ?_, h2⟩, ?_⟩
  · obtain ⟨i, hi, rfl⟩ := List.mem_map.mp hv
    have := h3 i hi
    simp only [isIn, Bool.and_eq_true, decide_eq_true_eq]; omega
  · cases ns with
    | nil => exact absurd rfl h1
    | cons a r => rfl
theorem MarkOk.cmpb {k : Int} {v : IV} (h : MarkOk k v) : cmpb 2 v = true := by
  obtain ⟨ns, rfl, h1, h2, h4, h3⟩ := h
  refine cmpb_tup.mpr ⟨by rw [List.length_map]; omega, fun v hv => ?_⟩
  obtain ⟨i, hi, rfl⟩ := List.mem_map.mp hv
  rfl
theorem rangeI_map (lo : Int) (n : Nat) : rangeI lo n = ((List.range n).map fun (i : Nat) => lo + (i : Int)).map IV.int := by simp [rangeI]
end Law
end
section
set_option maxHeartbeats 2000000
namespace Law
open PySem L2 MK
local macro_rules | `(tactic| walk_at "mk1") => `(tactic| first
  | with_reducible refine Rule.ok ?_ | with_reducible refine we_make ?_ | ((with_reducible refine' we_var ?hh ?_); (case hh => rfl)) | with_reducible refine eq_and rfl ?_ | ((with_reducible refine len_and ?hh ?_); (case hh => simp; done)) | with_reducible refine o_mod (by omega) ?_
  | with_reducible refine o_div (by omega) ?_ | with_reducible refine o_mul (by omega) (by omega) ?_ | ((with_reducible refine' o_ixC ?hh ?h2 ?_); (case hh => assumption); (case h2 => rfl)) | ((with_reducible refine' o_ixS ?hh ?_); (case hh => assumption))
  | ((with_reducible refine' o_ixT ?hh ?_); (case hh => assumption)) | ((with_reducible refine' o_ixL ?hh ?_); (case hh => assumption)) | ((with_reducible refine' o_ixT ?hh ?_); (case hh => rfl)) | ((with_reducible refine' o_ixL ?hh ?_); (case hh => rfl))
  | with_reducible refine o_pow (by decide) (by decide) ?_ | ((with_reducible refine' we_lenC ?hh ?_); (case hh => assumption)) | ((with_reducible refine' we_tupleC ?hh ?_); (case hh => assumption)) | (refine way_t rfl ?_) | (refine way_f rfl ?_) | ((refine' ⟨_, ?hh, ?_⟩); (case hh => rfl)))
local macro_rules | `(tactic| walk_at "mk") => `(tactic| repeat walk_at "mk1")
structure OkL (d m : Nat) (l : List IV) : Prop where
  len : l.length ≤ m
  all : ∀ v ∈ l, cmpb d v = true
theorem OkL.app {d m k : Nat} {a b : List IV} (ha : OkL d m a) (hb : OkL d k b) : OkL d (m + k) (a ++ b) := ⟨by rw [List.length_append]; have := ha.len; have := hb.len; omega, fun v hv => (List.mem_append.mp hv).elim (ha.all v) (hb.all v)⟩
theorem OkL.cut {d m : Nat} {l : List IV} (h : OkL d m l) (lo hi : Option Int) : OkL d m (cutI l lo hi) := by
  unfold cutI
  refine ⟨Nat.le_trans ?_ h.len, fun v hv => h.all v (List.mem_of_mem_drop (List.mem_of_mem_take hv))⟩
  rw [List.length_take, List.length_drop]; omega
theorem OkL.one {d : Nat} {x : IV} (h : cmpb d x = true) : OkL d 1 [x] := ⟨Nat.le_refl _, fun v hv => by simp at hv; subst hv; exact h⟩
theorem OkL.tup {d m : Nat} {l : List IV} (h : OkL d m l) (hm : m ≤ 1000000) : cmpb (d + 1) (.tup l) = true := cmpb_tup.mpr ⟨Nat.le_trans h.len hm, h.all⟩
theorem OkL.lst {d m : Nat} {l : List IV} (h : OkL d m l) (hm : m ≤ 1000000) : cmpb (d + 1) (.lst l) = true := cmpb_lst.mpr ⟨Nat.le_trans h.len hm, h.all⟩
theorem OkL.up {d e m : Nat} {l : List IV} (h : OkL d m l) (hd : d ≤ e) : OkL e m l := ⟨h.len, fun v hv => cmpb_up _ _ _ hd (h.all v hv)⟩
theorem o_addOk {st : Sto} {d e m k : Nat} {l l' : List IV} {Q : IV → Prop} (h1 : OkL d m l) (h2 : OkL e k l') (h : m + k ≤ 16777216) (q : Q (.tup (l ++ l'))) : ∃ v, addI st (.tup l) (.tup l') = some v ∧ Q v := o_addT (by have := h1.len; have := h2.len; omega) q
def Tree : Nat → IV → Prop
  | 0, v => ∃ i : Int, v = .int i ∧ 0 ≤ i ∧ i ≤ 100
  | d + 1, v => ∃ l, v = .tup l ∧ l.length ≤ 100 ∧ ∀ x ∈ l, Tree d x
theorem Tree.cmpb : ∀ {d : Nat} {v : IV}, Tree d v → cmpb d v = true
  | 0, v, h => by obtain ⟨i, rfl, _⟩ := h; rfl
  | d + 1, v, h => by
    obtain ⟨l, rfl, h1, h2⟩ := h
    exact cmpb_tup.mpr ⟨by omega, fun x hx => (h2 x hx).cmpb⟩
theorem str_ok : ∀ i : Fin 101, PyData.strOk (toString (i.val : Int)) = true ∧ ((i.val : Int)).natAbs.log2 < 1920 := by decide +kernel
theorem we_str {st : Sto} {E : EX} {Q : IV → Sto → Prop} {i : Int} (h0 : 0 ≤ i) (h1 : i ≤ 100) (q : ∀ z, PyData.strOk z = true → Q (.str z) st) : we (pv1 strI [.int i]) st E Q := by
  have h := str_ok ⟨i.toNat, by omega⟩
  have e : ((i.toNat : Nat) : Int) = i := by omega
  simp only [e] at h
  exact we_pv1 (v := .str (toString i)) (by simp only [strI]; rw [if_pos h.2]) (q _ h.1)
end Law
end
section
set_option maxHeartbeats 2000000
namespace Law
open PySem L2 MK
local macro_rules | `(tactic| walk_at "mk1") => `(tactic| first
  | with_reducible refine Rule.ok ?_ | ((with_reducible refine' we_var ?hh ?_); (case hh => rfl)) | with_reducible refine eq_and rfl ?_ | ((with_reducible refine len_and ?hh ?_); (case hh => simp; done)) | with_reducible refine o_mod (by omega) ?_ | with_reducible refine o_div (by omega) ?_
  | with_reducible refine o_mul (by omega) (by omega) ?_ | ((with_reducible refine' o_ixC ?hh ?h2 ?_); (case hh => assumption); (case h2 => rfl)) | ((with_reducible refine' o_ixS ?hh ?_); (case hh => assumption)) | ((with_reducible refine' o_ixT ?hh ?_); (case hh => assumption))
  | ((with_reducible refine' o_ixL ?hh ?_); (case hh => assumption)) | ((with_reducible refine' o_ixT ?hh ?_); (case hh => rfl)) | ((with_reducible refine' o_ixL ?hh ?_); (case hh => rfl)) | with_reducible refine o_pow (by decide) (by decide) ?_
  | ((with_reducible refine' we_lenC ?hh ?_); (case hh => assumption)) | ((with_reducible refine' we_tupleC ?hh ?_); (case hh => assumption)) | (refine way_t rfl ?_) | (refine way_f rfl ?_) | ((refine' Exists.intro _ (And.intro ?hh ?_)); (case hh => rfl)))
local macro_rules | `(tactic| walk_at "mk") => `(tactic| repeat walk_at "mk1")
mutual
theorem veq_refl : ∀ v : IV, dat v = true → veq v v = true
  | .non, _ => rfl
  | .bl _, _ => by simp [veq]
  | .int _, _ => by simp [veq]
  | .str _, _ => by simp [veq]
  | .tup l, h => by simp only [veq]; exact veqL_refl l (by simpa [dat] using h)
  | .lst l, h => by simp only [veq]; exact veqL_refl l (by simpa [dat] using h)
  | .scr l, h => by simp only [veq]; exact veqL_refl l (by simpa [dat] using h)
  | .obj .., h => by simp [dat] at h
  | .cell _, h => by simp [dat] at h
  | .exn .., h => by simp [dat] at h
theorem veqL_refl : ∀ l : List IV, datL l = true → veqL l l = true
  | [], _ => rfl
  | x :: xs, h => by
    obtain ⟨h1, h2⟩ := datL_cons h
    simp only [veqL, veq_refl x h1, veqL_refl xs h2, Bool.and_self]
end
theorem we_mk {st : Sto} {E : EX} {ls : MK.Loc} {Q : IV → Sto → Prop} {ga : MA} (h : we (ga ls) st E fun a st1 => ∃ k l, a = [.int k, .tup l] ∧ dat (.tup l) = true ∧ isIn 1 8 (.int k) = true ∧ areMarks k (.tup l) = true ∧ Q (.obj "Marking" (mkObj k l)) st1) :
    we (mMake false "Marking" 3 g_Marking_init ga ls) st E Q := by
  refine we_make (we_mono h ?_)
  rintro a st1 ⟨k, l, rfl, hd, h1, h2, q⟩
  refine ⟨rfl, we_monoX (r_init rfl hd app_get) ?_ ?_⟩
  · rintro c' f v st' ⟨rfl, rfl, h | h⟩
    · rw [h1] at h; exact absurd h.1 (by decide)
    · obtain ⟨_, ⟨k', e, h3⟩, _⟩ := h
      cases e
      rw [h2] at h3; cases h3
  · rintro v st' ⟨rfl, k', l', e1, e2, _, _, rfl⟩
    cases e1
    cases e2
    refine ⟨rfl, by simp, "Marking", mkObj k l, set_get app_get, ?_⟩
    have e : ((st1 ++ [CV.ins "Marking" []]).set st1.length (.ins "Marking" (mkObj k l))).take st1.length = st1 := by simp
    rw [e]
    exact q
def CaseOk (v : IV) : Prop := ∃ c m, v = .tup [c, m] ∧ cmpb 30 c = true ∧ cmpb 30 m = true
theorem CaseOk.cmpb {v : IV} (h : CaseOk v) : cmpb 31 v = true := by
  obtain ⟨c, m, rfl, h1, h2⟩ := h
  exact cmpb_tup.mpr ⟨by simp, fun x hx => by simp at hx; rcases hx with rfl | rfl <;> assumption⟩
theorem we_tupRg {st : Sto} {E : EX} {ls : MK.Loc} {Q : IV → Sto → Prop} {ga : MA} (h : we (ga ls) st E fun l st1 => ∃ i j, rgArgs l = some (i, j) ∧ rgBounds i j = true ∧ Q (.tup (rangeI i (j - i).toNat)) st1) : we (mTupRg ga ls) st E Q :=
  we_bind (we_mono h fun l st1 ⟨i, j, e1, e2, q⟩ => ⟨_, st1, by unfold tupRgM; simp only [e1, e2, if_true]; rfl, q⟩)
end Law
end
section
set_option maxHeartbeats 2000000
namespace Law
open PySem L2 MK
local macro_rules | `(tactic| walk_at "mk1") => `(tactic| first
  | with_reducible refine Rule.ok ?_ | ((with_reducible refine' we_var ?hh ?_); (case hh => rfl)) | with_reducible refine eq_and rfl ?_ | ((with_reducible refine len_and ?hh ?_); (case hh => simp; done)) | with_reducible refine o_mod (by omega) ?_ | with_reducible refine o_div (by omega) ?_
  | with_reducible refine o_mul (by omega) (by omega) ?_ | ((with_reducible refine' o_ixC ?hh ?h2 ?_); (case hh => assumption); (case h2 => rfl)) | ((with_reducible refine' o_ixS ?hh ?_); (case hh => assumption)) | ((with_reducible refine' o_ixT ?hh ?_); (case hh => assumption))
  | ((with_reducible refine' o_ixL ?hh ?_); (case hh => assumption)) | ((with_reducible refine' o_ixT ?hh ?_); (case hh => rfl)) | ((with_reducible refine' o_ixL ?hh ?_); (case hh => rfl)) | with_reducible refine o_pow (by decide) (by decide) ?_
  | ((with_reducible refine' we_lenC ?hh ?_); (case hh => assumption)) | ((with_reducible refine' we_tupleC ?hh ?_); (case hh => assumption)) | (refine way_t rfl ?_) | (refine way_f rfl ?_) | ((refine' Exists.intro _ (And.intro ?hh ?_)); (case hh => rfl)))
local macro_rules | `(tactic| walk_at "mk") => `(tactic| repeat walk_at "mk1")
structure Mk (k : Int) (ms : List (List Int)) : Prop where
  k1 : 1 ≤ k
  k8 : k ≤ 8
  l1 : 1 ≤ ms.length
  l7 : ms.length ≤ 7
  ne : ∀ m ∈ ms, m ≠ []
  pw : ∀ m ∈ ms, m.Pairwise (· < ·)
  bd : ∀ m ∈ ms, ∀ c ∈ m, 0 ≤ c ∧ c < k
  le : ∀ m ∈ ms, m.length ≤ 8
abbrev objM (k : Int) (ms : List (List Int)) : IV := .obj "Marking" (mkObj k (ms.map tupI))
theorem Mk.get {k : Int} {ms : List (List Int)} (h : Mk k ms) {i : Int} (h0 : 0 ≤ i) (h1 : i < ms.length) : getM ms i ∈ ms := by
  unfold getM
  have : i.toNat < ms.length := by omega
  rw [List.getD_eq_getElem?_getD, List.getElem?_eq_getElem this]
  exact List.getElem_mem this
def Asc (n : Int) (ks : List Int) : Prop := ks.Pairwise (· < ·) ∧ ∀ i ∈ ks, 0 ≤ i ∧ i < n
theorem ascI_ok {n : Int} : ∀ {ks : List Int} {least : Int}, ks.Pairwise (· < ·) → (∀ i ∈ ks, least ≤ i ∧ i < n) → ascI least n (ks.map .int) = true
  | [], _, _, _ => rfl
  | a :: l, least, pw, h => by
    obtain ⟨p1, p2⟩ := List.pairwise_cons.mp pw
    have ha := h a List.mem_cons_self
    rw [List.map_cons, ascI]
    have e : isIn least (n - 1) (.int a) = true := by simp [isIn]; omega
    have r := ascI_ok (n := n) (least := a + 1) p2 fun i hi => ⟨by have := p1 i hi; omega, (h i (List.mem_cons_of_mem _ hi)).2⟩
    simp only [e, Bool.true_and]
    exact r
theorem Asc.is {n : Int} {ks : List Int} (h : Asc n ks) : isAsc n (tupI ks) = true := ascI_ok h.1 h.2
theorem Asc.len {n : Int} {ks : List Int} (h : Asc n ks) (h0 : 0 ≤ n) : (ks.length : Int) ≤ n := by
  have p : ks.Sublist (rngL n) ∨ True := .inr trivial
  have nd : ks.Nodup := h.1.imp fun q => Int.ne_of_lt q
  have := nd.length_le_of_subset (l₂ := rngL n) fun i hi => rngL_mem.mpr (h.2 i hi)
  rw [rngL_len] at this
  omega
theorem Asc.filter {n : Int} (p : Int → Bool) : Asc n ((rngL n).filter p) := ⟨rngL_pw.filter p, fun i hi => rngL_mem.mp (List.mem_filter.mp hi).1⟩
theorem Asc.nil {n : Int} : Asc n [] := ⟨List.Pairwise.nil, fun i h => by cases h⟩
theorem dat_tupI (ns : List Int) : dat (tupI ns) = true := by
  show datL (ns.map .int) = true
  induction ns with
  | nil => rfl
  | cons a l ih => simp only [List.map_cons, datL, dat, ih, Bool.and_self]
theorem r_keys {st : Sto} {k : Int} {ms : List (List Int)} {v : IV} (hk : Mk k ms) (h : dat v = true) : g_are_keys [objM k ms, v] st = some (.val (.bl (isAsc ms.length v)), st) := by
  refine run_of (we_def (ls := [some (objM k ms), some v]) rfl ?_)
  unfold m_are_keys
  have := hk.l7
  walk_at "mk"
  refine we_lenO rfl r_len (by simp; omega) ?_
  walk_at "mk"
  rw [List.length_map]
  exact we_run (r_ascending h) (close_len rfl ⟨rfl, rfl⟩)
theorem r_bits {st : Sto} {k : Int} {ms : List (List Int)} {v : IV} (h : dat v = true) : g_are_bits [objM k ms, v] st = some (.val (.bl (isAsc k v)), st) := by
  refine run_of (we_def (ls := [some (objM k ms), some v]) rfl ?_)
  unfold m_are_bits
  walk_at "mk"
  exact we_run (r_ascending h) (close_len rfl ⟨rfl, rfl⟩)
theorem r_lies {st : Sto} {a b : List Int} (h : a.length ≤ 1000) : g_lies_within [tupI a, tupI b] st = some (.val (.bl (a.all fun c => decide (c ∈ b))), st) := by
  refine run_of (we_def (ls := [some (tupI a), some (tupI b), none]) rfl ?_)
  unfold m_lies_within
  walk_at "mk"
  refine compL_map (as := a) .int (fun _ => true) (fun c => .bl (decide (c ∈ b))) trivial (fun c hc => ⟨_, rfl, by walk_at "mk"; exact ⟨rfl, rfl⟩, fun _ => by walk_at "mk"; exact ⟨rfl, rfl⟩⟩) ?_
  rw [List.filter_eq_self.mpr fun _ _ => rfl]
  refine len_and (by simp; omega) ?_
  walk_at "mk"
  refine we_allL (bs := a.map fun c => decide (c ∈ b)) ?_ (close_len rfl ⟨?_, rfl⟩)
  · have z := boolsOf_map (a.map fun c => decide (c ∈ b))
    rw [List.map_map] at z
    exact z
  · rw [List.all_map]; rfl
theorem flat_one {α : Type} (l : List α) : (l.filter fun _ => true).flatMap (fun c => [c]) = l := by
  rw [List.filter_eq_self.mpr fun _ _ => rfl]
  induction l with
  | nil => rfl
  | cons a l ih => rw [List.flatMap_cons, ih]; rfl
def fillS (k : Int) (ms : List (List Int)) (ks : List Int) : List Int := (rngL k).filter fun c => ks.any fun i => decide (c ∈ getM ms i)
theorem fill_mem {k : Int} {ms : List (List Int)} {ks : List Int} (hk : Mk k ms) (ha : Asc ms.length ks) {c : Int} : c ∈ fillS k ms ks ↔ ∃ i ∈ ks, c ∈ getM ms i := by
  unfold fillS
  rw [List.mem_filter, List.any_eq_true, rngL_mem]
  constructor
  · rintro ⟨_, i, hi, h⟩; exact ⟨i, hi, of_decide_eq_true h⟩
  · rintro ⟨i, hi, h⟩
    exact ⟨hk.bd _ (hk.get (ha.2 i hi).1 (ha.2 i hi).2) c h, i, hi, decide_eq_true h⟩
theorem fill_asc {k : Int} {ms : List (List Int)} {ks : List Int} : Asc k (fillS k ms ks) := Asc.filter _
theorem fill_sort {k : Int} {ms : List (List Int)} {ks : List Int} (hk : Mk k ms) (ha : Asc ms.length ks) : sortS (ks.flatMap (getM ms)) = fillS k ms ks := by
  refine (sortS_of fill_asc.1 fun c => ?_).symm
  rw [fill_mem hk ha, insL_mem]
  simp [List.mem_flatMap]
theorem fill_few {k : Int} {ms : List (List Int)} {ks : List Int} (hk : Mk k ms) (ha : Asc ms.length ks) : (insL [] (ks.flatMap (getM ms))).length < 64 := by
  have nd : (insL [] (ks.flatMap (getM ms))).Nodup := insL_nodup List.nodup_nil
  have := nd.length_le_of_subset (l₂ := rngL k) fun c hc => by
    rw [insL_mem] at hc
    simp only [List.not_mem_nil, false_or, List.mem_flatMap] at hc
    obtain ⟨i, hi, h⟩ := hc
    exact rngL_mem.mpr (hk.bd _ (hk.get (ha.2 i hi).1 (ha.2 i hi).2) c h)
  rw [rngL_len] at this
  have := hk.k8
  omega
theorem atI_ms {ms : List (List Int)} {i : Int} (h0 : 0 ≤ i) (h1 : i < ms.length) : atI (ms.map tupI) i = some (tupI (getM ms i)) := atI_map (f := tupI) (d := []) h0 h1
theorem r_filled {st : Sto} {k : Int} {ms : List (List Int)} {ks : List Int} (hk : Mk k ms) (ha : Asc ms.length ks) : g_filled [objM k ms, tupI ks] st = some (.val (tupI (fillS k ms ks)), st) := by
  refine run_of (we_def (ls := [some (objM k ms), some (tupI ks), none, none]) rfl ?_)
  unfold m_filled
  walk_at "mk"
  refine we_run (r_keys hk (dat_tupI ks)) ?_
  rw [ha.is]
  walk_at "mk"
  refine compB_pure (as := ks) .int (fun _ => true) (getM ms) trivial (fun i hi => ⟨_, rfl, by walk_at "mk"; exact ⟨rfl, rfl⟩, fun _ => ?_⟩) ?_
  · have hx := atI_ms (ha.2 i hi).1 (ha.2 i hi).2
    walk_at "mk"
    refine compB_pure (as := getM ms i) .int (fun _ => true) (fun c => [c]) trivial (fun c hc => ⟨_, rfl, by walk_at "mk"; exact ⟨rfl, rfl⟩, fun _ => by walk_at "mk"; exact ⟨rfl, rfl⟩⟩) ?_
    rw [flat_one]
    exact ⟨rfl, rfl⟩
  · rw [List.filter_eq_self.mpr fun _ _ => rfl]
    refine ⟨fill_few hk ha, ?_⟩
    rw [fill_sort hk ha]
    walk_at "mk"
    exact close_len rfl ⟨rfl, rfl⟩
def saysS (ms : List (List Int)) (bs : List Int) : List Int := (rngL ms.length).filter fun i => (getM ms i).all fun c => decide (c ∈ bs)
theorem says_asc {ms : List (List Int)} {bs : List Int} : Asc ms.length (saysS ms bs) := Asc.filter _
theorem r_says {st : Sto} {k : Int} {ms : List (List Int)} {bs : List Int} (hk : Mk k ms) (hb : Asc k bs) : g_says [objM k ms, tupI bs] st = some (.val (tupI (saysS ms bs)), st) := by
  refine run_of (we_def (ls := [some (objM k ms), some (tupI bs), none, none]) rfl ?_)
  unfold m_says
  walk_at "mk"
  refine we_run (r_bits (dat_tupI bs)) ?_
  rw [hb.is]
  walk_at "mk"
  rw [enumL_tups]
  refine compL_map (as := rngL ms.length) (fun i => .tup [.int i, tupI (getM ms i)]) (fun i => (getM ms i).all fun c => decide (c ∈ bs)) .int trivial (fun i hi => ⟨_, rfl, ?_, fun _ => by walk_at "mk"; exact ⟨rfl, rfl⟩⟩) ?_
  · have hi := rngL_mem.mp hi
    have := hk.le _ (hk.get hi.1 hi.2)
    walk_at "mk"
    refine we_run (r_lies (by omega)) ?_
    walk_at "mk"
    exact ⟨rfl, rfl⟩
  · have z : (((rngL ms.length).filter fun i => (getM ms i).all fun c => decide (c ∈ bs)).length) ≤ ms.length := Nat.le_trans (List.length_filter_le _ _) (by rw [rngL_len]; omega)
    have := hk.l7
    refine len_and (by rw [List.length_map]; omega) ?_
    walk_at "mk"
    exact close_len rfl ⟨rfl, rfl⟩
def wrongS (k : Int) (ms : List (List Int)) (ks : List Int) : List Int := (saysS ms (fillS k ms ks)).filter fun i => !decide (i ∈ ks)
theorem r_wrong {st : Sto} {k : Int} {ms : List (List Int)} {ks : List Int} (hk : Mk k ms) (ha : Asc ms.length ks) : g_wrong [objM k ms, tupI ks] st = some (.val (tupI (wrongS k ms ks)), st) := by
  refine run_of (we_def (ls := [some (objM k ms), some (tupI ks), none, none]) rfl ?_)
  unfold m_wrong
  walk_at "mk"
  refine we_run (r_keys hk (dat_tupI ks)) ?_
  rw [ha.is]
  walk_at "mk"
  refine we_run (r_filled hk ha) ?_
  walk_at "mk"
  refine we_run (r_says hk fill_asc) ?_
  walk_at "mk"
  refine compL_map (as := saysS ms (fillS k ms ks)) .int (fun i => !decide (i ∈ ks)) .int trivial (fun i hi => ⟨_, rfl, by walk_at "mk"; exact ⟨rfl, rfl⟩, fun _ => by walk_at "mk"; exact ⟨rfl, rfl⟩⟩) ?_
  have z : ((saysS ms (fillS k ms ks)).filter fun i => !decide (i ∈ ks)).length ≤ ms.length := Nat.le_trans (List.length_filter_le _ _) (by have := (says_asc (ms := ms) (bs := fillS k ms ks)).len (by omega); omega)
  have := hk.l7
  refine len_and (by rw [List.length_map]; omega) ?_
  walk_at "mk"
  exact close_len rfl ⟨rfl, rfl⟩
end Law
end
section
set_option maxHeartbeats 2000000
namespace Law
open PySem L2 MK
local macro_rules | `(tactic| walk_at "mk1") => `(tactic| first
  | with_reducible refine Rule.ok ?_ | ((with_reducible refine' we_var ?hh ?_); (case hh => rfl)) | with_reducible refine eq_and rfl ?_ | ((with_reducible refine len_and ?hh ?_); (case hh => simp; done)) | with_reducible refine o_mod (by omega) ?_ | with_reducible refine o_div (by omega) ?_
  | with_reducible refine o_mul (by omega) (by omega) ?_ | ((with_reducible refine' o_ixC ?hh ?h2 ?_); (case hh => assumption); (case h2 => rfl)) | ((with_reducible refine' o_ixS ?hh ?_); (case hh => assumption)) | ((with_reducible refine' o_ixT ?hh ?_); (case hh => assumption))
  | ((with_reducible refine' o_ixL ?hh ?_); (case hh => assumption)) | ((with_reducible refine' o_ixT ?hh ?_); (case hh => rfl)) | ((with_reducible refine' o_ixL ?hh ?_); (case hh => rfl)) | with_reducible refine o_pow (by decide) (by decide) ?_
  | ((with_reducible refine' we_lenC ?hh ?_); (case hh => assumption)) | ((with_reducible refine' we_tupleC ?hh ?_); (case hh => assumption)) | (refine way_t rfl ?_) | (refine way_f rfl ?_) | ((refine' Exists.intro _ (And.intro ?hh ?_)); (case hh => rfl)))
local macro_rules | `(tactic| walk_at "mk") => `(tactic| repeat walk_at "mk1")
theorem cmpb_tupI {n : Nat} {ns : List Int} (h : ns.length ≤ 1000000) : cmpb (n + 1) (tupI ns) = true := by
  refine cmpb_tup.mpr ⟨by rw [List.length_map]; exact h, fun v hv => ?_⟩
  obtain ⟨i, _, rfl⟩ := List.mem_map.mp hv
  cases n <;> rfl
theorem o_neS {st : Sto} {a : IV} {Q : IV → Prop} (h : cmpb 64 a = true) (q : Q (.bl false)) : ∃ v, neI st a a = some v ∧ Q v := by
  refine o_ne h h ?_
  rw [veq_refl _ (cmpb_dat _ _ h)]
  exact q
theorem Mk.marks {k : Int} {ms : List (List Int)} (h : Mk k ms) : areMarks k (.tup (ms.map tupI)) = true := by
  simp only [areMarks, Bool.and_eq_true, decide_eq_true_eq, List.all_eq_true]
  refine ⟨⟨by rw [List.length_map]; exact h.l1, by rw [List.length_map]; exact h.l7⟩, fun v hv => ?_⟩
  obtain ⟨m, hm, rfl⟩ := List.mem_map.mp hv
  exact MarkOk.is ⟨m, rfl, h.ne m hm, h.pw m hm, h.le m hm, h.bd m hm⟩
theorem Mk.cmpb {k : Int} {ms : List (List Int)} (h : Mk k ms) {n : Nat} : cmpb (n + 2) (.tup (ms.map tupI)) = true := by
  refine cmpb_tup.mpr ⟨by rw [List.length_map]; have := h.l7; omega, fun v hv => ?_⟩
  obtain ⟨m, hm, rfl⟩ := List.mem_map.mp hv
  exact cmpb_tupI (by have := h.le m hm; omega)
theorem drop_rng {n : Int} {j : Nat} {x : Int} {xs : List Int} (h : (rngL n).drop j = x :: xs) : x = j ∧ xs = (rngL n).drop (j + 1) ∧ (j : Int) < n := by
  have hj : j < (rngL n).length := by
    rcases Nat.lt_or_ge j (rngL n).length with z | z
    · exact z
    · rw [List.drop_of_length_le z] at h; cases h
  rw [List.drop_eq_getElem_cons hj] at h
  obtain ⟨h1, h2⟩ := List.cons.inj h
  rw [rngL_len] at hj
  refine ⟨?_, h2.symm, by omega⟩
  rw [← h1]
  simp [rngL]
theorem Asc.up {n : Int} {ks : List Int} (h : Asc n ks) : Asc (n + 1) ks := ⟨h.1, fun i hi => by have := h.2 i hi; omega⟩
theorem Asc.snoc {n : Int} {ks : List Int} (h : Asc n ks) (h0 : 0 ≤ n) : Asc (n + 1) (ks ++ [n]) := by
  refine ⟨List.pairwise_append.mpr ⟨h.1, List.pairwise_singleton _ _, fun a ha b hb => ?_⟩, fun i hi => ?_⟩
  · rw [List.mem_singleton.mp hb]; exact (h.2 a ha).2
  · rcases List.mem_append.mp hi with hi | hi
    · have := h.2 i hi; omega
    · rw [List.mem_singleton.mp hi]; omega
theorem r_all_sets {st : Sto} {n : Int} (h0 : 0 ≤ n) (h1 : n ≤ 8) : we (g_law_all_sets [.int n]) st noX fun v st' => st' = st ∧ ∃ F : List (List Int), v = .lst (F.map tupI) ∧ F.length ≤ 256 ∧ ∀ ks ∈ F, Asc n ks := by
  refine we_def (ls := [some (.int n), none, none, none]) rfl ?_
  unfold m_law_all_sets
  walk_at "mk"
  refine ⟨⟨by omega, by omega⟩, ?_⟩
  rw [rangeI_rng]
  refine forL_inv (fun r ls s => s = st ∧ ∃ (j : Nat) (F : List (List Int)) (x2 : Option IV), r = ((rngL n).drop j).map .int ∧ j ≤ n.toNat ∧ ls = [some (.int n), some (.lst (F.map tupI)), x2, none] ∧ F.head? = some [] ∧ F.length = 2 ^ j ∧ ∀ ks ∈ F, Asc j ks) ?_ ?_ _ _ _ ⟨rfl, 0, [[]], none, by simp, Nat.zero_le _, rfl, rfl, rfl, fun ks hk => by rw [List.mem_singleton.mp hk]; exact Asc.nil⟩
  · rintro ls s ⟨rfl, j, F, x2, hr, hle, rfl, hh, hl, hF⟩
    have hj : n ≤ j := by
      have z : (rngL n).length ≤ j := by
        rcases Nat.lt_or_ge j (rngL n).length with z | z
        · rw [List.drop_eq_getElem_cons z] at hr; cases hr
        · exact z
      rw [rngL_len] at z
      omega
    refine ⟨trivial, ?_⟩
    walk_at "mk"
    have hl2 : F ≠ [] := fun z => by rw [z] at hh; cases hh
    refine we_sortT rfl hl2 (.inl hh) ?_
    walk_at "mk"
    refine close_len rfl ⟨rfl, sortLL F, rfl, ?_, fun ks hk => ?_⟩
    · rw [(sortLL_perm F).length_eq, hl]
      exact Nat.pow_le_pow_right (n := 2) (by decide) (by omega : j ≤ 8)
    · have := hF ks ((sortLL_perm F).mem_iff.mp hk)
      exact ⟨this.1, fun i hi => by have := this.2 i hi; omega⟩
  · rintro v r ls s ⟨rfl, j, F, x2, hr, hle, rfl, hh, hl, hF⟩
    cases hd : (rngL n).drop j with
    | nil => rw [hd] at hr; cases hr
    | cons x xs =>
      rw [hd] at hr
      cases hr
      obtain ⟨e1, e2, hj⟩ := drop_rng hd
      subst e1 e2
      have b8 : 2 ^ j ≤ 256 := Nat.pow_le_pow_right (n := 2) (by decide) (by omega : j ≤ 8)
      refine ⟨trivial, _, rfl, ?_⟩
      walk_at "mk"
      refine compL_map (as := F) tupI (fun _ => true) (fun ks => tupI (ks ++ [(j : Int)])) trivial (fun ks hk => ⟨_, rfl, by walk_at "mk"; exact ⟨rfl, rfl⟩, fun _ => ?_⟩) ?_
      · have := (hF ks hk).len (by omega)
        walk_at "mk"
        refine o_addT (by rw [List.length_map]; show _ + 1 ≤ _; omega) ?_
        exact ⟨by simp, rfl⟩
      · rw [List.filter_eq_self.mpr fun _ _ => rfl]
        refine len_and (by rw [List.length_map]; omega) ?_
        walk_at "mk"
        refine ⟨_, _, rfl, rfl, by rw [List.length_map, List.length_map]; omega, ?_⟩
        walk_at "mk"
        refine ⟨rfl, j + 1, F ++ F.map fun ks => ks ++ [(j : Int)], some (.int j), rfl, by omega, by simp [Function.comp_def], ?_, ?_, fun ks hk => ?_⟩
        · cases F with
          | nil => cases hh
          | cons a F => exact hh
        · rw [List.length_append, List.length_map, hl, Nat.pow_succ]; omega
        · rw [Int.natCast_add]
          rcases List.mem_append.mp hk with hk | hk
          · exact (hF ks hk).up
          · obtain ⟨ks', hk', rfl⟩ := List.mem_map.mp hk
            exact (hF ks' hk').snoc (by omega)
end Law
end
section
set_option maxHeartbeats 2000000
namespace Law
open PySem L2 MK
local macro_rules | `(tactic| walk_at "mk1") => `(tactic| first
  | with_reducible refine Rule.ok ?_ | ((with_reducible refine' we_var ?hh ?_); (case hh => rfl)) | with_reducible refine eq_and rfl ?_ | ((with_reducible refine len_and ?hh ?_); (case hh => simp; done)) | with_reducible refine o_mod (by omega) ?_ | with_reducible refine o_div (by omega) ?_
  | with_reducible refine o_mul (by omega) (by omega) ?_ | ((with_reducible refine' o_ixC ?hh ?h2 ?_); (case hh => assumption); (case h2 => rfl)) | ((with_reducible refine' o_ixS ?hh ?_); (case hh => assumption)) | ((with_reducible refine' o_ixT ?hh ?_); (case hh => assumption))
  | ((with_reducible refine' o_ixL ?hh ?_); (case hh => assumption)) | ((with_reducible refine' o_ixT ?hh ?_); (case hh => rfl)) | ((with_reducible refine' o_ixL ?hh ?_); (case hh => rfl)) | with_reducible refine o_pow (by decide) (by decide) ?_
  | ((with_reducible refine' we_lenC ?hh ?_); (case hh => assumption)) | ((with_reducible refine' we_tupleC ?hh ?_); (case hh => assumption)) | (refine way_t rfl ?_) | (refine way_f rfl ?_) | ((refine' Exists.intro _ (And.intro ?hh ?_)); (case hh => rfl)))
local macro_rules | `(tactic| walk_at "mk") => `(tactic| repeat walk_at "mk1")
variable {k : Int} {ms : List (List Int)} {ks bs : List Int}
theorem says_mem {i : Int} : i ∈ saysS ms bs ↔ (0 ≤ i ∧ i < ms.length) ∧ ∀ c ∈ getM ms i, c ∈ bs := by
  unfold saysS
  rw [List.mem_filter, rngL_mem, List.all_eq_true]
  simp only [decide_eq_true_eq]
end Law
end
section
set_option maxHeartbeats 2000000
namespace Law
open PySem L2 MK
local macro_rules | `(tactic| walk_at "mk1") => `(tactic| first
  | with_reducible refine Rule.ok ?_ | ((with_reducible refine' we_var ?hh ?_); (case hh => rfl)) | with_reducible refine eq_and rfl ?_ | ((with_reducible refine len_and ?hh ?_); (case hh => simp; done)) | with_reducible refine o_mod (by omega) ?_ | with_reducible refine o_div (by omega) ?_
  | with_reducible refine o_mul (by omega) (by omega) ?_ | ((with_reducible refine' o_ixC ?hh ?h2 ?_); (case hh => assumption); (case h2 => rfl)) | ((with_reducible refine' o_ixS ?hh ?_); (case hh => assumption)) | ((with_reducible refine' o_ixT ?hh ?_); (case hh => assumption))
  | ((with_reducible refine' o_ixL ?hh ?_); (case hh => assumption)) | ((with_reducible refine' o_ixT ?hh ?_); (case hh => rfl)) | ((with_reducible refine' o_ixL ?hh ?_); (case hh => rfl)) | with_reducible refine o_pow (by decide) (by decide) ?_
  | ((with_reducible refine' we_lenC ?hh ?_); (case hh => assumption)) | ((with_reducible refine' we_tupleC ?hh ?_); (case hh => assumption)) | (refine way_t rfl ?_) | (refine way_f rfl ?_) | ((refine' Exists.intro _ (And.intro ?hh ?_)); (case hh => rfl)))
local macro_rules | `(tactic| walk_at "mk") => `(tactic| repeat walk_at "mk1")
theorem cmpb_pair {x : Str} {v : IV} (hx : cmpb 63 (.str x) = true) (h : cmpb 63 v = true) : cmpb 64 (.tup [.str x, v]) = true := by
  refine cmpb_tup.mpr ⟨by simp, fun w hw => ?_⟩
  simp only [List.mem_cons, List.not_mem_nil, or_false] at hw
  rcases hw with rfl | rfl
  · exact hx
  · exact h
end Law
end
section
set_option maxHeartbeats 2000000
namespace Law
open PySem L2 MK
local macro_rules | `(tactic| walk_at "mk1") => `(tactic| first
  | with_reducible refine Rule.ok ?_ | ((with_reducible refine' we_var ?hh ?_); (case hh => rfl)) | with_reducible refine eq_and rfl ?_ | ((with_reducible refine len_and ?hh ?_); (case hh => simp; done)) | with_reducible refine o_mod (by omega) ?_ | with_reducible refine o_div (by omega) ?_
  | with_reducible refine o_mul (by omega) (by omega) ?_ | ((with_reducible refine' o_ixC ?hh ?h2 ?_); (case hh => assumption); (case h2 => rfl)) | ((with_reducible refine' o_ixS ?hh ?_); (case hh => assumption)) | ((with_reducible refine' o_ixT ?hh ?_); (case hh => assumption))
  | ((with_reducible refine' o_ixL ?hh ?_); (case hh => assumption)) | ((with_reducible refine' o_ixT ?hh ?_); (case hh => rfl)) | ((with_reducible refine' o_ixL ?hh ?_); (case hh => rfl)) | with_reducible refine o_pow (by decide) (by decide) ?_
  | ((with_reducible refine' we_lenC ?hh ?_); (case hh => assumption)) | ((with_reducible refine' we_tupleC ?hh ?_); (case hh => assumption)) | (refine way_t rfl ?_) | (refine way_f rfl ?_) | ((refine' Exists.intro _ (And.intro ?hh ?_)); (case hh => rfl)))
local macro_rules | `(tactic| walk_at "mk") => `(tactic| repeat walk_at "mk1")
theorem we_anyL {st : Sto} {E : EX} {Q : IV → Sto → Prop} {l : List IV} {bs : List Bool} (e : boolsOf l = some bs) (q : Q (.bl (bs.any id)) st) : we (pv1 anyI [.lst l]) st E Q := we_pv1 (by simp only [anyI, boolsAt, seqL, lstOf, Option.bind, e]; rfl) q
variable {st : Sto} {k : Int} {ms : List (List Int)} {ks bs : List Int} {i : Int} {v w : IV}
end Law
end
section
set_option maxHeartbeats 2000000
namespace Law
open PySem L2 MK
local macro_rules | `(tactic| walk_at "mk1") => `(tactic| first
  | with_reducible refine Rule.ok ?_ | ((with_reducible refine' we_var ?hh ?_); (case hh => rfl)) | with_reducible refine eq_and rfl ?_ | ((with_reducible refine len_and ?hh ?_); (case hh => simp; done)) | with_reducible refine o_mod (by omega) ?_ | with_reducible refine o_div (by omega) ?_
  | with_reducible refine o_mul (by omega) (by omega) ?_ | ((with_reducible refine' o_ixC ?hh ?h2 ?_); (case hh => assumption); (case h2 => rfl)) | ((with_reducible refine' o_ixS ?hh ?_); (case hh => assumption)) | ((with_reducible refine' o_ixT ?hh ?_); (case hh => assumption))
  | ((with_reducible refine' o_ixL ?hh ?_); (case hh => assumption)) | ((with_reducible refine' o_ixT ?hh ?_); (case hh => rfl)) | ((with_reducible refine' o_ixL ?hh ?_); (case hh => rfl)) | with_reducible refine o_pow (by decide) (by decide) ?_
  | ((with_reducible refine' we_lenC ?hh ?_); (case hh => assumption)) | ((with_reducible refine' we_tupleC ?hh ?_); (case hh => assumption)) | (refine way_t rfl ?_) | (refine way_f rfl ?_) | ((refine' Exists.intro _ (And.intro ?hh ?_)); (case hh => rfl)))
local macro_rules | `(tactic| walk_at "mk") => `(tactic| repeat walk_at "mk1")
theorem we_sumL {ns : List Int} {st : Sto} {E : EX} {Q : IV → Sto → Prop} (q : Q (.int ns.sum) st) : we (pv1 sumI [.lst (ns.map .int)]) st E Q :=
  we_pv1 (by unfold sumI intsAt; show Option.map _ ((some (ns.map IV.int)).bind intsOf) = _; rw [Option.bind_some, intsOf_map]; rfl) q
theorem we_comb {g : MA} {fb : ME} {ls : MK.Loc} {st : Sto} {E : EX} {QS : Src → Sto → Prop} (h : we (g ls) st E fun l st1 => ∃ n, l = [.int n] ∧ (0 ≤ n ∧ n ≤ 7) ∧ we (fb ls) st1 E fun v st2 => ∃ r, v = .int r ∧ (0 ≤ r ∧ r ≤ n) ∧ QS (combI n.toNat r.toNat, none) st2) : we (mComb g fb ls) st E QS := by
  refine we_bind (we_mono h fun l st1 h => ?_)
  obtain ⟨n, rfl, hn, h⟩ := h
  dsimp only
  rw [if_pos hn]
  refine we_bind (we_mono h fun v st2 h => ?_)
  obtain ⟨r, rfl, hr, q⟩ := h
  exact ⟨.val (combI n.toNat r.toNat, none), st2, by dsimp only; rw [if_pos hr], q⟩
def combZ (n r : Nat) : List (List Int) := (combL n r).map fun ix => ix.map fun (j : Nat) => (j : Int)
theorem combI_eq (n r : Nat) : combI n r = (combZ n r).map tupI := by
  unfold combI combZ tupI
  rw [List.map_map]
  refine List.map_congr_left fun ix _ => ?_
  simp [Function.comp_def]
theorem combL_asc : ∀ n, n < 8 → ∀ r, r < 8 → r ≤ n → (combL n r).all (fun ix => decide (ix.Pairwise (· < ·)) && ix.all fun j => decide (j < n)) = true := by decide +kernel
theorem combZ_asc {n r : Nat} (hn : n ≤ 7) (hr : r ≤ n) : ∀ ks ∈ combZ n r, Asc n ks := fun ks hk => by
  unfold combZ at hk
  obtain ⟨ix, hx, rfl⟩ := List.mem_map.mp hk
  have h := List.all_eq_true.mp (combL_asc n (by omega) r (by omega) hr) ix hx
  simp only [Bool.and_eq_true, List.all_eq_true, decide_eq_true_eq] at h
  obtain ⟨h1, h2⟩ := h
  refine ⟨List.pairwise_map.mpr (h1.imp fun h => by omega), fun i hi => ?_⟩
  obtain ⟨j, hj, rfl⟩ := List.mem_map.mp hi
  have := h2 j hj
  omega
def foundF (r : Nat) : Nat → List (List Int)
  | 0 => [[]]
  | j + 1 => foundF r j ++ ((foundF r j).filter fun ks => decide ((ks.length : Int) < r)).map fun ks => ks ++ [(j : Int)]
def pickF (r : Nat) (F : List (List Int)) : List (List Int) := F.filter fun ks => decide ((ks.length : Int) = r)
def setsChk (n r : Nat) : Bool := (combZ n r).isPerm (pickF r (foundF r n)) && decide ((combZ n r).Pairwise fun a b => ltL b a = false) && !(pickF r (foundF r n)).isEmpty
theorem sets_chk : ∀ n, n < 8 → ∀ r, r < 8 → r ≤ n → setsChk n r = true := by decide +kernel
theorem comb_len : ∀ n, n < 8 → ∀ r, r < 8 → r ≤ n → (combZ n r).length ≤ 128 := by decide +kernel
end Law
end
section
set_option maxHeartbeats 2000000
namespace Law
open PySem L2 MK
local macro_rules | `(tactic| walk_at "mk1") => `(tactic| first
  | with_reducible refine Rule.ok ?_ | ((with_reducible refine' we_var ?hh ?_); (case hh => rfl)) | with_reducible refine eq_and rfl ?_ | ((with_reducible refine len_and ?hh ?_); (case hh => simp; done)) | with_reducible refine o_mod (by omega) ?_ | with_reducible refine o_div (by omega) ?_
  | with_reducible refine o_mul (by omega) (by omega) ?_ | ((with_reducible refine' o_ixC ?hh ?h2 ?_); (case hh => assumption); (case h2 => rfl)) | ((with_reducible refine' o_ixS ?hh ?_); (case hh => assumption)) | ((with_reducible refine' o_ixT ?hh ?_); (case hh => assumption))
  | ((with_reducible refine' o_ixL ?hh ?_); (case hh => assumption)) | ((with_reducible refine' o_ixT ?hh ?_); (case hh => rfl)) | ((with_reducible refine' o_ixL ?hh ?_); (case hh => rfl)) | with_reducible refine o_pow (by decide) (by decide) ?_
  | ((with_reducible refine' we_lenC ?hh ?_); (case hh => assumption)) | ((with_reducible refine' we_tupleC ?hh ?_); (case hh => assumption)) | (refine way_t rfl ?_) | (refine way_f rfl ?_) | ((refine' Exists.intro _ (And.intro ?hh ?_)); (case hh => rfl)))
local macro_rules | `(tactic| walk_at "mk") => `(tactic| repeat walk_at "mk1")
theorem found_len (r : Nat) : ∀ j, (foundF r j).length ≤ 2 ^ j
  | 0 => Nat.le_refl 1
  | j + 1 => by
    show (foundF r j ++ ((foundF r j).filter _).map _).length ≤ _
    rw [List.length_append, List.length_map, Nat.pow_succ]
    have := found_len r j
    have h := List.length_filter_le (fun ks : List Int => decide ((ks.length : Int) < r)) (foundF r j)
    omega
theorem found_mem (r : Nat) : ∀ j, ∀ ks ∈ foundF r j, ks.length ≤ j
  | 0, ks, h => by rw [List.mem_singleton.mp h]; exact Nat.le_refl 0
  | j + 1, ks, h => by
    rcases List.mem_append.mp h with h | h
    · have := found_mem r j ks h; omega
    · obtain ⟨k', h', rfl⟩ := List.mem_map.mp h
      have := found_mem r j k' (List.mem_filter.mp h').1
      rw [List.length_append]; simp; omega
def totS (k : Int) (ms : List (List Int)) (r : Nat) : Int := ((combZ ms.length r).map fun ks => ((wrongS k ms ks).length : Int)).sum
theorem r_total {st : Sto} {k : Int} {ms : List (List Int)} {r : Nat} (hk : Mk k ms) (hr : r ≤ ms.length) : g_wrong_total [objM k ms, .int r] st = some (.val (.int (totS k ms r)), st) := by
  refine run_of (we_def (ls := [some (objM k ms), some (.int r), none]) rfl ?_)
  unfold m_wrong_total
  have l7 := hk.l7
  walk_at "mk"
  refine we_lenO rfl r_len (by simp; omega) ?_
  walk_at "mk"
  rw [List.length_map]
  refine we_run (r_within rfl) ?_
  have hi : isIn 0 (ms.length : Int) (.int r) = true := by simp [isIn]; omega
  rw [hi]
  walk_at "mk"
  refine we_comb ?_
  walk_at "mk"
  refine we_lenO rfl r_len (by simp; omega) ?_
  walk_at "mk"
  rw [List.length_map]
  refine ⟨⟨by omega, by omega⟩, ?_⟩
  walk_at "mk"
  refine ⟨⟨by omega, by omega⟩, ?_⟩
  rw [Int.toNat_natCast, Int.toNat_natCast, combI_eq]
  refine compL_map (as := combZ ms.length r) tupI (fun _ => true) (fun ks => .int ((wrongS k ms ks).length : Int)) trivial (fun ks hc => ⟨_, rfl, by walk_at "mk"; exact ⟨rfl, rfl⟩, fun _ => ?_⟩) ?_
  · walk_at "mk"
    refine we_run (r_wrong hk (combZ_asc (by omega) hr ks hc)) ?_
    walk_at "mk"
    exact ⟨by simp, rfl⟩
  · rw [List.filter_eq_self.mpr fun _ _ => rfl]
    have hl := comb_len ms.length (by omega) r (by omega) hr
    refine len_and (by rw [List.length_map]; omega) ?_
    walk_at "mk"
    have e : (combZ ms.length r).map (fun ks => IV.int ((wrongS k ms ks).length : Int)) = ((combZ ms.length r).map fun ks => ((wrongS k ms ks).length : Int)).map .int := by rw [List.map_map]; rfl
    rw [e]
    refine we_sumL ?_
    exact close_len rfl ⟨rfl, rfl⟩
end Law
end
section
set_option maxHeartbeats 2000000
namespace Law
open PySem L2 MK
local macro_rules | `(tactic| walk_at "mk1") => `(tactic| first
  | with_reducible refine Rule.ok ?_ | ((with_reducible refine' we_var ?hh ?_); (case hh => rfl)) | with_reducible refine eq_and rfl ?_ | ((with_reducible refine len_and ?hh ?_); (case hh => simp; done)) | with_reducible refine o_mod (by omega) ?_ | with_reducible refine o_div (by omega) ?_
  | with_reducible refine o_mul (by omega) (by omega) ?_ | ((with_reducible refine' o_ixC ?hh ?h2 ?_); (case hh => assumption); (case h2 => rfl)) | ((with_reducible refine' o_ixS ?hh ?_); (case hh => assumption)) | ((with_reducible refine' o_ixT ?hh ?_); (case hh => assumption))
  | ((with_reducible refine' o_ixL ?hh ?_); (case hh => assumption)) | ((with_reducible refine' o_ixT ?hh ?_); (case hh => rfl)) | ((with_reducible refine' o_ixL ?hh ?_); (case hh => rfl)) | with_reducible refine o_pow (by decide) (by decide) ?_
  | ((with_reducible refine' we_lenC ?hh ?_); (case hh => assumption)) | ((with_reducible refine' we_tupleC ?hh ?_); (case hh => assumption)) | (refine way_t rfl ?_) | (refine way_f rfl ?_) | ((refine' Exists.intro _ (And.intro ?hh ?_)); (case hh => rfl)))
local macro_rules | `(tactic| walk_at "mk") => `(tactic| repeat walk_at "mk1")
def chT (a b : Nat) : Int := (([[1], [1, 1], [1, 2, 1], [1, 3, 3, 1], [1, 4, 6, 4, 1], [1, 5, 10, 10, 5, 1], [1, 6, 15, 20, 15, 6, 1], [1, 7, 21, 35, 35, 21, 7, 1], [1, 8, 28, 56, 70, 56, 28, 8, 1], [1, 9, 36, 84, 126, 126, 84, 36, 9, 1],
  [1, 10, 45, 120, 210, 252, 210, 120, 45, 10, 1], [1, 11, 55, 165, 330, 462, 462, 330, 165, 55, 11, 1], [1, 12, 66, 220, 495, 792, 924, 792, 495, 220, 66, 12, 1]] : List (List Int)).getD a []).getD b 0
theorem chT_b : ∀ a, a < 13 → ∀ b, b < 13 → 0 ≤ chT a b ∧ chT a b ≤ 924 := by decide +kernel
theorem comb_chT : ∀ a, a < 13 → ∀ b, b < 13 → PySem.W.mcComb (a : Nat) (b : Nat) = chT a b := by decide +kernel
def chP (k : Nat) : Nat → Int
  | 0 => 1
  | j + 1 => chP k j * ((k : Int) - j) / ((j : Int) + 1)
theorem chP_chT : ∀ a, a < 13 → ∀ b, b < 13 → chP a b = chT a b := by decide +kernel
theorem r_choose {st : Sto} {k r : Nat} (hk : k < 13) (hr : r < 13) : g_law_choose [.int k, .int r] st = some (.val (.int (chT k r)), st) := by
  refine run_of (we_def (ls := [some (.int k), some (.int r), none, none]) rfl ?_)
  unfold m_law_choose
  walk_at "mk"
  refine ⟨⟨by omega, by omega⟩, ?_⟩
  rw [rangeI_rng]
  refine forL_inv (fun q ls s => s = st ∧ ∃ (j : Nat) (x3 : Option IV), q = ((rngL r).drop j).map .int ∧ j ≤ r ∧ ls = [some (.int k), some (.int r), some (.int (chP k j)), x3]) ?_ ?_ _ _ _ ⟨rfl, 0, none, by simp, Nat.zero_le _, rfl⟩
  · rintro ls s ⟨rfl, j, x2, hq, hle, rfl⟩
    have hj : r = j := by
      have z : (rngL r).length ≤ j := by
        rcases Nat.lt_or_ge j (rngL r).length with z | z
        · rw [List.drop_eq_getElem_cons z] at hq; cases hq
        · exact z
      rw [rngL_len] at z
      omega
    subst hj
    refine ⟨trivial, ?_⟩
    walk_at "mk"
    exact close_len rfl ⟨by rw [chP_chT k hk r hr], rfl⟩
  · rintro v q ls s ⟨rfl, j, x2, hq, hle, rfl⟩
    cases hd : (rngL r).drop j with
    | nil => rw [hd] at hq; cases hq
    | cons x xs =>
      rw [hd] at hq
      cases hq
      obtain ⟨e1, e2, hj⟩ := drop_rng hd
      subst e1 e2
      refine ⟨trivial, _, rfl, ?_⟩
      have b := chT_b k hk j (by omega)
      rw [← chP_chT k hk j (by omega)] at b
      walk_at "mk"
      exact ⟨rfl, j + 1, some (.int j), rfl, by omega, by simp [chP]⟩
end Law
end
section
set_option maxHeartbeats 2000000
namespace Law
open PySem L2 MK
local macro_rules | `(tactic| walk_at "mk1") => `(tactic| first
  | with_reducible refine Rule.ok ?_ | ((with_reducible refine' we_var ?hh ?_); (case hh => rfl)) | with_reducible refine eq_and rfl ?_ | ((with_reducible refine len_and ?hh ?_); (case hh => simp; done)) | with_reducible refine o_mod (by omega) ?_ | with_reducible refine o_div (by omega) ?_
  | with_reducible refine o_mul (by omega) (by omega) ?_ | ((with_reducible refine' o_ixC ?hh ?h2 ?_); (case hh => assumption); (case h2 => rfl)) | ((with_reducible refine' o_ixS ?hh ?_); (case hh => assumption)) | ((with_reducible refine' o_ixT ?hh ?_); (case hh => assumption))
  | ((with_reducible refine' o_ixL ?hh ?_); (case hh => assumption)) | ((with_reducible refine' o_ixT ?hh ?_); (case hh => rfl)) | ((with_reducible refine' o_ixL ?hh ?_); (case hh => rfl)) | with_reducible refine o_pow (by decide) (by decide) ?_
  | ((with_reducible refine' we_lenC ?hh ?_); (case hh => assumption)) | ((with_reducible refine' we_tupleC ?hh ?_); (case hh => assumption)) | (refine way_t rfl ?_) | (refine way_f rfl ?_) | ((refine' Exists.intro _ (And.intro ?hh ?_)); (case hh => rfl)))
local macro_rules | `(tactic| walk_at "mk") => `(tactic| repeat walk_at "mk1")
variable {st : Sto} {E : EX} {ls : MK.Loc} {Q : IV → Sto → Prop} {QF : Fl → Sto → Prop} {fa fb fo fi fe : ME} {c : Bool}
theorem we_combM {a b : Int} (h : 0 ≤ a ∧ 0 ≤ b ∧ a < 9000 ∧ b < 9000) (q : Q (.int (PySem.W.mcComb a b)) st) : we (combM [.int a, .int b]) st E Q := ⟨.val (.int (PySem.W.mcComb a b)), st, by unfold combM; simp only [h, and_self, if_true], q⟩
theorem we_gcdM {a b : Int} (q : Q (.int ((Nat.gcd a.natAbs b.natAbs : Nat) : Int)) st) : we (gcdM [.int a, .int b]) st E Q := ⟨.val (.int ((Nat.gcd a.natAbs b.natAbs : Nat) : Int)), st, rfl, q⟩
end Law
end
section
set_option maxHeartbeats 2000000
namespace Law
open PySem L2 MK
local macro_rules | `(tactic| walk_at "mk1") => `(tactic| first
  | with_reducible refine Rule.ok ?_ | ((with_reducible refine' we_var ?hh ?_); (case hh => rfl)) | with_reducible refine eq_and rfl ?_ | ((with_reducible refine len_and ?hh ?_); (case hh => simp; done)) | with_reducible refine o_mod (by omega) ?_ | with_reducible refine o_div (by omega) ?_
  | with_reducible refine o_mul (by omega) (by omega) ?_ | ((with_reducible refine' o_ixC ?hh ?h2 ?_); (case hh => assumption); (case h2 => rfl)) | ((with_reducible refine' o_ixS ?hh ?_); (case hh => assumption)) | ((with_reducible refine' o_ixT ?hh ?_); (case hh => assumption))
  | ((with_reducible refine' o_ixL ?hh ?_); (case hh => assumption)) | ((with_reducible refine' o_ixT ?hh ?_); (case hh => rfl)) | ((with_reducible refine' o_ixL ?hh ?_); (case hh => rfl)) | with_reducible refine o_pow (by decide) (by decide) ?_
  | ((with_reducible refine' we_lenC ?hh ?_); (case hh => assumption)) | ((with_reducible refine' we_tupleC ?hh ?_); (case hh => assumption)) | (refine way_t rfl ?_) | (refine way_f rfl ?_) | ((refine' Exists.intro _ (And.intro ?hh ?_)); (case hh => rfl)))
local macro_rules | `(tactic| walk_at "mk") => `(tactic| repeat walk_at "mk1")
variable {c e m : Nat}
def pairV (p : Int × Int) : IV := .tup [.int p.1, .int p.2]
theorem gcd_b {a b : Int} (h : 0 < b) : (0 : Int) < (Nat.gcd a.natAbs b.natAbs : Nat) ∧ ((Nat.gcd a.natAbs b.natAbs : Nat) : Int) ≤ b := by
  have h1 : 0 < Nat.gcd a.natAbs b.natAbs := Nat.gcd_pos_of_pos_right _ (by omega)
  have h2 : Nat.gcd a.natAbs b.natAbs ≤ b.natAbs := Nat.gcd_le_right _ (by omega)
  omega
theorem r_ratio {st : Sto} {a b : Int} (h : 0 < b) (h2 : b < 2 ^ 100) : g_ratio [.int a, .int b] st = some (.val (pairV (a / (Nat.gcd a.natAbs b.natAbs : Nat), b / (Nat.gcd a.natAbs b.natAbs : Nat))), st) := by
  refine run_of (we_def (ls := [some (.int a), some (.int b), none]) rfl ?_)
  unfold m_ratio
  have := gcd_b (a := a) h
  walk_at "mk"
  refine we_gcdM ?_
  generalize ((Nat.gcd a.natAbs b.natAbs : Nat) : Int) = g at this
  walk_at "mk"
  exact close_len rfl ⟨rfl, rfl⟩
end Law
end
section
set_option maxHeartbeats 2000000
namespace Law
open PySem L2 MK
local macro_rules | `(tactic| walk_at "mk1") => `(tactic| first
  | with_reducible refine Rule.ok ?_ | ((with_reducible refine' we_var ?hh ?_); (case hh => rfl)) | with_reducible refine eq_and rfl ?_ | ((with_reducible refine len_and ?hh ?_); (case hh => simp; done)) | with_reducible refine o_mod (by omega) ?_ | with_reducible refine o_div (by omega) ?_
  | with_reducible refine o_mul (by omega) (by omega) ?_ | ((with_reducible refine' o_ixC ?hh ?h2 ?_); (case hh => assumption); (case h2 => rfl)) | ((with_reducible refine' o_ixS ?hh ?_); (case hh => assumption)) | ((with_reducible refine' o_ixT ?hh ?_); (case hh => assumption))
  | ((with_reducible refine' o_ixL ?hh ?_); (case hh => assumption)) | ((with_reducible refine' o_ixT ?hh ?_); (case hh => rfl)) | ((with_reducible refine' o_ixL ?hh ?_); (case hh => rfl)) | with_reducible refine o_pow (by decide) (by decide) ?_
  | ((with_reducible refine' we_lenC ?hh ?_); (case hh => assumption)) | ((with_reducible refine' we_tupleC ?hh ?_); (case hh => assumption)) | (refine way_t rfl ?_) | (refine way_f rfl ?_) | ((refine' Exists.intro _ (And.intro ?hh ?_)); (case hh => rfl)))
local macro_rules | `(tactic| walk_at "mk") => `(tactic| repeat walk_at "mk1")
def combZ8 (n r : Nat) : List (List Int) := (combL8 n r).map fun ix => ix.map fun (j : Nat) => (j : Int)
theorem combI8_eq (n r : Nat) : combI8 n r = (combZ8 n r).map tupI := by
  unfold combI8 combZ8 tupI
  rw [List.map_map]
  refine List.map_congr_left fun ix _ => ?_
  simp [Function.comp_def]
theorem we_listC {c : Bool} {g : MA} {fb : ME} {ls : MK.Loc} {st : Sto} {E : EX} {Q : IV → Sto → Prop} (h : we (g ls) st E fun l st1 => ∃ n, l = [.int n] ∧ (0 ≤ n ∧ n ≤ 8) ∧ we (fb ls) st1 E fun v st2 => ∃ r, v = .int r ∧ (0 ≤ r ∧ r ≤ n) ∧ we (newL c (combI8 n.toNat r.toNat)) st2 E Q) : we (mListC c g fb ls) st E Q := by
  refine we_bind (we_mono h fun l st1 h => ?_)
  obtain ⟨n, rfl, hn, h⟩ := h
  dsimp only
  rw [if_pos hn]
  refine we_bind (we_mono h fun v st2 h => ?_)
  obtain ⟨r, rfl, hr, q⟩ := h
  obtain ⟨o, s3, e, q⟩ := q
  exact ⟨o, s3, by dsimp only; rw [if_pos hr]; exact e, q⟩
theorem r_chosen8 {st : Sto} {n r : Nat} (hn : n ≤ 8) (hr : r ≤ n) : g_chosen [.int n, .int r] st = some (.val (.lst ((combZ8 n r).map tupI)), st) := by
  refine run_of (we_def (ls := [some (.int n), some (.int r)]) rfl ?_)
  unfold m_chosen
  walk_at "mk"
  refine we_listC ?_
  walk_at "mk"
  refine ⟨⟨by omega, by omega⟩, ?_⟩
  walk_at "mk"
  refine ⟨⟨by omega, by omega⟩, ?_⟩
  rw [Int.toNat_natCast, Int.toNat_natCast, combI8_eq]
  walk_at "mk"
  exact close_len rfl ⟨rfl, rfl⟩
theorem r_free {st : Sto} {k : Int} {ms : List (List Int)} {r : Nat} (hk : Mk k ms) (hr : r ≤ ms.length) : g_is_free [objM k ms, .int r] st = some (.val (.bl (totS k ms r == 0)), st) := by
  refine run_of (we_def (ls := [some (objM k ms), some (.int r)]) rfl ?_)
  unfold m_is_free
  walk_at "mk"
  refine we_run (r_total hk hr) ?_
  walk_at "mk"
  exact close_len rfl ⟨rfl, rfl⟩
end Law
end
section
set_option maxHeartbeats 2000000
namespace Law
open PySem L2 MK
local macro_rules | `(tactic| walk_at "mk1") => `(tactic| first
  | with_reducible refine Rule.ok ?_ | ((with_reducible refine' we_var ?hh ?_); (case hh => rfl)) | with_reducible refine eq_and rfl ?_ | ((with_reducible refine len_and ?hh ?_); (case hh => simp; done)) | with_reducible refine o_mod (by omega) ?_ | with_reducible refine o_div (by omega) ?_
  | with_reducible refine o_mul (by omega) (by omega) ?_ | ((with_reducible refine' o_ixC ?hh ?h2 ?_); (case hh => assumption); (case h2 => rfl)) | ((with_reducible refine' o_ixS ?hh ?_); (case hh => assumption)) | ((with_reducible refine' o_ixT ?hh ?_); (case hh => assumption))
  | ((with_reducible refine' o_ixL ?hh ?_); (case hh => assumption)) | ((with_reducible refine' o_ixT ?hh ?_); (case hh => rfl)) | ((with_reducible refine' o_ixL ?hh ?_); (case hh => rfl)) | with_reducible refine o_pow (by decide) (by decide) ?_
  | ((with_reducible refine' we_lenC ?hh ?_); (case hh => assumption)) | ((with_reducible refine' we_tupleC ?hh ?_); (case hh => assumption)) | (refine way_t rfl ?_) | (refine way_f rfl ?_) | ((refine' Exists.intro _ (And.intro ?hh ?_)); (case hh => rfl)))
local macro_rules | `(tactic| walk_at "mk") => `(tactic| repeat walk_at "mk1")
theorem combZ_perm {n r : Nat} (hn : n ≤ 7) (hr : r ≤ n) : (combZ n r).Perm (pickF r (foundF r n)) := by
  have h := sets_chk n (by omega) r (by omega) hr
  unfold setsChk at h
  simp only [Bool.and_eq_true, List.isPerm_iff] at h
  exact h.1.1
theorem asc_last {j : Nat} {ks : List Int} (h : Asc ((j + 1 : Nat) : Int) ks) : Asc (j : Int) ks ∨ ∃ is, ks = is ++ [(j : Int)] ∧ Asc (j : Int) is := by
  by_cases hj : (j : Int) ∈ ks
  · right
    obtain ⟨is, os, e⟩ := List.append_of_mem hj
    subst e
    have hp := List.pairwise_append.mp h.1
    have ho : os = [] := by
      cases os with
      | nil => rfl
      | cons a l =>
        have h1 := (List.pairwise_cons.mp hp.2.1).1 a List.mem_cons_self
        have h2 := (h.2 a (by simp)).2
        omega
    subst ho
    refine ⟨is, rfl, hp.1, fun i hi => ?_⟩
    have h1 := hp.2.2 i hi (j : Int) (by simp)
    exact ⟨(h.2 i (by simp [hi])).1, h1⟩
  · left
    refine ⟨h.1, fun i hi => ?_⟩
    have := h.2 i hi
    have : i ≠ (j : Int) := fun z => hj (z ▸ hi)
    omega
theorem found_all (r : Nat) : ∀ (j : Nat) (ks : List Int), Asc (j : Int) ks → ks.length ≤ r → ks ∈ foundF r j
  | 0, ks, h, _ => by
    cases ks with
    | nil => exact List.mem_singleton.mpr rfl
    | cons a l => have := h.2 a List.mem_cons_self; omega
  | j + 1, ks, h, hl => by
    show ks ∈ foundF r j ++ ((foundF r j).filter fun ks => decide ((ks.length : Int) < r)).map fun ks => ks ++ [(j : Int)]
    rcases asc_last h with h' | ⟨is, rfl, h'⟩
    · exact List.mem_append_left _ (found_all r j ks h' hl)
    · rw [List.length_append] at hl
      simp at hl
      refine List.mem_append_right _ (List.mem_map.mpr ⟨is, List.mem_filter.mpr ⟨found_all r j is h' (by omega), by simp; omega⟩, rfl⟩)
theorem combZ_mem {n r : Nat} (hn : n ≤ 7) (hr : r ≤ n) {ks : List Int} : ks ∈ combZ n r ↔ Asc n ks ∧ ks.length = r := by
  constructor
  · intro h
    refine ⟨combZ_asc hn hr ks h, ?_⟩
    have h2 := (combZ_perm hn hr).mem_iff.mp h
    have := (List.mem_filter.mp h2).2
    simp at this
    omega
  · rintro ⟨h, rfl⟩
    exact (combZ_perm hn hr).mem_iff.mpr (List.mem_filter.mpr ⟨found_all _ n ks h (Nat.le_refl _), by simp⟩)
theorem cut_take {l : List IV} {q : Int} (h : 0 ≤ q) : cutI l none (some q) = l.take q.toNat := by
  unfold cutI
  have e1 : HT.sIx l.length 0 none = 0 := rfl
  have e2 : HT.sIx l.length l.length (some q) = min q.toNat l.length := by
    show (if q < 0 then _ else min q.toNat l.length) = _
    rw [if_neg (by omega)]
  rw [e1, e2, List.drop_zero, Nat.sub_zero]
  rcases Nat.le_total q.toNat l.length with h | h
  · rw [Nat.min_eq_left h]
  · rw [Nat.min_eq_right h, List.take_length, List.take_of_length_le h]
end Law
end
section
set_option maxHeartbeats 2000000
namespace Law
open PySem L2 MK
local macro_rules | `(tactic| walk_at "mk1") => `(tactic| first
  | with_reducible refine Rule.ok ?_ | ((with_reducible refine' we_var ?hh ?_); (case hh => rfl)) | with_reducible refine eq_and rfl ?_ | ((with_reducible refine len_and ?hh ?_); (case hh => simp; done)) | with_reducible refine o_mod (by omega) ?_ | with_reducible refine o_div (by omega) ?_
  | with_reducible refine o_mul (by omega) (by omega) ?_ | ((with_reducible refine' o_ixC ?hh ?h2 ?_); (case hh => assumption); (case h2 => rfl)) | ((with_reducible refine' o_ixS ?hh ?_); (case hh => assumption)) | ((with_reducible refine' o_ixT ?hh ?_); (case hh => assumption))
  | ((with_reducible refine' o_ixL ?hh ?_); (case hh => assumption)) | ((with_reducible refine' o_ixT ?hh ?_); (case hh => rfl)) | ((with_reducible refine' o_ixL ?hh ?_); (case hh => rfl)) | with_reducible refine o_pow (by decide) (by decide) ?_
  | ((with_reducible refine' we_lenC ?hh ?_); (case hh => assumption)) | ((with_reducible refine' we_tupleC ?hh ?_); (case hh => assumption)) | (refine way_t rfl ?_) | (refine way_f rfl ?_) | ((refine' Exists.intro _ (And.intro ?hh ?_)); (case hh => rfl)))
local macro_rules | `(tactic| walk_at "mk") => `(tactic| repeat walk_at "mk1")
theorem perm_map {α β : Type} {f : α → β} {p q : List β} (h : p.Perm q) : ∀ {L : List α}, q = L.map f → ∃ ms : List α, ms.Perm L ∧ p = ms.map f := by
  induction h with
  | nil => intro L e; have := List.map_eq_nil_iff.mp e.symm; subst this; exact ⟨[], .nil, rfl⟩
  | cons x _ ih =>
    intro L e
    cases L with
    | nil => cases e
    | cons a L =>
      cases e
      obtain ⟨ms, h1, rfl⟩ := ih rfl
      exact ⟨a :: ms, h1.cons a, rfl⟩
  | swap x y l =>
    intro L e
    match L, e with
    | a :: b :: L, e =>
      cases e
      exact ⟨b :: a :: L, .swap a b L, rfl⟩
  | trans _ _ ih1 ih2 =>
    intro L e
    obtain ⟨ms, h1, e1⟩ := ih2 e
    obtain ⟨ms2, h2, e2⟩ := ih1 e1
    exact ⟨ms2, h2.trans h1, e2⟩
end Law
end
section
set_option maxHeartbeats 2000000
namespace Law
open PySem L2 MK
local macro_rules | `(tactic| walk_at "mk1") => `(tactic| first
  | with_reducible refine Rule.ok ?_ | ((with_reducible refine' we_var ?hh ?_); (case hh => rfl)) | with_reducible refine eq_and rfl ?_ | ((with_reducible refine len_and ?hh ?_); (case hh => simp; done)) | with_reducible refine o_mod (by omega) ?_ | with_reducible refine o_div (by omega) ?_
  | with_reducible refine o_mul (by omega) (by omega) ?_ | ((with_reducible refine' o_ixC ?hh ?h2 ?_); (case hh => assumption); (case h2 => rfl)) | ((with_reducible refine' o_ixS ?hh ?_); (case hh => assumption)) | ((with_reducible refine' o_ixT ?hh ?_); (case hh => assumption))
  | ((with_reducible refine' o_ixL ?hh ?_); (case hh => assumption)) | ((with_reducible refine' o_ixT ?hh ?_); (case hh => rfl)) | ((with_reducible refine' o_ixL ?hh ?_); (case hh => rfl)) | with_reducible refine o_pow (by decide) (by decide) ?_
  | ((with_reducible refine' we_lenC ?hh ?_); (case hh => assumption)) | ((with_reducible refine' we_tupleC ?hh ?_); (case hh => assumption)) | (refine way_t rfl ?_) | (refine way_f rfl ?_) | ((refine' Exists.intro _ (And.intro ?hh ?_)); (case hh => rfl)))
local macro_rules | `(tactic| walk_at "mk") => `(tactic| repeat walk_at "mk1")
def rowW (least hi : Int) : List IV → Bool
  | [] => true
  | .int i :: r => isIn least hi (.int i) && rowW i hi r
  | _ :: _ => false
def isRow (b : Int) : IV → Bool
  | .tup l => rowW 0 (2 ^ b.toNat - 1) l
  | _ => false
def tlen : IV → Nat
  | .tup l => l.length
  | _ => 0
def tsum (l : List IV) : Nat := (l.map tlen).sum
def areRows (r b : Int) : IV → Bool
  | .tup l => decide ((l.length : Int) = r) && l.all (isRow b) && decide (tsum l ≤ 24)
  | _ => false
theorem isRow_tup {b : Int} {v : IV} (h : isRow b v = true) : ∃ l, v = .tup l := by
  cases v <;> first | exact ⟨_, rfl⟩ | (simp [isRow] at h)
def tbObj (r b : Int) (l : List IV) : List (Str × IV) := [("rooms", .int r), ("bits", .int b), ("rows", .tup l)]
end Law
end
section
set_option maxHeartbeats 2000000
namespace Law
open PySem L2 MK
local macro_rules | `(tactic| walk_at "mk1") => `(tactic| first
  | with_reducible refine Rule.ok ?_ | ((with_reducible refine' we_var ?hh ?_); (case hh => rfl)) | with_reducible refine eq_and rfl ?_ | ((with_reducible refine len_and ?hh ?_); (case hh => simp; done)) | with_reducible refine o_mod (by omega) ?_ | with_reducible refine o_div (by omega) ?_
  | with_reducible refine o_mul (by omega) (by omega) ?_ | ((with_reducible refine' o_ixC ?hh ?h2 ?_); (case hh => assumption); (case h2 => rfl)) | ((with_reducible refine' o_ixS ?hh ?_); (case hh => assumption)) | ((with_reducible refine' o_ixT ?hh ?_); (case hh => assumption))
  | ((with_reducible refine' o_ixL ?hh ?_); (case hh => assumption)) | ((with_reducible refine' o_ixT ?hh ?_); (case hh => rfl)) | ((with_reducible refine' o_ixL ?hh ?_); (case hh => rfl)) | with_reducible refine o_pow (by decide) (by decide) ?_
  | ((with_reducible refine' we_lenC ?hh ?_); (case hh => assumption)) | ((with_reducible refine' we_tupleC ?hh ?_); (case hh => assumption)) | (refine way_t rfl ?_) | (refine way_f rfl ?_) | ((refine' Exists.intro _ (And.intro ?hh ?_)); (case hh => rfl)))
local macro_rules | `(tactic| walk_at "mk") => `(tactic| repeat walk_at "mk1")
structure Tb (r b : Int) (rows : List (List Int)) : Prop where
  room : r = 1 ∨ r = 2 ∨ r = 4 ∨ r = 8
  bits : 0 ≤ b ∧ b ≤ 5
  len : (rows.length : Int) = r
  pw : ∀ row ∈ rows, row.Pairwise (· ≤ ·)
  bd : ∀ row ∈ rows, ∀ x ∈ row, 0 ≤ x ∧ x < 2 ^ b.toNat
  sum : (rows.map List.length).sum ≤ 24
abbrev objT (r b : Int) (rows : List (List Int)) : IV := .obj "Table" (tbObj r b (rows.map tupI))
theorem rowW_inv {hi : Int} : ∀ {l : List IV} {least : Int}, rowW least hi l = true → ∃ ns : List Int, l = ns.map .int ∧ ns.Pairwise (· ≤ ·) ∧ ∀ x ∈ ns, least ≤ x ∧ x ≤ hi
  | [], _, _ => ⟨[], rfl, .nil, fun _ h => by cases h⟩
  | v :: l, least, h => by
    cases v with
    | int i =>
      simp only [rowW, Bool.and_eq_true] at h
      obtain ⟨ns, rfl, p, q⟩ := rowW_inv h.2
      have hi := h.1
      simp [isIn] at hi
      refine ⟨i :: ns, rfl, List.pairwise_cons.mpr ⟨fun x hx => (q x hx).1, p⟩, fun x hx => ?_⟩
      rcases List.mem_cons.mp hx with rfl | hx
      · exact hi
      · have := q x hx; omega
    | _ => simp [rowW] at h
theorem tsum_tup (rows : List (List Int)) : tsum (rows.map tupI) = (rows.map List.length).sum := by
  unfold tsum
  rw [List.map_map]
  congr 1
  refine List.map_congr_left fun m _ => ?_
  simp [tlen]
theorem Tb.of {r b : Int} {v : IV} (hr : r = 1 ∨ r = 2 ∨ r = 4 ∨ r = 8) (hb : 0 ≤ b ∧ b ≤ 5) (h : areRows r b v = true) : ∃ rows : List (List Int), v = .tup (rows.map tupI) ∧ Tb r b rows := by
  cases v with
  | tup l =>
    simp only [areRows, Bool.and_eq_true, List.all_eq_true, decide_eq_true_eq] at h
    obtain ⟨⟨hl, ha⟩, hs⟩ := h
    have : ∃ rows : List (List Int), l = rows.map tupI ∧ ∀ m ∈ rows, m.Pairwise (· ≤ ·) ∧ ∀ x ∈ m, 0 ≤ x ∧ x < 2 ^ b.toNat := by
      clear hl hs
      induction l with
      | nil => exact ⟨[], rfl, fun m hm => by cases hm⟩
      | cons a l ih =>
        obtain ⟨rows, rfl, h2⟩ := ih fun v hv => ha v (List.mem_cons_of_mem _ hv)
        have h1 := ha a List.mem_cons_self
        obtain ⟨q, rfl⟩ := isRow_tup h1
        obtain ⟨ns, rfl, p1, p2⟩ := rowW_inv h1
        refine ⟨ns :: rows, rfl, fun m hm => ?_⟩
        rcases List.mem_cons.mp hm with rfl | hm
        · exact ⟨p1, fun x hx => by have := p2 x hx; omega⟩
        · exact h2 m hm
    obtain ⟨rows, rfl, h2⟩ := this
    rw [List.length_map] at hl
    rw [tsum_tup] at hs
    exact ⟨rows, rfl, ⟨hr, hb, hl, fun m hm => (h2 m hm).1, fun m hm => (h2 m hm).2, hs⟩⟩
  | _ => simp [areRows] at h
theorem Tb.row_len {r b : Int} {rows : List (List Int)} (h : Tb r b rows) : ∀ row ∈ rows, row.length ≤ 24 := fun row hr => by
  have : ∀ l : List Nat, ∀ x ∈ l, x ≤ l.sum := fun l => by
    induction l with
    | nil => intro x hx; cases hx
    | cons a l ih =>
      intro x hx
      simp only [List.sum_cons]
      rcases List.mem_cons.mp hx with rfl | hx
      · omega
      · have := ih x hx; omega
  exact Nat.le_trans (this _ _ (List.mem_map.mpr ⟨row, hr, rfl⟩)) h.sum
theorem Tb.r8 {r b : Int} {rows : List (List Int)} (h : Tb r b rows) : 1 ≤ r ∧ r ≤ 8 := by have := h.room; omega
end Law
end
section
set_option maxHeartbeats 2000000
namespace Law
open PySem L2 MK
local macro_rules | `(tactic| walk_at "mk1") => `(tactic| first
  | with_reducible refine Rule.ok ?_ | ((with_reducible refine' we_var ?hh ?_); (case hh => rfl)) | with_reducible refine eq_and rfl ?_ | ((with_reducible refine len_and ?hh ?_); (case hh => simp; done)) | with_reducible refine o_mod (by omega) ?_ | with_reducible refine o_div (by omega) ?_
  | with_reducible refine o_mul (by omega) (by omega) ?_ | ((with_reducible refine' o_ixC ?hh ?h2 ?_); (case hh => assumption); (case h2 => rfl)) | ((with_reducible refine' o_ixS ?hh ?_); (case hh => assumption)) | ((with_reducible refine' o_ixT ?hh ?_); (case hh => assumption))
  | ((with_reducible refine' o_ixL ?hh ?_); (case hh => assumption)) | ((with_reducible refine' o_ixT ?hh ?_); (case hh => rfl)) | ((with_reducible refine' o_ixL ?hh ?_); (case hh => rfl)) | with_reducible refine o_pow (by decide) (by decide) ?_
  | ((with_reducible refine' we_lenC ?hh ?_); (case hh => assumption)) | ((with_reducible refine' we_tupleC ?hh ?_); (case hh => assumption)) | (refine way_t rfl ?_) | (refine way_f rfl ?_) | ((refine' Exists.intro _ (And.intro ?hh ?_)); (case hh => rfl)))
local macro_rules | `(tactic| walk_at "mk") => `(tactic| repeat walk_at "mk1")
def placeF (r b n : Int) : Int × Int := (n % r, n / r % 2 ^ b.toNat)
theorem pow_pos5 {b : Int} (h : 0 ≤ b ∧ b ≤ 5) : 0 < (2 : Int) ^ b.toNat ∧ (2 : Int) ^ b.toNat ≤ 32 := by
  have : b.toNat ≤ 5 := by omega
  have : b.toNat = 0 ∨ b.toNat = 1 ∨ b.toNat = 2 ∨ b.toNat = 3 ∨ b.toNat = 4 ∨ b.toNat = 5 := by omega
  rcases this with e | e | e | e | e | e <;> rw [e] <;> decide
def rowsP (r : Int) (ps : List (Int × Int)) : List (List Int) := (rngL r).map fun a => sortI ((ps.filter fun p => decide (p.1 = a)).map (·.2))
theorem rowsP_len {r : Int} (h : 1 ≤ r) (ps : List (Int × Int)) : ((rowsP r ps).length : Int) = r := by unfold rowsP; rw [List.length_map, rngL_len]; omega
theorem sum_le_filter {r : Int} (ps : List (Int × Int)) : ((rowsP r ps).map List.length).sum ≤ ps.length := by
  unfold rowsP
  rw [List.map_map]
  have : ∀ l : List Int, l.Nodup → ((l.map fun a => (ps.filter fun p => decide (p.1 = a)).length).sum) ≤ (ps.filter fun p => decide (p.1 ∈ l)).length := fun l => by
    induction l with
    | nil => intro _; simp
    | cons a l ih =>
      intro nd
      obtain ⟨n1, n2⟩ := List.nodup_cons.mp nd
      have h := ih n2
      simp only [List.map_cons, List.sum_cons]
      have e : (ps.filter fun p => decide (p.1 = a)).length + (ps.filter fun p => decide (p.1 ∈ l)).length = (ps.filter fun p => decide (p.1 ∈ a :: l)).length := by
        clear h ih
        induction ps with
        | nil => rfl
        | cons p ps ihp =>
          simp only [List.filter_cons, List.mem_cons]
          by_cases h1 : p.1 = a
          · have h2 : p.1 ∉ l := fun z => n1 (h1 ▸ z)
            simp only [h1, decide_true, if_true, true_or, List.length_cons]
            simp only [h1] at h2
            simp only [h2, decide_false, Bool.false_eq_true, if_false]
            simp only [List.mem_cons] at ihp
            omega
          · by_cases h2 : p.1 ∈ l
            · simp only [h1, h2, decide_true, decide_false, Bool.false_eq_true, if_false, if_true, or_true, List.length_cons]
              simp only [List.mem_cons] at ihp
              omega
            · simp only [h1, h2, decide_false, Bool.false_eq_true, if_false, or_self]
              simp only [List.mem_cons] at ihp
              exact ihp
      omega
  have h := this (rngL r) (rngL_pw.imp fun q => Int.ne_of_lt q)
  refine Nat.le_trans (Nat.le_of_eq ?_) (Nat.le_trans h (List.length_filter_le _ _))
  congr 1
  refine List.map_congr_left fun a _ => ?_
  simp only [Function.comp_def]
  rw [(sortI_perm _).length_eq, List.length_map]
theorem tb_rows {r b : Int} {ps : List (Int × Int)} (hr : r = 1 ∨ r = 2 ∨ r = 4 ∨ r = 8) (hb : 0 ≤ b ∧ b ≤ 5) (hl : ps.length ≤ 24) (h : ∀ p ∈ ps, 0 ≤ p.2 ∧ p.2 < 2 ^ b.toNat) : Tb r b (rowsP r ps) where
  room := hr
  bits := hb
  len := rowsP_len (by omega) ps
  pw := fun row h => by
    obtain ⟨a, _, rfl⟩ := List.mem_map.mp h
    exact sortI_le _
  bd := fun row hrow x hx => by
    obtain ⟨a, _, rfl⟩ := List.mem_map.mp hrow
    obtain ⟨p, hp, rfl⟩ := List.mem_map.mp ((sortI_perm _).mem_iff.mp hx)
    exact h p (List.mem_filter.mp hp).1
  sum := Nat.le_trans (sum_le_filter ps) hl
end Law
end
section
set_option maxHeartbeats 2000000
namespace Law
open PySem L2 MK
local macro_rules | `(tactic| walk_at "mk1") => `(tactic| first
  | with_reducible refine Rule.ok ?_ | ((with_reducible refine' we_var ?hh ?_); (case hh => rfl)) | with_reducible refine eq_and rfl ?_ | ((with_reducible refine len_and ?hh ?_); (case hh => simp; done)) | with_reducible refine o_mod (by omega) ?_ | with_reducible refine o_div (by omega) ?_
  | with_reducible refine o_mul (by omega) (by omega) ?_ | ((with_reducible refine' o_ixC ?hh ?h2 ?_); (case hh => assumption); (case h2 => rfl)) | ((with_reducible refine' o_ixS ?hh ?_); (case hh => assumption)) | ((with_reducible refine' o_ixT ?hh ?_); (case hh => assumption))
  | ((with_reducible refine' o_ixL ?hh ?_); (case hh => assumption)) | ((with_reducible refine' o_ixT ?hh ?_); (case hh => rfl)) | ((with_reducible refine' o_ixL ?hh ?_); (case hh => rfl)) | with_reducible refine o_pow (by decide) (by decide) ?_
  | ((with_reducible refine' we_lenC ?hh ?_); (case hh => assumption)) | ((with_reducible refine' we_tupleC ?hh ?_); (case hh => assumption)) | (refine way_t rfl ?_) | (refine way_f rfl ?_) | ((refine' Exists.intro _ (And.intro ?hh ?_)); (case hh => rfl)))
local macro_rules | `(tactic| walk_at "mk") => `(tactic| repeat walk_at "mk1")
theorem cmpb_rows {n : Nat} {rows : List (List Int)} (hl : rows.length ≤ 1000000) (h : ∀ row ∈ rows, row.length ≤ 1000000) : cmpb (n + 2) (.tup (rows.map tupI)) = true := cmpb_tup.mpr ⟨by rw [List.length_map]; exact hl, fun v hv => by
  obtain ⟨m, hm, rfl⟩ := List.mem_map.mp hv
  exact cmpb_tupI (h m hm)⟩
theorem Tb.cmpb {r b : Int} {rows : List (List Int)} (h : Tb r b rows) {n : Nat} : cmpb (n + 2) (.tup (rows.map tupI)) = true := cmpb_rows (by have := h.len; have := h.r8; omega) fun row hr => by have := h.row_len row hr; omega
end Law
end
section
set_option maxHeartbeats 2000000
namespace Law
open PySem L2 MK
local macro_rules | `(tactic| walk_at "mk1") => `(tactic| first
  | with_reducible refine Rule.ok ?_ | ((with_reducible refine' we_var ?hh ?_); (case hh => rfl)) | with_reducible refine eq_and rfl ?_ | ((with_reducible refine len_and ?hh ?_); (case hh => simp; done)) | with_reducible refine o_mod (by omega) ?_ | with_reducible refine o_div (by omega) ?_
  | with_reducible refine o_mul (by omega) (by omega) ?_ | ((with_reducible refine' o_ixC ?hh ?h2 ?_); (case hh => assumption); (case h2 => rfl)) | ((with_reducible refine' o_ixS ?hh ?_); (case hh => assumption)) | ((with_reducible refine' o_ixT ?hh ?_); (case hh => assumption))
  | ((with_reducible refine' o_ixL ?hh ?_); (case hh => assumption)) | ((with_reducible refine' o_ixT ?hh ?_); (case hh => rfl)) | ((with_reducible refine' o_ixL ?hh ?_); (case hh => rfl)) | with_reducible refine o_pow (by decide) (by decide) ?_
  | ((with_reducible refine' we_lenC ?hh ?_); (case hh => assumption)) | ((with_reducible refine' we_tupleC ?hh ?_); (case hh => assumption)) | (refine way_t rfl ?_) | (refine way_f rfl ?_) | ((refine' Exists.intro _ (And.intro ?hh ?_)); (case hh => rfl)))
local macro_rules | `(tactic| walk_at "mk") => `(tactic| repeat walk_at "mk1")
theorem filter_emptyG {α : Type} {l : List α} {p q : α → Bool} (h : ∀ v ∈ l, p v = !q v) : (l.filter p).isEmpty = l.all q := by
  induction l with
  | nil => rfl
  | cons a l ih =>
    have ih' := ih fun v m => h v (List.mem_cons_of_mem _ m)
    have ha := h a List.mem_cons_self
    cases q1 : q a with
    | true => rw [List.filter_cons_of_neg (by rw [ha, q1]; decide), ih']; simp [q1]
    | false => rw [List.filter_cons_of_pos (by rw [ha, q1]; rfl)]; simp [q1]
end Law
end
section
set_option maxHeartbeats 2000000
namespace Law
open PySem L2 MK
local macro_rules | `(tactic| walk_at "mk1") => `(tactic| first
  | with_reducible refine Rule.ok ?_ | ((with_reducible refine' we_var ?hh ?_); (case hh => rfl)) | with_reducible refine eq_and rfl ?_ | ((with_reducible refine len_and ?hh ?_); (case hh => simp; done)) | with_reducible refine o_mod (by omega) ?_ | with_reducible refine o_div (by omega) ?_
  | with_reducible refine o_mul (by omega) (by omega) ?_ | ((with_reducible refine' o_ixC ?hh ?h2 ?_); (case hh => assumption); (case h2 => rfl)) | ((with_reducible refine' o_ixS ?hh ?_); (case hh => assumption)) | ((with_reducible refine' o_ixT ?hh ?_); (case hh => assumption))
  | ((with_reducible refine' o_ixL ?hh ?_); (case hh => assumption)) | ((with_reducible refine' o_ixT ?hh ?_); (case hh => rfl)) | ((with_reducible refine' o_ixL ?hh ?_); (case hh => rfl)) | with_reducible refine o_pow (by decide) (by decide) ?_
  | ((with_reducible refine' we_lenC ?hh ?_); (case hh => assumption)) | ((with_reducible refine' we_tupleC ?hh ?_); (case hh => assumption)) | (refine way_t rfl ?_) | (refine way_f rfl ?_) | ((refine' Exists.intro _ (And.intro ?hh ?_)); (case hh => rfl)))
local macro_rules | `(tactic| walk_at "mk") => `(tactic| repeat walk_at "mk1")
theorem tjoinH {b : Bool} {t f : MT} {ls : MK.Loc} {st : Sto} {E : EX} {C : Bool → Sto → Prop} {v : Bool} (ht : b = true → t ls st = some (.val v, st)) (hf : b = false → f ls st = some (.val v, st)) (q : C v st) :
    (b = true → we (t ls) st E C) ∧ (b = false → we (f ls) st E C) := ⟨fun h => we_run (ht h) q, fun h => we_run (hf h) q⟩
theorem Tb.up {r b : Int} {rows : List (List Int)} (h : Tb r b rows) (hb : b < 5) : Tb r (b + 1) rows where
  room := h.room
  bits := by have := h.bits; omega
  len := h.len
  pw := h.pw
  bd row hr x hx := by
    have h1 := h.bd row hr x hx
    have h2 : (2 : Int) ^ (b + 1).toNat = 2 ^ b.toNat * 2 := by
      rw [show (b + 1).toNat = b.toNat + 1 by have := h.bits; omega, Int.pow_succ]
    omega
  sum := h.sum
def Vals (l : List IV) : Prop := ∀ v ∈ l, cmpb 30 v = true
theorem Vals.nil : Vals [] := fun v h => by cases h
theorem Vals.cons {v : IV} {l : List IV} (h : cmpb 30 v = true) (hl : Vals l) : Vals (v :: l) := fun w hw => by
  rcases List.mem_cons.mp hw with e | e
  · subst e; exact h
  · exact hl w e
theorem Vals.app {l m : List IV} (h : Vals l) (hm : Vals m) : Vals (l ++ m) := fun v hv => (List.mem_append.mp hv).elim (h v) (hm v)
theorem Vals.pure {l : List IV} (h : Vals l) : pureL l = true := datL_pure _ (cmpbL_dat 30 _ (cmpbL_iff.mpr h))
end Law
end
section
set_option maxHeartbeats 2000000
namespace Law
open PySem L2 MK
local macro_rules | `(tactic| walk_at "mk1") => `(tactic| first
  | with_reducible refine Rule.ok ?_ | ((with_reducible refine' we_var ?hh ?_); (case hh => rfl)) | with_reducible refine eq_and rfl ?_ | ((with_reducible refine len_and ?hh ?_); (case hh => simp; done)) | with_reducible refine o_mod (by omega) ?_ | with_reducible refine o_div (by omega) ?_
  | with_reducible refine o_mul (by omega) (by omega) ?_ | ((with_reducible refine' o_ixC ?hh ?h2 ?_); (case hh => assumption); (case h2 => rfl)) | ((with_reducible refine' o_ixS ?hh ?_); (case hh => assumption)) | ((with_reducible refine' o_ixT ?hh ?_); (case hh => assumption))
  | ((with_reducible refine' o_ixL ?hh ?_); (case hh => assumption)) | ((with_reducible refine' o_ixT ?hh ?_); (case hh => rfl)) | ((with_reducible refine' o_ixL ?hh ?_); (case hh => rfl)) | with_reducible refine o_pow (by decide) (by decide) ?_
  | ((with_reducible refine' we_lenC ?hh ?_); (case hh => assumption)) | ((with_reducible refine' we_tupleC ?hh ?_); (case hh => assumption)) | (refine way_t rfl ?_) | (refine way_f rfl ?_) | ((refine' Exists.intro _ (And.intro ?hh ?_)); (case hh => rfl)))
local macro_rules | `(tactic| walk_at "mk") => `(tactic| repeat walk_at "mk1")
theorem we_clauseL {src : MI} {vs : List Nat} {t : MG} {c : MT} {inn : MBL} {ls : MK.Loc} {st : Sto} {E : EX} {Q : List IV → Sto → Prop}
    (h : we (src ls) st E fun p st1 => we (compF t c inn p.1 p.2 (wipeI ls vs) p.1) st1 noX Q) : we (mClauseL src vs t c inn ls) st E Q :=
  we_bind (we_mono h fun p st1 h1 => we_noxM h1)
theorem we_one {e : ME} {ls : MK.Loc} {st : Sto} {E : EX} {Q : List IV → Sto → Prop} (h : we (e ls) st E fun v st1 => Q [v] st1) : we (mOne e ls) st E Q :=
  we_bind (we_mono h fun v st1 q => ⟨_, _, rfl, q⟩)
structure Ps (r b : Int) (ps : List (Int × Int)) : Prop where
  room : r = 1 ∨ r = 2 ∨ r = 4 ∨ r = 8
  bits : 0 ≤ b ∧ b ≤ 5
  len : ps.length ≤ 24
  fst : ∀ p ∈ ps, 0 ≤ p.1 ∧ p.1 < r
  snd : ∀ p ∈ ps, 0 ≤ p.2 ∧ p.2 < 2 ^ b.toNat
theorem Ps.tb {r b : Int} {ps : List (Int × Int)} (h : Ps r b ps) : Tb r b (rowsP r ps) := tb_rows h.room h.bits h.len h.snd
theorem Ps.of {r b : Int} {ns : List Int} (hr : r = 1 ∨ r = 2 ∨ r = 4 ∨ r = 8) (hb : 0 ≤ b ∧ b ≤ 5) (hl : ns.length ≤ 24) : Ps r b (ns.map (placeF r b)) where
  room := hr
  bits := hb
  len := by rw [List.length_map]; exact hl
  fst p hp := by
    obtain ⟨n, _, rfl⟩ := List.mem_map.mp hp
    exact ⟨Int.emod_nonneg _ (by omega), Int.emod_lt_of_pos _ (by omega)⟩
  snd p hp := by
    obtain ⟨n, _, rfl⟩ := List.mem_map.mp hp
    have := pow_pos5 hb
    exact ⟨Int.emod_nonneg _ (by omega), Int.emod_lt_of_pos _ this.1⟩
theorem Tb.pure {r b : Int} {R : List (List Int)} (h : Tb r b R) : (objT r b R).pure = true := by
  have z := dat_pure _ (cmpb_dat 2 _ (h.cmpb (n := 0)))
  show pureF (tbObj r b (R.map tupI)) = true
  simp only [tbObj, pureF, IV.pure, Bool.and_true, Bool.true_and] at z ⊢
  exact z
theorem Ps.pure {r b : Int} {ps : List (Int × Int)} (h : Ps r b ps) : (objT r b (rowsP r ps)).pure = true := h.tb.pure
variable {st : Sto} {r b n : Int} {ps : List (Int × Int)}
def cPr (b : Int) (p : Int × Int) : Int × Int := (p.1, p.2 % 2 ^ b.toNat)
theorem Ps.cut (h : Ps r b ps) (h1 : 0 < b) : Ps r (b - 1) (ps.map (cPr (b - 1))) where
  room := h.room
  bits := by have := h.bits; omega
  len := by rw [List.length_map]; exact h.len
  fst p hp := by
    obtain ⟨q, hq, rfl⟩ := List.mem_map.mp hp
    exact h.fst q hq
  snd p hp := by
    obtain ⟨q, hq, rfl⟩ := List.mem_map.mp hp
    have h2 := h.bits
    have := pow_pos5 (b := b - 1) (by omega)
    exact ⟨Int.emod_nonneg _ (by omega), Int.emod_lt_of_pos _ this.1⟩
theorem Ps.app {os : List (Int × Int)} (h : Ps r b ps) (ho : Ps r b os) (hl : ps.length + os.length ≤ 24) : Ps r b (ps ++ os) where
  room := h.room
  bits := h.bits
  len := by rw [List.length_append]; exact hl
  fst p hp := (List.mem_append.mp hp).elim (h.fst p) (ho.fst p)
  snd p hp := (List.mem_append.mp hp).elim (h.snd p) (ho.snd p)
end Law
end
section
set_option maxHeartbeats 2000000
namespace Law
open PySem L2 MK
local macro_rules | `(tactic| walk_at "mk1") => `(tactic| first
  | with_reducible refine Rule.ok ?_ | ((with_reducible refine' we_var ?hh ?_); (case hh => rfl)) | with_reducible refine eq_and rfl ?_ | ((with_reducible refine len_and ?hh ?_); (case hh => simp; done)) | with_reducible refine o_mod (by omega) ?_ | with_reducible refine o_div (by omega) ?_
  | with_reducible refine o_mul (by omega) (by omega) ?_ | ((with_reducible refine' o_ixC ?hh ?h2 ?_); (case hh => assumption); (case h2 => rfl)) | ((with_reducible refine' o_ixS ?hh ?_); (case hh => assumption)) | ((with_reducible refine' o_ixT ?hh ?_); (case hh => assumption))
  | ((with_reducible refine' o_ixL ?hh ?_); (case hh => assumption)) | ((with_reducible refine' o_ixT ?hh ?_); (case hh => rfl)) | ((with_reducible refine' o_ixL ?hh ?_); (case hh => rfl)) | with_reducible refine o_pow (by decide) (by decide) ?_
  | ((with_reducible refine' we_lenC ?hh ?_); (case hh => assumption)) | ((with_reducible refine' we_tupleC ?hh ?_); (case hh => assumption)) | (refine way_t rfl ?_) | (refine way_f rfl ?_) | ((refine' Exists.intro _ (And.intro ?hh ?_)); (case hh => rfl)))
local macro_rules | `(tactic| walk_at "mk") => `(tactic| repeat walk_at "mk1")
abbrev facN (n : Nat) : Nat := Builtin.Math.factorialNat n
theorem facN_succ (n : Nat) : facN (n + 1) = facN n * (n + 1) := PySem.W.mc_fac_succ n
def Anti (F : List (List Int)) : Prop := F.Pairwise fun a b => ¬ a ⊆ b ∧ ¬ b ⊆ a
theorem sum_one {S : List Int} {p : Int → Bool} {c : Nat} {g : Int → Nat} : (S.map fun x => if p x then c + g x else g x).sum = (S.filter p).length * c + (S.map g).sum := by
  induction S with
  | nil => simp
  | cons a S ih =>
    simp only [List.map_cons, List.sum_cons, ih]
    cases h : p a with
    | true =>
      rw [List.filter_cons_of_pos h, List.length_cons, if_pos rfl, Nat.add_mul]
      omega
    | false =>
      rw [List.filter_cons_of_neg (by rw [h]; decide), if_neg (by decide)]
      omega
theorem sum_swap (S : List Int) (f : List Int → Nat) : ∀ F : List (List Int), (S.map fun x => ((F.filter fun m => !decide (x ∈ m)).map f).sum).sum = (F.map fun m => (S.filter fun x => !decide (x ∈ m)).length * f m).sum
  | [] => by
    simp only [List.filter_nil, List.map_nil, List.sum_nil]
    induction S with
    | nil => rfl
    | cons a S ih => simpa using ih
  | m :: F => by
    rw [List.map_cons, List.sum_cons, ← sum_swap S f F, ← sum_one]
    congr 1
    refine List.map_congr_left fun x _ => ?_
    cases h : decide (x ∈ m) with
    | true => rw [List.filter_cons_of_neg (by rw [h]; decide), if_neg (by decide)]
    | false => rw [List.filter_cons_of_pos (by rw [h]; rfl), if_pos (show (!false) = true from rfl), List.map_cons, List.sum_cons]
theorem miss_len {S m : List Int} (hS : S.Nodup) (hm : m.Nodup) (hs : m ⊆ S) : (S.filter fun x => !decide (x ∈ m)).length + m.length = S.length := by
  have h1 : (S.filter fun x => decide (x ∈ m)).Perm m := by
    refine (List.perm_ext_iff_of_nodup (hS.filter _) hm).mpr fun x => ?_
    rw [List.mem_filter, decide_eq_true_eq]
    exact ⟨fun h => h.2, fun h => ⟨hs h, h⟩⟩
  have h2 := (List.filter_append_perm (fun x => decide (x ∈ m)) S).length_eq
  rw [List.length_append, h1.length_eq] at h2
  omega
theorem lym : ∀ (n : Nat) (S : List Int) (F : List (List Int)), S.length = n → S.Nodup → (∀ m ∈ F, m.Nodup ∧ m ⊆ S) → Anti F → (F.map fun m => facN m.length * facN (n - m.length)).sum ≤ facN n
  | 0, S, F, hl, hS, hF, ha => by
    have e : S = [] := List.eq_nil_of_length_eq_zero hl
    subst e
    cases F with
    | nil => simp
    | cons m F =>
      have em : m = [] := List.subset_nil.mp (hF m List.mem_cons_self).2
      cases F with
      | nil => subst em; decide +kernel
      | cons m' F =>
        have := (List.pairwise_cons.mp ha).1 m' List.mem_cons_self
        exact absurd (em ▸ List.nil_subset _) this.1
  | n + 1, S, F, hl, hS, hF, ha => by
    by_cases hfull : ∃ m ∈ F, S ⊆ m
    · obtain ⟨m, hm, hsm⟩ := hfull
      obtain ⟨h1, h2⟩ := hF m hm
      have hlen : m.length = n + 1 := by
        have : S.Perm m := (List.perm_ext_iff_of_nodup hS h1).mpr fun x => ⟨fun h => hsm h, fun h => h2 h⟩
        rw [← this.length_eq, hl]
      obtain ⟨A, B, rfl⟩ := List.append_of_mem hm
      have hA : A = [] := by
        cases A with
        | nil => rfl
        | cons a A =>
          have := (List.pairwise_cons.mp ha).1 m (by simp)
          exact absurd (fun x hx => hsm ((hF a (by simp)).2 hx)) this.1
      subst hA
      have hB : B = [] := by
        cases B with
        | nil => rfl
        | cons b B =>
          have := (List.pairwise_cons.mp ha).1 b (by simp)
          exact absurd (fun x hx => hsm ((hF b (by simp)).2 hx)) this.2
      subst hB
      simp only [List.nil_append, List.map_cons, List.map_nil, List.sum_cons, List.sum_nil, hlen, Nat.sub_self]
      have : facN 0 = 1 := by decide +kernel
      rw [this]
      omega
    · have hlt : ∀ m ∈ F, m.length ≤ n := fun m hm => by
        obtain ⟨h1, h2⟩ := hF m hm
        have z := miss_len hS h1 h2
        rcases Nat.lt_or_ge n m.length with h | h
        · exfalso
          have h0 : (S.filter fun x => !decide (x ∈ m)) = [] := List.eq_nil_of_length_eq_zero (by omega)
          refine hfull ⟨m, hm, fun x hx => ?_⟩
          have h3 := List.filter_eq_nil_iff.mp h0 x hx
          simpa using h3
        · exact h
      have hx : ∀ x ∈ S, ((F.filter fun m => !decide (x ∈ m)).map fun m => facN m.length * facN (n - m.length)).sum ≤ facN n := fun x hx => by
        refine lym n (S.erase x) _ (by rw [List.length_erase_of_mem hx]; omega) (hS.erase x) (fun m hm => ?_) (ha.filter _)
        obtain ⟨h1, h2⟩ := List.mem_filter.mp hm
        refine ⟨(hF m h1).1, fun y hy => ?_⟩
        have hxy : y ≠ x := fun z => by subst z; simp [hy] at h2
        exact (List.mem_erase_of_ne hxy).mpr ((hF m h1).2 hy)
      have hsum : (S.map fun x => ((F.filter fun m => !decide (x ∈ m)).map fun m => facN m.length * facN (n - m.length)).sum).sum ≤ S.length * facN n := by
        clear hl hS hF hfull
        induction S with
        | nil => simp
        | cons a S ih =>
          simp only [List.map_cons, List.sum_cons, List.length_cons, Nat.add_mul]
          have h1 := hx a List.mem_cons_self
          have h2 := ih fun x h => hx x (List.mem_cons_of_mem _ h)
          omega
      rw [sum_swap] at hsum
      have e : (F.map fun m => (S.filter fun x => !decide (x ∈ m)).length * (facN m.length * facN (n - m.length))) = F.map fun m => facN m.length * facN (n + 1 - m.length) := by
        refine List.map_congr_left fun m hm => ?_
        obtain ⟨h1, h2⟩ := hF m hm
        have z := miss_len hS h1 h2
        have hm' := hlt m hm
        rw [show (S.filter fun x => !decide (x ∈ m)).length = n - m.length + 1 by omega, show n + 1 - m.length = n - m.length + 1 by omega, facN_succ]
        rw [Nat.mul_left_comm, Nat.mul_comm (n - m.length + 1)]
      rw [e, hl] at hsum
      rw [facN_succ, Nat.mul_comm]
      exact hsum
theorem mid_least : ∀ n : Nat, n ≤ 8 → ∀ k : Nat, k ≤ n → facN ((n + 1) / 2) * facN (n - (n + 1) / 2) ≤ facN k * facN (n - k) := by decide +kernel
theorem mid_comb : ∀ n : Nat, n ≤ 8 → (PySem.W.mcComb n ((n + 1) / 2 : Nat)).toNat * (facN ((n + 1) / 2) * facN (n - (n + 1) / 2)) = facN n ∧ 0 < facN ((n + 1) / 2) * facN (n - (n + 1) / 2) := by decide +kernel
theorem sperner {n : Nat} {S : List Int} {F : List (List Int)} (hn : n ≤ 8) (hl : S.length = n) (hS : S.Nodup) (hF : ∀ m ∈ F, m.Nodup ∧ m ⊆ S) (ha : Anti F) : F.length ≤ (PySem.W.mcComb n ((n + 1) / 2 : Nat)).toNat := by
  have h1 := lym n S F hl hS hF ha
  have h2 : F.length * (facN ((n + 1) / 2) * facN (n - (n + 1) / 2)) ≤ (F.map fun m => facN m.length * facN (n - m.length)).sum := by
    clear h1 ha
    induction F with
    | nil => simp
    | cons m F ih =>
      have i1 := ih fun m h => hF m (List.mem_cons_of_mem _ h)
      obtain ⟨a1, a2⟩ := hF m List.mem_cons_self
      have z := miss_len hS a1 a2
      have i2 := mid_least n hn m.length (by omega)
      simp only [List.length_cons, List.map_cons, List.sum_cons, Nat.add_mul]
      omega
  obtain ⟨h3, h4⟩ := mid_comb n hn
  rw [← h3] at h1
  exact Nat.le_of_mul_le_mul_right (Nat.le_trans h2 h1) h4
end Law
end
section
set_option maxHeartbeats 2000000
namespace Law
open PySem L2 MK
local macro_rules | `(tactic| walk_at "mk1") => `(tactic| first
  | with_reducible refine Rule.ok ?_ | ((with_reducible refine' we_var ?hh ?_); (case hh => rfl)) | with_reducible refine eq_and rfl ?_ | ((with_reducible refine len_and ?hh ?_); (case hh => simp; done)) | with_reducible refine o_mod (by omega) ?_ | with_reducible refine o_div (by omega) ?_
  | with_reducible refine o_mul (by omega) (by omega) ?_ | ((with_reducible refine' o_ixC ?hh ?h2 ?_); (case hh => assumption); (case h2 => rfl)) | ((with_reducible refine' o_ixS ?hh ?_); (case hh => assumption)) | ((with_reducible refine' o_ixT ?hh ?_); (case hh => assumption))
  | ((with_reducible refine' o_ixL ?hh ?_); (case hh => assumption)) | ((with_reducible refine' o_ixT ?hh ?_); (case hh => rfl)) | ((with_reducible refine' o_ixL ?hh ?_); (case hh => rfl)) | with_reducible refine o_pow (by decide) (by decide) ?_
  | ((with_reducible refine' we_lenC ?hh ?_); (case hh => assumption)) | ((with_reducible refine' we_tupleC ?hh ?_); (case hh => assumption)) | (refine way_t rfl ?_) | (refine way_f rfl ?_) | ((refine' Exists.intro _ (And.intro ?hh ?_)); (case hh => rfl)))
local macro_rules | `(tactic| walk_at "mk") => `(tactic| repeat walk_at "mk1")
theorem combL8_asc : ∀ n, n < 9 → ∀ r, r < 9 → r ≤ n → (combL8 n r).all (fun ix => decide (ix.Pairwise (· < ·)) && ix.all fun j => decide (j < n)) = true := by decide +kernel
theorem combZ8_asc {n r : Nat} (hn : n ≤ 8) (hr : r ≤ n) : ∀ ks ∈ combZ8 n r, Asc n ks := fun ks hk => by
  unfold combZ8 at hk
  obtain ⟨ix, hx, rfl⟩ := List.mem_map.mp hk
  have h := List.all_eq_true.mp (combL8_asc n (by omega) r (by omega) hr) ix hx
  simp only [Bool.and_eq_true, List.all_eq_true, decide_eq_true_eq] at h
  obtain ⟨h1, h2⟩ := h
  refine ⟨List.pairwise_map.mpr (h1.imp fun h => by omega), fun i hi => ?_⟩
  obtain ⟨j, hj, rfl⟩ := List.mem_map.mp hi
  have := h2 j hj
  omega
def setsChk8 (n r : Nat) : Bool := (combZ8 n r).isPerm (pickF r (foundF r n)) && decide ((combZ8 n r).Pairwise fun a b => ltL b a = false) && !(pickF r (foundF r n)).isEmpty
theorem sets_chk8 : ∀ n, n < 9 → setsChk8 n ((n + 1) / 2) = true := by decide +kernel
theorem sets_comb8 {n r : Nat} (hn : n ≤ 8) (hr : r = (n + 1) / 2) : sortLL (pickF r (foundF r n)) = combZ8 n r ∧ pickF r (foundF r n) ≠ [] := by
  have h := sets_chk8 n (by omega)
  rw [← hr] at h
  unfold setsChk8 at h
  simp only [Bool.and_eq_true, decide_eq_true_eq, List.isPerm_iff] at h
  refine ⟨(sortLL_of h.1.1 h.1.2).symm, fun z => ?_⟩
  rw [z] at h
  exact absurd h.2 (by decide)
theorem comb_len8 : ∀ n, n < 9 → (combZ8 n ((n + 1) / 2)).length = (PySem.W.mcComb n ((n + 1) / 2 : Nat)).toNat ∧ (PySem.W.mcComb n ((n + 1) / 2 : Nat)).toNat ≤ 70 := by decide +kernel
theorem comb_row8 : ∀ n, n < 9 → (combZ8 n ((n + 1) / 2)).all (fun m => decide (m.length = (n + 1) / 2)) = true ∧ (combZ8 n ((n + 1) / 2)).Nodup := by decide +kernel
theorem r_sets8 {st : Sto} {n r : Nat} (h1 : n ≤ 8) (hr : r = (n + 1) / 2) : g_law_sets [.int n, .int r] st = some (.val (.lst ((combZ8 n r).map tupI)), st) := by
  refine run_of (we_def (ls := [some (.int n), some (.int r), none, none, none]) rfl ?_)
  unfold m_law_sets
  walk_at "mk"
  refine ⟨⟨by omega, by omega⟩, ?_⟩
  rw [rangeI_rng]
  refine forL_inv (fun q ls s => s = st ∧ ∃ (j : Nat) (x2 : Option IV), q = ((rngL n).drop j).map .int ∧ j ≤ n ∧ ls = [some (.int n), some (.int r), some (.lst ((foundF r j).map tupI)), x2, none]) ?_ ?_ _ _ _ ⟨rfl, 0, none, by simp, Nat.zero_le _, rfl⟩
  · rintro ls s ⟨rfl, j, x2, hq, hle, rfl⟩
    have hj : n = j := by
      have z : (rngL n).length ≤ j := by
        rcases Nat.lt_or_ge j (rngL n).length with z | z
        · rw [List.drop_eq_getElem_cons z] at hq; cases hq
        · exact z
      rw [rngL_len] at z
      omega
    subst hj
    refine ⟨trivial, ?_⟩
    walk_at "mk"
    refine compL_map (as := foundF r n) tupI (fun ks => decide ((ks.length : Int) = r)) tupI trivial (fun ks hk => ⟨_, rfl, ?_, fun _ => by walk_at "mk"; exact ⟨rfl, rfl⟩⟩) ?_
    · walk_at "mk"
      exact ⟨by simp [PyData.eqv]; rfl, rfl⟩
    have q := sets_comb8 h1 hr
    have l1 := found_len r n
    have l2 := List.length_filter_le (fun ks : List Int => decide ((ks.length : Int) = r)) (foundF r n)
    have b8 : 2 ^ n ≤ 256 := Nat.pow_le_pow_right (n := 2) (by decide) (by omega : n ≤ 8)
    refine len_and (by rw [List.length_map]; omega) ?_
    walk_at "mk"
    have hm : ∀ m ∈ pickF r (foundF r n), (m.length : Int) = r := fun m hm => by simpa using (List.mem_filter.mp hm).2
    refine we_sortT rfl q.2 ?_ ?_
    · show (pickF r (foundF r n)).head? = some [] ∨ _
      cases r with
      | zero =>
        left
        cases hp : pickF 0 (foundF 0 n) with
        | nil => exact absurd hp q.2
        | cons a l =>
          have := hm a (by rw [hp]; exact List.mem_cons_self)
          have : a = [] := by cases a with | nil => rfl | cons b c => simp at this; omega
          rw [this]; rfl
      | succ r =>
        right
        intro m hh z
        have := hm m hh
        rw [z] at this
        simp at this
        omega
    · show we (newL false ((sortLL (pickF r (foundF r n))).map tupI)) _ _ _
      rw [q.1]
      walk_at "mk"
      exact close_len rfl ⟨rfl, rfl⟩
  · rintro v q ls s ⟨rfl, j, x2, hq, hle, rfl⟩
    cases hd : (rngL n).drop j with
    | nil => rw [hd] at hq; cases hq
    | cons x xs =>
      rw [hd] at hq
      cases hq
      obtain ⟨e1, e2, hj⟩ := drop_rng hd
      subst e1 e2
      have l1 := found_len r j
      have l2 := List.length_filter_le (fun ks : List Int => decide ((ks.length : Int) < r)) (foundF r j)
      have b8 : 2 ^ j ≤ 128 := Nat.pow_le_pow_right (n := 2) (by decide) (by omega : j ≤ 7)
      refine ⟨trivial, _, rfl, ?_⟩
      walk_at "mk"
      refine compL_map (as := foundF r j) tupI (fun ks => decide ((ks.length : Int) < r)) (fun ks => tupI (ks ++ [(j : Int)])) trivial (fun ks hk => ⟨_, rfl, ?_, fun _ => ?_⟩) ?_
      · walk_at "mk"
        exact ⟨by simp, rfl⟩
      · have := found_mem r j ks hk
        walk_at "mk"
        refine o_addT (by rw [List.length_map]; show _ + 1 ≤ _; omega) ?_
        exact ⟨by simp, rfl⟩
      · refine len_and (by rw [List.length_map]; omega) ?_
        walk_at "mk"
        refine ⟨_, _, rfl, rfl, by rw [List.length_map, List.length_map]; omega, ?_⟩
        walk_at "mk"
        exact ⟨rfl, j + 1, some (.int j), rfl, by omega, by simp [Function.comp_def, foundF]⟩
theorem r_half {st : Sto} {n : Nat} : g_half_of [.int n] st = some (.val (.int (((n + 1) / 2 : Nat) : Int)), st) := by
  refine run_of (we_def (ls := [some (.int n)]) rfl ?_)
  unfold m_half_of
  walk_at "mk"
  exact close_len rfl ⟨by congr 1, rfl⟩
theorem r_most {st : Sto} {n : Nat} (h0 : 1 ≤ n) (h1 : n ≤ 8) : g_most_free [.int n] st = some (.val (.int (PySem.W.mcComb n ((n + 1) / 2 : Nat))), st) := by
  refine run_of (we_def (ls := [some (.int n)]) rfl ?_)
  unfold m_most_free
  walk_at "mk"
  refine we_run (r_within rfl) ?_
  rw [show isIn 1 8 (.int n) = true by simp [isIn]; omega]
  walk_at "mk"
  refine we_run r_half ?_
  walk_at "mk"
  refine we_combM ⟨by omega, by omega, by omega, by omega⟩ ?_
  exact close_len rfl ⟨rfl, rfl⟩
theorem x_most {st : Sto} {v : IV} (hv : dat v = true) (h : isIn 1 8 v = false) : we (g_most_free [v]) st (fun c f w st' => st' = st ∧ c = "InvalidNumber" ∧ f = "value" ∧ w = v) fun _ _ => False := by
  refine we_def (ls := [some v]) rfl ?_
  unfold m_most_free
  walk_at "mk"
  refine we_run (r_within hv) ?_
  rw [h]
  walk_at "mk"
  exact .inl ⟨rfl, rfl, rfl, rfl, rfl⟩
theorem most_pos : ∀ n : Nat, n < 9 → 1 ≤ n → 1 ≤ PySem.W.mcComb n ((n + 1) / 2 : Nat) ∧ PySem.W.mcComb n ((n + 1) / 2 : Nat) ≤ 70 := by decide +kernel
theorem r_fmarks {st : Sto} {n : Nat} {q : Int} (h0 : 1 ≤ n) (h1 : n ≤ 8) (hq : 1 ≤ q ∧ q ≤ PySem.W.mcComb n ((n + 1) / 2 : Nat)) : g_free_marks [.int n, .int q] st = some (.val (.tup (((combZ8 n ((n + 1) / 2)).take q.toNat).map tupI)), st) := by
  refine run_of (we_def (ls := [some (.int n), some (.int q)]) rfl ?_)
  unfold m_free_marks
  walk_at "mk"
  refine we_run (r_most h0 h1) ?_
  walk_at "mk"
  refine we_run (r_within rfl) ?_
  rw [show isIn 1 (PySem.W.mcComb n ((n + 1) / 2 : Nat)) (.int q) = true by simpa [isIn] using hq]
  walk_at "mk"
  refine we_run r_half ?_
  walk_at "mk"
  refine we_run (r_chosen8 h1 (by omega)) ?_
  walk_at "mk"
  rw [cut_take (by omega), ← List.map_take]
  walk_at "mk"
  exact close_len rfl ⟨rfl, rfl⟩
theorem x_fmarks {st : Sto} {n : Nat} {v : IV} (h0 : 1 ≤ n) (h1 : n ≤ 8) (hv : dat v = true) (h : isIn 1 (PySem.W.mcComb n ((n + 1) / 2 : Nat)) v = false) :
    we (g_free_marks [.int n, v]) st (fun c f w st' => st' = st ∧ c = "InvalidNumber" ∧ f = "value" ∧ w = v) fun _ _ => False := by
  refine we_def (ls := [some (.int n), some v]) rfl ?_
  unfold m_free_marks
  walk_at "mk"
  refine we_run (r_most h0 h1) ?_
  walk_at "mk"
  refine we_run (r_within hv) ?_
  rw [h]
  walk_at "mk"
  exact .inl ⟨rfl, rfl, rfl, rfl, rfl⟩
theorem we_lc2' {cell : Bool} {src : MI} {vs : List Nat} {t : MG} {c : MT} {src1 : MI} {vs1 : List Nat} {t1 : MG} {c1 : MT} {e : ME} {ls : MK.Loc} {st : Sto} {E : EX} {Q : IV → Sto → Prop}
    (h : we (src ls) st E fun p st1 => we (compF t c (mClauseL src1 vs1 t1 c1 (mOne e)) p.1 p.2 (wipeI ls vs) p.1) st1 noX fun l st2 => l.length ≤ 16777215 ∧ we (newL cell l) st2 E Q) :
    we (mLc2 cell src vs t c src1 vs1 t1 c1 e ls) st E Q := by
  unfold mLc2 mClauseL
  refine we_bind (we_bind (we_mono h fun p st1 h1 => we_noxM (we_mono h1 fun l st2 ⟨z, q⟩ => ?_)))
  rw [if_pos z]; exact q
theorem compF_test {α : Type} {t : MG} {c : MT} {inn : MBL} {l0 : List IV} {k : Option Nat} {ls : MK.Loc} {st : Sto} {QL : List IV → Sto → Prop} {as : List α} (g : α → IV) (p : α → Bool) (f : α → List IV) (z : srcOk k l0 st)
    (step : ∀ a ∈ as, ∃ ls1, t ls (g a) = some ls1 ∧ we (c ls1) st noX (fun b st' => b = p a ∧ st' = st) ∧ (p a = true → we (inn ls1) st noX fun v st' => v = f a ∧ st' = st)) (q : QL ((as.filter p).flatMap f) st) :
    we (compF t c inn l0 k ls (as.map g)) st noX QL := by
  refine ⟨.val ((as.filter p).flatMap f), st, ?_, q⟩
  clear q
  induction as with
  | nil => simp only [List.map_nil]; unfold compF; rw [if_pos z]; rfl
  | cons a as ih =>
    obtain ⟨ls1, e1, e2, e3⟩ := step a List.mem_cons_self
    have e2 := run_of e2
    have ih' := ih fun w hw => step w (List.mem_cons_of_mem _ hw)
    simp only [List.map_cons]
    unfold compF
    rw [if_pos z, e1]
    show M.bind (M.nox (c ls1)) _ st = _
    rw [M.bind_run (M.nox_run e2)]
    cases q : p a with
    | true =>
      rw [if_pos rfl, M.bind_run (M.nox_run (run_of (e3 q))), M.bind_run ih', List.filter_cons_of_pos q]
      rfl
    | false =>
      rw [if_neg (by decide), List.filter_cons_of_neg (by rw [q]; decide)]
      exact ih'
def liesB (a b : List Int) : Bool := a.all fun c => decide (c ∈ b)
def apartB (ms : List (List Int)) : Bool := (rngL ms.length).all fun i => ((rngL ms.length).filter fun j => !decide (i = j)).all fun j => !liesB (getM ms i) (getM ms j)
theorem isAsc_ints {c : Int} {v : IV} (h : isAsc c v = true) : ∃ ns : List Int, v = tupI ns ∧ Asc c ns := by
  cases v with
  | tup l =>
    have key : ∀ (l : List IV) (least : Int), 0 ≤ least → ascI least c l = true → ∃ ns : List Int, l = ns.map .int ∧ ns.Pairwise (· < ·) ∧ ∀ i ∈ ns, least ≤ i ∧ i < c := fun l => by
      induction l with
      | nil => exact fun _ _ _ => ⟨[], rfl, .nil, fun i h => by cases h⟩
      | cons v l ih =>
        intro least h0 h
        cases v with
        | int i =>
          simp only [ascI, Bool.and_eq_true] at h
          have h1 := h.1
          simp [isIn] at h1
          obtain ⟨ns, rfl, pw, hb⟩ := ih (i + 1) (by omega) h.2
          refine ⟨i :: ns, rfl, List.pairwise_cons.mpr ⟨fun x hx => by have := hb x hx; omega, pw⟩, fun x hx => ?_⟩
          rcases List.mem_cons.mp hx with rfl | hx
          · omega
          · have := hb x hx; omega
        | _ => simp [ascI] at h
    obtain ⟨ns, rfl, pw, hb⟩ := key l 0 (Int.le_refl 0) h
    exact ⟨ns, rfl, pw, hb⟩
  | _ => simp [isAsc] at h
theorem marksOf {c : Int} : ∀ {l : List IV}, l.all (isMark c) = true → ∃ ms : List (List Int), l = ms.map tupI ∧ ∀ m ∈ ms, Asc c m ∧ m ≠ []
  | [], _ => ⟨[], rfl, fun m h => by cases h⟩
  | v :: l, h => by
    simp only [List.all_cons, Bool.and_eq_true] at h
    obtain ⟨ms, rfl, h2⟩ := marksOf h.2
    have h1 := h.1
    simp only [isMark, Bool.and_eq_true] at h1
    obtain ⟨ns, rfl, ha⟩ := isAsc_ints h1.1
    refine ⟨ns :: ms, rfl, fun m hm => ?_⟩
    rcases List.mem_cons.mp hm with rfl | hm
    · refine ⟨ha, fun z => ?_⟩
      subst z
      exact absurd h1.2 (by decide)
    · exact h2 m hm
theorem fm_len {α β : Type} (L : List α) (f : α → List β) (k : Nat) (h : ∀ a, (f a).length ≤ k) : (L.flatMap f).length ≤ L.length * k := by
  induction L with
  | nil => simp
  | cons a L ih =>
    rw [List.flatMap_cons, List.length_append, List.length_cons, Nat.add_mul]
    have := h a
    omega
theorem getM_atI {ms : List (List Int)} {i : Int} (h : i ∈ rngL ms.length) : atI (ms.map tupI) i = some (tupI (getM ms i)) := by
  have h := rngL_mem.mp h
  have hl : i.toNat < ms.length := by omega
  refine atI_get h.1 ?_
  unfold getM
  rw [List.getElem?_map, List.getD_eq_getElem?_getD, List.getElem?_eq_getElem hl]
  rfl
theorem getM_memI {ms : List (List Int)} {i : Int} (h : i ∈ rngL ms.length) : getM ms i ∈ ms := by
  have h := rngL_mem.mp h
  have hl : i.toNat < ms.length := by omega
  unfold getM
  rw [List.getD_eq_getElem?_getD, List.getElem?_eq_getElem hl]
  exact List.getElem_mem hl
theorem fm_ext' {α β : Type} {l : List α} {f g : α → List β} (h : ∀ a ∈ l, f a = g a) : l.flatMap f = l.flatMap g := by
  rw [List.flatMap_def, List.flatMap_def, List.map_congr_left h]
theorem r_apart {st : Sto} {c : Int} {ms : List (List Int)} (hm : ∀ m ∈ ms, Asc c m ∧ m ≠ []) (hc : 1 ≤ c ∧ c ≤ 8) (hl : ms.length ≤ 300) (hi : (ms.map tupI).all (isMark c) = true) : g_are_apart [.int c, .tup (ms.map tupI)] st = some (.val (.bl (apartB ms)), st) := by
  refine run_of (we_def (ls := [some (.int c), some (.tup (ms.map tupI)), none, none, none, none]) rfl ?_)
  unfold m_are_apart
  walk_at "mk"
  refine compL_map (as := ms) tupI (fun _ => true) (fun m => .bl (isMark c (tupI m))) trivial (fun m hmm => ⟨_, rfl, by walk_at "mk"; exact ⟨rfl, rfl⟩, fun _ => ?_⟩) ?_
  · walk_at "mk"
    refine we_run (r_mark (cmpb_dat 1 _ (cmpb_tupI (n := 0) ?_))) ⟨rfl, rfl⟩
    have := (hm m hmm).1.len (by omega)
    omega
  rw [List.filter_eq_self.mpr fun _ _ => rfl]
  refine len_and (by rw [List.length_map]; omega) ?_
  walk_at "mk"
  refine we_allL (bs := ms.map fun m => isMark c (tupI m)) ?_ ?_
  · have z := boolsOf_map (ms.map fun m => isMark c (tupI m))
    rw [List.map_map] at z
    exact z
  have ea : (ms.map fun m => isMark c (tupI m)).all id = true := by
    rw [List.all_map] at hi ⊢
    exact hi
  rw [ea]
  walk_at "mk"
  rw [List.length_map]
  refine we_rangeV ⟨by omega, by omega⟩ ?_
  walk_at "mk"
  refine we_lc2' ?_
  refine we_srcR ?_
  walk_at "mk"
  refine ⟨⟨by omega, by omega⟩, ?_⟩
  rw [rangeI_rng]
  refine compF_test (as := rngL (ms.length : Int)) .int (fun _ => true) (fun i => ((rngL (ms.length : Int)).filter fun j => !decide (i = j)).flatMap fun j => [IV.bl (liesB (getM ms i) (getM ms j))]) trivial (fun i hi' => ⟨_, rfl, by walk_at "mk"; exact ⟨rfl, rfl⟩, fun _ => ?_⟩) ?_
  · refine we_clauseL ?_
    refine we_srcR ?_
    walk_at "mk"
    refine ⟨⟨by omega, by omega⟩, ?_⟩
    rw [rangeI_rng]
    refine compF_test (as := rngL (ms.length : Int)) .int (fun j => !decide (i = j)) (fun j => [IV.bl (liesB (getM ms i) (getM ms j))]) trivial (fun j hj => ⟨_, rfl, ?_, fun _ => ?_⟩) ?_
    · walk_at "mk"
      exact ⟨by rw [Bool.eq_iff_iff]; simp [PyData.eqv], rfl⟩
    · refine we_one ?_
      walk_at "mk"
      refine o_ixT (getM_atI hi') ?_
      walk_at "mk"
      refine o_ixT (getM_atI hj) ?_
      walk_at "mk"
      refine we_run (r_lies ?_) ⟨rfl, rfl⟩
      have := (hm _ (getM_memI hi')).1.len (by omega)
      omega
    · exact ⟨rfl, rfl⟩
  rw [List.filter_eq_self.mpr fun _ _ => rfl]
  have hlen : ((rngL (ms.length : Int)).flatMap fun i => ((rngL (ms.length : Int)).filter fun j => !decide (i = j)).flatMap fun j => [IV.bl (liesB (getM ms i) (getM ms j))]).length ≤ ms.length * ms.length := by
    have z := fm_len (rngL (ms.length : Int)) (fun i => ((rngL (ms.length : Int)).filter fun j => !decide (i = j)).flatMap fun j => [IV.bl (liesB (getM ms i) (getM ms j))]) ms.length fun i => by
      have z2 := fm_len ((rngL (ms.length : Int)).filter fun j => !decide (i = j)) (fun j => [IV.bl (liesB (getM ms i) (getM ms j))]) 1 fun j => Nat.le_refl _
      have z3 := List.length_filter_le (fun j => !decide (i = j)) (rngL (ms.length : Int))
      rw [rngL_len] at z3
      omega
    rw [rngL_len] at z
    simpa using z
  have hl2 : ms.length * ms.length ≤ 300 * 300 := Nat.mul_le_mul hl hl
  refine ⟨by omega, we_newF ?_⟩
  walk_at "mk"
  have eb : ((rngL (ms.length : Int)).flatMap fun i => ((rngL (ms.length : Int)).filter fun j => !decide (i = j)).flatMap fun j => [IV.bl (liesB (getM ms i) (getM ms j))]) = ((rngL (ms.length : Int)).flatMap fun i => ((rngL (ms.length : Int)).filter fun j => !decide (i = j)).map fun j => liesB (getM ms i) (getM ms j)).map IV.bl := by
    rw [List.map_flatMap]
    refine fm_ext' fun i _ => ?_
    rw [List.map_map, ← List.map_eq_flatMap]
    rfl
  rw [eb]
  refine we_anyL (boolsOf_map _) ?_
  walk_at "mk"
  refine close_len rfl ⟨?_, rfl⟩
  congr 1
  unfold apartB
  rw [List.any_flatMap, Bool.eq_iff_iff]
  simp [List.any_eq_true, List.all_eq_true]
  exact ⟨fun h x hx y hy => (Decidable.em (x = y)).imp id (h x hx y hy), fun h x hx y hy hne => (h x hx y hy).resolve_left hne⟩
theorem r_apartF {st : Sto} {c : Int} {l : List IV} (hd : dat (.tup l) = true) (hl : l.length ≤ 1000) (hi : l.all (isMark c) = false) : g_are_apart [.int c, .tup l] st = some (.val (.bl false), st) := by
  refine run_of (we_def (ls := [some (.int c), some (.tup l), none, none, none, none]) rfl ?_)
  unfold m_are_apart
  walk_at "mk"
  refine compL_pure (fun _ => true) (fun v => .bl (isMark c v)) trivial (fun v hv => ⟨_, rfl, rfl, fun _ => ?_⟩) ?_
  · refine run_of ?_
    walk_at "mk"
    exact we_run (r_mark (datL_mem hd hv)) ⟨rfl, rfl⟩
  rw [show List.filter (fun _ => true) ((l, (none : Option Nat)).1) = l by simp]
  refine len_and (by rw [List.length_map]; omega) ?_
  walk_at "mk"
  refine we_allL (boolsOf_map' l (isMark c)) ?_
  rw [show (l.map (isMark c)).all id = l.all (isMark c) by rw [List.all_map]; rfl, hi]
  walk_at "mk"
  exact close_len rfl ⟨rfl, rfl⟩
end Law
end
section
set_option maxHeartbeats 2000000
namespace Law
open PySem L2 MK
local macro_rules | `(tactic| walk_at "mk1") => `(tactic| first
  | with_reducible refine Rule.ok ?_ | ((with_reducible refine' we_var ?hh ?_); (case hh => rfl)) | with_reducible refine eq_and rfl ?_ | ((with_reducible refine len_and ?hh ?_); (case hh => simp; done)) | with_reducible refine o_mod (by omega) ?_ | with_reducible refine o_div (by omega) ?_
  | with_reducible refine o_mul (by omega) (by omega) ?_ | ((with_reducible refine' o_ixC ?hh ?h2 ?_); (case hh => assumption); (case h2 => rfl)) | ((with_reducible refine' o_ixS ?hh ?_); (case hh => assumption)) | ((with_reducible refine' o_ixT ?hh ?_); (case hh => assumption))
  | ((with_reducible refine' o_ixL ?hh ?_); (case hh => assumption)) | ((with_reducible refine' o_ixT ?hh ?_); (case hh => rfl)) | ((with_reducible refine' o_ixL ?hh ?_); (case hh => rfl)) | with_reducible refine o_pow (by decide) (by decide) ?_
  | ((with_reducible refine' we_lenC ?hh ?_); (case hh => assumption)) | ((with_reducible refine' we_tupleC ?hh ?_); (case hh => assumption)) | (refine way_t rfl ?_) | (refine way_f rfl ?_) | ((refine' Exists.intro _ (And.intro ?hh ?_)); (case hh => rfl)))
local macro_rules | `(tactic| walk_at "mk") => `(tactic| repeat walk_at "mk1")
theorem apartB_false {ms : List (List Int)} {i j : Int} (hi : i ∈ rngL ms.length) (hj : j ∈ rngL ms.length) (hne : i ≠ j) (h : liesB (getM ms i) (getM ms j) = true) : apartB ms = false := by
  cases ha : apartB ms with
  | false => rfl
  | true =>
    unfold apartB at ha
    have h1 := List.all_eq_true.mp (List.all_eq_true.mp ha i hi) j (List.mem_filter.mpr ⟨hj, by simp [hne]⟩)
    rw [h] at h1
    cases h1
theorem r_lapart {st : Sto} {c : Int} {ms : List (List Int)} (hm : ∀ m ∈ ms, Asc c m ∧ m ≠ []) (hc : 1 ≤ c ∧ c ≤ 8) (hl : ms.length ≤ 300) (hi : (ms.map tupI).all (isMark c) = true) : g_law_are_apart [.int c, .tup (ms.map tupI)] st = some (.val (.bl (apartB ms)), st) := by
  refine run_of (we_def (ls := [some (.int c), some (.tup (ms.map tupI)), none, none, none, none]) rfl ?_)
  unfold m_law_are_apart
  walk_at "mk"
  refine compL_map (as := ms) tupI (fun _ => false) tupI trivial (fun m hmm => ⟨_, rfl, ?_, fun h => by cases h⟩) ?_
  · have ha := List.all_eq_true.mp hi (tupI m) (List.mem_map.mpr ⟨m, hmm, rfl⟩)
    simp only [isMark, Bool.and_eq_true] at ha
    have hml := (hm m hmm).1.len (by omega)
    walk_at "mk"
    refine we_run (r_set (cmpb_up 1 60 _ (by decide) (cmpb_tupI (n := 0) (by omega)))) ?_
    rw [ha.1]
    walk_at "mk"
    refine o_eq (cmpb_tupI (n := 63) (by omega)) rfl ?_
    refine ⟨_, rfl, ?_, rfl⟩
    cases m with
    | nil => exact absurd rfl (hm [] hmm).2
    | cons a l => simp [veq, veqL]
  rw [show ms.filter (fun _ => false) = [] from List.filter_eq_nil_iff.mpr fun _ _ => by decide]
  refine len_and (by simp) ?_
  walk_at "mk"
  rw [List.length_map]
  refine ⟨⟨by omega, by omega⟩, ?_⟩
  rw [rangeI_rng]
  refine forL_inv (fun q ls s => s = st ∧ ∃ (done rest : List Int) (x2 x3 : Option IV), rngL (ms.length : Int) = done ++ rest ∧ q = rest.map .int ∧ (∀ i ∈ done, ((rngL (ms.length : Int)).filter fun j => !decide (i = j)).all (fun j => !liesB (getM ms i) (getM ms j)) = true) ∧ ls = [some (.int c), some (.tup (ms.map tupI)), x2, x3, none, none]) ?_ ?_ _ _ _ ⟨rfl, [], _, none, none, rfl, rfl, (fun i h => by cases h), rfl⟩
  · rintro ls s ⟨rfl, done, rest, x2, x3, e, hq, hd, rfl⟩
    have : rest = [] := List.map_eq_nil_iff.mp hq.symm
    subst this
    rw [List.append_nil] at e
    refine ⟨trivial, ?_⟩
    walk_at "mk"
    refine close_len rfl ⟨?_, rfl⟩
    have : apartB ms = true := by
      unfold apartB
      refine List.all_eq_true.mpr fun i hi => hd i (e ▸ hi)
    rw [this]
  · rintro v q ls s ⟨rfl, done, rest, x2, x3, e, hq, hd, rfl⟩
    cases rest with
    | nil => cases hq
    | cons i rest =>
      cases hq
      have hi' : i ∈ rngL (ms.length : Int) := by rw [e]; simp
      refine ⟨trivial, _, rfl, ?_⟩
      walk_at "mk"
      rw [List.length_map]
      refine ⟨⟨by omega, by omega⟩, ?_⟩
      rw [rangeI_rng]
      refine forL_inv (fun q ls s2 => s2 = s ∧ ∃ (done2 rest2 : List Int) (x3 : Option IV), rngL (ms.length : Int) = done2 ++ rest2 ∧ q = rest2.map .int ∧ (∀ j ∈ done2, i ≠ j → liesB (getM ms i) (getM ms j) = false) ∧ ls = [some (.int c), some (.tup (ms.map tupI)), some (.int i), x3, none, none]) ?_ ?_ _ _ _ ⟨rfl, [], _, _, rfl, rfl, (fun i h => by cases h), rfl⟩
      · rintro ls s2 ⟨rfl, done2, rest2, x3, e2, hq2, hd2, rfl⟩
        have : rest2 = [] := List.map_eq_nil_iff.mp hq2.symm
        subst this
        rw [List.append_nil] at e2
        refine ⟨trivial, ?_⟩
        refine ⟨rfl, done ++ [i], rest, _, _, by rw [e]; simp, rfl, fun k hk => ?_, rfl⟩
        rcases List.mem_append.mp hk with h | h
        · exact hd k h
        · rw [List.mem_singleton.mp h]
          refine List.all_eq_true.mpr fun j hj => ?_
          obtain ⟨h1, h2⟩ := List.mem_filter.mp hj
          rw [hd2 j (e2 ▸ h1) (by simpa using h2)]
          rfl
      · rintro v q ls s2 ⟨rfl, done2, rest2, x3, e2, hq2, hd2, rfl⟩
        cases rest2 with
        | nil => cases hq2
        | cons j rest2 =>
          cases hq2
          have hj' : j ∈ rngL (ms.length : Int) := by rw [e2]; simp
          refine ⟨trivial, _, rfl, ?_⟩
          walk_at "mk"
          rw [show PyData.eqv (.int i) (.int j) = decide (i = j) by rw [Bool.eq_iff_iff]; simp [PyData.eqv]]
          by_cases hij : i = j
          · rw [decide_eq_true hij]
            walk_at "mk"
            refine ⟨rfl, done2 ++ [j], rest2, _, by rw [e2]; simp, rfl, fun k hk hne => ?_, rfl⟩
            rcases List.mem_append.mp hk with h | h
            · exact hd2 k h hne
            · rw [List.mem_singleton.mp h] at hne
              exact absurd hij hne
          · rw [decide_eq_false hij]
            have hmi := hm _ (getM_memI hi')
            have hil := hmi.1.len (by omega)
            walk_at "mk"
            refine o_ixT (getM_atI hi') ?_
            refine ⟨_, rfl, ?_⟩
            refine compL_map (as := getM ms i) .int (fun x => !decide (x ∈ getM ms j)) .int trivial (fun x hx => ⟨_, rfl, ?_, fun _ => by walk_at "mk"; exact ⟨rfl, rfl⟩⟩) ?_
            · walk_at "mk"
              refine o_ixT (getM_atI hj') ?_
              walk_at "mk"
              exact ⟨rfl, rfl⟩
            have hf := List.length_filter_le (fun x => !decide (x ∈ getM ms j)) (getM ms i)
            refine len_and (by rw [List.length_map]; omega) ?_
            walk_at "mk"
            refine o_eq (cmpb_up 1 64 _ (by decide) (cmpb_lst.mpr ⟨by rw [List.length_map]; omega, fun w hw => by
              obtain ⟨z, _, rfl⟩ := List.mem_map.mp hw
              rfl⟩)) rfl ?_
            simp only [veq, veqL_nil, List.isEmpty_map]
            rw [filter_emptyG (q := fun x => decide (x ∈ getM ms j)) fun x _ => rfl]
            rw [show (getM ms i).all (fun x => decide (x ∈ getM ms j)) = liesB (getM ms i) (getM ms j) from rfl]
            walk_at "mk"
            cases hlb : liesB (getM ms i) (getM ms j) with
            | true =>
              walk_at "mk"
              refine close_len rfl ⟨?_, rfl⟩
              rw [apartB_false hi' hj' hij hlb]
            | false =>
              walk_at "mk"
              refine ⟨rfl, done2 ++ [j], rest2, _, by rw [e2]; simp, rfl, fun k hk hne => ?_, rfl⟩
              rcases List.mem_append.mp hk with h | h
              · exact hd2 k h hne
              · rw [List.mem_singleton.mp h]; exact hlb
end Law
end
section
set_option maxHeartbeats 2000000
namespace Law
open PySem L2 MK
local macro_rules | `(tactic| walk_at "mk1") => `(tactic| first
  | with_reducible refine Rule.ok ?_ | ((with_reducible refine' we_var ?hh ?_); (case hh => rfl)) | with_reducible refine eq_and rfl ?_ | ((with_reducible refine len_and ?hh ?_); (case hh => simp; done)) | with_reducible refine o_mod (by omega) ?_ | with_reducible refine o_div (by omega) ?_
  | with_reducible refine o_mul (by omega) (by omega) ?_ | ((with_reducible refine' o_ixC ?hh ?h2 ?_); (case hh => assumption); (case h2 => rfl)) | ((with_reducible refine' o_ixS ?hh ?_); (case hh => assumption)) | ((with_reducible refine' o_ixT ?hh ?_); (case hh => assumption))
  | ((with_reducible refine' o_ixL ?hh ?_); (case hh => assumption)) | ((with_reducible refine' o_ixT ?hh ?_); (case hh => rfl)) | ((with_reducible refine' o_ixL ?hh ?_); (case hh => rfl)) | with_reducible refine o_pow (by decide) (by decide) ?_
  | ((with_reducible refine' we_lenC ?hh ?_); (case hh => assumption)) | ((with_reducible refine' we_tupleC ?hh ?_); (case hh => assumption)) | (refine way_t rfl ?_) | (refine way_f rfl ?_) | ((refine' Exists.intro _ (And.intro ?hh ?_)); (case hh => rfl)))
local macro_rules | `(tactic| walk_at "mk") => `(tactic| repeat walk_at "mk1")
theorem r_lapartF {st : Sto} {c : Int} {v : IV} (h : cmpb 60 v = true) (hl : ∀ l, v = .tup l → l.all (isMark c) = false) : g_law_are_apart [.int c, v] st = some (.val (.bl false), st) := by
  refine run_of (we_def (ls := [some (.int c), some v, none, none, none, none]) rfl ?_)
  unfold m_law_are_apart
  cases v with
  | tup l =>
    obtain ⟨hz, hm⟩ := cmpb_tup.mp h
    have hf := hl l rfl
    walk_at "mk"
    refine compL_pure (fun v => !isMark c v) id trivial (fun v hv => ⟨_, rfl, run_of ?_, fun _ => rfl⟩) ?_
    · have hv' : v ∈ l := hv
      have cv := hm v hv'
      walk_at "mk"
      refine we_run (r_set (cmpb_up 59 60 _ (by decide) cv)) ?_
      cases ha : isAsc c v with
      | false =>
        walk_at "mk"
        exact ⟨by simp [isMark, ha], rfl⟩
      | true =>
        walk_at "mk"
        refine o_eq (cmpb_up 59 64 _ (by decide) cv) rfl ?_
        refine ⟨_, rfl, ?_, rfl⟩
        cases v with
        | tup k => cases k <;> simp [isMark, ha, veq, veqL]
        | _ => simp [isAsc] at ha
    rw [List.map_id]
    have hfl : (List.filter (fun v => !isMark c v) l).length ≤ l.length := List.length_filter_le _ _
    refine len_and (by show (List.filter (fun v => !isMark c v) l).length ≤ _; omega) ?_
    walk_at "mk"
    refine o_ne (cmpb_up 60 64 _ (by decide) (cmpb_lst.mpr ⟨by show (List.filter (fun v => !isMark c v) l).length ≤ _; omega, fun v hv => hm v (List.mem_filter.mp hv).1⟩)) rfl ?_
    simp only [veq, veqL_nil]
    rw [filter_emptyG (q := isMark c) fun v _ => rfl, hf]
    walk_at "mk"
    exact close_len rfl ⟨rfl, rfl⟩
  | obj c fs => simp [cmpb] at h
  | cell n => simp [cmpb] at h
  | exn a b c d e => simp [cmpb] at h
  | _ =>
    walk_at "mk"
    exact close_len rfl ⟨rfl, rfl⟩
theorem fac_le : ∀ k : Nat, k ≤ 8 → facN k ≤ 40320 ∧ 1 ≤ facN k := by decide +kernel
theorem Asc.len_le {n : Int} {m : List Int} (h : Asc n m) : m.length ≤ n.toNat := by
  have z := miss_len (S := rngL n) (m := m) (rngL_pw.imp fun q => Int.ne_of_lt q) (h.1.imp fun q => Int.ne_of_lt q) fun x hx => rngL_mem.mpr (h.2 x hx)
  rw [rngL_len] at z
  omega
theorem sum_castN (ms : List (List Int)) (f : List Int → Nat) : (ms.map fun m => ((f m : Nat) : Int)).sum = (((ms.map f).sum : Nat) : Int) := by
  induction ms with
  | nil => rfl
  | cons m ms ih => simp only [List.map_cons, List.sum_cons, ih]; omega
def shareN (n : Nat) (ms : List (List Int)) : Nat := (ms.map fun m => facN m.length * facN (n - m.length)).sum
theorem r_fshare {st : Sto} {n : Nat} {ms : List (List Int)} (h0 : 1 ≤ n) (h1 : n ≤ 8) (hm : ∀ m ∈ ms, Asc n m ∧ m ≠ []) (hi : (ms.map tupI).all (isMark n) = true) (ha : apartB ms = true) (hl : (ms.length : Int) ≤ PySem.W.mcComb n ((n + 1) / 2 : Nat)) :
    g_free_share [.int n, .tup (ms.map tupI)] st = some (.val (pairV ((shareN n ms : Int) / (Nat.gcd (shareN n ms) (facN n) : Nat), (facN n : Int) / (Nat.gcd (shareN n ms) (facN n) : Nat))), st) := by
  refine run_of (we_def (ls := [some (.int n), some (.tup (ms.map tupI)), none, none, none]) rfl ?_)
  unfold m_free_share
  have mp := most_pos n (by omega) h0
  walk_at "mk"
  refine we_run (r_most h0 h1) ?_
  walk_at "mk"
  rw [List.length_map, decide_eq_false (by omega)]
  walk_at "mk"
  refine we_run (r_apart hm (by omega) (by omega) hi) ?_
  rw [ha]
  walk_at "mk"
  refine compL_map (as := ms) tupI (fun _ => true) (fun m => .int ((facN m.length * facN (n - m.length) : Nat) : Int)) trivial (fun m hmm => ⟨_, rfl, by walk_at "mk"; exact ⟨rfl, rfl⟩, fun _ => ?_⟩) ?_
  · have hml := (hm m hmm).1.len (by omega)
    have hmn : m.length ≤ n := by
      have z := (hm m hmm).1.len_le
      omega
    have f1 := fac_le m.length (by omega)
    have f2 := fac_le (n - m.length) (by omega)
    walk_at "mk"
    rw [List.length_map]
    refine we_fac ⟨by omega, by omega⟩ ?_
    walk_at "mk"
    rw [List.length_map]
    refine we_fac ⟨by omega, by omega⟩ ?_
    rw [show ((m.length : Nat) : Int).toNat = m.length by omega, show ((n : Int) - (m.length : Nat)).toNat = n - m.length by omega]
    unfold facN at f1 f2
    refine o_mul (by omega) (by omega) ?_
    exact ⟨by rw [Int.natCast_mul], rfl⟩
  rw [List.filter_eq_self.mpr fun _ _ => rfl]
  refine len_and (by rw [List.length_map]; omega) ?_
  walk_at "mk"
  rw [show ms.map (fun m => IV.int ((facN m.length * facN (n - m.length) : Nat) : Int)) = (ms.map fun m => ((facN m.length * facN (n - m.length) : Nat) : Int)).map IV.int by rw [List.map_map]; rfl]
  refine we_sumL ?_
  rw [show (ms.map fun m => ((facN m.length * facN (n - m.length) : Nat) : Int)).sum = ((shareN n ms : Nat) : Int) from sum_castN ms _]
  walk_at "mk"
  refine we_fac ⟨by omega, by omega⟩ ?_
  rw [show ((n : Int)).toNat = n by omega]
  have fn := fac_le n h1
  walk_at "mk"
  refine we_run (r_ratio ?_ ?_) ?_
  · unfold facN at fn; omega
  · unfold facN at fn; omega
  exact close_len rfl ⟨rfl, rfl⟩
end Law
end
section
set_option maxHeartbeats 2000000
namespace Law
open PySem L2 MK
local macro_rules | `(tactic| walk_at "mk1") => `(tactic| first
  | with_reducible refine Rule.ok ?_ | ((with_reducible refine' we_var ?hh ?_); (case hh => rfl)) | with_reducible refine eq_and rfl ?_ | ((with_reducible refine len_and ?hh ?_); (case hh => simp; done)) | with_reducible refine o_mod (by omega) ?_ | with_reducible refine o_div (by omega) ?_
  | with_reducible refine o_mul (by omega) (by omega) ?_ | ((with_reducible refine' o_ixC ?hh ?h2 ?_); (case hh => assumption); (case h2 => rfl)) | ((with_reducible refine' o_ixS ?hh ?_); (case hh => assumption)) | ((with_reducible refine' o_ixT ?hh ?_); (case hh => assumption))
  | ((with_reducible refine' o_ixL ?hh ?_); (case hh => assumption)) | ((with_reducible refine' o_ixT ?hh ?_); (case hh => rfl)) | ((with_reducible refine' o_ixL ?hh ?_); (case hh => rfl)) | with_reducible refine o_pow (by decide) (by decide) ?_
  | ((with_reducible refine' we_lenC ?hh ?_); (case hh => assumption)) | ((with_reducible refine' we_tupleC ?hh ?_); (case hh => assumption)) | (refine way_t rfl ?_) | (refine way_f rfl ?_) | ((refine' Exists.intro _ (And.intro ?hh ?_)); (case hh => rfl)))
local macro_rules | `(tactic| walk_at "mk") => `(tactic| repeat walk_at "mk1")
theorem emod_half {a b : Int} (h : 0 < b) (hab : b ≤ a) : 2 * (b * (a % b)) < a * b := by
  have h1 := Int.emod_nonneg a (show b ≠ 0 by omega)
  have h2 := Int.emod_lt_of_pos a h
  have h3 := Int.emod_add_mul_ediv a b
  have h4 : 1 ≤ a / b := by
    have := Int.ediv_le_ediv h hab
    rwa [Int.ediv_self (by omega)] at this
  have h5 : b ≤ b * (a / b) := by
    have := Int.mul_le_mul_of_nonneg_left h4 (show 0 ≤ b by omega)
    simpa using this
  have h6 : 2 * (a % b) < a := by omega
  have h7 := Int.mul_lt_mul_of_pos_left h6 h
  rw [Int.mul_comm a b, Int.mul_left_comm]
  exact h7
theorem r_lgcd {st : Sto} {a b : Int} (ha : 0 ≤ a) (hb : 0 ≤ b) (hz : a * b < 2 ^ 100) (ha2 : a < 2 ^ 100) : g_law_gcd [.int a, .int b] st = some (.val (.int ((Nat.gcd a.natAbs b.natAbs : Nat) : Int)), st) := by
  refine run_of (we_def (ls := [some (.int a), some (.int b), none]) rfl ?_)
  unfold m_law_gcd
  walk_at "mk"
  refine ⟨by decide, ?_⟩
  refine forL_inv (fun q ls s => s = st ∧ ∃ (x y : Int) (x2 : Option IV), ls = [some (.int x), some (.int y), x2] ∧ 0 ≤ x ∧ 0 ≤ y ∧ Nat.gcd x.natAbs y.natAbs = Nat.gcd a.natAbs b.natAbs ∧ ((y ≤ x ∧ x * y < 2 ^ (q.length - 1) ∧ 1 ≤ q.length) ∨ (x * y < 2 ^ (q.length - 2) ∧ 2 ≤ q.length))) ?_ ?_ _ _ _ ⟨rfl, a, b, none, rfl, ha, hb, rfl, .inr ⟨?_, ?_⟩⟩
  · rintro ls s ⟨rfl, x, y, x2, rfl, _, _, _, h | h⟩
    · exact absurd h.2.2 (by decide)
    · exact absurd h.2 (by decide)
  · rintro v q ls s ⟨rfl, x, y, x2, rfl, hx, hy, hg, h⟩
    refine ⟨trivial, _, rfl, ?_⟩
    walk_at "mk"
    rw [show PyData.eqv (.int y) (.int 0) = decide (y = 0) by rw [Bool.eq_iff_iff]; simp [PyData.eqv]]
    by_cases h0 : y = 0
    · rw [decide_eq_true h0]
      walk_at "mk"
      refine close_len rfl ⟨?_, rfl⟩
      rw [← hg, h0]
      simp
      omega
    · rw [decide_eq_false h0]
      walk_at "mk"
      have y0 : 0 < y := by omega
      have m0 := Int.emod_nonneg x h0
      have m1 := Int.emod_lt_of_pos x y0
      simp only [List.length_cons] at h
      refine ⟨rfl, y, x % y, _, rfl, hy, m0, ?_, .inl ?_⟩
      · rw [← hg]
        obtain ⟨m, rfl⟩ := Int.eq_ofNat_of_zero_le hx
        obtain ⟨k, rfl⟩ := Int.eq_ofNat_of_zero_le hy
        rw [← Int.natCast_emod, Int.natAbs_natCast, Int.natAbs_natCast, Int.natAbs_natCast, Nat.gcd_comm k, ← Nat.gcd_rec, Nat.gcd_comm]
      · have pp : ∀ k : Nat, (0 : Int) < 2 ^ k := fun k => Int.pow_pos (by decide)
        rcases h with ⟨h1, h2, h3⟩ | ⟨h2, h3⟩
        · have e := emod_half y0 h1
          rw [Nat.add_sub_cancel] at h2
          have hq1 : 1 ≤ q.length := by
            rcases Nat.eq_zero_or_pos q.length with z | z
            · rw [z] at h2
              have : 0 < x * y := Int.mul_pos (by omega) y0
              simp at h2
              omega
            · exact z
          have ep : (2 : Int) ^ q.length = 2 * 2 ^ (q.length - 1) := by
            rw [show q.length = (q.length - 1) + 1 by omega, Int.pow_succ, Nat.add_sub_cancel, Int.mul_comm]
          exact ⟨by omega, by omega, hq1⟩
        · rw [show q.length + 1 - 2 = q.length - 1 by omega] at h2
          refine ⟨by omega, ?_, by omega⟩
          by_cases hxy : y ≤ x
          · have e := emod_half y0 hxy
            have e2 : 0 ≤ y * (x % y) := Int.mul_nonneg hy m0
            omega
          · rw [Int.emod_eq_of_lt hx (by omega), Int.mul_comm]
            exact h2
  · have hp : (2 : Int) ^ 9997 = 2 ^ 100 * 2 ^ 9897 := by rw [← Int.pow_add]
    have h1 : (0 : Int) < 2 ^ 9897 := Int.pow_pos (by decide)
    have h2 : (rangeI 0 (Int.toNat 9999)).length - 2 = 9997 := by simp [rangeI]
    rw [h2, hp]
    have h3 : (2 : Int) ^ 100 * 1 ≤ 2 ^ 100 * 2 ^ 9897 := Int.mul_le_mul_of_nonneg_left (by omega) (by decide)
    rw [Int.mul_one] at h3
    exact Int.lt_of_lt_of_le hz h3
  · simp [rangeI]
theorem r_lratio {st : Sto} {a b : Int} (ha : 0 ≤ a) (hb : 0 < b) (hb2 : b < 2 ^ 100) (hz : a * b < 2 ^ 100) (ha2 : a < 2 ^ 100) : g_law_ratio [.int a, .int b] st = some (.val (pairV (a / (Nat.gcd a.natAbs b.natAbs : Nat), b / (Nat.gcd a.natAbs b.natAbs : Nat))), st) := by
  refine run_of (we_def (ls := [some (.int a), some (.int b), none]) rfl ?_)
  unfold m_law_ratio
  walk_at "mk"
  rw [if_neg (by omega)]
  refine we_run (r_lgcd ha (by omega) hz ha2) ?_
  have hg : 0 < Nat.gcd a.natAbs b.natAbs := Nat.gcd_pos_of_pos_right _ (by omega)
  have hg2 : Nat.gcd a.natAbs b.natAbs ≤ b.natAbs := Nat.gcd_le_right _ (by omega)
  generalize Nat.gcd a.natAbs b.natAbs = G at hg hg2
  have hG : 0 < (G : Int) ∧ (G : Int) < 2 ^ 200 := by omega
  walk_at "mk"
  first
    | (refine o_div hG ?_; walk_at "mk"; refine o_div hG ?_; walk_at "mk")
    | (refine o_div hG ?_; walk_at "mk")
    | skip
  exact close_len rfl ⟨rfl, rfl⟩
end Law
end
section
set_option maxHeartbeats 2000000
namespace Law
open PySem L2 MK
local macro_rules | `(tactic| walk_at "mk1") => `(tactic| first
  | with_reducible refine Rule.ok ?_ | ((with_reducible refine' we_var ?hh ?_); (case hh => rfl)) | with_reducible refine eq_and rfl ?_ | ((with_reducible refine len_and ?hh ?_); (case hh => simp; done)) | with_reducible refine o_mod (by omega) ?_ | with_reducible refine o_div (by omega) ?_
  | with_reducible refine o_mul (by omega) (by omega) ?_ | ((with_reducible refine' o_ixC ?hh ?h2 ?_); (case hh => assumption); (case h2 => rfl)) | ((with_reducible refine' o_ixS ?hh ?_); (case hh => assumption)) | ((with_reducible refine' o_ixT ?hh ?_); (case hh => assumption))
  | ((with_reducible refine' o_ixL ?hh ?_); (case hh => assumption)) | ((with_reducible refine' o_ixT ?hh ?_); (case hh => rfl)) | ((with_reducible refine' o_ixL ?hh ?_); (case hh => rfl)) | with_reducible refine o_pow (by decide) (by decide) ?_
  | ((with_reducible refine' we_lenC ?hh ?_); (case hh => assumption)) | ((with_reducible refine' we_tupleC ?hh ?_); (case hh => assumption)) | (refine way_t rfl ?_) | (refine way_f rfl ?_) | ((refine' Exists.intro _ (And.intro ?hh ?_)); (case hh => rfl)))
local macro_rules | `(tactic| walk_at "mk") => `(tactic| repeat walk_at "mk1")
variable {st : Sto} {n : Nat} {v w : IV}
theorem x_fmarksN (hv : dat v = true) (h : isIn 1 8 v = false) : we (g_free_marks [v, w]) st (fun c f x st' => st' = st ∧ c = "InvalidNumber" ∧ f = "value" ∧ x = v) fun _ _ => False := by
  refine we_def (ls := [some v, some w]) rfl ?_
  unfold m_free_marks
  walk_at "mk"
  refine we_monoX (x_most hv h) ?_ fun _ _ z => z.elim
  rintro c' f x st' ⟨rfl, rfl, rfl, rfl⟩
  exact .inl ⟨rfl, rfl, rfl, rfl, rfl⟩
theorem x_fshareN (hv : dat v = true) (h : isIn 1 8 v = false) : we (g_free_share [v, w]) st (fun c f x st' => st' = st ∧ c = "InvalidNumber" ∧ f = "value" ∧ x = v) fun _ _ => False := by
  refine we_def (ls := [some v, some w, none, none, none]) rfl ?_
  unfold m_free_share
  walk_at "mk"
  refine we_monoX (x_most hv h) ?_ fun _ _ z => z.elim
  rintro c' f x st' ⟨rfl, rfl, rfl, rfl⟩
  exact .inl ⟨rfl, rfl, rfl, rfl, rfl⟩
theorem x_fshare (h0 : 1 ≤ n) (h1 : n ≤ 8) (hv : cmpb 60 v = true) (h : (∀ l, v = .tup l → l.all (isMark n) = false) ∨ ∃ ms : List (List Int), v = .tup (ms.map tupI) ∧ (∀ m ∈ ms, Asc n m ∧ m ≠ []) ∧ (ms.map tupI).all (isMark n) = true ∧ ms.length ≤ 300 ∧ apartB ms = false) :
    we (g_free_share [.int n, v]) st (fun c f x st' => st' = st ∧ c = "InvalidMarks" ∧ f = "value" ∧ x = v) fun _ _ => False := by
  refine we_def (ls := [some (.int n), some v, none, none, none]) rfl ?_
  unfold m_free_share
  have mp := most_pos n (by omega) h0
  walk_at "mk"
  refine we_run (r_most h0 h1) ?_
  have hd := cmpb_dat _ _ hv
  cases v with
  | tup l =>
    walk_at "mk"
    refine ⟨fun hc => ?_, fun hc => ?_⟩
    · walk_at "mk"
      exact .inl ⟨rfl, rfl, rfl, rfl, rfl⟩
    · have hc := of_decide_eq_false hc
      walk_at "mk"
      rcases h with h | ⟨ms, e, hm, hi, hl, ha⟩
      · refine we_run (r_apartF hd (by omega) (h l rfl)) ?_
        walk_at "mk"
        exact .inl ⟨rfl, rfl, rfl, rfl, rfl⟩
      · cases e
        refine we_run (r_apart hm (by omega) hl hi) ?_
        rw [ha]
        walk_at "mk"
        exact .inl ⟨rfl, rfl, rfl, rfl, rfl⟩
  | obj c fs => simp [cmpb] at hv
  | cell n => simp [cmpb] at hv
  | exn a b c d e => simp [cmpb] at hv
  | _ =>
    walk_at "mk"
    exact .inl ⟨rfl, rfl, rfl, rfl, rfl⟩
theorem lt0 (h0 : 1 ≤ n) (h1 : n ≤ 8) : g_law_told [.int 0, .int n, v] st = some (.val (.tup [.str "told", .int (PySem.W.mcComb n ((n + 1) / 2 : Nat))]), st) := by
  refine run_of (we_def (ls := [some (.int 0), some (.int n), some v, none]) rfl ?_)
  unfold m_law_told
  walk_at "mk"
  refine we_run (r_most h0 h1) ?_
  walk_at "mk"
  exact close_len rfl ⟨rfl, rfl⟩
theorem lt1 {q : Int} (h0 : 1 ≤ n) (h1 : n ≤ 8) (hq : 1 ≤ q ∧ q ≤ PySem.W.mcComb n ((n + 1) / 2 : Nat)) : g_law_told [.int 1, .int n, .int q] st = some (.val (.tup [.str "told", .tup (((combZ8 n ((n + 1) / 2)).take q.toNat).map tupI)]), st) := by
  refine run_of (we_def (ls := [some (.int 1), some (.int n), some (.int q), none]) rfl ?_)
  unfold m_law_told
  walk_at "mk"
  refine we_run (r_fmarks h0 h1 hq) ?_
  walk_at "mk"
  exact close_len rfl ⟨rfl, rfl⟩
theorem lt2 {ms : List (List Int)} (h0 : 1 ≤ n) (h1 : n ≤ 8) (hm : ∀ m ∈ ms, Asc n m ∧ m ≠ []) (hi : (ms.map tupI).all (isMark n) = true) (ha : apartB ms = true) (hl : (ms.length : Int) ≤ PySem.W.mcComb n ((n + 1) / 2 : Nat)) :
    g_law_told [.int 2, .int n, .tup (ms.map tupI)] st = some (.val (.tup [.str "told", pairV ((shareN n ms : Int) / (Nat.gcd (shareN n ms) (facN n) : Nat), (facN n : Int) / (Nat.gcd (shareN n ms) (facN n) : Nat))]), st) := by
  refine run_of (we_def (ls := [some (.int 2), some (.int n), some (.tup (ms.map tupI)), none]) rfl ?_)
  unfold m_law_told
  walk_at "mk"
  refine we_run (r_fshare h0 h1 hm hi ha hl) ?_
  walk_at "mk"
  exact close_len rfl ⟨rfl, rfl⟩
theorem xlt (k : Int) (hk : k = 0 ∨ k = 1 ∨ k = 2) {cl word : Str} {x : IV} (hc : (cl = "InvalidNumber" ∧ word = "number") ∨ (cl = "InvalidMarks" ∧ word = "marks"))
    (h : ∀ {st}, we (if k = 0 then g_most_free [v] else if k = 1 then g_free_marks [v, w] else g_free_share [v, w]) st (fun c f y st' => st' = st ∧ c = cl ∧ f = "value" ∧ y = x) fun _ _ => False)
    (hw : x.pure = true) : g_law_told [.int k, v, w] st = some (.val (.tup [.str word, x]), st) := by
  refine run_of (we_def (ls := [some (.int k), some v, some w, none]) rfl ?_)
  unfold m_law_told
  have tail : ∀ (st' : Sto), st' = st → we (tryCl (subT subTab) [("InvalidNumber", 3, fun a cls d => mRet (mTup (mCons (mC (.str "number")) (mCons (mXf a cls d "value" (mVar 3)) (mNil))))), ("InvalidMarks", 3, fun a cls d => mRet (mTup (mCons (mC (.str "marks")) (mCons (mXf a cls d "value" (mVar 3)) (mNil)))))]
      [some (.int k), some v, some w, none] cl "value" x) st' noX fun fl st1 => match fl with
    | .nx _ => closeP false st.length (fun v st' => v = .tup [.str word, x] ∧ st' = st) .non st1
    | .rt v => closeP false st.length (fun v st' => v = .tup [.str word, x] ∧ st' = st) v st1
    | .ex _ c f v => (st1.length = st.length ∧ noX c f v st1) ∨ (st1.length ≠ st.length ∧ v.pure = true ∧ noX c f v (st1.take st.length))
    | _ => False := by
    rintro st' rfl
    rcases hc with ⟨rfl, rfl⟩ | ⟨rfl, rfl⟩
    · refine we_clR (w := .tup [.str "number", x]) (st1 := st') (by decide +kernel) (fun a C d => run_of ?_) ?_
      · walk_at "mk"
        exact ⟨rfl, rfl⟩
      · exact close_len rfl ⟨rfl, rfl⟩
    · refine we_clF (by decide +kernel) ?_
      refine we_clR (w := .tup [.str "marks", x]) (st1 := st') (by decide +kernel) (fun a C d => run_of ?_) ?_
      · walk_at "mk"
        exact ⟨rfl, rfl⟩
      · exact close_len rfl ⟨rfl, rfl⟩
  rcases hk with rfl | rfl | rfl
  all_goals
    walk_at "mk"
    refine we_monoX h ?_ fun _ _ z => z.elim
    rintro c f y st' ⟨h1, h2, h3, h4⟩
    rw [h2, h3, h4]
    exact tail _ h1
end Law
end
section
set_option maxHeartbeats 2000000
namespace Law
open PySem L2 MK
local macro_rules | `(tactic| walk_at "mk1") => `(tactic| first
  | with_reducible refine Rule.ok ?_ | ((with_reducible refine' we_var ?hh ?_); (case hh => rfl)) | with_reducible refine eq_and rfl ?_ | ((with_reducible refine len_and ?hh ?_); (case hh => simp; done)) | with_reducible refine o_mod (by omega) ?_ | with_reducible refine o_div (by omega) ?_
  | with_reducible refine o_mul (by omega) (by omega) ?_ | ((with_reducible refine' o_ixC ?hh ?h2 ?_); (case hh => assumption); (case h2 => rfl)) | ((with_reducible refine' o_ixS ?hh ?_); (case hh => assumption)) | ((with_reducible refine' o_ixT ?hh ?_); (case hh => assumption))
  | ((with_reducible refine' o_ixL ?hh ?_); (case hh => assumption)) | ((with_reducible refine' o_ixT ?hh ?_); (case hh => rfl)) | ((with_reducible refine' o_ixL ?hh ?_); (case hh => rfl)) | with_reducible refine o_pow (by decide) (by decide) ?_
  | ((with_reducible refine' we_lenC ?hh ?_); (case hh => assumption)) | ((with_reducible refine' we_tupleC ?hh ?_); (case hh => assumption)) | (refine way_t rfl ?_) | (refine way_f rfl ?_) | ((refine' Exists.intro _ (And.intro ?hh ?_)); (case hh => rfl)))
local macro_rules | `(tactic| walk_at "mk") => `(tactic| repeat walk_at "mk1")
theorem lies_sub {a b : List Int} : liesB a b = true ↔ a ⊆ b := by
  unfold liesB
  rw [List.all_eq_true]
  exact ⟨fun h x hx => of_decide_eq_true (h x hx), fun h x hx => decide_eq_true (h hx)⟩
theorem apart_iff {ms : List (List Int)} : apartB ms = true ↔ ∀ i ∈ rngL ms.length, ∀ j ∈ rngL ms.length, i ≠ j → ¬ getM ms i ⊆ getM ms j := by
  unfold apartB
  rw [List.all_eq_true]
  refine forall_congr' fun i => forall_congr' fun hi => ?_
  rw [List.all_eq_true]
  constructor
  · intro h j hj hne hs
    have := h j (List.mem_filter.mpr ⟨hj, by simp [hne]⟩)
    rw [lies_sub.mpr hs] at this
    cases this
  · intro h j hj
    obtain ⟨h1, h2⟩ := List.mem_filter.mp hj
    cases hl : liesB (getM ms i) (getM ms j) with
    | false => rfl
    | true => exact absurd (lies_sub.mp hl) (h j h1 (by simpa using h2))
theorem getM_get {ms : List (List Int)} {k : Nat} (h : k < ms.length) : getM ms (k : Int) = ms[k] := by
  unfold getM
  rw [List.getD_eq_getElem?_getD, show ((k : Int)).toNat = k by omega, List.getElem?_eq_getElem h]
  rfl
theorem apart_anti {ms : List (List Int)} (h : apartB ms = true) : Anti ms := by
  have h := apart_iff.mp h
  refine List.pairwise_iff_getElem.mpr fun i j hi hj hij => ?_
  rw [← getM_get hi, ← getM_get hj]
  exact ⟨h _ (rngL_mem.mpr ⟨by omega, by omega⟩) _ (rngL_mem.mpr ⟨by omega, by omega⟩) (by omega), h _ (rngL_mem.mpr ⟨by omega, by omega⟩) _ (rngL_mem.mpr ⟨by omega, by omega⟩) (by omega)⟩
theorem anti_apart {ms : List (List Int)} (h : Anti ms) : apartB ms = true := by
  refine apart_iff.mpr fun i hi j hj hne => ?_
  have hi := rngL_mem.mp hi
  have hj := rngL_mem.mp hj
  have ei := getM_get (ms := ms) (k := i.toNat) (by omega)
  have ej := getM_get (ms := ms) (k := j.toNat) (by omega)
  rw [show ((i.toNat : Nat) : Int) = i by omega] at ei
  rw [show ((j.toNat : Nat) : Int) = j by omega] at ej
  rw [ei, ej]
  have hp := List.pairwise_iff_getElem.mp h
  rcases Nat.lt_or_ge i.toNat j.toNat with h1 | h1
  · exact (hp _ _ _ _ h1).1
  · exact (hp j.toNat i.toNat (by omega) (by omega) (by omega)).2
theorem same_len_anti {n : Int} {k : Nat} {ms : List (List Int)} (hm : ∀ m ∈ ms, Asc n m ∧ m.length = k) (nd : ms.Nodup) : Anti ms := by
  have key : ∀ a ∈ ms, ∀ b ∈ ms, a ≠ b → ¬ a ⊆ b := fun a ha b hb hne hs => by
    obtain ⟨a1, a2⟩ := hm a ha
    obtain ⟨b1, b2⟩ := hm b hb
    have z := miss_len (S := b) (m := a) (b1.1.imp fun q => Int.ne_of_lt q) (a1.1.imp fun q => Int.ne_of_lt q) hs
    have h0 : (b.filter fun x => !decide (x ∈ a)) = [] := List.eq_nil_of_length_eq_zero (by omega)
    have hba : ∀ x, x ∈ b → x ∈ a := fun x hx => by
      have := List.filter_eq_nil_iff.mp h0 x hx
      simpa using this
    exact hne (pw_ext a1.1 b1.1 fun x => ⟨fun h => hs h, hba x⟩)
  exact List.Pairwise.imp_of_mem (fun ha hb hne => ⟨key _ ha _ hb hne, key _ hb _ ha (Ne.symm hne)⟩) nd
theorem share_le {n : Nat} {ms : List (List Int)} (hm : ∀ m ∈ ms, Asc n m) (ha : apartB ms = true) : shareN n ms ≤ facN n := by
  refine lym n (rngL n) ms (by rw [rngL_len]; omega) (rngL_pw.imp fun q => Int.ne_of_lt q) (fun m h => ?_) (apart_anti ha)
  exact ⟨(hm m h).1.imp fun q => Int.ne_of_lt q, fun x hx => rngL_mem.mpr ((hm m h).2 x hx)⟩
theorem most_le {n : Nat} {ms : List (List Int)} (hn : n ≤ 8) (hm : ∀ m ∈ ms, Asc n m) (ha : apartB ms = true) : (ms.length : Int) ≤ PySem.W.mcComb n ((n + 1) / 2 : Nat) := by
  have z := sperner hn (S := rngL n) (F := ms) (by rw [rngL_len]; omega) (rngL_pw.imp fun q => Int.ne_of_lt q) (fun m h => ⟨(hm m h).1.imp fun q => Int.ne_of_lt q, fun x hx => rngL_mem.mpr ((hm m h).2 x hx)⟩) (apart_anti ha)
  have h0 : ∀ n : Nat, n < 9 → 0 ≤ PySem.W.mcComb n ((n + 1) / 2 : Nat) := by decide +kernel
  have := h0 n (by omega)
  omega
end Law
end
section
set_option maxHeartbeats 2000000
namespace Law
open PySem L2 MK
local macro_rules | `(tactic| walk_at "mk1") => `(tactic| first
  | with_reducible refine Rule.ok ?_ | ((with_reducible refine' we_var ?hh ?_); (case hh => rfl)) | with_reducible refine eq_and rfl ?_ | ((with_reducible refine len_and ?hh ?_); (case hh => simp; done)) | with_reducible refine o_mod (by omega) ?_ | with_reducible refine o_div (by omega) ?_
  | with_reducible refine o_mul (by omega) (by omega) ?_ | ((with_reducible refine' o_ixC ?hh ?h2 ?_); (case hh => assumption); (case h2 => rfl)) | ((with_reducible refine' o_ixS ?hh ?_); (case hh => assumption)) | ((with_reducible refine' o_ixT ?hh ?_); (case hh => assumption))
  | ((with_reducible refine' o_ixL ?hh ?_); (case hh => assumption)) | ((with_reducible refine' o_ixT ?hh ?_); (case hh => rfl)) | ((with_reducible refine' o_ixL ?hh ?_); (case hh => rfl)) | with_reducible refine o_pow (by decide) (by decide) ?_
  | ((with_reducible refine' we_lenC ?hh ?_); (case hh => assumption)) | ((with_reducible refine' we_tupleC ?hh ?_); (case hh => assumption)) | (refine way_t rfl ?_) | (refine way_f rfl ?_) | ((refine' Exists.intro _ (And.intro ?hh ?_)); (case hh => rfl)))
local macro_rules | `(tactic| walk_at "mk") => `(tactic| repeat walk_at "mk1")
theorem frac_eq {x1 y1 x2 y2 : Nat} (h1 : 0 < y1) (h2 : 0 < y2) (h : x1 * y2 = x2 * y1) : x1 / Nat.gcd x1 y1 = x2 / Nat.gcd x2 y2 ∧ y1 / Nat.gcd x1 y1 = y2 / Nat.gcd x2 y2 := by
  have g1 : 0 < Nat.gcd x1 y1 := Nat.gcd_pos_of_pos_right _ h1
  have g2 : 0 < Nat.gcd x2 y2 := Nat.gcd_pos_of_pos_right _ h2
  have c1 := Nat.coprime_div_gcd_div_gcd g1
  have c2 := Nat.coprime_div_gcd_div_gcd g2
  have e1 := Nat.div_mul_cancel (Nat.gcd_dvd_left x1 y1)
  have e2 := Nat.div_mul_cancel (Nat.gcd_dvd_right x1 y1)
  have e3 := Nat.div_mul_cancel (Nat.gcd_dvd_left x2 y2)
  have e4 := Nat.div_mul_cancel (Nat.gcd_dvd_right x2 y2)
  generalize Nat.gcd x1 y1 = G1 at *
  generalize Nat.gcd x2 y2 = G2 at *
  generalize x1 / G1 = p1 at *
  generalize y1 / G1 = q1 at *
  generalize x2 / G2 = p2 at *
  generalize y2 / G2 = q2 at *
  have hpq : p1 * q2 = p2 * q1 := by
    rw [← e1, ← e2, ← e3, ← e4] at h
    have : (p1 * q2) * (G1 * G2) = (p2 * q1) * (G1 * G2) := by
      have l : p1 * G1 * (q2 * G2) = (p1 * q2) * (G1 * G2) := by
        rw [Nat.mul_mul_mul_comm]
      have r : p2 * G2 * (q1 * G1) = (p2 * q1) * (G1 * G2) := by
        rw [Nat.mul_mul_mul_comm, Nat.mul_comm G2 G1]
      rw [← l, ← r]; exact h
    exact Nat.eq_of_mul_eq_mul_right (Nat.mul_pos g1 g2) this
  have d1 : p1 ∣ p2 := c1.dvd_of_dvd_mul_right (hpq ▸ Nat.dvd_mul_right p1 q2)
  have d2 : p2 ∣ p1 := c2.dvd_of_dvd_mul_right (hpq.symm ▸ Nat.dvd_mul_right p2 q1)
  have ep := Nat.dvd_antisymm d1 d2
  have d3 : q1 ∣ q2 := c1.symm.dvd_of_dvd_mul_left (hpq ▸ Nat.dvd_mul_left q1 p2)
  have d4 : q2 ∣ q1 := c2.symm.dvd_of_dvd_mul_left (hpq.symm ▸ Nat.dvd_mul_left q2 p1)
  exact ⟨ep, Nat.dvd_antisymm d3 d4⟩
end Law
end
section
set_option maxHeartbeats 2000000
namespace Law
open PySem L2 MK
local macro_rules | `(tactic| walk_at "mk1") => `(tactic| first
  | with_reducible refine Rule.ok ?_ | ((with_reducible refine' we_var ?hh ?_); (case hh => rfl)) | with_reducible refine eq_and rfl ?_ | ((with_reducible refine len_and ?hh ?_); (case hh => simp; done)) | with_reducible refine o_mod (by omega) ?_ | with_reducible refine o_div (by omega) ?_
  | with_reducible refine o_mul (by omega) (by omega) ?_ | ((with_reducible refine' o_ixC ?hh ?h2 ?_); (case hh => assumption); (case h2 => rfl)) | ((with_reducible refine' o_ixS ?hh ?_); (case hh => assumption)) | ((with_reducible refine' o_ixT ?hh ?_); (case hh => assumption))
  | ((with_reducible refine' o_ixL ?hh ?_); (case hh => assumption)) | ((with_reducible refine' o_ixT ?hh ?_); (case hh => rfl)) | ((with_reducible refine' o_ixL ?hh ?_); (case hh => rfl)) | with_reducible refine o_pow (by decide) (by decide) ?_
  | ((with_reducible refine' we_lenC ?hh ?_); (case hh => assumption)) | ((with_reducible refine' we_tupleC ?hh ?_); (case hh => assumption)) | (refine way_t rfl ?_) | (refine way_f rfl ?_) | ((refine' Exists.intro _ (And.intro ?hh ?_)); (case hh => rfl)))
local macro_rules | `(tactic| walk_at "mk") => `(tactic| repeat walk_at "mk1")
theorem ch_fac : ∀ n : Nat, n < 9 → ∀ r : Nat, r ≤ n → chT n r = ((chT n r).toNat : Int) ∧ (chT n r).toNat * (facN r * facN (n - r)) = facN n ∧ 1 ≤ (chT n r).toNat ∧ (chT n r).toNat ≤ 70 := by decide +kernel
def redA (n S : Nat) : Nat := S / Nat.gcd S (facN n)
def redB (n S : Nat) : Nat := facN n / Nat.gcd S (facN n)
theorem red_cross (n S : Nat) : redA n S * facN n = S * redB n S := by
  unfold redA redB
  have e1 := Nat.div_mul_cancel (Nat.gcd_dvd_left S (facN n))
  have e2 := Nat.div_mul_cancel (Nat.gcd_dvd_right S (facN n))
  generalize Nat.gcd S (facN n) = G at *
  generalize S / G = a at *
  generalize facN n / G = b at *
  rw [← e1, ← e2, Nat.mul_comm b G, ← Nat.mul_assoc]
theorem redB_pos {n : Nat} (hn : n ≤ 8) (S : Nat) : 0 < redB n S ∧ redB n S ≤ 40320 := by
  have f := fac_le n hn
  unfold redB
  refine ⟨Nat.div_pos (Nat.gcd_le_right _ f.2) (Nat.gcd_pos_of_pos_right _ f.2), Nat.le_trans (Nat.div_le_self _ _) f.1⟩
theorem share_step {n r S : Nat} (hn : n ≤ 8) (hr : r ≤ n) :
    (redA n S * (chT n r).toNat + redB n S) / Nat.gcd (redA n S * (chT n r).toNat + redB n S) (redB n S * (chT n r).toNat) = redA n (S + facN r * facN (n - r)) ∧
    (redB n S * (chT n r).toNat) / Nat.gcd (redA n S * (chT n r).toNat + redB n S) (redB n S * (chT n r).toNat) = redB n (S + facN r * facN (n - r)) := by
  obtain ⟨_, h2, h3, _⟩ := ch_fac n (by omega) r hr
  have hb := (redB_pos hn S).1
  have f := fac_le n hn
  have hc := red_cross n S
  refine frac_eq (Nat.mul_pos hb (by omega)) f.2 ?_
  generalize (chT n r).toNat = z at *
  generalize facN r * facN (n - r) = L at *
  generalize redA n S = a at *
  generalize redB n S = b at *
  generalize facN n = N at *
  rw [Nat.add_mul, Nat.add_mul]
  have e1 : a * z * N = S * (b * z) := by
    rw [Nat.mul_right_comm, hc, Nat.mul_assoc]
  have e2 : b * N = L * (b * z) := by
    rw [← h2, Nat.mul_left_comm b z L, Nat.mul_comm L, Nat.mul_comm b z, Nat.mul_assoc]
  rw [e1, e2]
end Law
end
section
set_option maxHeartbeats 2000000
namespace Law
open PySem L2 MK
local macro_rules | `(tactic| walk_at "mk1") => `(tactic| first
  | with_reducible refine Rule.ok ?_ | ((with_reducible refine' we_var ?hh ?_); (case hh => rfl)) | with_reducible refine eq_and rfl ?_ | ((with_reducible refine len_and ?hh ?_); (case hh => simp; done)) | with_reducible refine o_mod (by omega) ?_ | with_reducible refine o_div (by omega) ?_
  | with_reducible refine o_mul (by omega) (by omega) ?_ | ((with_reducible refine' o_ixC ?hh ?h2 ?_); (case hh => assumption); (case h2 => rfl)) | ((with_reducible refine' o_ixS ?hh ?_); (case hh => assumption)) | ((with_reducible refine' o_ixT ?hh ?_); (case hh => assumption))
  | ((with_reducible refine' o_ixL ?hh ?_); (case hh => assumption)) | ((with_reducible refine' o_ixT ?hh ?_); (case hh => rfl)) | ((with_reducible refine' o_ixL ?hh ?_); (case hh => rfl)) | with_reducible refine o_pow (by decide) (by decide) ?_
  | ((with_reducible refine' we_lenC ?hh ?_); (case hh => assumption)) | ((with_reducible refine' we_tupleC ?hh ?_); (case hh => assumption)) | (refine way_t rfl ?_) | (refine way_f rfl ?_) | ((refine' Exists.intro _ (And.intro ?hh ?_)); (case hh => rfl)))
local macro_rules | `(tactic| walk_at "mk") => `(tactic| repeat walk_at "mk1")
theorem tot_single {k : Int} {ms : List (List Int)} (hk : Mk k ms) (ha : apartB ms = true) : totS k ms 1 = 0 := by
  have l1 := hk.l1
  have l7 := hk.l7
  have hap := apart_iff.mp ha
  unfold totS
  have z : ∀ ks ∈ combZ ms.length 1, ((wrongS k ms ks).length : Int) = 0 := fun ks hks => by
    obtain ⟨h1, h2⟩ := (combZ_mem (by omega) (by omega)).mp hks
    obtain ⟨i, rfl⟩ := List.length_eq_one_iff.mp h2
    have hi := h1.2 i List.mem_cons_self
    have : wrongS k ms [i] = [] := by
      unfold wrongS
      refine List.filter_eq_nil_iff.mpr fun j hj => ?_
      obtain ⟨h3, h4⟩ := says_mem.mp hj
      have hji : j = i := by
        rcases Decidable.em (j = i) with e | e
        · exact e
        · exfalso
          refine hap j (rngL_mem.mpr h3) i (rngL_mem.mpr hi) e fun c hc => ?_
          obtain ⟨x, hx, hcx⟩ := (fill_mem hk h1).mp (h4 c hc)
          rw [List.mem_singleton.mp hx] at hcx
          exact hcx
      simp [hji]
    rw [this]
    rfl
  rw [List.map_congr_left (g := fun _ => (0 : Int)) z]
  generalize combZ ms.length 1 = L
  induction L with
  | nil => rfl
  | cons a L ih => simpa using ih
end Law
end
section
set_option maxHeartbeats 2000000
namespace Law
open PySem L2 MK
local macro_rules | `(tactic| walk_at "mk1") => `(tactic| first
  | with_reducible refine Rule.ok ?_ | ((with_reducible refine' we_var ?hh ?_); (case hh => rfl)) | with_reducible refine eq_and rfl ?_ | ((with_reducible refine len_and ?hh ?_); (case hh => simp; done)) | with_reducible refine o_mod (by omega) ?_ | with_reducible refine o_div (by omega) ?_
  | with_reducible refine o_mul (by omega) (by omega) ?_ | ((with_reducible refine' o_ixC ?hh ?h2 ?_); (case hh => assumption); (case h2 => rfl)) | ((with_reducible refine' o_ixS ?hh ?_); (case hh => assumption)) | ((with_reducible refine' o_ixT ?hh ?_); (case hh => assumption))
  | ((with_reducible refine' o_ixL ?hh ?_); (case hh => assumption)) | ((with_reducible refine' o_ixT ?hh ?_); (case hh => rfl)) | ((with_reducible refine' o_ixL ?hh ?_); (case hh => rfl)) | with_reducible refine o_pow (by decide) (by decide) ?_
  | ((with_reducible refine' we_lenC ?hh ?_); (case hh => assumption)) | ((with_reducible refine' we_tupleC ?hh ?_); (case hh => assumption)) | (refine way_t rfl ?_) | (refine way_f rfl ?_) | ((refine' Exists.intro _ (And.intro ?hh ?_)); (case hh => rfl)))
local macro_rules | `(tactic| walk_at "mk") => `(tactic| repeat walk_at "mk1")
def Short (v : IV) : Prop := ∀ l, v = .tup l → l.length ≤ 300
theorem Short.tup {l : List IV} {m : Nat} (h : l.length ≤ m) (hm : m ≤ 300) : Short (.tup l) := fun l' e => by cases e; omega
theorem Short.oth {v : IV} (h : ∀ l, v ≠ .tup l) : Short v := fun l e => absurd e (h l)
theorem sp_k0L {g : MF} {s : Sto} {n d : Nat} {l : List IV} {a deep : Int} (L : OkL d 100 l) (a0 : 0 ≤ a) (hb : BoxAt s n) :
    we (m_law_spoilt_k0 g [some (.cell n), some (.tup l), some (.int deep), some (.int a), none]) s noX fun fl s' => ∃ v, fl = .rt v ∧ (cmpb (d + 3) v = true ∧ Short v) ∧ Only1 n s s' ∧ BoxAt s' n := by
  unfold m_law_spoilt_k0
  have L2 := L.up (e := d + 2) (by omega)
  have E0 : OkL (d + 2) 1 [.tup []] := .one (cmpb_tup.mpr ⟨by simp, by simp⟩)
  have Z0 : OkL (d + 2) 1 [.int 0] := .one (by cases d <;> rfl)
  walk_at "mk"
  refine we_nox (r_take hb (by omega) (by omega)) ?_
  rintro v1 s1 ⟨how, rfl, h0, h1, o1, hb1⟩
  have fin : ∀ {l' : List IV} {m : Nat}, OkL (d + 2) m l' → m ≤ 300 → ∃ v, Fl.rt (.tup l') = .rt v ∧ (cmpb (d + 3) v = true ∧ Short v) ∧ Only1 n s s1 ∧ BoxAt s1 n := fun h hm => ⟨_, rfl, ⟨h.tup (by omega), Short.tup h.len hm⟩, o1, hb1⟩
  walk_at "mk"
  refine ⟨fun h => ?_, fun h => ?_⟩
  · walk_at "mk"
    exact ⟨⟨L2.lst (by decide), Short.oth (by simp)⟩, o1, hb1⟩
  walk_at "mk"
  refine ⟨fun h => ?_, fun h => ?_⟩
  · walk_at "mk"
    refine o_addOk (L2.cut _ _) (L2.cut _ _) (by decide) ?_
    exact fin ((L2.cut _ _).app (L2.cut _ _)) (by decide)
  walk_at "mk"
  refine ⟨fun h => ?_, fun h => ?_⟩
  · walk_at "mk"
    refine o_addOk (L2.cut _ _) (L2.cut _ _) (by decide) ?_
    walk_at "mk"
    refine o_addOk ((L2.cut _ _).app (L2.cut _ _)) (L2.cut _ _) (by decide) ?_
    exact fin (((L2.cut _ _).app (L2.cut _ _)).app (L2.cut _ _)) (by decide)
  walk_at "mk"
  refine ⟨fun h => ?_, fun h => ?_⟩
  · walk_at "mk"
    refine o_addOk (L2.cut _ _) (L2.cut _ _) (by decide) ?_
    exact fin ((L2.cut _ _).app (L2.cut _ _)) (by decide)
  walk_at "mk"
  refine ⟨fun h => ?_, fun h => ?_⟩
  · walk_at "mk"
    refine o_addOk L2 E0 (by decide) ?_
    exact fin (L2.app E0) (by decide)
  walk_at "mk"
  refine ⟨fun h => ?_, fun h => ?_⟩
  · walk_at "mk"
    refine o_addOk (L2.cut _ _) Z0 (by decide) ?_
    walk_at "mk"
    refine o_addOk ((L2.cut _ _).app Z0) (L2.cut _ _) (by decide) ?_
    exact fin (((L2.cut _ _).app Z0).app (L2.cut _ _)) (by decide)
  walk_at "mk"
  refine ⟨fun h => ?_, fun h => ?_⟩
  · walk_at "mk"
    refine o_addOk (L2.cut _ _) (L2.cut _ _) (by decide) ?_
    exact fin ((L2.cut _ _).app (L2.cut _ _)) (by decide)
  walk_at "mk"
  exact ⟨⟨by cases d <;> rfl, Short.oth (by simp)⟩, o1, hb1⟩
theorem r_spoiltL : ∀ (d fuel : Nat) {st : Sto} {n : Nat} {v : IV} {deep : Int}, d < fuel → d ≤ 20 → Tree d v → BoxAt st n →
    we (g_law_spoilt fuel [.cell n, v, .int deep]) st noX fun r st' => (cmpb (d + 2) r = true ∧ Short r) ∧ Only1 n st st' ∧ BoxAt st' n
  | d, 0, _, _, _, _, h, _, _, _ => by omega
  | 0, fuel + 1, st, n, v, deep, _, _, ht, hb => by
    obtain ⟨i, rfl, i0, i1⟩ := ht
    refine we_def (ls := [some (.cell n), some (.int i), some (.int deep), none, none]) rfl ?_
    unfold m_law_spoilt
    walk_at "mk"
    refine we_run (r_whole rfl) ?_
    walk_at "mk"
    refine we_str i0 i1 fun z hz => ?_
    walk_at "mk"
    refine we_nox (r_pick hb .lst (by simp) (by simp)) ?_
    rintro v st' ⟨hv, o, hb'⟩
    refine close_len o.len ⟨?_, o, hb'⟩
    simp only [List.mem_cons, List.not_mem_nil, or_false] at hv
    rcases hv with rfl | rfl | rfl | rfl | rfl | rfl | rfl | rfl
    all_goals first
      | exact ⟨rfl, Short.tup (m := 1) (Nat.le_refl _) (by decide)⟩
      | exact ⟨rfl, fun l e => by cases e⟩
      | exact ⟨hz, fun l e => by cases e⟩
  | d + 1, fuel + 1, st, n, v, deep, hf, hd, ht, hb => by
    have hc := ht.cmpb
    obtain ⟨l, rfl, l1, l2⟩ := ht
    have L : OkL d 100 l := ⟨l1, fun x hx => (l2 x hx).cmpb⟩
    refine we_def (ls := [some (.cell n), some (.tup l), some (.int deep), none, none]) rfl ?_
    unfold m_law_spoilt
    walk_at "mk"
    refine we_nox (r_take hb (by omega) (by omega)) ?_
    rintro v1 s1 ⟨a, rfl, a0, a1, o1, hb1⟩
    walk_at "mk"
    have tail : ∀ (s' : Sto) (a' : Int), 0 ≤ a' → BoxAt s' n → Only1 n st s' → we (m_law_spoilt_k0 (g_law_spoilt fuel) [some (.cell n), some (.tup l), some (.int deep), some (.int a'), none]) s' noX fun fl s2 => ∃ v, fl = .rt v ∧ (cmpb (d + 1 + 2) v = true ∧ Short v) ∧ Only1 n st s2 ∧ BoxAt s2 n :=
      fun s' a' h0 hb' o' => we_mono (sp_k0L L h0 hb') fun fl s2 ⟨v, e, c, o2, b2⟩ => ⟨v, e, c, o'.trans o2, b2⟩
    refine o_ne (cmpb_up (d + 1) 64 _ (by omega) hc) rfl ?_
    refine ⟨_, rfl, fun h1 => ?_, fun h1 => ?_⟩
    · have hne : l ≠ [] := by
        intro z
        subst z
        simp [veq, veqL] at h1
      have hl0 : 0 < l.length := List.length_pos_iff.mpr hne
      walk_at "mk"
      refine ⟨fun h2 => ?_, fun h2 => ?_⟩
      · walk_at "mk"
        refine we_nox (r_take hb1 (by omega) (by omega)) ?_
        rintro v2 s2 ⟨q, rfl, q0, q5, o2, hb2⟩
        have o12 := o1.trans o2
        walk_at "mk"
        refine ⟨fun h3 => ?_, fun h3 => ?_⟩
        · walk_at "mk"
          have m0 : 0 ≤ a % (l.length : Int) := Int.emod_nonneg _ (by omega)
          have m1 : a % (l.length : Int) < l.length := Int.emod_lt_of_pos _ (by omega)
          have hx : (a % (l.length : Int)).toNat < l.length := by omega
          have hat := atI_get (l := l) m0 (List.getElem?_eq_getElem hx)
          walk_at "mk"
          refine we_nox (r_spoiltL d fuel (by omega) (by omega) (l2 _ (List.getElem_mem hx)) hb2) ?_
          rintro v3 s3 ⟨⟨c3, _⟩, o3, hb3⟩
          have L2 := L.up (e := d + 2) (by omega)
          walk_at "mk"
          refine o_addOk (L2.cut _ _) (OkL.one c3) (by decide) ?_
          walk_at "mk"
          refine o_addOk ((L2.cut _ _).app (OkL.one c3)) (L2.cut _ _) (by decide) ?_
          exact close_len (o12.trans o3).len ⟨⟨(((L2.cut _ _).app (OkL.one c3)).app (L2.cut _ _)).tup (by decide), Short.tup (((L2.cut _ _).app (OkL.one c3)).app (L2.cut _ _)).len (by decide)⟩, o12.trans o3, hb3⟩
        · walk_at "mk"
          refine we_mono (tail s2 a a0 hb2 o12) ?_
          rintro fl s3 ⟨v, rfl, c, o3, b3⟩
          exact close_len o3.len ⟨c, o3, b3⟩
      · walk_at "mk"
        refine we_mono (tail s1 a a0 hb1 o1) ?_
        rintro fl s2 ⟨v, rfl, c, o2, b2⟩
        exact close_len o2.len ⟨c, o2, b2⟩
    · walk_at "mk"
      refine we_mono (tail s1 a a0 hb1 o1) ?_
      rintro fl s2 ⟨v, rfl, c, o2, b2⟩
      exact close_len o2.len ⟨c, o2, b2⟩
def VOk (v : IV) : Prop := cmpb 30 v = true ∧ Short v
theorem VOk.cls {c : Int} {v : IV} (h : VOk v) : (∀ l, v = .tup l → l.all (isMark c) = false) ∨ ∃ ms : List (List Int), v = .tup (ms.map tupI) ∧ (∀ m ∈ ms, Asc c m ∧ m ≠ []) ∧ (ms.map tupI).all (isMark c) = true ∧ ms.length ≤ 300 := by
  cases v with
  | tup l =>
    cases ha : l.all (isMark c) with
    | false => exact .inl fun l' e => by cases e; exact ha
    | true =>
      obtain ⟨ms, rfl, hm⟩ := marksOf ha
      have hl := h.2 _ rfl
      rw [List.length_map] at hl
      exact .inr ⟨ms, rfl, hm, ha, hl⟩
  | _ => exact .inl fun l e => by cases e
def VL (l : List IV) : Prop := ∀ v ∈ l, VOk v
theorem VL.nil : VL [] := fun v h => by cases h
theorem VL.cons {v : IV} {l : List IV} (h : VOk v) (hl : VL l) : VL (v :: l) := fun w hw => by
  rcases List.mem_cons.mp hw with e | e
  · subst e; exact h
  · exact hl w e
theorem VL.app {l m : List IV} (h : VL l) (hm : VL m) : VL (l ++ m) := fun v hv => (List.mem_append.mp hv).elim (h v) (hm v)
theorem VL.pure {l : List IV} (h : VL l) : pureL l = true := datL_pure _ (cmpbL_dat 30 _ (cmpbL_iff.mpr fun v hv => (h v hv).1))
theorem red_zero {n : Nat} (hn : n ≤ 8) : redA n 0 = 0 ∧ redB n 0 = 1 := by
  have f := fac_le n hn
  unfold redA redB
  rw [Nat.gcd_zero_left]
  exact ⟨Nat.zero_div _, Nat.div_self f.2⟩
theorem red_le {n S : Nat} (h : S ≤ facN n) : redA n S ≤ redB n S := Nat.div_le_div_right h
theorem redA_le {n : Nat} (hn : n ≤ 8) {S : Nat} (h : S ≤ 40320000) : redA n S ≤ 40320000 := Nat.le_trans (Nat.div_le_self _ _) h
theorem lt2R {st : Sto} {n : Nat} {ms : List (List Int)} (h0 : 1 ≤ n) (h1 : n ≤ 8) (hm : ∀ m ∈ ms, Asc n m ∧ m ≠ []) (hi : (ms.map tupI).all (isMark n) = true) (ha : apartB ms = true) :
    g_law_told [.int 2, .int n, .tup (ms.map tupI)] st = some (.val (.tup [.str "told", .tup [.int (redA n (shareN n ms) : Nat), .int (redB n (shareN n ms) : Nat)]]), st) := by
  have z := lt2 (st := st) h0 h1 hm hi ha (most_le h1 (fun m h => (hm m h).1) ha)
  rw [z]
  have e1 : ((shareN n ms : Nat) : Int) / ((Nat.gcd (shareN n ms) (facN n) : Nat) : Int) = (redA n (shareN n ms) : Nat) := by
    unfold redA; omega
  have e2 : ((facN n : Nat) : Int) / ((Nat.gcd (shareN n ms) (facN n) : Nat) : Int) = (redB n (shareN n ms) : Nat) := by
    unfold redB; omega
  rw [e1, e2]
  rfl
theorem share_app (n : Nat) (l m : List (List Int)) : shareN n (l ++ m) = shareN n l + shareN n m := by
  unfold shareN
  rw [List.map_append, List.sum_append]
theorem share_one (n : Nat) (m : List Int) : shareN n [m] = facN m.length * facN (n - m.length) := by
  unfold shareN
  simp
theorem r_step {st : Sto} {n r S : Nat} (hn : n ≤ 8) (hr : r ≤ n) (hS : S ≤ 40320) :
    g_law_ratio [.int ((redA n S : Nat) * chT n r + (redB n S : Nat)), .int ((redB n S : Nat) * chT n r)] st = some (.val (.tup [.int (redA n (S + facN r * facN (n - r)) : Nat), .int (redB n (S + facN r * facN (n - r)) : Nat)]), st) := by
  obtain ⟨e, _, z1, z2⟩ := ch_fac n (by omega) r hr
  obtain ⟨s1, s2⟩ := share_step (S := S) hn hr
  obtain ⟨b0, b1⟩ := redB_pos hn S
  have a1 := redA_le hn (S := S) (by omega)
  have a1 : redA n S ≤ 40320 := Nat.le_trans (Nat.div_le_self _ _) hS
  rw [e]
  generalize (chT n r).toNat = z at *
  generalize redA n S = a at *
  generalize redB n S = b at *
  have h1 : a * z ≤ 40320 * 70 := Nat.mul_le_mul a1 z2
  have h2 : b * z ≤ 40320 * 70 := Nat.mul_le_mul b1 z2
  have h3 : 0 < b * z := Nat.mul_pos b0 (by omega)
  have e1 : (((a : Nat) : Int) * (z : Nat) + (b : Nat)) = ((a * z + b : Nat) : Int) := by rw [Int.natCast_add, Int.natCast_mul]
  have e2 : (((b : Nat) : Int) * (z : Nat)) = ((b * z : Nat) : Int) := by rw [Int.natCast_mul]
  rw [e1, e2]
  have h4 : (a * z + b) * (b * z) ≤ (40320 * 70 + 40320) * (40320 * 70) := Nat.mul_le_mul (by omega) h2
  have h5 : (((a * z + b : Nat) : Int) * ((b * z : Nat) : Int)) < 2 ^ 100 := by
    rw [← Int.natCast_mul]
    omega
  rw [r_lratio (by omega) (by omega) (by omega) h5 (by omega)]
  rw [Int.natAbs_natCast, Int.natAbs_natCast]
  have d1 : (((a * z + b : Nat) : Int) / ((Nat.gcd (a * z + b) (b * z) : Nat) : Int)) = (((a * z + b) / Nat.gcd (a * z + b) (b * z) : Nat) : Int) := by
    generalize a * z + b = x
    generalize Nat.gcd x (b * z) = g
    omega
  have d2 : (((b * z : Nat) : Int) / ((Nat.gcd (a * z + b) (b * z) : Nat) : Int)) = (((b * z) / Nat.gcd (a * z + b) (b * z) : Nat) : Int) := by
    generalize b * z = x
    generalize Nat.gcd (a * z + b) x = g
    omega
  rw [d1, d2, s1, s2]
  rfl
end Law
end
section
set_option maxHeartbeats 2000000
namespace Law
open PySem L2 MK
local macro_rules | `(tactic| walk_at "mk1") => `(tactic| first
  | with_reducible refine Rule.ok ?_ | ((with_reducible refine' we_var ?hh ?_); (case hh => rfl)) | with_reducible refine eq_and rfl ?_ | ((with_reducible refine len_and ?hh ?_); (case hh => simp; done)) | with_reducible refine o_mod (by omega) ?_ | with_reducible refine o_div (by omega) ?_
  | with_reducible refine o_mul (by omega) (by omega) ?_ | ((with_reducible refine' o_ixC ?hh ?h2 ?_); (case hh => assumption); (case h2 => rfl)) | ((with_reducible refine' o_ixS ?hh ?_); (case hh => assumption)) | ((with_reducible refine' o_ixT ?hh ?_); (case hh => assumption))
  | ((with_reducible refine' o_ixL ?hh ?_); (case hh => assumption)) | ((with_reducible refine' o_ixT ?hh ?_); (case hh => rfl)) | ((with_reducible refine' o_ixL ?hh ?_); (case hh => rfl)) | with_reducible refine o_pow (by decide) (by decide) ?_
  | ((with_reducible refine' we_lenC ?hh ?_); (case hh => assumption)) | ((with_reducible refine' we_tupleC ?hh ?_); (case hh => assumption)) | (refine way_t rfl ?_) | (refine way_f rfl ?_) | ((refine' Exists.intro _ (And.intro ?hh ?_)); (case hh => rfl)))
local macro_rules | `(tactic| walk_at "mk") => `(tactic| repeat walk_at "mk1")
theorem mk_ap {n : Nat} {ms : List (List Int)} (h0 : 1 ≤ n) (h1 : n ≤ 8) (hl : 1 ≤ ms.length ∧ ms.length ≤ 7) (hm : ∀ m ∈ ms, Asc n m ∧ m ≠ []) : Mk n ms := by
  refine ⟨by omega, by omega, by omega, by omega, fun m h => (hm m h).2, fun m h => (hm m h).1.1, fun m h c hc => (hm m h).1.2 c hc, fun m h => by have := (hm m h).1.len_le; omega⟩
theorem row_facts {n : Nat} (h0 : 1 ≤ n) (h1 : n ≤ 8) (q : Nat) : (∀ m ∈ (combZ8 n ((n + 1) / 2)).take q, Asc n m ∧ m ≠ []) ∧ apartB ((combZ8 n ((n + 1) / 2)).take q) = true ∧ (combZ8 n ((n + 1) / 2)).length ≤ 70 := by
  obtain ⟨a1, a2⟩ := comb_row8 n (by omega)
  have a1 := List.all_eq_true.mp a1
  have l8 := comb_len8 n (by omega)
  refine ⟨fun m hm => ?_, anti_apart (same_len_anti (n := n) (k := (n + 1) / 2) (fun m hm => ?_) (a2.sublist (List.take_sublist _ _))), by omega⟩
  · have hm := List.mem_of_mem_take hm
    have e := of_decide_eq_true (a1 m hm)
    refine ⟨combZ8_asc h1 (by omega) m hm, fun z => ?_⟩
    rw [z] at e
    simp at e
    omega
  · have hm := List.mem_of_mem_take hm
    exact ⟨combZ8_asc h1 (by omega) m hm, of_decide_eq_true (a1 m hm)⟩
theorem marks_all {n : Nat} {ms : List (List Int)} (hm : ∀ m ∈ ms, Asc n m ∧ m ≠ []) : (ms.map tupI).all (isMark n) = true := by
  rw [List.all_map, List.all_eq_true]
  intro m h
  obtain ⟨h1, h2⟩ := hm m h
  show (isAsc n (tupI m) && !((m.map IV.int).isEmpty)) = true
  have e : isAsc n (tupI m) = true := ascI_ok h1.1 fun i hi => h1.2 i hi
  rw [e]
  cases m with
  | nil => exact absurd rfl h2
  | cons a l => rfl
theorem r_law (ns : List Int) (hl : ns.length ≤ 63) : we (g_law [.scr (ns.map .int)]) [] noX fun v _ => v = .bl true := by
  refine we_def (ls := [some (.scr (ns.map .int)), none, none, none, none, none, none, none, none, none, none, none, none, none, none, none, none, none, none]) rfl ?_
  unfold m_law
  walk_at "mk"
  refine we_nox (r_box hl (by decide) (by decide)) ?_
  rintro v s1 ⟨n1, rfl, rfl, gr, hlen, hb⟩
  walk_at "mk"
  refine we_nox (r_take hb (by decide) (by decide)) ?_
  rintro v s2 ⟨q, rfl, q0, q1, o2, hb2⟩
  obtain ⟨n, hn⟩ : ∃ n : Nat, 1 + q = (n : Int) := ⟨(1 + q).toNat, by omega⟩
  have h0 : 1 ≤ n := by omega
  have h1 : n ≤ 8 := by omega
  have mp := most_pos n (by omega) h0
  walk_at "mk"
  rw [hn]
  rw [show ((n : Int) + 1) / 2 = (((n + 1) / 2 : Nat) : Int) by omega]
  refine we_run (r_choose (by omega) (by omega)) ?_
  rw [← comb_chT n (by omega) ((n + 1) / 2) (by omega)]
  walk_at "mk"
  refine we_run (lt0 h0 h1) ?_
  walk_at "mk"
  refine o_neS (cmpb_pair (by decide +kernel) rfl) ?_
  walk_at "mk"
  refine we_nox (r_take hb2 (by omega) (by omega)) ?_
  rintro v s3 ⟨t, rfl, t0, t1, o3, hb3⟩
  walk_at "mk"
  refine forL_inv (fun q ls s => s = s3 ∧ (∀ v ∈ q, ∃ m : Int, v = .int m ∧ 1 ≤ m ∧ m ≤ PySem.W.mcComb n ((n + 1) / 2 : Nat)) ∧ ∃ x5 x6, ls = [some (.scr (ns.map .int)), some (.cell 0), some (.int n), some (.int ((n + 1) / 2 : Nat)), some (.int (PySem.W.mcComb n ((n + 1) / 2 : Nat))), x5, x6, none, none, none, none, none, none, none, none, none, none, none, none]) ?_ ?_ _ _ _ ⟨rfl, ?_, none, none, rfl⟩
  rotate_left 2
  · intro v hv
    simp only [List.mem_cons, List.not_mem_nil, or_false] at hv
    rcases hv with rfl | rfl | rfl
    · exact ⟨1, rfl, by omega, by omega⟩
    · exact ⟨_, rfl, by omega, by omega⟩
    · exact ⟨_, rfl, by omega, by omega⟩
  · rintro ls s ⟨rfl, _, x5, x6, rfl⟩
    refine ⟨trivial, ?_⟩
    walk_at "mk"
    refine we_nox (r_all_sets (by omega) (by omega)) ?_
    rintro v s4 ⟨rfl, F, rfl, hF1, hF⟩
    walk_at "mk"
    refine compL_map (as := F) tupI (fun m => !m.isEmpty) tupI trivial (fun m hm => ⟨_, rfl, ?_, fun _ => by walk_at "mk"; exact ⟨rfl, rfl⟩⟩) ?_
    · have hml := (hF m hm).len_le
      walk_at "mk"
      refine o_ne (cmpb_tupI (n := 63) (by omega)) rfl ?_
      refine ⟨_, rfl, ?_, rfl⟩
      cases m <;> simp [veq, veqL]
    have hFf := List.length_filter_le (fun m : List Int => !m.isEmpty) F
    refine len_and (by rw [List.length_map]; omega) ?_
    walk_at "mk"
    have hG : ∀ m ∈ F.filter (fun m : List Int => !m.isEmpty), Asc n m ∧ m ≠ [] := fun m hm => by
      obtain ⟨h2, h3⟩ := List.mem_filter.mp hm
      exact ⟨hF m h2, fun z => by subst z; cases h3⟩
    generalize hFG : F.filter (fun m : List Int => !m.isEmpty) = G at hG hFf
    refine we_nox (r_shuffled (l := G.map tupI) hb3 (by rw [List.length_map]; omega) (datL_pure _ (cmpbL_dat 1 _ (cmpbL_iff.mpr fun v hv => ?_)))) ?_
    · obtain ⟨m, hm, rfl⟩ := List.mem_map.mp hv
      exact cmpb_tupI (n := 0) (by have := (hG m hm).1.len_le; omega)
    rintro v s5 ⟨p, rfl, hp, o5, hb5⟩
    obtain ⟨G2, hG2, rfl⟩ := perm_map hp rfl
    walk_at "mk"
    rw [cut_take (by decide), ← List.map_take]
    refine forL_inv (fun q ls s => s = s5 ∧ ∃ (M rest : List (List Int)) (x8 : Option IV), q = rest.map tupI ∧ M.length + rest.length ≤ 60 ∧ (∀ m ∈ M, Asc n m ∧ m ≠ []) ∧ (∀ m ∈ rest, Asc n m ∧ m ≠ []) ∧ apartB M = true ∧ ls = [some (.scr (ns.map .int)), some (.cell 0), some (.int n), some (.int ((n + 1) / 2 : Nat)), some (.int (PySem.W.mcComb n ((n + 1) / 2 : Nat))), x5, x6, some (.tup (M.map tupI)), x8, none, none, none, none, none, none, none, none, none, none]) ?_ ?_ _ _ _ ⟨rfl, [], G2.take (Int.toNat 60), none, rfl, by rw [List.length_take]; simp; omega, (fun m h => by cases h), fun m h => hG m (hG2.mem_iff.mp (List.mem_of_mem_take h)), rfl, rfl⟩
    · rintro ls s ⟨rfl, M, rest, x8, hq, hlen2, hM, _, hA, rfl⟩
      refine ⟨trivial, ?_⟩
      walk_at "mk"
      rw [cut_take (by decide), ← List.map_take, show Int.toNat 7 = 7 from rfl]
      have hM60 : M.length ≤ 60 := by omega
      have hS : ∀ m ∈ M.take 7, Asc n m ∧ m ≠ [] := fun m h => hM m (List.mem_of_mem_take h)
      have hSA : apartB (M.take 7) = true := anti_apart ((apart_anti hA).sublist (List.take_sublist _ _))
      have hSl : (M.take 7).length ≤ 7 := by rw [List.length_take]; omega
      generalize hSS : M.take 7 = S at hS hSA hSl
      refine tjoinH (v := false) (fun h => run_of ?_) (fun _ => rfl) ?_
      · rw [List.length_map] at h
        have h := of_decide_eq_true h
        have hk : Mk n S := mk_ap h0 h1 ⟨by omega, hSl⟩ hS
        walk_at "mk"
        refine we_mk ?_
        walk_at "mk"
        refine ⟨n, S.map tupI, rfl, cmpb_dat 2 _ hk.cmpb, by simp [isIn]; omega, hk.marks, ?_⟩
        walk_at "mk"
        refine we_run (r_free (r := 1) hk hk.l1) ?_
        rw [tot_single hk hSA]
        walk_at "mk"
        exact ⟨by decide, rfl⟩
      walk_at "mk"
      have mp := most_pos n (by omega) h0
      obtain ⟨f1, f2, f3⟩ := row_facts h0 h1 (PySem.W.mcComb n ((n + 1) / 2 : Nat)).toNat
      refine we_run (r_fmarks h0 h1 ⟨mp.1, Int.le_refl _⟩) ?_
      have LM : OkL 1 60 (M.map tupI) := ⟨by rw [List.length_map]; exact hM60, fun v hv => by
        obtain ⟨m, hm, rfl⟩ := List.mem_map.mp hv
        exact cmpb_tupI (n := 0) (by have := (hM m hm).1.len_le; omega)⟩
      have LS : OkL 1 7 (S.map tupI) := ⟨by rw [List.length_map]; exact hSl, fun v hv => by
        obtain ⟨m, hm, rfl⟩ := List.mem_map.mp hv
        exact cmpb_tupI (n := 0) (by have := (hS m hm).1.len_le; omega)⟩
      have LC : OkL 1 70 (((combZ8 n ((n + 1) / 2)).take (PySem.W.mcComb n ((n + 1) / 2 : Nat)).toNat).map tupI) := ⟨by rw [List.length_map, List.length_take]; omega, fun v hv => by
        obtain ⟨m, hm, rfl⟩ := List.mem_map.mp hv
        exact cmpb_tupI (n := 0) (by have := (f1 m hm).1.len_le; omega)⟩
      have E0 : OkL 1 1 [.tup []] := .one rfl
      walk_at "mk"
      refine o_addOk LS (LS.cut _ _) (by decide) ?_
      walk_at "mk"
      refine we_tupRg ?_
      walk_at "mk"
      refine ⟨0, n, rfl, by simp [rgBounds]; omega, ?_⟩
      have LR : OkL 1 1 [IV.tup (rangeI 0 ((n : Int) - 0).toNat)] := .one (cmpb_tup.mpr ⟨by simp [rangeI]; omega, fun v hv => by
        rw [rangeI_map] at hv
        obtain ⟨i, _, rfl⟩ := List.mem_map.mp hv
        rfl⟩)
      walk_at "mk"
      refine o_addOk LS LR (by decide) ?_
      walk_at "mk"
      refine o_addOk LS E0 (by decide) ?_
      walk_at "mk"
      have upS : ∀ {m : Nat} {l : List IV}, OkL 1 m l → m ≤ 300 → VOk (.tup l) := fun h hm => ⟨cmpb_up 2 30 _ (by decide) (h.tup (by omega)), Short.tup h.len hm⟩
      have LV : OkL 1 7 (S.map tupI).reverse := ⟨by simpa using LS.len, fun v hv => LS.all v (List.mem_reverse.mp hv)⟩
      have c1 : VL _ := (((((((((((VL.nil.cons (v := .tup [.tup [.int 0, .int 0]]) ⟨rfl, Short.tup (m := 1) (Nat.le_refl _) (by decide)⟩).cons (v := .tup [.tup [.int n]]) ⟨rfl, Short.tup (m := 1) (Nat.le_refl _) (by decide)⟩).cons (v := .non) ⟨rfl, Short.oth nofun⟩).cons (upS LV (by decide))).cons (upS (LS.app E0) (by decide))).cons (v := .lst (S.map tupI)) ⟨cmpb_up 2 30 _ (by decide) (LS.lst (by decide)), Short.oth nofun⟩).cons (upS (LS.app LR) (by decide))).cons (upS (LS.app (LS.cut none (some 1))) (by decide))).cons (v := .tup []) ⟨rfl, Short.tup (m := 0) (Nat.le_refl _) (by decide)⟩).cons (upS LC (by decide))).cons (upS LM (by decide)))
      refine we_newT c1.pure ?_
      revert c1
      generalize hC1 : (_ :: _ : List IV) = C1
      have n1 : C1.length = 11 := by rw [← hC1]; rfl
      clear hC1
      intro c1
      have ht : Tree 2 (.tup (S.map tupI)) := ⟨_, rfl, by rw [List.length_map]; omega, fun x hx => by
        obtain ⟨m, hm, rfl⟩ := List.mem_map.mp hx
        refine ⟨_, rfl, by rw [List.length_map]; have := (hS m hm).1.len_le; omega, fun y hy => ?_⟩
        obtain ⟨i, hi, rfl⟩ := List.mem_map.mp hy
        have := (hS m hm).1.2 i hi
        exact ⟨i, rfl, by omega, by omega⟩⟩
      walk_at "mk"
      refine ⟨by decide, ?_⟩
      have h50 : 0 < s.length := hb5.lt
      generalize hk : s.length = k
      refine forL_inv (fun q ls s => ∃ f x11, ls = [some (.scr (ns.map .int)), some (.cell 0), some (.int n), some (.int ((n + 1) / 2 : Nat)), some (.int (PySem.W.mcComb n ((n + 1) / 2 : Nat))), x5, x6, some (.tup (M.map tupI)), x8, some (.tup (S.map tupI)), some (.cell k), x11, none, none, none, none, none, none, none] ∧ s[k]? = some (.lst f) ∧ BoxAt s 0 ∧ f.length + q.length ≤ 14 ∧ VL f) ?_ ?_ _ _ _ ⟨C1, none, rfl, by rw [← hk]; exact app_get, hb5.app, by rw [n1]; show 11 + 3 ≤ 14; decide, c1⟩
      · rintro ls s ⟨f, x11, rfl, e, hb', hf, hC⟩
        refine ⟨trivial, ?_⟩
        walk_at "mk"
        refine ⟨(f, some k), by simp only [srcM, e], ?_⟩
        refine forL_inv (fun q ls s' => s' = s ∧ VL q ∧ ∃ x8 x12 x13 x14 x15, ls = [some (.scr (ns.map .int)), some (.cell 0), some (.int n), some (.int ((n + 1) / 2 : Nat)), some (.int (PySem.W.mcComb n ((n + 1) / 2 : Nat))), x5, x6, some (.tup (M.map tupI)), x8, some (.tup (S.map tupI)), some (.cell k), x11, x12, x13, x14, x15, none, none, none]) ?_ ?_ _ _ _ ⟨rfl, hC, x8, none, none, none, none, rfl⟩
        · rintro ls s' ⟨rfl, _, x8, x12, x13, x14, x15, rfl⟩
          refine ⟨e, ?_⟩
          walk_at "mk"
          refine forL_inv (fun q ls s => s = s' ∧ (∀ v ∈ q, cmpb 30 v = true ∧ isIn 1 8 v = false) ∧ ∃ x16, ls = [some (.scr (ns.map .int)), some (.cell 0), some (.int n), some (.int ((n + 1) / 2 : Nat)), some (.int (PySem.W.mcComb n ((n + 1) / 2 : Nat))), x5, x6, some (.tup (M.map tupI)), x8, some (.tup (S.map tupI)), some (.cell k), x11, x12, x13, x14, x15, x16, none, none]) ?_ ?_ _ _ _ ⟨rfl, ?_, none, rfl⟩
          rotate_left 2
          · intro v hv
            simp only [List.mem_cons, List.not_mem_nil, or_false] at hv
            rcases hv with rfl | rfl | rfl | rfl | rfl | rfl <;> exact ⟨by decide +kernel, by decide +kernel⟩
          · rintro ls s ⟨rfl, _, x16, rfl⟩
            refine ⟨trivial, ?_⟩
            walk_at "mk"
            refine forL_inv (fun q ls s2 => s2 = s ∧ (∀ v ∈ q, cmpb 30 v = true ∧ isIn 1 (PySem.W.mcComb n ((n + 1) / 2 : Nat)) v = false) ∧ ∃ x16, ls = [some (.scr (ns.map .int)), some (.cell 0), some (.int n), some (.int ((n + 1) / 2 : Nat)), some (.int (PySem.W.mcComb n ((n + 1) / 2 : Nat))), x5, x6, some (.tup (M.map tupI)), x8, some (.tup (S.map tupI)), some (.cell k), x11, x12, x13, x14, x15, x16, none, none]) ?_ ?_ _ _ _ ⟨rfl, ?_, _, rfl⟩
            rotate_left 2
            · intro v hv
              simp only [List.mem_cons, List.not_mem_nil, or_false] at hv
              rcases hv with rfl | rfl | rfl | rfl | rfl | rfl | rfl
              · exact ⟨rfl, by simp [isIn]⟩
              · exact ⟨rfl, by simp [isIn]; omega⟩
              · exact ⟨rfl, by simp [isIn]⟩
              · exact ⟨rfl, rfl⟩
              · exact ⟨rfl, rfl⟩
              · exact ⟨by decide +kernel, rfl⟩
              · exact ⟨rfl, rfl⟩
            · rintro ls s2 ⟨rfl, _, x16, rfl⟩
              refine ⟨trivial, ?_⟩
              walk_at "mk"
              exact close_pure rfl rfl (by simp)
            · rintro v q ls s2 ⟨rfl, hq, x16, rfl⟩
              obtain ⟨h2, h3⟩ := hq v List.mem_cons_self
              have hd := cmpb_dat _ _ h2
              refine ⟨trivial, _, rfl, ?_⟩
              walk_at "mk"
              refine we_run (xlt 1 (by simp) (.inl ⟨rfl, rfl⟩) (by rw [if_neg (by decide), if_pos rfl]; exact x_fmarks h0 h1 hd h3) (dat_pure _ hd)) ?_
              walk_at "mk"
              refine o_neS (cmpb_pair (by decide +kernel) (cmpb_up 30 63 _ (by decide) h2)) ?_
              walk_at "mk"
              exact ⟨rfl, fun w hw => hq w (List.mem_cons_of_mem _ hw), _, rfl⟩
          · rintro v q ls s ⟨rfl, hq, x16, rfl⟩
            obtain ⟨h2, h3⟩ := hq v List.mem_cons_self
            have hd := cmpb_dat _ _ h2
            have c63 := cmpb_pair (x := "number") (by decide +kernel) (cmpb_up 30 63 _ (by decide) h2)
            refine ⟨trivial, _, rfl, ?_⟩
            walk_at "mk"
            refine ⟨by decide, ?_⟩
            rw [rangeI_map]
            refine compL_map (as := (rngL 3)) .int (fun _ => false) .int trivial (fun i hi => ⟨_, rfl, ?_, fun h => by cases h⟩) ?_
            · have hi := rngL_mem.mp hi
              have h012 : i = 0 ∨ i = 1 ∨ i = 2 := by omega
              walk_at "mk"
              refine we_run (xlt i h012 (.inl ⟨rfl, rfl⟩) (x := v) ?_ (dat_pure _ hd)) ?_
              · rcases h012 with rfl | rfl | rfl
                · rw [if_pos rfl]; exact x_most hd h3
                · rw [if_neg (by decide), if_pos rfl]; exact x_fmarksN hd h3
                · rw [if_neg (by decide), if_neg (by decide)]; exact x_fshareN hd h3
              walk_at "mk"
              refine o_neS c63 ?_
              walk_at "mk"
              exact ⟨rfl, rfl⟩
            rw [show (rngL 3).filter (fun _ => false) = [] from rfl]
            refine len_and (by simp) ?_
            walk_at "mk"
            exact ⟨rfl, fun w hw => hq w (List.mem_cons_of_mem _ hw), _, rfl⟩
        · rintro v q ls s' ⟨rfl, hq, x8, x12, x13, x14, x15, rfl⟩
          have hv := hq v List.mem_cons_self
          have hq' : VL q := fun w hw => hq w (List.mem_cons_of_mem _ hw)
          refine ⟨e, _, rfl, ?_⟩
          have hd := cmpb_dat _ _ hv.1
          have c63 := cmpb_pair (x := "marks") (by decide +kernel) (cmpb_up 30 63 _ (by decide) hv.1)
          walk_at "mk"
          rcases hv.cls (c := n) with h | ⟨ms, rfl, hm, hi, hml⟩
          · refine we_run (r_lapartF (cmpb_up 30 60 _ (by decide) hv.1) h) ?_
            walk_at "mk"
            refine we_run (xlt 2 (by simp) (.inr ⟨rfl, rfl⟩) (by rw [if_neg (by decide), if_neg (by decide)]; exact x_fshare h0 h1 (cmpb_up 30 60 _ (by decide) hv.1) (.inl h)) (dat_pure _ hd)) ?_
            walk_at "mk"
            refine o_neS c63 ?_
            walk_at "mk"
            exact ⟨rfl, hq', _, _, _, _, _, rfl⟩
          · refine we_run (r_lapart hm (by omega) hml hi) ?_
            cases ha : apartB ms with
            | false =>
              walk_at "mk"
              refine we_run (xlt 2 (by simp) (.inr ⟨rfl, rfl⟩) (by rw [if_neg (by decide), if_neg (by decide)]; exact x_fshare h0 h1 (cmpb_up 30 60 _ (by decide) hv.1) (.inr ⟨ms, rfl, hm, hi, hml, ha⟩)) (dat_pure _ hd)) ?_
              walk_at "mk"
              refine o_neS c63 ?_
              walk_at "mk"
              exact ⟨rfl, hq', _, _, _, _, _, rfl⟩
            | true =>
              have hsh := share_le (fun m h => (hm m h).1) ha
              have hfn := fac_le n h1
              have hml2 := most_le h1 (fun m h => (hm m h).1) ha
              walk_at "mk"
              refine forL_inv (fun q2 ls s2 => s2 = s' ∧ ∃ (done rest : List (List Int)) (x8 x15 : Option IV), ms = done ++ rest ∧ q2 = rest.map tupI ∧ ls = [some (.scr (ns.map .int)), some (.cell 0), some (.int n), some (.int ((n + 1) / 2 : Nat)), some (.int (PySem.W.mcComb n ((n + 1) / 2 : Nat))), x5, x6, some (.tup (M.map tupI)), x8, some (.tup (S.map tupI)), some (.cell k), x11, some (.tup (ms.map tupI)), some (.int (redA n (shareN n done) : Nat)), some (.int (redB n (shareN n done) : Nat)), x15, none, none, none]) ?_ ?_ _ _ _ ⟨rfl, [], ms, x8, x15, rfl, rfl, ?_⟩
              · rintro ls s2 ⟨rfl, done, rest, x8, x15, he, hq2, rfl⟩
                have hr : rest = [] := List.map_eq_nil_iff.mp hq2.symm
                subst hr
                rw [List.append_nil] at he
                subst he
                refine ⟨trivial, ?_⟩
                walk_at "mk"
                refine we_run (lt2R h0 h1 hm hi ha) ?_
                walk_at "mk"
                refine o_neS (cmpb_pair (by decide +kernel) rfl) ?_
                walk_at "mk"
                rw [decide_eq_false (by have := red_le hsh; omega)]
                walk_at "mk"
                rw [List.length_map, decide_eq_false (by omega)]
                walk_at "mk"
                exact ⟨rfl, hq', _, _, _, _, _, rfl⟩
              · rintro v2 q2 ls s2 ⟨rfl, done, rest, x8, x15, he, hq2, rfl⟩
                cases rest with
                | nil => cases hq2
                | cons m rest =>
                  cases hq2
                  have hmm := hm m (by rw [he]; simp)
                  have hmn : m.length ≤ n := by have := hmm.1.len_le; omega
                  have hS0 : shareN n done ≤ 40320 := by
                    rw [he, share_app] at hsh
                    omega
                  obtain ⟨_, _, z1, z2⟩ := ch_fac n (by omega) m.length hmn
                  obtain ⟨eZ, _⟩ := ch_fac n (by omega) m.length hmn
                  have a1 : redA n (shareN n done) ≤ 40320 := Nat.le_trans (Nat.div_le_self _ _) hS0
                  have b1 := redB_pos h1 (shareN n done)
                  refine ⟨trivial, _, rfl, ?_⟩
                  walk_at "mk"
                  rw [List.length_map]
                  refine we_run (r_choose (k := n) (r := m.length) (by omega) (by omega)) ?_
                  walk_at "mk"
                  have hz : -(2 ^ 200) < chT n m.length ∧ chT n m.length < 2 ^ 200 := by omega
                  refine we_run (r_step h1 hmn hS0) ?_
                  walk_at "mk"
                  rw [← share_one n m, ← share_app]
                  exact ⟨rfl, done ++ [m], rest, _, _, by rw [he]; simp, rfl, rfl⟩
              · obtain ⟨z0, z1⟩ := red_zero h1
                show _ = _
                rw [show shareN n [] = 0 from rfl, z0, z1]
                rfl
      · rintro v q ls s ⟨f, x11, rfl, e, hb', hf, hC⟩
        refine ⟨trivial, _, rfl, ?_⟩
        have hk1 : 0 < k := by omega
        walk_at "mk"
        refine ⟨k, f, rfl, e, ?_⟩
        walk_at "mk"
        refine we_nox (r_spoiltL 2 4 (by decide) (by decide) ht hb') ?_
        rintro v2 s2 ⟨⟨cv, sv⟩, o2, hb2⟩
        have e2 : s2[k]? = some (.lst f) := by rw [o2.ne _ (by omega)]; exact e
        walk_at "mk"
        have nv : VOk v2 := ⟨cmpb_up 4 30 _ (by decide) cv, sv⟩
        simp only [List.length_cons] at hf
        refine we_app e2 (dat_pure _ (cmpb_dat _ _ cv)) (by omega) ?_
        exact ⟨_, _, rfl, set_get e2, hb2.set (by omega), by rw [List.length_append]; simp; omega, hC.app (VL.nil.cons nv)⟩
    · rintro v q ls s ⟨rfl, M, rest, x8, hq, hlen2, hM, hrest, hA, rfl⟩
      cases rest with
      | nil => cases hq
      | cons m rest =>
        cases hq
        have hm := hrest m List.mem_cons_self
        have hrest' := fun w hw => hrest w (List.mem_cons_of_mem _ hw)
        simp only [List.length_cons] at hlen2
        have hM2 : ∀ w ∈ M ++ [m], Asc n w ∧ w ≠ [] := fun w hw => (List.mem_append.mp hw).elim (hM w) fun h => by rw [List.mem_singleton.mp h]; exact hm
        refine ⟨trivial, _, rfl, ?_⟩
        walk_at "mk"
        refine o_addT (by rw [List.length_map]; show M.length + 1 ≤ _; omega) ?_
        rw [show M.map tupI ++ [tupI m] = (M ++ [m]).map tupI by simp]
        walk_at "mk"
        refine we_run (r_lapart hM2 (by omega) (by rw [List.length_append]; show M.length + 1 ≤ _; omega) (marks_all hM2)) ?_
        walk_at "mk"
        refine ⟨fun h => ?_, fun _ => ?_⟩
        · walk_at "mk"
          refine o_addT (by rw [List.length_map]; show M.length + 1 ≤ _; omega) ?_
          rw [show M.map tupI ++ [tupI m] = (M ++ [m]).map tupI by simp]
          exact ⟨rfl, M ++ [m], rest, _, rfl, by rw [List.length_append]; show M.length + 1 + _ ≤ _; omega, hM2, hrest', h, rfl⟩
        · walk_at "mk"
          exact ⟨rfl, M, rest, _, rfl, by omega, hM, hrest', hA, rfl⟩
  · rintro v q ls s ⟨rfl, hq, x5, x6, rfl⟩
    obtain ⟨m, rfl, m1, m2⟩ := hq v List.mem_cons_self
    have hq' := fun w hw => hq w (List.mem_cons_of_mem _ hw)
    obtain ⟨f1, f2, f3⟩ := row_facts h0 h1 m.toNat
    have fl : ((combZ8 n ((n + 1) / 2)).take m.toNat).length ≤ 70 := by rw [List.length_take]; omega
    have fp : 1 ≤ ((combZ8 n ((n + 1) / 2)).take m.toNat).length := by
      have := (comb_len8 n (by omega)).1
      rw [List.length_take]; omega
    refine ⟨trivial, _, rfl, ?_⟩
    walk_at "mk"
    refine we_run (r_sets8 h1 rfl) ?_
    walk_at "mk"
    rw [cut_take (by omega), ← List.map_take]
    walk_at "mk"
    refine we_run (lt1 h0 h1 ⟨m1, m2⟩) ?_
    generalize hR : (combZ8 n ((n + 1) / 2)).take m.toNat = R at f1 f2 fl fp
    have cR : cmpb 2 (.tup (R.map tupI)) = true := cmpb_rows (n := 0) (by omega) fun row hr => by have := (f1 row hr).1.len_le; omega
    walk_at "mk"
    refine o_neS (cmpb_pair (by decide +kernel) (cmpb_up 2 63 _ (by decide) cR)) ?_
    walk_at "mk"
    refine we_run (r_lapart f1 (by omega) (by omega) (marks_all f1)) ?_
    rw [f2]
    walk_at "mk"
    have f17 : ∀ m ∈ R.take 7, Asc n m ∧ m ≠ [] := fun m h => f1 m (List.mem_of_mem_take h)
    have hk : Mk n (R.take 7) := mk_ap h0 h1 ⟨by rw [List.length_take]; omega, by rw [List.length_take]; omega⟩ f17
    have ha7 : apartB (R.take 7) = true := anti_apart ((apart_anti f2).sublist (List.take_sublist _ _))
    refine we_mk ?_
    walk_at "mk"
    rw [cut_take (by decide), ← List.map_take, show Int.toNat 7 = 7 from rfl]
    refine ⟨n, (R.take 7).map tupI, rfl, cmpb_dat 2 _ hk.cmpb, by simp [isIn]; omega, hk.marks, ?_⟩
    walk_at "mk"
    refine we_run (r_free (r := 1) hk hk.l1) ?_
    rw [tot_single hk ha7]
    walk_at "mk"
    exact ⟨rfl, hq', _, _, rfl⟩
theorem pure_law : ∀ ns : List Int, ns.length ≤ 63 → ∃ st', g_law [.scr (ns.map .int)] [] = some (.val (.bl true), st') := fun ns hl => by
  obtain ⟨r, st', e, q⟩ := r_law ns hl
  cases r with
  | val v => subst q; exact ⟨st', e⟩
  | exc c f v => exact q.elim
end Law
end
open PySem PySem.W PyProof.Rows
set_option maxRecDepth 100000 in
set_option maxHeartbeats 0 in
theorem PySem.Challenge.cw_markfilters_k23_whole_most_items_holds : PySem.Challenge.rw_markfilters_k23_whole_most_items.Holds := by
  w_on; o_law; k_head; (case hw => w_witness2)
  k_fill
  refine MK.walk (l := PySem.Challenge.rw_markfilters_k23_whole_most_items) 9 ⟨rfl, by decide, by decide⟩ rfl rfl (fun w h Y => PySem.W.kIn_of Y) ?F
  case F =>
    intro w mg fa h KX G hmg
    refine Law.law_end Law.pure_law ?T hmg
    case T =>
      refine { b_ValueError := ?b_ValueError, b_abs := ?b_abs, b_all := ?b_all, b_any := ?b_any, b_bool := ?b_bool, b_enumerate := ?b_enumerate, b_int := ?b_int, b_isinstance := ?b_isinstance, b_len := ?b_len, b_list := ?b_list, b_range := ?b_range, b_sorted := ?b_sorted, b_str := ?b_str, b_sum := ?b_sum, b_tuple := ?b_tuple, b_combinations := ?b_combinations, b_comb := ?b_comb, b_factorial := ?b_factorial, b_gcd := ?b_gcd, c_MOST_CELLS := ?c_MOST_CELLS, c_MOST_MARKS := ?c_MOST_MARKS, F_is_integer := ?F_is_integer, F_is_integer_within := ?F_is_integer_within, F_is_ascending := ?F_is_ascending, F_lies_within := ?F_lies_within, F_chosen := ?F_chosen, X_InvalidNumber := ?X_InvalidNumber, X_InvalidMarks := ?X_InvalidMarks, X_InvalidKeys := ?X_InvalidKeys, X_InvalidBits := ?X_InvalidBits, F_is_mark := ?F_is_mark, F_are_marks := ?F_are_marks, C_Marking := ?C_Marking, M_Marking_eq := ?M_Marking_eq, M_Marking_len := ?M_Marking_len, F_are_keys := ?F_are_keys, F_are_bits := ?F_are_bits, F_filled := ?F_filled, F_says := ?F_says, F_wrong := ?F_wrong, F_wrong_total := ?F_wrong_total, F_ratio := ?F_ratio, F_is_free := ?F_is_free, F_half_of := ?F_half_of, F_most_free := ?F_most_free, F_free_marks := ?F_free_marks, F_free_share := ?F_free_share, F_are_apart := ?F_are_apart, F_law_box := ?F_law_box, F_law_take := ?F_law_take, F_law_pick := ?F_law_pick, F_law_whole := ?F_law_whole, F_law_is_numbers := ?F_law_is_numbers, F_law_spoilt := ?F_law_spoilt, F_law_shuffled := ?F_law_shuffled, F_law_gcd := ?F_law_gcd, F_law_ascends := ?F_law_ascends, F_law_choose := ?F_law_choose, F_law_ratio := ?F_law_ratio, F_law_sets := ?F_law_sets, F_law_all_sets := ?F_law_all_sets, F_law_is_set := ?F_law_is_set, F_law_told := ?F_law_told, F_law_are_apart := ?F_law_are_apart, F_law := ?F_law, i_Marking := ?i_Marking, f_Marking_cells := ?f_Marking_cells, f_Marking_marks := ?f_Marking_marks, m_InvalidMarks := ?m_InvalidMarks, m_InvalidNumber := ?m_InvalidNumber, sub := ?sub }
      case b_ValueError => exact PySem.W.mg_none_of KX G (by k_is)
      case b_abs => exact PySem.W.mg_none_of KX G (by k_is)
      case b_all => exact PySem.W.mg_none_of KX G (by k_is)
      case b_any => exact PySem.W.mg_none_of KX G (by k_is)
      case b_bool => exact PySem.W.mg_none_of KX G (by k_is)
      case b_enumerate => exact PySem.W.mg_none_of KX G (by k_is)
      case b_int => exact PySem.W.mg_none_of KX G (by k_is)
      case b_isinstance => exact PySem.W.mg_none_of KX G (by k_is)
      case b_len => exact PySem.W.mg_none_of KX G (by k_is)
      case b_list => exact PySem.W.mg_none_of KX G (by k_is)
      case b_range => exact PySem.W.mg_none_of KX G (by k_is)
      case b_sorted => exact PySem.W.mg_none_of KX G (by k_is)
      case b_str => exact PySem.W.mg_none_of KX G (by k_is)
      case b_sum => exact PySem.W.mg_none_of KX G (by k_is)
      case b_tuple => exact PySem.W.mg_none_of KX G (by k_is)
      case b_combinations => exact PySem.W.mg_of KX G (by k_is)
      case b_comb => exact PySem.W.mg_of KX G (by k_is)
      case b_factorial => exact PySem.W.mg_of KX G (by k_is)
      case b_gcd => exact PySem.W.mg_of KX G (by k_is)
      case c_MOST_CELLS => (refine' MK.c_int KX G ?a; (case a => k_is))
      case c_MOST_MARKS => (refine' MK.c_int KX G ?a; (case a => k_is))
      case F_is_integer => (refine' MK.FunOk.of KX G ?a ?l ?c ?k (fun _ _ _ _ _ _ us hl => match us, hl with | [_], _ => rfl); (case a => k_is); (case l => k_is); (case c => k_is); (case k => k_is))
      case F_is_integer_within => (refine' MK.FunOk.of KX G ?a ?l ?c ?k (fun _ _ _ _ _ _ us hl => match us, hl with | [_, _, _], _ => rfl); (case a => k_is); (case l => k_is); (case c => k_is); (case k => k_is))
      case F_is_ascending => (refine' MK.FunOk.of KX G ?a ?l ?c ?k (fun _ _ _ _ _ _ us hl => match us, hl with | [_, _], _ => rfl); (case a => k_is); (case l => k_is); (case c => k_is); (case k => k_is))
      case F_lies_within => (refine' MK.FunOk.of KX G ?a ?l ?c ?k (fun _ _ _ _ _ _ us hl => match us, hl with | [_, _], _ => rfl); (case a => k_is); (case l => k_is); (case c => k_is); (case k => k_is))
      case F_chosen => (refine' MK.FunOk.of KX G ?a ?l ?c ?k (fun _ _ _ _ _ _ us hl => match us, hl with | [_, _], _ => rfl); (case a => k_is); (case l => k_is); (case c => k_is); (case k => k_is))
      case X_InvalidNumber => (refine' MK.ExcFun.of KX G ?aC ?xL ?rv ?sa ?ga ?gg ?nf ?a ?t ?l ?cc ?k ?kC ?eC ?tC ?hC (fun _ _ _ _ _ _ us hl => match us, hl with | [_, _], _ => rfl); (case aC => k_is); (case xL => k_is); (case rv => decide +kernel); (case sa => k_is); (case ga => k_is); (case gg => k_is); (case nf => k_is); (case a => k_is); (case t => k_is); (case l => k_is); (case cc => k_is); (case k => k_is); (case kC => k_is); (case eC => k_is); (case tC => k_is); (case hC => k_is))
      case X_InvalidMarks => (refine' MK.ExcFun.of KX G ?aC ?xL ?rv ?sa ?ga ?gg ?nf ?a ?t ?l ?cc ?k ?kC ?eC ?tC ?hC (fun _ _ _ _ _ _ us hl => match us, hl with | [_, _], _ => rfl); (case aC => k_is); (case xL => k_is); (case rv => decide +kernel); (case sa => k_is); (case ga => k_is); (case gg => k_is); (case nf => k_is); (case a => k_is); (case t => k_is); (case l => k_is); (case cc => k_is); (case k => k_is); (case kC => k_is); (case eC => k_is); (case tC => k_is); (case hC => k_is))
      case X_InvalidKeys => (refine' MK.ExcFun.of KX G ?aC ?xL ?rv ?sa ?ga ?gg ?nf ?a ?t ?l ?cc ?k ?kC ?eC ?tC ?hC (fun _ _ _ _ _ _ us hl => match us, hl with | [_, _], _ => rfl); (case aC => k_is); (case xL => k_is); (case rv => decide +kernel); (case sa => k_is); (case ga => k_is); (case gg => k_is); (case nf => k_is); (case a => k_is); (case t => k_is); (case l => k_is); (case cc => k_is); (case k => k_is); (case kC => k_is); (case eC => k_is); (case tC => k_is); (case hC => k_is))
      case X_InvalidBits => (refine' MK.ExcFun.of KX G ?aC ?xL ?rv ?sa ?ga ?gg ?nf ?a ?t ?l ?cc ?k ?kC ?eC ?tC ?hC (fun _ _ _ _ _ _ us hl => match us, hl with | [_, _], _ => rfl); (case aC => k_is); (case xL => k_is); (case rv => decide +kernel); (case sa => k_is); (case ga => k_is); (case gg => k_is); (case nf => k_is); (case a => k_is); (case t => k_is); (case l => k_is); (case cc => k_is); (case k => k_is); (case kC => k_is); (case eC => k_is); (case tC => k_is); (case hC => k_is))
      case F_is_mark => (refine' MK.FunOk.of KX G ?a ?l ?c ?k (fun _ _ _ _ _ _ us hl => match us, hl with | [_, _], _ => rfl); (case a => k_is); (case l => k_is); (case c => k_is); (case k => k_is))
      case F_are_marks => (refine' MK.FunOk.of KX G ?a ?l ?c ?k (fun _ _ _ _ _ _ us hl => match us, hl with | [_, _], _ => rfl); (case a => k_is); (case l => k_is); (case c => k_is); (case k => k_is))
      case C_Marking => (refine' MK.ClsFun.of KX G ?aC ?a ?i ?l ?cc ?k ?mk ?kc (fun _ _ _ _ _ _ us hl => match us, hl with | [_, _, _], _ => rfl); (case aC => k_is); (case a => k_is); (case i => k_is); (case l => k_is); (case cc => k_is); (case k => k_is); (case mk => k_is); (case kc => k_is))
      case M_Marking_eq => (refine' MK.MetFun.of KX G ?aC ?a ?i ?l ?cc ?k (fun _ _ _ _ _ _ us hl => match us, hl with | [_, _], _ => rfl); (case aC => k_is); (case a => k_is); (case i => k_is); (case l => k_is); (case cc => k_is); (case k => k_is))
      case M_Marking_len => (refine' MK.MetFun.of KX G ?aC ?a ?i ?l ?cc ?k (fun _ _ _ _ _ _ us hl => match us, hl with | [_], _ => rfl); (case aC => k_is); (case a => k_is); (case i => k_is); (case l => k_is); (case cc => k_is); (case k => k_is))
      case F_are_keys => (refine' MK.FunOk.of KX G ?a ?l ?c ?k (fun _ _ _ _ _ _ us hl => match us, hl with | [_, _], _ => rfl); (case a => k_is); (case l => k_is); (case c => k_is); (case k => k_is))
      case F_are_bits => (refine' MK.FunOk.of KX G ?a ?l ?c ?k (fun _ _ _ _ _ _ us hl => match us, hl with | [_, _], _ => rfl); (case a => k_is); (case l => k_is); (case c => k_is); (case k => k_is))
      case F_filled => (refine' MK.FunOk.of KX G ?a ?l ?c ?k (fun _ _ _ _ _ _ us hl => match us, hl with | [_, _], _ => rfl); (case a => k_is); (case l => k_is); (case c => k_is); (case k => k_is))
      case F_says => (refine' MK.FunOk.of KX G ?a ?l ?c ?k (fun _ _ _ _ _ _ us hl => match us, hl with | [_, _], _ => rfl); (case a => k_is); (case l => k_is); (case c => k_is); (case k => k_is))
      case F_wrong => (refine' MK.FunOk.of KX G ?a ?l ?c ?k (fun _ _ _ _ _ _ us hl => match us, hl with | [_, _], _ => rfl); (case a => k_is); (case l => k_is); (case c => k_is); (case k => k_is))
      case F_wrong_total => (refine' MK.FunOk.of KX G ?a ?l ?c ?k (fun _ _ _ _ _ _ us hl => match us, hl with | [_, _], _ => rfl); (case a => k_is); (case l => k_is); (case c => k_is); (case k => k_is))
      case F_ratio => (refine' MK.FunOk.of KX G ?a ?l ?c ?k (fun _ _ _ _ _ _ us hl => match us, hl with | [_, _], _ => rfl); (case a => k_is); (case l => k_is); (case c => k_is); (case k => k_is))
      case F_is_free => (refine' MK.FunOk.of KX G ?a ?l ?c ?k (fun _ _ _ _ _ _ us hl => match us, hl with | [_, _], _ => rfl); (case a => k_is); (case l => k_is); (case c => k_is); (case k => k_is))
      case F_half_of => (refine' MK.FunOk.of KX G ?a ?l ?c ?k (fun _ _ _ _ _ _ us hl => match us, hl with | [_], _ => rfl); (case a => k_is); (case l => k_is); (case c => k_is); (case k => k_is))
      case F_most_free => (refine' MK.FunOk.of KX G ?a ?l ?c ?k (fun _ _ _ _ _ _ us hl => match us, hl with | [_], _ => rfl); (case a => k_is); (case l => k_is); (case c => k_is); (case k => k_is))
      case F_free_marks => (refine' MK.FunOk.of KX G ?a ?l ?c ?k (fun _ _ _ _ _ _ us hl => match us, hl with | [_, _], _ => rfl); (case a => k_is); (case l => k_is); (case c => k_is); (case k => k_is))
      case F_free_share => (refine' MK.FunOk.of KX G ?a ?l ?c ?k (fun _ _ _ _ _ _ us hl => match us, hl with | [_, _], _ => rfl); (case a => k_is); (case l => k_is); (case c => k_is); (case k => k_is))
      case F_are_apart => (refine' MK.FunOk.of KX G ?a ?l ?c ?k (fun _ _ _ _ _ _ us hl => match us, hl with | [_, _], _ => rfl); (case a => k_is); (case l => k_is); (case c => k_is); (case k => k_is))
      case F_law_box => (refine' MK.FunOk.of KX G ?a ?l ?c ?k (fun _ _ _ _ _ _ us hl => match us, hl with | [_, _], _ => rfl); (case a => k_is); (case l => k_is); (case c => k_is); (case k => k_is))
      case F_law_take => (refine' MK.FunOk.of KX G ?a ?l ?c ?k (fun _ _ _ _ _ _ us hl => match us, hl with | [_, _], _ => rfl); (case a => k_is); (case l => k_is); (case c => k_is); (case k => k_is))
      case F_law_pick => (refine' MK.FunOk.of KX G ?a ?l ?c ?k (fun _ _ _ _ _ _ us hl => match us, hl with | [_, _], _ => rfl); (case a => k_is); (case l => k_is); (case c => k_is); (case k => k_is))
      case F_law_whole => (refine' MK.FunOk.of KX G ?a ?l ?c ?k (fun _ _ _ _ _ _ us hl => match us, hl with | [_], _ => rfl); (case a => k_is); (case l => k_is); (case c => k_is); (case k => k_is))
      case F_law_is_numbers => (refine' MK.FunOk.of KX G ?a ?l ?c ?k (fun _ _ _ _ _ _ us hl => match us, hl with | [_, _], _ => rfl); (case a => k_is); (case l => k_is); (case c => k_is); (case k => k_is))
      case F_law_spoilt => (refine' MK.FunOk.of KX G ?a ?l ?c ?k (fun _ _ _ _ _ _ us hl => match us, hl with | [_, _, _], _ => rfl); (case a => k_is); (case l => k_is); (case c => k_is); (case k => k_is))
      case F_law_shuffled => (refine' MK.FunOk.of KX G ?a ?l ?c ?k (fun _ _ _ _ _ _ us hl => match us, hl with | [_, _], _ => rfl); (case a => k_is); (case l => k_is); (case c => k_is); (case k => k_is))
      case F_law_gcd => (refine' MK.FunOk.of KX G ?a ?l ?c ?k (fun _ _ _ _ _ _ us hl => match us, hl with | [_, _], _ => rfl); (case a => k_is); (case l => k_is); (case c => k_is); (case k => k_is))
      case F_law_ascends => (refine' MK.FunOk.of KX G ?a ?l ?c ?k (fun _ _ _ _ _ _ us hl => match us, hl with | [_], _ => rfl); (case a => k_is); (case l => k_is); (case c => k_is); (case k => k_is))
      case F_law_choose => (refine' MK.FunOk.of KX G ?a ?l ?c ?k (fun _ _ _ _ _ _ us hl => match us, hl with | [_, _], _ => rfl); (case a => k_is); (case l => k_is); (case c => k_is); (case k => k_is))
      case F_law_ratio => (refine' MK.FunOk.of KX G ?a ?l ?c ?k (fun _ _ _ _ _ _ us hl => match us, hl with | [_, _], _ => rfl); (case a => k_is); (case l => k_is); (case c => k_is); (case k => k_is))
      case F_law_sets => (refine' MK.FunOk.of KX G ?a ?l ?c ?k (fun _ _ _ _ _ _ us hl => match us, hl with | [_, _], _ => rfl); (case a => k_is); (case l => k_is); (case c => k_is); (case k => k_is))
      case F_law_all_sets => (refine' MK.FunOk.of KX G ?a ?l ?c ?k (fun _ _ _ _ _ _ us hl => match us, hl with | [_], _ => rfl); (case a => k_is); (case l => k_is); (case c => k_is); (case k => k_is))
      case F_law_is_set => (refine' MK.FunOk.of KX G ?a ?l ?c ?k (fun _ _ _ _ _ _ us hl => match us, hl with | [_, _], _ => rfl); (case a => k_is); (case l => k_is); (case c => k_is); (case k => k_is))
      case F_law_told => (refine' MK.FunOk.of KX G ?a ?l ?c ?k (fun _ _ _ _ _ _ us hl => match us, hl with | [_, _, _], _ => rfl); (case a => k_is); (case l => k_is); (case c => k_is); (case k => k_is))
      case F_law_are_apart => (refine' MK.FunOk.of KX G ?a ?l ?c ?k (fun _ _ _ _ _ _ us hl => match us, hl with | [_, _], _ => rfl); (case a => k_is); (case l => k_is); (case c => k_is); (case k => k_is))
      case F_law => (refine' MK.FunOk.of KX G ?a ?l ?c ?k (fun _ _ _ _ _ _ us hl => match us, hl with | [_], _ => rfl); (case a => k_is); (case l => k_is); (case c => k_is); (case k => k_is))
      case i_Marking => (refine' MK.IsOk.of ?o ?s1 ?s2 ?s3 ?s4 ?s5 ?s6; (case o => (refine' MK.Own.of KX G ?aC ?pg ?hd ?po ?sa ?ca ?cn ?ct ?cm ?cl ?t; (case aC => k_is); (case pg => k_is); (case hd => k_is); (case po => k_is); (case sa => k_is); (case ca => k_is); (case cn => k_is); (case ct => k_is); (case cm => k_is); (case cl => k_is); (case t => k_is))); (case s1 => k_is); (case s2 => k_is); (case s3 => k_is); (case s4 => k_is); (case s5 => k_is); (case s6 => k_is))
      case f_Marking_cells => (refine' MK.FldOk.of ?o ?n; (case o => (refine' MK.Own.of KX G ?aC ?pg ?hd ?po ?sa ?ca ?cn ?ct ?cm ?cl ?t; (case aC => k_is); (case pg => k_is); (case hd => k_is); (case po => k_is); (case sa => k_is); (case ca => k_is); (case cn => k_is); (case ct => k_is); (case cm => k_is); (case cl => k_is); (case t => k_is))); (case n => k_is))
      case f_Marking_marks => (refine' MK.FldOk.of ?o ?n; (case o => (refine' MK.Own.of KX G ?aC ?pg ?hd ?po ?sa ?ca ?cn ?ct ?cm ?cl ?t; (case aC => k_is); (case pg => k_is); (case hd => k_is); (case po => k_is); (case sa => k_is); (case ca => k_is); (case cn => k_is); (case ct => k_is); (case cm => k_is); (case cl => k_is); (case t => k_is))); (case n => k_is))
      case m_InvalidMarks => (refine' MK.c_ref KX G ?a; (case a => k_is))
      case m_InvalidNumber => (refine' MK.c_ref KX G ?a; (case a => k_is))
      case sub => exact MK.subOk_of (MK.rows_cons (by (refine' MK.SubRow.of KX G ?a ?ax ?e ?i ?tC ?s; (case a => k_is); (case ax => k_is); (case e => k_is); (case i => k_is); (case tC => k_is); (case s => k_is))) (MK.rows_cons (by (refine' MK.SubRow.of KX G ?a ?ax ?e ?i ?tC ?s; (case a => k_is); (case ax => k_is); (case e => k_is); (case i => k_is); (case tC => k_is); (case s => k_is))) (MK.rows_cons (by (refine' MK.SubRow.of KX G ?a ?ax ?e ?i ?tC ?s; (case a => k_is); (case ax => k_is); (case e => k_is); (case i => k_is); (case tC => k_is); (case s => k_is))) (MK.rows_cons (by (refine' MK.SubRow.of KX G ?a ?ax ?e ?i ?tC ?s; (case a => k_is); (case ax => k_is); (case e => k_is); (case i => k_is); (case tC => k_is); (case s => k_is))) (MK.rows_cons (by (refine' MK.SubRow.of KX G ?a ?ax ?e ?i ?tC ?s; (case a => k_is); (case ax => k_is); (case e => k_is); (case i => k_is); (case tC => k_is); (case s => k_is))) (MK.rows_cons (by (refine' MK.SubRow.of KX G ?a ?ax ?e ?i ?tC ?s; (case a => k_is); (case ax => k_is); (case e => k_is); (case i => k_is); (case tC => k_is); (case s => k_is))) (MK.rows_cons (by (refine' MK.SubRow.of KX G ?a ?ax ?e ?i ?tC ?s; (case a => k_is); (case ax => k_is); (case e => k_is); (case i => k_is); (case tC => k_is); (case s => k_is))) (MK.rows_cons (by (refine' MK.SubRow.of KX G ?a ?ax ?e ?i ?tC ?s; (case a => k_is); (case ax => k_is); (case e => k_is); (case i => k_is); (case tC => k_is); (case s => k_is))) (MK.rows_nil)))))))))
