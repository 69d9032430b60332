import PyProof.Rows.All
import PySem.Challenge.RW_thinlog_k16_whole_possible_last_paramete
import HandS.ForMost
import HandS.Conv
import HandS.Flow
import HandS.Nested
import KE.KDictKeyed
import HandS.TupAny
import HandS.Walk
import KE.GoesNew
import HandS.Zip
import KE.GoesZip
import KE.GoesEnum
import KE.KDictDisplayH
import KE.KDictLaw
import HandS.IsInst
import HandS.Deep
import KE.DataFind
import KE.DataEq
import HandS.Sort
import HandS.EndTab
import HandS.Style
import KE.SortData
import HandS.SortInts
import HandS.SetBool
import HandS.Strs
import HandS.DictComp
import HandS.RevRange
import KE.DataMinMax
import HandS.Iter
import HandS.WordsDict
import OpenK.KTop
import KE.KDictWalk
import HandS.TupLen
import HandS.More
import KE.KDictCopyH
import KE.GoesEnumKw
import HandS.SetFor
set_option Elab.async false -- pv
set_option linter.all false -- pv
set_option maxRecDepth 100000 -- pv
set_option maxHeartbeats 4000000 -- pv
set_option synthInstance.maxHeartbeats 0 -- pv
set_option synthInstance.maxSize 100000 -- pv
/-! PvCore: a reading of the hand layer by plain data. An environment gives each slot a datum (frozen), a list or dict that it owns, or a def made within; what is known of the heap (H0) grows, what is owned may change. -/
namespace PV
open PySem PySem.Spec PyProof.Rows L2 NdefX LamX -- pv
abbrev Dat := PyData
abbrev St := L2.St
/-- what stays the same through a law: what is written down, the program, the tables of code objects, their names -/
structure KK where
  fr : PySem.W.Frag
  P : Program
  w : World
  tabs : List Addr
  nm : Nat → Nat → Str
abbrev SqL (K : KK) := L2.SqL K.fr
abbrev SqT (K : KK) := L2.SqT K.fr
/-! ### heaps -/
def Sub (H H' : Hp) : Prop := ∀ b o, H b = some o → H' b = some o
theorem Sub.refl (H : Hp) : Sub H H := fun _ _ e => e
theorem Sub.trans {H1 H2 H3 : Hp} (a : Sub H1 H2) (b : Sub H2 H3) : Sub H1 H3 := fun x o e => b x o (a x o e)
theorem Sub.upd {H : Hp} {p : Addr} {o : HO} (h : H p = none) : Sub H (upd H p o) := fun b x e => by
  rw [upd_ne (ne_of_none e h)]; exact e
theorem Sub.none {H H' : Hp} (s : Sub H H') {b : Addr} (e : H' b = none) : H b = none := by
  cases q : H b with
  | none => rfl
  | some o => rw [s b o q] at e; cases e
theorem Sub.sqL {K : KK} {H H' : Hp} (s : Sub H H') {a : Addr} {xs : List V} (h : SqL K H a xs) : SqL K H' a xs := by
  rcases h with (h | ⟨o, h⟩) | h
  · exact .inl (.inl (s _ _ h))
  · exact .inl (.inr ⟨o, s _ _ h⟩)
  · exact .inr h
theorem Sub.sqT {K : KK} {H H' : Hp} (s : Sub H H') {a : Addr} {xs : List V} (h : SqT K H a xs) : SqT K H' a xs := by
  rcases h with (h | ⟨o, h⟩) | h
  · exact .inl (.inl (s _ _ h))
  · exact .inl (.inr ⟨o, s _ _ h⟩)
  · exact .inr h
/-- everything stays but tables, which may grow -/
structure Grow (K : KK) (H H' : Hp) : Prop where
  of : ∀ b o, H b = some o → (∀ ps, o ≠ .tbl ps) → H' b = some o
  none : ∀ {b}, H' b = none → H b = none
/-- the table at P: the code objects that it tells are known, each bears the name that its place has -/
def TabK (K : KK) (H0 H : Hp) (P : Addr) : Prop := H0 P = Option.none ∧ ∃ ps : Array Value, H P = some (.tbl ps) ∧ TriplesOk ps.toList ∧ ∀ (pos : Pos) (cv : Value), codeAmong pos ps.toList = some cv → ∃ c, cv = .ref c ∧ H0 c = some (CodeO c (K.nm pos.line pos.col))
theorem TabK.mono {K : KK} {H0 H H0' H' : Hp} {P : Addr} (s : Sub H0 H0') (n : H0 P = Option.none → (∃ ps, H P = some (.tbl ps)) → H0' P = Option.none) (e : ∀ ps, H P = some (.tbl ps) → H' P = some (.tbl ps)) (t : TabK K H0 H P) : TabK K H0' H' P := by
  obtain ⟨h0, ps, h1, h2, h3⟩ := t
  exact ⟨n h0 ⟨ps, h1⟩, ps, e ps h1, h2, fun pos cv hc => let ⟨c, e1, e2⟩ := h3 pos cv hc; ⟨c, e1, s _ _ e2⟩⟩
theorem Sub.grow {K : KK} {H H' : Hp} (s : Sub H H') : Grow K H H' := ⟨fun b o e _ => s b o e, fun e => s.none e⟩
theorem Grow.refl {K : KK} (H : Hp) : Grow K H H := (Sub.refl H).grow
theorem Grow.trans {K : KK} {H1 H2 H3 : Hp} (a : Grow K H1 H2) (b : Grow K H2 H3) : Grow K H1 H3 := ⟨fun x o e n => b.of x o (a.of x o e n) n, fun e => a.none (b.none e)⟩
theorem Grow.lst {K : KK} {H H' : Hp} (s : Grow K H H') {a : Addr} {xs : List V} (h : H a = some (.lst xs)) : H' a = some (.lst xs) := s.of _ _ h fun _ z => nomatch z
theorem Grow.sqL {K : KK} {H H' : Hp} (s : Grow K H H') {a : Addr} {xs : List V} (h : SqL K H a xs) : SqL K H' a xs := by
  rcases h with (h | ⟨o, h⟩) | h
  · exact .inl (.inl (s.of _ _ h fun _ z => nomatch z))
  · exact .inl (.inr ⟨o, s.of _ _ h fun _ z => nomatch z⟩)
  · exact .inr h
theorem Grow.sqT {K : KK} {H H' : Hp} (s : Grow K H H') {a : Addr} {xs : List V} (h : SqT K H a xs) : SqT K H' a xs := by
  rcases h with (h | ⟨o, h⟩) | h
  · exact .inl (.inl (s.of _ _ h fun _ z => nomatch z))
  · exact .inl (.inr ⟨o, s.of _ _ h fun _ z => nomatch z⟩)
  · exact .inr h
/-! ### keys -/
mutual
/-- data as a key: numbers, texts, None, tuples of such -/
def keyOf : Dat → Option NestedKey
  | .none => some .none
  | .int i => some (.num i)
  | .str x => some (.text x)
  | .tuple ds => (keysOf ds).map .tup
  | _ => none
def keysOf : List Dat → Option (List NestedKey)
  | [] => some []
  | d :: ds => match keyOf d, keysOf ds with
    | some k, some ks => some (k :: ks)
    | _, _ => none
end
def keyD : Key → Dat
  | .inl i => .int i
  | .inr x => .str x
/-- the dict at a, its keys tuples: where each key's tuple stands, its value -/
def DN (P : Program) (w : World) (a : Addr) (xs : List (NestedKey × Addr × V)) : HO := .ext fun h => (a == sysModules) = false ∧ xs.length ≤ sizeLine ∧ ∃ (ys : List (NestedKey × Addr × Value)) (o : Obj) (es : Array DictEntry) (ep : _),
  Paired (fun x y => x.1 = y.1 ∧ x.2.1 = y.2.1 ∧ RelV x.2.2 y.2.2) xs ys ∧ h.get? a = some o ∧ o.ExactDict ∧ o.data = .dict es ep ∧ es.toList = ys.map (entryOfKey (nestedKind P w)) ∧ (ys.map (·.1)).Nodup
mutual
inductive Dp (K : KK) (H : Hp) : V → Dat → Prop
  | non : Dp K H .non .none
  | bl (b : Bool) : Dp K H (.bl b) (.bool b)
  | int (i : Int) : Dp K H (.int i) (.int i)
  | str (x : Str) : Dp K H (.str x) (.str x)
  | lst {a : Addr} {xs : List V} {ds : List Dat} : SqL K H a xs → DpAll K H xs ds → Dp K H (.ref a) (.list ds)
  | tup {a : Addr} {xs : List V} {ds : List Dat} : SqT K H a xs → DpAll K H xs ds → Dp K H (.ref a) (.tuple ds)
  | dct {a : Addr} {ho : HO} {kvs : List (Dat × Dat)} : H a = some ho → DpD K H a ho kvs → Dp K H (.ref a) (.dict kvs)
inductive DpAll (K : KK) (H : Hp) : List V → List Dat → Prop
  | nil : DpAll K H [] []
  | cons {v : V} {vs : List V} {d : Dat} {ds : List Dat} : Dp K H v d → DpAll K H vs ds → DpAll K H (v :: vs) (d :: ds)
inductive DpD (K : KK) (H : Hp) : Addr → HO → List (Dat × Dat) → Prop
  | leaf {a : Addr} {ks : List (Key × V)} {kvs : List (Dat × Dat)} : DpK K H ks kvs → DpD K H a (.dK ks) kvs
  | nest {a : Addr} {xs : List (NestedKey × Addr × V)} {kvs : List (Dat × Dat)} : xs ≠ [] → DpN K H xs kvs → DpD K H a (DN K.P K.w a xs) kvs
  | froz {a : Addr} {od : Obj} {u : HO} {xs : List (NestedKey × Addr × V)} {kvs : List (Dat × Dat)} : (u = DN K.P K.w a xs ∨ (xs = [] ∧ u = .dK [])) → DpN K H xs kvs → DpD K H a (.frz od u) ((.bool true, .none) :: kvs)
  | frozK {a : Addr} {od : Obj} {ks : List (Key × V)} {kvs : List (Dat × Dat)} : DpK K H ks kvs → DpD K H a (.frz od (.dK ks)) ((.bool false, .none) :: kvs)
inductive DpK (K : KK) (H : Hp) : List (Key × V) → List (Dat × Dat) → Prop
  | nil : DpK K H [] []
  | cons {k : Key} {v : V} {d : Dat} {r : List (Key × V)} {s : List (Dat × Dat)} : Dp K H v d → DpK K H r s → DpK K H ((k, v) :: r) ((keyD k, d) :: s)
inductive DpN (K : KK) (H : Hp) : List (NestedKey × Addr × V) → List (Dat × Dat) → Prop
  | nil : DpN K H [] []
  | cons {k : NestedKey} {b : Addr} {v : V} {kd d : Dat} {r : List (NestedKey × Addr × V)} {s : List (Dat × Dat)} : keyOf kd = some k → k.depth ≤ 8 → Dp K H (.ref b) kd → Dp K H v d → DpN K H r s → DpN K H ((k, b, v) :: r) ((kd, d) :: s)
end
mutual
theorem dp_mono' {K : KK} {H H' : Hp} (s : Sub H H') : ∀ {v : V} {d : Dat}, Dp K H v d → Dp K H' v d
  | _, _, .non => .non
  | _, _, .bl b => .bl b
  | _, _, .int i => .int i
  | _, _, .str x => .str x
  | _, _, .lst h a => .lst (s.sqL h) (dpAll_mono' s a)
  | _, _, .tup h a => .tup (s.sqT h) (dpAll_mono' s a)
  | _, _, .dct h a => .dct (s _ _ h) (dpD_mono' s a)
theorem dpAll_mono' {K : KK} {H H' : Hp} (s : Sub H H') : ∀ {vs : List V} {ds : List Dat}, DpAll K H vs ds → DpAll K H' vs ds
  | _, _, .nil => .nil
  | _, _, .cons a b => .cons (dp_mono' s a) (dpAll_mono' s b)
theorem dpD_mono' {K : KK} {H H' : Hp} (s : Sub H H') : ∀ {a : Addr} {ho : HO} {kvs : List (Dat × Dat)}, DpD K H a ho kvs → DpD K H' a ho kvs
  | _, _, _, .leaf h => .leaf (dpK_mono' s h)
  | _, _, _, .nest n h => .nest n (dpN_mono' s h)
  | _, _, _, .froz n h => .froz n (dpN_mono' s h)
  | _, _, _, .frozK h => .frozK (dpK_mono' s h)
theorem dpK_mono' {K : KK} {H H' : Hp} (s : Sub H H') : ∀ {ks : List (Key × V)} {kvs : List (Dat × Dat)}, DpK K H ks kvs → DpK K H' ks kvs
  | _, _, .nil => .nil
  | _, _, .cons a b => .cons (dp_mono' s a) (dpK_mono' s b)
theorem dpN_mono' {K : KK} {H H' : Hp} (s : Sub H H') : ∀ {xs : List (NestedKey × Addr × V)} {kvs : List (Dat × Dat)}, DpN K H xs kvs → DpN K H' xs kvs
  | _, _, .nil => .nil
  | _, _, .cons e1 e2 a b c => .cons e1 e2 (dp_mono' s a) (dp_mono' s b) (dpN_mono' s c)
end
theorem dp_mono {K : KK} {H H' : Hp} (s : Sub H H') (d : Dat) (v : V) (h : Dp K H v d) : Dp K H' v d := dp_mono' s h
theorem dpAll_mono {K : KK} {H H' : Hp} (s : Sub H H') (ds : List Dat) (vs : List V) (h : DpAll K H vs ds) : DpAll K H' vs ds := dpAll_mono' s h
section
variable {K : KK} {H : Hp}
theorem DpAll.pvLen : ∀ {vs : List V} {ds : List PyData}, DpAll K H vs ds → vs.length = ds.length
  | [], _, h => by cases h; rfl
  | v :: vs, _, h => by
    cases h with
    | cons h1 h2 => rw [List.length_cons, List.length_cons, DpAll.pvLen h2]
theorem DpAll.pvGet : ∀ {vs : List V} {ds : List PyData} {i : Nat} {d : PyData}, DpAll K H vs ds → ds[i]? = some d → ∃ v, vs[i]? = some v ∧ Dp K H v d
  | [], _, i, d, h, e => by cases h; simp at e
  | v :: vs, _, 0, d, h, e => by
    cases h with
    | cons h1 h2 => simp at e; subst e; exact ⟨v, rfl, h1⟩
  | v :: vs, _, i + 1, d, h, e => by
    cases h with
    | cons h1 h2 =>
      obtain ⟨u, hu, q⟩ := DpAll.pvGet (i := i) h2 (by simpa using e)
      exact ⟨u, by simpa using hu, q⟩
theorem DpAll.pvGetV {vs : List V} {ds : List PyData} {i : Nat} {v : V} (h : DpAll K H vs ds) (e : vs[i]? = some v) : ∃ d, ds[i]? = some d ∧ Dp K H v d := by
  have hi : i < ds.length := by rw [← DpAll.pvLen h]; exact (List.getElem?_eq_some_iff.mp e).1
  obtain ⟨u, hu, q⟩ := DpAll.pvGet h (List.getElem?_eq_getElem hi)
  rw [e] at hu; cases hu
  exact ⟨_, List.getElem?_eq_getElem hi, q⟩
theorem DpAll.pvApp : ∀ {vs ws : List V} {ds es : List PyData}, DpAll K H vs ds → DpAll K H ws es → DpAll K H (vs ++ ws) (ds ++ es)
  | [], _, _, _, h, h' => by cases h; exact h'
  | v :: vs, _, _, _, h, h' => by
    cases h with
    | cons h1 h2 => exact .cons h1 (DpAll.pvApp h2 h')
theorem DpAll.pvTake : ∀ {vs : List V} {ds : List PyData} (n : Nat), DpAll K H vs ds → DpAll K H (vs.take n) (ds.take n)
  | _, _, 0, _ => .nil
  | _, _, n + 1, h => by
    cases h with
    | nil => exact .nil
    | cons h1 h2 => exact .cons h1 (DpAll.pvTake n h2)
theorem DpAll.pvDrop : ∀ {vs : List V} {ds : List PyData} (n : Nat), DpAll K H vs ds → DpAll K H (vs.drop n) (ds.drop n)
  | _, _, 0, h => h
  | _, _, n + 1, h => by
    cases h with
    | nil => exact .nil
    | cons h1 h2 => exact DpAll.pvDrop n h2
theorem DpAll.pvNil {vs : List V} {ds : List PyData} (h : DpAll K H vs ds) : vs = [] ↔ ds = [] := by
  cases h <;> simp
theorem DpK.pvLen : ∀ {ks : List (Key × V)} {kvs : List (Dat × Dat)}, DpK K H ks kvs → ks.length = kvs.length
  | _, _, .nil => rfl
  | _, _, .cons _ t => by rw [List.length_cons, List.length_cons, DpK.pvLen t]
theorem DpN.pvLen : ∀ {ks : List (NestedKey × Addr × V)} {kvs : List (Dat × Dat)}, DpN K H ks kvs → ks.length = kvs.length
  | _, _, .nil => rfl
  | _, _, .cons _ _ _ _ t => by rw [List.length_cons, List.length_cons, DpN.pvLen t]
end
/-! data without dicts, for the rules of the layer below -/
mutual
theorem dp_low {K : KK} {H : Hp} : ∀ (d : Dat) (v : V), d.canLay0 = true → Dp K H v d → L2.Dp K.fr H v d
  | .none, _, _, h => by cases h; exact .non
  | .bool b, _, _, h => by cases h; exact .bl b
  | .int i, _, _, h => by cases h; exact .int i
  | .str x, _, _, h => by cases h; exact .str x
  | .list ds, _, e, h => by
    cases h with
    | lst hs ha => exact .lst hs (dpAll_low ds _ (by simpa only [PyData.canLay0] using e) ha)
  | .tuple ds, _, e, h => by
    cases h with
    | tup hs ha => exact .tup hs (dpAll_low ds _ (by simpa only [PyData.canLay0] using e) ha)
  | .dict _, _, e, h => by simp [PyData.canLay0] at e
theorem dpAll_low {K : KK} {H : Hp} : ∀ (ds : List Dat) (vs : List V), PyData.canLayAll0 ds = true → DpAll K H vs ds → L2.DpAll K.fr H vs ds
  | [], _, _, h => by cases h; exact .nil
  | d :: ds, _, e, h => by
    simp only [PyData.canLayAll0, Bool.and_eq_true] at e
    cases h with
    | cons h1 h2 => exact .cons (dp_low d _ e.1 h1) (dpAll_low ds _ e.2 h2)
end
/-- (H0, H) has become (H0', H'): known, actual -/
structure Ext (K : KK) (H0 H H0' H' : Hp) : Prop where
  act : Grow K H H'
  kn : Sub H0 H0'
  inn : Sub H0' H'
  fr : ∀ b, H0 b = none → H b ≠ none → H0' b = none
  tab : ∀ P, TabK K H0 H P → TabK K H0' H' P
section
variable {K : KK}
theorem Ext.refl {H0 H : Hp} (s : Sub H0 H) : Ext K H0 H H0 H := ⟨Grow.refl _, Sub.refl _, s, fun _ e _ => e, fun _ t => t⟩
theorem Ext.trans {A0 A B0 B C0 C : Hp} (x : Ext K A0 A B0 B) (y : Ext K B0 B C0 C) : Ext K A0 A C0 C :=
  ⟨x.act.trans y.act, x.kn.trans y.kn, y.inn, fun b e n => y.fr b (x.fr b e n) fun z => n (x.act.none z), fun P t => y.tab P (x.tab P t)⟩
/-- a new object, known -/
theorem Ext.new {H0 H : Hp} (s : Sub H0 H) {p : Addr} {o : HO} (h : H p = none) : Ext K H0 H (upd H0 p o) (upd H p o) :=
  ⟨(Sub.upd h).grow, Sub.upd (s.none h), fun b x e => by
    by_cases hb : b = p
    · subst hb; rw [upd_same] at e ⊢; exact e
    · rw [upd_ne hb] at e ⊢; exact s _ _ e,
   fun b e n => by
    have hb : b ≠ p := fun z => n (by rw [z]; exact h)
    rw [upd_ne hb]; exact e,
   fun P t => t.mono (Sub.upd (s.none h)) (fun z ⟨ps, q⟩ => by rw [upd_ne (ne_of_none q h)]; exact z) fun ps e => Sub.upd h _ _ e⟩
/-- a new object, not known -/
theorem Ext.hid {H0 H : Hp} (s : Sub H0 H) {p : Addr} {o : HO} (h : H p = none) : Ext K H0 H H0 (upd H p o) :=
  ⟨(Sub.upd h).grow, Sub.refl _, s.trans (Sub.upd h), fun _ e _ => e, fun P t => t.mono (Sub.refl _) (fun z _ => z) fun ps e => Sub.upd h _ _ e⟩
/-- what stands at o becomes known -/
def frz (H0 H : Hp) (o : Addr) : Hp := fun b => if b = o then H b else H0 b
theorem frz_at {H0 H : Hp} {o : Addr} : frz H0 H o o = H o := by unfold frz; rw [if_pos rfl]
theorem frz_ne {H0 H : Hp} {o b : Addr} (h : b ≠ o) : frz H0 H o b = H0 b := by unfold frz; rw [if_neg h]
theorem frz_kn {H0 H : Hp} (s : Sub H0 H) (o : Addr) : Sub H0 (frz H0 H o) := fun b x e => by
  by_cases hb : b = o
  · subst hb; rw [frz_at]; exact s _ _ e
  · rw [frz_ne hb]; exact e
theorem frz_inn {H0 H : Hp} (s : Sub H0 H) (o : Addr) : Sub (frz H0 H o) H := fun b x e => by
  by_cases hb : b = o
  · subst hb; rw [frz_at] at e; exact e
  · rw [frz_ne hb] at e; exact s _ _ e
/-- o was not there at the start: it may become known -/
theorem Ext.frz {A0 A H0 H : Hp} (x : Ext K A0 A H0 H) {o : Addr} (h : A o = none) : Ext K A0 A (frz H0 H o) H :=
  ⟨x.act, x.kn.trans (frz_kn x.inn o), frz_inn x.inn o, fun b e n => by
    have hb : b ≠ o := fun z => n (by rw [z]; exact h)
    rw [frz_ne hb]; exact x.fr b e n, fun P t => (x.tab P t).mono (frz_kn x.inn o) (fun z _ => by
    obtain ⟨_, ps, hp, _⟩ := t
    rw [frz_ne (ne_of_none hp h)]; exact z) fun _ e => e⟩
end
/-! ### environments -/
/-- what is owned: a list, a dict -/
inductive Ow where
  | lst (ds : List Dat) | dct (kvs : List (Dat × Dat))
def Ow.dat : Ow → Dat
  | .lst ds => .list ds
  | .dct kvs => .dict kvs
/-- other things that a slot may hold: this very value; a def made within, by its words; a range object -/
inductive Kn where
  | is (v : V) | clo (mk : Addr → NF) | rng (lo hi : Int)
  /-- a function that was handed in, with what its captured cells hold -/
  | fn (f : Addr) (F : NF) (ws : List V) (cs : List Dat)
inductive Sl where
  | un | val (d : Dat) | ow (w : Ow) | kn (q : Kn)
abbrev Sl.clo (mk : Addr → NF) : Sl := .kn (.clo mk)
def KnOk (K : KK) (H0 : Hp) (v : V) : Kn → Prop
  | .is u => v = u
  | .clo mk => ∃ f c, v = .ref f ∧ H0 f = some (FnO f (mk c)) ∧ H0 (mk c).c = some (CodeO (mk c).c (mk c).qual)
  | .rng lo hi => ∃ a, v = .ref a ∧ H0 a = some (.rng lo hi)
  | .fn f F ws cs => v = .ref f ∧ H0 f = some (FnO f F) ∧ H0 F.c = some (CodeO F.c F.qual) ∧ DpAll K H0 ws cs
theorem KnOk.mono {K : KK} {H H' : Hp} (s : Sub H H') {v : V} : ∀ {q : Kn}, KnOk K H v q → KnOk K H' v q
  | .is _, h => h
  | .clo _, ⟨f, c, e, h1, h2⟩ => ⟨f, c, e, s _ _ h1, s _ _ h2⟩
  | .rng _ _, ⟨a, e, h⟩ => ⟨a, e, s _ _ h⟩
  | .fn _ _ _ _, ⟨e, h1, h2, h3⟩ => ⟨e, s _ _ h1, s _ _ h2, dpAll_mono' s h3⟩
abbrev Sl.own (ds : List Dat) : Sl := .ow (.lst ds)
abbrev Sl.dct (kvs : List (Dat × Dat)) : Sl := .ow (.dct kvs)
abbrev En := List Sl
def OwIs (K : KK) (H : Hp) (o : Addr) (ho : HO) : Ow → Prop
  | .lst ds => ∃ vs, ho = .lst vs ∧ DpAll K H vs ds
  | .dct kvs => DpD K H o ho kvs
section
variable {K : KK}
theorem OwIs.mono {H H' : Hp} (s : Sub H H') {o : Addr} {ho : HO} : ∀ {w : Ow}, OwIs K H o ho w → OwIs K H' o ho w
  | .lst _, ⟨vs, e, h⟩ => ⟨vs, e, dpAll_mono' s h⟩
  | .dct _, h => dpD_mono' s h
theorem OwIs.dp {H : Hp} {o : Addr} {ho : HO} (e : H o = some ho) : ∀ {w : Ow}, OwIs K H o ho w → Dp K H (.ref o) w.dat
  | .lst _, ⟨vs, z, h⟩ => .lst (.inl (.inl (by rw [e, z]))) h
  | .dct _, h => .dct e h
theorem OwIs.noTbl {H : Hp} {o : Addr} {ho : HO} : ∀ {w : Ow}, OwIs K H o ho w → ∀ ps, ho ≠ .tbl ps
  | .lst _, ⟨vs, z, h⟩, ps => by rw [z]; exact fun q => nomatch q
  | .dct kvs, h, ps => by
    have h : DpD K H o ho kvs := h
    cases h with
    | leaf _ => exact fun q => nomatch q
    | nest _ _ => exact fun q => by unfold DN at q; cases q
    | froz _ _ => exact fun q => by cases q
    | frozK _ => exact fun q => by cases q
end
structure StOk (K : KK) (F B0 B H0 H : Hp) (σ : St) (env : En) : Prop where
  ext : Ext K B0 B H0 H
  fl : Sub F H0
  len : σ.length = env.length
  val : ∀ (i : Nat) (d : Dat), env[i]? = some (Sl.val d) → ∃ v, σ[i]? = some (some v) ∧ Dp K H0 v d
  own : ∀ (i : Nat) (w : Ow), env[i]? = some (Sl.ow w) → ∃ o ho, σ[i]? = some (some (.ref o)) ∧ B o = none ∧ H0 o = none ∧ H o = some ho ∧ OwIs K H0 o ho w
  dis : ∀ (i j : Nat) (w w' : Ow) (o : Addr), env[i]? = some (Sl.ow w) → env[j]? = some (Sl.ow w') → σ[i]? = some (some (.ref o)) → σ[j]? = some (some (.ref o)) → i = j
  kno : ∀ (i : Nat) (q : Kn), env[i]? = some (Sl.kn q) → ∃ v, σ[i]? = some (some v) ∧ KnOk K H0 v q
  tab : ∀ P ∈ K.tabs, TabK K H0 H P
theorem set_get {env : En} {i : Nat} {x y : Sl} (e : (env.set i x)[i]? = some y) : x = y ∧ i < env.length := by
  have hl : i < env.length := by have := (List.getElem?_eq_some_iff.mp e).1; rwa [List.length_set] at this
  rw [List.getElem?_set_self hl] at e
  exact ⟨Option.some.inj e, hl⟩
section
variable {K : KK} {F B0 B H0 H H0' H' : Hp} {σ : St} {env : En}
theorem StOk.inn (s : StOk K F B0 B H0 H σ env) : Sub H0 H := s.ext.inn
/-- a list of one's own -/
theorem StOk.ownL (s : StOk K F B0 B H0 H σ env) (i : Nat) (ds : List Dat) (e : env[i]? = some (Sl.own ds)) : ∃ o vs, σ[i]? = some (some (.ref o)) ∧ B o = none ∧ H0 o = none ∧ H o = some (.lst vs) ∧ DpAll K H0 vs ds := by
  obtain ⟨o, ho, h1, h2, h3, h4, vs, rfl, h5⟩ := s.own i _ e
  exact ⟨o, vs, h1, h2, h3, h4, h5⟩
theorem StOk.go (s : StOk K F B0 B H0 H σ env) (x : Ext K H0 H H0' H') : StOk K F B0 B H0' H' σ env where
  ext := s.ext.trans x
  fl := s.fl.trans x.kn
  len := s.len
  val := fun i d e => let ⟨v, h1, h2⟩ := s.val i d e; ⟨v, h1, dp_mono x.kn _ _ h2⟩
  own := fun i w e => by
    obtain ⟨o, ho, h1, h2, h3, h4, h5⟩ := s.own i w e
    exact ⟨o, ho, h1, h2, x.fr o h3 (by rw [h4]; simp), x.act.of _ _ h4 h5.noTbl, h5.mono x.kn⟩
  dis := s.dis
  kno := fun i q e => let ⟨v, h1, h2⟩ := s.kno i q e; ⟨v, h1, h2.mono x.kn⟩
  tab := fun P m => x.tab P (s.tab P m)
theorem StOk.floor {F' : Hp} (s : StOk K F B0 B H0 H σ env) (h : Sub F' H0) : StOk K F' B0 B H0 H σ env := ⟨s.ext, h, s.len, s.val, s.own, s.dis, s.kno, s.tab⟩
/-- a slot gets a datum, or is forgotten, or a def: no list of its own -/
theorem StOk.setX (s : StOk K F B0 B H0 H σ env) (i : Nat) {x : Option V} {y : Sl} (hy : ∀ w, y ≠ .ow w) (hv : ∀ d, y = .val d → ∃ v, x = some v ∧ Dp K H0 v d)
    (hc : ∀ q, y = .kn q → ∃ v, x = some v ∧ KnOk K H0 v q) : StOk K F B0 B H0 H (σ.set i x) (env.set i y) := by
  have ne : ∀ {m : Nat} {w : Ow}, (env.set i y)[m]? = some (Sl.ow w) → i ≠ m := fun {m w} hm z => by
    subst z
    exact hy _ (set_get hm).1
  refine ⟨s.ext, s.fl, by rw [List.length_set, List.length_set]; exact s.len, fun j d he => ?_, fun j w he => ?_, fun j k w w' o hj hk ej ek => ?_, fun j mk he => ?_, s.tab⟩
  · by_cases hj : i = j
    · subst hj
      obtain ⟨e, hl⟩ := set_get he
      obtain ⟨v, rfl, dv⟩ := hv d e
      exact ⟨v, by rw [List.getElem?_set_self (by rw [s.len]; exact hl)], dv⟩
    · rw [List.getElem?_set_ne hj] at he ⊢
      exact s.val j d he
  · have hj := ne he
    rw [List.getElem?_set_ne hj] at he ⊢
    exact s.own j w he
  · have nj := ne hj
    have nk := ne hk
    rw [List.getElem?_set_ne nj] at hj ej
    rw [List.getElem?_set_ne nk] at hk ek
    exact s.dis j k _ _ o hj hk ej ek
  · by_cases hj : i = j
    · subst hj
      obtain ⟨e, hl⟩ := set_get he
      obtain ⟨v, rfl, h1⟩ := hc mk e
      exact ⟨v, by rw [List.getElem?_set_self (by rw [s.len]; exact hl)], h1⟩
    · rw [List.getElem?_set_ne hj] at he ⊢
      exact s.kno j mk he
theorem StOk.setV (s : StOk K F B0 B H0 H σ env) (i : Nat) {v : V} {d : Dat} (h : Dp K H0 v d) : StOk K F B0 B H0 H (σ.set i (some v)) (env.set i (.val d)) :=
  s.setX i (fun w z => nomatch z) (fun e z => by cases z; exact ⟨v, rfl, h⟩) fun mk z => nomatch z
theorem StOk.setU (s : StOk K F B0 B H0 H σ env) (i : Nat) (x : Option V) : StOk K F B0 B H0 H (σ.set i x) (env.set i .un) := s.setX i (fun w z => nomatch z) (fun e z => nomatch z) fun mk z => nomatch z
/-- .. or another thing -/
theorem StOk.setK (s : StOk K F B0 B H0 H σ env) (i : Nat) {v : V} {q : Kn} (h : KnOk K H0 v q) : StOk K F B0 B H0 H (σ.set i (some v)) (env.set i (.kn q)) :=
  s.setX i (fun w z => nomatch z) (fun e z => nomatch z) fun q' z => by cases z; exact ⟨v, rfl, h⟩
/-- a slot gets an object of its own -/
theorem StOk.setW (s : StOk K F B0 B H0 H σ env) (i : Nat) {o : Addr} {ho : HO} {w : Ow} (hB : B o = none) (h0 : H0 o = none) (h1 : H o = some ho) (h : OwIs K H0 o ho w)
    (hn : ∀ (j : Nat) (w' : Ow), env[j]? = some (Sl.ow w') → σ[j]? ≠ some (some (.ref o))) : StOk K F B0 B H0 H (σ.set i (some (.ref o))) (env.set i (.ow w)) := by
  refine ⟨s.ext, s.fl, by rw [List.length_set, List.length_set]; exact s.len, fun j d he => ?_, fun j w' he => ?_, fun j k w1 w2 o' hj hk ej ek => ?_, fun j mk he => ?_, s.tab⟩
  · by_cases hj : i = j
    · subst hj
      cases (set_get he).1
    · rw [List.getElem?_set_ne hj] at he ⊢
      exact s.val j d he
  · by_cases hj : i = j
    · subst hj
      obtain ⟨e, hl⟩ := set_get he
      cases e
      rw [List.getElem?_set_self (by rw [s.len]; exact hl)]
      exact ⟨o, ho, rfl, hB, h0, h1, h⟩
    · rw [List.getElem?_set_ne hj] at he ⊢
      exact s.own j w' he
  · have hi : ∀ {m : Nat} {w' : Ow}, (env.set i (Sl.ow w))[m]? = some (Sl.ow w') → m < σ.length := fun {m w'} hm => by
      rw [s.len]; have := (List.getElem?_eq_some_iff.mp hm).1; rwa [List.length_set] at this
    have lj := hi hj
    have lk := hi hk
    by_cases nj : i = j
    · by_cases nk : i = k
      · exact nj.symm.trans nk
      · exfalso
        subst nj
        rw [List.getElem?_set_ne nk] at hk ek
        rw [List.getElem?_set_self lj] at ej
        cases ej
        exact hn k _ hk ek
    · by_cases nk : i = k
      · exfalso
        subst nk
        rw [List.getElem?_set_ne nj] at hj ej
        rw [List.getElem?_set_self lk] at ek
        cases ek
        exact hn j _ hj ej
      · rw [List.getElem?_set_ne nj] at hj ej
        rw [List.getElem?_set_ne nk] at hk ek
        exact s.dis j k _ _ o' hj hk ej ek
  · by_cases hj : i = j
    · subst hj
      cases (set_get he).1
    · rw [List.getElem?_set_ne hj] at he ⊢
      exact s.kno j mk he
/-- what slot i owns becomes known -/
theorem StOk.freeze (s : StOk K F B0 B H0 H σ env) {i : Nat} {w : Ow} (e : env[i]? = some (Sl.ow w)) : ∃ o ho, σ[i]? = some (some (.ref o)) ∧ H o = some ho ∧ B o = none ∧ StOk K F B0 B (frz H0 H o) H σ (env.set i (.val w.dat)) := by
  obtain ⟨o, ho, h1, h2, h3, h4, h5⟩ := s.own i w e
  have hl : i < env.length := (List.getElem?_eq_some_iff.mp e).1
  have kn := frz_kn s.inn o
  have ne : ∀ {m : Nat} {w' : Ow}, (env.set i (Sl.val w.dat))[m]? = some (Sl.ow w') → i ≠ m := fun {m w'} hm z => by
    subst z
    cases (set_get hm).1
  refine ⟨o, ho, h1, h4, h2, ⟨s.ext.frz h2, s.fl.trans kn, by rw [List.length_set]; exact s.len, fun j d he => ?_, fun j w' he => ?_, fun j k w1 w2 o' hj hk ej ek => ?_, fun j mk he => ?_, fun P m => (s.tab P m).mono kn (fun z ⟨ps, q⟩ => by
    have no : P ≠ o := fun e => h5.noTbl ps (by rw [e, h4] at q; exact Option.some.inj q)
    rw [frz_ne no]; exact z) fun _ e => e⟩⟩
  · by_cases hj : i = j
    · subst hj
      cases (set_get he).1
      exact ⟨.ref o, h1, (h5.mono kn).dp (by rw [frz_at]; exact h4)⟩
    · rw [List.getElem?_set_ne hj] at he
      obtain ⟨v, q1, q2⟩ := s.val j d he
      exact ⟨v, q1, dp_mono kn _ _ q2⟩
  · have hj := ne he
    rw [List.getElem?_set_ne hj] at he
    obtain ⟨o', ho', q1, q2, q3, q4, q5⟩ := s.own j w' he
    have no : o' ≠ o := fun z => hj (s.dis i j _ _ o e he h1 (by rw [q1, z]))
    exact ⟨o', ho', q1, q2, by rw [frz_ne no]; exact q3, q4, q5.mono kn⟩
  · have nj := ne hj
    have nk := ne hk
    rw [List.getElem?_set_ne nj] at hj
    rw [List.getElem?_set_ne nk] at hk
    exact s.dis j k _ _ o' hj hk ej ek
  · by_cases hj : i = j
    · subst hj
      cases (set_get he).1
    · rw [List.getElem?_set_ne hj] at he
      obtain ⟨v, q1, q2⟩ := s.kno j mk he
      exact ⟨v, q1, q2.mono kn⟩
/-- what slot i owns is changed -/
theorem StOk.writeW (s : StOk K F B0 B H0 H σ env) {i : Nat} {w w' : Ow} {o : Addr} {ho : HO} (e : env[i]? = some (Sl.ow w)) (eo : σ[i]? = some (some (.ref o))) (h : OwIs K H0 o ho w') :
    StOk K F B0 B H0 (upd H o ho) σ (env.set i (.ow w')) := by
  obtain ⟨o', ho', h1, h2, h3, h4, h5⟩ := s.own i w e
  rw [eo] at h1; cases h1
  have hl : i < env.length := (List.getElem?_eq_some_iff.mp e).1
  have nt := h5.noTbl
  have ow : ∀ {m : Nat} {v : Ow}, (env.set i (Sl.ow w'))[m]? = some (Sl.ow v) → ∃ v', env[m]? = some (Sl.ow v') := fun {m v} hm => by
    by_cases z : i = m
    · subst z; exact ⟨w, e⟩
    · rw [List.getElem?_set_ne z] at hm; exact ⟨v, hm⟩
  have tb : ∀ P, TabK K H0 H P → TabK K H0 (upd H o ho) P := fun P t => t.mono (Sub.refl _) (fun z _ => z) fun ps e => by
    rw [upd_ne fun z => nt ps (by rw [z, h4] at e; exact Option.some.inj e)]; exact e
  refine ⟨⟨⟨fun b x q n => ?_, fun {b} q => ?_⟩, s.ext.kn, fun b x q => ?_, s.ext.fr, fun P t => tb P (s.ext.tab P t)⟩, s.fl, by rw [List.length_set]; exact s.len, fun j d he => ?_, fun j v he => ?_, fun j k w1 w2 o' hj hk ej ek => ?_, fun j mk he => ?_, fun P m => tb P (s.tab P m)⟩
  · rw [upd_ne (ne_of_none q h2)]; exact s.ext.act.of _ _ q n
  · by_cases hb : b = o
    · rw [hb]; exact h2
    · rw [upd_ne hb] at q; exact s.ext.act.none q
  · rw [upd_ne (ne_of_none q h3)]; exact s.inn _ _ q
  · have hj : i ≠ j := fun z => by
      subst z
      cases (set_get he).1
    rw [List.getElem?_set_ne hj] at he
    exact s.val j d he
  · by_cases hj : i = j
    · subst hj
      cases (set_get he).1
      exact ⟨o, ho, eo, h2, h3, upd_same, h⟩
    · rw [List.getElem?_set_ne hj] at he
      obtain ⟨o', ho', q1, q2, q3, q4, q5⟩ := s.own j v he
      have no : o' ≠ o := fun z => hj (s.dis i j _ _ o e he eo (by rw [q1, z]))
      exact ⟨o', ho', q1, q2, q3, by rw [upd_ne no]; exact q4, q5⟩
  · obtain ⟨a, ha⟩ := ow hj
    obtain ⟨b, hb⟩ := ow hk
    exact s.dis j k a b o' ha hb ej ek
  · have hj : i ≠ j := fun z => by
      subst z
      cases (set_get he).1
    rw [List.getElem?_set_ne hj] at he
    exact s.kno j mk he
end
/-! ### results -/
inductive Rs where
  | val (d : Dat) | fr (w : Ow) | pk (i : Nat) (w : Ow)
abbrev Rs.fresh (ds : List Dat) : Rs := .fr (.lst ds)
abbrev Rs.peek (i : Nat) (ds : List Dat) : Rs := .pk i (.lst ds)
/-- as a datum that may be kept -/
def Rs.toD : Rs → Option Dat
  | .val d => some d
  | .fr w => some w.dat
  | .pk _ _ => none
/-- as a datum that is read at once -/
def Rs.rd : Rs → Dat
  | .val d => d
  | .fr w => w.dat
  | .pk _ w => w.dat
/-- v stands for the result; Hs: the heap at the expression's start -/
def Den (K : KK) (Hs H0 H : Hp) (σ : St) (env : En) (v : V) : Rs → Prop
  | .val d => Dp K H0 v d
  | .fr w => ∃ o ho, v = .ref o ∧ Hs o = none ∧ H0 o = none ∧ H o = some ho ∧ OwIs K H0 o ho w
  | .pk i w => env[i]? = some (.ow w) ∧ σ[i]? = some (some v)
section
variable {K : KK} {F B0 B Hs H0 H H0' H' : Hp} {σ : St} {env : En} {v : V} {r : Rs}
theorem Den.go (h : Den K Hs H0 H σ env v r) (x : Ext K H0 H H0' H') : Den K Hs H0' H' σ env v r := by
  cases r with
  | val d => exact dp_mono x.kn _ _ h
  | fr w =>
    obtain ⟨o, ho, e, h1, h2, h3, h4⟩ := h
    exact ⟨o, ho, e, h1, x.fr o h2 (by rw [h3]; simp), x.act.of _ _ h3 h4.noTbl, h4.mono x.kn⟩
  | pk i w => exact h
theorem Den.start {Ht : Hp} (h : Den K Hs H0 H σ env v r) (x : Grow K Ht Hs) : Den K Ht H0 H σ env v r := by
  cases r with
  | val d => exact h
  | fr w =>
    obtain ⟨o, ho, e, h1, h2, h3, h4⟩ := h
    exact ⟨o, ho, e, x.none h1, h2, h3, h4⟩
  | pk i w => exact h
/-- kept: what is new becomes known -/
theorem Den.keep {A0 A : Hp} {d : Dat} (h : Den K A H0 H σ env v r) (x : Ext K A0 A H0 H) (e : r.toD = some d) : ∃ H0', Ext K A0 A H0' H ∧ Sub H0 H0' ∧ Dp K H0' v d ∧ ∀ b, H b = none → H0' b = none := by
  cases r with
  | val d' =>
    cases e
    exact ⟨H0, x, Sub.refl _, h, fun b q => x.inn.none q⟩
  | fr w =>
    cases e
    obtain ⟨o, ho, rfl, h1, h2, h3, h4⟩ := h
    have kn := frz_kn x.inn o
    exact ⟨frz H0 H o, x.frz h1, kn, (h4.mono kn).dp (by rw [frz_at]; exact h3), fun b q => (frz_inn x.inn o).none q⟩
  | pk i w => cases e
/-- read at once: in a heap between -/
theorem Den.read (s : StOk K F B0 B H0 H σ env) (h : Den K Hs H0 H σ env v r) : ∃ G, Sub H0 G ∧ Sub G H ∧ Dp K G v r.rd := by
  cases r with
  | val d => exact ⟨H0, Sub.refl _, s.inn, h⟩
  | fr w =>
    obtain ⟨o, ho, rfl, h1, h2, h3, h4⟩ := h
    have kn := frz_kn s.inn o
    exact ⟨frz H0 H o, kn, frz_inn s.inn o, (h4.mono kn).dp (by rw [frz_at]; exact h3)⟩
  | pk i w =>
    obtain ⟨e1, e2⟩ := h
    obtain ⟨o, ho, h1, h2, h3, h4, h5⟩ := s.own i w e1
    rw [e2] at h1; cases h1
    have kn := frz_kn s.inn o
    exact ⟨frz H0 H o, kn, frz_inn s.inn o, (h5.mono kn).dp (by rw [frz_at]; exact h4)⟩
/-- .. as the list that it is: its items are known -/
theorem Den.asList (s : StOk K F B0 B H0 H σ env) (h : Den K Hs H0 H σ env v r) {ds : List Dat} (e : r.rd = .list ds) : ∃ a vs, v = .ref a ∧ SqL K H a vs ∧ DpAll K H0 vs ds := by
  cases r with
  | val d =>
    cases e
    cases h with
    | lst h1 h2 => exact ⟨_, _, rfl, s.inn.sqL h1, h2⟩
  | fr w =>
    cases w with
    | lst ds' =>
      cases e
      obtain ⟨o, _, rfl, h1, h2, h3, vs, rfl, h4⟩ := h
      exact ⟨o, vs, rfl, .inl (.inl h3), h4⟩
    | dct kvs => cases e
  | pk i w =>
    cases w with
    | lst ds' =>
      cases e
      obtain ⟨e1, e2⟩ := h
      obtain ⟨o, vs, h1, h2, h3, h4, h5⟩ := s.ownL i ds e1
      rw [e2] at h1; cases h1
      exact ⟨o, vs, rfl, .inl (.inl h4), h5⟩
    | dct kvs => cases e
theorem Den.asTup (s : StOk K F B0 B H0 H σ env) (h : Den K Hs H0 H σ env v r) {ds : List Dat} (e : r.rd = .tuple ds) : ∃ a vs, v = .ref a ∧ SqT K H a vs ∧ DpAll K H0 vs ds ∧ r = .val (.tuple ds) ∧ SqT K H0 a vs := by
  cases r with
  | val d =>
    cases e
    cases h with
    | tup h1 h2 => exact ⟨_, _, rfl, s.inn.sqT h1, h2, rfl, h1⟩
  | fr w => cases w <;> cases e
  | pk i w => cases w <;> cases e
/-- .. as the dict that it is: its entries are known -/
theorem Den.asDict (s : StOk K F B0 B H0 H σ env) (h : Den K Hs H0 H σ env v r) {kvs : List (Dat × Dat)} (e : r.rd = .dict kvs) : ∃ a ho, v = .ref a ∧ H a = some ho ∧ DpD K H0 a ho kvs := by
  cases r with
  | val d =>
    cases e
    cases h with
    | dct h1 h2 => exact ⟨_, _, rfl, s.inn _ _ h1, h2⟩
  | fr w =>
    cases w with
    | lst ds' => cases e
    | dct kvs =>
      cases e
      obtain ⟨o, ho, rfl, h1, h2, h3, h4⟩ := h
      exact ⟨o, ho, rfl, h3, h4⟩
  | pk i w =>
    cases w with
    | lst ds' => cases e
    | dct kvs =>
      cases e
      obtain ⟨e1, e2⟩ := h
      obtain ⟨o, ho, h1, h2, h3, h4, h5⟩ := s.own i _ e1
      rw [e2] at h1; cases h1
      exact ⟨o, ho, rfl, h4, h5⟩
theorem Den.asInt (s : StOk K F B0 B H0 H σ env) (h : Den K Hs H0 H σ env v r) {i : Int} (e : r.rd = .int i) : v = .int i := by
  cases r with
  | val d => cases e; cases h; rfl
  | fr w => cases w <;> cases e
  | pk i w => cases w <;> cases e
theorem Den.asBool (s : StOk K F B0 B H0 H σ env) (h : Den K Hs H0 H σ env v r) {i : Bool} (e : r.rd = .bool i) : v = .bl i := by
  cases r with
  | val d => cases e; cases h; rfl
  | fr w => cases w <;> cases e
  | pk i w => cases w <;> cases e
end
inductive DenAll (K : KK) (Hs H0 H : Hp) (σ : St) (env : En) : List V → List Rs → Prop
  | nil : DenAll K Hs H0 H σ env [] []
  | cons {v : V} {vs : List V} {r : Rs} {rs : List Rs} : Den K Hs H0 H σ env v r → DenAll K Hs H0 H σ env vs rs → DenAll K Hs H0 H σ env (v :: vs) (r :: rs)
/-- all kept -/
def toDs : List Rs → Option (List Dat)
  | [] => some []
  | r :: rs => match r.toD, toDs rs with
    | some d, some ds => some (d :: ds)
    | _, _ => none
theorem DenAll.keep {K : KK} {A0 A H : Hp} {σ : St} {env : En} : ∀ {vs : List V} {rs : List Rs} {ds : List Dat} {H0 : Hp}, DenAll K A H0 H σ env vs rs → Ext K A0 A H0 H → toDs rs = some ds →
    ∃ H0', Ext K A0 A H0' H ∧ Sub H0 H0' ∧ DpAll K H0' vs ds
  | _, _, ds, H0, .nil, x, e => by cases e; exact ⟨H0, x, Sub.refl _, .nil⟩
  | _, _, ds, H0, .cons (v := v) (vs := vs) (r := r) (rs := rs) h t, x, e => by
    unfold toDs at e
    cases e1 : r.toD with
    | none => rw [e1] at e; cases e
    | some d =>
      cases e2 : toDs rs with
      | none => rw [e1, e2] at e; cases e
      | some ds' =>
        rw [e1, e2] at e
        cases e
        obtain ⟨H1, x1, s1, p1⟩ := DenAll.keep t x e2
        cases r with
        | val d' =>
          cases e1
          exact ⟨H1, x1, s1, .cons (dp_mono s1 _ _ h) p1⟩
        | fr w =>
          cases e1
          obtain ⟨o, ho, rfl, h1, h2, h3, h4⟩ := h
          have kn := frz_kn x1.inn o
          exact ⟨frz H1 H o, x1.frz h1, s1.trans kn, .cons ((h4.mono (s1.trans kn)).dp (by rw [frz_at]; exact h3)) (dpAll_mono kn _ _ p1)⟩
        | pk i w => cases e1
end PV

/-! PvSim: what each reading of the hand layer is on data. -/
namespace PV
open PySem PySem.Spec PyProof.Rows L2 NdefX LamX -- pv
abbrev RE := En → (Rs → Prop) → Prop
abbrev RT := En → (Bool → Prop) → Prop
abbrev RA := En → (List Rs → Prop) → Prop
abbrev RP := En → (Option Int → Prop) → Prop
abbrev RI := En → (List Dat → Prop) → Prop
abbrev RG := Dat → En → (En → Prop) → Prop
abbrev RGs := List Dat → En → (En → Prop) → Prop
abbrev R2p := Rs → Rs → (Rs → Prop) → Prop
/-- what follows an expression -/
def Aft (K : KK) (H0 H : Hp) (σ : St) (env : En) (R : Rs → Prop) (Q : VK) : Prop := ∀ v s H0' H', R s → Ext K H0 H H0' H' → Den K H H0' H' σ env v s → Q v H'
class SimE (K : KK) (t : TE) (r : outParam RE) : Prop where
  run : ∀ {F B0 B H0 H : Hp} {σ : St} {env : En} {Q : VK} {R : Rs → Prop}, StOk K F B0 B H0 H σ env → r env R → Aft K H0 H σ env R Q → t σ H Q
class SimT (K : KK) (t : TT) (r : outParam RT) : Prop where
  run : ∀ {F B0 B H0 H : Hp} {σ : St} {env : En} {Q : Bool → Hp → Prop} {R : Bool → Prop}, StOk K F B0 B H0 H σ env → r env R → (∀ b H0' H', R b → Ext K H0 H H0' H' → Q b H') → t σ H Q
/-- what is new among the values lies apart -/
def Apart (vs : List V) (rs : List Rs) : Prop := ∀ (i j : Nat) (v : V) (w w' : Ow), vs[i]? = some v → vs[j]? = some v → rs[i]? = some (.fr w) → rs[j]? = some (.fr w') → i = j
class SimA (K : KK) (t : TA) (r : outParam RA) : Prop where
  run : ∀ {F B0 B H0 H : Hp} {σ : St} {env : En} {Q : List V → Hp → Prop} {R : List Rs → Prop}, StOk K F B0 B H0 H σ env → r env R → (∀ vs ss H0' H', R ss → Ext K H0 H H0' H' → DenAll K H H0' H' σ env vs ss → Apart vs ss → Q vs H') → t σ H Q
class SimO (K : KK) (t : TO) (r : outParam RP) : Prop where
  run : ∀ {F B0 B H0 H : Hp} {σ : St} {env : En} {Q : Option Int → Hp → Prop} {R : Option Int → Prop}, StOk K F B0 B H0 H σ env → r env R → (∀ o H0' H', R o → Ext K H0 H H0' H' → Q o H') → t σ H Q
class Im2 (K : KK) (r : R2) (ρ : outParam R2p) : Prop where
  run : ∀ {F B0 B Hs H0 H : Hp} {σ : St} {env : En} {x y : V} {a b : Rs} {Q : VK} {R : Rs → Prop}, StOk K F B0 B H0 H σ env → Den K Hs H0 H σ env x a → Den K Hs H0 H σ env y b → ρ a b R → Aft K H0 H σ env R Q → r x y H Q
class Im1 (K : KK) (r : V → Hp → VK → Prop) (ρ : outParam (Rs → (Rs → Prop) → Prop)) : Prop where
  run : ∀ {F B0 B Hs H0 H : Hp} {σ : St} {env : En} {x : V} {a : Rs} {Q : VK} {R : Rs → Prop}, StOk K F B0 B H0 H σ env → Den K Hs H0 H σ env x a → ρ a R → Aft K H0 H σ env R Q → r x H Q
class ImL (K : KK) (r : List V → Hp → VK → Prop) (ρ : outParam (List Rs → (Rs → Prop) → Prop)) : Prop where
  run : ∀ {F B0 B Hs H0 H : Hp} {σ : St} {env : En} {xs : List V} {as : List Rs} {Q : VK} {R : Rs → Prop}, StOk K F B0 B H0 H σ env → DenAll K Hs H0 H σ env xs as → ρ as R → Aft K H0 H σ env R Q → r xs H Q
section
variable {K : KK} {F B0 B Hs H0 H H0' H' : Hp} {σ : St} {env : En} {R : Rs → Prop} {Q : VK}
theorem Aft.after (q : Aft K H0 H σ env R Q) (x : Ext K H0 H H0' H') : Aft K H0' H' σ env R Q := fun v s G0 G h y d => q v s G0 G h (x.trans y) (d.start x.act)
theorem Aft.at (q : Aft K H0 H σ env R Q) (st : StOk K F B0 B H0 H σ env) {v : V} {s : Rs} (h : R s) (d : Den K H H0 H σ env v s) : Q v H := q v s H0 H h (Ext.refl st.inn) d
end
/-! ### names, constants -/
def rVar (i : Nat) : RE := fun env R => match env[i]? with
  | some (.val d) => R (.val d)
  | some (.ow w) => R (.pk i w)
  | _ => False
instance {K : KK} {i : Nat} : SimE K (tVar i) (rVar i) where
  run := by
    intro F B0 B H0 H σ env Q R st h q
    unfold rVar at h
    split at h
    · rename_i d e
      obtain ⟨v, e1, e2⟩ := st.val i d e
      exact ⟨v, e1, q.at st h e2⟩
    · rename_i w e
      obtain ⟨o, ho, e1, _⟩ := st.own i w e
      exact ⟨.ref o, e1, q.at st h (show Den K H H0 H σ env (.ref o) (.pk i w) from ⟨e, e1⟩)⟩
    · exact h.elim
def rC (d : Dat) : RE := fun _ R => R (.val d)
instance {K : KK} {i : Int} : SimE K (tC (.int i)) (rC (.int i)) := ⟨fun st h q => q.at st h (Dp.int i)⟩
instance {K : KK} {b : Bool} : SimE K (tC (.bl b)) (rC (.bool b)) := ⟨fun st h q => q.at st h (Dp.bl b)⟩
instance {K : KK} : SimE K (tC .non) (rC .none) := ⟨fun st h q => q.at st h Dp.non⟩
instance {K : KK} {x : Str} : SimE K (tC (.str x)) (rC (.str x)) := ⟨fun st h q => q.at st h (Dp.str x)⟩
/-! ### operators -/
def rOp (ρ : R2p) (ra rb : RE) : RE := fun env R => ra env fun a => rb env fun b => ρ a b R
instance {K : KK} {r : R2} {ρ : R2p} {ta tb : TE} {ra rb : RE} [m : Im2 K r ρ] [sa : SimE K ta ra] [sb : SimE K tb rb] : SimE K (tOp r ta tb) (rOp ρ ra rb) where
  run := fun st h q => sa.run st h fun x a G0 G ha xa da => sb.run (st.go xa) ha fun y b I0 I hb xb db =>
    m.run ((st.go xa).go xb) (da.go xb) (db.start xa.act) hb (q.after (xa.trans xb))
def rUn (ρ : Rs → (Rs → Prop) → Prop) (ra : RE) : RE := fun env R => ra env fun a => ρ a R
instance {K : KK} {r : V → Hp → VK → Prop} {ρ : Rs → (Rs → Prop) → Prop} {ta : TE} {ra : RE} [m : Im1 K r ρ] [sa : SimE K ta ra] : SimE K (tUn r ta) (rUn ρ ra) where
  run := fun st h q => sa.run st h fun x a G0 G ha xa da => m.run (st.go xa) da ha (q.after xa)
/-- two ints -/
def pI (C : Int → Int → Prop) (g : Int → Int → Dat) : R2p := fun a b R => ∃ i j, a.rd = .int i ∧ b.rd = .int j ∧ C i j ∧ R (.val (g i j))
def pI0 (g : Int → Int → Dat) : R2p := fun a b R => ∃ i j, a.rd = .int i ∧ b.rd = .int j ∧ R (.val (g i j))
instance {K : KK} {g : Int → Int → Int} : Im2 K (rI0 fun i j => .int (g i j)) (pI0 fun i j => .int (g i j)) where
  run := fun st da db ⟨i, j, ea, eb, h⟩ q => ⟨i, j, da.asInt st ea, db.asInt st eb, q.at st h (Dp.int _)⟩
instance {K : KK} {g : Int → Int → Bool} : Im2 K (rI0 fun i j => .bl (g i j)) (pI0 fun i j => .bool (g i j)) where
  run := fun st da db ⟨i, j, ea, eb, h⟩ q => ⟨i, j, da.asInt st ea, db.asInt st eb, q.at st h (Dp.bl _)⟩
instance {K : KK} {C : Int → Int → Prop} {g : Int → Int → Int} : Im2 K (rI C fun i j => .int (g i j)) (pI C fun i j => .int (g i j)) where
  run := fun st da db ⟨i, j, ea, eb, c, h⟩ q => ⟨i, j, da.asInt st ea, db.asInt st eb, c, q.at st h (Dp.int _)⟩
instance {K : KK} {g : Int → Int} : Im1 K (rU fun i => .int (g i)) (fun a R => ∃ i, a.rd = .int i ∧ R (.val (.int (g i)))) where
  run := fun st da ⟨i, ea, h⟩ q => ⟨i, da.asInt st ea, q.at st h (Dp.int _)⟩
/-! a + b: ints, tuples -/
def rAddA (K : KK) : R2 := fun x y H Q => rI0 (fun i j => .int (i + j)) x y H Q ∨ rCatA K.fr x y H Q
theorem op_addK {X : Cx} {K : KK} (h : X.K = K.fr) : OpR X (binaryOp .Add) (rAddA K) := by
  have q : OpR X (binaryOp .Add) (fun x y H Q => rI0 (fun i j => .int (i + j)) x y H Q ∨ rCatA X.K x y H Q) := op_add.or op_catA
  rw [h] at q
  exact q
def pAddA : R2p := fun a b R => match a.rd, b.rd with
  | .int i, .int j => R (.val (.int (i + j)))
  | .tuple ds, .tuple es => ds.length + es.length ≤ sizeLine ∧ R (.val (.tuple (ds ++ es)))
  | _, _ => False
instance {K : KK} : Im2 K (rAddA K) pAddA where
  run := by
    intro F B0 B Hs H0 H σ env x y a b Q R st da db h q
    unfold pAddA at h
    split at h
    · rename_i i j ea eb
      exact .inl ⟨i, j, da.asInt st ea, db.asInt st eb, q.at st h (Dp.int _)⟩
    · rename_i ds es ea eb
      obtain ⟨hz, h⟩ := h
      obtain ⟨p, vs, rfl, hp, dp, rfl, hp0⟩ := da.asTup st ea
      obtain ⟨p', vs', rfl, hp', dp', rfl, hp0'⟩ := db.asTup st eb
      refine .inr ⟨p, p', vs, vs', rfl, rfl, hp, hp', by rw [dp.pvLen, dp'.pvLen]; exact hz, fun e => ?_, fun e e' => ?_, fun e e' o ho => ?_⟩
      · have := dp.pvNil.mp e
        subst this
        exact q.at st h db
      · have := dp'.pvNil.mp e'
        subst this
        rw [List.append_nil] at h
        exact q.at st h da
      · have kn := Sub.upd (o := .tup (vs ++ vs')) (st.inn.none ho)
        exact q _ _ _ _ h (Ext.new st.inn ho) (show Dp K _ _ _ from .tup (.inl (.inl upd_same)) ((dpAll_mono kn _ _ dp).pvApp (dpAll_mono kn _ _ dp')))
    · exact h.elim
/-! comparison by == -/
theorem Den.flat {K : KK} {F B0 B Hs H0 H : Hp} {σ : St} {env : En} {v : V} {r : Rs} (st : StOk K F B0 B H0 H σ env) (h : Den K Hs H0 H σ env v r) : (r.rd = .none → v = .non) ∧ (∀ x, r.rd = .str x → v = .str x) := by
  cases r with
  | val d => exact ⟨(fun e => by cases e; cases h; rfl), (fun x e => by cases e; cases h; rfl)⟩
  | fr w => cases w <;> exact ⟨(fun e => by cases e), (fun x e => by cases e)⟩
  | pk i w => cases w <;> exact ⟨(fun e => by cases e), (fun x e => by cases e)⟩
theorem lay_shaped {d : Dat} (h : SeqAt.shaped d = true) : d.canLay0 = true := by
  have : (d.canLay0 && decide (d.depth ≤ 64)) = true := h
  rw [Bool.and_eq_true] at this
  exact this.1
def rEqA (K : KK) : R2 := fun x y H Q => rEq x y H Q ∨ rEqD K.fr x y H Q
def rNeA (K : KK) : R2 := fun x y H Q => rNe x y H Q ∨ rNeD K.fr x y H Q
theorem op_eqK {X : Cx} {K : KK} (h : X.K = K.fr) (hu : X.A.units + 64 < cLine) : OpR X (compareOp .Eq) (rEqA K) := by
  have q : OpR X (compareOp .Eq) (fun x y H Q => rEq x y H Q ∨ rEqD X.K x y H Q) := op_eq.or (op_eqD hu)
  rw [h] at q
  exact q
theorem op_neK {X : Cx} {K : KK} (h : X.K = K.fr) (hu : X.A.units + 64 < cLine) : OpR X (compareOp .NotEq) (rNeA K) := by
  have q : OpR X (compareOp .NotEq) (fun x y H Q => rNe x y H Q ∨ rNeD X.K x y H Q) := op_ne.or (op_neD hu)
  rw [h] at q
  exact q
/-- what == gives -/
def pEqB (f : Bool → Bool) : R2p := fun a b R => match a.rd, b.rd with
  | .int i, .int j => R (.val (.bool (f (decide (i = j)))))
  | .str x, .str y => R (.val (.bool (f (decide (x = y)))))
  | .bool x, .bool y => R (.val (.bool (f (decide (x = y)))))
  | d, e => SeqAt.shaped d = true ∧ SeqAt.shaped e = true ∧ R (.val (.bool (f (PyData.eqv d e))))
instance {K : KK} : Im2 K (rEqA K) (pEqB id) where
  run := by
    intro F B0 B Hs H0 H σ env x y a b Q R st da db h q
    unfold pEqB at h
    split at h
    · rename_i i j ea eb
      have e1 := da.asInt st ea
      have e2 := db.asInt st eb
      subst e1 e2
      exact .inl ⟨rfl, by rw [show decide (V.int i = V.int j) = decide (i = j) by simp]; exact q.at st h (Dp.bl _)⟩
    · rename_i i j ea eb
      have e1 := (da.flat st).2 _ ea
      have e2 := (db.flat st).2 _ eb
      subst e1 e2
      exact .inl ⟨rfl, by rw [show decide (V.str i = V.str j) = decide (i = j) by simp]; exact q.at st h (Dp.bl _)⟩
    · rename_i i j ea eb
      have e1 := da.asBool st ea
      have e2 := db.asBool st eb
      subst e1 e2
      exact .inl ⟨rfl, by rw [show decide (V.bl i = V.bl j) = decide (i = j) by simp]; exact q.at st h (Dp.bl _)⟩
    · obtain ⟨s1, s2, h⟩ := h
      obtain ⟨G, g1, g2, g3⟩ := da.read st
      obtain ⟨G', g1', g2', g3'⟩ := db.read st
      exact .inr ⟨_, _, dp_low _ _ (lay_shaped s1) (dp_mono g2 _ _ g3), dp_low _ _ (lay_shaped s2) (dp_mono g2' _ _ g3'), s1, s2, q.at st h (Dp.bl _)⟩
instance {K : KK} : Im2 K (rNeA K) (pEqB not) where
  run := by
    intro F B0 B Hs H0 H σ env x y a b Q R st da db h q
    unfold pEqB at h
    split at h
    · rename_i i j ea eb
      have e1 := da.asInt st ea
      have e2 := db.asInt st eb
      subst e1 e2
      exact .inl ⟨rfl, by rw [show decide (V.int i = V.int j) = decide (i = j) by simp]; exact q.at st h (Dp.bl _)⟩
    · rename_i i j ea eb
      have e1 := (da.flat st).2 _ ea
      have e2 := (db.flat st).2 _ eb
      subst e1 e2
      exact .inl ⟨rfl, by rw [show decide (V.str i = V.str j) = decide (i = j) by simp]; exact q.at st h (Dp.bl _)⟩
    · rename_i i j ea eb
      have e1 := da.asBool st ea
      have e2 := db.asBool st eb
      subst e1 e2
      exact .inl ⟨rfl, by rw [show decide (V.bl i = V.bl j) = decide (i = j) by simp]; exact q.at st h (Dp.bl _)⟩
    · obtain ⟨s1, s2, h⟩ := h
      obtain ⟨G, g1, g2, g3⟩ := da.read st
      obtain ⟨G', g1', g2', g3'⟩ := db.read st
      exact .inr ⟨_, _, dp_low _ _ (lay_shaped s1) (dp_mono g2 _ _ g3), dp_low _ _ (lay_shaped s2) (dp_mono g2' _ _ g3'), s1, s2, q.at st h (Dp.bl _)⟩
/-! is None -/
theorem Den.isNone {K : KK} {F B0 B Hs H0 H : Hp} {σ : St} {env : En} {v : V} {r : Rs} (st : StOk K F B0 B H0 H σ env) (h : Den K Hs H0 H σ env v r) : decide (v = .non) = (match r.rd with | .none => true | _ => false) := by
  cases r with
  | val d => cases h <;> simp [Rs.rd]
  | fr w =>
    obtain ⟨o, ho, rfl, _⟩ := h
    cases w <;> simp [Rs.rd, Ow.dat]
  | pk i w =>
    obtain ⟨e1, e2⟩ := h
    obtain ⟨o, ho, h1, _⟩ := st.own i w e1
    rw [e2] at h1; cases h1
    cases w <;> simp [Rs.rd, Ow.dat]
def isNone : Dat → Bool
  | .none => true
  | _ => false
def rIsN (f : Bool → Bool) (ra : RE) : RE := fun env R => ra env fun a => R (.val (.bool (f (isNone a.rd))))
instance {K : KK} {ta : TE} {ra : RE} [sa : SimE K ta ra] : SimE K (tIsN ta) (rIsN id ra) where
  run := fun st h q => sa.run st h fun x a G0 G ha xa da => by
    show _
    rw [da.isNone (st.go xa)]
    exact (q.after xa).at (st.go xa) ha (Dp.bl _)
instance {K : KK} {ta : TE} {ra : RE} [sa : SimE K ta ra] : SimE K (tNotN ta) (rIsN not ra) where
  run := fun st h q => sa.run st h fun x a G0 G ha xa da => by
    show _
    rw [da.isNone (st.go xa)]
    exact (q.after xa).at (st.go xa) ha (Dp.bl _)
/-! ### tests -/
def rTest (ra : RE) : RT := fun env R => ra env fun a => ∃ k, a.rd = .bool k ∧ R k
instance {K : KK} {ta : TE} {ra : RE} [sa : SimE K ta ra] : SimT K (tTest ta) (rTest ra) where
  run := fun st h q => sa.run st h fun x a G0 G ⟨k, e, ha⟩ xa da => ⟨k, da.asBool (st.go xa) e, q k _ _ ha xa⟩
instance {K : KK} {ta : TE} {ra : RE} [sa : SimE K ta ra] : SimT K (tB ta) (rTest ra) where
  run := fun st h q => sa.run st h fun x a G0 G ⟨k, e, ha⟩ xa da => ⟨k, da.asBool (st.go xa) e, q k _ _ ha xa⟩
def rAnd (ra rb : RT) : RT := fun env R => ra env fun a => if a = true then rb env R else R false
def rOr (ra rb : RT) : RT := fun env R => ra env fun a => if a = true then R true else rb env R
def rNot (ra : RT) : RT := fun env R => ra env fun a => R (!a)
instance {K : KK} {ta tb : TT} {ra rb : RT} [sa : SimT K ta ra] [sb : SimT K tb rb] : SimT K (tAnd ta tb) (rAnd ra rb) where
  run := fun st h q => sa.run st h fun b G0 G hb xb => by
    cases b with
    | true => exact sb.run (st.go xb) hb fun c I0 I hc xc => q c _ _ hc (xb.trans xc)
    | false => exact q false _ _ hb xb
instance {K : KK} {ta tb : TT} {ra rb : RT} [sa : SimT K ta ra] [sb : SimT K tb rb] : SimT K (tOr ta tb) (rOr ra rb) where
  run := fun st h q => sa.run st h fun b G0 G hb xb => by
    cases b with
    | false => exact sb.run (st.go xb) hb fun c I0 I hc xc => q c _ _ hc (xb.trans xc)
    | true => exact q true _ _ hb xb
instance {K : KK} {ta : TT} {ra : RT} [sa : SimT K ta ra] : SimT K (tNot ta) (rNot ra) where
  run := fun st h q => sa.run st h fun b G0 G hb xb => q _ _ _ hb xb
def rAndV (ra rb : RE) : RE := fun env R => ra env fun a => ∃ c, a.rd = .bool c ∧ if c = true then rb env R else R (.val (.bool false))
def rOrV (ra rb : RE) : RE := fun env R => ra env fun a => ∃ c, a.rd = .bool c ∧ if c = true then R (.val (.bool true)) else rb env R
def rNotV (ra : RE) : RE := fun env R => ra env fun a => ∃ c, a.rd = .bool c ∧ R (.val (.bool (!c)))
instance {K : KK} {ta tb : TE} {ra rb : RE} [sa : SimE K ta ra] [sb : SimE K tb rb] : SimE K (tAndV ta tb) (rAndV ra rb) where
  run := fun st h q => sa.run st h fun x a G0 G ⟨c, e, hc⟩ xa da => ⟨c, da.asBool (st.go xa) e, by
    cases c with
    | true => exact sb.run (st.go xa) hc (q.after xa)
    | false => exact (q.after xa).at (st.go xa) hc (Dp.bl _)⟩
instance {K : KK} {ta tb : TE} {ra rb : RE} [sa : SimE K ta ra] [sb : SimE K tb rb] : SimE K (tOrV ta tb) (rOrV ra rb) where
  run := fun st h q => sa.run st h fun x a G0 G ⟨c, e, hc⟩ xa da => ⟨c, da.asBool (st.go xa) e, by
    cases c with
    | false => exact sb.run (st.go xa) hc (q.after xa)
    | true => exact (q.after xa).at (st.go xa) hc (Dp.bl _)⟩
instance {K : KK} {ta : TE} {ra : RE} [sa : SimE K ta ra] : SimE K (tNotV ta) (rNotV ra) where
  run := fun st h q => sa.run st h fun x a G0 G ⟨c, e, hc⟩ xa da => ⟨c, da.asBool (st.go xa) e, (q.after xa).at (st.go xa) hc (Dp.bl _)⟩
def rIf (rt : RT) (ra rb : RE) : RE := fun env R => rt env fun c => if c = true then ra env R else rb env R
instance {K : KK} {tt : TT} {ta tb : TE} {rt : RT} {ra rb : RE} [s0 : SimT K tt rt] [sa : SimE K ta ra] [sb : SimE K tb rb] : SimE K (tIf tt ta tb) (rIf rt ra rb) where
  run := fun st h q => s0.run st h fun c G0 G hc xc => by
    cases c with
    | true => exact sa.run (st.go xc) hc (q.after xc)
    | false => exact sb.run (st.go xc) hc (q.after xc)
/-! ### argument lists, displays -/
def rNil : RA := fun _ R => R []
def rCons (ra : RE) (rr : RA) : RA := fun env R => ra env fun a => rr env fun as => R (a :: as)
theorem DenAll.start {K : KK} {Ht Hs H0 H : Hp} {σ : St} {env : En} (x : Grow K Ht Hs) : ∀ {vs : List V} {rs : List Rs}, DenAll K Hs H0 H σ env vs rs → DenAll K Ht H0 H σ env vs rs
  | _, _, .nil => .nil
  | _, _, .cons h t => .cons (h.start x) (DenAll.start x t)
theorem DenAll.at {K : KK} {Hs H0 H : Hp} {σ : St} {env : En} : ∀ {vs : List V} {rs : List Rs} {i : Nat} {v : V} {r : Rs}, DenAll K Hs H0 H σ env vs rs → vs[i]? = some v → rs[i]? = some r → Den K Hs H0 H σ env v r
  | _, _, i, _, _, .nil, h, _ => by simp at h
  | _, _, 0, _, _, .cons d t, h, h' => by simp at h h'; subst h h'; exact d
  | _, _, i + 1, _, _, .cons d t, h, h' => DenAll.at (i := i) t (by simpa using h) (by simpa using h')
theorem Apart.cons {K : KK} {Hs G0 G I0 I : Hp} {σ : St} {env : En} {v : V} {r : Rs} {vs : List V} {rs : List Rs} (d : Den K Hs G0 G σ env v r) (t : DenAll K G I0 I σ env vs rs) (a : Apart vs rs) : Apart (v :: vs) (r :: rs) := by
  have no : ∀ (i : Nat) (u : V) (w w' : Ow), r = .fr w → vs[i]? = some u → rs[i]? = some (.fr w') → u ≠ v := fun i u w w' er e1 e2 z => by
    subst er z
    obtain ⟨o, ho, ev, h1, h2, h3, h4⟩ := d
    subst ev
    obtain ⟨o', ho', ev', k1, _⟩ := t.at e1 e2
    cases ev'
    rw [h3] at k1
    cases k1
  intro i j u w w' h1 h2 h3 h4
  match i, j with
  | 0, 0 => rfl
  | 0, j + 1 =>
    simp at h1 h3
    exact absurd h1.symm (no j u w w' h3 (by simpa using h2) (by simpa using h4))
  | i + 1, 0 =>
    simp at h2 h4
    exact absurd h2.symm (no i u w' w h4 (by simpa using h1) (by simpa using h3))
  | i + 1, j + 1 => exact congrArg (· + 1) (a i j u w w' (by simpa using h1) (by simpa using h2) (by simpa using h3) (by simpa using h4))
instance {K : KK} : SimA K tNil rNil := ⟨fun st h q => q [] [] _ _ h (Ext.refl st.inn) .nil (fun i j v w w' e => by simp at e)⟩
instance {K : KK} {ta : TE} {tr : TA} {ra : RE} {rr : RA} [sa : SimE K ta ra] [sr : SimA K tr rr] : SimA K (tCons ta tr) (rCons ra rr) where
  run := fun st h q => sa.run st h fun x a G0 G ha xa da => sr.run (st.go xa) ha fun xs as I0 I has xs' das aps =>
    q _ _ _ _ has (xa.trans xs') (.cons (da.go xs') (das.start xa.act)) (Apart.cons da das aps)
def rTup (ra : RA) : RE := fun env R => ra env fun as => ∃ ds, toDs as = some ds ∧ ds.length ≤ sizeLine ∧ R (.val (.tuple ds))
def rLst (ra : RA) : RE := fun env R => ra env fun as => ∃ ds, toDs as = some ds ∧ ds.length ≤ sizeLine ∧ R (.fresh ds)
instance {K : KK} {ta : TA} {ra : RA} [sa : SimA K ta ra] : SimE K (tTup ta) (rTup ra) where
  run := fun st h q => sa.run st h fun vs as G0 G ⟨ds, e, hz, ha⟩ xa da ap => by
    obtain ⟨I0, xI, s1, p⟩ := da.keep xa e
    refine ⟨by rw [p.pvLen]; exact hz, fun o ho => ?_⟩
    have kn := Sub.upd (o := .tup vs) (xI.inn.none ho)
    exact q _ _ _ _ ha (xI.trans (Ext.new xI.inn ho)) (show Dp K _ _ _ from .tup (.inl (.inl upd_same)) (dpAll_mono kn _ _ p))
instance {K : KK} {ta : TA} {ra : RA} [sa : SimA K ta ra] : SimE K (tLst ta) (rLst ra) where
  run := fun st h q => sa.run st h fun vs as G0 G ⟨ds, e, hz, ha⟩ xa da ap => by
    obtain ⟨I0, xI, s1, p⟩ := da.keep xa e
    refine ⟨by rw [p.pvLen]; exact hz, fun o ho => ?_⟩
    exact q _ _ _ _ ha (xI.trans (Ext.hid xI.inn ho)) ⟨o, _, rfl, xa.act.none ho, xI.inn.none ho, upd_same, vs, rfl, p⟩
/-! ### subscripts, slices -/
def atD (d : Dat) (i : Int) : Option Dat := match d with
  | .list ds => atI ds i
  | .tuple ds => atI ds i
  | _ => none
def pIx : R2p := fun a b R => ∃ i d, b.rd = .int i ∧ atD a.rd i = some d ∧ R (.val d)
theorem atI_dp {K : KK} {H : Hp} {vs : List V} {ds : List Dat} {i : Int} {d : Dat} (h : DpAll K H vs ds) (e : atI ds i = some d) : ∃ v, atI vs i = some v ∧ Dp K H v d := by
  unfold atI at e ⊢
  rw [h.pvLen]
  cases q : ixN ds.length i with
  | none => rw [q] at e; cases e
  | some j =>
    rw [q] at e
    exact h.pvGet e
instance {K : KK} : Im2 K (rIx K.fr) pIx where
  run := by
    intro F B0 B Hs H0 H σ env x y a b Q R st da db ⟨i, d, eb, ea, h⟩ q
    have e2 := db.asInt st eb
    cases hd : a.rd with
    | list ds =>
      rw [hd] at ea
      obtain ⟨p, vs, rfl, hp, dp⟩ := da.asList st hd
      obtain ⟨v, e3, dv⟩ := atI_dp dp ea
      exact .inl ⟨p, vs, i, v, rfl, e2, hp, e3, q.at st h dv⟩
    | tuple ds =>
      rw [hd] at ea
      obtain ⟨p, vs, rfl, hp, dp, _, _⟩ := da.asTup st hd
      obtain ⟨v, e3, dv⟩ := atI_dp dp ea
      exact .inr (.inl ⟨p, vs, i, v, rfl, e2, hp, e3, q.at st h dv⟩)
    | _ => rw [hd] at ea; cases ea
def rNoPart : RP := fun _ R => R none
def rPart (ra : RE) : RP := fun env R => ra env fun a => ∃ i, a.rd = .int i ∧ R (some i)
instance {K : KK} : SimO K tNoPart rNoPart := ⟨fun st h q => q none _ _ h (Ext.refl st.inn)⟩
instance {K : KK} {ta : TE} {ra : RE} [sa : SimE K ta ra] : SimO K (tPart ta) (rPart ra) where
  run := fun st h q => sa.run st h fun x a G0 G ⟨i, e, ha⟩ xa da => ⟨i, da.asInt (st.go xa) e, q _ _ _ ha xa⟩
def rSlB (K : KK) : V → Option Int → Option Int → Hp → VK → Prop := fun x lo hi H Q => rSlL K.fr x lo hi H Q ∨ rSlA K.fr x lo hi H Q
theorem sl_anyK {X : Cx} {K : KK} (h : X.K = K.fr) : SlR X (rSlB K) := by
  have q : SlR X (fun x lo hi H Q => rSlL X.K x lo hi H Q ∨ rSlA X.K x lo hi H Q) := sl_list.or sl_tupA
  rw [h] at q
  exact q
def cutD (xs : List Dat) (lo hi : Option Int) : List Dat := (xs.drop (HT.sIx xs.length 0 lo)).take (HT.sIx xs.length xs.length hi - HT.sIx xs.length 0 lo)
theorem cut_dp {K : KK} {H : Hp} {vs : List V} {ds : List Dat} (lo hi : Option Int) (h : DpAll K H vs ds) : DpAll K H (cutV vs lo hi) (cutD ds lo hi) := by
  unfold cutV cutD
  rw [h.pvLen]
  exact (h.pvDrop _).pvTake _
def rSl (ra : RE) (rl rh : RP) : RE := fun env R => ra env fun a => rl env fun lo => rh env fun hi => match a.rd with
  | .list ds => R (.fresh (cutD ds lo hi))
  | .tuple ds => R (.val (.tuple (cutD ds lo hi)))
  | _ => False
instance {K : KK} {ta : TE} {tl th : TO} {ra : RE} {rl rh : RP} [sa : SimE K ta ra] [sl : SimO K tl rl] [sh : SimO K th rh] : SimE K (tSl (rSlB K) ta tl th) (rSl ra rl rh) where
  run := by
    intro F B0 B H0 H σ env Q R st h q
    refine sa.run st h fun x a G0 G ha xa da => sl.run (st.go xa) ha fun lo L0 L hl xl => sh.run ((st.go xa).go xl) hl fun hi M0 M hh xh => ?_
    have xt := (xa.trans xl).trans xh
    have st2 := st.go xt
    have da2 := (da.go xl).go xh
    cases hd : a.rd with
    | list ds =>
      rw [hd] at hh
      obtain ⟨p, vs, rfl, hp, dp⟩ := da2.asList st2 hd
      refine .inl ⟨p, vs, rfl, hp, fun o ho => ?_⟩
      exact (q.after xt) _ _ _ _ hh (Ext.hid st2.inn ho) ⟨o, _, rfl, ho, st2.inn.none ho, upd_same, _, rfl, cut_dp lo hi dp⟩
    | tuple ds =>
      rw [hd] at hh
      obtain ⟨p, vs, rfl, hp, dp, _, hp0⟩ := da2.asTup st2 hd
      refine .inr ⟨p, vs, rfl, hp, fun e => ?_, fun _ o ho => ?_⟩
      · refine (q.after xt).at st2 hh (show Dp K _ _ _ from .tup hp0 ?_)
        have e2 : cutD ds lo hi = ds := by
          have hl := dp.pvLen
          unfold cutD
          rw [← hl, e.1, e.2, List.drop_zero, Nat.sub_zero, List.take_of_length_le (by omega)]
        rw [e2]
        exact dp
      · have kn := Sub.upd (o := .tup (cutV vs lo hi)) (st2.inn.none ho)
        exact (q.after xt) _ _ _ _ hh (Ext.new st2.inn ho) (show Dp K _ _ _ from .tup (.inl (.inl upd_same)) (dpAll_mono kn _ _ (cut_dp lo hi dp)))
    | _ => rw [hd] at hh; exact hh.elim
/-! ### built-in calls -/
def rCB (ρ : List Rs → (Rs → Prop) → Prop) (ra : RA) : RE := fun env R => ra env fun as => ρ as R
instance {K : KK} {r : List V → Hp → VK → Prop} {ρ : List Rs → (Rs → Prop) → Prop} {ta : TA} {ra : RA} [m : ImL K r ρ] [sa : SimA K ta ra] : SimE K (tCB r ta) (rCB ρ ra) where
  run := fun st h q => sa.run st h fun xs as G0 G ha xa da ap => m.run (st.go xa) da ha (q.after xa)
def lenD : Dat → Option Nat
  | .list ds => some ds.length
  | .tuple ds => some ds.length
  | _ => none
theorem DenAll.one {K : KK} {Hs H0 H : Hp} {σ : St} {env : En} {vs : List V} {a : Rs} (h : DenAll K Hs H0 H σ env vs [a]) : ∃ v, vs = [v] ∧ Den K Hs H0 H σ env v a := by
  cases h with
  | cons h t => cases t; exact ⟨_, rfl, h⟩
theorem DenAll.two {K : KK} {Hs H0 H : Hp} {σ : St} {env : En} {vs : List V} {a b : Rs} (h : DenAll K Hs H0 H σ env vs [a, b]) : ∃ v w, vs = [v, w] ∧ Den K Hs H0 H σ env v a ∧ Den K Hs H0 H σ env w b := by
  cases h with
  | cons h t =>
    obtain ⟨w, rfl, hw⟩ := t.one
    exact ⟨_, _, rfl, h, hw⟩
def rLen (K : KK) : List V → Hp → VK → Prop := fun xs H Q => ∃ p ys, xs = [.ref p] ∧ (SqL K H p ys ∨ SqT K H p ys) ∧ Q (.int ys.length) H
theorem call_lenK {X : Cx} {K : KK} (h : X.K = K.fr) : CallR X (.builtin "len") (rLen K) := by
  have q : CallR X (.builtin "len") (fun xs H Q => ∃ p ys, xs = [.ref p] ∧ (L2.SqL X.K H p ys ∨ L2.SqT X.K H p ys) ∧ Q (.int ys.length) H) := call_len_seq
  rw [h] at q
  exact q
instance {K : KK} : ImL K (rLen K) (fun as R => ∃ a n, as = [a] ∧ lenD a.rd = some n ∧ R (.val (.int n))) where
  run := by
    intro F B0 B Hs H0 H σ env xs as Q R st da ⟨a, n, e, hn, h⟩ q
    subst e
    obtain ⟨v, rfl, dv⟩ := da.one
    cases hd : a.rd with
    | list ds =>
      rw [hd] at hn
      obtain ⟨p, vs, rfl, hp, dp⟩ := dv.asList st hd
      cases hn
      exact ⟨p, vs, rfl, .inl hp, q.at st h (by rw [dp.pvLen]; exact Dp.int _)⟩
    | tuple ds =>
      rw [hd] at hn
      obtain ⟨p, vs, rfl, hp, dp, _, _⟩ := dv.asTup st hd
      cases hn
      exact ⟨p, vs, rfl, .inr hp, q.at st h (by rw [dp.pvLen]; exact Dp.int _)⟩
    | _ => rw [hd] at hn; cases hn
def rMax2 : List V → Hp → VK → Prop := fun xs H Q => ∃ i j, xs = [.int i, .int j] ∧ Q (.int (if j > i then j else i)) H
def rMin2 : List V → Hp → VK → Prop := fun xs H Q => ∃ i j, xs = [.int i, .int j] ∧ Q (.int (if j < i then j else i)) H
theorem call_max2A {X : Cx} (hc : X.calm = true) : CallR X (.builtin "max") rMax2 := call_max2 hc
theorem call_min2A {X : Cx} (hc : X.calm = true) : CallR X (.builtin "min") rMin2 := call_min2 hc
instance {K : KK} : ImL K rMax2 (fun as R => ∃ a b i j, as = [a, b] ∧ a.rd = .int i ∧ b.rd = .int j ∧ R (.val (.int (max i j)))) where
  run := by
    intro F B0 B Hs H0 H σ env xs as Q R st da ⟨a, b, i, j, e, ea, eb, h⟩ q
    subst e
    obtain ⟨v, w, rfl, dv, dw⟩ := da.two
    have e1 := dv.asInt st ea
    have e2 := dw.asInt st eb
    subst e1 e2
    refine ⟨i, j, rfl, ?_⟩
    rw [show (if j > i then j else i) = max i j by split <;> omega]
    exact q.at st h (Dp.int _)
instance {K : KK} : ImL K rMin2 (fun as R => ∃ a b i j, as = [a, b] ∧ a.rd = .int i ∧ b.rd = .int j ∧ R (.val (.int (min i j)))) where
  run := by
    intro F B0 B Hs H0 H σ env xs as Q R st da ⟨a, b, i, j, e, ea, eb, h⟩ q
    subst e
    obtain ⟨v, w, rfl, dv, dw⟩ := da.two
    have e1 := dv.asInt st ea
    have e2 := dw.asInt st eb
    subst e1 e2
    refine ⟨i, j, rfl, ?_⟩
    rw [show (if j < i then j else i) = min i j by split <;> omega]
    exact q.at st h (Dp.int _)
def rInt1 : List V → Hp → VK → Prop := fun xs H Q => (∃ i, xs = [.int i] ∧ Q (.int i) H) ∨ ∃ k, xs = [.bl k] ∧ Q (.int (if k then 1 else 0)) H
theorem call_int1A {X : Cx} : CallR X (.type "int") rInt1 := call_int1
instance {K : KK} : ImL K rInt1 (fun as R => ∃ a, as = [a] ∧ match a.rd with | .int i => R (.val (.int i)) | .bool k => R (.val (.int (if k then 1 else 0))) | _ => False) where
  run := by
    intro F B0 B Hs H0 H σ env xs as Q R st da ⟨a, e, h⟩ q
    subst e
    obtain ⟨v, rfl, dv⟩ := da.one
    cases hd : a.rd with
    | int i =>
      rw [hd] at h
      have e1 := dv.asInt st hd
      subst e1
      exact .inl ⟨i, rfl, q.at st h (Dp.int _)⟩
    | bool k =>
      rw [hd] at h
      have e1 := dv.asBool st hd
      subst e1
      exact .inr ⟨k, rfl, q.at st h (Dp.int _)⟩
    | _ => rw [hd] at h; exact h.elim
def itemsD : Dat → Option (List Dat)
  | .list ds => some ds
  | .tuple ds => some ds
  | _ => none
def rListOf (K : KK) : List V → Hp → VK → Prop := fun xs H Q => ∃ p ys, xs = [.ref p] ∧ (SqL K H p ys ∨ SqT K H p ys) ∧ ∀ l, H l = none → Q (.ref l) (upd H l (.lst ys))
theorem call_listK {X : Cx} {K : KK} (h : X.K = K.fr) : CallR X (.type "list") (rListOf K) := by
  have q : CallR X (.type "list") (fun xs H Q => ∃ p ys, xs = [.ref p] ∧ (L2.SqL X.K H p ys ∨ L2.SqT X.K H p ys) ∧ ∀ l, H l = none → Q (.ref l) (upd H l (.lst ys))) := call_list_of
  rw [h] at q
  exact q
instance {K : KK} : ImL K (rListOf K) (fun as R => ∃ a ds, as = [a] ∧ itemsD a.rd = some ds ∧ R (.fresh ds)) where
  run := by
    intro F B0 B Hs H0 H σ env xs as Q R st da ⟨a, ds, e, hn, h⟩ q
    subst e
    obtain ⟨v, rfl, dv⟩ := da.one
    have fin : ∀ vs, DpAll K H0 vs ds → ∀ l, H l = none → Q (.ref l) (upd H l (.lst vs)) := fun vs dp l hl =>
      q _ _ _ _ h (Ext.hid st.inn hl) ⟨l, _, rfl, hl, st.inn.none hl, upd_same, vs, rfl, dp⟩
    cases hd : a.rd with
    | list es =>
      rw [hd] at hn
      obtain ⟨p, vs, rfl, hp, dp⟩ := dv.asList st hd
      cases hn
      exact ⟨p, vs, rfl, .inl hp, fin vs dp⟩
    | tuple es =>
      rw [hd] at hn
      obtain ⟨p, vs, rfl, hp, dp, _, _⟩ := dv.asTup st hd
      cases hn
      exact ⟨p, vs, rfl, .inr hp, fin vs dp⟩
    | _ => rw [hd] at hn; cases hn
def rTupleOf (K : KK) : List V → Hp → VK → Prop := fun xs H Q => ∃ p ys, xs = [.ref p] ∧ ((SqL K H p ys ∧ ∀ l, H l = none → Q (.ref l) (upd H l (.tup ys))) ∨ (SqT K H p ys ∧ Q (.ref p) H))
theorem call_tupleK {X : Cx} {K : KK} (h : X.K = K.fr) : CallR X (.type "tuple") (rTupleOf K) := by
  have q : CallR X (.type "tuple") (fun xs H Q => ∃ p ys, xs = [.ref p] ∧ ((L2.SqL X.K H p ys ∧ ∀ l, H l = none → Q (.ref l) (upd H l (.tup ys))) ∨ (L2.SqT X.K H p ys ∧ Q (.ref p) H))) := call_tuple_of
  rw [h] at q
  exact q
instance {K : KK} : ImL K (rTupleOf K) (fun as R => ∃ a ds, as = [a] ∧ itemsD a.rd = some ds ∧ R (.val (.tuple ds))) where
  run := by
    intro F B0 B Hs H0 H σ env xs as Q R st da ⟨a, ds, e, hn, h⟩ q
    subst e
    obtain ⟨v, rfl, dv⟩ := da.one
    cases hd : a.rd with
    | list es =>
      rw [hd] at hn
      obtain ⟨p, vs, rfl, hp, dp⟩ := dv.asList st hd
      cases hn
      refine ⟨p, vs, rfl, .inl ⟨hp, fun l hl => ?_⟩⟩
      have kn := Sub.upd (o := .tup vs) (st.inn.none hl)
      exact q _ _ _ _ h (Ext.new st.inn hl) (show Dp K _ _ _ from .tup (.inl (.inl upd_same)) (dpAll_mono kn _ _ dp))
    | tuple es =>
      rw [hd] at hn
      obtain ⟨p, vs, rfl, hp, dp, _, hp0⟩ := dv.asTup st hd
      cases hn
      exact ⟨p, vs, rfl, .inr ⟨hp, q.at st h (show Dp K _ _ _ from .tup hp0 dp)⟩⟩
    | _ => rw [hd] at hn; cases hn
/-! ### calls of the program's own defs -/
/-- a def's promise on data -/
def spD (K : KK) (f : List Dat → (Dat → Prop) → Prop) : Sp := fun vs H Q _ => ∃ H0 ds, Sub H0 H ∧ (∀ P ∈ K.tabs, TabK K H0 H P) ∧ DpAll K H0 vs ds ∧ f ds fun d => ∀ v H0' H', Ext K H0 H H0' H' → Dp K H0' v d → Q v H'
def rCall (f : List Dat → (Dat → Prop) → Prop) (ra : RA) : RE := fun env R => ra env fun as => ∃ ds, toDs as = some ds ∧ f ds fun d => R (.val d)
class FMono (f : List Dat → (Dat → Prop) → Prop) : Prop where
  mono : ∀ {ds : List Dat} {R R' : Dat → Prop}, (∀ d, R d → R' d) → f ds R → f ds R'
instance {K : KK} {f : List Dat → (Dat → Prop) → Prop} {E : XK} {ta : TA} {ra : RA} [m : FMono f] [sa : SimA K ta ra] : SimE K (tCall (spD K f) [] E ta) (rCall f ra) where
  run := fun st h q => sa.run st h fun vs as G0 G ⟨ds, e, ha⟩ xa da ap => by
    obtain ⟨I0, xI, s1, p⟩ := da.keep xa e
    rw [List.append_nil]
    exact ⟨I0, ds, xI.inn, (st.go xI).tab, p, m.mono (fun d hd v I0' I' x dv => q v (.val d) I0' I' hd (xI.trans x) dv) ha⟩
end PV

/-! PvStmt: statements, targets, loops, comprehensions, defs on data. -/
namespace PV
open PySem PySem.Spec PyProof.Rows L2 NdefX LamX -- pv
/-! ### targets -/
class SimG (K : KK) (g : TG) (ρ : outParam RG) (ws : outParam (List Nat)) : Prop where
  run : ∀ {F B0 B H0 H : Hp} {σ : St} {env : En} {v : V} {d : Dat} {Q : St → Hp → Prop} {R : En → Prop}, StOk K F B0 B H0 H σ env → Dp K H0 v d → ρ d env R →
    (∀ σ' env', R env' → StOk K F B0 B H0 H σ' env' → σ'.length = σ.length → (∀ j, j ∉ ws → σ'[j]? = σ[j]?) → Q σ' H) → g v σ H Q
class SimGs (K : KK) (g : TGs) (ρ : outParam RGs) (ws : outParam (List Nat)) : Prop where
  run : ∀ {F B0 B H0 H : Hp} {σ : St} {env : En} {vs : List V} {ds : List Dat} {Q : St → Hp → Prop} {R : En → Prop}, StOk K F B0 B H0 H σ env → DpAll K H0 vs ds → ρ ds env R →
    (∀ σ' env', R env' → StOk K F B0 B H0 H σ' env' → σ'.length = σ.length → (∀ j, j ∉ ws → σ'[j]? = σ[j]?) → Q σ' H) → g vs σ H Q
def rgName (i : Nat) : RG := fun d env R => R (env.set i (.val d))
instance {K : KK} {i : Nat} : SimG K (gName i) (rgName i) [i] where
  run := fun st hd h q => q _ _ h (st.setV i hd) (List.length_set ..) fun j hj => List.getElem?_set_ne fun z => hj (by rw [z]; exact List.mem_singleton_self _)
def rgNil : RGs := fun ds env R => ds = [] ∧ R env
def rgCons (a : RG) (b : RGs) : RGs := fun ds env R => ∃ d r, ds = d :: r ∧ a d env fun env' => b r env' R
instance {K : KK} : SimGs K gNil rgNil [] where
  run := fun st hd h q => by
    obtain ⟨rfl, h⟩ := h
    cases hd
    exact ⟨rfl, q _ _ h st rfl fun _ _ => rfl⟩
instance {K : KK} {g : TG} {gs : TGs} {a : RG} {b : RGs} {ws ws' : List Nat} [sa : SimG K g a ws] [sb : SimGs K gs b ws'] : SimGs K (gCons g gs) (rgCons a b) (ws ++ ws') where
  run := fun st hd h q => by
    obtain ⟨d, r, rfl, h⟩ := h
    cases hd with
    | cons h1 h2 =>
      refine ⟨_, _, rfl, sa.run st h1 h fun σ1 e1 he1 st1 l1 k1 => sb.run st1 h2 he1 fun σ2 e2 he2 st2 l2 k2 => q _ _ he2 st2 (l2.trans l1) fun j hj => ?_⟩
      rw [List.mem_append, not_or] at hj
      exact (k2 j hj.2).trans (k1 j hj.1)
def rgTup (n : Nat) (b : RGs) : RG := fun d env R => ∃ ds, d = .tuple ds ∧ ds.length = n ∧ b ds env R
instance {K : KK} {n : Nat} {gs : TGs} {b : RGs} {ws : List Nat} [sb : SimGs K gs b ws] : SimG K (gTup K.fr n gs) (rgTup n b) ws where
  run := fun st hd h q => by
    obtain ⟨ds, rfl, hl, h⟩ := h
    cases hd with
    | tup h1 h2 => exact ⟨_, _, rfl, st.inn.sqT h1, h2.pvLen.trans hl, sb.run st h2 h q⟩
/-! ### statements -/
structure Ed where
  nx : En → Prop
  rt : Dat → Prop
  bk : En → Prop := fun _ => False
  ct : En → Prop := fun _ => False
  rf : Ow → Prop := fun _ => False
abbrev RS := Ed → En → Prop
/-- an object that is new since B, and not known -/
def NewW (K : KK) (B H0 H : Hp) (v : V) (w : Ow) : Prop := ∃ o ho, v = .ref o ∧ B o = none ∧ H0 o = none ∧ H o = some ho ∧ OwIs K H0 o ho w
structure Meets (K : KK) (F B0 B : Hp) (E : Ed) (D : Ends) : Prop where
  nx : ∀ {env σ H0 H}, E.nx env → StOk K F B0 B H0 H σ env → D.nx σ H
  bk : ∀ {env σ H0 H}, E.bk env → StOk K F B0 B H0 H σ env → D.bk σ H
  ct : ∀ {env σ H0 H}, E.ct env → StOk K F B0 B H0 H σ env → D.ct σ H
  rt : ∀ {d v H0 H}, E.rt d → Ext K B0 B H0 H → Dp K H0 v d → D.rt v H
  rf : ∀ {w v H0 H}, E.rf w → Ext K B0 B H0 H → NewW K B H0 H v w → D.rt v H
class SimS (K : KK) (t : TS) (r : outParam RS) : Prop where
  run : ∀ {F B0 B H0 H : Hp} {σ : St} {env : En} {D : Ends} {E : Ed}, StOk K F B0 B H0 H σ env → r E env → Meets K F B0 B E D → t D σ H
def rNext : RS := fun E env => E.nx env
def rSeq (a b : RS) : RS := fun E env => a { E with nx := b E } env
instance {K : KK} : SimS K tNext rNext := ⟨fun st h m => m.nx h st⟩
instance {K : KK} {t u : TS} {a b : RS} [sa : SimS K t a] [sb : SimS K u b] : SimS K (tSeq t u) (rSeq a b) where
  run := fun st h m => sa.run st h { nx := fun h' st' => sb.run st' h' m, bk := m.bk, ct := m.ct, rt := m.rt, rf := m.rf }
def rBreak : RS := fun E env => E.bk env
def rCont : RS := fun E env => E.ct env
instance {K : KK} : SimS K tBreak rBreak := ⟨fun st h m => m.bk h st⟩
instance {K : KK} : SimS K tCont rCont := ⟨fun st h m => m.ct h st⟩
/-- name = e: a datum, or an object that is new -/
def rSet (i : Nat) (ra : RE) : RS := fun E env => ra env fun s => match s with
  | .val d => E.nx (env.set i (.val d))
  | .fr w => E.nx (env.set i (.ow w))
  | .pk _ _ => False
theorem Den.notOwned {K : KK} {F B0 B H0s Hs : Hp} {σ : St} {env : En} {o : Addr} (st : StOk K F B0 B H0s Hs σ env) (h : Hs o = none) : ∀ (j : Nat) (w : Ow), env[j]? = some (Sl.ow w) → σ[j]? ≠ some (some (.ref o)) := fun j w e z => by
  obtain ⟨o', ho, h1, _, _, h4, _⟩ := st.own j w e
  rw [h1] at z
  cases z
  rw [h] at h4
  cases h4
theorem StOk.store {K : KK} {F B0 B H0 H G0 G : Hp} {σ : St} {env : En} {v : V} {s : Rs} (st : StOk K F B0 B H0 H σ env) (x : Ext K H0 H G0 G) (d : Den K H G0 G σ env v s) (i : Nat) :
    match s with
    | .val e => StOk K F B0 B G0 G (σ.set i (some v)) (env.set i (.val e))
    | .fr w => StOk K F B0 B G0 G (σ.set i (some v)) (env.set i (.ow w))
    | .pk _ _ => True := by
  cases s with
  | val e => exact (st.go x).setV i d
  | fr w =>
    obtain ⟨o, ho, rfl, h1, h2, h3, h4⟩ := d
    exact (st.go x).setW i (st.ext.act.none h1) h2 h3 h4 (Den.notOwned (H0s := H0) (Hs := H) st h1)
  | pk _ _ => trivial
instance {K : KK} {i : Nat} {te : TE} {ra : RE} [sa : SimE K te ra] : SimS K (tAsg te (gName i)) (rSet i ra) where
  run := fun st h m => sa.run st h fun v s G0 G hs x d => by
    have q := st.store x d i
    cases s with
    | val e => exact m.nx hs q
    | fr w => exact m.nx hs q
    | pk _ _ => exact hs.elim
/-- a, b = a tuple -/
def rAsgT (n : Nat) (b : RGs) (ra : RE) : RS := fun E env => ra env fun s => ∃ d, s.toD = some d ∧ rgTup n b d env E.nx
instance {K : KK} {n : Nat} {te : TE} {gs : TGs} {ra : RE} {b : RGs} {ws : List Nat} [sa : SimE K te ra] [sb : SimGs K gs b ws] : SimS K (tAsg te (gTup K.fr n gs)) (rAsgT n b ra) where
  run := fun st h m => sa.run st h fun v s G0 G ⟨d, e, hs⟩ x dn => by
    obtain ⟨I0, xI, s1, p, _⟩ := dn.keep x e
    exact (inferInstance : SimG K (gTup K.fr n gs) (rgTup n b) ws).run (st.go xI) p hs fun σ' env' he st' _ _ => m.nx he st'
/-- a, b = x, y -/
def putS (env : En) (i : Nat) : Rs → Option En
  | .val d => some (env.set i (.val d))
  | .fr w => some (env.set i (.ow w))
  | .pk _ _ => none
/-- what the value is a reference to, if it is new -/
theorem put_new {K : KK} {Hs H0 H : Hp} {σ : St} {env : En} {v : V} {s : Rs} {o : Addr} (d : Den K Hs H0 H σ env v s) (w : Ow) (e : s = .fr w) (z : v = .ref o) : Hs o = none ∧ H0 o = none := by
  subst e
  obtain ⟨o', ho, rfl, h1, h2, _⟩ := d
  cases z
  exact ⟨h1, h2⟩
theorem StOk.put {K : KK} {F B0 B Hs H0 H : Hp} {σ : St} {env env1 : En} {v : V} {s : Rs} {i : Nat} (st : StOk K F B0 B H0 H σ env) (hB : ∀ o, Hs o = none → B o = none) (d : Den K Hs H0 H σ env v s) (e : putS env i s = some env1)
    (hn : ∀ o, Hs o = none → v = .ref o → ∀ (j : Nat) (w : Ow), env[j]? = some (Sl.ow w) → σ[j]? ≠ some (some (.ref o))) : StOk K F B0 B H0 H (σ.set i (some v)) env1 := by
  cases s with
  | val e' => cases e; exact st.setV i d
  | fr w =>
    cases e
    obtain ⟨o, ho, rfl, h1, h2, h3, h4⟩ := d
    exact st.setW i (hB o h1) h2 h3 h4 (hn o h1 rfl)
  | pk _ _ => cases e
def oneFresh : Rs → Rs → Bool
  | .fr _, .fr _ => false
  | _, _ => true
/-- several values stored -/
def putMany : En → List Nat → List Rs → Option En
  | env, [], [] => some env
  | env, i :: is, r :: rs => match putS env i r with
    | some e => putMany e is rs
    | none => none
  | _, _, _ => none
def setMany : St → List Nat → List V → St
  | σ, i :: is, v :: vs => setMany (σ.set i (some v)) is vs
  | σ, _, _ => σ
theorem StOk.many {K : KK} {F B0 B Hs H0 H : Hp} {σ0 : St} {env0 : En} (hB : ∀ o, Hs o = none → B o = none) : ∀ {is : List Nat} {vs : List V} {rs : List Rs} {σ : St} {env env' : En}, StOk K F B0 B H0 H σ env → DenAll K Hs H0 H σ0 env0 vs rs → Apart vs rs →
    (∀ (k : Nat) (o : Addr) (w : Ow), vs[k]? = some (.ref o) → rs[k]? = some (.fr w) → ∀ (j : Nat) (w' : Ow), env[j]? = some (Sl.ow w') → σ[j]? ≠ some (some (.ref o))) → putMany env is rs = some env' → StOk K F B0 B H0 H (setMany σ is vs) env'
  | [], _, [], σ, env, env', st, .nil, ap, no, e => by cases e; exact st
  | i :: is, _, _, σ, env, env', st, .cons (v := v) (vs := vs) (r := r) (rs := rs) d t, ap, no, e => by
    unfold putMany at e
    cases e1 : putS env i r with
    | none => rw [e1] at e; cases e
    | some env1 =>
      rw [e1] at e
      have st1 : StOk K F B0 B H0 H (σ.set i (some v)) env1 := by
        cases r with
        | val d' => cases e1; exact st.setV i d
        | fr w =>
          cases e1
          obtain ⟨o, ho, rfl, h1, h2, h3, h4⟩ := d
          exact st.setW i (hB o h1) h2 h3 h4 (no 0 o w rfl rfl)
        | pk _ _ => cases e1
      refine StOk.many hB (is := is) st1 t (fun a b u w w' h1 h2 h3 h4 => by
        have := ap (a + 1) (b + 1) u w w' (by simpa using h1) (by simpa using h2) (by simpa using h3) (by simpa using h4)
        omega) (fun k o w h1 h2 j w' hj => ?_) e
      have k1 := no (k + 1) o w (by simpa using h1) (by simpa using h2)
      cases r with
      | val d' =>
        cases e1
        have hij : i ≠ j := fun z => by subst z; cases (set_get hj).1
        rw [List.getElem?_set_ne hij] at hj ⊢
        exact k1 j w' hj
      | fr w2 =>
        cases e1
        by_cases hij : i = j
        · subst hij
          intro z
          have hl := (set_get hj).2
          rw [List.getElem?_set_self (by rw [st.len]; exact hl)] at z
          have zv : v = .ref o := Option.some.inj (Option.some.inj z)
          have := ap 0 (k + 1) (.ref o) w2 w (by simp [zv]) (by simpa using h1) rfl (by simpa using h2)
          omega
        · rw [List.getElem?_set_ne hij] at hj ⊢
          exact k1 j w' hj
      | pk _ _ => cases e1
  | i :: is, [], _, σ, env, env', st, .nil, ap, no, e => by cases e
  | [], _, _ :: _, σ, env, env', st, _, ap, no, e => by cases e
theorem StOk.newApart {K : KK} {F B0 B H0 H G0 G : Hp} {σ : St} {env : En} {vs : List V} {rs : List Rs} (st : StOk K F B0 B H0 H σ env) (da : DenAll K H G0 G σ env vs rs) : ∀ (k : Nat) (o : Addr) (w : Ow), vs[k]? = some (.ref o) → rs[k]? = some (.fr w) → ∀ (j : Nat) (w' : Ow), env[j]? = some (Sl.ow w') → σ[j]? ≠ some (some (.ref o)) := fun k o w h1 h2 => by
  obtain ⟨o', ho, ev, n, _⟩ := da.at h1 h2
  cases ev
  exact Den.notOwned (H0s := H0) (Hs := H) st n
def rPar (i j : Nat) (ra : RA) : RS := fun E env => ra env fun as => ∃ a b env1 env2, as = [a, b] ∧ putS env i a = some env1 ∧ putS env1 j b = some env2 ∧ E.nx env2
instance {K : KK} {i j : Nat} {ta : TA} {ra : RA} [sa : SimA K ta ra] : SimS K (tPar i j ta) (rPar i j ra) where
  run := by
    intro F B0 B H0 H σ env D E st h m
    refine sa.run st h fun vs as G0 G ⟨a, b, env1, env2, e, e1, e2, hn⟩ x da ap => ?_
    subst e
    obtain ⟨v, w, ev, dv, dw⟩ := da.two
    subst ev
    exact ⟨v, w, rfl, m.nx hn (StOk.many (is := [i, j]) (fun o h => st.ext.act.none h) (st.go x) da ap (st.newApart da) (by simp only [putMany, e1, e2]))⟩
def rIfS (rc : RT) (a b : RS) : RS := fun E env => rc env fun c => if c = true then a E env else b E env
instance {K : KK} {tc : TT} {t u : TS} {rc : RT} {a b : RS} [sc : SimT K tc rc] [sa : SimS K t a] [sb : SimS K u b] : SimS K (tIfS tc t u) (rIfS rc a b) where
  run := fun st h m => sc.run st h fun c G0 G hc x => by
    cases c with
    | true => exact sa.run (st.go x) hc m
    | false => exact sb.run (st.go x) hc m
/-- return e -/
def rRet (ra : RE) : RS := fun E env => ra env fun s => E.rt s.rd
instance {K : KK} {te : TE} {ra : RE} [sa : SimE K te ra] : SimS K (tRet te) (rRet ra) where
  run := fun st h m => sa.run st h fun v s G0 G hs x d => by
    have st' := st.go x
    cases s with
    | val e => exact m.rt hs st'.ext d
    | fr w =>
      obtain ⟨o, ho, rfl, h1, h2, h3, h4⟩ := d
      have kn := frz_kn st'.inn o
      exact m.rt hs (st'.ext.frz (st.ext.act.none h1)) ((h4.mono kn).dp (by rw [frz_at]; exact h3))
    | pk i w =>
      obtain ⟨e1, e2⟩ := d
      obtain ⟨o, ho, h1, h2, h3, h4, h5⟩ := st'.own i w e1
      rw [e2] at h1; cases h1
      have kn := frz_kn st'.inn o
      exact m.rt hs (st'.ext.frz h2) ((h5.mono kn).dp (by rw [frz_at]; exact h4))
/-- return e, a new list (or the name's own): it stays new -/
def tRetF (te : TE) : TS := tRet te
def rRetF (ra : RE) : RS := fun E env => ra env fun s => match s with
  | .val _ => False
  | .fr w => E.rf w
  | .pk _ w => E.rf w
instance {K : KK} {te : TE} {ra : RE} [sa : SimE K te ra] : SimS K (tRetF te) (rRetF ra) where
  run := fun st h m => sa.run st h fun v s G0 G hs x d => by
    have st' := st.go x
    cases s with
    | val e => exact hs.elim
    | fr w =>
      obtain ⟨o, ho, rfl, h1, h2, h3, h4⟩ := d
      exact m.rf hs st'.ext ⟨o, ho, rfl, st.ext.act.none h1, h2, h3, h4⟩
    | pk i w =>
      obtain ⟨e1, e2⟩ := d
      obtain ⟨o, ho, h1, h2, h3, h4, h5⟩ := st'.own i w e1
      rw [e2] at h1; cases h1
      exact m.rf hs st'.ext ⟨o, ho, rfl, h2, h3, h4, h5⟩
theorem ps_retF {X : Cx} {e : Expr} {te : TE} {pos : Pos} (he : PE X e te) : PS X (.Return (some e) pos) (tRetF te) := ps_ret he
def rRetN : RS := fun E _ => E.rt .none
instance {K : KK} : SimS K tRetN rRetN := ⟨fun st h m => m.rt h st.ext Dp.non⟩
def rDrop (ra : RE) : RS := fun E env => ra env fun _ => E.nx env
/-- xs.append(e), the list its own -/
def rApp (i : Nat) (ra : RA) : RS := fun E env => ∃ ds, env[i]? = some (Sl.own ds) ∧ ra env fun as => ∃ d, toDs as = some [d] ∧ ds.length < sizeLine ∧ E.nx (env.set i (.own (ds ++ [d])))
instance {K : KK} {i : Nat} {ta : TA} {ra : RA} [sa : SimA K ta ra] : SimS K (tDrop (tBM K.fr "list" rAppend (tVar i) ta)) (rApp i ra) where
  run := by
    intro F B0 B H0 H σ env D E st ⟨ds, e, h⟩ m
    obtain ⟨o, vs, h1, h2, h3, h4, h5⟩ := st.ownL i ds e
    refine ⟨.ref o, h1, .inl ⟨rfl, vs, .inl (.inl h4)⟩, ?_⟩
    refine sa.run st h fun ws as G0 G ⟨d, e2, hz, hn⟩ x da ap => ?_
    obtain ⟨I0, xI, s1, p⟩ := da.keep x e2
    have st' := st.go xI
    cases p with
    | cons p1 p2 =>
      cases p2
      refine ⟨o, vs, _, rfl, rfl, xI.act.lst h4, by rw [h5.pvLen]; exact hz, ?_⟩
      exact m.nx hn (st'.writeW e h1 ⟨_, rfl, (dpAll_mono xI.kn _ _ h5).pvApp (.cons p1 .nil)⟩)
/-- ahead of the statement the lists of these slots are known -/
def frzSl (env : En) (i : Nat) : En := match env[i]? with
  | some (.ow w) => env.set i (.val w.dat)
  | _ => env
def tFrz (_ : List Nat) (t : TS) : TS := t
theorem ps_frz {X : Cx} {s : Stmt} {t : TS} (is : List Nat) (h : PS X s t) : PS X s (tFrz is t) := h
def rFrz (is : List Nat) (r : RS) : RS := fun E env => r E (is.foldl frzSl env)
theorem StOk.frzSl {K : KK} {F B0 B H0 H : Hp} {σ : St} {env : En} (st : StOk K F B0 B H0 H σ env) (i : Nat) : ∃ G0, StOk K F B0 B G0 H σ (frzSl env i) := by
  unfold PV.frzSl
  split
  · rename_i ds e
    obtain ⟨o, vs, _, _, _, st'⟩ := st.freeze e
    exact ⟨_, st'⟩
  · exact ⟨H0, st⟩
theorem StOk.frzAll {K : KK} {F B0 B H : Hp} {σ : St} : ∀ {is : List Nat} {H0 : Hp} {env : En}, StOk K F B0 B H0 H σ env → ∃ G0, StOk K F B0 B G0 H σ (is.foldl PV.frzSl env)
  | [], H0, _, st => ⟨H0, st⟩
  | i :: is, _, env, st => by
    obtain ⟨G0, st'⟩ := st.frzSl i
    show ∃ G0, StOk K F B0 B G0 H σ (is.foldl PV.frzSl (PV.frzSl env i))
    exact StOk.frzAll (is := is) st'
instance {K : KK} {is : List Nat} {t : TS} {r : RS} [s : SimS K t r] : SimS K (tFrz is t) (rFrz is r) where
  run := fun st h m => by
    obtain ⟨G0, st'⟩ := StOk.frzAll (is := is) st
    exact s.run st' h m
/-! ### iterators -/
structure WalkD (K : KK) (J : It) (ds : List Dat) (G0 : Hp) : Prop where
  goes : ∀ i H, Grow K G0 H → i < ds.length → J.go i H
  stops : ∀ H, Grow K G0 H → J.stop ds.length H
  yields : ∀ i H0 H x H', Sub G0 H0 → Sub H0 H → i < ds.length → J.yld i H x H' → ∃ d H0', ds[i]? = some d ∧ Ext K H0 H H0' H' ∧ Dp K H0' x d
class SimI (K : KK) (t : TI) (r : outParam RI) : Prop where
  run : ∀ {F B0 B H0 H : Hp} {σ : St} {env : En} {Q : It → Hp → Prop} {R : List Dat → Prop}, StOk K F B0 B H0 H σ env → r env R → (∀ J ds H0' H', R ds → Ext K H0 H H0' H' → WalkD K J ds H0' → Q J H') → t σ H Q
def rFor (ri : RI) (g : RG) (rb : RS) : RS := fun E env => ri env fun ds => ∃ P : Nat → En → Prop, P 0 env ∧
  (∀ i env d, ds[i]? = some d → P i env → g d env fun env2 => rb { E with nx := P (i + 1), ct := P (i + 1), bk := E.nx } env2) ∧ ∀ env, P ds.length env → E.nx env
instance {K : KK} {wi : TI} {g : TG} {tb : TS} {ri : RI} {rg : RG} {ws : List Nat} {rb : RS} [si : SimI K wi ri] [sg : SimG K g rg ws] [sb : SimS K tb rb] : SimS K (tFor wi g tb) (rFor ri rg rb) where
  run := by
    intro F B0 B H0 H σ env D E st h m
    refine si.run st h fun J ds G0 G ⟨P, p0, ps, pe⟩ x w => ?_
    have fF : Sub F G0 := st.fl.trans x.kn
    refine ⟨fun i k σ' H' => k = ds.length - i ∧ i ≤ ds.length ∧ ∃ env' H0', StOk K G0 B0 B H0' H' σ' env' ∧ P i env', ⟨ds.length, rfl, Nat.zero_le _, env, G0, (st.go x).floor (Sub.refl _), p0⟩, ?_⟩
    rintro i k σ1 H1 ⟨rfl, hi, env1, H01, st1, p1⟩
    by_cases hlt : i < ds.length
    · refine .inr ⟨w.goes i H1 (st1.fl.trans st1.inn).grow hlt, fun σ' H' => ∃ env' H0', StOk K G0 B0 B H0' H' σ' env' ∧ P (i + 1) env', fun σ' H' ⟨e', h0', st', p'⟩ => ⟨ds.length - (i + 1), by omega, rfl, hlt, e', h0', st', p'⟩, fun v H2 y => ?_⟩
      obtain ⟨d, H02, ed, x2, dv⟩ := w.yields i H01 H1 v H2 st1.fl st1.inn hlt y
      refine sg.run (st1.go x2) dv (ps i env1 d ed p1) fun σ3 env3 h3 st3 _ _ => ?_
      refine sb.run st3 h3 { nx := fun h st => ⟨_, _, st, h⟩, ct := fun h st => ⟨_, _, st, h⟩, bk := fun h st => m.nx h (st.floor (fF.trans st.fl)), rt := m.rt, rf := m.rf }
    · have e : i = ds.length := by omega
      subst e
      exact .inl ⟨w.stops H1 (st1.fl.trans st1.inn).grow, m.nx (pe env1 p1) (st1.floor (fF.trans st1.fl))⟩
def rWhile (rc : RT) (rb : RS) : RS := fun E env => ∃ (P : En → Prop) (μ : En → Nat), P env ∧
  ∀ env, P env → rc env fun c => if c = true then rb { E with nx := fun e => P e ∧ μ e < μ env, ct := fun e => P e ∧ μ e < μ env, bk := E.nx } env else E.nx env
instance {K : KK} {tc : TT} {tb : TS} {rc : RT} {rb : RS} [sc : SimT K tc rc] [sb : SimS K tb rb] : SimS K (tWhile tc tb) (rWhile rc rb) where
  run := by
    intro F B0 B H0 H σ env D E st ⟨P, μ, p0, ps⟩ m
    refine ⟨fun k σ' H' => ∃ env' H0', StOk K F B0 B H0' H' σ' env' ∧ P env' ∧ k = μ env', ⟨μ env, env, H0, st, p0, rfl⟩, ?_⟩
    rintro k σ1 H1 ⟨env1, H01, st1, p1, rfl⟩
    refine sc.run st1 (ps env1 p1) fun c G0 G hc x => ?_
    cases c with
    | true =>
      refine ⟨fun σ' H' => ∃ env' H0', StOk K F B0 B H0' H' σ' env' ∧ P env' ∧ μ env' < μ env1, fun σ' H' ⟨e', h0', st', p', l'⟩ => ⟨_, l', e', h0', st', p', rfl⟩, ?_⟩
      exact sb.run (st1.go x) hc { nx := fun h st => ⟨_, _, st, h.1, h.2⟩, ct := fun h st => ⟨_, _, st, h.1, h.2⟩, bk := fun h st => m.nx h st, rt := m.rt, rf := m.rf }
    | false => exact m.nx hc (st1.go x)
/-! the sources of a walk -/
/-- over a list or a tuple -/
def iSeq (K : KK) (te : TE) : TI := fun σ H R => te σ H fun x H1 => ∃ a, x = .ref a ∧ ((∃ xs, SqL K H1 a xs ∧ R (Itl K.fr a) H1) ∨ (∃ xs, SqT K H1 a xs ∧ R (Itt K.fr a) H1))
theorem pi_seqK {X : Cx} {K : KK} {tg l : Expr} {tl : TE} (hK : X.K = K.fr) (hl : PE X l tl) : PI X tg l (iSeq K tl) := by
  obtain ⟨fr, P, w, tabs, nm⟩ := K
  dsimp only at hK
  subst hK
  exact ⟨fun pins s σ H R I h => thn (hl.run pins s σ H _ I h) fun v s1 ⟨x, H1, I1, r1, a, ex, hq⟩ => by
    subst ex
    cases r1
    rcases hq with ⟨xs, hx, q⟩ | ⟨xs, hx, q⟩
    · obtain ⟨its, rv, pl, _⟩ := I1.list hx
      exact wpAny_pyIter_list pl.isList (pi_one (tk := s1.toks) I1 _ (turn_list a _) ⟨_, Heap.get?_push_size _ rfl, rfl, rfl⟩ q)
    · obtain ⟨its, rv, pl, _⟩ := I1.tuple hx
      exact wpAny_pyIter_tuple (items := its.toArray) pl (pi_one (tk := s1.toks) I1 _ (turn_tuple a _) ⟨_, Heap.get?_push_size _ rfl, rfl, rfl⟩ q)⟩
theorem WalkD.ofY {K : KK} {J : It} {C : Hp → Prop} {vs : List V} {ds : List Dat} {G0 : Hp} (w : Walk J vs.length C (YAt vs)) (hc : ∀ H, Grow K G0 H → C H) (dp : DpAll K G0 vs ds) : WalkD K J ds G0 where
  goes := fun i H s hi => w.goes i H (by rw [dp.pvLen]; exact hi) (hc H s)
  stops := fun H s => by rw [← dp.pvLen]; exact w.stops H (hc H s)
  yields := fun i H0 H x H' s s' hi y => by
    obtain ⟨rfl, e⟩ := w.yields i H x H' (by rw [dp.pvLen]; exact hi) (hc H (s.trans s').grow) y
    obtain ⟨d, ed, dd⟩ := dp.pvGetV e
    exact ⟨d, H0, ed, Ext.refl s', dp_mono s _ _ dd⟩
def riSeq (ra : RE) : RI := fun env R => ra env fun a => ∃ ds d, a.toD = some d ∧ itemsD d = some ds ∧ R ds
instance {K : KK} {te : TE} {ra : RE} [sa : SimE K te ra] : SimI K (iSeq K te) (riSeq ra) where
  run := by
    intro F B0 B H0 H σ env Q R st h q
    refine sa.run st h fun v s G0 G ⟨ds, d, ed, ei, hr⟩ x dn => ?_
    obtain ⟨I0, xI, s1, p, _⟩ := dn.keep x ed
    cases p with
    | lst h1 h2 =>
      cases ei
      exact ⟨_, rfl, .inl ⟨_, xI.inn.sqL h1, q _ _ _ _ hr xI (WalkD.ofY walk_list (fun H s => s.sqL h1) h2)⟩⟩
    | tup h1 h2 =>
      cases ei
      exact ⟨_, rfl, .inr ⟨_, xI.inn.sqT h1, q _ _ _ _ hr xI (WalkD.ofY walk_tup (fun H s => s.sqT h1) h2)⟩⟩
    | _ => cases ei
def intsFrom (a : Int) (n : Nat) : List Dat := (List.range n).map fun (i : Nat) => PyData.int (a + i)
theorem WalkD.range {K : KK} {a : Int} {n : Nat} {G0 : Hp} : WalkD K (Itr a n) (intsFrom a n) G0 where
  goes := fun i H s hi => by
    have : (intsFrom a n).length = n := by simp [intsFrom]
    exact walk_range.goes i H (this ▸ hi) trivial
  stops := fun H s => by
    have : (intsFrom a n).length = n := by simp [intsFrom]
    rw [this]
    exact walk_range.stops H trivial
  yields := fun i H0 H x H' s s' hi y => by
    have hl : (intsFrom a n).length = n := by simp [intsFrom]
    rw [hl] at hi
    obtain ⟨rfl, e⟩ := walk_range.yields i H x H' hi trivial y
    subst e
    refine ⟨.int (a + i), H0, ?_, Ext.refl s', Dp.int _⟩
    simp [intsFrom, hi]
def riRng1 (ra : RA) : RI := fun env R => ra env fun as => ∃ a j, as = [a] ∧ a.rd = .int j ∧ -(2 ^ 62) ≤ j ∧ j < 2 ^ 62 ∧ R (intsFrom 0 j.toNat)
instance {K : KK} {ta : TA} {ra : RA} [sa : SimA K ta ra] : SimI K (iRng1 ta) (riRng1 ra) where
  run := fun st h q => sa.run st h fun vs as G0 G ⟨a, j, e, ea, h1, h2, hr⟩ x da ap => by
    subst e
    obtain ⟨v, rfl, dv⟩ := da.one
    have e1 := dv.asInt (st.go x) ea
    subst e1
    exact ⟨j, rfl, h1, h2, q _ _ _ _ hr x WalkD.range⟩
def riRng2 (ra : RA) : RI := fun env R => ra env fun as => ∃ a b i j, as = [a, b] ∧ a.rd = .int i ∧ b.rd = .int j ∧ (-(2 ^ 62) ≤ i ∧ i < 2 ^ 62 ∧ -(2 ^ 62) ≤ j ∧ j < 2 ^ 62) ∧ R (intsFrom i (j - i).toNat)
instance {K : KK} {ta : TA} {ra : RA} [sa : SimA K ta ra] : SimI K (iRng2 ta) (riRng2 ra) where
  run := fun st h q => sa.run st h fun vs as G0 G ⟨a, b, i, j, e, ea, eb, h1, hr⟩ x da ap => by
    subst e
    obtain ⟨v, w, rfl, dv, dw⟩ := da.two
    have e1 := dv.asInt (st.go x) ea
    have e2 := dw.asInt (st.go x) eb
    subst e1 e2
    exact ⟨i, j, rfl, h1, q _ _ _ _ hr x WalkD.range⟩
/-- a walk in which nothing that stands is changed: it may go over a list that a slot owns -/
structure WalkJ (K : KK) (J : It) (ds : List Dat) (G0 Gw : Hp) : Prop where
  goes : ∀ i H, Grow K Gw H → i < ds.length → J.go i H
  stops : ∀ H, Grow K Gw H → J.stop ds.length H
  yields : ∀ i H0 H x H', Sub G0 H0 → Sub H0 H → Grow K Gw H → i < ds.length → J.yld i H x H' → ∃ d H0', ds[i]? = some d ∧ Ext K H0 H H0' H' ∧ Dp K H0' x d
class SimJ (K : KK) (t : TI) (r : outParam RI) : Prop where
  run : ∀ {F B0 B H0 H : Hp} {σ : St} {env : En} {Q : It → Hp → Prop} {R : List Dat → Prop}, StOk K F B0 B H0 H σ env → r env R → (∀ J ds H0' H', R ds → Ext K H0 H H0' H' → WalkJ K J ds H0' H' → Q J H') → t σ H Q
theorem WalkD.j {K : KK} {J : It} {ds : List Dat} {G0 G : Hp} (w : WalkD K J ds G0) (s : Sub G0 G) : WalkJ K J ds G0 G :=
  ⟨fun i H q => w.goes i H (s.grow.trans q), fun H q => w.stops H (s.grow.trans q), fun i H0 H x H' q1 q2 _ => w.yields i H0 H x H' q1 q2⟩
instance (priority := low) {K : KK} {t : TI} {r : RI} [s : SimI K t r] : SimJ K t r where
  run := fun st h q => s.run st h fun J ds G0 G hr x w => q J ds G0 G hr x (w.j x.inn)
def rjSeq (ra : RE) : RI := fun env R => ra env fun a => ∃ ds, itemsD a.rd = some ds ∧ R ds
instance {K : KK} {te : TE} {ra : RE} [sa : SimE K te ra] : SimJ K (iSeq K te) (rjSeq ra) where
  run := by
    intro F B0 B H0 H σ env Q R st h q
    refine sa.run st h fun v s G0 G ⟨ds, ei, hr⟩ x dn => ?_
    have st' := st.go x
    cases hd : s.rd with
    | list es =>
      rw [hd] at ei
      cases ei
      obtain ⟨a, vs, rfl, hp, dp⟩ := dn.asList st' hd
      refine ⟨a, rfl, .inl ⟨vs, hp, q _ _ _ _ hr x ⟨fun i H s hi => ?_, fun H s => ?_, fun i H0 H x H' s s' sw hi y => ?_⟩⟩⟩
      · exact walk_list.goes i H (by rw [dp.pvLen]; exact hi) (s.sqL hp)
      · rw [← dp.pvLen]
        exact walk_list.stops H (s.sqL hp)
      · obtain ⟨rfl, e⟩ := walk_list.yields i H x H' (by rw [dp.pvLen]; exact hi) (sw.sqL hp) y
        obtain ⟨d, ed, dd⟩ := dp.pvGetV e
        exact ⟨d, H0, ed, Ext.refl s', dp_mono s _ _ dd⟩
    | tuple es =>
      rw [hd] at ei
      cases ei
      obtain ⟨a, vs, rfl, hp, dp, _, _⟩ := dn.asTup st' hd
      refine ⟨a, rfl, .inr ⟨vs, hp, q _ _ _ _ hr x ⟨fun i H s hi => ?_, fun H s => ?_, fun i H0 H x H' s s' sw hi y => ?_⟩⟩⟩
      · exact walk_tup.goes i H (by rw [dp.pvLen]; exact hi) (s.sqT hp)
      · rw [← dp.pvLen]
        exact walk_tup.stops H (s.sqT hp)
      · obtain ⟨rfl, e⟩ := walk_tup.yields i H x H' (by rw [dp.pvLen]; exact hi) (sw.sqT hp) y
        obtain ⟨d, ed, dd⟩ := dp.pvGetV e
        exact ⟨d, H0, ed, Ext.refl s', dp_mono s _ _ dd⟩
    | _ => rw [hd] at ei; cases ei
/-! ### list comprehensions -/
def wipeE (env : En) : List Nat → En
  | [] => env
  | v :: vs => (wipeE env vs).set v .un
theorem StOk.wipe {K : KK} {F B0 B H0 H : Hp} {σ : St} {env : En} (st : StOk K F B0 B H0 H σ env) : ∀ vs : List Nat, StOk K F B0 B H0 H (L2.wipe σ vs) (wipeE env vs)
  | [] => st
  | v :: vs => (StOk.wipe st vs).setU v none
theorem wipe_at {σ : St} {j : Nat} : ∀ {vs : List Nat}, (L2.wipe σ vs)[j]? = if j ∈ vs then (if j < σ.length then some none else none) else σ[j]?
  | [] => by simp [L2.wipe]
  | v :: vs => by
    show ((L2.wipe σ vs).set v none)[j]? = _
    rw [List.getElem?_set, L2.wipe_length]
    by_cases h : v = j
    · subst h
      simp
    · rw [if_neg h, wipe_at]
      have h' : ¬ j = v := fun z => h z.symm
      simp [h']
theorem wipe_same {σ τ : St} {vs ws : List Nat} (hl : τ.length = (L2.wipe σ vs).length) (h : ∀ j, j ∉ ws → τ[j]? = (L2.wipe σ vs)[j]?) (hw : ∀ j ∈ ws, j ∈ vs) : L2.wipe τ vs = L2.wipe σ vs := by
  apply List.ext_getElem?
  intro j
  rw [L2.wipe_length] at hl
  rw [wipe_at, wipe_at, hl]
  by_cases hj : j ∈ vs
  · rw [if_pos hj, if_pos hj]
  · rw [if_neg hj, if_neg hj, h j fun z => hj (hw j z), wipe_at, if_neg hj]
/-- an object that no slot knows is changed -/
theorem StOk.other {K : KK} {F B0 B H0 H : Hp} {σ : St} {env : En} (st : StOk K F B0 B H0 H σ env) {D : Addr} {o : HO} (hB : B D = none) (h0 : H0 D = none) (ht : ∀ ps, H D ≠ some (.tbl ps)) (hn : ∀ (j : Nat) (w : Ow), env[j]? = some (Sl.ow w) → σ[j]? ≠ some (some (.ref D))) :
    StOk K F B0 B H0 (upd H D o) σ env := by
  have tb : ∀ P, TabK K H0 H P → TabK K H0 (upd H D o) P := fun P t => t.mono (Sub.refl _) (fun z _ => z) fun ps e => by
    rw [upd_ne fun z => ht ps (by rw [← z]; exact e)]; exact e
  refine ⟨⟨⟨fun b x q n => ?_, fun {b} q => ?_⟩, st.ext.kn, fun b x q => ?_, st.ext.fr, fun P t => tb P (st.ext.tab P t)⟩, st.fl, st.len, st.val, fun i w e => ?_, st.dis, st.kno, fun P m => tb P (st.tab P m)⟩
  · rw [upd_ne (ne_of_none q hB)]; exact st.ext.act.of _ _ q n
  · by_cases hb : b = D
    · rw [hb]; exact hB
    · rw [upd_ne hb] at q; exact st.ext.act.none q
  · rw [upd_ne (ne_of_none q h0)]; exact st.inn _ _ q
  · obtain ⟨o', ho, h1, h2, h3, h4, h5⟩ := st.own i w e
    have no : o' ≠ D := fun z => hn i w e (by rw [h1, z])
    exact ⟨o', ho, h1, h2, h3, by rw [upd_ne no]; exact h4, h5⟩
def rLc (ri : RI) (g : RG) (ws : List Nat) (rt : RT) (re : RE) (vs : List Nat) : RE := fun env R => ri env fun ds => (ws.all fun j => decide (j ∈ vs)) = true ∧ ∃ P : Nat → List Dat → Prop, P 0 [] ∧
  (∀ i d acc, ds[i]? = some d → P i acc → g d (wipeE env vs) fun env2 => rt env2 fun b => if b = true then re env2 fun s => ∃ y, s.toD = some y ∧ acc.length < sizeLine ∧ P (i + 1) (acc ++ [y]) else P (i + 1) acc) ∧
  ∀ acc, P ds.length acc → R (.fresh acc)
instance {K : KK} {wi : TI} {g : TG} {tt : TT} {te : TE} {vs : List Nat} {ri : RI} {rg : RG} {ws : List Nat} {rt : RT} {re : RE} [si : SimJ K wi ri] [sg : SimG K g rg ws] [s0 : SimT K tt rt] [se : SimE K te re] : SimE K (tLc wi g tt te vs) (rLc ri rg ws rt re vs) where
  run := by
    intro F B0 B H0 H σ env Q R st h q
    refine si.run st h fun J ds G0 G ⟨hw, P, p0, ps, pe⟩ x w => fun D hD => ?_
    have hw' : ∀ j ∈ ws, j ∈ vs := fun j hj => of_decide_eq_true (List.all_eq_true.mp hw j hj)
    have stG := st.go x
    have hB : B D = none := stG.ext.act.none hD
    have hDH : H D = none := x.act.none hD
    have stW := stG.wipe vs
    have nown : ∀ (j : Nat) (w : Ow), (wipeE env vs)[j]? = some (Sl.ow w) → (L2.wipe σ vs)[j]? ≠ some (some (.ref D)) := Den.notOwned (H0s := G0) (Hs := G) stW hD
    refine ⟨fun i k H' => k = ds.length - i ∧ i ≤ ds.length ∧ ∃ acc av Hk, H' D = some (.lst av) ∧ Hk D = none ∧ DpAll K Hk av acc ∧ Ext K G0 G Hk H' ∧ StOk K F B0 B Hk H' (L2.wipe σ vs) (wipeE env vs) ∧ P i acc,
      ⟨ds.length, rfl, Nat.zero_le _, [], [], G0, upd_same, x.inn.none hD, .nil, Ext.hid x.inn hD, stW.other hB (x.inn.none hD) (fun ps z => by rw [hD] at z; cases z) nown, p0⟩, ?_⟩
    rintro i k H' ⟨rfl, hi, acc, av, Hk, e1, e2, e3, e4, e5, p1⟩
    by_cases hlt : i < ds.length
    · refine .inr ⟨w.goes i H' e4.act hlt, fun H'' => ∃ acc av Hk, H'' D = some (.lst av) ∧ Hk D = none ∧ DpAll K Hk av acc ∧ Ext K G0 G Hk H'' ∧ StOk K F B0 B Hk H'' (L2.wipe σ vs) (wipeE env vs) ∧ P (i + 1) acc, fun H'' z => ⟨ds.length - (i + 1), by omega, rfl, hlt, z⟩, fun v H2 y => ?_⟩
      obtain ⟨d, H02, ed, x2, dv⟩ := w.yields i Hk H' v H2 e4.kn e4.inn e4.act hlt y
      refine sg.run (e5.go x2) dv (ps i d acc ed p1) fun σ3 env3 h3 st3 l3 k3 => ⟨wipe_same l3 k3 hw', ?_⟩
      have n2 : H02 D = none := x2.fr D e2 (by rw [e1]; simp)
      refine s0.run st3 h3 fun b I0 I hb xb => ?_
      have x3 := x2.trans xb
      cases b with
      | false =>
        show ∃ acc av Hk, _
        exact ⟨acc, av, I0, x3.act.lst e1, x3.fr D e2 (by rw [e1]; simp), dpAll_mono x3.kn _ _ e3, e4.trans x3, e5.go x3, hb⟩
      | true =>
        show te _ _ _
        refine se.run (st3.go xb) hb fun u s M0 M ⟨yd, ey, hz, hp⟩ xm dn => ?_
        obtain ⟨N0, xN, sN, pN, nN⟩ := dn.keep xm ey
        -- keep: what is new since the test; as a whole from H'
        have xt := x3.trans xN
        have eD : M D = some (.lst av) := xt.act.lst e1
        have nD : N0 D = none := xt.fr D e2 (by rw [e1]; simp)
        refine ⟨av, eD, by rw [e3.pvLen]; exact hz, acc ++ [yd], av ++ [u], N0, upd_same, nD, (dpAll_mono xt.kn _ _ e3).pvApp (.cons pN .nil), ?_, (e5.go xt).other hB nD (fun ps z => by rw [eD] at z; cases z) nown, hp⟩
        have z := e4.trans xt
        exact ⟨⟨fun b o e n => by rw [upd_ne (ne_of_none e hD)]; exact z.act.of _ _ e n, fun {b} e => by
          by_cases hb : b = D
          · rw [hb]; exact hD
          · rw [upd_ne hb] at e; exact z.act.none e⟩, z.kn, fun b o e => by rw [upd_ne (ne_of_none e nD)]; exact z.inn _ _ e, z.fr, fun P t => (z.tab P t).mono (Sub.refl _) (fun z _ => z) fun ps e => by
          rw [upd_ne fun q => by rw [q, eD] at e; cases e]; exact e⟩
    · have e : i = ds.length := by omega
      subst e
      refine .inl ⟨w.stops H' e4.act, q (.ref D) (.fresh acc) Hk H' (pe acc p1) ?_ ⟨D, _, rfl, hDH, e2, e1, av, rfl, e3⟩⟩
      exact x.trans e4
/-! ### a def -/
theorem st_entry {K : KK} {H0 H : Hp} {vs : List V} {ds : List Dat} {N ps : List Str} (s0 : Sub H0 H) (tb : ∀ P ∈ K.tabs, TabK K H0 H P) (dp : DpAll K H0 vs ds) (hdl : ds.length = ps.length) :
    StOk K H0 H0 H H0 H (L2.start N vs) (ds.map Sl.val ++ List.replicate (N.length - ps.length) .un) := by
  have hvl := dp.pvLen
  have no : ∀ {i : Nat} {x : Sl}, (ds.map Sl.val ++ List.replicate (N.length - ps.length) Sl.un)[i]? = some x → x = .un ∨ ∃ d, ds[i]? = some d ∧ x = .val d := fun {i x} e => by
    by_cases hi : i < ds.length
    · rw [List.getElem?_append_left (by rw [List.length_map]; exact hi), List.getElem?_map] at e
      cases q : ds[i]? with
      | none => rw [q] at e; cases e
      | some d' => rw [q] at e; cases e; exact .inr ⟨d', rfl, rfl⟩
    · rw [List.getElem?_append_right (by rw [List.length_map]; omega), List.getElem?_replicate] at e
      split at e
      · cases e; exact .inl rfl
      · cases e
  refine ⟨Ext.refl s0, Sub.refl _, ?_, fun i d e => ?_, fun i w e => ?_, fun i j w w' o e => ?_, fun i mk e => ?_, tb⟩
  · unfold L2.start
    rw [List.length_append, List.length_append, List.length_map, List.length_map, List.length_replicate, List.length_replicate, hvl, hdl]
  · rcases no e with z | ⟨d', q, z⟩
    · cases z
    · cases z
      obtain ⟨v, hv, dv⟩ := dp.pvGet q
      refine ⟨v, ?_, dv⟩
      unfold L2.start
      rw [List.getElem?_append_left (by rw [List.length_map]; exact (List.getElem?_eq_some_iff.mp hv).1), List.getElem?_map, hv]
      rfl
  · rcases no e with z | ⟨d', q, z⟩ <;> cases z
  · rcases no e with z | ⟨d', q, z⟩ <;> cases z
  · rcases no e with z | ⟨d', q, z⟩ <;> cases z
theorem ok_def {K : KK} {mg : Str → Option Value} {base : Heap} {x qual : Str} {st : Stmt} {f : Addr} {fd : FuncData} {N ps : List Str} {k : Nat} {fs : List Dat → (Dat → Prop) → Prop} (Fn : Fun K.fr x qual st f fd) (S : FnScope N ps (defScope st))
    (hl : ∀ ds R, fs ds R → ds.length = ps.length)
    (hb : ∀ (cdv : Value) (A : Around) (outer : List PySem.Env) (s : Shared) (H : Hp) (E : XK), Room k (A.deeper (envOfC qual (defScope st) s.heap.objs.size f cdv)) →
      ∃ t r, PSs (cxOf CX0 K.P K.w K.fr mg base N qual (defScope st) f cdv A outer s H E).nox (defBody st) t ∧ SimS K t r ∧ ∀ ds R, fs ds R → r { nx := fun _ => R .none, rt := R } (ds.map Sl.val ++ List.replicate (N.length - ps.length) .un)) :
    FnOk K.P K.w K.fr mg base CX0 (k + 1) f fd ps (spD K fs) := by
  refine Fn.ok S (fun vs H Q E ⟨H0, ds, s0, tb, dp, h⟩ => dp.pvLen.trans (hl _ _ h)) (fun cdv A outer s H vs Q E hr ⟨H0, ds, s0, tb, dp, h⟩ => ?_)
  obtain ⟨t, r, hp, hs, hd⟩ := hb cdv A outer s H E hr
  refine ⟨t, hp, hs.run (F := H0) (B0 := H0) (B := H) (H0 := H0) (σ := L2.start N vs) (st_entry s0 tb dp (hl _ _ h)) (hd ds _ h) ?_⟩
  exact { nx := fun {env σ G0 G} h st => h .non G0 G st.ext Dp.non, bk := fun h _ => h.elim, ct := fun h _ => h.elim, rt := fun {d v G0 G} h x dv => h v G0 G x dv, rf := fun h => h.elim }
end PV

/-! PvIter: enumerate and zip over lists and tuples in any mix, as walks of the hand layer. -/
namespace PV
open PySem PySem.Spec PyProof.Rows L2 -- pv
/-- list (true) or tuple, as the heap has it -/
def SqB (K : PySem.W.Frag) : Bool → Hp → Addr → List V → Prop
  | true, H, a, xs => L2.SqL K H a xs
  | false, H, a, xs => L2.SqT K H a xs
def SeqAtB : Bool → Heap → Addr → Array Value → Prop
  | true, h, a, its => h.IsList a its
  | false, h, a, its => h.IsTuple a its
def SeqItB : Bool → Heap → Addr → Addr → Nat → Prop
  | true, h, it, l, i => h.IsListIter it l i
  | false, h, it, l, i => h.IsTupleIter it l i
def itObB : Bool → Addr → Obj
  | true, l => { cls := .type "list_iterator", data := .fields #[.ref l, .int 0 0] }
  | false, l => { cls := .type "tuple_iterator", data := .fields #[.ref l, .int 0 0] }
theorem SqB.at {X : Cx} {pins : List (Addr × Obj)} {σ : St} {H : Hp} {s : Shared} (I : Inv X pins σ H s) {b : Bool} {a : Addr} {xs : List V} (h : SqB X.K b H a xs) : ∃ its : List Value, Vals xs its ∧ SeqAtB b s.heap a its.toArray := by
  cases b with
  | true => obtain ⟨its, r, p, _⟩ := I.list h; exact ⟨its, r, p.isList⟩
  | false => obtain ⟨its, r, p, _⟩ := I.tuple h; exact ⟨its, r, p⟩
theorem SqB.inj {X : Cx} {pins : List (Addr × Obj)} {σ : St} {H : Hp} {s : Shared} (I : Inv X pins σ H s) {b : Bool} {a : Addr} {xs ys : List V} (h : SqB X.K b H a xs) (h' : SqB X.K b H a ys) : xs = ys := by
  cases b with
  | true => exact I.list_inj h h'
  | false => exact I.tuple_inj h h'
theorem SqB.grow {K : KK} {H H' : Hp} (s : Grow K H H') {b : Bool} {a : Addr} {xs : List V} (h : SqB K.fr b H a xs) : SqB K.fr b H' a xs := by
  cases b with
  | true => exact s.sqL h
  | false => exact s.sqT h
theorem SqB.mono {K : PySem.W.Frag} {H H' : Hp} (s : Sub H H') {b : Bool} {a : Addr} {xs : List V} (h : SqB K b H a xs) : SqB K b H' a xs := by
  cases b with
  | true =>
    rcases h with (h | ⟨o, h⟩) | h
    · exact .inl (.inl (s _ _ h))
    · exact .inl (.inr ⟨o, s _ _ h⟩)
    · exact .inr h
  | false =>
    rcases h with (h | ⟨o, h⟩) | h
    · exact .inl (.inl (s _ _ h))
    · exact .inl (.inr ⟨o, s _ _ h⟩)
    · exact .inr h
theorem SeqAtB.lt {b : Bool} {h : Heap} {a : Addr} {its : Array Value} (x : SeqAtB b h a its) : a < h.objs.size := by
  cases b with
  | true => obtain ⟨o, e, _⟩ := x; exact Heap.lt_size e
  | false => obtain ⟨o, e, _⟩ := x; exact Heap.lt_size e
theorem SeqItB.ob {b : Bool} {h : Heap} {it l : Addr} {i : Nat} (x : SeqItB b h it l i) : ∃ o, h.get? it = some o ∧ ∀ v, o.data ≠ .cell v := by
  cases b with
  | true => obtain ⟨o, e, _, d⟩ := x; exact ⟨o, e, fun v z => by rw [d] at z; cases z⟩
  | false => obtain ⟨o, e, _, d⟩ := x; exact ⟨o, e, fun v z => by rw [d] at z; cases z⟩
theorem SeqItB.keep {b : Bool} {h h' : Heap} {it l : Addr} {i : Nat} (x : SeqItB b h it l i) (k : ∀ o, h.get? it = some o → h'.get? it = some o) : SeqItB b h' it l i := by
  cases b with
  | true => exact Heap.IsListIter.at x k
  | false => exact Heap.IsTupleIter.at x k
theorem SeqItB.new {b : Bool} {h : Heap} {it l : Addr} (e : h.get? it = some (itObB b l)) : SeqItB b h it l 0 := by
  cases b with
  | true => exact ⟨_, e, rfl, rfl⟩
  | false => exact ⟨_, e, rfl, rfl⟩
theorem begins_B (b : Bool) (l : Addr) (its : Array Value) : Begins (.ref l) (itObB b l) fun h => SeqAtB b h l its := by
  cases b with
  | true => exact begins_list l its
  | false => exact begins_tuple l its
theorem draws_B {prog : Program} {w : World} {A : Around} (hh : A.handled = none) (b : Bool) (it l : Addr) (hne : l ≠ it) (its : Array Value) :
    Draws prog w A it [it, l] its.size (fun i v => its[i]? = some v) (fun i h => SeqItB b h it l i ∧ SeqAtB b h l its) := by
  cases b with
  | true => exact Draws.list hh it l hne its
  | false => exact Draws.tuple hh it l hne its
theorem itB_ne {h : Heap} {b : Bool} {l e : Addr} {its : Array Value} {o : Obj} (x : SeqAtB b h l its) (he : h.get? e = some o) (ho : ∀ n xs, o.data ≠ .seq xs n) : e ≠ l := by
  rintro rfl
  cases b with
  | true =>
    obtain ⟨o', e', _, n, d⟩ := x
    rw [he] at e'; cases e'
    exact ho _ _ d
  | false =>
    obtain ⟨o', e', _, n, d⟩ := x
    rw [he] at e'; cases e'
    exact ho _ _ d
/-! ### enumerate -/
def ItE (K : PySem.W.Frag) (b : Bool) (a : Addr) : It :=
  ⟨fun i H => ∃ (xs : List V) (x : V), SqB K b H a xs ∧ xs[i]? = some x, fun i H v H' => ∃ T x, v = .ref T ∧ H T = none ∧ H' = upd H T (.tup [.int (i : Nat), x]) ∧ ∀ xs, SqB K b H a xs → xs[i]? = some x,
    fun i H => ∃ xs : List V, SqB K b H a xs ∧ xs.length = i⟩
theorem turn_E {P : Program} {w : World} {K : PySem.W.Frag} {elts : List Expr} {kk : Nat} {tpos : Pos} (b : Bool) (a e it : Addr) :
    Turn P w K (.Tuple elts kk tpos) (ItE K b a) [e, it] e (fun i h => (∃ old, IsEnum h e it ((i : Nat) : Int) old) ∧ SeqItB b h it a i ∧ e ≠ it ∧ a ≠ it) where
  mem := by simp
  obj := fun i h st c hc => by
    obtain ⟨⟨old, he⟩, hi, _⟩ := st
    rcases List.mem_cons.mp hc with rfl | hc
    · exact ⟨_, he, fun v q => nomatch q⟩
    · rw [List.mem_singleton.mp hc]; exact hi.ob
  keep := fun i h h' st k => let ⟨⟨old, he⟩, hi, hn⟩ := st; ⟨⟨old, k e (by simp) _ he⟩, hi.keep fun o q => k it (by simp) o q, hn⟩
  item := by
    intro X hP hw hK hc i pins s σ H E I hf st hg
    subst hP hw hK
    obtain ⟨⟨old, he⟩, hit, hne, hna⟩ := st
    obtain ⟨xs, x, hq, hx⟩ := hg
    obtain ⟨its, rv, p⟩ := SqB.at I hq
    obtain ⟨u, hu, ru⟩ := rv.get hx
    have hh : X.A.handled = none := I.ok.hd hc
    have hel : e < s.heap.objs.size := Heap.lt_size he
    have nea : e ≠ a := itB_ne p he fun n xs q => nomatch q
    have hil : it < s.heap.objs.size := by obtain ⟨_, q, _⟩ := hit.ob; exact Heap.lt_size q
    have G := GoesN.enumFrom (elts := elts) (x1 := kk) (pos := tpos) 0 (draws_B (prog := X.prog) (w := X.w) (A := X.A.in1) hh b it a hna its.toArray) e hne (by simp [hne, nea]) (by simp)
    have hlt : i < its.toArray.size := by
      rw [List.size_toArray]
      exact (List.getElem?_eq_some_iff.mp hu).1
    refine thn (G.goes i s _ E hlt ⟨⟨old, by rw [Int.zero_add]; exact he⟩, hit, p⟩ fun v h' tk hY st' hk _ => ?_) fun r s1 h1 => h1
    obtain ⟨T, t, y, rfl, hT, hy, tT⟩ := hY
    have ey : y = u := by
      have e2 : its[i]? = some y := by simpa using hy
      rw [hu] at e2; exact (Option.some.inj e2).symm
    subst ey
    obtain ⟨⟨old', he'⟩, hit', p'⟩ := st'
    have new : ObjOk X.prog X.w (upd H T (.tup [.int (i : Nat), x])) h' T (.tup [.int (i : Nat), x]) :=
      ⟨by show 2 ≤ sizeLine; decide, [.int (0 + (i : Int)) t, y], .cons ⟨_, by rw [Int.zero_add]⟩ (.cons ru .nil), tT⟩
    have I1 := I.turnedNew (t' := tk) (ch := [e, it]) hk hf hT new
    refine ⟨.ref T, _, I1, rfl, ⟨T, x, rfl, I.hok.fresh hT, rfl, fun ys hy => by rw [SqB.inj I hy hq]; exact hx⟩, ⟨⟨old', by rw [Int.zero_add] at he'; exact he'⟩, hit', hne, hna⟩, fun c hcm => ?_⟩
    have hlt' : c < s.heap.objs.size := by
      rcases List.mem_cons.mp hcm with rfl | hcm
      · exact hel
      · rw [List.mem_singleton.mp hcm]; exact hil
    rw [upd_ne (Nat.ne_of_lt (Nat.lt_of_lt_of_le hlt' hT))]
    exact (hf c hcm).1
  done := by
    intro X hP hw hK hc i pins s σ H E I hf st hg
    subst hP hw hK
    obtain ⟨⟨old, he⟩, hit, hne, hna⟩ := st
    obtain ⟨xs, hq, hx⟩ := hg
    obtain ⟨its, rv, p⟩ := SqB.at I hq
    have hh : X.A.handled = none := I.ok.hd hc
    have nea : e ≠ a := itB_ne p he fun n xs q => nomatch q
    have G := GoesN.enumFrom (elts := elts) (x1 := kk) (pos := tpos) 0 (draws_B (prog := X.prog) (w := X.w) (A := X.A.in1) hh b it a hna its.toArray) e hne (by simp [hne, nea]) (by simp)
    have hn : i = its.toArray.size := by rw [List.size_toArray, ← rv.length, hx]
    subst hn
    exact thn (G.stops s (fun s1 => Inv X pins σ H s1) E ⟨⟨old, by rw [Int.zero_add]; exact he⟩, hit, p⟩ fun h' tk hk _ => I.turnedL hk hf) fun r s1 h1 => h1
  self := fun A i s Q E st h => let ⟨⟨_, he⟩, _⟩ := st; wpAny_pyIter_enum he h
theorem meets_enum1 {v : Value} {o : Obj} {C : Heap → Prop} (B : Begins v o C) : PySem.Meets (Builtin.«enumerate.__new__» ⟨[.type "enumerate", v], []⟩)
    (fun _ R s => C s.heap ∧ R (.ok (.ret (.ref (s.heap.push o).objs.size))) { s with heap := (s.heap.push o).push { cls := .type "enumerate", data := .fields #[.none, .bool false, .ref s.heap.objs.size, rawInt 0, .none, .none] } }) := .of_wp fun prog w A R s hs => by
  obtain ⟨hp, g, d, tk, os⟩ := s
  obtain ⟨hC, hR⟩ := hs
  have sub := sub_enumerate
  have it : ∀ {A' : Around} {E : Value → Shared → Prop} {Q : Value → Shared → Prop}, Q (.ref hp.objs.size) ⟨hp.push o, g, d, tk, os⟩ → wpAny (model prog w) A' (pyIter v) Q E ⟨hp, g, d, tk, os⟩ := fun q => B.iter prog w _ _ _ _ hC q
  wp_walk using it
  refine wpAny_stack_any fun st => wpAny_pure ?_
  split
  · rename_i c _ _ _ _ _
    cases (c == Value.type "enumerate") <;> (wp_walk using it) <;> exact ⟨_, rfl, hR⟩
  · wp_walk using it
    exact ⟨_, rfl, hR⟩
theorem call_enum1 {prog : Program} {w : World} {A : Around} {E : Value → Shared → Prop} {s : Shared} {v : Value} {o : Obj} {C : Heap → Prop} {Q : Value → Shared → Prop} (B : Begins v o C) (h1 : C s.heap)
    (h : ∀ h', IsEnum h' (s.heap.objs.size + 1) s.heap.objs.size 0 .none → h'.get? s.heap.objs.size = some o → (∀ b u, s.heap.get? b = some u → h'.get? b = some u) → Q (.ref (s.heap.objs.size + 1)) { s with heap := h' }) :
    wpAny (model prog w) A (call (.type "enumerate") [v]) Q E s := by
  have hz : (s.heap.push o).objs.size = s.heap.objs.size + 1 := Heap.size_push ..
  refine callType_new F.called_enumerate (by decide) (F.typeCall_enumerate_1 _) (F.newCall_enumerate_1 _) (fun obj => F.args_object_init_2 obj _) F.entry_enumerate_new (meets_enum1 B) ⟨h1, ?_⟩
  have he : IsEnum ((s.heap.push o).push { cls := .type "enumerate", data := .fields #[.none, .bool false, .ref s.heap.objs.size, rawInt 0, .none, .none] }) (s.heap.objs.size + 1) s.heap.objs.size 0 .none := by
    rw [← hz]
    exact Heap.get?_push_size _ rfl
  rw [hz]
  exact ⟨⟨_, he, rfl⟩, h _ he (Heap.get?_push_of_some _ (Heap.get?_push_size _ B.free)) fun b u x => Heap.get?_push_of_some _ (Heap.get?_push_of_some _ x)⟩
def iEnumA (K : PySem.W.Frag) (ta : TA) : TI := fun σ H R => ta σ H fun vs H1 => ∃ a b xs, vs = [.ref a] ∧ SqB K b H1 a xs ∧ R (ItE K b a) H1
theorem pi_enumA {X : Cx} {e : Expr} {ta : TA} {p pos tpos : Pos} {elts : List Expr} {kk : Nat} (hg : Gl X "enumerate") (hm : X.mg "enumerate" = none) (ha : PA X [e] ta) (hs : starEach [e] X.env = [(false, eval e X.env)] := by rfl) :
    PI X (.Tuple elts kk tpos) (.Call (.Name "enumerate" p) [e] [] pos) (iEnumA X.K ta) := ⟨fun pins s σ H R I h => Call_ (ld_blt I hg hm boot_enumerate (PyProof.Rows.callWith_type1 (thn (ha.run pos pins s σ H _ I h) fun us s1 ⟨vs, H1, I1, r1, a, b, xs, ex, hq, q⟩ => by
  subst ex
  obtain ⟨u, rfl, ru⟩ := vals1 r1
  cases ru
  obtain ⟨its, rv, p'⟩ := SqB.at I1 hq
  have al := p'.lt
  refine call_enum1 (begins_B b a its.toArray) p' fun h' he hit hk => wpAny_pyIter_enum he ?_
  refine ⟨s1.heap.objs.size + 1, [s1.heap.objs.size + 1, s1.heap.objs.size], _, _, H1, rfl, I1.kept (t' := s1.toks) hk, turn_E b a (s1.heap.objs.size + 1) s1.heap.objs.size, ⟨⟨.none, he⟩, SeqItB.new hit, Nat.succ_ne_self _, Nat.ne_of_lt al⟩, fun c hcm => ?_, q⟩
  have hle : s1.heap.objs.size ≤ c := by
    rcases List.mem_cons.mp hcm with rfl | hcm
    · exact Nat.le_succ _
    · rw [List.mem_singleton.mp hcm]; exact Nat.le_refl _
  exact I1.fpOk hle (I1.hok.fresh hle)) hs rfl))⟩
def pairsFrom (k : Nat) : List Dat → List Dat
  | [] => []
  | d :: ds => .tuple [.int (k : Nat), d] :: pairsFrom (k + 1) ds
theorem pairsFrom_len : ∀ (ds : List Dat) (k : Nat), (pairsFrom k ds).length = ds.length
  | [], _ => rfl
  | d :: ds, k => by show (pairsFrom (k + 1) ds).length + 1 = _; rw [pairsFrom_len ds]; rfl
theorem pairsFrom_get : ∀ (ds : List Dat) (k i : Nat), (pairsFrom k ds)[i]? = ds[i]?.map fun d => PyData.tuple [.int ((k + i : Nat) : Int), d]
  | [], _, _ => rfl
  | d :: ds, k, 0 => rfl
  | d :: ds, k, i + 1 => by
    show (pairsFrom (k + 1) ds)[i]? = _
    rw [pairsFrom_get ds (k + 1) i, show k + 1 + i = k + (i + 1) by omega]
    rfl
theorem WalkD.enum {K : KK} {b : Bool} {a : Addr} {vs : List V} {ds : List Dat} {G0 : Hp} (hq : SqB K.fr b G0 a vs) (dp : DpAll K G0 vs ds) : WalkD K (ItE K.fr b a) (pairsFrom 0 ds) G0 where
  goes := fun i H s hi => by
    rw [pairsFrom_len, ← dp.pvLen] at hi
    exact ⟨vs, vs[i], hq.grow s, List.getElem?_eq_getElem hi⟩
  stops := fun H s => ⟨vs, hq.grow s, by rw [pairsFrom_len, dp.pvLen]⟩
  yields := fun i H0 H x H' s s' hi y => by
    obtain ⟨T, u, rfl, hT, rfl, hu⟩ := y
    obtain ⟨d, ed, dd⟩ := dp.pvGetV (hu vs (hq.mono (s.trans s')))
    have kn := Sub.upd (o := .tup [.int (i : Nat), u]) (s'.none hT)
    refine ⟨_, _, by rw [pairsFrom_get, ed]; rfl, Ext.new s' hT, .tup (.inl (.inl upd_same)) (.cons (by rw [Nat.zero_add]; exact Dp.int _) (.cons (dp_mono (s.trans kn) _ _ dd) .nil))⟩
theorem dp_seq {K : KK} {H : Hp} {v : V} {d : Dat} {ds : List Dat} (h : Dp K H v d) (e : itemsD d = some ds) : ∃ b a vs, v = .ref a ∧ SqB K.fr b H a vs ∧ DpAll K H vs ds := by
  cases h with
  | lst h1 h2 => cases e; exact ⟨true, _, _, rfl, h1, h2⟩
  | tup h1 h2 => cases e; exact ⟨false, _, _, rfl, h1, h2⟩
  | _ => cases e
def riEnum (ra : RA) : RI := fun env R => ra env fun as => ∃ d ds, toDs as = some [d] ∧ itemsD d = some ds ∧ R (pairsFrom 0 ds)
instance {K : KK} {ta : TA} {ra : RA} [sa : SimA K ta ra] : SimI K (iEnumA K.fr ta) (riEnum ra) where
  run := fun st h q => sa.run st h fun vs as G0 G ⟨d, ds, e, ed, hr⟩ x da ap => by
    obtain ⟨I0, xI, s1, p⟩ := da.keep x e
    cases p with
    | cons p1 p2 =>
      cases p2
      obtain ⟨b, a, ws, rfl, hq, dp⟩ := dp_seq p1 ed
      exact ⟨a, b, ws, rfl, hq.mono xI.inn, q _ _ _ _ hr xI (WalkD.enum hq dp)⟩
/-! ### zip -/
def ItZ (K : PySem.W.Frag) (b c : Bool) (a a' : Addr) : It :=
  ⟨fun i H => ∃ (xs ys : List V) (x y : V), SqB K b H a xs ∧ SqB K c H a' ys ∧ xs[i]? = some x ∧ ys[i]? = some y,
   fun i H v H' => ∃ T x y, v = .ref T ∧ H T = none ∧ H' = upd H T (.tup [x, y]) ∧ (∀ xs, SqB K b H a xs → xs[i]? = some x) ∧ ∀ ys, SqB K c H a' ys → ys[i]? = some y,
   fun i H => ∃ xs ys : List V, SqB K b H a xs ∧ SqB K c H a' ys ∧ min xs.length ys.length = i⟩
theorem turn_Z {P : Program} {w : World} {K : PySem.W.Frag} {elts : List Expr} {kk : Nat} {tpos : Pos} (b c : Bool) (a a' z TI TO i1 i2 : Addr) (S : ZipSep2 z TI TO i1 i2 [i1, a] [i2, a']) (n1 : a ≠ i1) (n2 : a' ≠ i2) :
    Turn P w K (.Tuple elts kk tpos) (ItZ K b c a a') [z, TI, TO, i1, i2] z (fun i h => IsZip h z TI TO .none ∧ IsTupOf2 h TI (.ref i1) (.ref i2) ∧ (∃ x y, IsTupOf2 h TO x y) ∧ SeqItB b h i1 a i ∧ SeqItB c h i2 a' i) where
  mem := by simp
  obj := fun i h st d hd => by
    obtain ⟨hz, hTI, ⟨x, y, hTO⟩, h1, h2⟩ := st
    have e : d = z ∨ d = TI ∨ d = TO ∨ d = i1 ∨ d = i2 := by simpa using hd
    rcases e with rfl | rfl | rfl | rfl | rfl
    · exact ⟨_, hz, fun v q => nomatch q⟩
    · exact ⟨_, hTI, fun v q => nomatch q⟩
    · exact ⟨_, hTO, fun v q => nomatch q⟩
    · exact h1.ob
    · exact h2.ob
  keep := fun i h h' ⟨hz, hTI, ⟨x, y, hTO⟩, h1, h2⟩ k => ⟨k z (by simp) _ hz, k TI (by simp) _ hTI, ⟨x, y, k TO (by simp) _ hTO⟩, h1.keep fun o q => k i1 (by simp) o q, h2.keep fun o q => k i2 (by simp) o q⟩
  item := by
    intro X hP hw hK hc i pins s σ H E I hf st hg
    subst hP hw hK
    obtain ⟨hz, hTI, hTO, h1, h2⟩ := st
    obtain ⟨xs, ys, x, y, hq, hq', hx, hy⟩ := hg
    obtain ⟨its, rv, p⟩ := SqB.at I hq
    obtain ⟨its', rv', p'⟩ := SqB.at I hq'
    obtain ⟨u, hu, ru⟩ := rv.get hx
    obtain ⟨u', hu', ru'⟩ := rv'.get hy
    have hh : X.A.handled = none := I.ok.hd hc
    have G := GoesN.zip2 (elts := elts) (x1 := kk) (pos := tpos) S (draws_B (prog := X.prog) (w := X.w) (A := X.A.in1) hh b i1 a n1 its.toArray) (draws_B (prog := X.prog) (w := X.w) (A := X.A.in1) hh c i2 a' n2 its'.toArray)
    have hlt : i < min its.toArray.size its'.toArray.size := by
      rw [List.size_toArray, List.size_toArray]
      exact Nat.lt_min.mpr ⟨(List.getElem?_eq_some_iff.mp hu).1, (List.getElem?_eq_some_iff.mp hu').1⟩
    have lts : ∀ d ∈ [z, TI, TO, i1, i2], d < s.heap.objs.size := fun d hd => by
      have e : d = z ∨ d = TI ∨ d = TO ∨ d = i1 ∨ d = i2 := by simpa using hd
      rcases e with rfl | rfl | rfl | rfl | rfl
      · exact Heap.lt_size hz
      · exact Heap.lt_size hTI
      · obtain ⟨_, _, q⟩ := hTO; exact Heap.lt_size q
      · obtain ⟨_, q, _⟩ := h1.ob; exact Heap.lt_size q
      · obtain ⟨_, q, _⟩ := h2.ob; exact Heap.lt_size q
    refine thn (G.goes i s _ E hlt ⟨hz, hTI, hTO, ⟨h1, p⟩, h2, p'⟩ fun v h' tk hY st' hk _ => ?_) fun r s1 h1 => h1
    obtain ⟨T, t, t', rfl, hT, ht, ht', tT⟩ := hY
    have e1 : t = u := by
      have e2 : its[i]? = some t := by simpa using ht
      rw [hu] at e2; exact (Option.some.inj e2).symm
    have e1' : t' = u' := by
      have e2 : its'[i]? = some t' := by simpa using ht'
      rw [hu'] at e2; exact (Option.some.inj e2).symm
    subst e1 e1'
    obtain ⟨z', TI', TO', ⟨s1, _⟩, s2, _⟩ := st'
    have new : ObjOk X.prog X.w (upd H T (.tup [x, y])) h' T (.tup [x, y]) := ⟨by show 2 ≤ sizeLine; decide, [t, t'], .cons ru (.cons ru' .nil), tT⟩
    have I1 := I.turnedNew (t' := tk) (ch := [z, TI, TO, i1, i2]) (fun b o hb e => hk b o (fun hm => hb (by
      have e : b = z ∨ b = TO ∨ b = i1 ∨ b = i2 := by simpa using hm
      rcases e with rfl | rfl | rfl | rfl <;> simp)) e) hf hT new
    refine ⟨.ref T, _, I1, rfl, ⟨T, x, y, rfl, I.hok.fresh hT, rfl, fun l hl => by rw [SqB.inj I hl hq]; exact hx, fun l hl => by rw [SqB.inj I hl hq']; exact hy⟩, ⟨z', TI', TO', s1, s2⟩, fun d hd => ?_⟩
    rw [upd_ne (Nat.ne_of_lt (Nat.lt_of_lt_of_le (lts d hd) hT))]
    exact (hf d hd).1
  done := by
    intro X hP hw hK hc i pins s σ H E I hf st hg
    subst hP hw hK
    obtain ⟨hz, hTI, hTO, h1, h2⟩ := st
    obtain ⟨xs, ys, hq, hq', hx⟩ := hg
    obtain ⟨its, rv, p⟩ := SqB.at I hq
    obtain ⟨its', rv', p'⟩ := SqB.at I hq'
    have hh : X.A.handled = none := I.ok.hd hc
    have G := GoesN.zip2 (elts := elts) (x1 := kk) (pos := tpos) S (draws_B (prog := X.prog) (w := X.w) (A := X.A.in1) hh b i1 a n1 its.toArray) (draws_B (prog := X.prog) (w := X.w) (A := X.A.in1) hh c i2 a' n2 its'.toArray)
    have hn : i = min its.toArray.size its'.toArray.size := by rw [List.size_toArray, List.size_toArray, ← rv.length, ← rv'.length, hx]
    subst hn
    exact thn (G.stops s (fun s1 => Inv X pins σ H s1) E ⟨hz, hTI, hTO, ⟨h1, p⟩, h2, p'⟩ fun h' tk hk _ => I.turnedL (ch := [z, TI, TO, i1, i2]) (fun b o hb e => hk b o (fun hm => hb (by
      have e : b = z ∨ b = TO ∨ b = i1 ∨ b = i2 := by simpa using hm
      rcases e with rfl | rfl | rfl | rfl <;> simp)) e) hf) fun r s1 h1 => h1
  self := fun A i s Q E st h => wpAny_pyIter_zip st.1 h
def iZipB (K : PySem.W.Frag) (ta : TA) : TI := fun σ H R => ta σ H fun vs H1 => ∃ a a' b c xs ys, vs = [.ref a, .ref a'] ∧ SqB K b H1 a xs ∧ SqB K c H1 a' ys ∧ R (ItZ K b c a a') H1
theorem pi_zipB {X : Cx} {e e2 : Expr} {ta : TA} {p pos tpos : Pos} {elts : List Expr} {kk : Nat} (hg : Gl X "zip") (hm : X.mg "zip" = none) (ha : PA X [e, e2] ta)
    (hs : starEach [e, e2] X.env = (false, eval e X.env) :: starEach [e2] X.env := by rfl) (hpl : (backTo pos (starEach [e2] X.env)).any (·.1) = false := by rfl) : PI X (.Tuple elts kk tpos) (.Call (.Name "zip" p) [e, e2] [] pos) (iZipB X.K ta) :=
  ⟨fun pins s σ H R I h => Call_ (ld_blt I hg hm PyProof.Rows.boot_zip (PyProof.Rows.callWith_type1 (thn (ha.run pos pins s σ H _ I h) fun us s1 ⟨vs, H1, I1, r1, a, a', b, c, xs, ys, ex, hq, hq', q⟩ => by
  subst ex
  obtain ⟨u, u', rfl, ru, ru'⟩ := vals2 r1
  cases ru
  cases ru'
  obtain ⟨its, rv, p1⟩ := SqB.at I1 hq
  obtain ⟨its', rv', p2⟩ := SqB.at I1 hq'
  have al := p1.lt
  have al' := p2.lt
  refine zip_begins2 (begins_B b a its.toArray) (begins_B c a' its'.toArray) p1 p2 fun h' hz hTI hTO g1 g2 _ hk => wpAny_pyIter_zip hz ?_
  refine ⟨s1.heap.objs.size + 4, [s1.heap.objs.size + 4, s1.heap.objs.size + 2, s1.heap.objs.size + 3, s1.heap.objs.size, s1.heap.objs.size + 1], _, _, H1, rfl, I1.kept (t' := s1.toks) hk,
    turn_Z b c a a' _ _ _ _ _ (zip_sep2 (fp1 := [a]) (fp2 := [a']) (by intro x hx; rw [List.mem_singleton.mp hx]; exact al) (by intro x hx; rw [List.mem_singleton.mp hx]; exact al')) (Nat.ne_of_lt al) (Nat.ne_of_lt (Nat.lt_succ_of_lt al')),
    ⟨hz, hTI, ⟨_, _, hTO⟩, SeqItB.new g1, SeqItB.new g2⟩, fun d hd => ?_, q⟩
  have e : d = s1.heap.objs.size + 4 ∨ d = s1.heap.objs.size + 2 ∨ d = s1.heap.objs.size + 3 ∨ d = s1.heap.objs.size ∨ d = s1.heap.objs.size + 1 := by simpa using hd
  have hle : s1.heap.objs.size ≤ d := by
    rcases e with rfl | rfl | rfl | rfl | rfl <;> first | exact Nat.le_add_right _ _ | exact Nat.le_refl _
  exact I1.fpOk hle (I1.hok.fresh hle)) hs hpl))⟩
def zipD : List Dat → List Dat → List Dat
  | x :: xs, y :: ys => .tuple [x, y] :: zipD xs ys
  | _, _ => []
theorem zipD_len : ∀ (xs ys : List Dat), (zipD xs ys).length = min xs.length ys.length
  | [], ys => by simp [zipD]
  | x :: xs, [] => by simp [zipD]
  | x :: xs, y :: ys => by
    show (zipD xs ys).length + 1 = _
    rw [zipD_len xs ys, List.length_cons, List.length_cons]
    omega
theorem zipD_get : ∀ (xs ys : List Dat) (i : Nat) (x y : Dat), xs[i]? = some x → ys[i]? = some y → (zipD xs ys)[i]? = some (.tuple [x, y])
  | [], _, _, _, _, h, _ => by simp at h
  | _ :: _, [], _, _, _, _, h => by simp at h
  | a :: xs, b :: ys, 0, x, y, h, h' => by simp at h h'; subst h h'; rfl
  | a :: xs, b :: ys, i + 1, x, y, h, h' => zipD_get xs ys i x y (by simpa using h) (by simpa using h')
theorem WalkD.zip {K : KK} {b c : Bool} {a a' : Addr} {vs ws : List V} {ds es : List Dat} {G0 : Hp} (hq : SqB K.fr b G0 a vs) (dp : DpAll K G0 vs ds) (hq' : SqB K.fr c G0 a' ws) (dp' : DpAll K G0 ws es) : WalkD K (ItZ K.fr b c a a') (zipD ds es) G0 where
  goes := fun i H s hi => by
    rw [zipD_len, ← dp.pvLen, ← dp'.pvLen] at hi
    obtain ⟨h1, h2⟩ := Nat.lt_min.mp hi
    exact ⟨vs, ws, vs[i], ws[i], hq.grow s, hq'.grow s, List.getElem?_eq_getElem h1, List.getElem?_eq_getElem h2⟩
  stops := fun H s => ⟨vs, ws, hq.grow s, hq'.grow s, by rw [zipD_len, dp.pvLen, dp'.pvLen]⟩
  yields := fun i H0 H x H' s s' hi y => by
    obtain ⟨T, u, u', rfl, hT, rfl, hu, hu'⟩ := y
    obtain ⟨d, ed, dd⟩ := dp.pvGetV (hu vs (hq.mono (s.trans s')))
    obtain ⟨d', ed', dd'⟩ := dp'.pvGetV (hu' ws (hq'.mono (s.trans s')))
    have kn := Sub.upd (o := .tup [u, u']) (s'.none hT)
    exact ⟨_, _, zipD_get _ _ _ _ _ ed ed', Ext.new s' hT, .tup (.inl (.inl upd_same)) (.cons (dp_mono (s.trans kn) _ _ dd) (.cons (dp_mono (s.trans kn) _ _ dd') .nil))⟩
def riZip (ra : RA) : RI := fun env R => ra env fun as => ∃ d e ds es, toDs as = some [d, e] ∧ itemsD d = some ds ∧ itemsD e = some es ∧ R (zipD ds es)
instance {K : KK} {ta : TA} {ra : RA} [sa : SimA K ta ra] : SimI K (iZipB K.fr ta) (riZip ra) where
  run := fun st h q => sa.run st h fun vs as G0 G ⟨d, e', ds, es, e, ed, ee, hr⟩ x da ap => by
    obtain ⟨I0, xI, s1, p⟩ := da.keep x e
    cases p with
    | cons p1 p2 =>
      cases p2 with
      | cons p3 p4 =>
        cases p4
        obtain ⟨b, a, ws, rfl, hq, dp⟩ := dp_seq p1 ed
        obtain ⟨c, a', ws', rfl, hq', dp'⟩ := dp_seq p3 ee
        exact ⟨a, a', b, c, ws, ws', rfl, hq.mono xI.inn, hq'.mono xI.inn, q _ _ _ _ hr xI (WalkD.zip hq dp hq' dp')⟩
end PV
namespace PV
open PySem PySem.Spec PyProof.Rows L2 -- pv
theorem nox_K {CX : CXT} {P : Program} {w : World} {K : PySem.W.Frag} {mg : Str → Option Value} {base : Heap} {N : List Str} {qual : Str} {scope : Scope} {f : Addr} {cd : Value} {A : Around} {outer : List PySem.Env} {s : Shared} {H : Hp} {E : XK} :
    (cxOf CX P w K mg base N qual scope f cd A outer s H E).nox.K = K := rfl
theorem blk_K {X : Cx} {s : Shared} {H : Hp} {sc : Scope} {e : PySem.Env} {fp : List Addr} : (X.blk s H sc e fp).K = X.K := rfl
end PV

/-! PvTool: promises as functions; loops and comprehensions by lists. -/
namespace PV
open PySem PySem.Spec PyProof.Rows L2 -- pv
def Sfn {α : Type} (enc : α → List Dat) (pre : α → Prop) (res : α → Dat) : List Dat → (Dat → Prop) → Prop := fun ds R => ∃ a, ds = enc a ∧ pre a ∧ R (res a)
instance {α : Type} {enc : α → List Dat} {pre : α → Prop} {res : α → Dat} : FMono (Sfn enc pre res) := ⟨fun m ⟨a, e, p, h⟩ => ⟨a, e, p, m _ h⟩⟩
theorem sfn_len {α : Type} {enc : α → List Dat} {pre : α → Prop} {res : α → Dat} {ds : List Dat} {R : Dat → Prop} {n : Nat} (h : Sfn enc pre res ds R) (hn : ∀ a, (enc a).length = n) : ds.length = n := by
  obtain ⟨a, rfl, _⟩ := h; exact hn a
theorem sfn_use {α : Type} {enc : α → List Dat} {pre : α → Prop} {res : α → Dat} {R : Dat → Prop} (a : α) (p : pre a) (h : R (res a)) : Sfn enc pre res (enc a) R := ⟨a, rfl, p, h⟩
theorem for_intro {α : Type} {ri : RI} {g : RG} {rb : RS} {E : Ed} {env : En} (xs : List α) (enc : α → Dat) (hri : ∀ Q : List Dat → Prop, Q (xs.map enc) → ri env Q) (I : List α → List α → En → Prop) (h0 : I [] xs env)
    (hs : ∀ (pre : List α) (x : α) (post : List α) (env : En) (N : En → Prop), xs = pre ++ x :: post → I pre (x :: post) env → (∀ e, I (pre ++ [x]) post e → N e) → g (enc x) env fun env2 => rb { E with nx := N, ct := N, bk := E.nx } env2)
    (he : ∀ env, I xs [] env → E.nx env) : rFor ri g rb E env := by
  refine hri _ ⟨fun i e => ∃ pre post, xs = pre ++ post ∧ pre.length = i ∧ I pre post e, ⟨[], xs, rfl, rfl, h0⟩, fun i e d hd ⟨pre, post, hx, hl, hi⟩ => ?_, fun e ⟨pre, post, hx, hl, hi⟩ => ?_⟩
  · cases post with
    | nil =>
      exfalso
      rw [List.append_nil] at hx
      rw [List.getElem?_map, hx, ← hl, List.getElem?_eq_none (Nat.le_refl _)] at hd
      cases hd
    | cons x post =>
      have ex : xs[i]? = some x := by rw [hx, ← hl, List.getElem?_append_right (Nat.le_refl _), Nat.sub_self]; rfl
      rw [List.getElem?_map, ex] at hd
      cases hd
      exact hs pre x post e _ hx hi fun e' h' => ⟨pre ++ [x], post, by rw [hx, List.append_assoc]; rfl, by rw [List.length_append, hl]; rfl, h'⟩
  · have : post = [] := by
      cases post with
      | nil => rfl
      | cons x post => rw [hx, List.length_map, List.length_append, List.length_cons] at hl; omega
    subst this
    rw [List.append_nil] at hx
    subst hx
    exact he e hi
theorem lc_intro {α : Type} {ri : RI} {g : RG} {ws : List Nat} {rt : RT} {re : RE} {vs : List Nat} {env : En} {R : Rs → Prop} (xs : List α) (enc : α → Dat) (f : α → Option Dat) (hri : ∀ Q : List Dat → Prop, Q (xs.map enc) → ri env Q) (hz : xs.length ≤ sizeLine)
    (hs : ∀ (x : α) (N : Option Dat → Prop), x ∈ xs → N (f x) → g (enc x) (wipeE env vs) fun env2 => rt env2 fun b => if b = true then re env2 fun s => ∃ y, s.toD = some y ∧ N (some y) else N none)
    (h : R (.fresh (xs.filterMap f))) (hw : (ws.all fun j => decide (j ∈ vs)) = true := by decide) : rLc ri g ws rt re vs env R := by
  refine hri _ ⟨hw, fun i acc => i ≤ xs.length ∧ acc = (xs.take i).filterMap f, ⟨Nat.zero_le _, rfl⟩, fun i d acc hd ⟨hi, ha⟩ => ?_, fun acc ⟨hi, ha⟩ => ?_⟩
  · rw [List.getElem?_map] at hd
    cases ex : xs[i]? with
    | none => rw [ex] at hd; cases hd
    | some x =>
      rw [ex] at hd
      cases hd
      obtain ⟨hlt, _⟩ := List.getElem?_eq_some_iff.mp ex
      have et : xs.take (i + 1) = xs.take i ++ [x] := by rw [List.take_add_one, ex]; rfl
      have hal : acc.length < sizeLine := by
        have : acc.length ≤ i := by rw [ha]; exact Nat.le_trans (List.length_filterMap_le _ _) (by rw [List.length_take]; exact Nat.min_le_left _ _)
        omega
      refine hs x (fun o => match o with
        | some y => acc.length < sizeLine ∧ (i + 1 ≤ xs.length ∧ acc ++ [y] = (xs.take (i + 1)).filterMap f)
        | none => i + 1 ≤ xs.length ∧ acc = (xs.take (i + 1)).filterMap f) (List.mem_of_getElem? ex) ?_
      rw [et, List.filterMap_append, ← ha]
      cases ef : f x with
      | none => simp [ef]; omega
      | some y => simp [ef]; omega
  · rw [List.length_map, List.take_length] at ha
    rw [ha]
    exact h
def dInts (xs : List Int) : List Dat := xs.map PyData.int
theorem dInts_map (xs : List Int) : dInts xs = xs.map PyData.int := rfl
theorem fm_some {α β : Type} (xs : List α) (f : α → β) : xs.filterMap (fun x => some (f x)) = xs.map f := by
  induction xs with
  | nil => rfl
  | cons x xs ih => simp [ih]
theorem fm_if {α β : Type} (xs : List α) (p : α → Bool) (f : α → β) : xs.filterMap (fun x => if p x = true then some (f x) else none) = (xs.filter p).map f := by
  induction xs with
  | nil => rfl
  | cons x xs ih => by_cases h : p x = true <;> simp [h, ih]
theorem pairs_map {α : Type} (e : α → Dat) : ∀ (xs : List α) (k : Nat), pairsFrom k (xs.map e) = (xs.zipIdx k).map fun p => PyData.tuple [.int p.2, e p.1]
  | [], _ => rfl
  | x :: xs, k => by
    show PyData.tuple [.int k, e x] :: pairsFrom (k + 1) (xs.map e) = _
    rw [pairs_map e xs (k + 1)]
    rfl
theorem zipD_map {α β : Type} (e : α → Dat) (e' : β → Dat) : ∀ (xs : List α) (ys : List β), zipD (xs.map e) (ys.map e') = (xs.zip ys).map fun p => PyData.tuple [e p.1, e' p.2]
  | [], _ => by simp [zipD]
  | x :: xs, [] => by simp [zipD]
  | x :: xs, y :: ys => by
    show PyData.tuple [e x, e' y] :: zipD (xs.map e) (ys.map e') = _
    rw [zipD_map e e' xs ys]
    rfl
theorem intsFrom_map (a : Int) (n : Nat) : intsFrom a n = (List.range n).map fun (i : Nat) => PyData.int (a + i) := rfl
end PV
namespace PV
open PySem PySem.Spec PyProof.Rows L2 -- pv
section
variable {X : Cx} {K : KK}
theorem ix_seqK (h : X.K = K.fr) : IxR X (rIx K.fr) := h ▸ ix_seq
theorem pi_enumK {e : Expr} {ta : TA} {p pos tpos : Pos} {elts : List Expr} {kk : Nat} (h : X.K = K.fr) (hg : Gl X "enumerate") (hm : X.mg "enumerate" = none) (ha : PA X [e] ta) (hs : starEach [e] X.env = [(false, eval e X.env)] := by rfl) :
    PI X (.Tuple elts kk tpos) (.Call (.Name "enumerate" p) [e] [] pos) (iEnumA K.fr ta) := h ▸ pi_enumA hg hm ha hs
theorem pi_zipK {e e2 : Expr} {ta : TA} {p pos tpos : Pos} {elts : List Expr} {kk : Nat} (h : X.K = K.fr) (hg : Gl X "zip") (hm : X.mg "zip" = none) (ha : PA X [e, e2] ta)
    (hs : starEach [e, e2] X.env = (false, eval e X.env) :: starEach [e2] X.env := by rfl) (hpl : (backTo pos (starEach [e2] X.env)).any (·.1) = false := by rfl) : PI X (.Tuple elts kk tpos) (.Call (.Name "zip" p) [e, e2] [] pos) (iZipB K.fr ta) := h ▸ pi_zipB hg hm ha hs hpl
theorem pg_tupK {pos : Pos} {es : List Expr} {k : Nat} {t : TGs} {n : Nat} (hK : X.K = K.fr) (hc : X.calm = true) (h : PGs X es t)
    (hn : (assignEach es X.env).length = n := by rfl) (hst : (assignEach es X.env).findIdx? (·.1) = none := by rfl) : PG X (.Tuple es k pos) (gTup K.fr n t) := hK ▸ pg_tup hc h hn hst
end
end PV
namespace PV
open PySem PySem.Spec PyProof.Rows L2 -- pv
def rYes : RT := fun _ R => R true
instance {K : KK} : SimT K tYes rYes := ⟨fun st h q => q true _ _ h (Ext.refl st.inn)⟩
end PV
namespace PV
open PySem PySem.Spec PyProof.Rows L2 -- pv
/-- a promise by what is true of the answer -/
def Srel {α β : Type} (enc : α → List Dat) (pre : α → Prop) (post : α → β → Prop) (res : β → Dat) : List Dat → (Dat → Prop) → Prop := fun ds R => ∃ a, ds = enc a ∧ pre a ∧ ∀ b, post a b → R (res b)
instance {α β : Type} {enc : α → List Dat} {pre : α → Prop} {post : α → β → Prop} {res : β → Dat} : FMono (Srel enc pre post res) := ⟨fun m ⟨a, e, p, h⟩ => ⟨a, e, p, fun b q => m _ (h b q)⟩⟩
theorem srel_len {α β : Type} {enc : α → List Dat} {pre : α → Prop} {post : α → β → Prop} {res : β → Dat} {ds : List Dat} {R : Dat → Prop} {n : Nat} (h : Srel enc pre post res ds R) (hn : ∀ a, (enc a).length = n) : ds.length = n := by
  obtain ⟨a, rfl, _⟩ := h; exact hn a
end PV
namespace PV
open PySem PySem.Spec PyProof.Rows L2 -- pv
theorem for_introR {α β : Type} {ri : RI} {g : RG} {rb : RS} {E : Ed} {env : En} (Px : β → Prop) (xs : β → List α) (enc : α → Dat) (hri : ∀ Q : List Dat → Prop, (∀ b, Px b → Q ((xs b).map enc)) → ri env Q) (I : β → List α → List α → En → Prop) (h0 : ∀ b, Px b → I b [] (xs b) env)
    (hs : ∀ b, Px b → ∀ (pre : List α) (x : α) (post : List α) (env : En) (N : En → Prop), xs b = pre ++ x :: post → I b pre (x :: post) env → (∀ e, I b (pre ++ [x]) post e → N e) → g (enc x) env fun env2 => rb { E with nx := N, ct := N, bk := E.nx } env2)
    (he : ∀ b, Px b → ∀ env, I b (xs b) [] env → E.nx env) : rFor ri g rb E env :=
  hri _ fun b pb => for_intro (ri := fun _ Q => Q ((xs b).map enc)) (xs b) enc (fun _ h => h) (I b) (h0 b pb) (hs b pb) (he b pb)
theorem lc_introR {α β : Type} {ri : RI} {g : RG} {ws : List Nat} {rt : RT} {re : RE} {vs : List Nat} {env : En} {R : Rs → Prop} (Px : β → Prop) (xs : β → List α) (enc : α → Dat) (f : α → Option Dat) (hri : ∀ Q : List Dat → Prop, (∀ b, Px b → Q ((xs b).map enc)) → ri env Q) (hz : ∀ b, Px b → (xs b).length ≤ sizeLine)
    (hs : ∀ b, Px b → ∀ (x : α) (N : Option Dat → Prop), x ∈ xs b → N (f x) → g (enc x) (wipeE env vs) fun env2 => rt env2 fun b => if b = true then re env2 fun s => ∃ y, s.toD = some y ∧ N (some y) else N none)
    (h : ∀ b, Px b → R (.fresh ((xs b).filterMap f))) (hw : (ws.all fun j => decide (j ∈ vs)) = true := by decide) : rLc ri g ws rt re vs env R :=
  hri _ fun b pb => lc_intro (ri := fun _ Q => Q ((xs b).map enc)) (xs b) enc f (fun _ h => h) (hz b pb) (hs b pb) (h b pb) hw
/-! data that may be compared -/
theorem shaped_of {d : Dat} (h1 : d.canLay0 = true) (h2 : d.depth ≤ 64) : SeqAt.shaped d = true := by
  show (d.canLay0 && decide (d.depth ≤ 64)) = true
  rw [h1, decide_eq_true h2]; rfl
theorem canLayAll_of {ds : List Dat} (h : ∀ d ∈ ds, d.canLay0 = true) : PyData.canLayAll0 ds = true := by
  induction ds with
  | nil => simp only [PyData.canLayAll0]
  | cons d ds ih =>
    simp only [PyData.canLayAll0, Bool.and_eq_true]
    exact ⟨h d List.mem_cons_self, ih fun e he => h e (List.mem_cons_of_mem _ he)⟩
theorem depthAll_of {ds : List Dat} {n : Nat} (h : ∀ d ∈ ds, d.depth ≤ n) : PyData.depthAll ds ≤ n := by
  induction ds with
  | nil => simp only [PyData.depthAll]; omega
  | cons d ds ih =>
    have h1 := h d List.mem_cons_self
    have h2 := ih fun e he => h e (List.mem_cons_of_mem _ he)
    simp only [PyData.depthAll]
    omega
theorem shaped_list {ds : List Dat} (h : ∀ d ∈ ds, d.canLay0 = true ∧ d.depth ≤ 60) : SeqAt.shaped (.list ds) = true := by
  refine shaped_of (by simp only [PyData.canLay0]; exact canLayAll_of fun d hd => (h d hd).1) ?_
  have := depthAll_of fun d hd => (h d hd).2
  simp only [PyData.depth]
  omega
theorem shaped_tuple {ds : List Dat} (h : ∀ d ∈ ds, d.canLay0 = true ∧ d.depth ≤ 60) : SeqAt.shaped (.tuple ds) = true := by
  refine shaped_of (by simp only [PyData.canLay0]; exact canLayAll_of fun d hd => (h d hd).1) ?_
  have := depthAll_of fun d hd => (h d hd).2
  simp only [PyData.depth]
  omega
theorem lay_int (i : Int) : (PyData.int i).canLay0 = true ∧ (PyData.int i).depth ≤ 60 := by simp [PyData.canLay0, PyData.depth]
theorem lay_none : (PyData.none).canLay0 = true ∧ (PyData.none).depth ≤ 60 := by simp [PyData.canLay0, PyData.depth]
theorem shaped_ints (xs : List Int) : SeqAt.shaped (.tuple (dInts xs)) = true ∧ SeqAt.shaped (.list (dInts xs)) = true := by
  have h : ∀ d ∈ dInts xs, d.canLay0 = true ∧ d.depth ≤ 60 := fun d hd => by
    obtain ⟨i, _, rfl⟩ := List.mem_map.mp hd
    exact lay_int i
  exact ⟨shaped_tuple h, shaped_list h⟩
theorem eqv_self {d : Dat} (h : SeqAt.shaped d = true) : PyData.eqv d d = true := SeqAt.eqv_refl d (SeqAt.canLay_of_shaped h)
end PV

/-! PvMore: a whole number in a list or tuple of whole numbers; equality of data built from numbers. -/
namespace PV
open PySem PySem.Spec PyProof.Rows L2 -- pv
theorem inV_ints (i : Int) : ∀ xs : List Int, inV (.int i) (xs.map V.int) = decide (i ∈ xs)
  | [] => rfl
  | x :: xs => by
    have ih := inV_ints i xs
    unfold inV at ih ⊢
    rw [List.map_cons, List.any_cons, ih, Bool.eq_iff_iff]
    show ((x == i) || decide (i ∈ xs)) = true ↔ _
    rw [Bool.or_eq_true, beq_iff_eq, decide_eq_true_iff, decide_eq_true_iff, List.mem_cons]
    constructor
    · rintro (h | h)
      · exact .inl h.symm
      · exact .inr h
    · rintro (h | h)
      · exact .inl h.symm
      · exact .inr h
theorem flat_ints (xs : List Int) : (xs.map V.int).all flatV = true := by
  rw [List.all_eq_true]
  intro v hv
  obtain ⟨i, _, rfl⟩ := List.mem_map.mp hv
  rfl
theorem dints_inv {K : KK} {H : Hp} : ∀ {vs : List V} {xs : List Int}, DpAll K H vs (dInts xs) → vs = xs.map V.int
  | _, [], h => by cases h; rfl
  | _, x :: xs, h => by
    cases h with
    | cons h1 h2 =>
      cases h1
      rw [dints_inv h2]
      rfl
/-- i in xs, numbers -/
def pInI (f : Bool → Bool) : R2p := fun a b R => ∃ i xs, a.rd = .int i ∧ itemsD b.rd = some (dInts xs) ∧ R (.val (.bool (f (decide (i ∈ xs)))))
theorem pInI_run {K : KK} (neg : Bool) {F B0 B Hs H0 H : Hp} {σ : St} {env : En} {x y : V} {a b : Rs} {Q : VK} {R : Rs → Prop} (st : StOk K F B0 B H0 H σ env) (da : Den K Hs H0 H σ env x a) (db : Den K Hs H0 H σ env y b)
    (h : pInI (fun c => if neg then !c else c) a b R) (q : Aft K H0 H σ env R Q) : rIn K.fr neg x y H Q := by
  obtain ⟨i, xs, ea, eb, h⟩ := h
  have e1 := da.asInt st ea
  subst e1
  obtain ⟨G, g1, g2, g3⟩ := db.read st
  obtain ⟨c, p, vs, rfl, hq, dp⟩ := dp_seq g3 eb
  have ev := dints_inv dp
  subst ev
  refine ⟨p, _, rfl, ?_, rfl, flat_ints xs, ?_⟩
  · cases c with
    | true => exact .inl (g2.sqL hq)
    | false => exact .inr (g2.sqT hq)
  · rw [inV_ints]
    exact q.at st h (Dp.bl _)
instance {K : KK} : Im2 K (rIn K.fr false) (pInI id) := ⟨fun st da db h q => pInI_run false st da db h q⟩
instance {K : KK} : Im2 K (rIn K.fr true) (pInI not) := ⟨fun st da db h q => pInI_run true st da db h q⟩
theorem op_inK {X : Cx} {K : KK} (h : X.K = K.fr) : OpR X (compareOp .In) (rIn K.fr false) := h ▸ op_in_seq
theorem op_notInK {X : Cx} {K : KK} (h : X.K = K.fr) : OpR X (compareOp .NotIn) (rIn K.fr true) := h ▸ op_notIn_seq
/-! data of numbers and None -/
theorem eqv_int (i j : Int) : PyData.eqv (.int i) (.int j) = decide (i = j) := by
  simp only [PyData.eqv]
  rw [Bool.eq_iff_iff, beq_iff_eq, decide_eq_true_iff]
theorem eqvAll_ints : ∀ xs ys : List Int, PyData.eqvAll (dInts xs) (dInts ys) = decide (xs = ys)
  | [], [] => by simp [dInts, PyData.eqvAll]
  | [], y :: ys => by simp [dInts, PyData.eqvAll]
  | x :: xs, [] => by simp [dInts, PyData.eqvAll]
  | x :: xs, y :: ys => by
    show PyData.eqvAll (.int x :: dInts xs) (.int y :: dInts ys) = _
    simp only [PyData.eqvAll]
    rw [eqv_int, eqvAll_ints xs ys, Bool.eq_iff_iff]
    simp
theorem eqv_tints (xs ys : List Int) : PyData.eqv (.tuple (dInts xs)) (.tuple (dInts ys)) = decide (xs = ys) := by
  simp only [PyData.eqv]
  exact eqvAll_ints xs ys
theorem eqv_lints (xs ys : List Int) : PyData.eqv (.list (dInts xs)) (.list (dInts ys)) = decide (xs = ys) := by
  simp only [PyData.eqv]
  exact eqvAll_ints xs ys
/-! a, b = x, y where a name is a cell: the pair is made and unpacked; a new list stays the name's own -/
def gNames : List Nat → TGs
  | [] => gNil
  | i :: is => gCons (gName i) (gNames is)
def tUnp (K : KK) (is : List Nat) (ta : TA) : TS := tAsg (tTup ta) (gTup K.fr is.length (gNames is))
theorem ps_unp {X : Cx} {K : KK} (is : List Nat) {tg e : Expr} {ta : TA} {pos : Pos} (he : PE X e (tTup ta)) (hg : PG X tg (gTup K.fr is.length (gNames is))) (hs : swapsWithSole [tg] e pos.line X.env = pure false := by rfl) (hw : swappedStores [tg] e X.env = pure none := by rfl)
    (h1 : (assignEach [tg] X.env).map (·.2) = [assign tg X.env] := by rfl) : PS X (.Assign [tg] e pos) (tUnp K is ta) := ps_asg he hg hs hw h1
def rUnp (is : List Nat) (ra : RA) : RS := fun E env => ra env fun as => ∃ env', as.length ≤ sizeLine ∧ putMany env is as = some env' ∧ E.nx env'
theorem gNames_go {Q : St → Hp → Prop} {H : Hp} : ∀ (is : List Nat) (vs : List V) (σ : St), is.length = vs.length → Q (setMany σ is vs) H → gNames is vs σ H Q
  | [], [], σ, _, h => ⟨rfl, h⟩
  | i :: is, v :: vs, σ, e, h => ⟨v, vs, rfl, gNames_go is vs _ (by simpa using e) h⟩
  | [], _ :: _, _, e, _ => by simp at e
  | _ :: _, [], _, e, _ => by simp at e
theorem putAll_len : ∀ {is : List Nat} {rs : List Rs} {env env' : En}, putMany env is rs = some env' → is.length = rs.length
  | [], [], _, _, _ => rfl
  | i :: is, r :: rs, env, env', e => by
    unfold putMany at e
    split at e
    · rw [List.length_cons, List.length_cons, putAll_len e]
    · cases e
  | [], _ :: _, _, _, e => by cases e
  | _ :: _, [], _, _, e => by cases e
theorem DenAll.len {K : KK} {Hs H0 H : Hp} {σ : St} {env : En} : ∀ {vs : List V} {rs : List Rs}, DenAll K Hs H0 H σ env vs rs → vs.length = rs.length
  | _, _, .nil => rfl
  | _, _, .cons _ t => by rw [List.length_cons, List.length_cons, DenAll.len t]
theorem DenAll.goAll {K : KK} {Hs H0 H H0' H' : Hp} {σ : St} {env : En} (x : Ext K H0 H H0' H') : ∀ {vs : List V} {rs : List Rs}, DenAll K Hs H0 H σ env vs rs → DenAll K Hs H0' H' σ env vs rs
  | _, _, .nil => .nil
  | _, _, .cons d t => .cons (d.go x) (DenAll.goAll x t)
instance {K : KK} {is : List Nat} {ta : TA} {ra : RA} [sa : SimA K ta ra] : SimS K (tUnp K is ta) (rUnp is ra) where
  run := by
    intro F B0 B H0 H σ env D E st h m
    refine sa.run st h fun vs as G0 G ⟨env', hz, e, hn⟩ x da ap => ?_
    have hl := da.len
    have hi := putAll_len e
    refine ⟨by rw [hl]; exact hz, fun o ho => ⟨o, vs, rfl, .inl (.inl upd_same), by rw [hl, hi], ?_⟩⟩
    have y : Ext K G0 G G0 (upd G o (.tup vs)) := Ext.hid x.inn ho
    exact gNames_go is vs σ (by rw [hl, hi]) (m.nx hn (StOk.many (is := is) (fun o h => st.ext.act.none h) (st.go (x.trans y)) (da.goAll y) ap (st.newApart da) e))
end PV

/-! PvEz: enumerate over a zip. The zip's own tuple is held by the pair that enumerate gives, so its next draw may find it taken: both ways are walked. -/
namespace PV
open PySem PySem.Spec PyProof.Rows L2 -- pv
section
variable {prog : Program} {w : World} {A : Around} {E : Value → Shared → Prop} {s : Shared} {z TI TO j1 j2 : Addr} {F1 F2 : List Addr} {m1 m2 i : Nat} {P1 P2 : Nat → Value → Prop} {S1 S2 : Nat → Heap → Prop} {c1 c2 : Value}
/-- a zip's record, its first two fields open -/
abbrev ZR (h : Heap) (z TI TO : Addr) (u : Value) (b : Bool) : Prop := h.get? z = some { cls := .type "zip", dict := none, data := .fields #[u, .bool b, .bool false, .ref TI, .ref TO], slots := #[] }
def Held (u : Value) : Prop := u = .none ∨ ∃ T : Nat, u = rawInt T
theorem alive_any {a : Addr} {Q : Option Obj → Shared → Prop} (h : Q (s.heap.get? a) s) : wpAny (model prog w) A (loadIfAlive a) Q E s := fun Γ p _ => by
  show Sem.wp (model prog w) Γ (.loadIfAlive a .pure) _ _ _ _
  rw [Sem.wp_loadIfAlive]
  exact h
theorem zfree {u : Value} {b : Bool} {Q : Bool → Shared → Prop} (hr : ZR s.heap z TI TO u b) (hu : Held u) (hQ : ∀ r b' h', ZR h' z TI TO u b' → Heap.SameBut z s.heap h' → Q r { s with heap := h' }) :
    wpAny (model prog w) A (Builtin.SmallTypes.ownedTupleIsFree (.ref z)) Q E s := by
  unfold Builtin.SmallTypes.ownedTupleIsFree
  rcases hu with rfl | ⟨T, rfl⟩
  · exact wpAny_bind (wpAny_field hr rfl rfl (wpAny_pure (hQ true b s.heap hr (Heap.SameBut.refl _ _))))
  · refine wpAny_bind (wpAny_field hr rfl (x := rawInt T) rfl ?_)
    refine wpAny_bind (alive_any ?_)
    cases s.heap.get? (T : Int).toNat with
    | none => exact wpAny_pure (hQ true b s.heap hr (Heap.SameBut.refl _ _))
    | some o =>
      refine wpAny_bind (wpAny_field hr rfl (x := .bool b) rfl ?_)
      cases b with
      | true => exact wpAny_pure (hQ false true s.heap hr (Heap.SameBut.refl _ _))
      | false => exact wpAny_bind (wpAny_setField_rec hr (by simp) fun h' e k => wpAny_pure (hQ false true h' e k))
theorem zdraw {u : Value} {b : Bool} {Q : Value → Shared → Prop} (S : ZipSep2 z TI TO j1 j2 F1 F2) (D1 : Draws prog w A j1 F1 m1 P1 S1) (D2 : Draws prog w A j2 F2 m2 P2 S2) (hr : ZR s.heap z TI TO u b) (hu : Held u) (hI : IsTupOf2 s.heap TI (.ref j1) (.ref j2)) (hO : IsTupOf2 s.heap TO c1 c2)
    (t1 : S1 i s.heap) (t2 : S2 i s.heap) (l1 : i < m1) (l2 : i < m2)
    (hQ : ∀ x1 x2 T h' tk, P1 i x1 → P2 i x2 → (∃ u b, Held u ∧ ZR h' z TI TO u b) → (∃ a1 a2, IsTupOf2 h' TO a1 a2) → S1 (i + 1) h' → S2 (i + 1) h' → s.heap.objs.size ≤ T → IsTupOf2 h' T x1 x2 →
      (∀ c o, c ≠ z → c ≠ TO → c ≠ j1 → c ≠ j2 → s.heap.get? c = some o → h'.get? c = some o) → Q (.ref T) { s with heap := h', toks := tk }) :
    wpAny (model prog w) A (Builtin.«zip.__next__» ⟨[.ref z], []⟩) (fun fin s' => ∃ v, fin = .done (.ret v) ∧ Q v s') E s := by
  obtain ⟨hp, gg, dd, k0, oo⟩ := s
  dsimp only at hr hI hO t1 t2 hQ
  show wpAny _ _ (field (.ref z) 2 >>= _) _ _ (⟨hp, gg, dd, k0, oo⟩ : Shared)
  refine wpAny_bind (wpAny_field (s := ⟨hp, gg, dd, k0, oo⟩) hr rfl (x := .bool false) rfl ?_)
  show wpAny _ _ (field (.ref z) 3 >>= _) _ _ (⟨hp, gg, dd, k0, oo⟩ : Shared)
  refine wpAny_bind (wpAny_field (s := ⟨hp, gg, dd, k0, oo⟩) hr rfl (x := .ref TI) rfl ?_)
  refine wpAny_bind (wpAny_seqItems (s := ⟨hp, gg, dd, k0, oo⟩) hI rfl ?_)
  show wpAny _ _ (Builtin.SmallTypes.ownedTupleIsFree (.ref z) >>= _) _ _ (⟨hp, gg, dd, k0, oo⟩ : Shared)
  refine wpAny_bind (zfree (s := ⟨hp, gg, dd, k0, oo⟩) hr hu fun r b' e0 r0 s0 => ?_)
  dsimp only at r0 s0 ⊢
  cases r with
  | false =>
    simp only [Bool.false_eq_true, if_false]
    rw [List.forIn_toArray]
    simp only [List.forIn_cons, List.forIn_nil]
    have v1 : S1 i e0 := D1.over t1 s0 S.zf1
    have v2 : S2 i e0 := D2.over t2 s0 S.zf2
    refine wpAny_bind (wpAny_bind (wpAny_bind (wpAny_holding ?_)))
    show wpAny _ _ (Builtin.SmallTypes.nextOf (.ref j1) >>= _) _ _ (⟨e0, gg, dd, k0, oo⟩ : Shared)
    refine wpAny_bind (D1.item i _ _ _ l1 v1 fun x1 e1 q1 y1 v1' s1 => wpAny_pure (wpAny_pure ?_))
    replace s1 : Heap.SameBut j1 e0 e1 := s1
    refine wpAny_bind (wpAny_bind (wpAny_holding ?_))
    show wpAny _ _ (Builtin.SmallTypes.nextOf (.ref j2) >>= _) _ _ (⟨e1, gg, dd, q1, oo⟩ : Shared)
    refine wpAny_bind (D2.item i _ _ _ l2 (D2.over v2 s1 S.sep1_2) fun x2 e2 q2 y2 v2' s2 => wpAny_pure (wpAny_pure (wpAny_pure ?_)))
    replace s2 : Heap.SameBut j2 e1 e2 := s2
    refine wpAny_bind (wpAny_newTuple (s := ⟨e2, gg, dd, q2, oo⟩) ?_ (by show 2 ≤ sizeLine; decide))
    have sz : e2.objs.size = hp.objs.size := by rw [s2.1, s1.1, s0.1]
    have up : ∀ c o, e2.get? c = some o → (e2.push { cls := .type "tuple", data := .seq #[x1, x2] }).get? c = some o := fun c o e => Heap.get?_push_of_some _ e
    refine wpAny_pure ⟨_, rfl, hQ x1 x2 e2.objs.size _ q2 y1 y2 ⟨u, b', hu, up _ _ (s2.extBut _ _ S.zi2 (s1.extBut _ _ S.zi1 r0))⟩ ⟨c1, c2, up _ _ (s2.extBut _ _ S.Ti2 (s1.extBut _ _ S.Ti1 (s0.extBut _ _ S.TOz hO)))⟩
      (D1.frame _ _ _ (D1.over v1' s2 S.sep2_1) fun c _ o e => up c o e) (D2.frame _ _ _ v2' fun c _ o e => up c o e) (Nat.le_of_eq sz.symm) (Heap.get?_push_size _ rfl)
      fun c o n1 n2 n3 n4 e => up _ _ (s2.extBut _ _ n4 (s1.extBut _ _ n3 (s0.extBut _ _ n1 e)))⟩
  | true =>
    simp only [if_true]
    refine wpAny_bind (wpAny_rule ?_)
    refine wpAny_bind (wpAny_field (s := ⟨e0, gg, dd, k0, oo⟩) r0 rfl (x := .ref TO) rfl ?_)
    refine wpAny_bind (wpAny_setField_rec (s := ⟨e0, gg, dd, k0, oo⟩) r0 (by simp) fun e1 r1 s1 => ?_)
    replace r1 : ZR e1 z TI TO .ellipsis b' := r1
    replace s1 : Heap.SameBut z e0 e1 := s1
    refine wpAny_bind ?_
    simp only [List.zipIdx_cons, List.zipIdx_nil, List.forIn_cons, List.forIn_nil]
    have v1 : S1 i e1 := D1.over (D1.over t1 s0 S.zf1) s1 S.zf1
    have v2 : S2 i e1 := D2.over (D2.over t2 s0 S.zf2) s1 S.zf2
    have o1 : IsTupOf2 e1 TO c1 c2 := s1.extBut _ _ S.TOz (s0.extBut _ _ S.TOz hO)
    refine wpAny_bind (wpAny_bind (wpAny_onRaise ?_))
    show wpAny _ _ (Builtin.SmallTypes.nextOf (.ref j1) >>= _) _ _ (⟨e1, gg, dd, k0, oo⟩ : Shared)
    refine wpAny_bind (D1.item i _ _ _ l1 v1 fun x1 e2 q1 y1 v1' s2 => wpAny_pure ?_)
    replace s2 : Heap.SameBut j1 e1 e2 := s2
    have o2 : IsTupOf2 e2 TO c1 c2 := s2.extBut _ _ S.Ti1 o1
    refine wpAny_bind (wpAny_seqItems (s := ⟨e2, gg, dd, q1, oo⟩) o2 rfl ?_)
    refine wpAny_bind (updateSeq_IsTupOf2 (s := ⟨e2, gg, dd, q1, oo⟩) o2 fun e3 o3 s3 => ?_)
    replace o3 : IsTupOf2 e3 TO x1 c2 := o3
    replace s3 : Heap.SameBut TO e2 e3 := s3
    refine wpAny_bind (wpAny_letGo (wpAny_pure ?_))
    refine wpAny_bind (wpAny_bind (wpAny_onRaise ?_))
    show wpAny _ _ (Builtin.SmallTypes.nextOf (.ref j2) >>= _) _ _ (⟨e3, gg, dd, q1, oo⟩ : Shared)
    refine wpAny_bind (D2.item i _ _ _ l2 (D2.over (D2.over v2 s2 S.sep1_2) s3 S.Tf2) fun x2 e4 q2 y2 v2' s4 => wpAny_pure ?_)
    replace s4 : Heap.SameBut j2 e3 e4 := s4
    have o4 : IsTupOf2 e4 TO x1 c2 := s4.extBut _ _ S.Ti2 o3
    refine wpAny_bind (wpAny_seqItems (s := ⟨e4, gg, dd, q2, oo⟩) o4 rfl ?_)
    refine wpAny_bind (updateSeq_IsTupOf2 (s := ⟨e4, gg, dd, q2, oo⟩) o4 fun e5 o5 s5 => ?_)
    replace o5 : IsTupOf2 e5 TO x1 x2 := o5
    replace s5 : Heap.SameBut TO e4 e5 := s5
    refine wpAny_bind (wpAny_letGo (wpAny_pure (wpAny_pure ?_)))
    refine wpAny_bind (wpAny_seqItems (s := ⟨e5, gg, dd, q2, oo⟩) o5 rfl ?_)
    refine wpAny_bind (wpAny_newTuple (s := ⟨e5, gg, dd, q2, oo⟩) ?_)
    have sz : e5.objs.size = hp.objs.size := by rw [s5.1, s4.1, s3.1, s2.1, s1.1, s0.1]
    have r5 : ZR e5 z TI TO .ellipsis b' := s5.extBut _ _ S.TOz.symm (s4.extBut _ _ S.zi2 (s3.extBut _ _ S.TOz.symm (s2.extBut _ _ S.zi1 r1)))
    have lz : z < e5.objs.size := Heap.lt_size r5
    have k5 : ∀ c o, c ≠ z → c ≠ TO → c ≠ j1 → c ≠ j2 → hp.get? c = some o → e5.get? c = some o := fun c o n1 n2 n3 n4 e => s5.extBut _ _ n2 (s4.extBut _ _ n4 (s3.extBut _ _ n2 (s2.extBut _ _ n3 (s1.extBut _ _ n1 (s0.extBut _ _ n1 e)))))
    have w1 : S1 (i + 1) e5 := D1.over (D1.over (D1.over v1' s3 S.Tf1) s4 S.sep2_1) s5 S.Tf1
    have w2 : S2 (i + 1) e5 := D2.over v2' s5 S.Tf2
    show wpAny _ _ (Builtin.SmallTypes.ownedTupleHandOut (.ref z) (.ref e5.objs.size) >>= _) _ _ (⟨e5.push { cls := .type "tuple", data := .seq #[x1, x2] }, gg, dd, q2, oo⟩ : Shared)
    refine wpAny_bind ?_
    unfold Builtin.SmallTypes.ownedTupleHandOut
    have r6 : ZR (e5.push { cls := .type "tuple", data := .seq #[x1, x2] }) z TI TO .ellipsis b' := Heap.get?_push_of_some _ r5
    refine wpAny_bind (wpAny_setField_rec (s := ⟨_, gg, dd, q2, oo⟩) r6 (by simp) fun e7 r7 s7 => ?_)
    replace r7 : ZR e7 z TI TO (rawInt e5.objs.size) b' := r7
    replace s7 : Heap.SameBut z (e5.push { cls := .type "tuple", data := .seq #[x1, x2] }) e7 := s7
    refine wpAny_setField_rec (s := ⟨e7, gg, dd, q2, oo⟩) r7 (by simp) fun e8 r8 s8 => ?_
    replace r8 : ZR e8 z TI TO (rawInt e5.objs.size) false := r8
    replace s8 : Heap.SameBut z e7 e8 := s8
    have up : ∀ c o, c ≠ z → e5.get? c = some o → e8.get? c = some o := fun c o n e => s8.extBut _ _ n (s7.extBut _ _ n (Heap.get?_push_of_some _ e))
    refine wpAny_pure ⟨_, rfl, hQ x1 x2 e5.objs.size e8 q2 y1 y2 ⟨_, _, .inr ⟨e5.objs.size, rfl⟩, r8⟩ ⟨x1, x2, up _ _ S.TOz o5⟩ (D1.frame _ _ _ w1 fun c hc o e => up c o (fun q => S.zf1 (q ▸ hc)) e) (D2.frame _ _ _ w2 fun c hc o e => up c o (fun q => S.zf2 (q ▸ hc)) e)
      (Nat.le_of_eq sz.symm) (s8.extBut _ _ (Nat.ne_of_gt lz) (s7.extBut _ _ (Nat.ne_of_gt lz) (Heap.get?_push_size _ rfl))) fun c o n1 n2 n3 n4 e => up c o n1 (k5 c o n1 n2 n3 n4 e)⟩
theorem zend {u : Value} {b : Bool} {Q : Fin → Shared → Prop} (S : ZipSep2 z TI TO j1 j2 F1 F2) (D1 : Draws prog w A j1 F1 m1 P1 S1) (D2 : Draws prog w A j2 F2 m2 P2 S2) (hr : ZR s.heap z TI TO u b) (hu : Held u) (hI : IsTupOf2 s.heap TI (.ref j1) (.ref j2)) (hO : IsTupOf2 s.heap TO c1 c2)
    (t1 : S1 i s.heap) (t2 : S2 i s.heap) (g1 : i ≤ m1) (g2 : i ≤ m2) (gn : i = m1 ∨ i = m2)
    (hE : ∀ h' tk x, (∀ c o, c ≠ z → c ≠ TO → c ≠ j1 → c ≠ j2 → s.heap.get? c = some o → h'.get? c = some o) → (∃ o, h'.get? x = some o ∧ o.cls = .type "StopIteration") → E (.ref x) { s with heap := h', toks := tk }) :
    wpAny (model prog w) A (Builtin.«zip.__next__» ⟨[.ref z], []⟩) Q E s := by
  obtain ⟨hp, gg, dd, k0, oo⟩ := s
  dsimp only at hr hI hO t1 t2 hE
  show wpAny _ _ (field (.ref z) 2 >>= _) _ _ (⟨hp, gg, dd, k0, oo⟩ : Shared)
  refine wpAny_bind (wpAny_field (s := ⟨hp, gg, dd, k0, oo⟩) hr rfl (x := .bool false) rfl ?_)
  show wpAny _ _ (field (.ref z) 3 >>= _) _ _ (⟨hp, gg, dd, k0, oo⟩ : Shared)
  refine wpAny_bind (wpAny_field (s := ⟨hp, gg, dd, k0, oo⟩) hr rfl (x := .ref TI) rfl ?_)
  refine wpAny_bind (wpAny_seqItems (s := ⟨hp, gg, dd, k0, oo⟩) hI rfl ?_)
  show wpAny _ _ (Builtin.SmallTypes.ownedTupleIsFree (.ref z) >>= _) _ _ (⟨hp, gg, dd, k0, oo⟩ : Shared)
  refine wpAny_bind (zfree (s := ⟨hp, gg, dd, k0, oo⟩) hr hu fun r b' e0 r0 s0 => ?_)
  dsimp only at r0 s0 ⊢
  cases r with
  | false =>
    simp only [Bool.false_eq_true, if_false]
    rw [List.forIn_toArray]
    simp only [List.forIn_cons, List.forIn_nil]
    have v1 : S1 i e0 := D1.over t1 s0 S.zf1
    have v2 : S2 i e0 := D2.over t2 s0 S.zf2
    refine wpAny_bind (wpAny_bind (wpAny_bind (wpAny_holding ?_)))
    show wpAny _ _ (Builtin.SmallTypes.nextOf (.ref j1) >>= _) _ _ (⟨e0, gg, dd, k0, oo⟩ : Shared)
    by_cases l1 : i < m1
    · refine wpAny_bind (D1.item i _ _ _ l1 v1 fun x1 e1 q1 y1 v1' s1 => wpAny_pure (wpAny_pure ?_))
      replace s1 : Heap.SameBut j1 e0 e1 := s1
      have en : i = m2 := by omega
      refine wpAny_bind (wpAny_bind (wpAny_holding ?_))
      show wpAny _ _ (Builtin.SmallTypes.nextOf (.ref j2) >>= _) _ _ (⟨e1, gg, dd, q1, oo⟩ : Shared)
      refine wpAny_bind (D2.done ⟨e1, gg, dd, q1, oo⟩ _ _ (by rw [← en]; exact D2.over v2 s1 S.sep1_2) fun e2 x s2 hx => ?_)
      replace s2 : Heap.ExtBut j2 e1 e2 := s2
      exact hE e2 q1 x (fun c o n1 n2 n3 n4 e => s2 _ _ n4 (s1.extBut _ _ n3 (s0.extBut _ _ n1 e))) hx
    · have en : i = m1 := by omega
      refine wpAny_bind (D1.done ⟨e0, gg, dd, k0, oo⟩ _ _ (by rw [← en]; exact v1) fun e2 x s2 hx => ?_)
      replace s2 : Heap.ExtBut j1 e0 e2 := s2
      exact hE e2 k0 x (fun c o n1 n2 n3 n4 e => s2 _ _ n3 (s0.extBut _ _ n1 e)) hx
  | true =>
    simp only [if_true]
    refine wpAny_bind (wpAny_rule ?_)
    refine wpAny_bind (wpAny_field (s := ⟨e0, gg, dd, k0, oo⟩) r0 rfl (x := .ref TO) rfl ?_)
    refine wpAny_bind (wpAny_setField_rec (s := ⟨e0, gg, dd, k0, oo⟩) r0 (by simp) fun e1 r1 s1 => ?_)
    replace r1 : ZR e1 z TI TO .ellipsis b' := r1
    replace s1 : Heap.SameBut z e0 e1 := s1
    refine wpAny_bind ?_
    simp only [List.zipIdx_cons, List.zipIdx_nil, List.forIn_cons, List.forIn_nil]
    have v1 : S1 i e1 := D1.over (D1.over t1 s0 S.zf1) s1 S.zf1
    have v2 : S2 i e1 := D2.over (D2.over t2 s0 S.zf2) s1 S.zf2
    have o1 : IsTupOf2 e1 TO c1 c2 := s1.extBut _ _ S.TOz (s0.extBut _ _ S.TOz hO)
    refine wpAny_bind (wpAny_bind (wpAny_onRaise ?_))
    show wpAny _ _ (Builtin.SmallTypes.nextOf (.ref j1) >>= _) _ _ (⟨e1, gg, dd, k0, oo⟩ : Shared)
    by_cases l1 : i < m1
    · refine wpAny_bind (D1.item i _ _ _ l1 v1 fun x1 e2 q1 y1 v1' s2 => wpAny_pure ?_)
      replace s2 : Heap.SameBut j1 e1 e2 := s2
      have o2 : IsTupOf2 e2 TO c1 c2 := s2.extBut _ _ S.Ti1 o1
      refine wpAny_bind (wpAny_seqItems (s := ⟨e2, gg, dd, q1, oo⟩) o2 rfl ?_)
      refine wpAny_bind (updateSeq_IsTupOf2 (s := ⟨e2, gg, dd, q1, oo⟩) o2 fun e3 o3 s3 => ?_)
      replace s3 : Heap.SameBut TO e2 e3 := s3
      refine wpAny_bind (wpAny_letGo (wpAny_pure ?_))
      have en : i = m2 := by omega
      refine wpAny_bind (wpAny_bind (wpAny_onRaise ?_))
      show wpAny _ _ (Builtin.SmallTypes.nextOf (.ref j2) >>= _) _ _ (⟨e3, gg, dd, q1, oo⟩ : Shared)
      refine wpAny_bind (D2.done ⟨e3, gg, dd, q1, oo⟩ _ _ (by rw [← en]; exact D2.over (D2.over v2 s2 S.sep1_2) s3 S.Tf2) fun e4 x s4 hx => ?_)
      replace s4 : Heap.ExtBut j2 e3 e4 := s4
      obtain ⟨ox, hx1, hx2⟩ := hx
      replace hx1 : e4.get? x = some ox := hx1
      have r4 : ZR e4 z TI TO .ellipsis b' := s4 _ _ S.zi2 (s3.extBut _ _ S.TOz.symm (s2.extBut _ _ S.zi1 r1))
      have xz : x ≠ z := fun q => by subst q; rw [r4] at hx1; cases hx1; simp at hx2
      refine wpAny_setField_rec (s := ⟨e4, gg, dd, q1, oo⟩) r4 (by simp) fun e5 _ s5 => ?_
      replace s5 : Heap.SameBut z e4 e5 := s5
      exact hE e5 q1 x (fun c o n1 n2 n3 n4 e => s5.extBut _ _ n1 (s4 _ _ n4 (s3.extBut _ _ n2 (s2.extBut _ _ n3 (s1.extBut _ _ n1 (s0.extBut _ _ n1 e)))))) ⟨ox, s5.extBut _ _ xz hx1, hx2⟩
    · have en : i = m1 := by omega
      refine wpAny_bind (D1.done ⟨e1, gg, dd, k0, oo⟩ _ _ (by rw [← en]; exact v1) fun e4 x s4 hx => ?_)
      replace s4 : Heap.ExtBut j1 e1 e4 := s4
      obtain ⟨ox, hx1, hx2⟩ := hx
      replace hx1 : e4.get? x = some ox := hx1
      have r4 : ZR e4 z TI TO .ellipsis b' := s4 _ _ S.zi1 r1
      have xz : x ≠ z := fun q => by subst q; rw [r4] at hx1; cases hx1; simp at hx2
      refine wpAny_setField_rec (s := ⟨e4, gg, dd, k0, oo⟩) r4 (by simp) fun e5 _ s5 => ?_
      replace s5 : Heap.SameBut z e4 e5 := s5
      exact hE e5 k0 x (fun c o n1 n2 n3 n4 e => s5.extBut _ _ n1 (s4 _ _ n3 (s1.extBut _ _ n1 (s0.extBut _ _ n1 e)))) ⟨ox, s5.extBut _ _ xz hx1, hx2⟩
/-- a draw from a zip, as enumerate makes it -/
theorem zdraw_of {u : Value} {b : Bool} {Q : Value → Shared → Prop} (S : ZipSep2 z TI TO j1 j2 F1 F2) (D1 : Draws prog w A.in1 j1 F1 m1 P1 S1) (D2 : Draws prog w A.in1 j2 F2 m2 P2 S2) (hr : ZR s.heap z TI TO u b) (hu : Held u) (hI : IsTupOf2 s.heap TI (.ref j1) (.ref j2)) (hO : IsTupOf2 s.heap TO c1 c2)
    (t1 : S1 i s.heap) (t2 : S2 i s.heap) (l1 : i < m1) (l2 : i < m2)
    (hQ : ∀ x1 x2 T h' tk, P1 i x1 → P2 i x2 → (∃ u b, Held u ∧ ZR h' z TI TO u b) → (∃ a1 a2, IsTupOf2 h' TO a1 a2) → S1 (i + 1) h' → S2 (i + 1) h' → s.heap.objs.size ≤ T → IsTupOf2 h' T x1 x2 →
      (∀ c o, c ≠ z → c ≠ TO → c ≠ j1 → c ≠ j2 → s.heap.get? c = some o → h'.get? c = some o) → Q (.ref T) { s with heap := h', toks := tk }) :
    wpAny (model prog w) A (Builtin.SmallTypes.nextOf (.ref z)) Q E s := by
  have hT : s.TypeIs (.ref z) "zip" := ⟨_, hr, rfl⟩
  unfold Builtin.SmallTypes.nextOf
  exact wpAny_bind (wpAny_callSpecial?_slot (name := Str.ofString "__next__") hT F.slot_zip_next
    (wpAny_call_entry F.slot_zip_next hT F.entry_zip_next (zdraw S D1 D2 hr hu hI hO t1 t2 l1 l2 fun x1 x2 T h' tk a1 a2 a3 a4 a5 a6 a7 a8 a9 => wpAny_pure (hQ x1 x2 T h' tk a1 a2 a3 a4 a5 a6 a7 a8 a9)) (F.args_zip_next_1 _)))
theorem zend_of {u : Value} {b : Bool} {Q : Value → Shared → Prop} (S : ZipSep2 z TI TO j1 j2 F1 F2) (D1 : Draws prog w A.in1 j1 F1 m1 P1 S1) (D2 : Draws prog w A.in1 j2 F2 m2 P2 S2) (hr : ZR s.heap z TI TO u b) (hu : Held u) (hI : IsTupOf2 s.heap TI (.ref j1) (.ref j2)) (hO : IsTupOf2 s.heap TO c1 c2)
    (t1 : S1 i s.heap) (t2 : S2 i s.heap) (g1 : i ≤ m1) (g2 : i ≤ m2) (gn : i = m1 ∨ i = m2)
    (hE : ∀ h' tk x, (∀ c o, c ≠ z → c ≠ TO → c ≠ j1 → c ≠ j2 → s.heap.get? c = some o → h'.get? c = some o) → (∃ o, h'.get? x = some o ∧ o.cls = .type "StopIteration") → E (.ref x) { s with heap := h', toks := tk }) :
    wpAny (model prog w) A (Builtin.SmallTypes.nextOf (.ref z)) Q E s := by
  have hT : s.TypeIs (.ref z) "zip" := ⟨_, hr, rfl⟩
  unfold Builtin.SmallTypes.nextOf
  exact wpAny_bind (wpAny_callSpecial?_slot (name := Str.ofString "__next__") hT F.slot_zip_next
    (wpAny_call_entry F.slot_zip_next hT F.entry_zip_next (zend S D1 D2 hr hu hI hO t1 t2 g1 g2 gn hE) (F.args_zip_next_1 _)))
theorem ez_core {e : Addr} {n : Int} {old : Value} {u : Value} {b : Bool} {Q : Value → Shared → Prop} (S : ZipSep2 z TI TO j1 j2 F1 F2) (D1 : Draws prog w A.in1 j1 F1 m1 P1 S1) (D2 : Draws prog w A.in1 j2 F2 m2 P2 S2) (he : IsEnum s.heap e z n old) (hr : ZR s.heap z TI TO u b) (hu : Held u)
    (hI : IsTupOf2 s.heap TI (.ref j1) (.ref j2)) (hO : IsTupOf2 s.heap TO c1 c2) (t1 : S1 i s.heap) (t2 : S2 i s.heap) (l1 : i < m1) (l2 : i < m2) (ez : e ≠ z) (eI : e ≠ TI) (eO : e ≠ TO) (f1 : e ∉ F1) (f2 : e ∉ F2)
    (hQ : ∀ x1 x2 T1 T h' tk, P1 i x1 → P2 i x2 → IsEnumOut h' e z (n + 1) (.ref T1) T → (∃ u b, Held u ∧ ZR h' z TI TO u b) → IsTupOf2 h' TI (.ref j1) (.ref j2) → (∃ a1 a2, IsTupOf2 h' TO a1 a2) → S1 (i + 1) h' → S2 (i + 1) h' → s.heap.objs.size ≤ T1 → T1 < T →
      IsTupOf2 h' T1 x1 x2 → (∃ t, IsTupOf2 h' T (.int n t) (.ref T1)) → (∀ c o, c ≠ e → c ≠ z → c ≠ TO → c ≠ j1 → c ≠ j2 → s.heap.get? c = some o → h'.get? c = some o) → Q (.ref T) { s with heap := h', toks := tk }) :
    wpAny (model prog w) A (Builtin.«enumerate.__next__» ⟨[.ref e], []⟩) (fun fin s' => ∃ v, fin = .done (.ret v) ∧ Q v s') E s := by
  obtain ⟨hp, gg, dd, k0, oo⟩ := s
  dsimp only at he hr hI hO t1 t2 hQ
  show wpAny _ _ (field (.ref e) 2 >>= _) _ _ (⟨hp, gg, dd, k0, oo⟩ : Shared)
  refine wpAny_bind (wpAny_field (s := ⟨hp, gg, dd, k0, oo⟩) he rfl (x := .ref z) rfl ?_)
  refine wpAny_bind (zdraw_of (s := ⟨hp, gg, dd, k0, oo⟩) S D1 D2 hr hu hI hO t1 t2 l1 l2 fun x1 x2 T1 b0 q0 y1 y2 zr zo v1 v2 hT1 hp1 kp => ?_)
  dsimp only at hT1 kp ⊢
  have ej1 : e ≠ j1 := fun q => f1 (q ▸ S.mem1)
  have ej2 : e ≠ j2 := fun q => f2 (q ▸ S.mem2)
  have he0 : IsEnum b0 e z n old := kp _ _ ez eO ej1 ej2 he
  have lT1 : T1 < b0.objs.size := Heap.lt_size hp1
  have eT1 : e ≠ T1 := Nat.ne_of_lt (Nat.lt_of_lt_of_le (Heap.lt_size he) hT1)
  show wpAny _ _ (field (.ref e) 3 >>= _) _ _ (⟨b0, gg, dd, q0, oo⟩ : Shared)
  refine wpAny_bind (wpAny_field (s := ⟨b0, gg, dd, q0, oo⟩) he0 rfl (x := rawInt n) rfl ?_)
  show wpAny _ _ (field (.ref e) 4 >>= _) _ _ (⟨b0, gg, dd, q0, oo⟩ : Shared)
  refine wpAny_bind (wpAny_field (s := ⟨b0, gg, dd, q0, oo⟩) he0 rfl (x := .none) rfl ?_)
  show wpAny _ _ (mkInt n >>= _) _ _ (⟨b0, gg, dd, q0, oo⟩ : Shared)
  refine wpAny_bind (wpAny_mkInt ?_)
  show wpAny _ _ (setField (.ref e) 3 (rawInt (n + 1)) >>= _) _ _ (⟨b0, gg, dd, q0 + 1, oo⟩ : Shared)
  refine wpAny_bind (wpAny_setField_rec (s := ⟨b0, gg, dd, q0 + 1, oo⟩) he0 (by simp) fun b1 he1 s1 => ?_)
  replace s1 : Heap.SameBut e b0 b1 := s1
  replace he1 : IsEnum b1 e z (n + 1) old := he1
  show wpAny _ _ (setField (.ref e) 4 .none >>= _) _ _ (⟨b1, gg, dd, q0 + 1, oo⟩ : Shared)
  refine wpAny_bind (wpAny_setField_rec (s := ⟨b1, gg, dd, q0 + 1, oo⟩) he1 (by simp) fun b2 he2 s2 => ?_)
  replace s2 : Heap.SameBut e b1 b2 := s2
  replace he2 : IsEnum b2 e z (n + 1) old := he2
  show wpAny _ _ (newTuple [.int n q0, .ref T1] >>= _) _ _ (⟨b2, gg, dd, q0 + 1, oo⟩ : Shared)
  refine wpAny_bind (wpAny_newTuple (s := ⟨b2, gg, dd, q0 + 1, oo⟩) ?_ (by show 2 ≤ sizeLine; decide))
  have he3 : IsEnum (b2.push { cls := .type "tuple", data := .seq #[.int n q0, .ref T1] }) e z (n + 1) old := Heap.get?_push_of_some _ he2
  have hnew : (b2.push { cls := .type "tuple", data := .seq #[.int n q0, .ref T1] }).get? b2.objs.size = some { cls := .type "tuple", data := .seq #[.int n q0, .ref T1] } := Heap.get?_push_size _ rfl
  have k3 : ∀ c o, c ≠ e → b0.get? c = some o → (b2.push { cls := .type "tuple", data := .seq #[.int n q0, .ref T1] }).get? c = some o := fun c o ne x => Heap.get?_push_of_some _ (s2.extBut _ _ ne (s1.extBut _ _ ne x))
  have sz2 : b2.objs.size = b0.objs.size := by rw [s2.1, s1.1]
  show wpAny _ _ (Builtin.SmallTypes.ownedTupleIsFree (.ref e) >>= _) _ _ (⟨b2.push { cls := .type "tuple", data := .seq #[.int n q0, .ref T1] }, gg, dd, q0 + 1, oo⟩ : Shared)
  dsimp only
  generalize b2.push { cls := .type "tuple", data := .seq #[.int n q0, .ref T1] } = b3 at he3 hnew k3 ⊢
  refine wpAny_bind ?_
  unfold Builtin.SmallTypes.ownedTupleIsFree
  refine wpAny_bind (wpAny_field (s := ⟨b3, gg, dd, q0 + 1, oo⟩) he3 rfl (x := .none) rfl (wpAny_pure ?_))
  simp only [if_true]
  refine wpAny_bind (wpAny_rule ?_)
  refine wpAny_bind (wpAny_field (s := ⟨b3, gg, dd, q0 + 1, oo⟩) he3 rfl (x := old) rfl ?_)
  refine wpAny_bind (wpAny_setField_rec (s := ⟨b3, gg, dd, q0 + 1, oo⟩) he3 (by simp) fun b4 he4 s4 => ?_)
  replace s4 : Heap.SameBut e b3 b4 := s4
  replace he4 : IsEnum b4 e z (n + 1) (.ref T1) := he4
  show wpAny _ _ (Builtin.SmallTypes.ownedTupleHandOut (.ref e) (.ref b2.objs.size) >>= _) _ _ (⟨b4, gg, dd, q0 + 1, oo⟩ : Shared)
  refine wpAny_bind ?_
  unfold Builtin.SmallTypes.ownedTupleHandOut
  refine wpAny_bind (wpAny_setField_rec (s := ⟨b4, gg, dd, q0 + 1, oo⟩) he4 (by simp) fun b5 he5 s5 => ?_)
  replace s5 : Heap.SameBut e b4 b5 := s5
  replace he5 : IsEnumOut b5 e z (n + 1) (.ref T1) b2.objs.size := he5
  refine wpAny_setField_rec (s := ⟨b5, gg, dd, q0 + 1, oo⟩) he5 (by simp) fun b6 he6 s6 => ?_
  replace s6 : Heap.SameBut e b5 b6 := s6
  replace he6 : IsEnumOut b6 e z (n + 1) (.ref T1) b2.objs.size := he6
  have k6 : ∀ c o, c ≠ e → b3.get? c = some o → b6.get? c = some o := fun c o ne x => s6.extBut _ _ ne (s5.extBut _ _ ne (s4.extBut _ _ ne x))
  have ke : ∀ c o, c ≠ e → b0.get? c = some o → b6.get? c = some o := fun c o ne x => k6 c o ne (k3 c o ne x)
  have le2 : e < b2.objs.size := Heap.lt_size he2
  obtain ⟨u', b', hu', hz'⟩ := zr
  obtain ⟨a1, a2, ho'⟩ := zo
  refine wpAny_bind (wpAny_letGo (wpAny_pure ⟨_, rfl, hQ x1 x2 T1 b2.objs.size b6 (q0 + 1) y1 y2 he6 ⟨u', b', hu', ke _ _ ez.symm hz'⟩ (ke _ _ eI.symm (kp _ _ S.TIz S.TITO S.TIi1 S.TIi2 hI)) ⟨a1, a2, ke _ _ eO.symm ho'⟩
    (D1.frame _ _ _ v1 fun c hc o x => ke c o (fun q => f1 (q ▸ hc)) x) (D2.frame _ _ _ v2 fun c hc o x => ke c o (fun q => f2 (q ▸ hc)) x) hT1 (by rw [sz2]; exact lT1) (ke _ _ eT1.symm hp1) ⟨q0, k6 _ _ (Nat.ne_of_gt le2) hnew⟩
    fun c o n1 n2 n3 n4 n5 x => ke c o n1 (kp c o n2 n3 n4 n5 x)⟩))
theorem ez_next {e : Addr} {n : Int} {old : Value} {u : Value} {b : Bool} {Q : Option Value → Shared → Prop} (S : ZipSep2 z TI TO j1 j2 F1 F2) (D1 : Draws prog w A.in1.in1 j1 F1 m1 P1 S1) (D2 : Draws prog w A.in1.in1 j2 F2 m2 P2 S2) (he : IsEnum s.heap e z n old) (hr : ZR s.heap z TI TO u b) (hu : Held u)
    (hI : IsTupOf2 s.heap TI (.ref j1) (.ref j2)) (hO : IsTupOf2 s.heap TO c1 c2) (t1 : S1 i s.heap) (t2 : S2 i s.heap) (l1 : i < m1) (l2 : i < m2) (ez : e ≠ z) (eI : e ≠ TI) (eO : e ≠ TO) (f1 : e ∉ F1) (f2 : e ∉ F2)
    (hQ : ∀ x1 x2 T1 T h' tk, P1 i x1 → P2 i x2 → IsEnumOut h' e z (n + 1) (.ref T1) T → (∃ u b, Held u ∧ ZR h' z TI TO u b) → IsTupOf2 h' TI (.ref j1) (.ref j2) → (∃ a1 a2, IsTupOf2 h' TO a1 a2) → S1 (i + 1) h' → S2 (i + 1) h' → s.heap.objs.size ≤ T1 → T1 < T →
      IsTupOf2 h' T1 x1 x2 → (∃ t, IsTupOf2 h' T (.int n t) (.ref T1)) → (∀ c o, c ≠ e → c ≠ z → c ≠ TO → c ≠ j1 → c ≠ j2 → s.heap.get? c = some o → h'.get? c = some o) → Q (some (.ref T)) { s with heap := h', toks := tk }) :
    wpAny (model prog w) A (pyNext (.ref e)) Q E s := by
  have hT : s.TypeIs (.ref e) "enumerate" := ⟨_, he, rfl⟩
  unfold pyNext
  exact wpAny_bind (wpAny_attempt (wpAny_callSpecial?_slot (name := Str.ofString "__next__") hT F.slot_enumerate_next
    (wpAny_call_entry F.slot_enumerate_next hT F.entry_enumerate_next
      (ez_core S D1 D2 he hr hu hI hO t1 t2 l1 l2 ez eI eO f1 f2 fun x1 x2 T1 T h' tk a1 a2 a3 a4 a5 a6 a7 a8 a9 b1 b2 b3 b4 => wpAny_pure (hQ x1 x2 T1 T h' tk a1 a2 a3 a4 a5 a6 a7 a8 a9 b1 b2 b3 b4)) (F.args_enumerate_next_1 _))))
theorem ez_stop {e : Addr} {n : Int} {old : Value} {u : Value} {b : Bool} {Q : Option Value → Shared → Prop} (S : ZipSep2 z TI TO j1 j2 F1 F2) (D1 : Draws prog w A.in1.in1 j1 F1 m1 P1 S1) (D2 : Draws prog w A.in1.in1 j2 F2 m2 P2 S2) (he : IsEnum s.heap e z n old) (hr : ZR s.heap z TI TO u b) (hu : Held u)
    (hI : IsTupOf2 s.heap TI (.ref j1) (.ref j2)) (hO : IsTupOf2 s.heap TO c1 c2) (t1 : S1 i s.heap) (t2 : S2 i s.heap) (g1 : i ≤ m1) (g2 : i ≤ m2) (gn : i = m1 ∨ i = m2)
    (hQ : ∀ h' tk, (∀ c o, c ≠ z → c ≠ TO → c ≠ j1 → c ≠ j2 → s.heap.get? c = some o → h'.get? c = some o) → Q none { s with heap := h', toks := tk }) :
    wpAny (model prog w) A (pyNext (.ref e)) Q E s := by
  have hT : s.TypeIs (.ref e) "enumerate" := ⟨_, he, rfl⟩
  unfold pyNext
  refine wpAny_bind (wpAny_attempt (wpAny_callSpecial?_slot (name := Str.ofString "__next__") hT F.slot_enumerate_next
    (wpAny_call_entry F.slot_enumerate_next hT F.entry_enumerate_next ?_ (F.args_enumerate_next_1 _))))
  show wpAny _ _ (field (.ref e) 2 >>= _) _ _ s
  refine wpAny_bind (wpAny_field he rfl (x := .ref z) rfl ?_)
  refine wpAny_bind (zend_of S D1 D2 hr hu hI hO t1 t2 g1 g2 gn fun h' tk x hk hx => ?_)
  obtain ⟨o, ho, hc⟩ := hx
  exact wpAny_bind (wpAny_isInstance (T := "StopIteration") (b := true) ⟨o, ho, hc⟩ isSubtype_stop (wpAny_pure (hQ h' tk hk)))
theorem goes_ez {elts : List Expr} {x1 : Nat} {pos : Pos} {e : Addr} (S : ZipSep2 z TI TO j1 j2 F1 F2) (D1 : Draws prog w A.in1.in1 j1 F1 m1 P1 S1) (D2 : Draws prog w A.in1.in1 j2 F2 m2 P2 S2) (ez : e ≠ z) (eI : e ≠ TI) (eO : e ≠ TO) (f1 : e ∉ F1) (f2 : e ∉ F2) :
    GoesN prog w A (.Tuple elts x1 pos) e (e :: z :: TI :: TO :: (F1 ++ F2)) [e, z, TO, j1, j2] (min m1 m2)
      (fun i h0 v h => ∃ T1 T t x y, v = .ref T ∧ h0.objs.size ≤ T1 ∧ T1 < T ∧ P1 i x ∧ P2 i y ∧ IsTupOf2 h T1 x y ∧ IsTupOf2 h T (.int ((i : Nat) : Int) t) (.ref T1))
      (fun i h => (∃ old, IsEnum h e z ((i : Nat) : Int) old) ∧ (∃ u b, Held u ∧ ZR h z TI TO u b) ∧ IsTupOf2 h TI (.ref j1) (.ref j2) ∧ (∃ a1 a2, IsTupOf2 h TO a1 a2) ∧ S1 i h ∧ S2 i h) where
  sub := fun c hc => by
    have hc' : c = e ∨ c = z ∨ c = TO ∨ c = j1 ∨ c = j2 := by simpa using hc
    rcases hc' with rfl | rfl | rfl | rfl | rfl
    · simp
    · simp
    · simp
    · simp [S.mem1]
    · simp [S.mem2]
  frame := fun i h h' st hk => by
    obtain ⟨⟨old, he⟩, ⟨u, b, hu, hz⟩, hI, ⟨a1, a2, hO⟩, t1, t2⟩ := st
    exact ⟨⟨old, hk e (by simp) _ he⟩, ⟨u, b, hu, hk z (by simp) _ hz⟩, hk TI (by simp) _ hI, ⟨a1, a2, hk TO (by simp) _ hO⟩,
      D1.frame _ _ _ t1 fun c hc o x => hk c (by simp [hc]) o x, D2.frame _ _ _ t2 fun c hc o x => hk c (by simp [hc]) o x⟩
  goes := fun i s Q E hi st hQ => wpAny_with_toks (n := s.toks) (Nat.le_refl _) (by
    obtain ⟨⟨old, he⟩, ⟨u, b, hu, hz⟩, hI, ⟨a1, a2, hO⟩, t1, t2⟩ := st
    have ej1 : e ≠ j1 := fun q => f1 (q ▸ S.mem1)
    have ej2 : e ≠ j2 := fun q => f2 (q ▸ S.mem2)
    refine ez_next S D1 D2 he hz hu hI hO t1 t2 (by omega) (by omega) ez eI eO f1 f2 fun y1 y2 T1 T h' tk p1 p2 eo zr hI' hO' v1 v2 hT1 hTT g1 g2 kp htk => ⟨.ref T, rfl, ?_⟩
    obtain ⟨t, g2⟩ := g2
    have ee : e < s.heap.objs.size := Heap.lt_size he
    have eT1 : T1 ≠ e := Nat.ne_of_gt (Nat.lt_of_lt_of_le ee hT1)
    have eT : T ≠ e := Nat.ne_of_gt (Nat.lt_trans (Nat.lt_of_lt_of_le ee hT1) hTT)
    refine wpAny_letOwnedTupleGo_enum (s := { s with heap := h', toks := tk }) eo fun h2 he2 s2 => ?_
    replace s2 : Heap.SameBut e h' h2 := s2
    obtain ⟨u', b', hu', hz'⟩ := zr
    obtain ⟨b1, b2, hO'⟩ := hO'
    refine hQ (.ref T) h2 tk ⟨T1, T, t, y1, y2, rfl, hT1, hTT, p1, p2, s2.extBut _ _ eT1 g1, s2.extBut _ _ eT g2⟩
      ⟨⟨_, he2⟩, ⟨u', b', hu', s2.extBut _ _ ez.symm hz'⟩, s2.extBut _ _ eI.symm hI', ⟨b1, b2, s2.extBut _ _ eO.symm hO'⟩, D1.over v1 s2 f1, D2.over v2 s2 f2⟩ (fun c o hc x => ?_) htk
    have n1 : c ≠ e := fun q => hc (by simp [q])
    exact s2.extBut _ _ n1 (kp c o n1 (fun q => hc (by simp [q])) (fun q => hc (by simp [q])) (fun q => hc (by simp [q])) (fun q => hc (by simp [q])) x))
  stops := fun s Q E st hQ => wpAny_with_toks (n := s.toks) (Nat.le_refl _) (by
    obtain ⟨⟨old, he⟩, ⟨u, b, hu, hz⟩, hI, ⟨a1, a2, hO⟩, t1, t2⟩ := st
    exact ez_stop S D1 D2 he hz hu hI hO t1 t2 (by omega) (by omega) (by omega) fun h' tk hk htk => ⟨rfl, hQ h' tk (fun c o hc x => hk c o (fun q => hc (by simp [q])) (fun q => hc (by simp [q])) (fun q => hc (by simp [q])) (fun q => hc (by simp [q])) x) htk⟩)
  self := fun i s Q E st h => let ⟨⟨_, he⟩, _⟩ := st; wpAny_pyIter_enum he h
end
/-! ### the hand layer's walk -/
theorem learn {X : Cx} {pins : List (Addr × Obj)} {σ : St} {H : Hp} {s : Shared} {T : Addr} {o : HO} (I : Inv X pins σ H s) (f : FpOk X pins H T) (new : ObjOk X.prog X.w (upd H T o) s.heap T o) : Inv X pins σ (upd H T o) s := by
  have hn := f.1
  refine I.step (h' := s.heap) (g' := s.gens) (t' := s.toks) (d' := s.drawn) (ch := [T]) (fun b hb => ?_) (fun b u _ _ _ e _ => e) (fun b u _ _ _ e _ => ⟨u.slots, e⟩) (fun b u hb _ n => ?_) (fun b u _ e => ⟨u, e⟩)
    (fun b xs e => ?_) (fun b u v e => ?_) (fun b ps e => ⟨#[], ?_⟩) (fun m hm => hm) (fun b u e => ?_) I.bare
  · rw [List.mem_singleton.mp hb]
    exact ⟨f.2.2.2.1, f.2.1, f.2.2.2.2.1, f.2.2.2.2.2⟩
  · rw [upd_ne (fun q => hb (by simp [q]))]; exact n
  · rw [upd_ne (ne_of_none e hn)]; exact e
  · rw [upd_ne (ne_of_none e hn)]; exact e
  · rw [upd_ne (ne_of_none e hn), e]; simp
  · by_cases hb : b = T
    · subst hb
      rw [upd_same] at e
      cases e
      exact new
    · rw [upd_ne hb] at e
      exact (I.hok b u e).stay (fun c v _ q => q) (fun c q => by rw [upd_ne (ne_of_none q hn)]; exact q) fun c xs q => by rw [upd_ne (ne_of_none q hn)]; exact q
def ItEZ (K : PySem.W.Frag) (b c : Bool) (a a' : Addr) : It :=
  ⟨fun i H => ∃ (xs ys : List V) (x y : V), SqB K b H a xs ∧ SqB K c H a' ys ∧ xs[i]? = some x ∧ ys[i]? = some y,
   fun i H v H' => ∃ T1 T x y, v = .ref T ∧ H T1 = none ∧ H T = none ∧ T ≠ T1 ∧ H' = upd (upd H T1 (.tup [x, y])) T (.tup [.int (i : Nat), .ref T1]) ∧ (∀ xs, SqB K b H a xs → xs[i]? = some x) ∧ ∀ ys, SqB K c H a' ys → ys[i]? = some y,
   fun i H => ∃ xs ys : List V, SqB K b H a xs ∧ SqB K c H a' ys ∧ min xs.length ys.length = i⟩
theorem turn_EZ {P : Program} {w : World} {K : PySem.W.Frag} {elts : List Expr} {kk : Nat} {tpos : Pos} (b c : Bool) (a a' e z TI TO i1 i2 : Addr) (S : ZipSep2 z TI TO i1 i2 [i1, a] [i2, a']) (n1 : a ≠ i1) (n2 : a' ≠ i2) (ez : e ≠ z) (eI : e ≠ TI) (eO : e ≠ TO) (f1 : e ∉ [i1, a]) (f2 : e ∉ [i2, a']) :
    Turn P w K (.Tuple elts kk tpos) (ItEZ K b c a a') [e, z, TI, TO, i1, i2] e (fun i h => (∃ old, IsEnum h e z ((i : Nat) : Int) old) ∧ (∃ u b, Held u ∧ ZR h z TI TO u b) ∧ IsTupOf2 h TI (.ref i1) (.ref i2) ∧ (∃ x y, IsTupOf2 h TO x y) ∧ SeqItB b h i1 a i ∧ SeqItB c h i2 a' i) where
  mem := by simp
  obj := fun i h st d hd => by
    obtain ⟨⟨old, he⟩, ⟨u, bb, _, hz⟩, hTI, ⟨x, y, hTO⟩, h1, h2⟩ := st
    have q : d = e ∨ d = z ∨ d = TI ∨ d = TO ∨ d = i1 ∨ d = i2 := by simpa using hd
    rcases q with rfl | rfl | rfl | rfl | rfl | rfl
    · exact ⟨_, he, fun v q => nomatch q⟩
    · exact ⟨_, hz, fun v q => nomatch q⟩
    · exact ⟨_, hTI, fun v q => nomatch q⟩
    · exact ⟨_, hTO, fun v q => nomatch q⟩
    · exact h1.ob
    · exact h2.ob
  keep := fun i h h' st k => by
    obtain ⟨⟨old, he⟩, ⟨u, bb, hu, hz⟩, hTI, ⟨x, y, hTO⟩, h1, h2⟩ := st
    exact ⟨⟨old, k e (by simp) _ he⟩, ⟨u, bb, hu, k z (by simp) _ hz⟩, k TI (by simp) _ hTI, ⟨x, y, k TO (by simp) _ hTO⟩, h1.keep fun o q => k i1 (by simp) o q, h2.keep fun o q => k i2 (by simp) o q⟩
  item := by
    intro X hP hw hK hc i pins s σ H E I hf st hg
    subst hP hw hK
    obtain ⟨he, hz, hTI, hTO, h1, h2⟩ := st
    obtain ⟨xs, ys, x, y, hq, hq', hx, hy⟩ := hg
    obtain ⟨its, rv, p⟩ := SqB.at I hq
    obtain ⟨its', rv', p'⟩ := SqB.at I hq'
    obtain ⟨u, hu, ru⟩ := rv.get hx
    obtain ⟨u', hu', ru'⟩ := rv'.get hy
    have hh : X.A.handled = none := I.ok.hd hc
    have G := goes_ez (elts := elts) (x1 := kk) (pos := tpos) S (draws_B (prog := X.prog) (w := X.w) (A := X.A.in1.in1) hh b i1 a n1 its.toArray) (draws_B (prog := X.prog) (w := X.w) (A := X.A.in1.in1) hh c i2 a' n2 its'.toArray) ez eI eO f1 f2
    have hlt : i < min its.toArray.size its'.toArray.size := by
      rw [List.size_toArray, List.size_toArray]
      exact Nat.lt_min.mpr ⟨(List.getElem?_eq_some_iff.mp hu).1, (List.getElem?_eq_some_iff.mp hu').1⟩
    have lts : ∀ d ∈ [e, z, TI, TO, i1, i2], d < s.heap.objs.size := fun d hd => by
      obtain ⟨old, he⟩ := he
      obtain ⟨_, _, _, hz⟩ := hz
      obtain ⟨_, _, hTO⟩ := hTO
      have q : d = e ∨ d = z ∨ d = TI ∨ d = TO ∨ d = i1 ∨ d = i2 := by simpa using hd
      rcases q with rfl | rfl | rfl | rfl | rfl | rfl
      · exact Heap.lt_size he
      · exact Heap.lt_size hz
      · exact Heap.lt_size hTI
      · exact Heap.lt_size hTO
      · obtain ⟨_, q, _⟩ := h1.ob; exact Heap.lt_size q
      · obtain ⟨_, q, _⟩ := h2.ob; exact Heap.lt_size q
    refine thn (G.goes i s _ E hlt ⟨he, hz, hTI, hTO, ⟨h1, p⟩, h2, p'⟩ fun v h' tk hY st' hk _ => ?_) fun r s1 h1 => h1
    obtain ⟨T1, T, t, v1, v2, rfl, hT1, hTT, ht, ht', tT1, tT⟩ := hY
    have q1 : v1 = u := by
      have e2 : its[i]? = some v1 := by simpa using ht
      rw [hu] at e2; exact (Option.some.inj e2).symm
    have q2 : v2 = u' := by
      have e2 : its'[i]? = some v2 := by simpa using ht'
      rw [hu'] at e2; exact (Option.some.inj e2).symm
    subst q1 q2
    obtain ⟨e', z', TI', TO', ⟨s1, _⟩, s2, _⟩ := st'
    have lT : s.heap.objs.size ≤ T := Nat.le_trans hT1 (Nat.le_of_lt hTT)
    have TT : T ≠ T1 := Nat.ne_of_gt hTT
    have hk' : ∀ d o, d ∉ [e, z, TI, TO, i1, i2] → s.heap.get? d = some o → h'.get? d = some o := fun d o hd x => hk d o (fun hm => hd (by
      have q : d = e ∨ d = z ∨ d = TO ∨ d = i1 ∨ d = i2 := by simpa using hm
      rcases q with rfl | rfl | rfl | rfl | rfl <;> simp)) x
    have new1 : ObjOk X.prog X.w (upd H T1 (.tup [x, y])) h' T1 (.tup [x, y]) := ⟨by show 2 ≤ sizeLine; decide, [v1, v2], .cons ru (.cons ru' .nil), ⟨_, tT1, rfl, _, rfl⟩⟩
    have I1 := I.turnedNew (t' := tk) (ch := [e, z, TI, TO, i1, i2]) hk' hf hT1 new1
    have hn1 : H T1 = none := I.hok.fresh hT1
    have hn : H T = none := I.hok.fresh lT
    have hn2 : upd H T1 (.tup [x, y]) T = none := by rw [upd_ne TT]; exact hn
    have new2 : ObjOk X.prog X.w (upd (upd H T1 (.tup [x, y])) T (.tup [.int (i : Nat), .ref T1])) h' T (.tup [.int (i : Nat), .ref T1]) := ⟨by show 2 ≤ sizeLine; decide, [.int ((i : Nat) : Int) t, .ref T1], .cons ⟨_, rfl⟩ (.cons rfl .nil), ⟨_, tT, rfl, _, rfl⟩⟩
    have I2 := learn I1 (I.fpOk lT hn2) new2
    refine ⟨.ref T, _, I2, rfl, ⟨T1, T, x, y, rfl, hn1, hn, TT, rfl, fun l hl => by rw [SqB.inj I hl hq]; exact hx, fun l hl => by rw [SqB.inj I hl hq']; exact hy⟩, ⟨e', z', TI', TO', s1, s2⟩, fun d hd => ?_⟩
    have ld := lts d hd
    rw [upd_ne (Nat.ne_of_lt (Nat.lt_of_lt_of_le ld lT)), upd_ne (Nat.ne_of_lt (Nat.lt_of_lt_of_le ld hT1))]
    exact (hf d hd).1
  done := by
    intro X hP hw hK hc i pins s σ H E I hf st hg
    subst hP hw hK
    obtain ⟨he, hz, hTI, hTO, h1, h2⟩ := st
    obtain ⟨xs, ys, hq, hq', hx⟩ := hg
    obtain ⟨its, rv, p⟩ := SqB.at I hq
    obtain ⟨its', rv', p'⟩ := SqB.at I hq'
    have hh : X.A.handled = none := I.ok.hd hc
    have G := goes_ez (elts := elts) (x1 := kk) (pos := tpos) S (draws_B (prog := X.prog) (w := X.w) (A := X.A.in1.in1) hh b i1 a n1 its.toArray) (draws_B (prog := X.prog) (w := X.w) (A := X.A.in1.in1) hh c i2 a' n2 its'.toArray) ez eI eO f1 f2
    have hn : i = min its.toArray.size its'.toArray.size := by rw [List.size_toArray, List.size_toArray, ← rv.length, ← rv'.length, hx]
    subst hn
    exact thn (G.stops s (fun s1 => Inv X pins σ H s1) E ⟨he, hz, hTI, hTO, ⟨h1, p⟩, h2, p'⟩ fun h' tk hk _ => I.turnedL (ch := [e, z, TI, TO, i1, i2]) (fun d o hd x => hk d o (fun hm => hd (by
      have q : d = e ∨ d = z ∨ d = TO ∨ d = i1 ∨ d = i2 := by simpa using hm
      rcases q with rfl | rfl | rfl | rfl | rfl <;> simp)) x) hf) fun r s1 h1 => h1
  self := fun A i s Q E st h => let ⟨⟨_, he⟩, _⟩ := st; wpAny_pyIter_enum he h
theorem meets_enumZ {z TI TO : Addr} : PySem.Meets (Builtin.«enumerate.__new__» ⟨[.type "enumerate", .ref z], []⟩)
    (fun _ R s => IsZip s.heap z TI TO .none ∧ R (.ok (.ret (.ref s.heap.objs.size))) { s with heap := s.heap.push { cls := .type "enumerate", data := .fields #[.none, .bool false, .ref z, rawInt 0, .none, .none] } }) := .of_wp fun prog w A R s hs => by
  obtain ⟨hp, g, d, tk, os⟩ := s
  obtain ⟨hC, hR⟩ := hs
  have sub := sub_enumerate
  have it : ∀ {A' : Around} {E : Value → Shared → Prop} {Q : Value → Shared → Prop}, Q (.ref z) ⟨hp, g, d, tk, os⟩ → wpAny (model prog w) A' (pyIter (.ref z)) Q E ⟨hp, g, d, tk, os⟩ := fun q => wpAny_pyIter_zip (s := ⟨hp, g, d, tk, os⟩) hC q
  wp_walk using it
  refine wpAny_stack_any fun st => wpAny_pure ?_
  split
  · rename_i c _ _ _ _ _
    cases (c == Value.type "enumerate") <;> (wp_walk using it) <;> exact ⟨_, rfl, hR⟩
  · wp_walk using it
    exact ⟨_, rfl, hR⟩
theorem call_enumZ {prog : Program} {w : World} {A : Around} {E : Value → Shared → Prop} {s : Shared} {z TI TO : Addr} {Q : Value → Shared → Prop} (h1 : IsZip s.heap z TI TO .none)
    (h : ∀ h', IsEnum h' s.heap.objs.size z 0 .none → (∀ b u, s.heap.get? b = some u → h'.get? b = some u) → Q (.ref s.heap.objs.size) { s with heap := h' }) :
    wpAny (model prog w) A (call (.type "enumerate") [.ref z]) Q E s := by
  refine callType_new F.called_enumerate (by decide) (F.typeCall_enumerate_1 _) (F.newCall_enumerate_1 _) (fun obj => F.args_object_init_2 obj _) F.entry_enumerate_new meets_enumZ ⟨h1, ?_⟩
  have he : IsEnum (s.heap.push { cls := .type "enumerate", data := .fields #[.none, .bool false, .ref z, rawInt 0, .none, .none] }) s.heap.objs.size z 0 .none := Heap.get?_push_size _ rfl
  exact ⟨⟨_, he, rfl⟩, h _ he fun b u x => Heap.get?_push_of_some _ x⟩
def iEz (K : PySem.W.Frag) (ta : TA) : TI := fun σ H R => ta σ H fun vs H1 => ∃ a a' b c xs ys, vs = [.ref a, .ref a'] ∧ SqB K b H1 a xs ∧ SqB K c H1 a' ys ∧ R (ItEZ K b c a a') H1
theorem pi_ez {X : Cx} {e e2 : Expr} {ta : TA} {p p2 pos pos2 tpos : Pos} {elts : List Expr} {kk : Nat} (hg : Gl X "enumerate") (hm : X.mg "enumerate" = none) (hg2 : Gl X "zip") (hm2 : X.mg "zip" = none) (ha : PA X [e, e2] ta)
    (hs : starEach [e, e2] X.env = (false, eval e X.env) :: starEach [e2] X.env := by rfl) (hpl : (backTo pos2 (starEach [e2] X.env)).any (·.1) = false := by rfl)
    (hs2 : starEach [.Call (.Name "zip" p2) [e, e2] [] pos2] X.env = [(false, eval (.Call (.Name "zip" p2) [e, e2] [] pos2) X.env)] := by rfl) :
    PI X (.Tuple elts kk tpos) (.Call (.Name "enumerate" p) [.Call (.Name "zip" p2) [e, e2] [] pos2] [] pos) (iEz X.K ta) :=
  ⟨fun pins s σ H R I h => Call_ (ld_blt I hg hm boot_enumerate (PyProof.Rows.callWith_type1 (by
  rw [hs2]
  show wpAny _ _ (spliced ((false, eval (.Call (.Name "zip" p2) [e, e2] [] pos2) X.env) :: backTo pos [])) _ _ s
  refine Calls.spliced_cons (Call_ (ld_blt I hg2 hm2 PyProof.Rows.boot_zip (PyProof.Rows.callWith_type1 (thn (ha.run pos2 pins s σ H _ I h) fun us s1 ⟨vs, H1, I1, r1, a, a', b, c, xs, ys, ex, hq, hq', q⟩ => ?_) hs hpl)))
  subst ex
  obtain ⟨u, u', rfl, ru, ru'⟩ := vals2 r1
  cases ru
  cases ru'
  obtain ⟨its, rv, p1⟩ := SqB.at I1 hq
  obtain ⟨its', rv', p2⟩ := SqB.at I1 hq'
  have al := p1.lt
  have al' := p2.lt
  refine zip_begins2 (begins_B b a its.toArray) (begins_B c a' its'.toArray) p1 p2 fun h' hz hTI hTO g1 g2 sz hk => ?_
  refine Calls.spliced_nil ?_
  refine call_enumZ (s := { s1 with heap := h' }) hz fun h2 he hk2 => wpAny_pyIter_enum he ?_
  dsimp only at he hk2 ⊢
  have kk2 : ∀ d o, s1.heap.get? d = some o → h2.get? d = some o := fun d o x => hk2 d o (hk d o x)
  refine ⟨h'.objs.size, [h'.objs.size, s1.heap.objs.size + 4, s1.heap.objs.size + 2, s1.heap.objs.size + 3, s1.heap.objs.size, s1.heap.objs.size + 1], _, _, H1, rfl, I1.kept (t' := s1.toks) kk2,
    turn_EZ b c a a' _ _ _ _ _ _ (zip_sep2 (fp1 := [a]) (fp2 := [a']) (by intro x hx; rw [List.mem_singleton.mp hx]; exact al) (by intro x hx; rw [List.mem_singleton.mp hx]; exact al')) (Nat.ne_of_lt al) (Nat.ne_of_lt (Nat.lt_succ_of_lt al'))
      (by rw [sz]; exact Nat.ne_of_gt (Nat.lt_succ_self _)) (by rw [sz]; exact Nat.ne_of_gt (Nat.add_lt_add_left (by decide) _)) (by rw [sz]; exact Nat.ne_of_gt (Nat.add_lt_add_left (by decide) _))
      (fun m => ?_) (fun m => ?_), ⟨⟨.none, he⟩, ⟨.none, false, .inl rfl, hk2 _ _ hz⟩, hk2 _ _ hTI, ⟨_, _, hk2 _ _ hTO⟩, (SeqItB.new g1).keep fun o x => hk2 _ _ x, (SeqItB.new g2).keep fun o x => hk2 _ _ x⟩, fun d hd => ?_, q⟩
  · rw [sz] at m
    have m' : s1.heap.objs.size + 5 = s1.heap.objs.size ∨ s1.heap.objs.size + 5 = a := by simpa using m
    rcases m' with q | q
    · exact absurd q (Nat.ne_of_gt (Nat.lt_add_of_pos_right (by decide)))
    · exact absurd q (Nat.ne_of_gt (Nat.lt_trans al (Nat.lt_add_of_pos_right (by decide))))
  · rw [sz] at m
    have m' : s1.heap.objs.size + 5 = s1.heap.objs.size + 1 ∨ s1.heap.objs.size + 5 = a' := by simpa using m
    rcases m' with q | q
    · exact absurd q (Nat.ne_of_gt (Nat.add_lt_add_left (by decide) _))
    · exact absurd q (Nat.ne_of_gt (Nat.lt_trans al' (Nat.lt_add_of_pos_right (by decide))))
  · rw [sz] at hd
    have e : d = s1.heap.objs.size + 5 ∨ d = s1.heap.objs.size + 4 ∨ d = s1.heap.objs.size + 2 ∨ d = s1.heap.objs.size + 3 ∨ d = s1.heap.objs.size ∨ d = s1.heap.objs.size + 1 := by simpa using hd
    have hle : s1.heap.objs.size ≤ d := by
      rcases e with rfl | rfl | rfl | rfl | rfl | rfl <;> first | exact Nat.le_add_right _ _ | exact Nat.le_refl _
    exact I1.fpOk hle (I1.hok.fresh hle)) hs2 rfl))⟩
def ezFrom (k : Nat) : List Dat → List Dat → List Dat
  | x :: xs, y :: ys => .tuple [.int (k : Nat), .tuple [x, y]] :: ezFrom (k + 1) xs ys
  | _, _ => []
theorem ezFrom_eq : ∀ (xs ys : List Dat) (k : Nat), ezFrom k xs ys = pairsFrom k (zipD xs ys)
  | [], ys, k => by simp [ezFrom, zipD, pairsFrom]
  | x :: xs, [], k => by simp [ezFrom, zipD, pairsFrom]
  | x :: xs, y :: ys, k => by
    show PyData.tuple [.int (k : Nat), .tuple [x, y]] :: ezFrom (k + 1) xs ys = _
    rw [ezFrom_eq xs ys (k + 1)]
    rfl
theorem WalkD.ez {K : KK} {b c : Bool} {a a' : Addr} {vs ws : List V} {ds es : List Dat} {G0 : Hp} (hq : SqB K.fr b G0 a vs) (dp : DpAll K G0 vs ds) (hq' : SqB K.fr c G0 a' ws) (dp' : DpAll K G0 ws es) : WalkD K (ItEZ K.fr b c a a') (pairsFrom 0 (zipD ds es)) G0 where
  goes := fun i H s hi => by
    rw [pairsFrom_len, zipD_len, ← dp.pvLen, ← dp'.pvLen] at hi
    obtain ⟨h1, h2⟩ := Nat.lt_min.mp hi
    exact ⟨vs, ws, vs[i], ws[i], hq.grow s, hq'.grow s, List.getElem?_eq_getElem h1, List.getElem?_eq_getElem h2⟩
  stops := fun H s => ⟨vs, ws, hq.grow s, hq'.grow s, by rw [pairsFrom_len, zipD_len, dp.pvLen, dp'.pvLen]⟩
  yields := fun i H0 H x H' s s' hi y => by
    obtain ⟨T1, T, u, u', rfl, hT1, hT, TT, rfl, hu, hu'⟩ := y
    obtain ⟨d, ed, dd⟩ := dp.pvGetV (hu vs (hq.mono (s.trans s')))
    obtain ⟨d', ed', dd'⟩ := dp'.pvGetV (hu' ws (hq'.mono (s.trans s')))
    have kn1 := Sub.upd (o := .tup [u, u']) (s'.none hT1)
    have x1 : Ext K H0 H (upd H0 T1 (.tup [u, u'])) (upd H T1 (.tup [u, u'])) := Ext.new s' hT1
    have hT' : upd H T1 (.tup [u, u']) T = none := by rw [upd_ne TT]; exact hT
    have kn2 := Sub.upd (o := .tup [.int (i : Nat), .ref T1]) (x1.inn.none hT')
    refine ⟨_, _, by rw [pairsFrom_get, zipD_get _ _ _ _ _ ed ed']; rfl, x1.trans (Ext.new x1.inn hT'), .tup (.inl (.inl upd_same)) (.cons (by rw [Nat.zero_add]; exact Dp.int _) (.cons ?_ .nil))⟩
    refine dp_mono kn2 _ _ (.tup (.inl (.inl upd_same)) (.cons (dp_mono (s.trans kn1) _ _ dd) (.cons (dp_mono (s.trans kn1) _ _ dd') .nil)))
def riEz (ra : RA) : RI := fun env R => ra env fun as => ∃ d e ds es, toDs as = some [d, e] ∧ itemsD d = some ds ∧ itemsD e = some es ∧ R (pairsFrom 0 (zipD ds es))
instance {K : KK} {ta : TA} {ra : RA} [sa : SimA K ta ra] : SimI K (iEz K.fr ta) (riEz ra) where
  run := fun st h q => sa.run st h fun vs as G0 G ⟨d, e', ds, es, e, ed, ee, hr⟩ x da ap => by
    obtain ⟨I0, xI, s1, p⟩ := da.keep x e
    cases p with
    | cons p1 p2 =>
      cases p2 with
      | cons p3 p4 =>
        cases p4
        obtain ⟨b, a, ws, rfl, hq, dp⟩ := dp_seq p1 ed
        obtain ⟨c, a', ws', rfl, hq', dp'⟩ := dp_seq p3 ee
        exact ⟨a, a', b, c, ws, ws', rfl, hq.mono xI.inn, hq'.mono xI.inn, q _ _ _ _ hr xI (WalkD.ez hq dp hq' dp')⟩
theorem pi_enumZip {X : Cx} {K : KK} {e e2 : Expr} {ta : TA} {p p2 pos pos2 tpos : Pos} {elts : List Expr} {kk : Nat} (h : X.K = K.fr) (hg : Gl X "enumerate") (hm : X.mg "enumerate" = none) (hg2 : Gl X "zip") (hm2 : X.mg "zip" = none) (ha : PA X [e, e2] ta)
    (hs : starEach [e, e2] X.env = (false, eval e X.env) :: starEach [e2] X.env := by rfl) (hpl : (backTo pos2 (starEach [e2] X.env)).any (·.1) = false := by rfl)
    (hs2 : starEach [.Call (.Name "zip" p2) [e, e2] [] pos2] X.env = [(false, eval (.Call (.Name "zip" p2) [e, e2] [] pos2) X.env)] := by rfl) :
    PI X (.Tuple elts kk tpos) (.Call (.Name "enumerate" p) [.Call (.Name "zip" p2) [e, e2] [] pos2] [] pos) (iEz K.fr ta) := h ▸ pi_ez hg hm hg2 hm2 ha hs hpl hs2
end PV

/-! PvNew: calls whose answer is a new list, which the caller may go on to change. -/
namespace PV
open PySem PySem.Spec PyProof.Rows L2 -- pv
/-- a def's promise: a new list -/
def spF (K : KK) (f : List Dat → (Ow → Prop) → Prop) : Sp := fun vs H Q _ => ∃ H0 ds, Sub H0 H ∧ (∀ P ∈ K.tabs, TabK K H0 H P) ∧ DpAll K H0 vs ds ∧ f ds fun w => ∀ v H0' H', Ext K H0 H H0' H' → NewW K H H0' H' v w → Q v H'
def rCallF (f : List Dat → (Ow → Prop) → Prop) (ra : RA) : RE := fun env R => ra env fun as => ∃ ds, toDs as = some ds ∧ f ds fun w => R (.fr w)
class FMonoF (f : List Dat → (Ow → Prop) → Prop) : Prop where
  mono : ∀ {ds : List Dat} {R R' : Ow → Prop}, (∀ d, R d → R' d) → f ds R → f ds R'
instance {K : KK} {f : List Dat → (Ow → Prop) → Prop} {E : XK} {ta : TA} {ra : RA} [m : FMonoF f] [sa : SimA K ta ra] : SimE K (tCall (spF K f) [] E ta) (rCallF f ra) where
  run := fun {F B0 B H0 H σ env Q R} st h q => sa.run st h fun vs as G0 G ⟨ds, e, ha⟩ xa da ap => by
    obtain ⟨I0, xI, s1, p⟩ := da.keep xa e
    rw [List.append_nil]
    refine ⟨I0, ds, xI.inn, (st.go xI).tab, p, m.mono (fun es hd v I0' I' x dv => q v (.fr es) I0' I' hd (xI.trans x) ?_) ha⟩
    obtain ⟨o, ws, rfl, h1, h2, h3, h4⟩ := dv
    exact ⟨o, ws, rfl, xa.act.none h1, h2, h3, h4⟩
/-- a promise by a function -/
def SfnF {α : Type} (enc : α → List Dat) (pre : α → Prop) (res : α → List Dat) : List Dat → (Ow → Prop) → Prop := fun ds R => ∃ a, ds = enc a ∧ pre a ∧ R (.lst (res a))
instance {α : Type} {enc : α → List Dat} {pre : α → Prop} {res : α → List Dat} : FMonoF (SfnF enc pre res) := ⟨fun m ⟨a, e, p, h⟩ => ⟨a, e, p, m _ h⟩⟩
theorem sfnF_len {α : Type} {enc : α → List Dat} {pre : α → Prop} {res : α → List Dat} {ds : List Dat} {R : Ow → Prop} {n : Nat} (h : SfnF enc pre res ds R) (hn : ∀ a, (enc a).length = n) : ds.length = n := by
  obtain ⟨a, rfl, _⟩ := h; exact hn a
/-- a caller that only keeps the answer -/
theorem keepF {K : KK} {mg : Str → Option Value} {base : Heap} {k : Nat} {f : Addr} {fd : FuncData} {ps : List Str} {α : Type} {enc : α → List Dat} {pre : α → Prop} {res : α → List Dat}
    (F : FnOk K.P K.w K.fr mg base CX0 k f fd ps (spF K (SfnF enc pre res))) : FnOk K.P K.w K.fr mg base CX0 k f fd ps (spD K (Sfn enc pre fun a => .list (res a))) := F.imp fun vs H Q E ⟨H0, ds, s0, tb, dp, a, e, p, h⟩ =>
  ⟨H0, ds, s0, tb, dp, a, e, p, fun v H0' H' x ⟨o, ho, ev, h1, h2, h3, h4⟩ => by
    subst ev
    exact h _ (frz H0' H' o) H' (x.frz h1) ((h4.mono (frz_kn x.inn o)).dp (by rw [frz_at]; exact h3))⟩
/-- a text without defs within defs -/
def kOf (P : Program) (w : World) (K : PySem.W.Frag) : KK := ⟨K, P, w, [], fun _ _ => ""⟩
theorem ok_defF {K : KK} {mg : Str → Option Value} {base : Heap} {x qual : Str} {st : Stmt} {f : Addr} {fd : FuncData} {N ps : List Str} {k : Nat} {fs : List Dat → (Ow → Prop) → Prop} (Fn : Fun K.fr x qual st f fd) (S : FnScope N ps (defScope st))
    (hl : ∀ ds R, fs ds R → ds.length = ps.length)
    (hb : ∀ (cdv : Value) (A : Around) (outer : List PySem.Env) (s : Shared) (H : Hp) (E : XK), Room k (A.deeper (envOfC qual (defScope st) s.heap.objs.size f cdv)) →
      ∃ t r, PSs (cxOf CX0 K.P K.w K.fr mg base N qual (defScope st) f cdv A outer s H E).nox (defBody st) t ∧ SimS K t r ∧ ∀ ds R, fs ds R → r { nx := fun _ => False, rt := fun _ => False, rf := R } (ds.map Sl.val ++ List.replicate (N.length - ps.length) .un)) :
    FnOk K.P K.w K.fr mg base CX0 (k + 1) f fd ps (spF K fs) := by
  refine Fn.ok S (fun vs H Q E ⟨H0, ds, s0, tb, dp, h⟩ => dp.pvLen.trans (hl _ _ h)) (fun cdv A outer s H vs Q E hr ⟨H0, ds, s0, tb, dp, h⟩ => ?_)
  obtain ⟨t, r, hp, hs, hd⟩ := hb cdv A outer s H E hr
  refine ⟨t, hp, hs.run (F := H0) (B0 := H0) (B := H) (H0 := H0) (σ := L2.start N vs) (st_entry s0 tb dp (hl _ _ h)) (hd ds _ h) ?_⟩
  exact { nx := fun h _ => h.elim, bk := fun h _ => h.elim, ct := fun h _ => h.elim, rt := fun h => h.elim, rf := fun {es v G0 G} h x dv => h v G0 G x dv }
end PV

/-! PvDict: dicts by data: d[k], k in d, d[k] = v, d.get(k, x), displays. A dict's keys are numbers and texts, or tuples (nested) of such. -/
namespace PV
open PySem PySem.Spec PyProof.Rows L2 NdefX LamX -- pv
def isT : Dat → Bool
  | .tuple _ => true
  | _ => false
def isLf : Dat → Bool
  | .int _ => true
  | .str _ => true
  | _ => false
def TKey (d : Dat) : Prop := ∃ k, isT d = true ∧ keyOf d = some k ∧ k.depth ≤ 8
def KFit (kvs : List (Dat × Dat)) (kd : Dat) : Prop := (isLf kd = true ∧ ∀ p ∈ kvs, isLf p.1 = true) ∨ (TKey kd ∧ ∀ p ∈ kvs, isT p.1 = true)
def lookD (kvs : List (Dat × Dat)) (kd : Dat) : Option Dat := (kvs.find? fun p => decide (keyOf p.1 = keyOf kd)).map (·.2)
def putD (kvs : List (Dat × Dat)) (kd vd : Dat) : List (Dat × Dat) := if (lookD kvs kd).isSome = true then kvs.map (fun p => if keyOf p.1 = keyOf kd then (p.1, vd) else p) else kvs ++ [(kd, vd)]
theorem putD_len (kvs : List (Dat × Dat)) (kd vd : Dat) : (putD kvs kd vd).length ≤ kvs.length + 1 := by
  unfold putD
  split <;> simp
theorem keyD_lf (k : Key) : isLf (keyD k) = true := by cases k <;> rfl
theorem lf_key {d : Dat} (h : isLf d = true) : ∃ k, d = keyD k := by
  cases d <;> first | exact ⟨.inl _, rfl⟩ | exact ⟨.inr _, rfl⟩ | cases h
theorem keyOf_keyD (k : Key) : keyOf (keyD k) = some (match k with | .inl i => .num i | .inr x => .text x) := by cases k <;> simp [keyD, keyOf]
theorem keyD_inj {k k' : Key} : keyOf (keyD k) = keyOf (keyD k') ↔ k = k' := by
  rw [keyOf_keyD, keyOf_keyD]
  cases k <;> cases k' <;> simp
section
variable {X : Cx} {pins : List (Addr × Obj)} {σ : St} {H G : Hp} {s : Shared} {K : KK}
mutual
theorem key_is (hK : X.K = K.fr) (I : Inv X pins σ H s) : ∀ (d : Dat) (k : NestedKey) (v : V) (u : Value), keyOf d = some k → Dp K H v d → RelV v u → NestedIs s.heap k u
  | .none, k, v, u, e, h, r => by
    simp only [keyOf, Option.some.injEq] at e
    subst e
    cases h
    cases r
    exact .none
  | .int i, k, v, u, e, h, r => by
    simp only [keyOf, Option.some.injEq] at e
    subst e
    cases h
    obtain ⟨t, rfl⟩ := r
    exact .int i t
  | .str x, k, v, u, e, h, r => by
    simp only [keyOf, Option.some.injEq] at e
    subst e
    cases h
    obtain ⟨t, rfl⟩ := r
    exact .text x t
  | .tuple ds, k, v, u, e, h, r => by
    simp only [keyOf, Option.map_eq_some_iff] at e
    obtain ⟨ks, e, rfl⟩ := e
    cases h with
    | tup h1 h2 =>
      cases r
      obtain ⟨its, rv, ⟨o, p1, p2, n, p3⟩, _⟩ := I.tuple (show L2.SqT X.K H _ _ by rw [hK]; exact h1)
      exact .tup p1 p2 p3 (keys_is hK I ds ks _ _ e h2 rv)
  | .bool _, _, _, _, e, _, _ => by simp [keyOf] at e
  | .list _, _, _, _, e, _, _ => by simp [keyOf] at e
  | .dict _, _, _, _, e, _, _ => by simp [keyOf] at e
theorem keys_is (hK : X.K = K.fr) (I : Inv X pins σ H s) : ∀ (ds : List Dat) (ks : List NestedKey) (vs : List V) (us : List Value), keysOf ds = some ks → DpAll K H vs ds → Vals vs us → NestedAll s.heap ks us
  | [], ks, vs, us, e, h, r => by
    simp only [keysOf, Option.some.injEq] at e
    subst e
    cases h
    cases r
    exact .nil
  | d :: ds, ks, vs, us, e, h, r => by
    cases h with
    | cons h1 h2 =>
      cases r with
      | cons r1 r2 =>
        unfold keysOf at e
        cases e1 : keyOf d with
        | none => rw [e1] at e; cases e
        | some k =>
          rw [e1] at e
          cases e2 : keysOf ds with
          | none => rw [e2] at e; cases e
          | some ks' =>
            rw [e2] at e
            cases e
            exact .cons (key_is hK I d k _ _ e1 h1 r1) (keys_is hK I ds ks' _ _ e2 h2 r2)
end
/-- one entry as it stands, by data -/
def EnIs (K : KK) (G : Hp) (x : NestedKey × Addr × Value) (p : Dat × Dat) : Prop := keyOf p.1 = some x.1 ∧ x.1.depth ≤ 8 ∧ Dp K G (.ref x.2.1) p.1 ∧ ∃ v, RelV v x.2.2 ∧ Dp K G v p.2
abbrev EnR : NestedKey × Addr × V → NestedKey × Addr × Value → Prop := fun x y => x.1 = y.1 ∧ x.2.1 = y.2.1 ∧ RelV x.2.2 y.2.2
theorem paired_mem {α β : Type} {R : α → β → Prop} : ∀ {xs : List α} {ys : List β}, Paired R xs ys → ∀ x ∈ xs, ∃ y, y ∈ ys ∧ R x y
  | _, _, .nil, x, hx => by simp at hx
  | _, _, .cons r t, x, hx => by
    rcases List.mem_cons.mp hx with rfl | hx
    · exact ⟨_, List.mem_cons_self, r⟩
    · obtain ⟨y, hy, q⟩ := paired_mem t x hx
      exact ⟨y, List.mem_cons_of_mem _ hy, q⟩
theorem en_of : ∀ {xs : List (NestedKey × Addr × V)} {ys : List (NestedKey × Addr × Value)} {kvs : List (Dat × Dat)}, DpN K G xs kvs → Paired EnR xs ys → Paired (EnIs K G) ys kvs
  | _, _, _, .nil, .nil => .nil
  | _, _, _, .cons e1 e2 h1 h2 t, .cons r u => by
    obtain ⟨r1, r2, r3⟩ := r
    dsimp only at r1 r2 r3
    refine .cons ⟨by rw [e1, r1], by rw [← r1]; exact e2, by rw [← r2]; exact h1, _, r3, h2⟩ (en_of t u)
theorem en_to : ∀ {ys : List (NestedKey × Addr × Value)} {kvs : List (Dat × Dat)}, Paired (EnIs K G) ys kvs → ∃ xs, DpN K G xs kvs ∧ Paired EnR xs ys
  | _, _, .nil => ⟨[], .nil, .nil⟩
  | _, _, .cons (a := y) (b := p) r t => by
    obtain ⟨xs, h1, h2⟩ := en_to t
    obtain ⟨e1, e2, e3, v, rv, dv⟩ := r
    exact ⟨(y.1, y.2.1, v) :: xs, .cons e1 e2 e3 dv h1, .cons ⟨rfl, rfl, rv⟩ h2⟩
theorem paired_map {α β : Type} {R : α → β → Prop} {f : α → α} {g : β → β} (hfg : ∀ a b, R a b → R (f a) (g b)) : ∀ {xs : List α} {ys : List β}, Paired R xs ys → Paired R (xs.map f) (ys.map g)
  | _, _, .nil => .nil
  | _, _, .cons r t => .cons (hfg _ _ r) (paired_map hfg t)
theorem paired_snoc {α β : Type} {R : α → β → Prop} {a : α} {b : β} (h : R a b) : ∀ {xs : List α} {ys : List β}, Paired R xs ys → Paired R (xs ++ [a]) (ys ++ [b])
  | _, _, .nil => .cons h .nil
  | _, _, .cons r t => .cons r (paired_snoc h t)
/-- tuple keys: what stands -/
theorem dd_nest (hK : X.K = K.fr) (hP : X.prog = K.P) (hw : X.w = K.w) (I : Inv X pins σ H s) {a : Addr} {ho : HO} {kvs : List (Dat × Dat)} (sg : Sub G H) (e : H a = some ho) (d : DpD K G a ho kvs) (ht : ∀ p ∈ kvs, isT p.1 = true) :
    (a == sysModules) = false ∧ kvs.length ≤ sizeLine ∧ ∃ ys : List (NestedKey × Addr × Value), s.heap.DictOfH (nestedKind X.prog X.w) a ys ∧ Paired (EnIs K G) ys kvs := by
  cases d with
  | leaf h =>
    cases h with
    | cons _ _ =>
      have := ht _ List.mem_cons_self
      rename_i k v d' r s' _ _
      cases k <;> cases this
    | nil =>
      obtain ⟨z, hd, vs, r, o, es, ep, g1, g2, g3, g4, g5, g6⟩ := I.hok a _ e
      cases r
      refine ⟨hd, Nat.zero_le _, [], ⟨o, es, ep, g1, g2, g3, ?_, fun x hx => by simp at hx, List.nodup_nil⟩, .nil⟩
      have : es.toList = [] := by
        cases q : es.toList with
        | nil => rfl
        | cons x r => rw [q] at g5; cases g5
      rw [this]; rfl
  | nest n h =>
    rename_i xs
    obtain ⟨⟨hd, hz, ys, o, es, ep, r, g1, g2, g3, g4, g5⟩, _, _⟩ := I.hok a _ e
    rw [← hP, ← hw] at g4
    have q := en_of h r
    refine ⟨hd, by rw [← h.pvLen]; exact hz, ys, ⟨o, es, ep, g1, g2, g3, g4, fun x hx => ?_, g5⟩, q⟩
    obtain ⟨p, _, e1, e2, e3, _⟩ := paired_mem q x hx
    exact ⟨key_is hK I p.1 x.1 _ _ e1 (dp_mono sg _ _ e3) rfl, e2⟩
  | froz _ _ =>
    have := ht _ List.mem_cons_self
    cases this
  | frozK _ =>
    have := ht _ List.mem_cons_self
    cases this
/-- number and text keys: what is tracked -/
theorem dd_leaf {a : Addr} {ho : HO} {kvs : List (Dat × Dat)} (d : DpD K G a ho kvs) (ht : ∀ p ∈ kvs, isLf p.1 = true) : ∃ ks, ho = .dK ks ∧ DpK K G ks kvs := by
  cases d with
  | leaf h => exact ⟨_, rfl, h⟩
  | nest n h =>
    cases h with
    | nil => exact absurd rfl n
    | cons e1 e2 h1 h2 t =>
      have q := ht _ List.mem_cons_self
      obtain ⟨k, e⟩ := lf_key q
      dsimp only at e
      subst e
      cases k <;> cases h1
  | froz _ _ =>
    have := ht _ List.mem_cons_self
    cases this
  | frozK _ =>
    have := ht _ List.mem_cons_self
    cases this
end
section
variable {K : KK} {H : Hp}
theorem at_look {kd : Dat} {k : NestedKey} (ek : keyOf kd = some k) : ∀ {xs : List (NestedKey × Addr × Value)} {kvs : List (Dat × Dat)}, Paired (EnIs K H) xs kvs →
    match atKey xs k with
    | some q => ∃ v e, lookD kvs kd = some e ∧ RelV v q.2 ∧ Dp K H v e
    | none => lookD kvs kd = none
  | _, _, .nil => rfl
  | _, _, .cons (a := x) (b := y) (l₁ := xs) (l₂ := ys) r t => by
    have ih := at_look ek t
    obtain ⟨a, b, c, v, rv, dv⟩ := r
    unfold atKey lookD at ih ⊢
    rw [List.find?_cons, List.find?_cons]
    by_cases h : x.1 = k
    · have h2 : keyOf y.1 = keyOf kd := by rw [a, ek, h]
      simp only [h, h2, decide_true, Option.map_some]
      exact ⟨v, _, rfl, rv, dv⟩
    · have h2 : ¬ keyOf y.1 = keyOf kd := fun z => h (by rw [a, ek] at z; exact Option.some.inj z)
      simp only [h, h2, decide_false]
      exact ih
theorem look_some {kd : Dat} {k : NestedKey} (ek : keyOf kd = some k) {xs : List (NestedKey × Addr × Value)} {kvs : List (Dat × Dat)} (h : Paired (EnIs K H) xs kvs) : (atKey xs k).isSome = (lookD kvs kd).isSome := by
  have := at_look ek h
  cases e : atKey xs k with
  | none =>
    rw [e] at this
    rw [show lookD kvs kd = none from this]
    rfl
  | some q =>
    rw [e] at this
    obtain ⟨v, d, h1, _⟩ := this
    rw [h1]
    rfl
theorem put_rel {kd vd : Dat} {k : NestedKey} {b : Addr} {v : V} {u : Value} (ek : keyOf kd = some k) (dk : k.depth ≤ 8) (hk : Dp K H (.ref b) kd) (rv : RelV v u) (dv : Dp K H v vd) {xs : List (NestedKey × Addr × Value)} {kvs : List (Dat × Dat)} (h : Paired (EnIs K H) xs kvs) :
    Paired (EnIs K H) (storedH xs k b u) (putD kvs kd vd) := by
  unfold storedH putD
  rw [look_some ek h]
  by_cases z : (lookD kvs kd).isSome = true
  · rw [if_pos z, if_pos z]
    refine paired_map (fun x p r => ?_) h
    obtain ⟨a, b', c, w, rw', dw⟩ := r
    unfold putAt
    by_cases q : x.1 = k
    · have q2 : keyOf p.1 = keyOf kd := by rw [a, ek, q]
      rw [if_pos q, if_pos q2]
      exact ⟨a, b', c, v, rv, dv⟩
    · have q2 : ¬ keyOf p.1 = keyOf kd := fun y => q (by rw [a, ek] at y; exact Option.some.inj y)
      rw [if_neg q, if_neg q2]
      exact ⟨a, b', c, w, rw', dw⟩
  · rw [if_neg z, if_neg z]
    exact paired_snoc ⟨ek, dk, hk, v, rv, dv⟩ h
/-- .. with number and text keys -/
theorem valV_look (k : Key) : ∀ {ks : List (Key × V)} {kvs : List (Dat × Dat)}, DpK K H ks kvs → match valV ks k with
    | some v => ∃ e, lookD kvs (keyD k) = some e ∧ Dp K H v e
    | none => lookD kvs (keyD k) = none
  | _, _, .nil => rfl
  | _, _, .cons (k := k') (v := v) (d := d) h t => by
    have ih := valV_look k t
    unfold lookD at ih ⊢
    rw [List.find?_cons]
    by_cases e : k' = k
    · subst e
      rw [valV_pos rfl]
      simp only [decide_true, Option.map_some]
      exact ⟨d, rfl, h⟩
    · have e2 : ¬ keyOf (keyD k') = keyOf (keyD k) := fun z => e (keyD_inj.mp z)
      rw [valV_neg e]
      simp only [e2, decide_false]
      exact ih
theorem valV_some (k : Key) {ks : List (Key × V)} {kvs : List (Dat × Dat)} (h : DpK K H ks kvs) : (valV ks k).isSome = (lookD kvs (keyD k)).isSome := by
  have := valV_look k h
  cases e : valV ks k with
  | none => rw [e] at this; rw [show lookD kvs (keyD k) = none from this]; rfl
  | some v => rw [e] at this; obtain ⟨d, h1, _⟩ := this; rw [h1]; rfl
theorem putK_map (k : Key) {v : V} {vd : Dat} (dv : Dp K H v vd) : ∀ {ks : List (Key × V)} {kvs : List (Dat × Dat)}, DpK K H ks kvs →
    DpK K H (ks.map fun kv => if kv.1 = k then (kv.1, v) else kv) (kvs.map fun p => if keyOf p.1 = keyOf (keyD k) then (p.1, vd) else p)
  | _, _, .nil => .nil
  | _, _, .cons (k := k') (v := v') (d := d) h t => by
    have ih := putK_map k dv t
    rw [List.map_cons, List.map_cons]
    by_cases e : k' = k
    · subst e
      simp only [if_true]
      exact .cons dv ih
    · have e2 : ¬ keyOf (keyD k') = keyOf (keyD k) := fun z => e (keyD_inj.mp z)
      simp only [e, e2, if_false]
      exact .cons h ih
theorem dpK_snoc {k : Key} {v : V} {vd : Dat} (dv : Dp K H v vd) : ∀ {ks : List (Key × V)} {kvs : List (Dat × Dat)}, DpK K H ks kvs → DpK K H (ks ++ [(k, v)]) (kvs ++ [(keyD k, vd)])
  | _, _, .nil => .cons dv .nil
  | _, _, .cons h t => .cons h (dpK_snoc dv t)
theorem putK_put (k : Key) {v : V} {vd : Dat} (dv : Dp K H v vd) {ks : List (Key × V)} {kvs : List (Dat × Dat)} (h : DpK K H ks kvs) : DpK K H (putK ks k v) (putD kvs (keyD k) vd) := by
  unfold putK putD
  rw [valV_any, valV_some k h]
  split
  · exact putK_map k dv h
  · exact dpK_snoc dv h
end
section
variable {X : Cx} {pins : List (Addr × Obj)} {σ : St} {H G : Hp} {s : Shared} {K : KK} {a : Addr} {ho : HO} {kvs : List (Dat × Dat)} {kd : Dat} {y : V} {u : Value}
theorem lf_val {k : Key} (h : Dp K G y (keyD k)) : y = kV k := by cases k <;> cases h <;> rfl
theorem tkey_ref (h : Dp K G y kd) (t : isT kd = true) : ∃ b, y = .ref b := by
  cases h <;> first | exact ⟨_, rfl⟩ | cases t
/-- d[k], k there -/
theorem d_item {A : Around} {E : Value → Shared → Prop} {Q : Value → Shared → Prop} {e : Dat} (hu : A.units + 64 < cLine) (hK : X.K = K.fr) (hP : X.prog = K.P) (hw : X.w = K.w) (I : Inv X pins σ H s) (sg : Sub G H) (eo : H a = some ho) (d : DpD K G a ho kvs) (kf : KFit kvs kd) (dk : Dp K G y kd) (l : lookD kvs kd = some e) (ry : RelV y u)
    (h : ∀ v w' s', Inv X pins σ H s' → RelV v w' → Dp K G v e → Q w' s') : wpAny (model X.prog X.w) A (getItem (.ref a) u) Q E s := by
  rcases kf with ⟨lf, ht⟩ | ⟨⟨k, tk, ek, dp⟩, ht⟩
  · obtain ⟨ks, rfl, h2⟩ := dd_leaf d ht
    obtain ⟨k, rfl⟩ := lf_key lf
    have := valV_look k h2
    cases q : valV ks k with
    | none => rw [q] at this; rw [show lookD kvs (keyD k) = none from this] at l; cases l
    | some v =>
      rw [q] at this
      obtain ⟨e', l', dv⟩ := this
      rw [l] at l'
      cases l'
      rw [lf_val dk] at ry
      exact d_getItem (by omega) I (.inl ⟨ks, k, .inl eo, rfl, q.symm⟩) ry fun w' s' J r => h v w' s' J r dv
  · obtain ⟨hd, hz, ys, hx, hp⟩ := dd_nest hK hP hw I sg eo d ht
    obtain ⟨b, rfl⟩ := tkey_ref dk tk
    cases ry
    have al := at_look ek hp
    cases q : atKey ys k with
    | none => rw [q] at al; rw [show lookD kvs kd = none from al] at l; cases l
    | some p =>
      rw [q] at al
      obtain ⟨v, e', l1, rv, dv⟩ := al
      rw [l] at l1
      cases l1
      refine wpAny_getItem_heap (knd := nestedKind X.prog X.w) (k := k) (by show A.units + 1 + 8 < cLine; omega) ⟨key_is hK I kd k _ _ ek (dp_mono sg _ _ dk) rfl, dp⟩ hx q ?_
      exact h v _ _ (I.tok _) rv dv
/-- k in d -/
theorem d_isin {A : Around} {E : Value → Shared → Prop} {Q : Value → Shared → Prop} (hu : A.units + 64 < cLine) (hK : X.K = K.fr) (hP : X.prog = K.P) (hw : X.w = K.w) (I : Inv X pins σ H s) (sg : Sub G H) (eo : H a = some ho) (d : DpD K G a ho kvs) (kf : KFit kvs kd) (dk : Dp K G y kd) (ry : RelV y u)
    (h : ∀ s', Inv X pins σ H s' → Q (.bool (lookD kvs kd).isSome) s') : wpAny (model X.prog X.w) A (compareOp .In u (.ref a)) Q E s := by
  rcases kf with ⟨lf, ht⟩ | ⟨⟨k, tk, ek, dp⟩, ht⟩
  · obtain ⟨ks, rfl, h2⟩ := dd_leaf d ht
    obtain ⟨k, rfl⟩ := lf_key lf
    rw [lf_val dk] at ry
    exact d_in (by omega) I (.inl ⟨ks, k, .inl eo, rfl, rfl⟩) ry fun s' J => by rw [valV_some k h2]; exact h s' J
  · obtain ⟨hd, hz, ys, hx, hp⟩ := dd_nest hK hP hw I sg eo d ht
    obtain ⟨b, rfl⟩ := tkey_ref dk tk
    cases ry
    refine wpAny_in_heap (knd := nestedKind X.prog X.w) (k := k) (by show A.units + 1 + 8 < cLine; omega) ⟨key_is hK I kd k _ _ ek (dp_mono sg _ _ dk) rfl, dp⟩ hd hx ?_
    rw [look_some ek hp]
    exact h _ (I.tok _)
theorem d_notin {A : Around} {E : Value → Shared → Prop} {Q : Value → Shared → Prop} (hu : A.units + 64 < cLine) (hK : X.K = K.fr) (hP : X.prog = K.P) (hw : X.w = K.w) (I : Inv X pins σ H s) (sg : Sub G H) (eo : H a = some ho) (d : DpD K G a ho kvs) (kf : KFit kvs kd) (dk : Dp K G y kd) (ry : RelV y u)
    (h : ∀ s', Inv X pins σ H s' → Q (.bool (!(lookD kvs kd).isSome)) s') : wpAny (model X.prog X.w) A (compareOp .NotIn u (.ref a)) Q E s := by
  rcases kf with ⟨lf, ht⟩ | ⟨⟨k, tk, ek, dp⟩, ht⟩
  · obtain ⟨ks, rfl, h2⟩ := dd_leaf d ht
    obtain ⟨k, rfl⟩ := lf_key lf
    rw [lf_val dk] at ry
    exact d_notIn (by omega) I (.inl ⟨ks, k, .inl eo, rfl, rfl⟩) ry fun s' J => by rw [valV_some k h2]; exact h s' J
  · obtain ⟨hd, hz, ys, hx, hp⟩ := dd_nest hK hP hw I sg eo d ht
    obtain ⟨b, rfl⟩ := tkey_ref dk tk
    cases ry
    refine notIn_keyed (knd := nestedKind X.prog X.w) (k := k) (by show A.units + 1 + 8 < cLine; omega) ⟨key_is hK I kd k _ _ ek (dp_mono sg _ _ dk) rfl, dp⟩ hd ⟨ys, hx, rfl⟩ ?_
    rw [valueAt_pairsH, Option.isSome_map, look_some ek hp]
    exact h _ (I.tok _)
/-- d.get(k, x) -/
theorem d_getor {A : Around} {E : Value → Shared → Prop} {Q : Value → Shared → Prop} {z : V} {r : Value} (hu : A.units + 64 < cLine) (hK : X.K = K.fr) (hP : X.prog = K.P) (hw : X.w = K.w) (I : Inv X pins σ H s) (sg : Sub G H) (eo : H a = some ho) (d : DpD K G a ho kvs) (kf : KFit kvs kd) (dk : Dp K G y kd) (ry : RelV y u) (rz : RelV z r)
    (h : ∀ v w' s', Inv X pins σ H s' → RelV v w' → (match lookD kvs kd with | some e => Dp K G v e | none => v = z) → Q w' s') : wpAny (model X.prog X.w) A (call (.builtin "dict.get") [.ref a, u, r]) Q E s := by
  rcases kf with ⟨lf, ht⟩ | ⟨⟨k, tk, ek, dp⟩, ht⟩
  · obtain ⟨ks, rfl, h2⟩ := dd_leaf d ht
    obtain ⟨k, rfl⟩ := lf_key lf
    rw [lf_val dk] at ry
    refine d_get2 (by omega) I (.inl ⟨ks, k, .inl eo, rfl, rfl⟩) ry rz fun w' s' J q => h _ w' s' J q ?_
    have := valV_look k h2
    cases q : valV ks k with
    | none => rw [q] at this; rw [show lookD kvs (keyD k) = none from this]; rfl
    | some v => rw [q] at this; obtain ⟨e', l', dv⟩ := this; rw [l']; exact dv
  · obtain ⟨hd, hz, ys, hx, hp⟩ := dd_nest hK hP hw I sg eo d ht
    obtain ⟨b, rfl⟩ := tkey_ref dk tk
    cases ry
    refine getOr_keyed (knd := nestedKind X.prog X.w) (k := k) (by show A.units + 1 + 8 < cLine; omega) ⟨key_is hK I kd k _ _ ek (dp_mono sg _ _ dk) rfl, dp⟩ hd ⟨ys, hx, rfl⟩ ?_
    rw [valueAt_pairsH]
    have al := at_look ek hp
    cases q : atKey ys k with
    | none =>
      rw [q] at al
      exact h z _ _ (I.tok _) rz (by rw [show lookD kvs kd = none from al])
    | some p =>
      rw [q] at al
      obtain ⟨v, e', l1, rv, dv⟩ := al
      exact h v _ _ (I.tok _) rv (by rw [l1]; exact dv)
theorem dn_ok {h : Heap} {ys : List (NestedKey × Addr × Value)} {xs : List (NestedKey × Addr × V)} (hP : X.prog = K.P) (hw : X.w = K.w) (hd : (a == sysModules) = false) (hz : xs.length ≤ sizeLine) (r : Paired EnR xs ys) (hx : h.DictOfH (nestedKind X.prog X.w) a ys) {H' : Hp} : ObjOk X.prog X.w H' h a (DN K.P K.w a xs) := by
  obtain ⟨o, es, ep, g1, g2, g3, g4, _, g5⟩ := hx
  rw [hP, hw] at g4
  refine ⟨⟨hd, hz, ys, o, es, ep, r, g1, g2, g3, g4, g5⟩, ⟨o, g1⟩, fun h1 h2 ⟨a1, a2, ys', o', es', ep', r', b1, b2, b3, b4, b5⟩ st => ⟨a1, a2, ys', o', es', ep', r', st _ b1, b2, b3, b4, b5⟩⟩
theorem mut_dd {G : Hp} (d : DpD K G a ho kvs) (e : H a = some ho) (ht : ∀ p ∈ kvs, isT p.1 = true) : Mut (H a) := by
  rw [e]
  cases d with
  | leaf _ => exact True.intro
  | nest _ _ => unfold DN; exact True.intro
  | froz _ _ =>
    have := ht _ List.mem_cons_self
    cases this
  | frozK _ =>
    have := ht _ List.mem_cons_self
    cases this
/-- d[k] = v -/
theorem d_store {A : Around} {E : Value → Shared → Prop} {Q : Unit → Shared → Prop} {v : V} {vd : Dat} {r : Value} (hu : A.units + 64 < cLine) (hK : X.K = K.fr) (hP : X.prog = K.P) (hw : X.w = K.w) (I : Inv X pins σ H s) (sg : Sub G H) (eo : H a = some ho) (d : DpD K G a ho kvs) (kf : KFit kvs kd) (dk : Dp K G y kd) (dv : Dp K G v vd) (hz : kvs.length < sizeLine) (ry : RelV y u) (rv : RelV v r)
    (h : ∀ ho' s', DpD K G a ho' (putD kvs kd vd) → Inv X pins σ (upd H a ho') s' → Q () s') : wpAny (model X.prog X.w) A (setItem (.ref a) u r) Q E s := by
  rcases kf with ⟨lf, ht⟩ | ⟨⟨k, tk, ek, dp⟩, ht⟩
  · obtain ⟨ks, rfl, h2⟩ := dd_leaf d ht
    obtain ⟨k, rfl⟩ := lf_key lf
    rw [lf_val dk] at ry
    exact d_setItem (by omega) I (DPut.k eo (by rw [h2.pvLen]; exact hz)) ry rv fun s' J => h _ s' (.leaf (putK_put k dv h2)) J
  · obtain ⟨hd, hz', ys, hx, hp⟩ := dd_nest hK hP hw I sg eo d ht
    obtain ⟨b, rfl⟩ := tkey_ref dk tk
    cases ry
    refine wpAny_setItem_heap (knd := nestedKind X.prog X.w) (k := k) (by show A.units + 1 + 8 < cLine; omega) ⟨key_is hK I kd k _ _ ek (dp_mono sg _ _ dk) rfl, dp⟩ hx (fun h' hm hsb => ?_) (by rw [hp.length]; exact hz')
    obtain ⟨xs, x1, x2⟩ := en_to (put_rel ek dp dk rv dv hp)
    have xl : xs.length ≤ sizeLine := by rw [x1.pvLen]; have := putD_len kvs kd vd; omega
    have xn : xs ≠ [] := fun z => by
      have := x1.pvLen
      rw [z, List.length_nil] at this
      have q : (putD kvs kd vd) = [] := List.eq_nil_of_length_eq_zero this.symm
      unfold putD at q
      split at q
      · rename_i l
        have : kvs = [] := List.map_eq_nil_iff.mp q
        subst this
        simp [lookD] at l
      · simp at q
    have J := d_write (t' := s.toks + (nestedKind X.prog X.w).draws k) I (mut_dd d eo ht) hsb (let ⟨q, _, _, hq, _⟩ := hm; ⟨q, hq⟩) (dn_ok (K := K) hP hw hd xl x2 hm)
    exact h _ _ (.nest xn x1) J
end
end PV

/-! PvDop: the dicts' operations as readings of expressions and statements, and what they are on data. -/
namespace PV
open PySem PySem.Spec PyProof.Rows L2 NdefX LamX -- pv
section
variable {X : Cx} {K : KK}
/-- a dict at x, in a heap H, and a key y -/
structure DAt (K : KK) (H G : Hp) (x y : V) (a : Addr) (ho : HO) (kvs : List (Dat × Dat)) (kd : Dat) : Prop where
  ex : x = .ref a
  sg : Sub G H
  eo : H a = some ho
  dd : DpD K G a ho kvs
  kf : KFit kvs kd
  dk : Dp K G y kd
def rIxD (K : KK) : R2 := fun x y H Q => ∃ G a ho kvs kd e, DAt K H G x y a ho kvs kd ∧ lookD kvs kd = some e ∧ ∀ v, Dp K G v e → Q v H
def rInD (K : KK) (neg : Bool) : R2 := fun y x H Q => ∃ G a ho kvs kd, DAt K H G x y a ho kvs kd ∧ Q (.bl (if neg = true then !(lookD kvs kd).isSome else (lookD kvs kd).isSome)) H
theorem ix_dict (hu : X.A.units + 64 < cLine) (hK : X.K = K.fr) (hP : X.prog = K.P) (hw : X.w = K.w) : IxR X (rIxD K) := by
  intro value slice pins s σ H x y v u Q I rx ry ⟨G, a, ho, kvs, kd, e, D, l, q⟩ hs
  obtain ⟨ex, sg, eo, dd, kf, dk⟩ := D
  subst ex
  cases rx
  have ty : s.TypeIs (.ref a) "dict" := by
    cases dd with
    | leaf _ =>
      obtain ⟨_, _, _, _, o, _, _, g1, g2, _⟩ := I.hok a _ eo
      exact ⟨o, g1, g2.1⟩
    | nest _ _ =>
      obtain ⟨⟨_, _, _, o, _, _, _, g1, g2, _⟩, _, _⟩ := I.hok a _ eo
      exact ⟨o, g1, g2.1⟩
    | froz n _ =>
      obtain ⟨_, q⟩ := I.hok a _ eo
      rcases n with rfl | ⟨_, rfl⟩
      · obtain ⟨⟨_, _, _, o, _, _, _, g1, g2, _⟩, _, _⟩ := q
        exact ⟨o, g1, g2.1⟩
      · obtain ⟨_, _, _, _, o, _, _, g1, g2, _⟩ := q
        exact ⟨o, g1, g2.1⟩
    | frozK _ =>
      obtain ⟨_, q⟩ := I.hok a _ eo
      obtain ⟨_, _, _, _, o, _, _, g1, g2, _⟩ := q
      exact ⟨o, g1, g2.1⟩
  exact tail_any ty PySem.F.slot_dict_getitem.lookup (d_item hu hK hP hw I sg eo dd kf dk l ry fun v' w' s' J rv dv => ⟨v', H, J, rv, q v' dv⟩) hs
theorem op_inD (hu : X.A.units + 64 < cLine) (hK : X.K = K.fr) (hP : X.prog = K.P) (hw : X.w = K.w) : OpR X (compareOp .In) (rInD K false) := by
  intro pins s σ H x y v u Q I rx ry ⟨G, a, ho, kvs, kd, D, q⟩
  obtain ⟨ex, sg, eo, dd, kf, dk⟩ := D
  subst ex
  cases ry
  exact d_isin hu hK hP hw I sg eo dd kf dk rx fun s' J => ⟨.bl _, H, J, rfl, q⟩
theorem op_notInD (hu : X.A.units + 64 < cLine) (hK : X.K = K.fr) (hP : X.prog = K.P) (hw : X.w = K.w) : OpR X (compareOp .NotIn) (rInD K true) := by
  intro pins s σ H x y v u Q I rx ry ⟨G, a, ho, kvs, kd, D, q⟩
  obtain ⟨ex, sg, eo, dd, kf, dk⟩ := D
  subst ex
  cases ry
  exact d_notin hu hK hP hw I sg eo dd kf dk rx fun s' J => ⟨.bl _, H, J, rfl, q⟩
/-- d[k] = v -/
def sPut (K : KK) (td tk tv : TE) : TS := fun D σ H => tv σ H fun v H1 => td σ H1 fun x H2 => tk σ H2 fun y H3 => ∃ G a ho kvs kd vd, DAt K H3 G x y a ho kvs kd ∧ Dp K G v vd ∧ kvs.length < sizeLine ∧ ∀ ho', DpD K G a ho' (putD kvs kd vd) → D.nx σ (upd H3 a ho')
theorem ps_put {ed ek value : Expr} {p1 pos : Pos} {td tk tv : TE} (hu : X.A.units + 64 < cLine) (hK : X.K = K.fr) (hP : X.prog = K.P) (hw : X.w = K.w) (hd : PE X ed td) (hk : PE X ek tk) (hv : PE X value tv) (hs : swapsWith value (some (.Subscript ed ek p1)) pos.line X.env = pure false := by rfl) :
    PS X (.Assign [.Subscript ed ek p1] value pos) (sPut K td tk tv) := ⟨fun pins s σ H D I h =>
  wpAny_Assign_Subscript (thn (hv.run pins s σ H _ I h) fun r s1 ⟨v, H1, I1, rv, q1⟩ => thn (hd.run pins s1 σ H1 _ I1 q1) fun u s2 ⟨x, H2, I2, rx, q2⟩ => thn (hk.run pins s2 σ H2 _ I2 q2) fun iv s3 ⟨y, H3, I3, ry, G, a, ho, kvs, kd, vd, Dd, dv, hz, q3⟩ => by
    obtain ⟨ex, sg, eo, dd, kf, dk⟩ := Dd
    subst ex
    cases rx
    exact d_store hu hK hP hw I3 sg eo dd kf dk dv hz ry rv fun ho' s' dd' J => ⟨σ, _, J, q3 ho' dd'⟩) hs⟩
theorem dd_typed {pins : List (Addr × Obj)} {σ : St} {H G : Hp} {s : Shared} {a : Addr} {ho : HO} {kvs : List (Dat × Dat)} (I : Inv X pins σ H s) (eo : H a = some ho) (dd : DpD K G a ho kvs) :
    s.TypeIs (.ref a) "dict" ∧ (∀ b, Value.ref a = .ref b → ∃ ob, s.heap.get? b = some ob ∧ ob.dict = none) := by
  cases dd with
  | leaf _ =>
    obtain ⟨_, _, _, _, o, _, _, g1, g2, _⟩ := I.hok a _ eo
    exact ⟨⟨o, g1, g2.1⟩, fun b q => by cases q; exact ⟨o, g1, g2.2.1⟩⟩
  | nest _ _ =>
    obtain ⟨⟨_, _, _, o, _, _, _, g1, g2, _⟩, _, _⟩ := I.hok a _ eo
    exact ⟨⟨o, g1, g2.1⟩, fun b q => by cases q; exact ⟨o, g1, g2.2.1⟩⟩
  | froz n _ =>
    obtain ⟨_, q⟩ := I.hok a _ eo
    rcases n with rfl | ⟨_, rfl⟩
    · obtain ⟨⟨_, _, _, o, _, _, _, g1, g2, _⟩, _, _⟩ := q
      exact ⟨⟨o, g1, g2.1⟩, fun b q => by cases q; exact ⟨o, g1, g2.2.1⟩⟩
    · obtain ⟨_, _, _, _, o, _, _, g1, g2, _⟩ := q
      exact ⟨⟨o, g1, g2.1⟩, fun b q => by cases q; exact ⟨o, g1, g2.2.1⟩⟩
  | frozK _ =>
    obtain ⟨_, q⟩ := I.hok a _ eo
    obtain ⟨_, _, _, _, o, _, _, g1, g2, _⟩ := q
    exact ⟨⟨o, g1, g2.1⟩, fun b q => by cases q; exact ⟨o, g1, g2.2.1⟩⟩
/-- d.get(k, x) -/
def tGetD (K : KK) (td ty tx : TE) : TE := fun σ H Q => td σ H fun x H1 => ∃ a ho G1 kvs1, x = .ref a ∧ H1 a = some ho ∧ DpD K G1 a ho kvs1 ∧ ty σ H1 fun y H2 => tx σ H2 fun z H3 => ∃ G ho kvs kd, DAt K H3 G (.ref a) y a ho kvs kd ∧
  ∀ v, (match lookD kvs kd with | some e => Dp K G v e | none => v = z) → Q v H3
theorem pe_getD {o e f : Expr} {apos cpos : Pos} {td ty tx : TE} (hu : X.A.units + 64 < cLine) (hK : X.K = K.fr) (hP : X.prog = K.P) (hw : X.w = K.w) (ho : PE X o td) (he : PE X e ty) (hf : PE X f tx) (m : M2 X o "get" apos e f cpos := by exact ⟨rfl, rfl, rfl, rfl⟩) :
    PE X (.Call (.Attribute o "get" apos) [e, f] [] cpos) (tGetD K td ty tx) := by
  refine ⟨fun pins s σ H Q I h => ?_⟩
  refine wpAny_Call_method m.base m.few m.line PySem.F.plainAttrs_dict PySem.F.slot_dict_get PySem.F.type_dict_get (thn (ho.run pins s σ H _ I h) fun u s1 ⟨x, H1, I1, rx, a, ho, G1, kvs1, ex, eo, dd, q1⟩ => ?_)
  subst ex
  obtain rfl : u = Value.ref a := rx
  obtain ⟨t1, t2⟩ := dd_typed I1 eo dd
  refine ⟨t1, t2, ?_⟩
  rw [m.trees]
  refine Calls.callWith_builtin rfl (Calls.evalArgs_plain (Calls.spliced_cons (thn (he.run pins s1 σ H1 _ I1 q1) fun iv s2 ⟨y, H2, I2, ry, q2⟩ =>
    Calls.spliced_cons (thn (hf.run pins s2 σ H2 _ I2 q2) fun fv s3 ⟨z, H3, I3, rz, G, ho, kvs, kd, Dd, q3⟩ => Calls.spliced_nil ?_))))
  obtain ⟨_, sg, eo, dd, kf, dk⟩ := Dd
  exact d_getor hu hK hP hw I3 sg eo dd kf dk ry rz fun v w' s4 I4 rw' hv => ⟨v, H3, I4, rw', q3 v hv⟩
/-- {}: empty, of numbers or tuples -/
theorem pe_new {pos : Pos} : PE X (.Dict [] [] pos) tDNewK := pe_dnewK
/-- {k: v}; T: the key is a tuple -/
def tDisp1 (K : KK) (T : Bool) (tk tv : TE) : TE := fun σ H Q => ∀ p, H p = none → tk σ (upd H p (.dK [])) fun x H1 => tv σ H1 fun y H2 => H2 p = some (.dK []) ∧ ∃ G kd vd, Sub G H2 ∧ Dp K G x kd ∧ Dp K G y vd ∧ (if T = true then TKey kd else isLf kd = true) ∧ ∀ ho, DpD K G p ho [(kd, vd)] → Q (.ref p) (upd H2 p ho)
theorem pe_disp1L {pos : Pos} {k v : Expr} {tk tv : TE} (hk : PE X k tk) (hv : PE X v tv) : PE X (.Dict [some k] [v] pos) (tDisp1 K false tk tv) := by
  refine ⟨fun pins s σ H Q I q => ?_⟩
  have hn := I.hok.fresh (Nat.le_refl s.heap.objs.size)
  have I1 := I.laid (a := s.heap.objs.size) (o := .dK []) (h' := s.heap.push { cls := .type "dict", data := .dict #[] }) (t' := s.toks) (fun _ _ q => Heap.get?_push_of_some _ q) (Nat.le_refl _) (dk_empty s.heap I.big)
  refine wpAny_Dict_walk (knd := mixKind X.prog X.w) rfl rfl (by simp) (by simp) (pairTrees_cons_walk (thn (hk.run pins _ σ _ _ I1 (q _ hn)) fun u s1 ⟨x, H1, J1, rx, q1⟩ => thn (hv.run pins s1 σ H1 _ J1 q1) fun r s2 ⟨y, H2, J2, ry, e, G, kd, vd, sg, dx, dy, kf, q2⟩ => pairTrees_nil_walk ?_))
  rw [if_neg (by decide)] at kf
  obtain ⟨kk, rfl⟩ := lf_key kf
  rw [lf_val dx] at rx
  obtain ⟨z, hd, vs0, r0, dd⟩ := dk_of J2.hok e
  cases r0
  refine ⟨[(kk, r)], ⟨kV_is rx, rfl, True.intro⟩, dd, fun h' dd' hsb => ⟨.ref s.heap.objs.size, _, ?_, rfl, q2 _ (.leaf (ks := [(kk, y)]) (.cons dy .nil))⟩⟩
  exact d_write J2 (by rw [e]; exact True.intro) hsb (let ⟨q, _, _, hq, _⟩ := dd'; ⟨q, hq⟩) (dk_new (by rw [sizeLine_eq]; simp) hd (.cons ⟨rfl, ry⟩ .nil) dd')
/-- {k: v, k2: v2} -/
def tDisp2 (K : KK) (tk tv tk' tv' : TE) : TE := fun σ H Q => ∀ p, H p = none → tk σ (upd H p (.dK [])) fun x H1 => tv σ H1 fun y H2 => tk' σ H2 fun x' H3 => tv' σ H3 fun y' H4 => H4 p = some (.dK []) ∧ ∃ G kd vd kd' vd', Sub G H4 ∧ Dp K G x kd ∧ Dp K G y vd ∧ Dp K G x' kd' ∧ Dp K G y' vd' ∧
  isLf kd = true ∧ isLf kd' = true ∧ keyOf kd ≠ keyOf kd' ∧ ∀ ho, DpD K G p ho [(kd, vd), (kd', vd')] → Q (.ref p) (upd H4 p ho)
theorem pe_disp2 {pos : Pos} {k v k' v' : Expr} {tk tv tk' tv' : TE} (hk : PE X k tk) (hv : PE X v tv) (hk' : PE X k' tk') (hv' : PE X v' tv') : PE X (.Dict [some k, some k'] [v, v'] pos) (tDisp2 K tk tv tk' tv') := by
  refine ⟨fun pins s σ H Q I q => ?_⟩
  have hn := I.hok.fresh (Nat.le_refl s.heap.objs.size)
  have I1 := I.laid (a := s.heap.objs.size) (o := .dK []) (h' := s.heap.push { cls := .type "dict", data := .dict #[] }) (t' := s.toks) (fun _ _ q => Heap.get?_push_of_some _ q) (Nat.le_refl _) (dk_empty s.heap I.big)
  refine wpAny_Dict_walk (knd := mixKind X.prog X.w) rfl rfl (by simp) (by simp) (pairTrees_cons_walk (thn (hk.run pins _ σ _ _ I1 (q _ hn)) fun u s1 ⟨x, H1, J1, rx, q1⟩ => thn (hv.run pins s1 σ H1 _ J1 q1) fun r s2 ⟨y, H2, J2, ry, q2⟩ =>
    pairTrees_cons_walk (thn (hk'.run pins _ σ _ _ J2 q2) fun u' s3 ⟨x', H3, J3, rx', q3⟩ => thn (hv'.run pins s3 σ H3 _ J3 q3) fun r' s4 ⟨y', H4, J4, ry', e, G, kd, vd, kd', vd', sg, dx, dy, dx', dy', kf, kf', ne, q4⟩ => pairTrees_nil_walk ?_)))
  obtain ⟨kk, rfl⟩ := lf_key kf
  obtain ⟨kk', rfl⟩ := lf_key kf'
  rw [lf_val dx] at rx
  rw [lf_val dx'] at rx'
  have ne' : ¬ kk = kk' := fun z => ne (by rw [z])
  obtain ⟨z, hd, vs0, r0, dd⟩ := dk_of J4.hok e
  cases r0
  refine ⟨[(kk, r), (kk', r')], ⟨kV_is rx, rfl, kV_is rx', rfl, True.intro⟩, dd, fun h' dd' hsb => ⟨.ref s.heap.objs.size, _, ?_, rfl, q4 _ (.leaf (ks := [(kk, y), (kk', y')]) (.cons dy (.cons dy' .nil)))⟩⟩
  have em : merged [] [(kk, r), (kk', r')] = [(kk, r), (kk', r')] := by
    simp [merged, stored, ne']
  rw [em] at dd'
  exact d_write J4 (by rw [e]; exact True.intro) hsb (let ⟨q, _, _, hq, _⟩ := dd'; ⟨q, hq⟩) (dk_new (by rw [sizeLine_eq]; simp) hd (.cons ⟨rfl, ry⟩ (.cons ⟨rfl, ry'⟩ .nil)) dd')
theorem pe_disp1T {pos : Pos} {k v : Expr} {tk tv : TE} (hu : X.A.units + 64 < cLine) (hK : X.K = K.fr) (hP : X.prog = K.P) (hw : X.w = K.w) (hk : PE X k tk) (hv : PE X v tv) : PE X (.Dict [some k] [v] pos) (tDisp1 K true tk tv) := by
  refine ⟨fun pins s σ H Q I q => ?_⟩
  have hn := I.hok.fresh (Nat.le_refl s.heap.objs.size)
  have I1 := I.laid (a := s.heap.objs.size) (o := .dK []) (h' := s.heap.push { cls := .type "dict", data := .dict #[] }) (t' := s.toks) (fun _ _ q => Heap.get?_push_of_some _ q) (Nat.le_refl _) (dk_empty s.heap I.big)
  rw [arm_eval_Dict, zip_pairTrees [some k] [v] X.env pos rfl rfl, dictDisplay_pairs _ (by simp [pairTrees]) (by simp [pairTrees])]
  refine wpAny_bind (wpAny_standAt (wpAny_bind (wpAny_subDictH (knd := nestedKind X.prog X.w) (Q := fun d s' => wpAny (model X.prog X.w) X.A (pure (Value.ref d)) (EP X pins σ Q) X.xe s') (by show X.A.units + 8 < cLine; omega) (by simp [pairTrees]) ?_)))
  refine pairTrees_cons_walk (thn (hk.run pins _ σ _ _ I1 (q _ hn)) fun u s1 ⟨x, H1, J1, rx, q1⟩ => thn (hv.run pins s1 σ H1 _ J1 q1) fun r s2 ⟨y, H2, J2, ry, e, G, kd, vd, sg, dx, dy, kf, q2⟩ => pairTrees_nil_walk ?_)
  rw [if_pos rfl] at kf
  obtain ⟨kk, tk, ek, dp⟩ := kf
  obtain ⟨b, rfl⟩ := tkey_ref dx tk
  cases rx
  obtain ⟨hd, _, ys, hx, hp⟩ := dd_nest hK hP hw J2 sg e (.leaf .nil) (fun p hp => by simp at hp)
  cases hp
  have is := key_is hK J2 kd kk _ _ ek (dp_mono sg _ _ dx) rfl
  refine ⟨[(kk, b, r)], ⟨rfl, rfl, ⟨is, dp⟩, True.intro⟩, hx, fun h' tok hm hsb => wpAny_pure ⟨.ref s.heap.objs.size, _, ?_, rfl, q2 _ (.nest (xs := [(kk, b, y)]) (by simp) (.cons ek dp dx dy .nil))⟩⟩
  refine d_write J2 (by rw [e]; exact True.intro) hsb (let ⟨q, _, _, hq, _⟩ := hm; ⟨q, hq⟩) (dn_ok (K := K) hP hw hd (by rw [sizeLine_eq]; simp) ?_ hm)
  exact .cons ⟨rfl, rfl, ry⟩ .nil
end
end PV

/-! PvDsim: the dicts' readings on data; isinstance; membership of any data. -/
namespace PV
open PySem PySem.Spec PyProof.Rows L2 NdefX LamX -- pv
section
variable {K : KK} {F B0 B Hs H0 H H0' H' : Hp} {σ : St} {env : En}
theorem Den.leafT {v : V} {r : Rs} (h : Den K Hs H0 H σ env v r) (k : isLf r.rd = true ∨ isT r.rd = true) : Dp K H0 v r.rd := by
  cases r with
  | val d => exact h
  | fr w => cases w <;> rcases k with k | k <;> cases k
  | pk i w => cases w <;> rcases k with k | k <;> cases k
theorem Den.key {v : V} {r : Rs} {kvs : List (Dat × Dat)} (h : Den K Hs H0 H σ env v r) (k : KFit kvs r.rd) : Dp K H0 v r.rd :=
  h.leafT (k.elim (fun z => .inl z.1) fun z => let ⟨_, t, _⟩ := z.1; .inr t)
/-- a dict that is read, and a key -/
theorem Den.dAt (st : StOk K F B0 B H0 H σ env) {x y : V} {a b : Rs} {kvs : List (Dat × Dat)} (da : Den K Hs H0 H σ env x a) (db : Den K Hs H0 H σ env y b) (ea : a.rd = .dict kvs) (kf : KFit kvs b.rd) : ∃ p ho, DAt K H H0 x y p ho kvs b.rd := by
  obtain ⟨p, ho, rfl, e1, e2⟩ := da.asDict st ea
  exact ⟨p, ho, rfl, st.inn, e1, e2, kf, db.key kf⟩
/-- an object that was laid early and hidden gets its content -/
theorem Ext.lay {p : Addr} {o ho : HO} (s : Sub H0 H) (hp : H p = none) (x : Ext K H0 (upd H p o) H0' H') : Ext K H0 H H0' (upd H' p ho) ∧ H0' p = none := by
  have n0 : H0' p = none := x.fr p (s.none hp) (by rw [upd_same]; simp)
  refine ⟨⟨⟨fun b u e n => ?_, fun {b} e => ?_⟩, x.kn, fun b u e => ?_, fun b e n => ?_, fun P t => ?_⟩, n0⟩
  · have hb := ne_of_none e hp
    rw [upd_ne hb]
    exact x.act.of b u (by rw [upd_ne hb]; exact e) n
  · by_cases hb : b = p
    · rw [hb]; exact hp
    · rw [upd_ne hb] at e
      have := x.act.none e
      rwa [upd_ne hb] at this
  · rw [upd_ne (ne_of_none e n0)]
    exact x.inn b u e
  · by_cases hb : b = p
    · rw [hb]; exact n0
    · exact x.fr b e (by rw [upd_ne hb]; exact n)
  · have t' : TabK K H0 (upd H p o) P := t.mono (Sub.refl _) (fun z _ => z) fun ps e => by rw [upd_ne (ne_of_none e hp)]; exact e
    obtain ⟨h0, ps, h1, h2, h3⟩ := x.tab P t'
    have hb : P ≠ p := fun z => by
      obtain ⟨_, ps', h1', _⟩ := t
      rw [z, hp] at h1'
      cases h1'
    exact ⟨h0, ps, by rw [upd_ne hb]; exact h1, h2, h3⟩
end
/-! ### d[k], k in d -/
def pIxD : R2p := fun a b R => ∃ kvs e, a.rd = .dict kvs ∧ KFit kvs b.rd ∧ lookD kvs b.rd = some e ∧ R (.val e)
instance {K : KK} : Im2 K (rIxD K) pIxD where
  run := fun st da db ⟨kvs, e, ea, kf, l, h⟩ q => by
    obtain ⟨p, ho, D⟩ := da.dAt st db ea kf
    exact ⟨_, p, ho, kvs, _, e, D, l, fun v dv => q.at st h dv⟩
def pInD (f : Bool → Bool) : R2p := fun a b R => ∃ kvs, b.rd = .dict kvs ∧ KFit kvs a.rd ∧ R (.val (.bool (f (lookD kvs a.rd).isSome)))
instance {K : KK} : Im2 K (rInD K false) (pInD id) where
  run := fun st da db ⟨kvs, eb, kf, h⟩ q => by
    obtain ⟨p, ho, D⟩ := db.dAt st da eb kf
    exact ⟨_, p, ho, kvs, _, D, by rw [if_neg (by decide)]; exact q.at st h (Dp.bl _)⟩
instance {K : KK} : Im2 K (rInD K true) (pInD not) where
  run := fun st da db ⟨kvs, eb, kf, h⟩ q => by
    obtain ⟨p, ho, D⟩ := db.dAt st da eb kf
    exact ⟨_, p, ho, kvs, _, D, by rw [if_pos rfl]; exact q.at st h (Dp.bl _)⟩
/-! ### d[k] = v -/
def rPut (i : Nat) (rk rv : RE) : RS := fun E env => ∃ kvs, env[i]? = some (.dct kvs) ∧ rv env fun sv => rk env fun sk => ∃ vd, sv.toD = some vd ∧ KFit kvs sk.rd ∧ kvs.length < sizeLine ∧ E.nx (env.set i (.dct (putD kvs sk.rd vd)))
instance {K : KK} {i : Nat} {tk tv : TE} {rk rv : RE} [sk : SimE K tk rk] [sv : SimE K tv rv] : SimS K (sPut K (tVar i) tk tv) (rPut i rk rv) where
  run := by
    intro F B0 B H0 H σ env D E st ⟨kvs, e, h⟩ m
    obtain ⟨o, ho, h1, h2, h3, h4, h5⟩ := st.own i _ e
    refine sv.run st h fun v s G0 G hs x dn => ⟨.ref o, h1, ?_⟩
    refine sk.run (st.go x) hs fun y s' G0' G' ⟨vd, e1, kf, hz, hn⟩ x2 d' => ?_
    have xt := x.trans x2
    obtain ⟨I0, xI, s1, p, _⟩ := (dn.go x2).keep xt e1
    have pk : Dp K I0 y s'.rd := dp_mono s1 _ _ (d'.key kf)
    have st' := st.go xI
    have dd : DpD K I0 o ho kvs := dpD_mono' xI.kn h5
    refine ⟨I0, o, ho, kvs, s'.rd, vd, ⟨rfl, xI.inn, xI.act.of _ _ h4 (OwIs.noTbl (w := .dct kvs) h5), dd, kf, pk⟩, p, hz, fun ho' dd' => m.nx hn (st'.writeW e h1 dd')⟩
/-! ### d.get(k, x) -/
def rGet (ra rk rx : RE) : RE := fun env R => ra env fun sa => ∃ kvs, sa.rd = .dict kvs ∧ rk env fun sk => rx env fun sx => KFit kvs sk.rd ∧ match lookD kvs sk.rd with
  | some e => R (.val e)
  | none => R sx
instance {K : KK} {ta tk tx : TE} {ra rk rx : RE} [sa : SimE K ta ra] [sk : SimE K tk rk] [sx : SimE K tx rx] : SimE K (tGetD K ta tk tx) (rGet ra rk rx) where
  run := by
    intro F B0 B H0 H σ env Q R st h q
    refine sa.run st h fun x s G0 G ⟨kvs, e, h⟩ xa da => ?_
    obtain ⟨p, ho, rfl, e1, e2⟩ := da.asDict (st.go xa) e
    refine ⟨p, ho, G0, kvs, rfl, e1, e2, sk.run (st.go xa) h fun y sk' I0 I h xk dk => ?_⟩
    refine sx.run ((st.go xa).go xk) h fun z sx' J0 J ⟨kf, h⟩ xx dx => ?_
    have x2 := xk.trans xx
    have x3 := xa.trans x2
    have st3 := st.go x3
    refine ⟨J0, ho, kvs, sk'.rd, ⟨rfl, x3.inn, x2.act.of _ _ e1 ?_, dpD_mono' x2.kn e2, kf, (dk.go xx).key kf⟩, fun v hv => ?_⟩
    · exact OwIs.noTbl (K := K) (H := G0) (o := p) (w := .dct kvs) e2
    · have q3 := q.after x3
      cases l : lookD kvs sk'.rd with
      | some d =>
        rw [l] at h hv
        exact q3.at st3 h hv
      | none =>
        rw [l] at h hv
        have hv : v = z := hv
        subst hv
        exact q v sx' J0 J h x3 (dx.start (xa.trans xk).act)
/-! ### displays -/
def rNew : RE := fun _ R => R (.fr (.dct []))
instance {K : KK} : SimE K tDNewK rNew where
  run := fun {F B0 B H0 H σ env Q R} st h q p hp => q _ _ _ _ h (Ext.hid st.inn hp) ⟨p, _, rfl, hp, st.inn.none hp, upd_same, DpD.leaf .nil⟩
def rDisp1 (T : Bool) (rk rv : RE) : RE := fun env R => rk env fun sk => rv env fun sv => ∃ kd vd, sk.toD = some kd ∧ sv.toD = some vd ∧ (if T = true then TKey kd else isLf kd = true) ∧ R (.fr (.dct [(kd, vd)]))
instance {K : KK} {T : Bool} {tk tv : TE} {rk rv : RE} [sk : SimE K tk rk] [sv : SimE K tv rv] : SimE K (tDisp1 K T tk tv) (rDisp1 T rk rv) where
  run := by
    intro F B0 B H0 H σ env Q R st h q p hp
    have xh : Ext K H0 H H0 (upd H p (.dK [])) := Ext.hid st.inn hp
    refine sk.run (st.go xh) h fun x s G0 G h xk dk => sv.run ((st.go xh).go xk) h fun y s' I0 I ⟨kd, vd, e1, e2, kf, h⟩ xv dv => ?_
    have x2 := xk.trans xv
    obtain ⟨J0, xJ, sJ, pJ⟩ := DenAll.keep (vs := [x, y]) (.cons (dk.go xv) (.cons (dv.start xk.act) .nil)) x2 (show toDs [s, s'] = some [kd, vd] by simp [toDs, e1, e2])
    cases pJ with
    | cons p1 p2 =>
      cases p2 with
      | cons p2 p3 =>
        refine ⟨xJ.act.of _ _ upd_same (fun _ z => nomatch z), J0, kd, vd, xJ.inn, p1, p2, kf, fun ho dd => ?_⟩
        obtain ⟨xx, n0⟩ := Ext.lay (ho := ho) st.inn hp xJ
        exact q _ _ _ _ h xx ⟨p, ho, rfl, hp, n0, upd_same, dd⟩
def rDisp2 (rk rv rk' rv' : RE) : RE := fun env R => rk env fun sk => rv env fun sv => rk' env fun sk' => rv' env fun sv' => ∃ kd vd kd' vd', toDs [sk, sv, sk', sv'] = some [kd, vd, kd', vd'] ∧ isLf kd = true ∧ isLf kd' = true ∧ keyOf kd ≠ keyOf kd' ∧ R (.fr (.dct [(kd, vd), (kd', vd')]))
instance {K : KK} {tk tv tk' tv' : TE} {rk rv rk' rv' : RE} [sk : SimE K tk rk] [sv : SimE K tv rv] [sk' : SimE K tk' rk'] [sv' : SimE K tv' rv'] : SimE K (tDisp2 K tk tv tk' tv') (rDisp2 rk rv rk' rv') where
  run := by
    intro F B0 B H0 H σ env Q R st h q p hp
    have xh : Ext K H0 H H0 (upd H p (.dK [])) := Ext.hid st.inn hp
    refine sk.run (st.go xh) h fun x s G0 G h xk dk => sv.run ((st.go xh).go xk) h fun y s' I0 I h xv dv => sk'.run (((st.go xh).go xk).go xv) h fun x' s2 L0 L h xk' dk' => sv'.run ((((st.go xh).go xk).go xv).go xk') h fun y' s2' M0 M ⟨kd, vd, kd', vd', ee, kf, kf', ne, h⟩ xv' dv' => ?_
    obtain ⟨J0, xJ, sJ, pJ⟩ := DenAll.keep (vs := [x, y, x', y']) (.cons (((dk.go xv).go xk').go xv') (.cons (((dv.start xk.act).go xk').go xv') (.cons ((dk'.start (xk.trans xv).act).go xv') (.cons (dv'.start ((xk.trans xv).trans xk').act) .nil)))) (((xk.trans xv).trans xk').trans xv') ee
    cases pJ with
    | cons p1 p2 =>
      cases p2 with
      | cons p2 p3 =>
        cases p3 with
        | cons p3 p4 =>
          cases p4 with
          | cons p4 p5 =>
            refine ⟨xJ.act.of _ _ upd_same (fun _ z => nomatch z), J0, kd, vd, kd', vd', xJ.inn, p1, p2, p3, p4, kf, kf', ne, fun ho dd => ?_⟩
            obtain ⟨xx, n0⟩ := Ext.lay (ho := ho) st.inn hp xJ
            exact q _ _ _ _ h xx ⟨p, ho, rfl, hp, n0, upd_same, dd⟩
/-! ### isinstance(e, T), T a built-in class -/
theorem pe_bltN {X : Cx} {x : Str} {n : String} {p : Pos} (hg : Gl X x) (hm : X.mg x = none) (hv : bootBuiltins x = some (.type n)) (hn : x ≠ "__name__" := by decide) (hdb : (x == ("__debug__" : Str)) = false := by decide) : PE X (.Name x p) (tC (.ty n)) :=
  ⟨fun pins s σ H Q I h => ld_blt I hg hm hv ⟨.ty n, H, I, rfl, h⟩ hn hdb⟩
theorem call_isiK2 {X : Cx} {K : KK} (h : X.K = K.fr) : CallR X (.builtin "isinstance") (rIsi K.fr) := h ▸ call_isi
def isTy (n : String) : Dat → Bool
  | .list _ => decide (n = "list")
  | .tuple _ => decide (n = "tuple")
  | .bool _ => decide (n = "bool") || decide (n = "int")
  | .int _ => decide (n = "int")
  | .str _ => decide (n = "str")
  | _ => false
def goodTy (n : String) : Prop := n = "list" ∨ n = "tuple" ∨ n = "bool" ∨ n = "int" ∨ n = "str"
def rIsTy' (n : String) (ra : RE) : RE := fun env R => ra env fun s => (∀ kvs, s.rd ≠ .dict kvs) ∧ R (.val (.bool (isTy n s.rd)))
theorem tyx_list {K : KK} {H : Hp} {a : Addr} {vs : List V} (h : SqL K H a vs) : TyX K.fr H (.ref a) (.type "list") := by
  rcases h with (h | ⟨o, h⟩) | ⟨o, its, n, h1, h2, _⟩
  · exact .base (.lst h)
  · exact .base (.frz h)
  · exact .kList h1 h2
theorem tyx_tup {K : KK} {H : Hp} {a : Addr} {vs : List V} (h : SqT K H a vs) : TyX K.fr H (.ref a) (.type "tuple") := by
  rcases h with (h | ⟨o, h⟩) | ⟨o, its, n, h1, h2, _⟩
  · exact .base (.tup h)
  · exact .fTuple h
  · exact .kTuple h1 h2
theorem isi_one {K : KK} {a n : String} {b : Bool} (h : kitB a n = some b) : PySem.W.kitOne K.fr (.type a) (.type n) = some b := kit_ty h
theorem isi_den {K : KK} {F B0 B Hs H0 H : Hp} {σ : St} {env : En} {v : V} {r : Rs} {n : String} (hn : goodTy n) (st : StOk K F B0 B H0 H σ env) (h : Den K Hs H0 H σ env v r) (nd : ∀ kvs, r.rd ≠ .dict kvs) :
    ∃ t, TyX K.fr H v t ∧ PySem.W.kitOne K.fr t (.type n) = some (isTy n r.rd) := by
  cases e : r.rd with
  | none =>
    have : v = .non := (h.flat st).1 e
    subst this
    exact ⟨_, .base .non, by rcases hn with rfl | rfl | rfl | rfl | rfl <;> exact isi_one (by simp only [isTy]; decide +kernel)⟩
  | bool b =>
    have := h.asBool st e
    subst this
    exact ⟨_, .base (.bl b), by rcases hn with rfl | rfl | rfl | rfl | rfl <;> exact isi_one (by simp only [isTy]; decide +kernel)⟩
  | int i =>
    have := h.asInt st e
    subst this
    exact ⟨_, .base (.int i), by rcases hn with rfl | rfl | rfl | rfl | rfl <;> exact isi_one (by simp only [isTy]; decide +kernel)⟩
  | str x =>
    have := (h.flat st).2 x e
    subst this
    exact ⟨_, .base (.str x), by rcases hn with rfl | rfl | rfl | rfl | rfl <;> exact isi_one (by simp only [isTy]; decide +kernel)⟩
  | list ds =>
    obtain ⟨a, vs, rfl, hp, _⟩ := h.asList st e
    exact ⟨_, tyx_list hp, by rcases hn with rfl | rfl | rfl | rfl | rfl <;> exact isi_one (by simp only [isTy]; decide +kernel)⟩
  | tuple ds =>
    obtain ⟨a, vs, rfl, hp, _⟩ := h.asTup st e
    exact ⟨_, tyx_tup hp, by rcases hn with rfl | rfl | rfl | rfl | rfl <;> exact isi_one (by simp only [isTy]; decide +kernel)⟩
  | dict kvs => exact absurd e (nd kvs)
class GoodTy (n : String) : Prop where
  it : goodTy n
instance : GoodTy "list" := ⟨.inl rfl⟩
instance : GoodTy "tuple" := ⟨.inr (.inl rfl)⟩
instance : GoodTy "bool" := ⟨.inr (.inr (.inl rfl))⟩
instance : GoodTy "int" := ⟨.inr (.inr (.inr (.inl rfl)))⟩
instance : GoodTy "str" := ⟨.inr (.inr (.inr (.inr rfl)))⟩
instance {K : KK} {ta : TE} {ra : RE} {n : String} [g : GoodTy n] [sa : SimE K ta ra] : SimE K (tCB (rIsi K.fr) (tCons ta (tCons (tC (.ty n)) tNil))) (rIsTy' n ra) where
  run := fun st h q => sa.run st h fun x s G0 G ⟨nd, h⟩ xa da => by
    obtain ⟨t, ty, e⟩ := isi_den g.it (st.go xa) da nd
    exact ⟨x, .ty n, t, .type n, _, rfl, .ty n, ty, e, (q.after xa).at (st.go xa) h (Dp.bl _)⟩
end PV

/-! PvLook: what a dict holds behind a store, by data. -/
namespace PV
open PySem PySem.Spec PyProof.Rows L2 -- pv
theorem lookD_cons (p : Dat × Dat) (kvs : List (Dat × Dat)) (kd : Dat) : lookD (p :: kvs) kd = if keyOf p.1 = keyOf kd then some p.2 else lookD kvs kd := by
  unfold lookD
  rw [List.find?_cons]
  by_cases h : keyOf p.1 = keyOf kd <;> simp [h]
theorem lookD_nil (kd : Dat) : lookD [] kd = none := rfl
theorem lookD_app (a b : List (Dat × Dat)) (kd : Dat) : lookD (a ++ b) kd = match lookD a kd with
    | some e => some e
    | none => lookD b kd := by
  induction a with
  | nil => rfl
  | cons p a ih =>
    rw [List.cons_append, lookD_cons, lookD_cons]
    by_cases h : keyOf p.1 = keyOf kd
    · rw [if_pos h, if_pos h]
    · rw [if_neg h, if_neg h, ih]
theorem lookD_some {kvs : List (Dat × Dat)} {kd e : Dat} (h : lookD kvs kd = some e) : ∃ p ∈ kvs, keyOf p.1 = keyOf kd ∧ p.2 = e := by
  unfold lookD at h
  obtain ⟨p, hp, rfl⟩ := Option.map_eq_some_iff.mp h
  exact ⟨p, List.mem_of_find?_eq_some hp, by simpa using List.find?_some hp, rfl⟩
theorem lookD_none {kvs : List (Dat × Dat)} {kd : Dat} (h : ∀ p ∈ kvs, keyOf p.1 ≠ keyOf kd) : lookD kvs kd = none := by
  unfold lookD
  rw [List.find?_eq_none.mpr fun p hp => by simpa using h p hp]
  rfl
theorem putD_new {kvs : List (Dat × Dat)} {kd vd : Dat} (h : lookD kvs kd = none) : putD kvs kd vd = kvs ++ [(kd, vd)] := by
  unfold putD
  rw [h, if_neg (by decide)]
theorem lookD_snoc (kd vd kd' : Dat) : ∀ kvs : List (Dat × Dat), (lookD kvs kd).isSome = false → lookD (kvs ++ [(kd, vd)]) kd' = if keyOf kd = keyOf kd' then some vd else lookD kvs kd'
  | [], _ => by rw [List.nil_append, lookD_cons]
  | p :: kvs, h => by
    rw [lookD_cons] at h
    rw [List.cons_append, lookD_cons, lookD_cons]
    by_cases e : keyOf p.1 = keyOf kd
    · rw [if_pos e] at h; simp at h
    · rw [if_neg e] at h
      rw [lookD_snoc kd vd kd' kvs h]
      by_cases e2 : keyOf p.1 = keyOf kd'
      · rw [if_pos e2, if_pos e2, if_neg (fun z => e (e2.trans z.symm))]
      · rw [if_neg e2, if_neg e2]
theorem lookD_map (kd vd kd' : Dat) : ∀ kvs : List (Dat × Dat), lookD (kvs.map fun p => if keyOf p.1 = keyOf kd then (p.1, vd) else p) kd' = if keyOf kd = keyOf kd' ∧ (lookD kvs kd).isSome = true then some vd else lookD kvs kd'
  | [] => by simp [lookD]
  | p :: kvs => by
    rw [List.map_cons, lookD_cons, lookD_cons, lookD_cons, lookD_map kd vd kd' kvs]
    by_cases e : keyOf p.1 = keyOf kd
    · rw [if_pos e]
      by_cases e2 : keyOf kd = keyOf kd'
      · rw [if_pos (by exact e.trans e2)]
        simp [e, e2]
      · have e3 : ¬ keyOf p.1 = keyOf kd' := fun z => e2 (e.symm.trans z)
        rw [if_neg (by exact e3)]
        simp [e2, e3]
    · rw [if_neg e, if_neg e]
      by_cases e3 : keyOf p.1 = keyOf kd'
      · rw [if_pos e3, if_pos e3]
        have e2 : ¬ keyOf kd = keyOf kd' := fun z => e (e3.trans z.symm)
        simp [e2]
      · rw [if_neg e3, if_neg e3]
theorem lookD_put (kvs : List (Dat × Dat)) (kd vd kd' : Dat) : lookD (putD kvs kd vd) kd' = if keyOf kd = keyOf kd' then some vd else lookD kvs kd' := by
  unfold putD
  cases h : (lookD kvs kd).isSome with
  | true =>
    rw [if_pos rfl, lookD_map]
    simp [h]
  | false =>
    rw [if_neg (by decide), lookD_snoc kd vd kd' kvs h]
theorem putD_keys {P : Dat → Prop} {kvs : List (Dat × Dat)} {kd vd : Dat} (h : ∀ p ∈ kvs, P p.1) (hk : P kd) : ∀ p ∈ putD kvs kd vd, P p.1 := by
  unfold putD
  split
  · intro p hp
    obtain ⟨q, hq, rfl⟩ := List.mem_map.mp hp
    split
    · exact h q hq
    · exact h q hq
  · intro p hp
    rcases List.mem_append.mp hp with hp | hp
    · exact h p hp
    · rw [List.mem_singleton.mp hp]; exact hk
theorem keyOf_int {i j : Int} : keyOf (.int i) = keyOf (.int j) ↔ i = j := by simp [keyOf]
theorem lookD_put_int (kvs : List (Dat × Dat)) (i j : Int) (vd : Dat) : lookD (putD kvs (.int i) vd) (.int j) = if i = j then some vd else lookD kvs (.int j) := by
  rw [lookD_put]
  by_cases e : i = j
  · rw [if_pos (keyOf_int.mpr e), if_pos e]
  · rw [if_neg (fun z => e (keyOf_int.mp z)), if_neg e]
end PV

/-! PvOps: x += e, x -= e; list * int; l.count(x); l.pop(). -/
namespace PV
open PySem PySem.Spec PyProof.Rows L2 NdefX LamX -- pv
/-! ### x op= e, numbers -/
def rAug (f : Int → Int → Int) (i : Nat) (ra : RE) : RS := fun E env => ∃ a, env[i]? = some (.val (.int a)) ∧ ra env fun s => ∃ b, s.rd = .int b ∧ E.nx (env.set i (.val (.int (f a b))))
instance {K : KK} {i : Nat} {te : TE} {ra : RE} {f : Int → Int → Int} [sa : SimE K te ra] : SimS K (tAug i te (ipI f)) (rAug f i ra) where
  run := fun st ⟨a, e, h⟩ m => by
    obtain ⟨v, e1, e2⟩ := st.val i _ e
    cases e2
    exact ⟨.int a, e1, sa.run st h fun y s G0 G ⟨b, eb, hs⟩ x d => ⟨a, b, rfl, d.asInt (st.go x) eb, m.nx hs ((st.go x).setV i (Dp.int _))⟩⟩
/-! ### list * int -/
/-- a list that is new, or a name's own -/
def notVal : Rs → Prop
  | .val _ => False
  | _ => True
def pRep : R2p := fun a b R => ∃ ds k, a.rd = .list ds ∧ notVal a ∧ b.rd = .int k ∧ -(2 ^ 63) ≤ k ∧ k < 2 ^ 63 ∧ ds.length * k.toNat ≤ sizeLine ∧ R (.fresh (List.replicate k.toNat ds).flatten)
theorem DpAll.pvRep {K : KK} {H : Hp} {vs : List V} {ds : List Dat} (h : DpAll K H vs ds) : ∀ n : Nat, DpAll K H (List.replicate n vs).flatten (List.replicate n ds).flatten
  | 0 => .nil
  | n + 1 => by
    rw [List.replicate_succ, List.replicate_succ, List.flatten_cons, List.flatten_cons]
    exact h.pvApp (DpAll.pvRep h n)
theorem Den.listAt {K : KK} {F B0 B Hs H0 H : Hp} {σ : St} {env : En} {v : V} {r : Rs} {ds : List Dat} (st : StOk K F B0 B H0 H σ env) (h : Den K Hs H0 H σ env v r) (e : r.rd = .list ds) (n : notVal r) : ∃ o vs, v = .ref o ∧ H o = some (.lst vs) ∧ DpAll K H0 vs ds := by
  cases r with
  | val d => exact n.elim
  | fr w =>
    cases w with
    | lst ds' =>
      cases e
      obtain ⟨o, _, rfl, _, _, h3, vs, rfl, h4⟩ := h
      exact ⟨o, vs, rfl, h3, h4⟩
    | dct kvs => cases e
  | pk i w =>
    cases w with
    | lst ds' =>
      cases e
      obtain ⟨e1, e2⟩ := h
      obtain ⟨o, vs, h1, _, _, h4, h5⟩ := st.ownL i ds e1
      rw [e2] at h1; cases h1
      exact ⟨o, vs, rfl, h4, h5⟩
    | dct kvs => cases e
instance {K : KK} : Im2 K rRep pRep where
  run := fun {F B0 B Hs H0 H σ env x y a b Q R} st da db ⟨ds, k, ea, na, eb, h1, h2, hz, h⟩ q => by
    have e2 := db.asInt st eb
    subst e2
    obtain ⟨o, vs, rfl, ho, dp⟩ := da.listAt st ea na
    exact ⟨o, k, vs, rfl, rfl, ho, h1, h2, by rw [dp.pvLen]; exact hz, fun p hp => q _ _ _ _ h (Ext.hid st.inn hp) ⟨p, _, rfl, hp, st.inn.none hp, upd_same, _, rfl, dp.pvRep _⟩⟩
/-! ### l.count(x) -/
def rCnt (K : KK) : V → List V → Hp → VK → Prop := fun x xs H Q => ∃ (p : Addr) (vs : List V) (y : V) (d : Dat) (ds : List Dat), x = .ref p ∧ xs = [y] ∧ SqL K H p vs ∧ L2.DpAll K.fr H vs ds ∧ L2.Dp K.fr H y d ∧ SeqAt.shaped (.list ds) = true ∧ SeqAt.shaped d = true ∧ Q (.int ((ds.countP fun z => PyData.eqv z d : Nat) : Int)) H
theorem room65 {k : Nat} {A : Around} (r : Room k A) : A.units + 65 < cLine := by have := r.un; omega
theorem mt_count {X : Cx} {K : KK} (hK : X.K = K.fr) (hu : X.A.units + 65 < cLine) : MtR X "list.count" (rCnt K) := by
  intro pins s σ H x xs v us Q I rx rxs h
  obtain ⟨p, vs, y, d, ds, rfl, rfl, hs, hd, hy, s1, s2, q⟩ := h
  cases rx
  obtain ⟨u, rfl, ru⟩ := rxs.one
  obtain ⟨its, rv, pl, hlen⟩ := I.list (show L2.SqL X.K H p vs by rw [hK]; exact hs)
  obtain ⟨as, ra⟩ := Dp.readsAll I ds vs its (by rw [hK]; exact hd) rv
  obtain ⟨bs, rb⟩ := L2.Dp.reads I d y u (by rw [hK]; exact hy) ru
  have l1 := lay_shaped s1
  have l2 := lay_shaped s2
  have dd : d.depth ≤ 64 := by
    have : (d.canLay0 && decide (d.depth ≤ 64)) = true := s2
    rw [Bool.and_eq_true, decide_eq_true_eq] at this
    exact this.2
  have hroom : X.A.units + 1 + min (PyData.depthAll ds) d.depth < cLine := by
    have := Nat.min_le_right (PyData.depthAll ds) d.depth
    omega
  have l1' : PyData.canLayAll0 ds = true := by simpa only [PyData.canLay0] using l1
  exact SeqAt.count_list_data pl.isList ra rb (PyData.plainAll_of_canLay0 ds l1') (PyData.plain_of_canLay0 d l2) hroom ⟨.int _, H, I.tok _, ⟨_, rfl⟩, q⟩
def rCount (ra : RE) (rr : RA) : RE := fun env R => ra env fun a => ∃ ds, a.rd = .list ds ∧ rr env fun bs => ∃ b, bs = [b] ∧ SeqAt.shaped (.list ds) = true ∧ SeqAt.shaped b.rd = true ∧ R (.val (.int ((ds.countP fun z => PyData.eqv z b.rd : Nat) : Int)))
instance {K : KK} {to : TE} {ta : TA} {ra : RE} {rr : RA} [sa : SimE K to ra] [sr : SimA K ta rr] : SimE K (tBM K.fr "list" (rCnt K) to ta) (rCount ra rr) where
  run := by
    intro F B0 B H0 H σ env Q R st h q
    refine sa.run st h fun x a G0 G ⟨ds, ea, h⟩ xa da => ?_
    obtain ⟨p, vs, rfl, hp, dp⟩ := da.asList (st.go xa) ea
    refine ⟨.inl ⟨rfl, vs, hp⟩, sr.run (st.go xa) h fun ws bs I0 I ⟨b, eb, s1, s2, h⟩ xb db _ => ?_⟩
    subst eb
    obtain ⟨y, rfl, dy⟩ := db.one
    have st' := (st.go xa).go xb
    obtain ⟨G', g1, g2, g3⟩ := dy.read st'
    have l1 : PyData.canLayAll0 ds = true := by simpa only [PyData.canLay0] using lay_shaped s1
    exact ⟨p, vs, y, b.rd, ds, rfl, rfl, xb.act.sqL hp, dpAll_low _ _ l1 (dpAll_mono st'.inn _ _ (dpAll_mono xb.kn _ _ dp)), dp_low _ _ (lay_shaped s2) (dp_mono g2 _ _ g3), s1, s2, q.after (xa.trans xb) |>.at st' h (Dp.int _)⟩
theorem countP_bools (b : Bool) : ∀ bs : List Bool, (bs.map PyData.bool).countP (fun z => PyData.eqv z (.bool b)) = bs.count b
  | [] => rfl
  | x :: bs => by
    rw [List.map_cons, List.countP_cons, countP_bools b bs, List.count_cons]
    have : PyData.eqv (.bool x) (.bool b) = (x == b) := by cases x <;> cases b <;> rfl
    rw [this]
end PV

/-! PvCat: list + list; divmod. -/
namespace PV
open PySem PySem.Spec PyProof.Rows L2 NdefX LamX -- pv
def pCatL : R2p := fun a b R => ∃ ds es, a.rd = .list ds ∧ notVal a ∧ b.rd = .list es ∧ notVal b ∧ ds.length + es.length ≤ sizeLine ∧ R (.fresh (ds ++ es))
instance {K : KK} : Im2 K rCat pCatL where
  run := fun {F B0 B Hs H0 H σ env x y a b Q R} st da db ⟨ds, es, ea, na, eb, nb, hz, h⟩ q => by
    obtain ⟨o, vs, rfl, ho, dp⟩ := da.listAt st ea na
    obtain ⟨o', vs', rfl, ho', dp'⟩ := db.listAt st eb nb
    exact ⟨o, o', vs, vs', rfl, rfl, ho, ho', by rw [dp.pvLen, dp'.pvLen]; exact hz, fun p hp => q _ _ _ _ h (Ext.hid st.inn hp) ⟨p, _, rfl, hp, st.inn.none hp, upd_same, _, rfl, dp.pvApp dp'⟩⟩
def rDivmod : List V → Hp → VK → Prop := fun xs H Q => ∃ i j, xs = [.int i, .int j] ∧ CDiv i j ∧ ∀ p, H p = none → Q (.ref p) (upd H p (.tup [.int (i / j), .int (i % j)]))
theorem call_divmodA {X : Cx} : CallR X (.builtin "divmod") rDivmod := call_divmod
theorem boot_divmod : bootBuiltins "divmod" = some (.builtin "divmod") := by decide +kernel
instance {K : KK} : ImL K rDivmod (fun as R => ∃ a b i j, as = [a, b] ∧ a.rd = .int i ∧ b.rd = .int j ∧ (0 < j ∧ j < 1073741824) ∧ R (.val (.tuple [.int (i / j), .int (i % j)]))) where
  run := by
    intro F B0 B Hs H0 H σ env xs as Q R st da ⟨a, b, i, j, e, ea, eb, hc, h⟩ q
    subst e
    obtain ⟨v, w, rfl, dv, dw⟩ := da.two
    have e1 := dv.asInt st ea
    have e2 := dw.asInt st eb
    subst e1 e2
    refine ⟨i, j, rfl, hc, fun l hl => ?_⟩
    exact q _ _ _ _ h (Ext.new st.inn hl) (show Dp K _ _ _ from .tup (.inl (.inl upd_same)) (.cons (Dp.int _) (.cons (Dp.int _) .nil)))
end PV

/-! PvRng: a range object in a name. -/
namespace PV
open PySem PySem.Spec PyProof.Rows L2 NdefX LamX -- pv
def rRngOf : List V → Hp → VK → Prop := fun vs H Q => ∃ i j, vs = [V.int i, V.int j] ∧ ∀ p, H p = none → Q (.ref p) (upd H p (.rng i j))
theorem call_rngA {X : Cx} : CallR X (.type "range") rRngOf := cr_range2
/-- x = range(a, b) -/
def tSetR (i : Nat) (ta : TA) : TS := tAsg (tCB rRngOf ta) (gName i)
theorem ps_setR {X : Cx} {i : Nat} {x : Str} {e : Expr} {ta : TA} {pos pos' : Pos} (hN : X.N.Nodup) (hi : X.N[i]? = some x) (hx : Loc X.env.scope x) (he : PE X e (tCB rRngOf ta)) (hs : swapsWith e (some (.Name x pos')) pos.line X.env = pure false := by rfl) (hf : X.fn x = true ∨ X.env.scope.names.lookup x = some .local := by first | exact .inl rfl | exact .inr rfl | assumption) :
    PS X (.Assign [.Name x pos'] e pos) (tSetR i ta) := ps_set hN hi hx he hs hf
def rSetR (i : Nat) (ra : RA) : RS := fun E env => ra env fun as => ∃ a b lo hi, as = [a, b] ∧ a.rd = .int lo ∧ b.rd = .int hi ∧ E.nx (env.set i (.kn (.rng lo hi)))
instance {K : KK} {i : Nat} {ta : TA} {ra : RA} [sa : SimA K ta ra] : SimS K (tSetR i ta) (rSetR i ra) where
  run := fun {F B0 B H0 H σ env E D} st h m => sa.run st h fun vs as G0 G ⟨a, b, lo, hi, e, ea, eb, hs⟩ x da ap => by
    subst e
    obtain ⟨v, w, rfl, dv, dw⟩ := da.two
    have e1 := dv.asInt (st.go x) ea
    have e2 := dw.asInt (st.go x) eb
    subst e1 e2
    refine ⟨lo, hi, rfl, fun p hp => ?_⟩
    exact m.nx hs (((st.go x).go (Ext.new x.inn hp)).setK i ⟨p, rfl, upd_same⟩)
/-- .. walked -/
def iRngV (te : TE) : TI := fun σ H R => te σ H fun v H1 => ∃ a lo hi, v = .ref a ∧ H1 a = some (.rng lo hi) ∧ (-(2 ^ 62) ≤ lo ∧ lo < 2 ^ 62 ∧ -(2 ^ 62) ≤ hi ∧ hi < 2 ^ 62) ∧ R (Itr lo (hi - lo).toNat) H1
theorem pi_rngV {X : Cx} {tg : Expr} {e : Expr} {te : TE} (he : PE X e te) : PI X tg e (iRngV te) := by
  refine ⟨fun pins s σ H R I h => ?_⟩
  refine thn (he.run pins s σ H _ I h) fun v s1 ⟨x, H1, I1, r1, a, lo, hi, e, hq, ⟨h1, h2, h3, h4⟩, q⟩ => ?_
  subst e
  cases r1
  obtain ⟨t, u, k, ho⟩ : ∃ t u v, s1.heap.get? a = some { cls := .type "range", data := .fields #[.int lo t, .int hi u, .int 1 v] } := I1.hok a _ hq
  refine wpAny_pyIter_range (show IsRange s1.heap a lo hi 1 t u k from ho) (small_one h1 h2 h3 h4) ?_
  refine ⟨s1.heap.objs.size, [s1.heap.objs.size], _, _, H1, rfl, I1.kept (t' := s1.toks) fun b o e => Heap.get?_push_of_some _ e, turn_range _ lo (hi - lo).toNat, ?_, fun b hb => ?_, q⟩
  · have e1 : lo + ((0 : Nat) : Int) * 1 = lo := by simp
    have e2 : (((hi - lo).toNat : Nat) : Int) - ((0 : Nat) : Int) = Builtin.Range.rangeSize lo hi 1 := by rw [rangeSize_one]; split <;> omega
    show IsRangeIter _ _ (lo + ((0 : Nat) : Int) * 1) ((((hi - lo).toNat : Nat) : Int) - ((0 : Nat) : Int)) 1
    rw [e1, e2]
    exact Heap.get?_push_size _ rfl
  · have e : b = s1.heap.objs.size := by simpa using hb
    subst e
    exact I1.fpOk (Nat.le_refl _) (I1.hok.fresh (Nat.le_refl _))
def riRngV (i : Nat) : RI := fun env R => ∃ lo hi, env[i]? = some (.kn (.rng lo hi)) ∧ (-(2 ^ 62) ≤ lo ∧ lo < 2 ^ 62 ∧ -(2 ^ 62) ≤ hi ∧ hi < 2 ^ 62) ∧ R (intsFrom lo (hi - lo).toNat)
instance {K : KK} {i : Nat} : SimI K (iRngV (tVar i)) (riRngV i) where
  run := fun {F B0 B H0 H σ env Q R} st ⟨lo, hi, e, hb, h⟩ q => by
    obtain ⟨v, h1, a, rfl, h2⟩ := st.kno i _ e
    exact ⟨.ref a, h1, a, lo, hi, rfl, st.inn _ _ h2, hb, q _ _ _ _ h (Ext.refl st.inn) WalkD.range⟩
end PV

/-! PvCloA: a call of a def made within a def, with cells of its own. -/
namespace PV
open PySem PySem.Spec PyProof.Rows L2 NdefX LamX -- pv
theorem cellsFrom_app : ∀ (names : List (Str × NameKind)) (n : Nat) (acc : List (Str × Addr)), cellsFrom n names acc = cellsFrom n names [] ++ acc
  | [], _, _ => rfl
  | (x, k) :: r, n, acc => by
    unfold cellsFrom
    split
    · rw [cellsFrom_app r (n + 1) ((x, n) :: acc), cellsFrom_app r (n + 1) [(x, n)], List.append_assoc]
      rfl
    · exact cellsFrom_app r n acc
theorem cellsFrom_kind : ∀ (names : List (Str × NameKind)) (n : Nat) (y : Str) (c : Addr), (y, c) ∈ cellsFrom n names [] → (y, NameKind.cell) ∈ names
  | [], _, _, _, h => by cases h
  | (x, k) :: r, n, y, c, h => by
    unfold cellsFrom at h
    split at h
    · rename_i hk
      rw [cellsFrom_app] at h
      rcases List.mem_append.mp h with q | q
      · exact List.mem_cons_of_mem _ (cellsFrom_kind r (n + 1) y c q)
      · rw [List.mem_singleton] at q
        cases q
        have : k = .cell := by simpa using hk
        rw [this]
        exact List.mem_cons_self
    · exact List.mem_cons_of_mem _ (cellsFrom_kind r n y c h)
section
variable {M : Model} {A : Around} {E : Value → Shared → Prop} {s₀ s : Shared} {m cm : Str → Option Value} {env : PySem.Env} {own : List (Str × Addr)}
theorem st_loc {n : Str} {v : Value} {Q : Unit → Shared → Prop} (x : InCallC s₀ env.locals m own cm s) (hk : env.scope.kind = .function) (hl : env.kindOf n = some .local)
    (h : ∀ s', InCallC s₀ env.locals (fun y => if y = n then some v else m y) own cm s' → Q () s') : wpAny M A (storeName env n v) Q E s := by
  refine wpAny_storeName_local hl x.toInCall.ns (fun h' hn' hs' => h _ ⟨⟨?_, hn', fun b o e => ?_, x.toInCall.fresh⟩, fun k c hc => ?_, x.apart, x.above⟩) (by rw [hk]; rfl)
  · obtain ⟨h₁, tk, rfl⟩ := x.toInCall.same
    exact ⟨h', _, rfl⟩
  · exact hs'.extBut b o (Nat.ne_of_lt (Nat.lt_of_lt_of_le (Heap.lt_size e) x.toInCall.fresh)) (x.toInCall.keep b o e)
  · exact (x.cell k c hc).sameBut hs' (Nat.ne_of_gt (x.above k c (PySem.mem_of_lookup hc)))
theorem st_cell {n : Str} {c : Addr} {v : Value} {Q : Unit → Shared → Prop} (x : InCallC s₀ env.locals m own cm s) (hk : env.scope.kind = .function) (hl : env.kindOf n = some .cell)
    (hc : own.lookup n = some c) (he : env.cells.lookup n = some c)
    (h : ∀ s', InCallC s₀ env.locals m own (fun y => if y = n then some v else cm y) s' → Q () s') : wpAny M A (storeName env n v) Q E s := by
  have hLc := x.above n c (PySem.mem_of_lookup hc)
  refine wpAny_storeName_cell hk hl he (x.cell n c hc) fun h' hc' hs' => h _ ⟨⟨?_, x.toInCall.ns.sameBut hs' (Nat.ne_of_lt hLc), fun b o e => ?_, x.toInCall.fresh⟩, fun k c' hk' => ?_, x.apart, x.above⟩
  · obtain ⟨h₁, tk, rfl⟩ := x.toInCall.same
    exact ⟨h', _, rfl⟩
  · exact hs'.extBut b o (Nat.ne_of_lt (Nat.lt_trans (Nat.lt_of_lt_of_le (Heap.lt_size e) x.toInCall.fresh) hLc)) (x.toInCall.keep b o e)
  · by_cases hkn : k = n
    · subst hkn
      rw [hc] at hk'; cases hk'
      simpa using hc'
    · rw [if_neg hkn]
      exact (x.cell k c' hk').sameBut hs' fun e => hkn (name_of_addr x.apart (PySem.mem_of_lookup hk') (e ▸ PySem.mem_of_lookup hc))
theorem bind_both (sub : ∀ n c, own.lookup n = some c → env.cells.lookup n = some c) (f : Str × Value → PUnit → Sem (ForInStep PUnit)) (hf : ∀ n v u, f (n, v) u = (do storeName env n v; pure (.yield ⟨⟩))) (hk : env.scope.kind = .function) :
    ∀ (binds : List (Str × Value)) (m cm : Str → Option Value) (s : Shared) (Q : PUnit → Shared → Prop), InCallC s₀ env.locals m own cm s →
      (∀ x ∈ binds, env.kindOf x.1 = some .local ∨ (env.kindOf x.1 = some .cell ∧ (own.lookup x.1).isSome = true)) →
      (∀ s', InCallC s₀ env.locals (bindL env.kindOf binds m) own (bindC env.kindOf binds cm) s' → Q ⟨⟩ s') → wpAny M A (forIn binds ⟨⟩ f) Q E s
  | [], m, cm, s, Q, x, _, h => by rw [List.forIn_nil]; exact wpAny_pure (h s x)
  | (n, v) :: r, m, cm, s, Q, x, hkind, h => by
    rw [List.forIn_cons, hf]
    have hr : ∀ y ∈ r, env.kindOf y.1 = some .local ∨ (env.kindOf y.1 = some .cell ∧ (own.lookup y.1).isSome = true) := fun y hy => hkind y (List.mem_cons_of_mem _ hy)
    rcases hkind (n, v) List.mem_cons_self with hl | ⟨hl, hc⟩
    · refine wpAny_bind (wpAny_bind (st_loc x hk hl fun s' x' => wpAny_pure (bind_both sub f hf hk r _ _ s' Q x' hr fun s'' x'' => h s'' ?_)))
      unfold bindL bindC; rw [if_pos hl, if_pos hl]; exact x''
    · obtain ⟨c, hc⟩ := Option.isSome_iff_exists.mp hc
      have hnl : ¬ env.kindOf n = some .local := by rw [hl]; decide
      refine wpAny_bind (wpAny_bind (st_cell x hk hl hc (sub n c hc) fun s' x' => wpAny_pure (bind_both sub f hf hk r _ _ s' Q x' hr fun s'' x'' => h s'' ?_)))
      unfold bindL bindC; rw [if_neg hnl, if_neg hnl]; exact x''
end
theorem env_both {M : Model} {A : Around} {E : Value → Shared → Prop} {s : Shared} {scope : Scope} {globals : Addr} {closure : List (Str × Addr)} {binds : List (Str × Value)} {qual : Str} {func : Option Addr} {code : Value} {builtins : Addr} {Q : PySem.Env → Shared → Prop}
    (hk : scope.kind = .function)
    (hkind : ∀ x ∈ binds, scope.names.lookup x.1 = some .local ∨ (scope.names.lookup x.1 = some .cell ∧ ((cellsFrom (s.heap.objs.size + 1) scope.names []).lookup x.1).isSome = true))
    (hQ : ∀ env, env = newEnv scope s.heap.objs.size globals (cellsFrom (s.heap.objs.size + 1) scope.names closure) qual func code none builtins →
      ∀ s', InCallC s env.locals (bindL env.kindOf binds fun _ => none) (cellsFrom (s.heap.objs.size + 1) scope.names []) (bindC env.kindOf binds fun _ => none) s' → Q env s') :
    wpAny M A (newFunctionEnv scope globals closure binds qual func code none builtins) Q E s := by
  simp only [newFunctionEnv, Option.isSome_none, Bool.false_eq_true, if_false]
  refine wpAny_bind (wpAny_alloc ?_)
  refine wpAny_bind (wpAny_layCells _ (fun name kind cells => by cases hkc : kind == NameKind.cell <;> simp [hkc]) _ _ _ _ ?_)
  have ok := cellsFrom_ok scope.names (s.heap.push { cls := .type "frame", data := .dict #[] }) (s.heap.objs.size + 1) [] ⟨fun _ _ hm => (nomatch hm), List.Pairwise.nil⟩ (by rw [Heap.size_push]; exact Nat.le_refl _)
  rw [Heap.size_push] at ok
  rw [show ({ s with heap := s.heap.push { cls := .type "frame", data := .dict #[] } } : Shared).heap.objs.size = s.heap.objs.size + 1 from Heap.size_push ..]
  refine wpAny_bind (bind_both (s₀ := s) (own := cellsFrom (s.heap.objs.size + 1) scope.names []) (env := newEnv scope s.heap.objs.size globals (cellsFrom (s.heap.objs.size + 1) scope.names closure) qual func code none builtins)
    (fun n c h => by
      show (cellsFrom (s.heap.objs.size + 1) scope.names closure).lookup n = some c
      rw [cellsFrom_app, List.lookup_append, h]
      rfl)
    _ (fun _ _ _ => rfl) hk binds (fun _ => none) (fun _ => none) _ _
    ⟨⟨⟨_, _, rfl⟩, (Heap.Ns.new s.heap (.type "frame")).keeps (pushCells_keeps _ _), fun b o e => pushCells_keeps _ _ b o (Heap.get?_push_of_some _ e), Nat.le_refl _⟩,
      fun n c hc => (ok.empty n c (PySem.mem_of_lookup hc)).1, ok.apart, fun n c hm => (ok.empty n c hm).2⟩
    hkind fun s' x => wpAny_pure (hQ _ rfl s' x))
end PV

/-! PvCloB: a def made within a def: captured cells and cells of its own. -/
namespace PV
open PySem PySem.Spec PyProof.Rows L2 NdefX LamX -- pv
/-- its names: the parameters, then the captured ones, then its locals -/
structure NSc (N ps fr : List Str) (sc : Scope) : Prop where
  kind : sc.kind = .function
  co : sc.isCoroutine = false
  gen : sc.isGenerator = false
  nd : N.Nodup
  pre : N.take (ps.length + fr.length) = ps ++ fr
  par : ∀ x ∈ ps, sc.names.lookup x = some .local ∨ sc.names.lookup x = some .cell
  free : ∀ y ∈ sc.names, y.2 = .free → y.1 ∈ fr
  frk : ∀ x ∈ fr, sc.names.lookup x = some .free
  nocell : ∀ x ∈ fr, (x, NameKind.cell) ∉ sc.names
abbrev cellsG (F : NF) (L : Addr) : List (Str × Addr) := cellsFrom (L + 1) F.scope.names F.cl
abbrev envG (F : NF) (f L : Addr) : PySem.Env := PySem.W.envX F.qual F.scope L f (.ref F.c) (cellsG F L)
def ncxG (CX : CXT) (P : Program) (w : World) (K : PySem.W.Frag) (mg : Str → Option Value) (base : Heap) (N : List Str) (F : NF) (f : Addr) (A : Around) (outer : List PySem.Env) (s : Shared) (H : Hp) (E : XK) : Cx where
  prog := P
  w := w
  K := K
  mg := mg
  base := base
  A := A.deeper (envG F f s.heap.objs.size)
  N := N
  s_0 := s
  H_0 := H
  env := envG F f s.heap.objs.size
  outer := outer
  stack := envG F f s.heap.objs.size :: outer
  ex := []
  calm := true
  fn := fun _ => false
  pn := []
  xe := fun e s' => wpAny (model P w) (A.deeper (envG F f s.heap.objs.size)) (leaving (envG F f s.heap.objs.size) e) (fun _ s'' => CX outer H s E e s'') (fun e' s'' => CX outer H s E e' s'') s'
section
variable {CX : CXT} {P : Program} {w : World} {K : PySem.W.Frag} {mg : Str → Option Value} {base : Heap} {N ps fr : List Str} {F : NF} {f : Addr} {A : Around} {outer : List PySem.Env} {s s1 : Shared} {H : Hp} {E : XK} {us : List Value} {vs : List V} {ws : List (Option V)}
theorem inv_startG (S : NSc N ps fr F.scope) (hd : A.handled = none) (e0 : Env0 P w K mg base A outer s H) (hl : vs.length = ps.length) (r : Vals vs us) (C : CellsAt F.cl fr ws s.heap H)
    (x : InCallC s s.heap.objs.size (bindL (envG F f s.heap.objs.size).kindOf (ps.zip us) fun _ => none) (cellsFrom (s.heap.objs.size + 1) F.scope.names []) (bindC (envG F f s.heap.objs.size).kindOf (ps.zip us) fun _ => none) s1) :
    L2.Inv (ncxG CX P w K mg base N F f A outer s H E) [] (startF N vs ws) H s1 := by
  have hpl : ps.length + fr.length ≤ N.length := by
    have q := congrArg List.length S.pre
    rw [List.length_take, List.length_append] at q
    omega
  obtain ⟨h1, tk, rfl, hk⟩ := x.done
  have noA : ∀ b : Addr, b ∉ (ncxG CX P w K mg base N F f A outer s H E).ex := fun b z => absurd (show b ∈ ([] : List Addr) from z) (by simp)
  have cellK : ∀ {c : Addr} {v : Option Value}, s.heap.IsCell c v → h1.IsCell c v := fun {c v} ⟨o, ho, hd⟩ => ⟨o, hk _ _ ho, hd⟩
  have lk : ∀ y, (cellsG F s.heap.objs.size).lookup y = ((cellsFrom (s.heap.objs.size + 1) F.scope.names []).lookup y).or (F.cl.lookup y) := fun y => by
    show (cellsFrom (s.heap.objs.size + 1) F.scope.names F.cl).lookup y = _
    rw [cellsFrom_app, List.lookup_append]
  have spl : ∀ {y c}, (cellsG F s.heap.objs.size).lookup y = some c → (cellsFrom (s.heap.objs.size + 1) F.scope.names []).lookup y = some c ∨ F.cl.lookup y = some c := fun {y c} e => by
    rw [lk] at e
    cases q : (cellsFrom (s.heap.objs.size + 1) F.scope.names []).lookup y with
    | some c' => rw [q] at e; exact .inl e
    | none => rw [q] at e; exact .inr e
  have up : ∀ {y c}, (cellsFrom (s.heap.objs.size + 1) F.scope.names []).lookup y = some c → s.heap.objs.size < c := fun {y c} e => x.above y c (PySem.mem_of_lookup e)
  have dn : ∀ {y c}, F.cl.lookup y = some c → c < s.heap.objs.size := fun {y c} e => by
    obtain ⟨_, v, o, ho, _⟩ := C.all y c e
    exact Heap.lt_size ho
  have frn : ∀ y ∈ fr, (cellsFrom (s.heap.objs.size + 1) F.scope.names []).lookup y = none := fun y hy => by
    cases q : (cellsFrom (s.heap.objs.size + 1) F.scope.names []).lookup y with
    | none => rfl
    | some c => exact absurd (cellsFrom_kind _ _ _ _ (PySem.mem_of_lookup q)) (S.nocell y hy)
  refine ⟨⟨e0.mod, S.kind, rfl, rfl, Nat.le_refl _, fun y z c h1 h2 => ?_, fun y hy => ?_, fun y c z _ => ?_, fun _ => hd, Around.frames_deeper e0.frames, .inr ⟨rfl, rfl⟩, fun b z => absurd z (noA b), e0.bs, e0.bsz, fun b _ _ => noA b, fun b z => absurd z (noA b), e0.funs, e0.frf⟩,
    rfl, e0.bare, Un.kept hk, ⟨_, x.toInCall.ns, fun i y v h1 h2 h3 => ?_⟩, fun y c h => ?_, e0.hok.fresh (Nat.le_refl _), fun y c h => ?_, fun p hp => absurd (show p ∈ ([] : List (Addr × Obj)) from hp) (by simp), e0.hok.kept hk, ?_⟩
  · rcases spl h1 with q1 | q1 <;> rcases spl h2 with q2 | q2
    · exact name_of_addr x.apart (PySem.mem_of_lookup q1) (PySem.mem_of_lookup q2)
    · exact absurd (Nat.lt_trans (up q1) (dn q2)) (Nat.lt_irrefl _)
    · exact absurd (Nat.lt_trans (up q2) (dn q1)) (Nat.lt_irrefl _)
    · exact C.inj y z c q1 q2
  · have hy : F.scope.names.lookup y = some .cell ∨ F.scope.names.lookup y = some .free := hy
    show ∃ c, (cellsG F s.heap.objs.size).lookup y = some c
    rcases hy with hy | hy
    · obtain ⟨c, hc⟩ := cell_has (n := s.heap.objs.size + 1) hy
      exact ⟨c, by rw [lk, hc]; rfl⟩
    · have yf := S.free _ (PySem.mem_of_lookup hy) rfl
      obtain ⟨i, hi⟩ := List.mem_iff_getElem?.mp yf
      obtain ⟨c, hc, _⟩ := C.has i y hi
      exact ⟨c, by rw [lk, frn y yf, hc]; rfl⟩
  · have z : false = true := z
    cases z
  · have e1 : N[i]? = some y := h1
    have clen := C.len
    unfold startF at h2
    by_cases hi1 : i < ps.length
    · have hq : (ps ++ fr)[i]? = some y := by
        rw [← S.pre, List.getElem?_take_of_lt (by omega)]
        exact e1
      rw [List.getElem?_append_left hi1] at hq
      rw [List.getElem?_append_left (by rw [List.length_map]; omega), List.getElem?_map] at h2
      have ha : vs[i]? = some v := by
        cases e : vs[i]? with
        | none => rw [e] at h2; cases h2
        | some a => rw [e] at h2; cases h2; rfl
      obtain ⟨u, hu, rv⟩ := r.get ha
      have ndP : ps.Nodup := by
        have q := S.nd.sublist (List.take_sublist (ps.length + fr.length) N)
        rw [S.pre] at q
        exact (List.nodup_append.mp q).1
      refine ⟨u, rv, ?_⟩
      rcases S.par y (List.mem_of_getElem? hq) with k | k
      · exact .inl ⟨k, bindL_get ndP hq hu k⟩
      · obtain ⟨c, e⟩ := cell_has (n := s.heap.objs.size + 1) k
        refine .inr ⟨.inl k, c, by show (cellsG F s.heap.objs.size).lookup y = some c; rw [lk, e]; rfl, ?_⟩
        have q := x.cell y c e
        rw [bindC_get ndP hq hu (by show F.scope.names.lookup y ≠ _; rw [k]; decide)] at q
        exact q
    · rw [List.getElem?_append_right (by rw [List.length_map]; omega), List.length_map] at h2
      by_cases hi2 : i < ps.length + fr.length
      · have hq : (ps ++ fr)[i]? = some y := by
          rw [← S.pre, List.getElem?_take_of_lt (by omega)]
          exact e1
        rw [List.getElem?_append_right (by omega)] at hq
        rw [List.getElem?_append_left (by omega), hl] at h2
        obtain ⟨c, hc, hv⟩ := C.has (i - ps.length) y hq
        obtain ⟨u, ru, hu⟩ := hv v h2
        have yf := List.mem_of_getElem? hq
        exact ⟨u, ru, .inr ⟨.inr (S.frk y yf), c, by show (cellsG F s.heap.objs.size).lookup y = some c; rw [lk, frn y yf, hc]; rfl, cellK hu⟩⟩
      · rw [List.getElem?_append_right (by omega), List.getElem?_replicate] at h2
        split at h2 <;> cases h2
  · rcases spl h with q | q
    · exact ⟨_, x.cell y c q⟩
    · obtain ⟨v, z⟩ := (C.all y c q).2
      exact ⟨v, cellK z⟩
  · rcases spl h with q | q
    · exact e0.hok.fresh (Nat.le_of_lt (up q))
    · exact (C.all y c q).1
  · have clen := C.len
    unfold startF
    show _ = N.length
    rw [List.length_append, List.length_append, List.length_map, List.length_replicate]
    omega
theorem nok_ofG {k : Nat} {sp : List (Option V) → Sp} (S : NSc N ps fr F.scope) (hb : ∀ (doc pm ctv : Value) (us : List Value), us.length = ps.length → bindArgs (F.fd doc pm ctv) ⟨us, []⟩ = pure (ps.zip us)) (len : ∀ ws vs H Q E, sp ws vs H Q E → vs.length = ps.length)
    (hbody : ∀ (A : Around) (outer : List PySem.Env) (s : Shared) (H : Hp) (vs : List V) (ws : List (Option V)) (Q : VK) (E : XK), Room k (A.deeper (envG F f s.heap.objs.size)) → H f = some (FnO f F) → H F.c = some (CodeO F.c F.qual) → ws.length = fr.length → sp ws vs H Q E →
      ∃ t, PSs (ncxG CX P w K mg base N F f A outer s H E) F.body t ∧ t { nx := fun _ H' => Q .non H', rt := Q } (startF N vs ws) H) :
    NOk P w K mg base CX (k + 1) f F ps fr sp := by
  refine ⟨len, fun A outer s H us vs ws Q E hr e0 hf hc C r hsp => ?_⟩
  have hl := len _ _ _ _ _ hsp
  have lim : s.heap.NoLimit := e0.mod.nolimit.keeps fun b o e => (e0.bs b o e).1
  obtain ⟨od, sl, doc, pm, ctv, ho⟩ := fnO_at e0.hok hf
  refine codeAny_call_function hr.depth ho rfl S.co S.gen rfl (codeO_at e0.hok hc) ?_
  rw [hb doc pm ctv us (by rw [← r.length]; exact hl)]
  have hkind : ∀ y ∈ ps.zip us, F.scope.names.lookup y.1 = some .local ∨ (F.scope.names.lookup y.1 = some .cell ∧ ((cellsFrom (s.heap.objs.size + 1) F.scope.names []).lookup y.1).isSome = true) := fun ⟨n, v⟩ hy => by
    rcases S.par n (List.of_mem_zip hy).1 with q | q
    · exact .inl q
    · exact .inr ⟨q, PySem.W.cellsFrom_some _ _ _ (.inl q)⟩
  refine wpAny_pure (env_both S.kind hkind fun env he s1 x => ?_)
  subst he
  refine ⟨lim.keeps x.toInCall.keep, codeAny_func ?_⟩
  obtain ⟨t, ht, hq⟩ := hbody A outer s H vs ws Q E (hr.deeper _) hf hc C.len hsp
  have I : L2.Inv (ncxG CX P w K mg base N F f A outer s H E) [] (startF N vs ws) H s1 := inv_startG S hr.hd e0 hl r C x
  refine wpAny_mono (ht.run [] s1 (startF N vs ws) H _ I hq) (fun fl s' hs => ?_) fun e s' hs => hs
  have fin : ∀ {σ' : L2.St} {H' : Hp} {v : V} {u : Value}, L2.Inv (ncxG CX P w K mg base N F f A outer s H E) [] σ' H' s' → L2.RelV v u → Q v H' → CE outer P w H s Q u s' :=
    fun {σ' H' v u} J rv q => ⟨v, H', J.os, J.bare, J.base, J.hok, rv, q⟩
  cases fl with
  | ret u =>
    obtain ⟨v, σ', H', J, rv, q⟩ := hs
    exact fin J rv q
  | next =>
    obtain ⟨σ', H', J, q⟩ := hs
    exact fin (v := V.non) (u := Value.none) J rfl q
  | brk =>
    obtain ⟨_, _, _, q⟩ := hs
    exact False.elim q
  | cont =>
    obtain ⟨_, _, _, q⟩ := hs
    exact False.elim q
end
end PV

/-! PvCloC: the statement that makes a def within a def. -/
namespace PV
open PySem PySem.Spec PyProof.Rows L2 NdefX LamX -- pv
/-- a function object is known -/
theorem Ext.fnNew {K : KK} {H0 H : Hp} (s : Sub H0 H) {f : Addr} {o : HO} (h : H f = Option.none) : Ext K H0 H (upd H0 f o) (upd H f o) := Ext.new s h
theorem ndef_makeV {K : KK} {X : Cx} {pins : List (Addr × Obj)} {σ : L2.St} {H0 H : Hp} {s : Shared} {c P : Addr} {name : Str} {params : Arguments} {body : List Stmt} {scope : Scope} {pos : Pos} {E : Value → Shared → Prop} {Q : Value → Shared → Prop} (I : L2.Inv X pins σ H s) (TB : TabB X.base X.mg c P) (hcode : X.env.code = .ref c)
    (s0 : Sub H0 H) (T : TabK K H0 H P) (hn : K.nm pos.line pos.col = X.env.qual ++ name) (hfree : ∀ y ∈ scope.names, y.2 = .free → ∃ c, X.env.cells.lookup y.1 = some c)
    (h : ∀ (f c' : Addr) (H0' H1 : Hp) (s' : Shared), L2.Inv X pins σ H1 s' → Ext K H0 H H0' H1 → H0' f = some (FnO f ⟨name, X.env.qual ++ name, params, body, scope, cloFrom X.env.cells scope.names [], c'⟩) → H0' c' = some (CodeO c' (X.env.qual ++ name)) → Q (.ref f) s') :
    wpAny (model X.prog X.w) X.A (makeFunction name (X.env.qual ++ name) params (.stmts body) scope X.env [] [] [] pos pos.line) Q E s := by
  obtain ⟨hP0, ps, hP, ht, ha⟩ := T
  have bP : s.heap.BuiltinsAt X.mg P := TB.bm.keeps I.bk
  have hP' : s.heap.get? P = some { cls := .none, data := .fields ps } := I.hok P _ hP
  cases hc : codeAmong pos ps.toList with
  | none =>
    refine PySem.W.makeFunction_K (mg := X.mg) (c := c) (P := P) (ps := ps) (closure_ok hfree) I.ok.glob (I.mod.glob.keeps I.bk) hcode (TB.code.keeps I.bk) hP' ht hc TB.gP bP fun c' ctv doc h' tk hx hge hlt hrec htb => ?_
    obtain ⟨c2, oc, vs, t, e2, hoc, hd, hv⟩ := hrec
    cases e2
    have nC : H c' = Option.none := I.hok.fresh hge
    have I1 := inv_table (t' := tk) (more := #[rawInt pos.line, rawInt pos.col, .ref c']) (h' := h') I hP (fun b o hb e => hx b o hb e) htb hge ⟨oc, vs, t, hoc, hd, hv⟩
    have eL : (ps ++ #[rawInt pos.line, rawInt pos.col, .ref c']).toList = ps.toList ++ [rawInt pos.line, rawInt pos.col, .ref c'] := by simp
    have nF := I1.hok.fresh (Nat.le_refl _)
    have I2 := inv_fn (F := ⟨name, X.env.qual ++ name, params, body, scope, cloFrom X.env.cells scope.names [], c'⟩) (t' := tk) (doc := doc) (pm := (X.mg "__name__").getD .none) (ctv := ctv) I1 rfl
    have nH : H h'.objs.size = Option.none := I.hok.fresh (Nat.le_trans hge (Nat.le_of_lt hlt))
    have nCf : c' ≠ h'.objs.size := Nat.ne_of_lt hlt
    have nPc : P ≠ c' := ne_of_none hP nC
    have nPf : P ≠ h'.objs.size := ne_of_none hP nH
    refine h h'.objs.size c' (upd (upd H0 c' (CodeO c' (X.env.qual ++ name))) h'.objs.size (FnO h'.objs.size ⟨name, X.env.qual ++ name, params, body, scope, cloFrom X.env.cells scope.names [], c'⟩)) _ _ I2 ?_ upd_same ?_
    · have kn : Sub H0 (upd (upd H0 c' (CodeO c' (X.env.qual ++ name))) h'.objs.size (FnO h'.objs.size ⟨name, X.env.qual ++ name, params, body, scope, cloFrom X.env.cells scope.names [], c'⟩)) :=
        (Sub.upd (s0.none nC)).trans (Sub.upd (by rw [upd_ne nCf.symm]; exact s0.none nH))
      refine ⟨⟨fun b o e n => ?_, fun {b} e => ?_⟩, kn, fun b o e => ?_, fun b e n => ?_, fun R t => ?_⟩
      · rw [upd_ne (ne_of_none e nH), upd_ne (ne_of_none e nC), upd_ne (fun z => n ps (by rw [z, hP] at e; exact (Option.some.inj e).symm))]
        exact e
      · exact upd_none (upd_none (upd_none e))
      · by_cases h1 : b = h'.objs.size
        · rw [h1, upd_same] at e ⊢; exact e
        · rw [upd_ne h1] at e ⊢
          by_cases h2 : b = c'
          · rw [h2, upd_same] at e ⊢; exact e
          · rw [upd_ne h2] at e ⊢
            rw [upd_ne (fun z => by rw [z, hP0] at e; cases e)]
            exact s0 _ _ e
      · have n1 : b ≠ h'.objs.size := fun z => n (by rw [z]; exact nH)
        have n2 : b ≠ c' := fun z => n (by rw [z]; exact nC)
        rw [upd_ne n1, upd_ne n2]; exact e
      · obtain ⟨t0, ps', a1, a2, a3⟩ := t
        have r1 : R ≠ h'.objs.size := ne_of_none a1 nH
        have r2 : R ≠ c' := ne_of_none a1 nC
        refine ⟨by rw [upd_ne r1, upd_ne r2]; exact t0, ?_⟩
        by_cases hb : R = P
        · rw [hb] at a1 ⊢
          rw [hP] at a1
          cases a1
          refine ⟨_, by rw [upd_ne nPf, upd_ne nPc, upd_same], by rw [eL]; exact PySem.TriplesOk_snoc _ _ _ _ ht, fun p' cv hcv => ?_⟩
          rw [eL] at hcv
          rcases among_app2 _ ht hcv with z | ⟨z, z1, z2⟩
          · obtain ⟨c0, e1, e2⟩ := ha p' cv z
            exact ⟨c0, e1, kn _ _ e2⟩
          · refine ⟨c', z, ?_⟩
            rw [← z1, ← z2, hn, upd_ne nCf]
            exact upd_same
        · refine ⟨ps', by rw [upd_ne r1, upd_ne r2, upd_ne hb]; exact a1, a2, fun p' cv hcv => ?_⟩
          obtain ⟨c0, e1, e2⟩ := a3 p' cv hcv
          exact ⟨c0, e1, kn _ _ e2⟩
    · rw [upd_ne nCf]; exact upd_same
  | some cv =>
    obtain ⟨c', e, hco⟩ := ha pos cv hc
    subst e
    rw [hn] at hco
    refine PySem.W.makeFunction_hit (mg := X.mg) (c := c) (P := P) (ps := ps) (closure_ok hfree) I.ok.glob (I.mod.glob.keeps I.bk) hcode (TB.code.keeps I.bk) hP' ht hc bP fun ctv doc h' tk hx hsz => ?_
    have I1 : L2.Inv X pins σ H { s with heap := h', toks := tk } := I.kept hx
    have nF : H h'.objs.size = Option.none := I1.hok.fresh (Nat.le_refl _)
    have I2 := inv_fn (F := ⟨name, X.env.qual ++ name, params, body, scope, cloFrom X.env.cells scope.names [], c'⟩) (t' := tk) (doc := doc) (pm := (X.mg "__name__").getD .none) (ctv := ctv) I1 rfl
    exact h h'.objs.size c' _ _ _ I2 (Ext.new s0 nF) upd_same (Sub.upd (s0.none nF) _ _ hco)
/-- the reading of «def name(..): ..» in a def's body: the slot i holds the new function -/
def tNdefV (K : KK) (P : Addr) (i : Nat) (mk : Addr → NF) : TS := fun D σ H => ∃ H0, Sub H0 H ∧ TabK K H0 H P ∧ ∀ (f c' : Addr) (H0' H1 : Hp), Ext K H0 H H0' H1 → H0' f = some (FnO f (mk c')) → H0' (mk c').c = some (CodeO (mk c').c (mk c').qual) → D.nx (σ.set i (some (.ref f))) H1
theorem ps_ndefV {K : KK} {X : Cx} {st : Stmt} {c P : Addr} {name : Str} {pos : Pos} {i : Nat} (hst : st = .FunctionDef name (C8.fnArgs st) (C8.fnBody st) [] none [] (C8.fnScope st) none name pos) (TB : TabB X.base X.mg c P) (hcode : X.env.code = .ref c) (hn : K.nm pos.line pos.col = X.env.qual ++ name)
    (hfree : ∀ y ∈ (C8.fnScope st).names, y.2 = .free → X.env.scope.names.lookup y.1 = some .cell ∨ X.env.scope.names.lookup y.1 = some .free) (hd0 : (C8.fnArgs st).defaults = []) (hk0 : (C8.fnArgs st).kw_defaults = []) (ha : annTrees (C8.fnArgs st) none X.env = [])
    (hN : X.N.Nodup) (hi : X.N[i]? = some name) (hx : Loc X.env.scope name) (hf : X.fn name = true ∨ X.env.scope.names.lookup name = some .local) :
    PS X st (tNdefV K P i (NF.of st name (X.env.qual ++ name) (cloFrom X.env.cells (C8.fnScope st).names []))) := by
  rw [hst]
  refine ⟨fun pins s σ H D I h => ?_⟩
  rw [← hst] at h
  obtain ⟨H0, s0, hT, h⟩ := h
  have hq : qualnameIn X.env name name = X.env.qual ++ name := by
    have hk : X.env.kindOf name = some .local ∨ X.env.kindOf name = some .cell := hx
    unfold qualnameIn
    rcases hk with k | k <;> rw [k] <;> first | rfl | exact if_neg (by decide)
  refine PySem.W.nestDef_K hd0 hk0 ha ?_
  rw [hq]
  have hfr : ∀ y ∈ (C8.fnScope st).names, y.2 = .free → ∃ c, X.env.cells.lookup y.1 = some c := fun y hy e => (hfree y hy e).elim (fun z => I.ok.has _ (.inl z)) fun z => I.ok.has _ (.inr z)
  refine ndef_makeV I TB hcode s0 hT hn hfr fun f c' H0' H1 s' I1 x f1 c1 => ?_
  exact store_ok I1 hN hi hx (v := .ref f) rfl (fun s'' J => ⟨_, H1, J, h f c' H0' H1 x f1 c1⟩) hf
def rNdefV (i : Nat) (mk : Addr → NF) : RS := fun E env => E.nx (env.set i (.kn (.clo mk)))
class TabIn (K : KK) (P : Addr) : Prop where
  out : P ∈ K.tabs
instance {K : KK} {P : Addr} {i : Nat} {mk : Addr → NF} [hP : TabIn K P] : SimS K (tNdefV K P i mk) (rNdefV i mk) where
  run := fun {F B0 B H0 H σ env E D} st h m => ⟨H0, st.inn, st.tab P hP.out, fun f c' H0' H1 x f1 c1 => m.nx h ((st.go x).setK i ⟨f, c', rfl, f1, c1⟩)⟩
end PV

/-! PvCloD: what a def within a def promises, on data; a def that is handed a function. -/
namespace PV
open PySem PySem.Spec PyProof.Rows L2 NdefX LamX -- pv
abbrev FG := List Dat → List Dat → (Dat → Prop) → Prop
class GMono (g : FG) : Prop where
  mono : ∀ {cs ds : List Dat} {R R' : Dat → Prop}, (∀ d, R d → R' d) → g cs ds R → g cs ds R'
/-- the promise of a def within: cs, what it captured; ds, its arguments -/
def spN (K : KK) (g : FG) : List (Option V) → Sp := fun ws vs H Q _ => ∃ H0 vw cs ds, ws = vw.map some ∧ Sub H0 H ∧ (∀ P ∈ K.tabs, TabK K H0 H P) ∧ DpAll K H0 vw cs ∧ DpAll K H0 vs ds ∧ g cs ds fun d => ∀ v H0' H', Ext K H0 H H0' H' → Dp K H0' v d → Q v H'
theorem ok_ndef {K : KK} {mg : Str → Option Value} {base : Heap} {F : NF} {f : Addr} {N ps fr : List Str} {k : Nat} {g : FG} (S : NSc N ps fr F.scope)
    (hb : ∀ (doc pm ctv : Value) (us : List Value), us.length = ps.length → bindArgs (F.fd doc pm ctv) ⟨us, []⟩ = pure (ps.zip us)) (hl : ∀ cs ds R, g cs ds R → cs.length = fr.length ∧ ds.length = ps.length)
    (hbd : ∀ (A : Around) (outer : List PySem.Env) (s : Shared) (H : Hp) (E : XK), Room k (A.deeper (envG F f s.heap.objs.size)) →
      ∃ t r, PSs (ncxG CX0 K.P K.w K.fr mg base N F f A outer s H E).nox F.body t ∧ SimS K t r ∧ ∀ cs ds R, g cs ds R → r { nx := fun _ => R .none, rt := R } ((ds ++ cs).map Sl.val ++ List.replicate (N.length - (ps ++ fr).length) .un)) :
    NOk K.P K.w K.fr mg base CX0 (k + 1) f F ps fr (spN K g) := by
  refine nok_ofG S hb (fun ws vs H Q E ⟨H0, vw, cs, ds, ew, s0, tb, dc, dp, h⟩ => dp.pvLen.trans (hl _ _ _ h).2) (fun A outer s H vs ws Q E hr hf hc hlen ⟨H0, vw, cs, ds, ew, s0, tb, dc, dp, h⟩ => ?_)
  obtain ⟨t, r, hp, hs, hd⟩ := hbd A outer s H E hr
  obtain ⟨l1, l2⟩ := hl _ _ _ h
  have e : startF N vs ws = L2.start N (vs ++ vw) := by
    subst ew
    unfold startF L2.start
    rw [List.map_append, List.append_assoc, List.length_append, List.length_map, Nat.sub_sub]
  refine ⟨t, hp.nox, ?_⟩
  rw [e]
  refine hs.run (F := H0) (B0 := H0) (B := H) (H0 := H0) (σ := L2.start N (vs ++ vw)) (st_entry (ps := ps ++ fr) s0 tb (dp.pvApp dc) (by rw [List.length_append, List.length_append, l1, l2])) (hd cs ds _ h) ?_
  exact { nx := fun {env σ G0 G} h st => h .non G0 G st.ext Dp.non, bk := fun h _ => h.elim, ct := fun h _ => h.elim, rt := fun {d v G0 G} h x dv => h v G0 G x dv, rf := fun h => h.elim }
/-! ### captured cells stay as they are -/
theorem CellsAt.on {X : Cx} {pins : List (Addr × Obj)} {σ : L2.St} {H : Hp} {s : Shared} {cl : List (Str × Addr)} {fr : List Str} {ws : List (Option V)} (C : CellsAt cl fr ws X.s_0.heap X.H_0) (hx : X.ex = []) (I : L2.Inv X pins σ H s) : CellsAt cl fr ws s.heap H := by
  have nx : ∀ b : Addr, b ∉ X.ex := fun b z => by rw [hx] at z; cases z
  have kp : ∀ y c, cl.lookup y = some c → ∀ v, X.s_0.heap.IsCell c v → s.heap.IsCell c v := fun y c e v ⟨o, ho, hd⟩ => by
    obtain ⟨sl, q⟩ := I.base.any ho (C.all y c e).1 (nx c)
    exact ⟨_, q, hd⟩
  refine ⟨C.len, fun y c e => ?_, C.inj, fun i y e => ?_⟩
  · obtain ⟨n, v, z⟩ := C.all y c e
    refine ⟨?_, v, kp y c e v z⟩
    obtain ⟨o, ho, _⟩ := z
    exact I.base.free c o ho n (nx c)
  · obtain ⟨c, hc, hv⟩ := C.has i y e
    refine ⟨c, hc, fun v ev => ?_⟩
    obtain ⟨u, r, z⟩ := hv v ev
    exact ⟨u, r, kp y c hc _ z⟩
/-! ### a call of the function that was handed in -/
def tCallP (i : Nat) (fm : Addr) (Fm : NF) (sp : Sp) (E : XK) (t : TA) : TE := fun σ H Q => σ[i]? = some (some (.ref fm)) ∧ H fm = some (FnO fm Fm) ∧ t σ H fun vs H1 => H1 fm = some (FnO fm Fm) ∧ H1 Fm.c = some (CodeO Fm.c Fm.qual) ∧ sp vs H1 Q E
theorem pe_callP {X : Cx} {CX : CXT} {fm : Addr} {Fm : NF} {ps fr : List Str} {ws : List (Option V)} {i j k : Nat} {x : Str} {sp : List (Option V) → Sp} {E : XK} {t : TA} {e : Expr} {es : List Expr} {p pos : Pos} (Fn : NOk X.prog X.w X.K X.mg X.base CX k fm Fm ps fr sp) (C : CellsAt Fm.cl fr ws X.s_0.heap X.H_0) (hex : X.ex = []) (hr : Room j X.A) (hk : k ≤ j) (hx : Passes CX X E) (hN : X.N[i]? = some x) (hv : Vis X.env.scope x) (ha : PA X (e :: es) t)
    (hd : (x == ("__debug__" : Str)) = false := by decide) (hcd : (x == ("__classdict__" : Str)) = false := by decide)
    (he : starEach (e :: es) X.env = (false, eval e X.env) :: starEach es X.env := by rfl) (hpl : (backTo pos (starEach es X.env)).any (·.1) = false := by rfl) :
    PE X (.Call (.Name x p) (e :: es) [] pos) (tCallP i fm Fm (sp ws) E t) := by
  refine ⟨fun pins s σ H Q I h => ?_⟩
  obtain ⟨hs, hf, ht⟩ := h
  refine wpAny_Call_Name_kw (thn ((pe_var (pos := p) hN hv hd hcd).run pins s σ H (fun v H1 => v = .ref fm ∧ H1 = H) I ⟨.ref fm, hs, rfl, rfl⟩) fun u s1 ⟨v, H1, I1, r1, q1⟩ => ?_)
  obtain ⟨ev, eH⟩ := q1
  subst ev
  rw [eH] at I1
  obtain rfl : u = Value.ref fm := r1
  refine PySem.W.callWith_F (first := []) (fnAt_of I1 hf) (thn (ha.run pos pins s1 σ H _ I1 ht) fun us s2 ⟨vs, H2, I2, r, h1, h2, q⟩ => ⟨fnAt_of I2 h1, ?_⟩) he hpl
  show wpAny _ _ (call (.ref fm) us) _ _ _
  refine wpAny_call (codeAny_mono (Fn.run X.A X.stack s2 H2 us vs ws Q E (hr.mono hk) I2.env0 h1 h2 (CellsAt.on C hex I2) r q) fun r s' hq => ?_)
  cases r with
  | error e => exact hx pins σ H2 s2 e s' I2 hq
  | ok fl =>
    cases fl with
    | ret u => exact I2.after hq
    | next => exact False.elim hq
    | brk => exact False.elim hq
    | cont => exact False.elim hq
def rCallP (i : Nat) (fm : Addr) (Fm : NF) (vw : List V) (g : FG) (ra : RA) : RE := fun env R => ∃ cs, env[i]? = some (.kn (.fn fm Fm vw cs)) ∧ ra env fun as => ∃ ds, toDs as = some ds ∧ g cs ds fun d => R (.val d)
instance {K : KK} {i : Nat} {fm : Addr} {Fm : NF} {vw : List V} {g : FG} {E : XK} {ta : TA} {ra : RA} [m : GMono g] [sa : SimA K ta ra] : SimE K (tCallP i fm Fm (spN K g (vw.map some)) E ta) (rCallP i fm Fm vw g ra) where
  run := fun {F B0 B H0 H σ env Q R} st ⟨cs, hi, h⟩ q => by
    obtain ⟨v, h1, rfl, h2, h3, h4⟩ := st.kno i _ hi
    refine ⟨h1, st.inn _ _ h2, sa.run st h fun vs as G0 G ⟨ds, e, ha⟩ xa da ap => ?_⟩
    obtain ⟨I0, xI, s1, p⟩ := da.keep xa e
    have kn := xI.kn
    refine ⟨xI.inn _ _ (kn _ _ h2), xI.inn _ _ (kn _ _ h3), I0, vw, cs, ds, rfl, xI.inn, (st.go xI).tab, dpAll_mono kn _ _ h4, p, ?_⟩
    exact m.mono (fun d hd v I0' I' x dv => q v (.val d) I0' I' hd (xI.trans x) dv) ha
end PV

/-! PvCloE: a def of the text that is handed a function (its last parameter). -/
namespace PV
open PySem PySem.Spec PyProof.Rows L2 NdefX LamX -- pv
abbrev HG := (List Dat → (Dat → Prop) → Prop) → List Dat → (Dat → Prop) → Prop
class HMono (h : HG) : Prop where
  mono : ∀ {mv : List Dat → (Dat → Prop) → Prop} {ds : List Dat} {R R' : Dat → Prop}, (∀ d, R d → R' d) → h mv ds R → h mv ds R'
structure FnOkC (K : KK) (mg : Str → Option Value) (base : Heap) (j : Nat) (psm frm : List Str) (g : FG) (k : Nat) (a : Addr) (fd : FuncData) (ps : List Str) (h : HG) : Prop where
  len : ∀ mv ds R, h mv ds R → ds.length + 1 = ps.length
  run : ∀ (A : Around) (outer : List PySem.Env) (s : Shared) (H : Hp) (args : Args) (us : List Value) (vs0 : List V) (fm : Addr) (Fm : NF) (vw : List V) (cs ds : List Dat) (H0 : Hp) (Q : VK) (E : XK), Room k A → Env0 K.P K.w K.fr mg base A outer s H → BindsTo s fd args (ps.zip us) → Vals (vs0 ++ [.ref fm]) us →
    NOk K.P K.w K.fr mg base CX0 j fm Fm psm frm (spN K g) → CellsAt Fm.cl frm (vw.map some) s.heap H → Sub H0 H → (∀ P ∈ K.tabs, TabK K H0 H P) → DpAll K H0 vw cs → DpAll K H0 vs0 ds → H0 fm = some (FnO fm Fm) → H0 Fm.c = some (CodeO Fm.c Fm.qual) →
    h (g cs) ds (fun d => ∀ v H0' H', Ext K H0 H H0' H' → Dp K H0' v d → Q v H') → codeAny (model K.P K.w) A (.call (.ref a) args) (CR CX0 outer K.P K.w H s Q E) s
theorem start_snoc {N : List Str} {vs : List V} {v : V} (h : vs.length < N.length) : L2.start N (vs ++ [v]) = (L2.start N vs).set vs.length (some v) := by
  unfold L2.start
  obtain ⟨m, hm⟩ : ∃ m, N.length - vs.length = m + 1 := ⟨N.length - vs.length - 1, by omega⟩
  rw [List.length_append, List.length_singleton, hm, show N.length - (vs.length + 1) = m by omega, List.map_append, List.map_cons, List.map_nil, List.replicate_succ,
    List.set_append_right _ _ (by rw [List.length_map]; exact Nat.le_refl _), List.length_map, Nat.sub_self, List.set_cons_zero, List.append_assoc]
  rfl
theorem ok_defC {K : KK} {mg : Str → Option Value} {base : Heap} {x qual : Str} {st : Stmt} {a : Addr} {fd : FuncData} {N ps psm frm : List Str} {j k : Nat} {g : FG} {h : HG} (Fn : Fun K.fr x qual st a fd) (S : FnScope N ps (defScope st))
    (hl : ∀ mv ds R, h mv ds R → ds.length + 1 = ps.length)
    (hb : ∀ (cdv : Value) (A : Around) (outer : List PySem.Env) (s : Shared) (H : Hp) (E : XK) (fm : Addr) (Fm : NF) (vw : List V), Room k (A.deeper (envOfC qual (defScope st) s.heap.objs.size a cdv)) → NOk K.P K.w K.fr mg base CX0 j fm Fm psm frm (spN K g) → CellsAt Fm.cl frm (vw.map some) s.heap H →
      ∃ t r, PSs (cxOf CX0 K.P K.w K.fr mg base N qual (defScope st) a cdv A outer s H E).nox (defBody st) t ∧ SimS K t r ∧ ∀ cs ds R, h (g cs) ds R → r { nx := fun _ => R .none, rt := R } (ds.map Sl.val ++ .kn (.fn fm Fm vw cs) :: List.replicate (N.length - ps.length) .un)) :
    FnOkC K mg base j psm frm g (k + 1) a fd ps h := by
  obtain ⟨oc, od, kV, doc, pm, an, cdv, ct, osl, rfl, lk, hcd⟩ := Fn.ex
  refine ⟨hl, fun A outer s H args us vs0 fm Fm vw cs ds H0 Q E hr e0 hbd r hn C s0 tb dc dp f1 c1 hsp => ?_⟩
  have hl1 := hl _ _ _ hsp
  have hl0 : (vs0 ++ [V.ref fm]).length = ps.length := by rw [List.length_append, List.length_singleton, dp.pvLen]; exact hl1
  have KX : K.fr.In s.heap := e0.mod.kin.keeps fun b o e => (e0.bs b o e).1
  have lim : s.heap.NoLimit := e0.mod.nolimit.keeps fun b o e => (e0.bs b o e).1
  have hkind : ∀ y ∈ ps.zip us, (defScope st).names.lookup y.1 = some .local ∨ ((defScope st).names.lookup y.1 = some .cell ∧ ((cellsFrom (s.heap.objs.size + 1) (defScope st).names []).lookup y.1).isSome = true) := fun ⟨n, v⟩ hy => by
    rcases S.par n (List.of_mem_zip hy).1 with q | q
    · exact .inl q
    · exact .inr ⟨q, PySem.W.cellsFrom_some _ _ _ (.inl q)⟩
  refine codeAny_call_function hr.depth (KX _ _ lk) rfl S.co S.gen rfl (PySem.W.codeRec_of KX hcd) (hbd _ _ _ _ ?_)
  refine wpAny_newFunctionEnv_cells S.kind hkind fun env he s1 x => ?_
  subst he
  refine ⟨lim.keeps x.toInCall.keep, codeAny_func ?_⟩
  obtain ⟨t, rr, ht, hs, hd⟩ := hb cdv A outer s H E fm Fm vw (hr.deeper _) hn C
  have hpl : ps.length ≤ N.length := by
    have q := congrArg List.length S.pre
    rw [List.length_take] at q
    omega
  have I : L2.Inv (cxOf CX0 K.P K.w K.fr mg base N qual (defScope st) a cdv A outer s H E) [] (L2.start N (vs0 ++ [.ref fm])) H s1 := inv_start S hr.hd e0 hl0 r x
  have q : t { nx := fun _ H' => Q .non H', rt := Q } (L2.start N (vs0 ++ [.ref fm])) H := by
    rw [start_snoc (by rw [dp.pvLen]; omega)]
    have st0 := st_entry (K := K) (H0 := H0) (H := H) (vs := vs0) (ds := ds) (N := N) (ps := ps.take ds.length) s0 tb dp (by rw [List.length_take]; omega)
    have st1 := st0.setK vs0.length (v := .ref fm) (q := .fn fm Fm vw cs) ⟨rfl, f1, c1, dc⟩
    have ee : (ds.map Sl.val ++ List.replicate (N.length - (ps.take ds.length).length) Sl.un).set vs0.length (.kn (.fn fm Fm vw cs)) = ds.map Sl.val ++ .kn (.fn fm Fm vw cs) :: List.replicate (N.length - ps.length) .un := by
      have hvl := dp.pvLen
      obtain ⟨m, hm⟩ : ∃ m, N.length - (ps.take ds.length).length = m + 1 := ⟨N.length - (ps.take ds.length).length - 1, by rw [List.length_take]; omega⟩
      rw [hm, List.replicate_succ, List.set_append_right _ _ (by rw [List.length_map, hvl]; exact Nat.le_refl _), List.length_map, hvl, Nat.sub_self, List.set_cons_zero]
      rw [List.length_take] at hm
      rw [show m = N.length - ps.length by omega]
    rw [ee] at st1
    refine hs.run (F := H0) (B0 := H0) (B := H) (H0 := H0) st1 (hd cs ds _ hsp) ?_
    exact { nx := fun {env σ G0 G} h st => h .non G0 G st.ext Dp.non, bk := fun h _ => h.elim, ct := fun h _ => h.elim, rt := fun {d v G0 G} h x dv => h v G0 G x dv, rf := fun h => h.elim }
  refine wpAny_mono (ht.nox.run [] s1 _ H _ I q) (fun fl s' hs => ?_) fun e s' hs => hs
  have fin : ∀ {σ' : L2.St} {H' : Hp} {v : V} {u : Value}, L2.Inv (cxOf CX0 K.P K.w K.fr mg base N qual (defScope st) a cdv A outer s H E) [] σ' H' s' → L2.RelV v u → Q v H' → CE outer K.P K.w H s Q u s' :=
    fun {σ' H' v u} J rv q => ⟨v, H', J.os, J.bare, J.base, J.hok, rv, q⟩
  cases fl with
  | ret u =>
    obtain ⟨v, σ', H', J, rv, q⟩ := hs
    exact fin J rv q
  | next =>
    obtain ⟨σ', H', J, q⟩ := hs
    exact fin (v := V.non) (u := Value.none) J rfl q
  | brk =>
    obtain ⟨_, _, _, q⟩ := hs
    exact False.elim q
  | cont =>
    obtain ⟨_, _, _, q⟩ := hs
    exact False.elim q
/-! ### f(e, m): m a def made here -/
def tCallC (K : KK) (mk : Addr → NF) (i : Nat) (js : List Nat) (g : FG) (h : HG) (t0 : TE) : TE := fun σ H Q => tCons t0 (tCons (tVar i) tNil) σ H fun vs H1 => ∃ v0 f c' H0 vw cs d0, vs = [v0, .ref f] ∧ js.map (slotAt σ) = vw.map some ∧ Sub H0 H1 ∧ (∀ P ∈ K.tabs, TabK K H0 H1 P) ∧ DpAll K H0 vw cs ∧ Dp K H0 v0 d0 ∧
  H0 f = some (FnO f (mk c')) ∧ H0 (mk c').c = some (CodeO (mk c').c (mk c').qual) ∧ h (g cs) [d0] fun d => ∀ v H0' H', Ext K H0 H1 H0' H' → Dp K H0' v d → Q v H'
theorem pe_callC {X : Cx} {K : KK} {mk : Addr → NF} {cl : List (Str × Addr)} {psm frm : List Str} {g : FG} {h : HG} {i j k : Nat} {js : List Nat} {a : Addr} {fd : FuncData} {ps : List Str} {x y : Str} {e : Expr} {t0 : TE} {p py pos : Pos} (e1 : X.prog = K.P) (e2 : X.w = K.w) (e3 : X.K = K.fr)
    (F : FnOkC K X.mg X.base j psm frm g k a fd ps h) (Fn : ∀ f c', NOk K.P K.w K.fr X.mg X.base CX0 j f (mk c') psm frm (spN K g)) (hcl : ∀ c', (mk c').cl = cl) (cp : X.Ok → Caps X cl frm js)
    (hr : Room k X.A) (hg : Gl X x) (hm : X.mg x = some (.ref a)) (hk : PySem.W.keepIn X.K (.ref a) = true) (hb : Binds X.K fd ps []) (hx : Passes CX0 X E0) (ha : PA X [e, .Name y py] (tCons t0 (tCons (tVar i) tNil)))
    (hdb : (x == ("__debug__" : Str)) = false := by decide)
    (hst : starEach (e :: [.Name y py]) X.env = (false, eval e X.env) :: starEach [.Name y py] X.env := by rfl) (hpl : (backTo pos (starEach [.Name y py] X.env)).any (·.1) = false := by rfl) :
    PE X (.Call (.Name x p) [e, .Name y py] [] pos) (tCallC K mk i js g h t0) := by
  refine ⟨fun pins s σ H Q I hh => ?_⟩
  refine wpAny_Call_Name_kw (ld_glob I hg hm ?_ hdb)
  refine PySem.W.callWith_K (h₀ := X.base) I.ok.mod.kin hk (thn (ha.run pos pins s σ H _ I hh) fun us s1 ⟨vs, H1, I1, r, q⟩ => ⟨I1.kIn, ?_⟩) hst hpl
  · obtain ⟨v0, f, c', H0, vw, cs, d0, rfl, hw, s0, tb, dc, dp, f1, c1, hh⟩ := q
    have C : CellsAt cl frm (js.map (slotAt σ)) s1.heap H1 := cells_of I1 (cp I1.ok)
    rw [hw, ← hcl c'] at C
    have run := F.run X.A X.stack s1 H1 ⟨us, []⟩ us [v0] f (mk c') vw cs [d0] H0 Q E0 hr
    have fn := Fn f c'
    have hl : us.length = ps.length := by rw [← r.length]; exact F.len _ _ _ hh
    have bd := hb s1 us I1.kIn (by rw [List.append_nil]; exact hl)
    rw [List.append_nil] at bd
    rw [← e1, ← e2, ← e3] at run fn
    refine wpAny_call (codeAny_mono (run I1.env0 bd r fn C s0 tb dc (.cons dp .nil) f1 c1 hh) fun r s' hq => ?_)
    cases r with
    | error e => exact hx pins σ H1 s1 e s' I1 hq
    | ok fl =>
      cases fl with
      | ret u => exact I1.after hq
      | next => exact False.elim hq
      | brk => exact False.elim hq
      | cont => exact False.elim hq
theorem slots_dp {K : KK} {F B0 B H0 H : Hp} {σ : St} {env : En} (st : StOk K F B0 B H0 H σ env) : ∀ (js : List Nat) (cs : List Dat), js.map (fun j => env[j]?) = cs.map (fun c => some (Sl.val c)) → ∃ vw : List V, js.map (slotAt σ) = vw.map some ∧ DpAll K H0 vw cs
  | [], [], _ => ⟨[], rfl, .nil⟩
  | [], _ :: _, e => by simp at e
  | _ :: _, [], e => by simp at e
  | j :: js, c :: cs, e => by
    simp only [List.map_cons, List.cons.injEq] at e
    obtain ⟨v, h1, h2⟩ := st.val j c e.1
    obtain ⟨vw, h3, h4⟩ := slots_dp st js cs e.2
    exact ⟨v :: vw, by rw [List.map_cons, List.map_cons, h3, slotAt_of h1], .cons h2 h4⟩
def rCallC (i : Nat) (mk : Addr → NF) (js : List Nat) (g : FG) (h : HG) (r0 : RE) : RE := fun env R => r0 env fun a => ∃ d0 cs, a.toD = some d0 ∧ env[i]? = some (.kn (.clo mk)) ∧ js.map (fun j => env[j]?) = cs.map (fun c => some (Sl.val c)) ∧ h (g cs) [d0] fun d => R (.val d)
instance {K : KK} {mk : Addr → NF} {i : Nat} {js : List Nat} {g : FG} {h : HG} {t0 : TE} {r0 : RE} [m : HMono h] [sa : SimE K t0 r0] : SimE K (tCallC K mk i js g h t0) (rCallC i mk js g h r0) where
  run := fun {F B0 B H0 H σ env Q R} st hr q => by
    refine sa.run st hr fun v a G0 G ⟨d0, cs, e0, ei, ej, ha⟩ xa da => ?_
    obtain ⟨u, hu, f, c', rfl, f1, c1⟩ := st.kno i _ ei
    obtain ⟨vw, hw, dw⟩ := slots_dp st js cs ej
    obtain ⟨I0, xI, s1, p, _⟩ := da.keep xa e0
    exact ⟨.ref f, hu, v, f, c', I0, vw, cs, d0, rfl, hw, xI.inn, (st.go xI).tab, dpAll_mono xI.kn _ _ dw, p, xI.kn _ _ f1, xI.kn _ _ c1, m.mono (fun d hd v' I0' I' x dv => q v' (.val d) I0' I' hd (xI.trans x) dv) ha⟩
end PV

/-! PvCloF: defs whose code object has a table; the end of a law with tables. -/
namespace PV
open PySem PySem.Spec PyProof.Rows L2 NdefX LamX -- pv
def posOf : Stmt → Pos
  | .FunctionDef _ _ _ _ _ _ _ _ _ pos => pos
  | _ => ⟨0, 0, 0, 0⟩
theorem ok_defT {K : KK} {mg : Str → Option Value} {base : Heap} {x qual : Str} {st : Stmt} {f c : Addr} {fd : FuncData} {N ps : List Str} {k : Nat} {fs : List Dat → (Dat → Prop) → Prop} (Fn : Fun K.fr x qual st f fd) (hc : fd.code = .ref c) (S : FnScope N ps (defScope st))
    (hl : ∀ ds R, fs ds R → ds.length = ps.length)
    (hb : ∀ (A : Around) (outer : List PySem.Env) (s : Shared) (H : Hp) (E : XK), Room k (A.deeper (envOfC qual (defScope st) s.heap.objs.size f (.ref c))) →
      ∃ t r, PSs (cxOf CX0 K.P K.w K.fr mg base N qual (defScope st) f (.ref c) A outer s H E).nox (defBody st) t ∧ SimS K t r ∧ ∀ ds R, fs ds R → r { nx := fun _ => R .none, rt := R } (ds.map Sl.val ++ List.replicate (N.length - ps.length) .un)) :
    FnOk K.P K.w K.fr mg base CX0 (k + 1) f fd ps (spD K fs) := by
  obtain ⟨oc, od, kV, doc, pm, an, cdv, ct, osl, rfl, lk, hcd⟩ := Fn.ex
  obtain rfl : cdv = .ref c := hc
  refine fn_of lk hcd S (fun vs H Q E ⟨H0, ds, s0, tb, dp, h⟩ => dp.pvLen.trans (hl _ _ h)) (fun A outer s H vs Q E hr ⟨H0, ds, s0, tb, dp, h⟩ => ?_)
  obtain ⟨t, r, hp, hs, hd⟩ := hb A outer s H E hr
  refine ⟨t, hp.nox, hs.run (F := H0) (B0 := H0) (B := H) (H0 := H0) (σ := L2.start N vs) (st_entry s0 tb dp (hl _ _ h)) (hd ds _ h) ?_⟩
  exact { nx := fun {env σ G0 G} h st => h .non G0 G st.ext Dp.non, bk := fun h _ => h.elim, ct := fun h _ => h.elim, rt := fun {d v G0 G} h x dv => h v G0 G x dv, rf := fun h => h.elim }
/-- the law's promise at its start: the tables are empty, and not known -/
theorem start_tab {K : KK} {H : Hp} {a : Addr} {ns : List Int} {f : List Dat → (Dat → Prop) → Prop} (hT : ∀ P ∈ K.tabs, H P = some (.tbl #[])) (hS : L2.SqL K.fr H a (ns.map V.int)) (hdp : ∀ H0 : Hp, DpAll K H0 (ns.map V.int) (ns.map PyData.int)) (h : f [.list (ns.map PyData.int)] fun d => d = .bool true) [m : FMono f] :
    spD K f [.ref a] H (fun v _ => v = .bl true) fun _ _ _ => False := by
  let H0 : Hp := fun b => if b ∈ K.tabs then Option.none else H b
  have h0 : ∀ {b o}, H b = some o → (∀ ps, o ≠ .tbl ps) → H0 b = some o := fun {b o} e n => by
    show (if b ∈ K.tabs then Option.none else H b) = _
    rw [if_neg fun z => n #[] (by rw [hT b z] at e; exact (Option.some.inj e).symm)]
    exact e
  refine ⟨H0, [.list (ns.map PyData.int)], fun b o e => ?_, fun P hP => ⟨if_pos hP, #[], hT P hP, True.intro, fun pos cv hc => ?_⟩, .cons (.lst ?_ (hdp H0)) .nil, m.mono (fun d e v H0' H' x dv => by subst e; cases dv; rfl) h⟩
  · have e : (if b ∈ K.tabs then Option.none else H b) = some o := e
    split at e
    · cases e
    · exact e
  · have z : codeAmong pos [] = some cv := hc
    simp [codeAmong] at z
  · rcases hS with (h | ⟨o, h⟩) | h
    · exact .inl (.inl (h0 h fun _ z => nomatch z))
    · exact .inl (.inr ⟨o, h0 h fun _ z => nomatch z⟩)
    · exact .inr h
theorem walk_ofC {l : PySem.W.OpenLaw} {n k : Nat} {q : Program} {loose : List Str} {XP : (Str → Option Value) → Heap → Prop} {YP : World → Heap → Prop} {d : DefRec} {K : Params → PySem.W.Frag} {CX : World → CXT} {x : Str}
    (hn : l.most = some n) (hn2 : n ≤ sizeLine) (hdf : d.params.defaults = []) (hr : Room k callerA) (hY : ∀ (w : World) (h : Heap), YP w h → (K w.params).In h)
    (F : ∀ (w : World) (mg mb : Str → Option Value) (mean : ExcName → Option Value) (fa : Addr) (h : Heap), PyProof.Rows.Top q (PySem.W.looseW q loose) mean mg mb h → YP w h → (K w.params).In h → h.Ns mainGlobals mg → mg d.name = some (.ref fa) → LawAtS l w (K w.params) (CX w) k n x mg fa h)
    (hCX : ∀ (w : World) (H : Hp) (s : Shared) (e : Value) (s' : Shared), CX w [] H s (fun _ _ _ => False) e s' → False) :
    PySem.W.WalkO q loose XP YP l.row.toRowW d [] (fun f vs => PySem.call f vs) := by
  refine Att.attach_callB hn hdf fun w s₀ s₁ mg mb fa o pm cd doc a vs ns G Y ho hd hcd hmg hobj hints hlen hbits hg => ?_
  have KX := hY w _ Y
  obtain ⟨fd, cs, sp, hT, nT, C, hb, hsp, hF⟩ := F w mg mb _ fa _ G.T Y KX G.T.g hmg
  exact law_callTs KX G.T.g G.T.b G.T.builtins G.T.nolimit hg hT nT C G.T.bmain hobj hints (Nat.le_trans hlen hn2) hr hF hb (fun H hH hS => hsp H a ns hlen hbits hH hS) fun H e s' => hCX w H s₁ e s'
theorem nox_G {CX : CXT} {P : Program} {w : World} {K : PySem.W.Frag} {mg : Str → Option Value} {base : Heap} {N : List Str} {F : NF} {f : Addr} {A : Around} {outer : List PySem.Env} {s : Shared} {H : Hp} {E : XK} :
    (ncxG CX P w K mg base N F f A outer s H E).nox.K = K := rfl
/-! ### a, b = a list -/
theorem pg_lstK {X : Cx} {K : KK} {pos : Pos} {es : List Expr} {k : Nat} {t : TGs} {n : Nat} (hK : X.K = K.fr) (hc : X.calm = true) (h : PGs X es t)
    (hn : (assignEach es X.env).length = n := by rfl) (hst : (assignEach es X.env).findIdx? (·.1) = none := by rfl) : PG X (.Tuple es k pos) (gLst K.fr n t) := hK ▸ pg_lst hc h hn hst
def rgLst (n : Nat) (b : RGs) : RG := fun d env R => ∃ ds, d = .list ds ∧ ds.length = n ∧ b ds env R
instance {K : KK} {n : Nat} {gs : TGs} {b : RGs} {ws : List Nat} [sb : SimGs K gs b ws] : SimG K (gLst K.fr n gs) (rgLst n b) ws where
  run := fun st hd h q => by
    obtain ⟨ds, rfl, hl, h⟩ := h
    cases hd with
    | lst h1 h2 => exact ⟨_, _, rfl, st.inn.sqL h1, h2.pvLen.trans hl, sb.run st h2 h q⟩
end PV

/-! PvPop: xs.pop(), xs.append(e + ys.pop()), while xs. -/
namespace PV
open PySem PySem.Spec PyProof.Rows L2 NdefX LamX -- pv
/-- the last of a list, and the rest -/
theorem pop_dp {K : KK} {H : Hp} {vs : List V} {ds : List Dat} {d : Dat} (h : DpAll K H vs (ds ++ [d])) : ∃ y, vs[vs.length - 1]? = some y ∧ Dp K H y d ∧ DpAll K H vs.dropLast ds := by
  have hl := h.pvLen
  rw [List.length_append, List.length_singleton] at hl
  obtain ⟨y, h1, h2⟩ := h.pvGet (i := ds.length) (d := d) (by simp)
  refine ⟨y, by rw [hl, Nat.add_sub_cancel]; exact h1, h2, ?_⟩
  have := h.pvTake ds.length
  rw [List.take_left] at this
  rw [List.dropLast_eq_take, hl, Nat.add_sub_cancel]
  exact this
def rPopS (j : Nat) : RS := fun E env => ∃ ds d, env[j]? = some (Sl.own (ds ++ [d])) ∧ E.nx (env.set j (.own ds))
instance {K : KK} {j : Nat} : SimS K (tDrop (tBM0 K.fr "list" rPop (tVar j))) (rPopS j) where
  run := by
    intro F B0 B H0 H σ env D E st ⟨ds, d, e, h⟩ m
    obtain ⟨o, vs, h1, h2, h3, h4, h5⟩ := st.ownL j _ e
    obtain ⟨y, p1, p2, p3⟩ := pop_dp h5
    exact ⟨.ref o, h1, .inl ⟨rfl, vs, .inl (.inl h4)⟩, o, vs, y, rfl, rfl, h4, p1, m.nx h (st.writeW e h1 ⟨_, rfl, p3⟩)⟩
def rAppPop (i j : Nat) (ra : RE) : RS := fun E env => ∃ ts, env[i]? = some (Sl.own ts) ∧ i ≠ j ∧ ra env fun a => ∃ n gs m, a.rd = .int n ∧ env[j]? = some (Sl.own (gs ++ [.int m])) ∧ ts.length < sizeLine ∧ E.nx ((env.set j (.own gs)).set i (.own (ts ++ [.int (n + m)])))
instance {K : KK} {i j : Nat} {ta : TE} {ra : RE} [sa : SimE K ta ra] : SimS K (tDrop (tBM K.fr "list" rAppend (tVar i) (tCons (tOp (rAddA K) ta (tBM0 K.fr "list" rPop (tVar j))) tNil))) (rAppPop i j ra) where
  run := by
    intro F B0 B H0 H σ env D E st ⟨ts, e, ne, h⟩ mm
    obtain ⟨o, vs, h1, h2, h3, h4, h5⟩ := st.ownL i ts e
    refine ⟨.ref o, h1, .inl ⟨rfl, vs, .inl (.inl h4)⟩, ?_⟩
    refine sa.run st h fun x a G0 G ⟨n, gs, m, ea, ej, hz, hn⟩ xa da => ?_
    have st' := st.go xa
    have ex := da.asInt st' ea
    subst ex
    obtain ⟨oj, vj, j1, j2, j3, j4, j5⟩ := st'.ownL j _ ej
    obtain ⟨y, p1, p2, p3⟩ := pop_dp j5
    cases p2
    have st2 := st'.writeW (w' := .lst gs) ej j1 ⟨_, rfl, p3⟩
    have ei : (env.set j (Sl.own gs))[i]? = some (Sl.own ts) := by rw [List.getElem?_set_ne (Ne.symm ne)]; exact e
    obtain ⟨oi, vi, i1, i2, i3, i4, i5⟩ := st2.ownL i ts ei
    rw [h1] at i1
    cases i1
    refine ⟨.ref oj, j1, .inl ⟨rfl, vj, .inl (.inl j4)⟩, oj, vj, .int m, rfl, rfl, j4, p1, .inl ⟨n, m, rfl, rfl, ?_⟩⟩
    refine ⟨o, vi, .int (n + m), rfl, rfl, i4, by rw [i5.pvLen]; exact hz, ?_⟩
    exact mm.nx hn (st2.writeW ei h1 ⟨_, rfl, i5.pvApp (.cons (Dp.int _) .nil)⟩)
/-! ### the truth of a list -/
def tTruK (K : KK) (te : TE) : TT := fun σ H Q => te σ H fun x H' => ∃ k, TruV K.fr x H' k ∧ Q k H'
theorem pt_truK {X : Cx} {K : KK} {a : Expr} {ta : TE} (hK : X.K = K.fr) (ha : PE X a ta) (he : ∀ whole, isTrue a X.env whole = (do let v ← whole; standAt a.pos; holding [v] (truthy v)) := by intro _; rfl) : PT X a (tTruK K ta) := by
  have := pt_truth ha he
  rw [hK] at this
  exact this
def rTruL (ra : RE) : RT := fun env R => ra env fun a => ∃ ds, a.rd = .list ds ∧ R (!ds.isEmpty)
instance {K : KK} {ta : TE} {ra : RE} [sa : SimE K ta ra] : SimT K (tTruK K ta) (rTruL ra) where
  run := fun st h q => sa.run st h fun x a G0 G ⟨ds, ea, hR⟩ xa da => by
    obtain ⟨p, vs, rfl, hp, dp⟩ := da.asList (st.go xa) ea
    have e : vs.isEmpty = ds.isEmpty := by
      have := dp.pvLen
      cases vs <;> cases ds <;> simp_all
    exact ⟨_, .inl ⟨vs, hp, rfl⟩, by rw [e]; exact q _ _ _ hR xa⟩
end PV

/-! PvGlob: tuples at the top of the module. -/
namespace PV
open PySem PySem.Spec PyProof.Rows L2 NdefX LamX -- pv
class GlobD (K : KK) (a : Addr) (d : outParam Dat) : Prop where
  dp : ∀ H, Dp K H (.ref a) d
instance {K : KK} {a : Addr} {d : Dat} [g : GlobD K a d] : SimE K (tC (.ref a)) (rC d) := ⟨fun {F B0 B H0 H σ env Q R} st h q => q.at st h (g.dp H0)⟩
theorem globT {K : KK} {H : Hp} {a : Addr} {od : Option Addr} {its : Array Value} {n : Nat} {sl : Array (Option Value)} {xs : List V} {ds : List Dat} (l : K.fr.lookup a = some ⟨.type "tuple", od, .seq its n, sl⟩) (hz : its.size ≤ sizeLine) (hv : L2.Vals xs its.toList) (hd : DpAll K H xs ds) : Dp K H (.ref a) (.tuple ds) :=
  .tup (.inr ⟨_, its, n, l, rfl, rfl, hz, hv⟩) hd
end PV

/-! PvSums: max, min, sum of a list of numbers; sorted. -/
namespace PV
open PySem PySem.Spec PyProof.Rows L2 NdefX LamX -- pv
theorem ints_of {K : KK} {H : Hp} : ∀ {ns : List Int} {vs : List V}, DpAll K H vs (dInts ns) → vs = ns.map V.int
  | [], _, h => by cases h; rfl
  | n :: ns, _, h => by
    cases h with
    | cons h1 h2 =>
      cases h1
      rw [ints_of h2]
      rfl
theorem dp_ints {K : KK} {H : Hp} : ∀ ns : List Int, DpAll K H (ns.map V.int) (dInts ns)
  | [] => .nil
  | i :: ns => .cons (.int i) (dp_ints ns)
theorem call_maxLK {X : Cx} {K : KK} (h : X.K = K.fr) (hc : X.calm = true) : CallR X (.builtin "max") (rMax K.fr) := h ▸ cr_max hc
theorem call_minLK {X : Cx} {K : KK} (h : X.K = K.fr) (hc : X.calm = true) : CallR X (.builtin "min") (rMin K.fr) := h ▸ cr_min hc
theorem call_sumLK {X : Cx} {K : KK} (h : X.K = K.fr) (hc : X.calm = true) : CallR X (.builtin "sum") (rSum K.fr) := h ▸ cr_sum hc
theorem call_sortLK {X : Cx} {K : KK} (h : X.K = K.fr) : CallR X (.builtin "sorted") (rSorted K.fr) := h ▸ cr_sorted
def pMaxL (as : List Rs) (R : Rs → Prop) : Prop := ∃ a ns, as = [a] ∧ a.rd = .list (dInts ns) ∧ 0 < ns.length ∧ ∀ m, m ∈ ns → (∀ y, y ∈ ns → y ≤ m) → R (.val (.int m))
def pMinL (as : List Rs) (R : Rs → Prop) : Prop := ∃ a ns, as = [a] ∧ a.rd = .list (dInts ns) ∧ 0 < ns.length ∧ ∀ m, m ∈ ns → (∀ y, y ∈ ns → m ≤ y) → R (.val (.int m))
def pSumL (as : List Rs) (R : Rs → Prop) : Prop := ∃ a ns, as = [a] ∧ a.rd = .list (dInts ns) ∧ R (.val (.int ns.sum))
def pSortL (as : List Rs) (R : Rs → Prop) : Prop := ∃ a ns, as = [a] ∧ a.rd = .list (dInts ns) ∧ ns.length < 64 ∧ ∀ ns' : List Int, ns'.Perm ns → ns'.Pairwise (· ≤ ·) → R (.fresh (dInts ns'))
instance {K : KK} : ImL K (rMax K.fr) pMaxL where
  run := by
    intro F B0 B Hs H0 H σ env xs as Q R st da ⟨a, ns, e, ea, hl, h⟩ q
    subst e
    obtain ⟨v, rfl, dv⟩ := da.one
    obtain ⟨p, vs, rfl, hp, dp⟩ := dv.asList st ea
    rw [ints_of dp] at hp
    exact ⟨p, ns, rfl, hp, hl, fun m hm hy => q.at st (h m hm hy) (Dp.int _)⟩
instance {K : KK} : ImL K (rMin K.fr) pMinL where
  run := by
    intro F B0 B Hs H0 H σ env xs as Q R st da ⟨a, ns, e, ea, hl, h⟩ q
    subst e
    obtain ⟨v, rfl, dv⟩ := da.one
    obtain ⟨p, vs, rfl, hp, dp⟩ := dv.asList st ea
    rw [ints_of dp] at hp
    exact ⟨p, ns, rfl, hp, hl, fun m hm hy => q.at st (h m hm hy) (Dp.int _)⟩
instance {K : KK} : ImL K (rSum K.fr) pSumL where
  run := by
    intro F B0 B Hs H0 H σ env xs as Q R st da ⟨a, ns, e, ea, h⟩ q
    subst e
    obtain ⟨v, rfl, dv⟩ := da.one
    obtain ⟨p, vs, rfl, hp, dp⟩ := dv.asList st ea
    rw [ints_of dp] at hp
    exact ⟨p, ns, rfl, hp, q.at st h (Dp.int _)⟩
instance {K : KK} : ImL K (rSorted K.fr) pSortL where
  run := by
    intro F B0 B Hs H0 H σ env xs as Q R st da ⟨a, ns, e, ea, hl, h⟩ q
    subst e
    obtain ⟨v, rfl, dv⟩ := da.one
    obtain ⟨p, vs, rfl, hp, dp⟩ := dv.asList st ea
    rw [ints_of dp] at hp
    exact ⟨p, ns, rfl, hp, hl, fun ns' o hperm hpw ho => q _ _ _ _ (h ns' hperm hpw) (Ext.hid st.inn ho) ⟨o, _, rfl, ho, st.inn.none ho, upd_same, _, rfl, dp_ints ns'⟩⟩
end PV

/-! PvInT: data of any depth in a tuple or a list. -/
namespace PV
open PySem PySem.Spec PyProof.Rows L2 NdefX LamX -- pv
def rInX (K : KK) (neg : Bool) : R2 := fun x y H Q => ∃ d c ds, L2.Dp K.fr H x d ∧ L2.Dp K.fr H y c ∧ itemsD c = some ds ∧ SeqAt.shaped d = true ∧ SeqAt.shaped c = true ∧ Q (.bl (if neg = true then !(ds.any fun z => PyData.eqv z d) else ds.any fun z => PyData.eqv z d)) H
theorem op_inX {X : Cx} {K : KK} (h : X.K = K.fr) (hu : X.A.units + 65 < cLine) : OpR X (compareOp .In) (rInX K false) := by
  intro pins s σ H x y v u Q I rx ry ⟨d, c, ds, hd, he, ec, sd, se, q⟩
  rw [← h] at hd he
  obtain ⟨as, r1⟩ := L2.Dp.reads I d x v hd rx
  obtain ⟨bs, r2⟩ := L2.Dp.reads I c y u he ry
  cases c with
  | list zs => cases ec; exact SeqAt.in_list_reads r2 r1 (SeqAt.canLay_of_shaped se) (SeqAt.canLay_of_shaped sd) (room_in_shaped sd hu) ⟨.bl _, H, I, rfl, q⟩
  | tuple zs => cases ec; exact SeqAt.in_tuple_reads r2 r1 (SeqAt.canLay_of_shaped se) (SeqAt.canLay_of_shaped sd) (room_in_shaped sd hu) ⟨.bl _, H, I, rfl, q⟩
  | _ => cases ec
theorem op_notInX {X : Cx} {K : KK} (h : X.K = K.fr) (hu : X.A.units + 65 < cLine) : OpR X (compareOp .NotIn) (rInX K true) := by
  intro pins s σ H x y v u Q I rx ry ⟨d, c, ds, hd, he, ec, sd, se, q⟩
  rw [← h] at hd he
  obtain ⟨as, r1⟩ := L2.Dp.reads I d x v hd rx
  obtain ⟨bs, r2⟩ := L2.Dp.reads I c y u he ry
  cases c with
  | list zs => cases ec; exact SeqAt.notIn_list_reads r2 r1 (SeqAt.canLay_of_shaped se) (SeqAt.canLay_of_shaped sd) (room_in_shaped sd hu) ⟨.bl _, H, I, rfl, q⟩
  | tuple zs => cases ec; exact SeqAt.notIn_tuple_reads r2 r1 (SeqAt.canLay_of_shaped se) (SeqAt.canLay_of_shaped sd) (room_in_shaped sd hu) ⟨.bl _, H, I, rfl, q⟩
  | _ => cases ec
def pInX (f : Bool → Bool) : R2p := fun a b R => ∃ ds, itemsD b.rd = some ds ∧ SeqAt.shaped a.rd = true ∧ SeqAt.shaped b.rd = true ∧ R (.val (.bool (f (ds.any fun z => PyData.eqv z a.rd))))
theorem pInX_run {K : KK} (neg : Bool) {F B0 B Hs H0 H : Hp} {σ : St} {env : En} {x y : V} {a b : Rs} {Q : VK} {R : Rs → Prop} (st : StOk K F B0 B H0 H σ env) (da : Den K Hs H0 H σ env x a) (db : Den K Hs H0 H σ env y b)
    (h : pInX (fun c => if neg then !c else c) a b R) (q : Aft K H0 H σ env R Q) : rInX K neg x y H Q := by
  obtain ⟨ds, eb, s1, s2, h⟩ := h
  obtain ⟨G, g1, g2, g3⟩ := da.read st
  obtain ⟨G', g1', g2', g3'⟩ := db.read st
  exact ⟨_, _, ds, dp_low _ _ (lay_shaped s1) (dp_mono g2 _ _ g3), dp_low _ _ (lay_shaped s2) (dp_mono g2' _ _ g3'), eb, s1, s2, q.at st h (Dp.bl _)⟩
instance {K : KK} : Im2 K (rInX K false) (pInX id) := ⟨fun st da db h q => pInX_run false st da db h q⟩
instance {K : KK} : Im2 K (rInX K true) (pInX not) := ⟨fun st da db h q => pInX_run true st da db h q⟩
/-- is True, is not True -/
def pIsB (f : Bool → Bool) : R2p := fun a b R => ∃ x y : Bool, a.rd = .bool x ∧ b.rd = .bool y ∧ R (.val (.bool (f (decide (x = y)))))
instance {K : KK} : Im2 K rIsB (pIsB id) where
  run := by
    intro F B0 B Hs H0 H σ env x y a b Q R st da db ⟨i, j, ea, eb, h⟩ q
    have e1 := da.asBool st ea
    have e2 := db.asBool st eb
    exact ⟨i, j, e1, e2, q.at st h (Dp.bl _)⟩
instance {K : KK} : Im2 K rNotB (pIsB not) where
  run := by
    intro F B0 B Hs H0 H σ env x y a b Q R st da db ⟨i, j, ea, eb, h⟩ q
    have e1 := da.asBool st ea
    have e2 := db.asBool st eb
    exact ⟨i, j, e1, e2, q.at st h (Dp.bl _)⟩
end PV

/-! PvRev: a tuple backwards: xs[::-1]. -/
namespace PVR
open PySem PySem.Spec PyProof.Rows HT L2 -- pv
section
variable {prog : Program} {w : World} {A : Around} {E : Value → Shared → Prop} {s : Shared}
theorem adjust_rev (n : Nat) : Builtin.Slice.sliceAdjust none none (-1) (n : Int) = ((n : Int) - 1, (-1 : Int)) := by
  unfold Builtin.Slice.sliceAdjust
  simp
theorem places_rev (n : Nat) : Builtin.Slice.slicePlaces ((n : Int) - 1) (-1) (-1) = n := by
  unfold Builtin.Slice.slicePlaces
  rw [if_neg (by decide)]
  by_cases h : n = 0
  · subst h; simp
  · rw [if_pos (by omega), show (- -1 : Int) = 1 by decide, Int.ediv_one]
    omega
theorem sliceApplied_rev {sl : Addr} {vs : Value} {n : Nat} {Q : Int × Int × Nat → Shared → Prop} (hs : s.heap.IsSliceOf sl .none .none vs) (ps : IsPart vs (some (-1)))
    (h : Q ((n : Int) - 1, -1, n) s) : wpAny (model prog w) A (Builtin.Slice.sliceApplied (.ref sl) (pure (n : Int))) Q E s := by
  obtain ⟨os, hos, hcs, hds⟩ := id hs
  unfold Builtin.Slice.sliceApplied Builtin.Slice.sliceFields
  refine wpAny_bind (wpAny_bind (wpAny_field hos hds (x := .none) rfl (wpAny_bind (wpAny_field hos hds (x := .none) rfl (wpAny_bind (wpAny_field hos hds (x := vs) rfl (wpAny_pure ?_)))))))
  refine wpAny_bind (slicePart_ ps ?_)
  show wpAny _ _ (if ((-1 : Int) == 0) = true then _ else _) _ _ s
  rw [if_neg (by decide)]
  refine wpAny_bind (slicePart_none (wpAny_bind (slicePart_none (wpAny_bind (wpAny_pure ?_)))))
  show wpAny _ _ (match Builtin.Slice.sliceAdjust none none (-1) (n : Int) with | (lo, hi) => pure (lo, (-1 : Int), Builtin.Slice.slicePlaces lo hi (-1))) _ _ s
  rw [adjust_rev n]
  show wpAny _ _ (pure ((n : Int) - 1, (-1 : Int), Builtin.Slice.slicePlaces ((n : Int) - 1) (-1) (-1))) _ _ s
  rw [places_rev]
  exact wpAny_pure h
theorem fmc {α β : Type} {f g : α → Option β} : ∀ {l : List α}, (∀ x ∈ l, f x = g x) → l.filterMap f = l.filterMap g
  | [], _ => rfl
  | x :: l, h => by
    rw [List.filterMap_cons, List.filterMap_cons, h x List.mem_cons_self, fmc fun y hy => h y (List.mem_cons_of_mem _ hy)]
theorem pick_rev (xs : Array Value) : ((List.range xs.size).filterMap fun (m : Nat) => xs[((xs.size : Int) - 1 + (m : Int) * (-1)).toNat]?).toArray = xs.toList.reverse.toArray := by
  rw [← PySem.W.krv_pick]
  unfold slicePick
  rw [PySem.W.krv_bounds]
  show _ = ((sliceRange ((xs.size : Int) - 1) (-1) (-1)).filterMap (xs[·]?)).toArray
  rw [PySem.W.krv_sliceRange, List.filterMap_map]
  congr 1
  refine fmc fun m hm => ?_
  have := List.mem_range.mp hm
  show _ = xs[xs.size - 1 - m]?
  rw [show ((xs.size : Int) - 1 + (m : Int) * (-1)).toNat = xs.size - 1 - m by omega]
theorem getItem_tuple_rev {t sl : Addr} {items : Array Value} {vs : Value} {Q : Value → Shared → Prop} (ht : IsTup s.heap t items) (hs : s.heap.IsSliceOf sl .none .none vs) (ps : IsPart vs (some (-1)))
    (h : Q (.ref s.heap.objs.size) { s with heap := s.heap.push { cls := .type "tuple", data := .seq items.toList.reverse.toArray } })
    (hsz : items.size ≤ sizeLine) : wpAny (model prog w) A (getItem (.ref t) (.ref sl)) Q E s := by
  have htake : sizeOk (.seq items.toList.reverse.toArray) := by
    show items.toList.reverse.toArray.size ≤ sizeLine
    rw [List.size_toArray, List.length_reverse, Array.length_toList]
    omega
  obtain ⟨os, hos, hcs, hds⟩ := id hs
  have hTs : s.TypeIs (.ref sl) "slice" := ⟨os, hos, hcs⟩
  unfold getItem
  try with_reducible refine wpAny_holding ?_
  first | refine wpAny_bind (wpAny_pure ?_) | skip
  refine wpAny_bind (wpAny_sequenceKey ht.typeIs (by decide) ?_)
  refine wpAny_bind (wpAny_callSpecial?_slot (name := Str.ofString "__getitem__") ht.typeIs PyProof.Rows.slot_tuple_getitem
    (wpAny_call_entry PyProof.Rows.slot_tuple_getitem ht.typeIs entry_tuple_getitem ?_ (args_tuple_getitem _ _)))
  show wpAny _ _ (Builtin.Tuple.tupleItemsOf (.ref t) >>= _) _ _ s
  refine wpAny_bind (tupleItemsOf_ ht ?_)
  refine wpAny_bind (wpAny_typeOf hTs ?_)
  rw [if_pos (by decide)]
  refine wpAny_bind (sliceApplied_rev hs ps ?_)
  have hno : ¬ ((((items.size : Int) - 1) == 0 && (-1 : Int) == 1 && items.size == items.size) = true) := by
    intro q
    rw [Bool.and_eq_true, Bool.and_eq_true] at q
    exact absurd q.1.2 (by decide)
  show wpAny _ _ (if (((items.size : Int) - 1) == 0 && (-1 : Int) == 1 && items.size == items.size) = true then _ else _) _ _ s
  rw [if_neg hno, pick_rev]
  first
    | exact wpAny_bind (m := Builtin.Tuple.tupleExact _) (wpAny_newObj_type (wpAny_pure ⟨_, rfl, wpAny_pure h⟩) htake)
    | exact wpAny_bind (m := Builtin.Tuple.tupleExact _) (wpAny_newObj_type (wpAny_bind (wpAny_pure (wpAny_pure ⟨_, rfl, wpAny_pure h⟩))) htake)
    | exact wpAny_bind (wpAny_bind (m := Builtin.Tuple.tupleExact _) (wpAny_newObj_type (wpAny_pure (wpAny_pure ⟨_, rfl, wpAny_pure h⟩)) htake))
    | exact wpAny_bind (wpAny_bind (m := Builtin.Tuple.tupleExact _) (wpAny_newObj_type (wpAny_pure ⟨_, rfl, wpAny_pure h⟩) htake))
end
end PVR
namespace PV
open PySem PySem.Spec PyProof.Rows L2 NdefX LamX -- pv
section
variable {X : Cx}
def tRevT (K : KK) (te : TE) : TE := fun σ H Q => te σ H fun x H1 => ∃ a xs, x = .ref a ∧ L2.SqT K.fr H1 a xs ∧ ∀ p, H1 p = none → Q (.ref p) (upd H1 p (.tup xs.reverse))
theorem pe_revT {K : KK} (hK : X.K = K.fr) {e : Expr} {te : TE} {k : Nat} {p1 p2 p3 pos : Pos} (he : PE X e te) : PE X (.Subscript e (.Slice none none (some (.UnaryOp .USub (.Constant (.int 1) k p1) p2)) p3) pos) (tRevT K te) := by
  refine ⟨fun pins s σ H Q I h => ?_⟩
  refine Subscript_ (thn (he.run pins s σ H _ I h) fun v s1 ⟨x, H1, I1, r1, q1⟩ => ?_)
  obtain ⟨a, xs, ex, hx, q⟩ := q1
  subst ex
  cases r1
  rw [← hK] at hx
  have hst : PO X (some (.UnaryOp .USub (.Constant (.int 1) k p1) p2)) (tPart (tUn (rU fun i => .int (-i)) (tC (.int 1)))) := po_some (pe_un un_neg pe_int)
  refine wpAny_Slice (thn (po_none.run pins s1 σ H1 (fun o H2 => o = none ∧ H2 = H1) I1 ⟨rfl, rfl⟩) fun vl s2 ⟨l, H2, I2, pl, el, e2⟩ => ?_)
  subst el e2
  refine thn (po_none.run pins s2 σ H2 (fun o H3 => o = none ∧ H3 = H2) I2 ⟨rfl, rfl⟩) fun vu s3 ⟨u, H3, I3, pu, eu, e3⟩ => ?_
  subst eu e3
  refine thn (hst.run pins s3 σ H3 (fun o H4 => o = some (-1) ∧ H4 = H3) I3 ⟨1, rfl, -1, rfl, rfl, rfl⟩) fun vs s4 ⟨o, H4, I4, ps, eo, e4⟩ => ?_
  subst eo e4
  cases pl
  cases pu
  have I5 : Inv X pins σ H4 { s4 with heap := s4.heap.push { cls := .type "slice", data := .fields #[.none, .none, vs] } } := I4.kept (t' := s4.toks) fun b ob q => Heap.get?_push_of_some _ q
  obtain ⟨its, r, ht, hz⟩ := I5.tuple hx
  have hlen := r.length
  show wpAny (model X.prog X.w) X.A (subscriptTail e (.Slice none none (some (.UnaryOp .USub (.Constant (.int 1) k p1) p2)) p3) (.ref a) (.ref s4.heap.objs.size)) (EP X pins σ Q) X.xe { s4 with heap := s4.heap.push { cls := .type "slice", data := .fields #[.none, .none, vs] } }
  refine tail_any (ops := [.ref a, .ref s4.heap.objs.size]) ht.typeIs (PyProof.Rows.slot_tuple_getitem.lookup) ?_ (by with_unfolding_all rfl)
  refine PVR.getItem_tuple_rev ht (Heap.IsSliceOf.new _ .none .none vs) ps ?_ (by rw [List.size_toArray]; omega)
  refine ⟨.ref _, _, I5.laid (t' := s4.toks) (o := .tup xs.reverse) (fun b ob q => Heap.get?_push_of_some _ q) (Nat.le_refl _) ?_, rfl, q _ (I5.hok.fresh (Nat.le_refl _))⟩
  exact ⟨by rw [List.length_reverse]; exact hz, _, r.reverse, IsTup.new _ _⟩
end
theorem DpAll.pvRev {K : KK} {H : Hp} : ∀ {vs : List V} {ds : List Dat}, DpAll K H vs ds → DpAll K H vs.reverse ds.reverse
  | _, _, .nil => .nil
  | _, _, .cons h t => by
    rw [List.reverse_cons, List.reverse_cons]
    exact (DpAll.pvRev t).pvApp (.cons h .nil)
def rRevT (ra : RE) : RE := fun env R => ra env fun a => ∃ ds, a.rd = .tuple ds ∧ R (.val (.tuple ds.reverse))
instance {K : KK} {ta : TE} {ra : RE} [sa : SimE K ta ra] : SimE K (tRevT K ta) (rRevT ra) where
  run := by
    intro F B0 B H0 H σ env Q R st h q
    refine sa.run st h fun x a G0 G ⟨ds, hd, hh⟩ xa da => ?_
    have st2 := st.go xa
    obtain ⟨p, vs, rfl, hp, dp, _, _⟩ := da.asTup st2 hd
    refine ⟨p, vs, rfl, hp, fun o ho => ?_⟩
    have kn := Sub.upd (o := .tup vs.reverse) (st2.inn.none ho)
    exact (q.after xa) _ _ _ _ hh (Ext.new st2.inn ho) (show Dp K _ _ _ from .tup (.inl (.inl upd_same)) (dpAll_mono kn _ _ dp.pvRev))
end PV

/-! PvSort: sorted of a list of data of one shape, any length; any, all. -/
namespace PV
open PySem PySem.Spec PyProof.Rows L2 NdefX LamX -- pv
/-- sorted(xs): P is whatever is known of the items -/
def rSortP (K : KK) : List V → Hp → VK → Prop := fun vs H Q => ∃ (a : Addr) (xs : List V) (ds : List PyData) (P : V → PyData → Prop), vs = [V.ref a] ∧ L2.SqL K.fr H a xs ∧ L2.DpAll K.fr H xs ds ∧ PySem.W.EachIs P xs ds ∧
  PySem.W.AllAlike ds ∧ PySem.W.Sortable ds ∧ (∀ d ∈ ds, d.depth ≤ 63) ∧ ∀ (ys : List V) (p : Addr), ys.length = ds.length → PySem.W.EachIs P ys (ds.mergeSort (PySem.W.dataLe false id)) → H p = none → Q (.ref p) (upd H p (.lst ys))
theorem each_of {P : V → PyData → Prop} {X : Cx} {pins : List (Addr × Obj)} {σ : L2.St} {H : Hp} {s : Shared} (I : Inv X pins σ H s) : ∀ {xs : List V} {us : List Value} {ds : List PyData}, Vals xs us → PySem.W.EachIs P xs ds → PySem.W.EachIs (fun u d => ∃ x, RelV x u ∧ P x d) us ds
  | _, _, _, .nil, h => by cases h; exact .nil
  | _, _, _, .cons r t, h => by
    cases h with
    | cons h1 h2 => exact .cons ⟨_, r, h1⟩ (each_of I t h2)
theorem each_reads {X : Cx} {pins : List (Addr × Obj)} {σ : L2.St} {H : Hp} {s : Shared} (I : Inv X pins σ H s) : ∀ {xs : List V} {us : List Value} {ds : List PyData}, Vals xs us → L2.DpAll X.K H xs ds → PySem.W.EachIs (fun u d => ∃ as, PySem.Reads s.heap u (id d) as) us ds
  | _, _, _, .nil, h => by cases h; exact .nil
  | _, _, _, .cons r t, h => by
    cases h with
    | cons h1 h2 => exact .cons (L2.Dp.reads I _ _ _ h1 r) (each_reads I t h2)
theorem each_back {P : V → PyData → Prop} : ∀ {us : List Value} {ds : List PyData}, PySem.W.EachIs (fun u d => ∃ x, RelV x u ∧ P x d) us ds → ∃ ys : List V, Vals ys us ∧ PySem.W.EachIs P ys ds
  | _, _, .nil => ⟨[], .nil, .nil⟩
  | _, _, .cons ⟨x, r, p⟩ t => by
    obtain ⟨ys, h1, h2⟩ := each_back t
    exact ⟨x :: ys, .cons r h1, .cons p h2⟩
theorem call_sortPK {X : Cx} {K : KK} (h : X.K = K.fr) (hu : X.A.units + 65 < cLine) : CallR X (.builtin "sorted") (rSortP K) := by
  intro pins s σ H vs us Q I r ⟨a, xs, ds, P, e0, hs, dp, ep, hal, hk, hd, q⟩
  subst e0
  rw [← h] at hs dp
  obtain ⟨its, rv, hl, hz⟩ := I.list hs
  rw [Vals.ref1 r]
  have e1 := each_of I rv ep
  have e2 := each_reads I rv dp
  have hlen : its.length = ds.length := e1.length
  have hxl := rv.length
  refine PySem.W.sorted_data (enc := id) (bs := ds) hl.isList e1 e2 (by rw [List.map_id]; exact hal) (by rw [List.map_id]; exact hk) (by omega) (fun d hm => by have := hd d hm; show X.A.units + 2 + d.depth < cLine; omega) fun out ho e3 => ?_
  obtain ⟨ys, ry, py⟩ := each_back e3
  obtain ⟨en, he'⟩ := PyProof.Rows.sortedAll_at s.heap its out.toArray
  have hyl : ys.length = ds.length := by rw [ry.length]; exact ho
  exact ⟨.ref _, upd H (s.heap.objs.size + 1) (.lst ys), I.laid (t' := s.toks) (fun _ _ => PyProof.Rows.sortedAll_old) (Nat.le_succ _) ⟨by omega, out, en, ry, he'⟩, rfl, q ys _ hyl py (I.hok.fresh (Nat.le_succ _))⟩
theorem each_dp {K : KK} {H : Hp} : ∀ {vs : List V} {ds : List Dat}, DpAll K H vs ds → PySem.W.EachIs (fun x d => Dp K H x d) vs ds
  | _, _, .nil => .nil
  | _, _, .cons h t => .cons h (each_dp t)
theorem dp_each {K : KK} {H : Hp} : ∀ {vs : List V} {ds : List Dat}, PySem.W.EachIs (fun x d => Dp K H x d) vs ds → DpAll K H vs ds
  | _, _, .nil => .nil
  | _, _, .cons h t => .cons h (dp_each t)
theorem depth_mem : ∀ {ds : List Dat} {d : Dat}, d ∈ ds → d.depth ≤ PyData.depthAll ds
  | e :: ds, d, h => by
    simp only [PyData.depthAll]
    rcases List.mem_cons.mp h with rfl | h
    · omega
    · have := depth_mem h; omega
/-- sorted(xs), by the order of data -/
def pSortD (as : List Rs) (R : Rs → Prop) : Prop := ∃ a ds, as = [a] ∧ a.rd = .list ds ∧ SeqAt.shaped (.list ds) = true ∧ PySem.W.AllAlike ds ∧ PySem.W.Sortable ds ∧ R (.fresh (ds.mergeSort (PySem.W.dataLe false id)))
instance {K : KK} : ImL K (rSortP K) pSortD where
  run := by
    intro F B0 B Hs H0 H σ env xs as Q R st da ⟨a, ds, e, ea, sh, hal, hk, h⟩ q
    subst e
    obtain ⟨v, rfl, dv⟩ := da.one
    obtain ⟨p, vs, rfl, hp, dp⟩ := dv.asList st ea
    have lay : PyData.canLayAll0 ds = true := SeqAt.canLay_of_shaped sh
    have dep : ∀ d ∈ ds, d.depth ≤ 63 := fun d hd => by
      have h1 := depth_mem hd
      have h2 : ((PyData.list ds).canLay0 && decide ((PyData.list ds).depth ≤ 64)) = true := sh
      rw [Bool.and_eq_true, decide_eq_true_iff] at h2
      have h3 : (PyData.list ds).depth = PyData.depthAll ds + 1 := by simp only [PyData.depth]
      omega
    refine ⟨p, vs, ds, fun x d => Dp K H0 x d, rfl, hp, dpAll_low ds vs lay (dpAll_mono st.inn ds vs dp), each_dp dp, hal, hk, dep, fun ys o _ ey ho => ?_⟩
    exact q _ _ _ _ h (Ext.hid st.inn ho) ⟨o, _, rfl, ho, st.inn.none ho, upd_same, _, rfl, dp_each ey⟩
/-! any, all of a list of bools -/
def dBools (bs : List Bool) : List Dat := bs.map PyData.bool
theorem bools_of {K : KK} {H : Hp} : ∀ {bs : List Bool} {vs : List V}, DpAll K H vs (dBools bs) → vs = bs.map V.bl
  | [], _, h => by cases h; rfl
  | b :: bs, _, h => by
    cases h with
    | cons h1 h2 =>
      cases h1
      rw [bools_of h2]
      rfl
theorem call_anyLK {X : Cx} {K : KK} (h : X.K = K.fr) (hc : X.calm = true) : CallR X (.builtin "any") (rAny K.fr) := h ▸ cr_any hc
theorem call_allLK {X : Cx} {K : KK} (h : X.K = K.fr) (hc : X.calm = true) : CallR X (.builtin "all") (rAll K.fr) := h ▸ cr_all hc
def pAnyL (as : List Rs) (R : Rs → Prop) : Prop := ∃ a bs, as = [a] ∧ a.rd = .list (dBools bs) ∧ R (.val (.bool (bs.any id)))
def pAllL (as : List Rs) (R : Rs → Prop) : Prop := ∃ a bs, as = [a] ∧ a.rd = .list (dBools bs) ∧ R (.val (.bool (bs.all id)))
instance {K : KK} : ImL K (rAny K.fr) pAnyL where
  run := by
    intro F B0 B Hs H0 H σ env xs as Q R st da ⟨a, bs, e, ea, h⟩ q
    subst e
    obtain ⟨v, rfl, dv⟩ := da.one
    obtain ⟨p, vs, rfl, hp, dp⟩ := dv.asList st ea
    rw [bools_of dp] at hp
    exact ⟨p, bs, rfl, hp, q.at st h (Dp.bl _)⟩
instance {K : KK} : ImL K (rAll K.fr) pAllL where
  run := by
    intro F B0 B Hs H0 H σ env xs as Q R st da ⟨a, bs, e, ea, h⟩ q
    subst e
    obtain ⟨v, rfl, dv⟩ := da.one
    obtain ⟨p, vs, rfl, hp, dp⟩ := dv.asList st ea
    rw [bools_of dp] at hp
    exact ⟨p, bs, rfl, hp, q.at st h (Dp.bl _)⟩
end PV

/-! PvComp: comprehensions that make a set of ints or a dict, with one or two fors: one proof for all of them. -/
namespace PV
open PySem PySem.Spec PyProof.Rows L2 NdefX LamX -- pv
/-- what a turn of clause k of the comprehension e does: tail is what follows a test that came out true -/
def TurnIs (e : Expr) (k : Nat) (tg : Expr) (ip : Pos) (ifs : List Expr) (it acc : Value) (env : PySem.Env) (tail : Sem PySem.Fin) : Prop :=
  compTurn e k it acc env = (do
    standAt ip
    match ← pyNext it with
    | none => pure (.done .next)
    | some v =>
      letOwnedTupleGo tg it v
      assign tg env v
      let mut ok := true
      for c in ifs do
        if ok then ok ← isTrue c env (eval c env)
      if ok then tail else again (.compLoop e k it acc env))
section
variable {P : Program} {w : World} {A : Around} {R : Result → Shared → Prop} {s : Shared} {e tg : Expr} {k : Nat} {ip : Pos} {ifs : List Expr} {it acc : Value} {env : PySem.Env} {tail : Sem PySem.Fin}
def Bad (P : Program) (w : World) (A : Around) (env : PySem.Env) (R : Result → Shared → Prop) : Value → Shared → Prop := notedBy (model P w) A env fun x s' => R (.error x) s'
/-- a turn, written as what must hold at its start -/
def turnW (P : Program) (w : World) (A : Around) (R : Result → Shared → Prop) (e tg : Expr) (k : Nat) (ifs : List Expr) (it acc : Value) (env : PySem.Env) (tail : Sem PySem.Fin) (J : Shared → Prop) : Shared → Prop := fun s =>
  wpAny (model P w) A (pyNext it) (fun r s1 => match r with
    | none => R (.ok .next) s1
    | some v => wpAny (model P w) A (letOwnedTupleGo tg it v) (fun _ s2 => wpAny (model P w) A (assign tg env v) (fun _ s3 =>
        wpAny (model P w) A (forIn ifs true fun c r => if r = true then do let ok ← isTrue c env (eval c env); pure (ForInStep.yield ok) else pure (ForInStep.yield r)) (fun b s4 =>
          if b = true then wpAny (model P w) A tail (fun f s5 => f = .again (.compLoop e k it acc env) ∧ J s5) (Bad P w A env R) s4 else J s4) (Bad P w A env R) s3) (Bad P w A env R) s2) (Bad P w A env R) s1) (Bad P w A env R) s
/-- the machine takes a turn of the loop as compTurn (by rfl for each kind of comprehension) -/
def Runs (P : Program) (w : World) (e : Expr) (k : Nat) : Prop := ∀ (A : Around) (it acc : Value) (env : PySem.Env) (Q : PySem.Fin → Shared → Prop) (E : Value → Shared → Prop) (s : Shared),
  wpAny (model P w) A ((compTurn e k it acc env).onRaise (fun x => do noteFrame x env; theTreesLotGoes x)) Q E s → wpAny (model P w) (A.under (.compLoop e k it acc env)) ((model P w).den (.compLoop e k it acc env)) Q E s
theorem loop_turns (hq : (Code.compLoop e k it acc env).quiet = true) (hd : Runs P w e k) (eq : TurnIs e k tg ip ifs it acc env tail) (V : Nat → Shared → Prop) (tn : ∀ n s, V n s → turnW P w A R e tg k ifs it acc env tail (fun s' => ∃ m, m < n ∧ V m s') s) (n : Nat) (h : V n s) :
    codeAny (model P w) A (.compLoop e k it acc env) R s := by
  refine codeAny_loop hq V (fun n s hV => ?_) n h
  have t := tn n s hV
  refine hd A it acc env _ _ s ?_
  refine wpAny_noted ?_
  rw [show compTurn e k it acc env = _ from eq]
  refine wpAny_bind (wpAny_standAt (wpAny_bind (wpAny_mono t (fun r s1 h1 => ?_) fun _ _ z => z)))
  cases r with
  | none => exact wpAny_pure h1
  | some v =>
    refine wpAny_bind (wpAny_mono h1 (fun _ s2 h2 => ?_) fun _ _ z => z)
    refine wpAny_bind (wpAny_mono h2 (fun _ s3 h3 => ?_) fun _ _ z => z)
    refine wpAny_bind (wpAny_mono h3 (fun b s4 h4 => ?_) fun _ _ z => z)
    cases b with
    | false => exact wpAny_pure ⟨rfl, h4⟩
    | true =>
      refine wpAny_mono h4 (fun f s5 h5 => ?_) fun _ _ z => z
      obtain ⟨rfl, h5⟩ := h5
      exact ⟨rfl, h5⟩
end
/-- what a turn adds: from the block's slots and heap, with the way on -/
abbrev TAct := Addr → L2.St → Hp → (Hp → Prop) → Prop
/-- the block of a comprehension -/
abbrev blkX (X : Cx) (scope : Scope) (q : Shared × Hp × Addr × List (PySem.Str × Addr) × List Addr) : Cx := X.blk q.1 q.2.1 scope (compEnvC scope q.2.2.2.1 q.2.2.1 X.env) q.2.2.2.2
/-- the text `tail` of clause k does what ta says; at its end the slots are those of its start, but for some of the block's own -/
structure Act (X : Cx) (scope : Scope) (vs : List Nat) (e : Expr) (k : Nat) (tail : Value → Value → PySem.Env → Sem PySem.Fin) (ta : TAct) : Prop where
  run : ∀ (q : Shared × Hp × Addr × List (PySem.Str × Addr) × List Addr) (it D : Addr) (pins : List (Addr × Obj)) (s : Shared) (σ : L2.St) (H : Hp) (Nx : Hp → Prop), Inv (blkX X scope q) pins σ H s → ta D σ H Nx →
    wpAny (model X.prog X.w) X.A (tail (.ref it) (.ref D) (blkX X scope q).env) (fun f s2 => f = .again (.compLoop e k (.ref it) (.ref D) (blkX X scope q).env) ∧
      ∃ vs1 H2, (∀ i ∈ vs1, i ∈ vs) ∧ Inv (blkX X scope q) pins (wipe σ vs1) H2 s2 ∧ Nx H2) (fun _ _ => False) s
/-- the whole walk: o0 is the new, empty object -/
def tG (o0 : Addr → HO) (wi : TI) (g : TG) (tt : TT) (ta : TAct) (vs : List Nat) : TE := fun σ H Q => wi σ H fun J H1 => ∀ D, H1 D = none → ∃ W : Nat → Nat → Hp → Prop, (∃ m, W 0 m (upd H1 D (o0 D))) ∧ ∀ i m H, W i m H →
  (J.stop i H ∧ Q (.ref D) H) ∨ (J.go i H ∧ ∃ Nx : Hp → Prop, (∀ H', Nx H' → ∃ m', m' < m ∧ W (i + 1) m' H') ∧ ∀ x H', J.yld i H x H' → g x (wipe σ vs) H' fun σ2 H2 => wipe σ2 vs = wipe σ vs ∧ tt σ2 H2 fun b H3 => if b = true then ta D σ2 H3 Nx else Nx H3)
/-- how a loop is entered -/
def Starts (P : Program) (w : World) (e : Expr) (k : Nat) : Prop := ∀ (A : Around) (it acc : Value) (env : PySem.Env) (R : Result → Shared → Prop) (s : Shared), codeAny (model P w) A (.compLoop e k it acc env) R s →
  wpAny (model P w) A (pyIter it) (fun it' s' => codeAny (model P w) A (.compLoop e k it' acc env) R s') (notedBy (model P w) A env fun x s' => R (.error x) s') s → codeAny (model P w) A (.compStart e k it acc env) R s
theorem wipe_keeps {σ τ : L2.St} {vs vs1 : List Nat} (hv : ∀ i ∈ vs1, i ∈ vs) (h : L2.wipe τ vs = L2.wipe σ vs) : ∀ (j : Nat) v, (L2.wipe σ vs)[j]? = some (some v) → (L2.wipe τ vs1)[j]? = some (some v) := fun j v q => by
  rw [← h] at q
  obtain ⟨q1, q2⟩ := wipe_some q
  rw [wipe_out fun z => q2 (hv j z)]
  exact q1
theorem wipe_long {σ τ : L2.St} {vs vs1 : List Nat} (h : L2.wipe τ vs = L2.wipe σ vs) : (L2.wipe σ vs).length = (L2.wipe τ vs1).length := by rw [← h, L2.wipe_length, L2.wipe_length]
/-- the pinned objects of an iterator still stand -/
theorem pins_hold {X : Cx} {pins : List (Addr × Obj)} {fp : List Addr} {h : Heap} {σ : L2.St} {H : Hp} {s : Shared} (I : Inv X (pins ++ pinsAt fp h) σ H s) : ∀ b ∈ fp, ∀ o, h.get? b = some o → s.heap.get? b = some o ∧ H b = none := fun b hb o q =>
  let z := I.pin (b, o) (List.mem_append_right _ (List.mem_append_right _ (mem_pinsAt hb q)))
  ⟨z.1, z.2.1⟩
section
variable {X : Cx} {e tg iter : Expr} {ifs : List Expr} {scope : Scope} {own : List (PySem.Str × Nat)} {wi : TI} {g : TG} {tt : TT} {ta : TAct} {tail : Value → Value → PySem.Env → Sem PySem.Fin} {mk : Sem Value} {ob : Obj} {o0 : Addr → HO} {gs : List Comprehension} {pos : Pos} {Rest : Addr → Shared → Prop}
/-- the loop of a clause: pins stand still, the slots vs are the block's own, fp the iterator's objects -/
theorem block_turns {k : Nat} {vs : List Nat} {ip : Pos} (hc : X.calm = true) (hd : Runs X.prog X.w e k) (hq : ∀ it acc env, (Code.compLoop e k it acc env).quiet = true) (eq : ∀ it (D : Addr) env, TurnIs e k tg ip ifs it (.ref D) env (tail it (.ref D) env))
    {q : Shared × Hp × Addr × List (PySem.Str × Addr) × List Addr} {fp : List Addr} {pins : List (Addr × Obj)} {it D : Addr} {tn : Nat → Heap → Prop} {J : It} (T : Turn X.prog X.w X.K tg J fp it tn)
    (own0 : ∀ {τ : L2.St} {H' : Hp} {s' : Shared}, Inv (blkX X scope q) pins τ H' s' → (∀ b ∈ fp, H' b = none) → ∀ b ∈ fp, FpOk (blkX X scope q) pins H' b)
    (pg : PG (blkX X scope q) tg g) (pt : PTs (blkX X scope q) ifs tt) (pa : Act X scope vs e k tail ta) {σ : L2.St} {Q : Hp → Prop} {W : Nat → Nat → Hp → Prop}
    (turn : ∀ i m H, W i m H → (J.stop i H ∧ Q H) ∨ (J.go i H ∧ ∃ Nx : Hp → Prop, (∀ H', Nx H' → ∃ m', m' < m ∧ W (i + 1) m' H') ∧ ∀ x H', J.yld i H x H' → g x (L2.wipe σ vs) H' fun σ2 H2 =>
      L2.wipe σ2 vs = L2.wipe σ vs ∧ tt σ2 H2 fun b H3 => if b = true then ta D σ2 H3 Nx else Nx H3))
    {R : Result → Shared → Prop} (fin : ∀ s' H', Inv (blkX X scope q) pins (L2.wipe σ vs) H' s' → Q H' → R (.ok .next) s')
    {s : Shared} {H : Hp} {m : Nat} (I : Inv (blkX X scope q) pins (L2.wipe σ vs) H s) (st : tn 0 s.heap) (nf : ∀ b ∈ fp, H b = none) (w0 : W 0 m H) :
    codeAny (model X.prog X.w) X.A (.compLoop e k (.ref it) (.ref D) (blkX X scope q).env) R s := by
  refine loop_turns (hq _ _ _) hd (eq _ _ _) (fun n s' => ∃ i H', W i n H' ∧ Inv (blkX X scope q) pins (L2.wipe σ vs) H' s' ∧ tn i s'.heap ∧ ∀ b ∈ fp, H' b = none) ?_ m ⟨0, H, w0, I, st, nf⟩
  rintro n s1 ⟨i, H1, w1, I1, st1, nf1⟩
  rcases turn i n H1 w1 with ⟨no, done⟩ | ⟨yes, Nx, less, step⟩
  · refine thnF (T.done (blkX X scope q) rfl rfl rfl hc i pins s1 _ H1 _ I1 (own0 I1 nf1) st1 no) fun r s2 ⟨hr, I2⟩ => ?_
    subst hr
    exact fin s2 H1 I2 done
  · refine thnF (T.item (blkX X scope q) rfl rfl rfl hc i pins s1 _ H1 _ I1 (own0 I1 nf1) st1 yes) fun r s2 ⟨u, hr, go⟩ => ?_
    subst hr
    refine thnF go fun _ s3 ⟨x, H3, I3, rx, y3, st3, nf3⟩ => ?_
    have J3 := I3.pinned (own0 I3 nf3) (T.obj _ _ st3)
    refine thnF (pg.run _ s3 _ H3 x u _ J3 rx (step x H3 y3)) fun _ s4 ⟨σ4, H4, I4, same, q4⟩ => ?_
    refine thnF (pt.run _ s4 σ4 H4 _ I4 q4) fun b s5 ⟨H5, I5, q5⟩ => ?_
    have next : ∀ {vs1 : List Nat} {s' : Shared} {H' : Hp}, (∀ i ∈ vs1, i ∈ vs) → Inv (blkX X scope q) (pins ++ pinsAt fp s3.heap) (L2.wipe σ4 vs1) H' s' → Nx H' →
        ∃ m, m < n ∧ ∃ i H', W i m H' ∧ Inv (blkX X scope q) pins (L2.wipe σ vs) H' s' ∧ tn i s'.heap ∧ ∀ b ∈ fp, H' b = none := fun {vs1 s' H'} hv I' nx => by
      obtain ⟨m', hm, w'⟩ := less H' nx
      refine ⟨m', hm, i + 1, H', w', I'.unpinned.weak (wipe_long same) (wipe_keeps hv same), T.keep _ _ _ st3 fun b hb o z => (pins_hold I' b hb o z).1, fun b hb => ?_⟩
      obtain ⟨o, z, _⟩ := T.obj _ _ st3 b hb
      exact (pins_hold I' b hb o z).2
    cases b with
    | false => exact next (vs1 := []) (fun _ z => absurd z (by simp)) I5 q5
    | true =>
      refine thnF (pa.run q it D _ s5 σ4 H5 Nx I5 q5) fun f s6 ⟨hf, vs1, H6, hv, I6, nx⟩ => ⟨hf, next hv I6 nx⟩
theorem pe_block (hc : X.calm = true) (hN : X.N.Nodup) (hev : eval e X.env = comprehension e scope X.env pos mk false (eval iter X.env) none) (hcl : clausesOf e = ⟨tg, iter, ifs, 0⟩ :: gs)
    (hd : Runs X.prog X.w e 0) (hst : Starts X.prog X.w e 0) (hq : ∀ it acc env, (Code.compLoop e 0 it acc env).quiet = true) (eq : ∀ it (D : Addr) env, TurnIs e 0 tg iter.pos ifs it (.ref D) env (tail it (.ref D) env))
    (new : ∀ (s : Shared) (Q : Value → Shared → Prop), Q (.ref s.heap.objs.size) { s with heap := s.heap.push ob } → wpAny (model X.prog X.w) X.A mk Q X.xe s)
    (new0 : ∀ {pins : List (Addr × Obj)} {σ : L2.St} {H : Hp} {s : Shared} (H' : Hp), Inv X pins σ H s → ObjOk X.prog X.w H' (s.heap.push ob) s.heap.objs.size (o0 s.heap.objs.size))
    (hi : PI X tg iter wi) (ok : BlkOk X.N X.env.scope scope own) (hg : ∀ q, PG (blkX X scope q) tg g) (ht : ∀ q, PTs (blkX X scope q) ifs tt) (pa : Act X scope (own.map (·.2)) e 0 tail ta)
    (hfs : ∀ x, foldedSetIterable iter X.env x = pure x) : PE X e (tG o0 wi g tt ta (own.map (·.2))) := by
  refine ⟨fun pins s σ H Q I h => ?_⟩
  rw [hev]
  have cells : ∀ y ∈ scope.names, y.2 = .free → ∃ c, X.env.cells.lookup y.1 = some c := fun y hy z => by
    cases ok.free y hy z with
    | inl k => exact I.ok.has _ (.inl k)
    | inr k => exact I.ok.has _ (.inr k)
  refine wpAny_comprehension_free hcl hfs (closure_ok cells) ok.kind (fun y hy z => by rw [ok.uniq y hy, z]) (thn (hi.run pins s σ H _ I h) fun xv s1 hx => thn hx fun itv s2 h2 => ?_)
  obtain ⟨it, fp, tn, J, H2, rfl, I2, T, st2, f2, hW⟩ := h2
  refine new s2 _ (newEnv_comp ?_)
  obtain ⟨W, ⟨m0, w0⟩, turn⟩ := hW s2.heap.objs.size (I2.hok.fresh (Nat.le_refl _))
  have I3 := I2.laid (t' := s2.toks) (fun b o z => Heap.get?_push_of_some ob z) (Nat.le_refl _) (new0 (upd H2 s2.heap.objs.size (o0 s2.heap.objs.size)) I2)
  have hlt : ∀ b ∈ fp, b < s2.heap.objs.size := fun b hb => by
    obtain ⟨o, z, _⟩ := T.obj _ _ st2 b hb
    exact Heap.lt_size z
  have f3 : ∀ b ∈ fp, FpOk X pins (upd H2 s2.heap.objs.size (o0 s2.heap.objs.size)) b ∧ b < (s2.heap.push ob).objs.size := fun b hb =>
    ⟨⟨by rw [upd_ne (Nat.ne_of_lt (hlt b hb))]; exact (f2 b hb).1, (f2 b hb).2⟩, by rw [Heap.size_push]; exact Nat.lt_succ_of_lt (hlt b hb)⟩
  have st3 : tn 0 (s2.heap.push ob) := T.keep _ _ _ st2 fun b _ o z => Heap.get?_push_of_some _ z
  have I4 := block_start I3 ok hN f3
  have st4 := T.keep _ (s2.heap.push ob) _ st3 fun b _ o z => pushCells_keeps scope.names _ _ _ (Heap.get?_push_of_some { cls := .type "dict", data := .dict #[] } z)
  -- the end of the walk, back in the def
  have loop := block_turns (q := ({ s2 with heap := s2.heap.push ob }, upd H2 s2.heap.objs.size (o0 s2.heap.objs.size), (s2.heap.push ob).objs.size, cellsFrom ((s2.heap.push ob).objs.size + 1) scope.names (cloFrom X.env.cells scope.names []), fp))
    (D := s2.heap.objs.size) (Q := Q (.ref s2.heap.objs.size)) (R := compPost (model X.prog X.w) X.A X.xe none (EP X pins σ Q) (.ref s2.heap.objs.size) (s2.heap.push ob).objs.size) hc hd hq eq T (fun {τ H' s'} I' hn b hb => ⟨hn b hb, (I'.ok.exf b hb).1, I'.ok.exfs b hb, .inl hb, fun x c z => (I'.ok.exf b hb).2 x c z, fun p hp => absurd (show p ∈ ([] : List (Addr × Obj)) ++ [] from hp) (by simp)⟩) (hg _) (ht _) pa turn (fun s' H' I' q' => ?_) I4 st4 (fun b hb => (f3 b hb).1.1) w0
  · exact hst X.A _ _ _ _ _ loop (T.self X.A 0 _ _ _ st4 loop)
  · have I5 : Inv X pins σ H' s' := I3.call' (ch := fp) I'.os I'.base I'.hok I'.bare fun b hb => ⟨(f3 b hb).1.2.2.2.1, (f3 b hb).1.2.1, (f3 b hb).1.2.2.2.2.1, (f3 b hb).1.2.2.2.2.2⟩
    obtain ⟨m, hn, _⟩ := I'.loc
    refine ⟨m, hn, fun h'' sb => ?_⟩
    obtain ⟨a0, a1, a2, a3, a4, a5⟩ := I3.fpOk (b := (s2.heap.push ob).objs.size) (H' := H') (Nat.le_refl _) I'.free
    exact ⟨.ref s2.heap.objs.size, H', I5.turned (t' := s'.toks) (fun b o hb z => (sb.2 b hb).trans z) a0 a1 a3 a4 a5, rfl, q'⟩
end
/-! ### sets of ints -/
section
variable {X : Cx} {elt tg iter : Expr} {ifs : List Expr} {scope : Scope} {own : List (PySem.Str × Nat)} {pos : Pos} {wi : TI} {g : TG} {tt : TT} {te : TE}
/-- set.add of an int -/
theorem add_int {pins : List (Addr × Obj)} {σ : L2.St} {H : Hp} {s : Shared} {D : Addr} {S : Int → Bool} {n : Nat} {y : Int} {t : Tok} {E : Value → Shared → Prop} {Q : Value → Shared → Prop} (I : Inv X pins σ H s) (hD : H D = some (SetO X.w D S n)) (room : n + 1 < scanBound)
    (h : ∀ v s', Inv X pins σ (upd H D (SetO X.w D (fun j => S j || decide (j = y)) (if S y = true then n else n + 1))) s' → Q v s') : wpAny (model X.prog X.w) X.A (call (.builtin "set.add") [.ref D, .int y t]) Q E s := by
  refine setR_add (setO_get I hD) room fun h' sb new => h _ _ (I.write (e := D) (t' := s.toks + 1) (by rw [hD]; trivial) (.inl rfl) (fun b u hb hu => (sb.2 b hb).trans hu) ?_ (setO_new new))
  obtain ⟨o, _, _, _, ho, _⟩ := new
  exact ⟨o, ho⟩
/-- the element of a set of ints -/
def taSet (w : World) (te : TE) : TAct := fun D σ H Nx => te σ H fun y H4 => ∃ (c : Int) (S : Int → Bool) (n : Nat), y = .int c ∧ H4 D = some (SetO w D S n) ∧ n + 1 < scanBound ∧ Nx (upd H4 D (SetO w D (fun j => S j || decide (j = c)) (if S c = true then n else n + 1)))
def leafSet (elt e : Expr) (k : Nat) : Value → Value → PySem.Env → Sem PySem.Fin := fun it acc env => do
  (do let v ← eval elt env; standAt elt.pos; let _ ← call (.builtin "set.add") [acc, v])
  again (.compLoop e k it acc env)
theorem act_set {e : Expr} {k : Nat} {vs : List Nat} (he : ∀ q, PE (blkX X scope q) elt te) : Act X scope vs e k (leafSet elt e k) (taSet X.w te) := by
  refine ⟨fun q it D pins s σ H Nx I h => ?_⟩
  refine wpAny_bind (wpAny_bind (thnF ((he q).run _ s σ H _ I h) fun u s1 ⟨y, H1, I1, r1, c, S, n, ey, hD, room, nx⟩ => wpAny_bind (wpAny_standAt (wpAny_bind ?_))))
  subst ey
  obtain ⟨t, rfl⟩ := r1
  exact add_int (X := blkX X scope q) I1 hD room fun v s2 I2 => wpAny_pure (wpAny_pure ⟨rfl, [], _, fun _ z => absurd z (by simp), I2, nx⟩)
/-- {elt for tg in iter if ..}: ints -/
theorem pe_setI (hc : X.calm = true) (hN : X.N.Nodup) (hi : PI X tg iter wi) (ok : BlkOk X.N X.env.scope scope own)
    (hg : ∀ q, PG (blkX X scope q) tg g) (ht : ∀ q, PTs (blkX X scope q) ifs tt) (he : ∀ q, PE (blkX X scope q) elt te) (hs : ∀ x, foldedSetIterable iter X.env x = pure x := by intro _; rfl) :
    PE X (.SetComp elt [⟨tg, iter, ifs, 0⟩] scope pos) (tG (fun D => SetO X.w D (fun _ => false) 0) wi g tt (taSet X.w te) (own.map (·.2))) := by
  refine pe_block (mk := newSet (.type "set")) (gs := []) (tail := leafSet elt (.SetComp elt [⟨tg, iter, ifs, 0⟩] scope pos) 0) (pos := firstIterPos [⟨tg, iter, ifs, 0⟩] pos) (ob := { cls := .type "set", dict := none, data := .set #[] 0 (.fresh 0 0 (!X.w.params.followText "set-order")) }) hc hN rfl rfl (fun _ _ _ _ _ _ _ h => h) (fun _ _ _ _ _ _ => PpSet.codeAny_compStart_set) (fun _ _ _ => rfl) (fun _ _ _ => rfl)
    (fun s Q q => PpSet.newSet_ok q) (fun H' _ => setO_new (setR_fresh X.w)) hi ok hg ht (act_set he) hs
end
/-! ### sorted of a set of ints -/
def rSortSet (w : World) : List V → Hp → VK → Prop := fun vs H Q => ∃ (a : Addr) (S : Int → Bool) (n : Nat), vs = [V.ref a] ∧ H a = some (SetO w a S n) ∧
  ∀ (ns : List Int) (p : Addr), ns.Pairwise (· < ·) → (∀ k : Int, k ∈ ns ↔ S k = true) → H p = none → Q (.ref p) (upd H p (.lst (ns.map V.int)))
theorem vals_iv : ∀ {us : List Value}, (∀ u ∈ us, ∃ i t, u = Value.int i t) → Vals ((us.map SrtO.iv).map V.int) us
  | [], _ => .nil
  | u :: us, h => by
    obtain ⟨i, t, rfl⟩ := h u List.mem_cons_self
    exact .cons ⟨t, rfl⟩ (vals_iv fun v hv => h v (List.mem_cons_of_mem _ hv))
theorem call_sortedSetK {X : Cx} (hc : X.calm = true) : CallR X (.builtin "sorted") (rSortSet X.w) := by
  intro pins s σ H vs us Q I r ⟨a, S, n, e0, ha, q⟩
  subst e0
  obtain ⟨o, es, ep, t, ho, hx, hd, good, nd, mem, small, fits, _, ris, led⟩ := setO_get I ha
  rw [Vals.ref1 r]
  refine Calls.call_function_entry kind_sorted plain_sorted entry_sorted (args_sorted1 _) ?_
  unfold Builtin.«sorted»
  refine wpAny_bind (m := checkCount "sorted" 1 1 _) (wpAny_pure (wpAny_bind (collect_set (A := X.A.in1) (I.ok.hd hc) ⟨o, ho, hx.1, hd⟩ fits small ris led fun s1 ws k1 z1 g1 o1 pm => ?_)))
  have each : ∀ v ∈ ws, ∃ i t, v = Value.int i t := fun v hv => by
    obtain ⟨x, hx, rfl⟩ := List.mem_map.mp (pm.mem_iff.mp hv)
    obtain ⟨k, tk, h1, _⟩ := good x hx
    exact ⟨k, tk, h1⟩
  have hlen : ws.length ≤ sizeLine := by
    rw [pm.length_eq, List.length_map, Array.length_toList]
    exact fits_of_scanBound small
  have keys : (ws.map SrtO.iv).Perm (es.toList.map L2.keyOf) := by
    have z := pm.map SrtO.iv
    rw [List.map_map] at z
    have same : es.toList.map (SrtO.iv ∘ fun x => x.2) = es.toList.map L2.keyOf := List.map_congr_left fun x hx => by
      obtain ⟨k, tk, h1, _⟩ := good x hx
      show SrtO.iv x.2 = L2.keyOf x
      unfold L2.keyOf
      rw [h1]
      rfl
    rw [same] at z
    exact z
  refine wpAny_bind (wpAny_newList ?_ hlen)
  have at1 : (s1.heap.push (seqObj "list" ws.toArray 0)).get? s1.heap.objs.size = some (seqObj "list" ws.toArray 0) := Heap.get?_push_size _ rfl
  refine wpAny_bind (wpAny_holding (wpAny_call_entry slot_list_sort ⟨_, at1, rfl⟩ entry_list_sort (SrtO.list_sort_ord SrtO.swo_int at1 hlen (fun h2 => SrtO.ints_sortable (SrtO.ints_iv each) h2) fun out h1 h2 => ⟨_, rfl, ?_⟩) (args_list_sort _)))
  obtain ⟨b1, b2, b3⟩ := SrtO.ints_out (SrtO.ints_iv each) h1 h2
  obtain ⟨c, hc'⟩ := sortedHeap_at (vs := ws) (out := out.toArray) at1
  have all := b2.trans keys
  have free : H s1.heap.objs.size = none := I.hok.fresh z1
  have keep : ∀ b u, s.heap.get? b = some u → (sortedHeap (s1.heap.push (seqObj "list" ws.toArray 0)) s1.heap.objs.size ws out.toArray).get? b = some u := fun b u z => by
    have z1 := k1 b u z
    have lt := Heap.lt_size z1
    rw [sortedHeap_old (Nat.ne_of_lt lt) (by rw [size_push']; exact Nat.lt_succ_of_lt lt)]
    exact Heap.get?_push_of_some _ z1
  have zl : ((out.map SrtO.iv).map V.int).length ≤ sizeLine := by rw [List.length_map, b2.length_eq, List.length_map]; exact hlen
  have rv : Vals ((out.map SrtO.iv).map V.int) out := vals_iv fun v hv => each v (h2.perm.mem_iff.mp hv)
  have J : Inv X pins σ (upd H s1.heap.objs.size (.lst ((out.map SrtO.iv).map V.int))) { s with heap := sortedHeap (s1.heap.push (seqObj "list" ws.toArray 0)) s1.heap.objs.size ws out.toArray, gens := s1.gens, drawn := s1.drawn, toks := s1.toks } :=
    I.call (ch := []) (Un.laid keep z1 free) (I.hok.laid keep z1 ⟨zl, out, c, rv, hc'⟩) (by rw [g1]; exact I.bare) (fun _ z => nomatch z)
  have same : ({ s1 with heap := sortedHeap (s1.heap.push (seqObj "list" ws.toArray 0)) s1.heap.objs.size ws out.toArray } : Shared) = { s with heap := sortedHeap (s1.heap.push (seqObj "list" ws.toArray 0)) s1.heap.objs.size ws out.toArray, gens := s1.gens, drawn := s1.drawn, toks := s1.toks } := by
    cases s1
    cases s
    cases o1
    rfl
  refine wpAny_pure ⟨_, rfl, ?_⟩
  refine ⟨.ref s1.heap.objs.size, _, ?_, rfl, q (out.map SrtO.iv) _ (lt_of_le_nodup _ b3 (all.nodup_iff.mpr nd)) (fun k => by rw [all.mem_iff, ← mem k]) free⟩
  exact same ▸ J
/-! ### two fors -/
section
variable {X : Cx} {e i1 tg1 : Expr} {ifs1 : List Expr} {scope : Scope} {vs vs1 : List Nat} {wi1 : TI} {g1 : TG} {tt1 : TT} {ta : TAct} {tail1 : Value → Value → PySem.Env → Sem PySem.Fin}
def ta2 (wi1 : TI) (g1 : TG) (tt1 : TT) (ta : TAct) (vs1 : List Nat) : TAct := fun D σ2 H3 Nx => wi1 σ2 H3 fun J1 H4 => ∃ W1 : Nat → Nat → Hp → Prop, (∃ m, W1 0 m H4) ∧ ∀ j k H, W1 j k H →
  (J1.stop j H ∧ Nx H) ∨ (J1.go j H ∧ ∃ Nx1 : Hp → Prop, (∀ H', Nx1 H' → ∃ k', k' < k ∧ W1 (j + 1) k' H') ∧ ∀ x H', J1.yld j H x H' → g1 x (L2.wipe σ2 vs1) H' fun σ3 H5 => L2.wipe σ3 vs1 = L2.wipe σ2 vs1 ∧ tt1 σ3 H5 fun b H6 =>
    if b = true then ta D σ3 H6 Nx1 else Nx1 H6)
def tailTwo (e i1 : Expr) : Value → Value → PySem.Env → Sem PySem.Fin := fun it acc env => do
  let x ← eval i1 env
  standAt i1.pos
  let x ← foldedSetIterable i1 env x
  let _ ← runOwn (.compStart e 1 (← holding [x] (pyIter x)) acc env) env
  again (.compLoop e 0 it acc env)
theorem act_two (hc : X.calm = true) (hd : Runs X.prog X.w e 1) (hst : Starts X.prog X.w e 1) (hq : ∀ it acc env, (Code.compLoop e 1 it acc env).quiet = true) (eq : ∀ it (D : Addr) env, TurnIs e 1 tg1 i1.pos ifs1 it (.ref D) env (tail1 it (.ref D) env))
    (hv : ∀ i ∈ vs1, i ∈ vs) (hi : ∀ q, PI (blkX X scope q) tg1 i1 wi1) (hg : ∀ q, PG (blkX X scope q) tg1 g1) (ht : ∀ q, PTs (blkX X scope q) ifs1 tt1) (pa : Act X scope vs1 e 1 tail1 ta)
    (hs : ∀ env x, foldedSetIterable i1 env x = pure x) : Act X scope vs e 0 (tailTwo e i1) (ta2 wi1 g1 tt1 ta vs1) := by
  refine ⟨fun q it D pins s σ H Nx I h => ?_⟩
  refine wpAny_bind (thnF ((hi q).run _ s σ H _ I h) fun xv s1 hx => ?_)
  refine wpAny_bind (wpAny_standAt (wpAny_bind (wpAny_of_eq (hs _ xv) (wpAny_bind (wpAny_holding (thnF hx fun itv s2 h2 => ?_))))))
  obtain ⟨it1, fp, tn, J, H2, rfl, I2, T, st2, f2, W1, ⟨m1, w1⟩, turn⟩ := h2
  refine wpAny_bind (wpAny_runOwn ?_)
  rw [Around.mark_none]
  have loop := block_turns (q := q) (fp := fp) (pins := pins) (D := D) (σ := σ) (Q := Nx) (R := fun r s' => match r with | .ok _ => ∃ H', Inv (blkX X scope q) pins (L2.wipe σ vs1) H' s' ∧ Nx H' | .error _ => False) hc hd hq eq T
    (fun {τ H' s'} I' hn b hb => ⟨hn b hb, (f2 b hb).2⟩) (hg q) (ht q) pa turn (fun s' H' I' nx => ⟨H', I', nx⟩) (I2.weak (L2.wipe_length _ _) fun j v z => (L2.wipe_some z).1) st2 (fun b hb => (f2 b hb).1) w1
  refine codeAny_mono (hst X.A _ _ _ _ _ loop (T.self X.A 0 _ _ _ st2 loop)) fun r s' hr => ?_
  cases r with
  | ok f =>
    obtain ⟨H', I', nx⟩ := hr
    exact wpAny_pure ⟨rfl, vs1, H', hv, I', nx⟩
  | error x => exact hr.elim
end
/-! ### {x for .. in .. if .. for .. in .. if ..}: ints -/
section
variable {P : Program} {w : World} {elt t0 i0 t1 i1 : Expr} {ifs0 ifs1 : List Expr} {scope : Scope} {pos : Pos}
theorem starts_set1 : Starts P w (.SetComp elt [⟨t0, i0, ifs0, 0⟩, ⟨t1, i1, ifs1, 0⟩] scope pos) 1 := by
  intro A it acc env R s h0 h
  refine codeAny_of_tree ?_
  show wpAny _ _ ((compStart (.SetComp elt [⟨t0, i0, ifs0, 0⟩, ⟨t1, i1, ifs1, 0⟩] scope pos) 1 it acc env).onRaise (fun x => do noteFrame x env; standAt theWindowsPlace)) _ _ s
  refine wpAny_notedAt ?_
  unfold compStart
  refine wpAny_bind (wpAny_askSetting (wpAny_ite ?_))
  split
  · first
      | exact wpAny_pure ⟨rfl, h0⟩
      | exact wpAny_bind (wpAny_pure (wpAny_pure ⟨rfl, h0⟩))
  · first
      | exact wpAny_bind (wpAny_rule (wpAny_bind (wpAny_standAt (wpAny_bind (wpAny_mono h (fun _ _ z => wpAny_pure ⟨rfl, z⟩) fun _ _ z => z)))))
      | (refine wpAny_bind (wpAny_rule ?_); exact wpAny_bind (wpAny_standAt (wpAny_bind (wpAny_mono h (fun _ _ z => wpAny_pure ⟨rfl, z⟩) fun _ _ z => z))))
end
section
variable {X : Cx} {elt tg iter tg1 iter1 : Expr} {ifs ifs1 : List Expr} {scope : Scope} {own : List (PySem.Str × Nat)} {vs1 : List Nat} {pos : Pos} {wi wi1 : TI} {g g1 : TG} {tt tt1 : TT} {te : TE}
theorem pe_setI2 (hc : X.calm = true) (hN : X.N.Nodup) (hi : PI X tg iter wi) (ok : BlkOk X.N X.env.scope scope own) (hv : ∀ i ∈ vs1, i ∈ own.map (·.2))
    (hg : ∀ q, PG (blkX X scope q) tg g) (ht : ∀ q, PTs (blkX X scope q) ifs tt) (hi1 : ∀ q, PI (blkX X scope q) tg1 iter1 wi1) (hg1 : ∀ q, PG (blkX X scope q) tg1 g1) (ht1 : ∀ q, PTs (blkX X scope q) ifs1 tt1)
    (he : ∀ q, PE (blkX X scope q) elt te) (hs : ∀ x, foldedSetIterable iter X.env x = pure x := by intro _; rfl) (hs1 : ∀ env x, foldedSetIterable iter1 env x = pure x := by intro _ _; rfl) :
    PE X (.SetComp elt [⟨tg, iter, ifs, 0⟩, ⟨tg1, iter1, ifs1, 0⟩] scope pos) (tG (fun D => SetO X.w D (fun _ => false) 0) wi g tt (ta2 wi1 g1 tt1 (taSet X.w te) vs1) (own.map (·.2))) :=
  pe_block (mk := newSet (.type "set")) (gs := [⟨tg1, iter1, ifs1, 0⟩]) (tail := tailTwo (.SetComp elt [⟨tg, iter, ifs, 0⟩, ⟨tg1, iter1, ifs1, 0⟩] scope pos) iter1) (pos := firstIterPos [⟨tg, iter, ifs, 0⟩, ⟨tg1, iter1, ifs1, 0⟩] pos) (ob := { cls := .type "set", dict := none, data := .set #[] 0 (.fresh 0 0 (!X.w.params.followText "set-order")) }) hc hN rfl rfl (fun _ _ _ _ _ _ _ h => h) (fun _ _ _ _ _ _ => PpSet.codeAny_compStart_set) (fun _ _ _ => rfl) (fun _ _ _ => rfl)
    (fun s Q q => PpSet.newSet_ok q) (fun H' _ => setO_new (setR_fresh X.w)) hi ok hg ht
    (act_two (tail1 := leafSet elt (.SetComp elt [⟨tg, iter, ifs, 0⟩, ⟨tg1, iter1, ifs1, 0⟩] scope pos) 1) hc (fun _ _ _ _ _ _ _ h => h) starts_set1 (fun _ _ _ => rfl) (fun _ _ _ => rfl) hv hi1 hg1 ht1 (act_set he) hs1) hs
end
/-! ### {k: v for .. in .. if .. for .. in .. if ..}: keys ints or texts -/
section
variable {P : Program} {w : World} {kx vx t0 i0 t1 i1 : Expr} {ifs0 ifs1 : List Expr} {scope : Scope} {pos : Pos}
theorem starts_dict1 : Starts P w (.DictComp kx vx [⟨t0, i0, ifs0, 0⟩, ⟨t1, i1, ifs1, 0⟩] scope pos) 1 := by
  intro A it acc env R s h0 h
  refine codeAny_of_tree ?_
  show wpAny _ _ ((compStart (.DictComp kx vx [⟨t0, i0, ifs0, 0⟩, ⟨t1, i1, ifs1, 0⟩] scope pos) 1 it acc env).onRaise (fun x => do noteFrame x env; standAt theWindowsPlace)) _ _ s
  refine wpAny_notedAt ?_
  unfold compStart
  refine wpAny_bind (wpAny_askSetting (wpAny_ite ?_))
  split
  · first
      | exact wpAny_pure ⟨rfl, h0⟩
      | exact wpAny_bind (wpAny_pure (wpAny_pure ⟨rfl, h0⟩))
  · first
      | exact wpAny_bind (wpAny_rule (wpAny_bind (wpAny_standAt (wpAny_bind (wpAny_mono h (fun _ _ z => wpAny_pure ⟨rfl, z⟩) fun _ _ z => z)))))
      | (refine wpAny_bind (wpAny_rule ?_); exact wpAny_bind (wpAny_standAt (wpAny_bind (wpAny_mono h (fun _ _ z => wpAny_pure ⟨rfl, z⟩) fun _ _ z => z))))
def leafDict (kx vx e : Expr) (k : Nat) : Value → Value → PySem.Env → Sem PySem.Fin := fun it acc env => match acc with
  | .ref D => do
    (do
      let kv ← eval kx env
      let vv ← holding [kv] (eval vx env)
      standAt { kx.pos with endLine := vx.pos.endLine, endCol := vx.pos.endCol }
      holding [kv, vv] (dictSet D kv vv))
    again (.compLoop e k it acc env)
  | _ => again (.compLoop e k it acc env)
end
section
variable {X : Cx} {kx vx tg iter tg1 iter1 : Expr} {ifs ifs1 : List Expr} {scope : Scope} {own : List (PySem.Str × Nat)} {vs vs1 : List Nat} {pos : Pos} {wi wi1 : TI} {g g1 : TG} {tt tt1 : TT} {tk tv : TE}
def taDict (tk tv : TE) : TAct := fun D σ H Nx => tk σ H fun y H4 => tv σ H4 fun z H5 => ∃ kvs k, y = kV k ∧ H5 D = some (.dK kvs) ∧ kvs.length < sizeLine ∧ Nx (upd H5 D (.dK (putK kvs k z)))
theorem act_dict {e : Expr} {k : Nat} (hk : ∀ q, PE (blkX X scope q) kx tk) (hv : ∀ q, PE (blkX X scope q) vx tv) : Act X scope vs e k (leafDict kx vx e k) (taDict tk tv) := by
  refine ⟨fun q it D pins s σ H Nx I h => ?_⟩
  refine wpAny_bind (wpAny_bind (thnF ((hk q).run _ s σ H _ I h) fun u s1 ⟨y, H1, I1, r1, h1⟩ => wpAny_bind (wpAny_holding (thnF ((hv q).run _ s1 σ H1 _ I1 h1) fun u2 s2 ⟨z, H2, I2, r2, kvs, key, ey, hD, room, nx⟩ => wpAny_bind (wpAny_standAt (wpAny_holding ?_))))))
  subst ey
  exact d_dictSet (X := blkX X scope q) I2 hD room r1 r2 fun s3 I3 => wpAny_pure ⟨rfl, [], _, fun _ z => absurd z (by simp), I3, nx⟩
theorem pe_dictI2 (hc : X.calm = true) (hN : X.N.Nodup) (hi : PI X tg iter wi) (ok : BlkOk X.N X.env.scope scope own) (hv : ∀ i ∈ vs1, i ∈ own.map (·.2))
    (hg : ∀ q, PG (blkX X scope q) tg g) (ht : ∀ q, PTs (blkX X scope q) ifs tt) (hi1 : ∀ q, PI (blkX X scope q) tg1 iter1 wi1) (hg1 : ∀ q, PG (blkX X scope q) tg1 g1) (ht1 : ∀ q, PTs (blkX X scope q) ifs1 tt1)
    (hk : ∀ q, PE (blkX X scope q) kx tk) (he : ∀ q, PE (blkX X scope q) vx tv) (hs : ∀ x, foldedSetIterable iter X.env x = pure x := by intro _; rfl) (hs1 : ∀ env x, foldedSetIterable iter1 env x = pure x := by intro _ _; rfl) :
    PE X (.DictComp kx vx [⟨tg, iter, ifs, 0⟩, ⟨tg1, iter1, ifs1, 0⟩] scope pos) (tG (fun _ => .dK []) wi g tt (ta2 wi1 g1 tt1 (taDict tk tv) vs1) (own.map (·.2))) :=
  pe_block (mk := newDict) (gs := [⟨tg1, iter1, ifs1, 0⟩]) (tail := tailTwo (.DictComp kx vx [⟨tg, iter, ifs, 0⟩, ⟨tg1, iter1, ifs1, 0⟩] scope pos) iter1) (pos := firstIterPos [⟨tg, iter, ifs, 0⟩, ⟨tg1, iter1, ifs1, 0⟩] pos) (ob := { cls := .type "dict", data := .dict #[] }) hc hN rfl rfl (fun _ _ _ _ _ _ _ h => h) (fun _ _ _ _ _ _ => codeAny_compStart_dict) (fun _ _ _ => rfl) (fun _ _ _ => rfl)
    (fun s Q q => wpAny_newObj_type q) (fun H' I => dk_empty _ I.big) hi ok hg ht
    (act_two (tail1 := leafDict kx vx (.DictComp kx vx [⟨tg, iter, ifs, 0⟩, ⟨tg1, iter1, ifs1, 0⟩] scope pos) 1) hc (fun _ _ _ _ _ _ _ h => h) starts_dict1 (fun _ _ _ => rfl) (fun _ _ _ => rfl) hv hi1 hg1 ht1 (act_dict hk he) hs1) hs
end
end PV

/-! PvAct: what PvComp's comprehensions (and the library's with two fors) say of data. -/
namespace PV
open PySem PySem.Spec PyProof.Rows L2 NdefX LamX -- pv
/-- how an accumulator of the block stands in the heap -/
structure Rep (K : KK) (α : Type) where
  is : Addr → Hp → HO → α → Prop
  mono : ∀ {D : Addr} {H H' : Hp} {ho : HO} {a : α}, Sub H H' → is D H ho a → is D H' ho a
  nt : ∀ {D : Addr} {H : Hp} {ho : HO} {a : α}, is D H ho a → ∀ ps, ho ≠ .tbl ps
abbrev RAct (α : Type) := En → α → (α → Prop) → Prop
class SimAct (K : KK) (ta : TAct) {α : outParam Type} (Y : outParam (Rep K α)) (ra : outParam (RAct α)) : Prop where
  run : ∀ {F B0 B H0 H : Hp} {σ : St} {env : En} {D : Addr} {ho : HO} {acc : α} {R : α → Prop} {Nx : Hp → Prop}, StOk K F B0 B H0 H σ env → H D = some ho → H0 D = none → B D = none → Y.is D H0 ho acc → (∀ (j : Nat) (w : Ow), env[j]? = some (Sl.ow w) → σ[j]? ≠ some (some (.ref D))) →
    ra env acc R → (∀ acc' ho' G0 G, R acc' → Ext K H0 H G0 G → G D = some ho → G0 D = none → Y.is D G0 ho' acc' → Nx (upd G D ho')) → ta D σ H Nx
/-- a target sets data alone -/
class GVal (ρ : RG) (ws : outParam (List Nat)) : Prop where
  run : ∀ {d : Dat} {env : En} {R : En → Prop}, ρ d env R → ρ d env fun env' => R env' ∧ ∀ (j : Nat) (w : Ow), env'[j]? = some (Sl.ow w) → env[j]? = some (Sl.ow w) ∧ j ∉ ws
  mono : ∀ {d : Dat} {env : En} {R R' : En → Prop}, ρ d env R → (∀ e, R e → R' e) → ρ d env R'
class GVals (ρ : RGs) (ws : outParam (List Nat)) : Prop where
  run : ∀ {ds : List Dat} {env : En} {R : En → Prop}, ρ ds env R → ρ ds env fun env' => R env' ∧ ∀ (j : Nat) (w : Ow), env'[j]? = some (Sl.ow w) → env[j]? = some (Sl.ow w) ∧ j ∉ ws
  mono : ∀ {ds : List Dat} {env : En} {R R' : En → Prop}, ρ ds env R → (∀ e, R e → R' e) → ρ ds env R'
instance {i : Nat} : GVal (rgName i) [i] where
  run := fun {d env R} h => ⟨h, fun j w q => by
    by_cases hj : j = i
    · subst hj
      obtain ⟨z, _⟩ := set_get q
      cases z
    · exact ⟨by rw [← q]; exact (List.getElem?_set_ne fun z => hj z.symm).symm, by simpa using hj⟩⟩
  mono := fun h k => k _ h
instance : GVals rgNil [] where
  run := fun h => ⟨h.1, h.2, fun j w q => ⟨q, by simp⟩⟩
  mono := fun h k => ⟨h.1, k _ h.2⟩
instance {a : RG} {b : RGs} {ws ws' : List Nat} [ga : GVal a ws] [gb : GVals b ws'] : GVals (rgCons a b) (ws ++ ws') where
  run := fun {ds env R} ⟨d, r, e, h⟩ => ⟨d, r, e, ga.mono (ga.run h) fun env1 ⟨h1, k1⟩ => gb.mono (gb.run h1) fun env2 ⟨h2, k2⟩ => ⟨h2, fun j w q => by
    obtain ⟨q1, n1⟩ := k2 j w q
    obtain ⟨q2, n2⟩ := k1 j w q1
    exact ⟨q2, fun z => (List.mem_append.mp z).elim n2 n1⟩⟩⟩
  mono := fun ⟨d, r, e, h⟩ k => ⟨d, r, e, ga.mono h fun _ h1 => gb.mono h1 k⟩
instance {n : Nat} {b : RGs} {ws : List Nat} [gb : GVals b ws] : GVal (rgTup n b) ws where
  run := fun {d env R} ⟨ds, e, l, h⟩ => ⟨ds, e, l, gb.run h⟩
  mono := fun ⟨ds, e, l, h⟩ k => ⟨ds, e, l, gb.mono h k⟩
/-- one more step behind a changed accumulator -/
theorem Ext.past {K : KK} {A0 A G0 G : Hp} {D : Addr} {ho ho' : HO} (hA : A D = none) (x : Ext K A0 A G0 G) (g : G D = some ho) (g0 : G0 D = none) (hn : ∀ ps, ho ≠ .tbl ps) : Ext K A0 A G0 (upd G D ho') :=
  ⟨⟨fun b o e n => by rw [upd_ne (ne_of_none e hA)]; exact x.act.of _ _ e n, fun {b} e => by
    by_cases hb : b = D
    · rw [hb]; exact hA
    · rw [upd_ne hb] at e; exact x.act.none e⟩, x.kn, fun b o e => by rw [upd_ne (ne_of_none e g0)]; exact x.inn _ _ e, x.fr, fun P t => (x.tab P t).mono (Sub.refl _) (fun z _ => z) fun ps e => by
    rw [upd_ne fun q => by rw [q, g] at e; exact hn ps (Option.some.inj e)]; exact e⟩
def rAcc {α : Type} (ri : RI) (g : RG) (ws : List Nat) (rt : RT) (ra : RAct α) (vs : List Nat) : RAct α := fun env a0 R => ri env fun ds => (ws.all fun j => decide (j ∈ vs)) = true ∧ ∃ P : Nat → α → Prop, P 0 a0 ∧
  (∀ i d acc, ds[i]? = some d → P i acc → g d (wipeE env vs) fun env2 => rt env2 fun b => if b = true then ra env2 acc (P (i + 1)) else P (i + 1) acc) ∧ ∀ acc, P ds.length acc → R acc
section
variable {K : KK} {wi : TI} {g : TG} {tt : TT} {ta : TAct} {vs : List Nat} {ri : RI} {rg : RG} {ws : List Nat} {rt : RT} {α : Type} {Y : Rep K α} {ra : RAct α} {o0 : Addr → HO}
theorem tG_run [si : SimJ K wi ri] [sg : SimG K g rg ws] [s0 : SimT K tt rt] [gv : GVal rg ws] [sa : SimAct K ta Y ra] {F B0 B H0 H : Hp} {σ : St} {env : En} {a0 : α} {R : α → Prop} {Q : VK} (st : StOk K F B0 B H0 H σ env) (h : rAcc ri rg ws rt ra vs env a0 R) (new : ∀ D H, Y.is D H (o0 D) a0)
    (q : ∀ D acc ho G0 G, R acc → Ext K H0 H G0 G → H D = none → G D = some ho → G0 D = none → Y.is D G0 ho acc → Q (.ref D) G) : tG o0 wi g tt ta vs σ H Q := by
  refine si.run st h fun J ds G0 G ⟨hw, P, p0, ps, pe⟩ x w => fun D hD => ?_
  have hw' : ∀ j ∈ ws, j ∈ vs := fun j hj => of_decide_eq_true (List.all_eq_true.mp hw j hj)
  have stG := st.go x
  have hB : B D = none := stG.ext.act.none hD
  have hDH : H D = none := x.act.none hD
  have stW := stG.wipe vs
  have nown : ∀ (j : Nat) (w : Ow), (wipeE env vs)[j]? = some (Sl.ow w) → (L2.wipe σ vs)[j]? ≠ some (some (.ref D)) := Den.notOwned (H0s := G0) (Hs := G) stW hD
  refine ⟨fun i k H' => k = ds.length - i ∧ i ≤ ds.length ∧ ∃ acc ho Hk, H' D = some ho ∧ Hk D = none ∧ Y.is D Hk ho acc ∧ Ext K G0 G Hk H' ∧ StOk K F B0 B Hk H' (L2.wipe σ vs) (wipeE env vs) ∧ P i acc,
    ⟨ds.length, rfl, Nat.zero_le _, a0, o0 D, G0, upd_same, x.inn.none hD, new D G0, Ext.hid x.inn hD, stW.other hB (x.inn.none hD) (fun ps z => by rw [hD] at z; cases z) nown, p0⟩, ?_⟩
  rintro i k H' ⟨rfl, hi, acc, ho, Hk, e1, e2, e3, e4, e5, p1⟩
  by_cases hlt : i < ds.length
  · refine .inr ⟨w.goes i H' e4.act hlt, fun H'' => ∃ acc ho Hk, H'' D = some ho ∧ Hk D = none ∧ Y.is D Hk ho acc ∧ Ext K G0 G Hk H'' ∧ StOk K F B0 B Hk H'' (L2.wipe σ vs) (wipeE env vs) ∧ P (i + 1) acc, fun H'' z => ⟨ds.length - (i + 1), by omega, rfl, hlt, z⟩, fun v H2 y => ?_⟩
    obtain ⟨d, H02, ed, x2, dv⟩ := w.yields i Hk H' v H2 e4.kn e4.inn e4.act hlt y
    refine sg.run (e5.go x2) dv (gv.run (ps i d acc ed p1)) fun σ3 env3 ⟨h3, v3⟩ st3 l3 k3 => ⟨wipe_same l3 k3 hw', ?_⟩
    refine s0.run st3 h3 fun b I0 I hb xb => ?_
    have x3 := x2.trans xb
    have eI : I D = some ho := x3.act.of _ _ e1 (Y.nt e3)
    have nI : I0 D = none := x3.fr D e2 (by rw [e1]; simp)
    cases b with
    | false =>
      show ∃ acc ho Hk, _
      exact ⟨acc, ho, I0, eI, nI, Y.mono x3.kn e3, e4.trans x3, e5.go x3, hb⟩
    | true =>
      show ta _ _ _ _
      have st4 := st3.go xb
      refine sa.run st4 eI nI hB (Y.mono x3.kn e3) (fun j w q z => ?_) hb fun acc' ho' N0 N hr xN eN nN y' => ?_
      · obtain ⟨q1, nj⟩ := v3 j w q
        rw [k3 j nj] at z
        exact nown j w q1 z
      · have xt := x3.trans xN
        refine ⟨acc', ho', N0, upd_same, nN, y', ?_, (e5.go xt).other hB nN (fun ps z => by rw [eN] at z; exact Y.nt e3 ps (Option.some.inj z)) nown, hr⟩
        exact Ext.past hD (e4.trans xt) eN nN (Y.nt e3)
  · have e : i = ds.length := by omega
    subst e
    exact .inl ⟨w.stops H' e4.act, q D acc ho Hk H' (pe acc p1) (x.trans e4) hDH e1 e2 e3⟩
end
/-! ### a second for -/
theorem wipeE_own {env : En} {j : Nat} {w : Ow} : ∀ {vs : List Nat}, (wipeE env vs)[j]? = some (Sl.ow w) → env[j]? = some (Sl.ow w)
  | [], h => h
  | v :: vs, h => by
    have h : ((wipeE env vs).set v Sl.un)[j]? = some (Sl.ow w) := h
    rw [List.getElem?_set] at h
    split at h
    · split at h <;> cases h
    · exact wipeE_own h
/-- the object at D put back as it was, on both sides -/
theorem Ext.swap {K : KK} {A0 G N0 N : Hp} {D : Addr} {h0 h1 : HO} (x : Ext K A0 (upd G D h1) N0 N) (hN : N0 D = none) (t0 : ∀ ps, h0 ≠ .tbl ps) : Ext K A0 (upd G D h0) N0 (upd N D h0) where
  act := ⟨fun b o e n => by
    by_cases hb : b = D
    · subst hb
      rw [upd_same] at e ⊢
      exact e
    · rw [upd_ne hb] at e ⊢
      exact x.act.of _ _ (by rw [upd_ne hb]; exact e) n, fun {b} e => by
    by_cases hb : b = D
    · subst hb
      rw [upd_same] at e
      cases e
    · rw [upd_ne hb] at e ⊢
      have z := x.act.none e
      rw [upd_ne hb] at z
      exact z⟩
  kn := x.kn
  inn := fun b o e => by rw [upd_ne (ne_of_none e hN)]; exact x.inn _ _ e
  fr := fun b e n => by
    by_cases hb : b = D
    · rw [hb]; exact hN
    · exact x.fr b e (by rw [upd_ne hb] at n ⊢; exact n)
  tab := fun P t => by
    have hP : P ≠ D := fun z => by
      obtain ⟨_, ps, e, _⟩ := t
      rw [z, upd_same] at e
      exact t0 ps (Option.some.inj e)
    have t1 : TabK K A0 (upd G D h1) P := t.mono (Sub.refl _) (fun z _ => z) fun ps e => by rw [upd_ne hP] at e ⊢; exact e
    exact (x.tab P t1).mono (Sub.refl _) (fun z _ => z) fun ps e => by rw [upd_ne hP]; exact e
theorem upd_back {H : Hp} {D : Addr} {h0 h1 : HO} (e : H D = some h0) : upd (upd H D h1) D h0 = H := by
  funext b
  by_cases hb : b = D
  · subst hb; rw [upd_same, e]
  · rw [upd_ne hb, upd_ne hb]
theorem upd_two {H : Hp} {D : Addr} {h0 h1 : HO} : upd (upd H D h1) D h0 = upd H D h0 := by
  funext b
  by_cases hb : b = D
  · subst hb; rw [upd_same, upd_same]
  · rw [upd_ne hb, upd_ne hb, upd_ne hb]
theorem upd_self {H : Hp} {D : Addr} {h0 : HO} (e : H D = some h0) : upd H D h0 = H := by
  funext b
  by_cases hb : b = D
  · subst hb; rw [upd_same, e]
  · rw [upd_ne hb]
instance {K : KK} {wi1 : TI} {g1 : TG} {tt1 : TT} {ta : TAct} {vs1 : List Nat} {ri : RI} {rg : RG} {ws : List Nat} {rt : RT} {α : Type} {Y : Rep K α} {ra : RAct α} [si : SimI K wi1 ri] [sg : SimG K g1 rg ws] [s0 : SimT K tt1 rt] [gv : GVal rg ws] [sa : SimAct K ta Y ra] : SimAct K (ta2 wi1 g1 tt1 ta vs1) Y (rAcc ri rg ws rt ra vs1) where
  run := by
    intro F B0 B H0 H σ env D ho acc0 R Nx st hD h0D hB y0 nown h nx
    refine si.run st h fun J ds G0 G ⟨hw, P, p0, ps, pe⟩ x w => ?_
    have hw' : ∀ j ∈ ws, j ∈ vs1 := fun j hj => of_decide_eq_true (List.all_eq_true.mp hw j hj)
    have stG := st.go x
    have gD : G D = some ho := x.act.of _ _ hD (Y.nt y0)
    have g0D : G0 D = none := x.fr D h0D (by rw [hD]; simp)
    have stW := stG.wipe vs1
    have nownW : ∀ (j : Nat) (w : Ow), (wipeE env vs1)[j]? = some (Sl.ow w) → (L2.wipe σ vs1)[j]? ≠ some (some (.ref D)) := fun j w q z => by
      have q' : env[j]? = some (Sl.ow w) := wipeE_own q
      obtain ⟨o, _, h1, _⟩ := stG.own j w q'
      have z' := (L2.wipe_some z).1
      exact nown j w q' z'
    refine ⟨fun i k H' => k = ds.length - i ∧ i ≤ ds.length ∧ ∃ acc hn Hk, H' D = some hn ∧ Hk D = none ∧ Y.is D Hk hn acc ∧ Sub G0 Hk ∧ Ext K H0 H Hk (upd H' D ho) ∧ StOk K F B0 B Hk H' (L2.wipe σ vs1) (wipeE env vs1) ∧ P i acc,
      ⟨ds.length, rfl, Nat.zero_le _, acc0, ho, G0, gD, g0D, Y.mono x.kn y0, Sub.refl _, by rw [upd_self gD]; exact x, stW, p0⟩, ?_⟩
    rintro i k H' ⟨rfl, hi, acc, hn, Hk, e1, e2, e3, e6, e4, e5, p1⟩
    by_cases hlt : i < ds.length
    · refine .inr ⟨w.goes i H' (e6.trans e5.inn).grow hlt, fun H'' => ∃ acc hn Hk, H'' D = some hn ∧ Hk D = none ∧ Y.is D Hk hn acc ∧ Sub G0 Hk ∧ Ext K H0 H Hk (upd H'' D ho) ∧ StOk K F B0 B Hk H'' (L2.wipe σ vs1) (wipeE env vs1) ∧ P (i + 1) acc, fun H'' z => ⟨ds.length - (i + 1), by omega, rfl, hlt, z⟩, fun v H2 yv => ?_⟩
      obtain ⟨d, H02, ed, x2, dv⟩ := w.yields i Hk H' v H2 e6 e5.inn hlt yv
      refine sg.run (e5.go x2) dv (gv.run (ps i d acc ed p1)) fun σ3 env3 ⟨h3, v3⟩ st3 l3 k3 => ⟨wipe_same l3 k3 hw', ?_⟩
      refine s0.run st3 h3 fun b I0 I hb xb => ?_
      have x3 := x2.trans xb
      have eI : I D = some hn := x3.act.of _ _ e1 (Y.nt e3)
      have nI : I0 D = none := x3.fr D e2 (by rw [e1]; simp)
      have back : ∀ {N0 N : Hp} {h2 : HO}, Ext K Hk H' N0 N → N0 D = none → Ext K H0 H N0 (upd (upd N D h2) D ho) := fun {N0 N h2} xx nn => by
        rw [upd_two]
        refine e4.trans ?_
        refine Ext.swap (h1 := hn) (G := H') ?_ nn (Y.nt y0)
        rw [upd_self e1]
        exact xx
      cases b with
      | false =>
        show ∃ acc hn Hk, _
        refine ⟨acc, hn, I0, eI, nI, Y.mono x3.kn e3, e6.trans x3.kn, ?_, e5.go x3, hb⟩
        have z := back (h2 := hn) x3 nI
        rw [upd_two] at z
        exact z
      | true =>
        show ta _ _ _ _
        have st4 := st3.go xb
        refine sa.run st4 eI nI hB (Y.mono x3.kn e3) (fun j w q z => ?_) hb fun acc' ho' N0 N hr xN eN nN y' => ?_
        · obtain ⟨q1, nj⟩ := v3 j w q
          rw [k3 j nj] at z
          exact nownW j w q1 z
        · have xt := x3.trans xN
          exact ⟨acc', ho', N0, upd_same, nN, y', e6.trans xt.kn, back xt nN, (e5.go xt).other hB nN (fun ps z => by rw [eN] at z; exact Y.nt e3 ps (Option.some.inj z)) nownW, hr⟩
    · have e : i = ds.length := by omega
      subst e
      refine .inl ⟨w.stops H' (e6.trans e5.inn).grow, ?_⟩
      have z := nx acc hn Hk (upd H' D ho) (pe acc p1) e4 upd_same e2 e3
      rw [upd_two, upd_self e1] at z
      exact z
/-! ### leaves -/
def repL (K : KK) : Rep K (List Dat) where
  is := fun _ H ho acc => ∃ av, ho = .lst av ∧ DpAll K H av acc
  mono := fun s ⟨av, e, h⟩ => ⟨av, e, dpAll_mono s _ _ h⟩
  nt := fun ⟨av, e, _⟩ ps z => by rw [e] at z; cases z
def taLst (te : TE) : TAct := fun D σ H Nx => te σ H fun y H7 => ∃ acc, H7 D = some (.lst acc) ∧ acc.length < sizeLine ∧ Nx (upd H7 D (.lst (acc ++ [y])))
def raLst (re : RE) : RAct (List Dat) := fun env acc R => re env fun s => ∃ y, s.toD = some y ∧ acc.length < sizeLine ∧ R (acc ++ [y])
instance {K : KK} {te : TE} {re : RE} [se : SimE K te re] : SimAct K (taLst te) (repL K) (raLst re) where
  run := by
    intro F B0 B H0 H σ env D ho acc R Nx st hD h0 hB y0 nown h nx
    obtain ⟨av, e, da⟩ := y0
    refine se.run st h fun u s M0 M ⟨yd, ey, hz, hr⟩ xm dn => ?_
    obtain ⟨N0, xN, sN, pN, nN⟩ := dn.keep xm ey
    have eM : M D = some ho := xN.act.of _ _ hD (by rw [e]; intro ps z; cases z)
    exact ⟨av, by rw [eM, e], by rw [da.pvLen]; exact hz, nx (acc ++ [yd]) (.lst (av ++ [u])) N0 M hr xN eM (xN.fr D h0 (by rw [hD]; simp)) ⟨_, rfl, (dpAll_mono xN.kn _ _ da).pvApp (.cons pN .nil)⟩⟩
def repS (K : KK) : Rep K (List Int) where
  is := fun D _ ho acc => ∃ n, ho = SetO K.w D (fun k => decide (k ∈ acc)) n ∧ n ≤ acc.length
  mono := fun _ h => h
  nt := fun ⟨n, e, _⟩ ps z => by rw [e] at z; cases z
def raSet (re : RE) : RAct (List Int) := fun env acc R => re env fun s => ∃ c, s.rd = .int c ∧ acc.length < 4000 ∧ R (c :: acc)
instance {K : KK} {te : TE} {re : RE} [se : SimE K te re] : SimAct K (taSet K.w te) (repS K) (raSet re) where
  run := by
    intro F B0 B H0 H σ env D ho acc R Nx st hD h0 hB y0 nown h nx
    obtain ⟨n, e, hn⟩ := y0
    subst e
    refine se.run st h fun u s M0 M ⟨c, ec, hz, hr⟩ xm dn => ?_
    have eu := dn.asInt (st.go xm) ec
    have eM : M D = some (SetO K.w D (fun k => decide (k ∈ acc)) n) := xm.act.of _ _ hD (by intro ps z; cases z)
    refine ⟨c, _, n, eu, eM, by show n + 1 < 4096; omega, nx (c :: acc) _ M0 M hr xm eM (xm.fr D h0 (by rw [hD]; simp)) ⟨if decide (c ∈ acc) = true then n else n + 1, ?_, ?_⟩⟩
    · congr 1
      funext k
      by_cases hk : k = c <;> simp [hk]
    · split <;> simp only [List.length_cons] <;> omega
def repD (K : KK) : Rep K (List (Dat × Dat)) where
  is := fun _ H ho acc => ∃ ks, ho = .dK ks ∧ DpK K H ks acc
  mono := fun s ⟨ks, e, h⟩ => ⟨ks, e, dpK_mono' s h⟩
  nt := fun ⟨ks, e, _⟩ ps z => by rw [e] at z; cases z
def raDict (rk rv : RE) : RAct (List (Dat × Dat)) := fun env acc R => rk env fun sk => rv env fun sv => ∃ c vd, sk.rd = .int c ∧ sv.toD = some vd ∧ acc.length < sizeLine ∧ R (putD acc (.int c) vd)
instance {K : KK} {tk tv : TE} {rk rv : RE} [sk : SimE K tk rk] [sv : SimE K tv rv] : SimAct K (taDict tk tv) (repD K) (raDict rk rv) where
  run := by
    intro F B0 B H0 H σ env D ho acc R Nx st hD h0 hB y0 nown h nx
    obtain ⟨ks, e, da⟩ := y0
    refine sk.run st h fun u1 s1 L0 L h1 xl dl => sv.run (st.go xl) h1 fun u s M0 M ⟨c, vd, ec, ev, hz, hr⟩ xm dn => ?_
    have eu := dl.asInt (st.go xl) ec
    obtain ⟨N0, xN, sN, pN, nN⟩ := dn.keep xm ev
    have xt := xl.trans xN
    have eM : M D = some ho := xt.act.of _ _ hD (by rw [e]; intro ps z; cases z)
    exact ⟨ks, .inl c, eu, by rw [eM, e], by rw [da.pvLen]; exact hz, nx _ (.dK (putK ks (.inl c) u)) N0 M hr xt eM (xt.fr D h0 (by rw [hD]; simp)) ⟨_, rfl, putK_put (.inl c) pN (dpK_mono' xt.kn da)⟩⟩
/-! ### the comprehensions as results -/
/-- [x for .. in .. if .. for .. in .. if ..] -/
def rLc2 (ra : RAct (List Dat)) : RE := fun env R => ra env [] fun acc => R (.fresh acc)
instance {K : KK} {wi wi1 : TI} {g g1 : TG} {tt tt1 : TT} {te : TE} {vs vs1 : List Nat} {ri ri1 : RI} {rg rg1 : RG} {ws ws1 : List Nat} {rt rt1 : RT} {re : RE} [si : SimJ K wi ri] [sg : SimG K g rg ws] [s0 : SimT K tt rt] [gv : GVal rg ws]
    [si1 : SimI K wi1 ri1] [sg1 : SimG K g1 rg1 ws1] [s1 : SimT K tt1 rt1] [gv1 : GVal rg1 ws1] [se : SimE K te re] : SimE K (tLc2 wi g tt wi1 g1 tt1 te vs vs1) (rLc2 (rAcc ri rg ws rt (rAcc ri1 rg1 ws1 rt1 (raLst re) vs1) vs)) where
  run := by
    intro F B0 B H0 H σ env Q R st h q
    show tG (fun _ => .lst []) wi g tt (ta2 wi1 g1 tt1 (taLst te) vs1) vs σ H Q
    exact tG_run (ta := ta2 wi1 g1 tt1 (taLst te) vs1) (Y := repL K) st h (fun _ _ => ⟨[], rfl, .nil⟩) fun D acc ho G0 G hr x hD hG hG0 y => by
      obtain ⟨av, e, da⟩ := y
      exact q _ (.fresh acc) G0 G hr x ⟨D, ho, rfl, hD, hG0, hG, av, e, da⟩
/-- sorted({x for ..}) -/
def rSortSc (ra : RAct (List Int)) : RE := fun env R => ra env [] fun acc => ∀ ns : List Int, ns.Pairwise (· < ·) → (∀ k, k ∈ ns ↔ k ∈ acc) → R (.fresh (ns.map PyData.int))
instance {K : KK} {wi : TI} {g : TG} {tt : TT} {ta : TAct} {vs : List Nat} {ri : RI} {rg : RG} {ws : List Nat} {rt : RT} {ra : RAct (List Int)} [si : SimJ K wi ri] [sg : SimG K g rg ws] [s0 : SimT K tt rt] [gv : GVal rg ws] [sa : SimAct K ta (repS K) ra] :
    SimE K (tCB (rSortSet K.w) (tCons (tG (fun D => SetO K.w D (fun _ => false) 0) wi g tt ta vs) tNil)) (rSortSc (rAcc ri rg ws rt ra vs)) where
  run := by
    intro F B0 B H0 H σ env Q R st h q
    unfold tCB tCons tNil
    refine tG_run (Y := repS K) st h (fun _ _ => ⟨0, by simp, Nat.le_refl _⟩) fun D acc ho G0 G hr x hD hG hG0 y => ?_
    obtain ⟨n, e, hn⟩ := y
    subst e
    refine ⟨D, _, n, rfl, hG, fun ns p h1 h2 hp => ?_⟩
    have dn : ∀ l : List Int, DpAll K G0 (l.map V.int) (l.map PyData.int) := fun l => by
      induction l with
      | nil => exact .nil
      | cons i l ih => exact .cons (.int i) ih
    exact q _ (.fresh (ns.map PyData.int)) G0 _ (hr ns h1 fun k => (h2 k).trans (by simp)) (x.trans (Ext.hid x.inn hp)) ⟨p, _, rfl, x.act.none hp, x.inn.none hp, upd_same, _, rfl, dn ns⟩
/-- {k: v for ..} -/
def rDc (ra : RAct (List (Dat × Dat))) : RE := fun env R => ra env [] fun acc => R (.fr (.dct acc))
instance {K : KK} {wi : TI} {g : TG} {tt : TT} {ta : TAct} {vs : List Nat} {ri : RI} {rg : RG} {ws : List Nat} {rt : RT} {ra : RAct (List (Dat × Dat))} [si : SimJ K wi ri] [sg : SimG K g rg ws] [s0 : SimT K tt rt] [gv : GVal rg ws] [sa : SimAct K ta (repD K) ra] :
    SimE K (tG (fun _ => .dK []) wi g tt ta vs) (rDc (rAcc ri rg ws rt ra vs)) where
  run := by
    intro F B0 B H0 H σ env Q R st h q
    refine tG_run (Y := repD K) st h (fun _ _ => ⟨[], rfl, .nil⟩) fun D acc ho G0 G hr x hD hG hG0 y => ?_
    obtain ⟨ks, e, da⟩ := y
    exact q _ (.fr (.dct acc)) G0 G hr x ⟨D, ho, rfl, hD, hG0, hG, by rw [e]; exact .leaf da⟩
end PV
namespace PV
open PySem PySem.Spec PyProof.Rows L2 NdefX LamX -- pv
/-! ### the same with K's world -/
section
variable {X : Cx} {K : KK} {elt kx vx tg iter tg1 iter1 : Expr} {ifs ifs1 : List Expr} {scope : Scope} {own : List (PySem.Str × Nat)} {vs1 : List Nat} {pos : Pos} {wi wi1 : TI} {g g1 : TG} {tt tt1 : TT} {te : TE}
theorem call_sortedSetW (hw : X.w = K.w) (hc : X.calm = true) : CallR X (.builtin "sorted") (rSortSet K.w) := hw ▸ call_sortedSetK hc
theorem pe_setW (hw : X.w = K.w) (hc : X.calm = true) (hN : X.N.Nodup) (hi : PI X tg iter wi) (ok : BlkOk X.N X.env.scope scope own)
    (hg : ∀ q, PG (blkX X scope q) tg g) (ht : ∀ q, PTs (blkX X scope q) ifs tt) (he : ∀ q, PE (blkX X scope q) elt te) (hs : ∀ x, foldedSetIterable iter X.env x = pure x := by intro _; rfl) :
    PE X (.SetComp elt [⟨tg, iter, ifs, 0⟩] scope pos) (tG (fun D => SetO K.w D (fun _ => false) 0) wi g tt (taSet K.w te) (own.map (·.2))) := hw ▸ pe_setI hc hN hi ok hg ht he hs
theorem pe_setW2 (hw : X.w = K.w) (hc : X.calm = true) (hN : X.N.Nodup) (hi : PI X tg iter wi) (ok : BlkOk X.N X.env.scope scope own) (hv : ∀ i ∈ vs1, i ∈ own.map (·.2))
    (hg : ∀ q, PG (blkX X scope q) tg g) (ht : ∀ q, PTs (blkX X scope q) ifs tt) (hi1 : ∀ q, PI (blkX X scope q) tg1 iter1 wi1) (hg1 : ∀ q, PG (blkX X scope q) tg1 g1) (ht1 : ∀ q, PTs (blkX X scope q) ifs1 tt1)
    (he : ∀ q, PE (blkX X scope q) elt te) (hs : ∀ x, foldedSetIterable iter X.env x = pure x := by intro _; rfl) (hs1 : ∀ env x, foldedSetIterable iter1 env x = pure x := by intro _ _; rfl) :
    PE X (.SetComp elt [⟨tg, iter, ifs, 0⟩, ⟨tg1, iter1, ifs1, 0⟩] scope pos) (tG (fun D => SetO K.w D (fun _ => false) 0) wi g tt (ta2 wi1 g1 tt1 (taSet K.w te) vs1) (own.map (·.2))) :=
  hw ▸ pe_setI2 hc hN hi ok hv hg ht hi1 hg1 ht1 he hs hs1
end
end PV

/-! PvBack: xs.reverse(); a walk over reversed(range(n)). -/
namespace PV
open PySem PySem.Spec PyProof.Rows L2 NdefX LamX -- pv
theorem pvRev {K : KK} {H : Hp} : ∀ {vs : List V} {ds : List Dat}, DpAll K H vs ds → DpAll K H vs.reverse ds.reverse
  | _, _, .nil => .nil
  | _, _, .cons h t => by
    rw [List.reverse_cons, List.reverse_cons]
    exact (pvRev t).pvApp (.cons h .nil)
def rRevS (j : Nat) : RS := fun E env => ∃ ds, env[j]? = some (Sl.own ds) ∧ E.nx (env.set j (.own ds.reverse))
instance {K : KK} {j : Nat} : SimS K (tDrop (tBM0 K.fr "list" rReverse (tVar j))) (rRevS j) where
  run := by
    intro F B0 B H0 H σ env D E st ⟨ds, e, h⟩ m
    obtain ⟨o, vs, h1, h2, h3, h4, h5⟩ := st.ownL j _ e
    exact ⟨.ref o, h1, .inl ⟨rfl, vs, .inl (.inl h4)⟩, o, vs, rfl, rfl, h4, m.nx h (st.writeW e h1 ⟨_, rfl, pvRev h5⟩)⟩
def intsDown (n : Nat) : List Dat := (List.range n).map fun (i : Nat) => PyData.int ((n : Int) - 1 - i)
theorem WalkD.down {K : KK} {n : Nat} {G0 : Hp} : WalkD K (Itc ((n : Int) - 1) (-1) n) (intsDown n) G0 where
  goes := fun i H s hi => by
    have : (intsDown n).length = n := by simp [intsDown]
    exact walk_rangeC.goes i H (this ▸ hi) trivial
  stops := fun H s => by
    have : (intsDown n).length = n := by simp [intsDown]
    rw [this]
    exact walk_rangeC.stops H trivial
  yields := fun i H0 H x H' s s' hi y => by
    have hl : (intsDown n).length = n := by simp [intsDown]
    rw [hl] at hi
    obtain ⟨rfl, e⟩ := walk_rangeC.yields i H x H' hi trivial y
    subst e
    refine ⟨.int ((n : Int) - 1 - i), H0, by simp [intsDown, hi], Ext.refl s', ?_⟩
    show Dp K H0 (V.int ((n : Int) - 1 + (i : Nat) * (-1))) _
    rw [show (n : Int) - 1 + (i : Nat) * (-1) = (n : Int) - 1 - i from by omega]
    exact Dp.int _
def riRevR (ra : RE) : RI := fun env R => ra env fun a => ∃ j, a.rd = .int j ∧ -(2 ^ 62) ≤ j ∧ j < 2 ^ 62 ∧ R (intsDown j.toNat)
instance {K : KK} {ta : TE} {ra : RE} [sa : SimE K ta ra] : SimI K (iRevR (tRg1 ta)) (riRevR ra) where
  run := fun {F B0 B H0 H σ env Q R} st h q => sa.run st h fun v a G0 G ⟨j, ea, h1, h2, hr⟩ x da => by
    have e1 := da.asInt (st.go x) ea
    subst e1
    refine ⟨j, rfl, by omega, by omega, h1, h2, ?_⟩
    have z := q _ _ _ _ hr x WalkD.down
    rw [show (0 : Int) + (((j - 0).toNat : Nat) : Int) - 1 = ((j.toNat : Nat) : Int) - 1 from by omega, show (j - 0).toNat = j.toNat from by omega]
    exact z
/-- a < b <= c -/
def rChain (ρ ρ' : R2p) (ra rb rc : RE) : RE := fun env R => ra env fun a => rb env fun b => ρ a b fun z => ∃ k, z = .val (.bool k) ∧ if k = true then rc env fun c => ρ' b c R else R (.val (.bool false))
instance {K : KK} {r r' : R2} {ρ ρ' : R2p} {ta tb tc : TE} {ra rb rc : RE} [m : Im2 K r ρ] [m' : Im2 K r' ρ'] [sa : SimE K ta ra] [sb : SimE K tb rb] [sc : SimE K tc rc] : SimE K (tChain r r' ta tb tc) (rChain ρ ρ' ra rb rc) where
  run := by
    intro F B0 B H0 H σ env Q R st h q
    refine sa.run st h fun x a G0 G ha xa da => ?_
    have st1 := st.go xa
    refine sb.run st1 ha fun y b I0 I hb xb db => ?_
    have st2 := st1.go xb
    have x2 := xa.trans xb
    refine m.run st2 (da.go xb) (db.start xa.act) hb fun v s J0 J ⟨k, ez, hk⟩ xc dn => ?_
    subst ez
    cases (show Dp K J0 v (.bool k) from dn)
    refine ⟨k, rfl, ?_⟩
    have x3 := x2.trans xc
    cases k with
    | false =>
      simp only [Bool.false_eq_true, if_false] at hk ⊢
      exact q _ _ _ _ hk x3 (Dp.bl _)
    | true =>
      simp only [if_true] at hk ⊢
      refine sc.run (st2.go xc) hk fun w c L0 L hc xd dc => ?_
      exact m'.run ((st2.go xc).go xd) ((db.go (xc.trans xd)).start xa.act) (dc.start x3.act) hc (q.after (x3.trans xd))
/-! ### an accumulator as a fold -/
theorem acc_intro {α β : Type} {ri : RI} {g : RG} {ws : List Nat} {rt : RT} {ra : RAct β} {vs : List Nat} {env : En} {a0 : β} {R : β → Prop} (xs : List α) (enc : α → Dat) (F : β → α → β) (hri : ∀ Q : List Dat → Prop, Q (xs.map enc) → ri env Q)
    (hs : ∀ (i : Nat) (x : α) (acc : β), xs[i]? = some x → acc = (xs.take i).foldl F a0 → ∀ M : β → Prop, M (F acc x) → g (enc x) (wipeE env vs) fun env2 => rt env2 fun b => if b = true then ra env2 acc M else M acc)
    (h : R (xs.foldl F a0)) (hw : (ws.all fun j => decide (j ∈ vs)) = true := by decide) : rAcc ri g ws rt ra vs env a0 R := by
  refine hri _ ⟨hw, fun i acc => i ≤ xs.length ∧ acc = (xs.take i).foldl F a0, ⟨Nat.zero_le _, rfl⟩, fun i d acc hd ⟨hi, ha⟩ => ?_, fun acc ⟨hi, ha⟩ => ?_⟩
  · rw [List.getElem?_map] at hd
    cases ex : xs[i]? with
    | none => rw [ex] at hd; cases hd
    | some x =>
      rw [ex] at hd
      cases hd
      have lt : i < xs.length := (List.getElem?_eq_some_iff.mp ex).1
      have e2 : (xs.take (i + 1)).foldl F a0 = F acc x := by rw [List.take_add_one, ex, ha]; simp
      exact hs i x acc ex ha (fun b => i + 1 ≤ xs.length ∧ b = (xs.take (i + 1)).foldl F a0) ⟨lt, e2.symm⟩
  · rw [List.length_map, List.take_length] at ha
    rw [ha]
    exact h
theorem foldl_snoc {α β : Type} (f : α → β) : ∀ (l : List α) (acc : List β), l.foldl (fun acc y => acc ++ [f y]) acc = acc ++ l.map f
  | [], acc => by simp
  | x :: l, acc => by rw [List.foldl_cons, foldl_snoc f l, List.map_cons, List.append_assoc]; rfl
theorem foldl_len {α β : Type} {F : List β → α → List β} {c : Nat} (h : ∀ acc y, (F acc y).length ≤ acc.length + c) : ∀ (l : List α) (acc : List β), (l.foldl F acc).length ≤ acc.length + c * l.length
  | [], acc => by simp
  | x :: l, acc => by
    have a := foldl_len h l (F acc x)
    have b := h acc x
    rw [List.foldl_cons, List.length_cons, Nat.mul_add]
    omega
theorem foldl_app {α β : Type} (f : α → List β) : ∀ (l : List α) (acc : List β), l.foldl (fun acc x => acc ++ f x) acc = acc ++ l.flatMap f
  | [], acc => by simp
  | x :: l, acc => by rw [List.foldl_cons, foldl_app f l, List.flatMap_cons, List.append_assoc]
end PV

/-! PvMinD: min of two data, min of a dict's values. -/
namespace PV
open PySem PySem.Spec PyProof.Rows L2 NdefX LamX -- pv
/-- min(a, b) of alike data -/
def rMin2D (K : KK) : List V → Hp → VK → Prop := fun vs H Q => ∃ x y d e, vs = [x, y] ∧ L2.Dp K.fr H x d ∧ L2.Dp K.fr H y e ∧ PySem.W.AlikeAll [d, e] ∧ PyData.depthAll [d, e] ≤ 63 ∧ Q (if PySem.W.dataLt e d = true then y else x) H
theorem alloc_tup2 {P : Program} {w : World} {A : Around} {E : Value → Shared → Prop} {s : Shared} {a b : Value} {Q : Value → Shared → Prop} (h : Q (.ref s.heap.objs.size) { s with heap := s.heap.push { cls := .type "tuple", data := .seq #[a, b] } }) :
    wpAny (model P w) A (newTuple [a, b]) Q E s := wpAny_newObj_type h
theorem min_pair {P : Program} {w : World} {A : Around} {E : Value → Shared → Prop} {s : Shared} {a b : Value} {d e : PyData} {as bs : List Addr} {Q : Value → Shared → Prop} (hh : A.handled = none) (ra : PySem.Reads s.heap a d as) (rb : PySem.Reads s.heap b e bs)
    (al : PySem.W.AlikeAll [d, e]) (hu : A.units + 1 + PyData.depthAll [d, e] < cLine)
    (h : ∀ h' tk, (∀ c o, s.heap.get? c = some o → h'.get? c = some o) → Q (if PySem.W.dataLt e d = true then b else a) { s with heap := h', toks := tk }) : wpAny (model P w) A (call (.builtin "min") [a, b]) Q E s := by
  refine call_function_tree F.kind_min F.plain_min F.entry_min (F.args_min2 _ _) ?_
  refine wpAny_bind (wpAny_of_eq (show Builtin.Builtins.bindParams "min" ["key", "default"] 0 ⟨[], []⟩ = pure [none, none] from rfl) ?_)
  refine wpAny_bind (alloc_tup2 ?_)
  generalize hs1 : ({ s with heap := s.heap.push { cls := .type "tuple", data := .seq #[a, b] } } : Shared) = s1
  have k1 : ∀ c o, s.heap.get? c = some o → s1.heap.get? c = some o := fun c o z => by rw [← hs1]; exact Heap.get?_push_of_some _ z
  have hT : s1.heap.IsTuple s.heap.objs.size #[a, b] := by rw [← hs1]; exact ⟨_, Heap.get?_push_size _ rfl, rfl, 0, rfl⟩
  have rr : PySem.ReadsAll s1.heap (#[a, b] : Array Value).toList [d, e] (as ++ (bs ++ [])) := .cons (PyProof.Rows.Reads.keeps k1 ra) (.cons (PyProof.Rows.Reads.keeps k1 rb) .nil)
  refine wpAny_bind (PySem.W.iter_tupleW (A := A.in1) hh hT fun s2 z W st hfp hw hk => ?_)
  refine wpAny_bind (wpAny_newObj_type ?_)
  have hSf : s2.heap.objs.size ∉ [s1.heap.objs.size, s.heap.objs.size] := fun m => Nat.lt_irrefl _ (hfp _ m)
  refine wpAny_pure ⟨plainId_quiet F.plain_min_loop _, codeAny_min_loop_firstH W s1.heap hw _ (PySem.W.cmpIn_lt (A := A.in1) rr al (by show A.units + 1 + _ < _; exact hu)) s2.heap.objs.size hSf (fresh_in hk) _ (by show 0 < 2; decide) (fun b o z => Heap.get?_push_of_some _ (hk b o z))
    (W.frame 0 s2 _ s2.toks st (Nat.le_refl _) fun b _ o z => Heap.get?_push_of_some _ z) (Heap.get?_push_size _ rfl) fun v s' hP hm => ?_⟩
  obtain ⟨h', tk, rfl, hk'⟩ := PySem.W.moved_old z rfl (Moved.drop_new (tk := s2.toks) hm (Nat.le_refl _))
  have hv : v = if PySem.W.dataLt e d = true then b else a := by
    have q : (#[a, b] : Array Value)[argBest (fun i j => PySem.W.dataLt ([d, e].getD i .none) ([d, e].getD j .none)) 1]? = some v := hP
    by_cases c : PySem.W.dataLt e d = true
    · have : argBest (fun i j => PySem.W.dataLt ([d, e].getD i .none) ([d, e].getD j .none)) 1 = 1 := by simp [argBest, c]
      rw [this] at q
      rw [if_pos c]
      exact (Option.some.inj q).symm
    · have : argBest (fun i j => PySem.W.dataLt ([d, e].getD i .none) ([d, e].getD j .none)) 1 = 0 := by simp [argBest, c]
      rw [this] at q
      rw [if_neg c]
      exact (Option.some.inj q).symm
  rw [hv]
  have z2 := h h' tk fun c o q => hk' c o (k1 c o q)
  rw [← hs1]
  exact z2
theorem call_min2D {X : Cx} {K : KK} (h : X.K = K.fr) (hc : X.calm = true) (hu : X.A.units + 65 < cLine) : CallR X (.builtin "min") (rMin2D K) := by
  intro pins s σ H vs us Q I r ⟨x, y, d, e, e0, dx, dy, al, hd, q⟩
  subst e0
  rw [← h] at dx dy
  obtain ⟨u, v, rfl, ru, rv⟩ := vals2 r
  obtain ⟨as, ra⟩ := L2.Dp.reads I d x u dx ru
  obtain ⟨bs, rb⟩ := L2.Dp.reads I e y v dy rv
  refine min_pair (I.ok.hd hc) ra rb al (by omega) fun h' tk k => ?_
  by_cases c : PySem.W.dataLt e d = true
  · rw [if_pos c]
    rw [if_pos c] at q
    exact ⟨y, H, I.kept k, rv, q⟩
  · rw [if_neg c]
    rw [if_neg c] at q
    exact ⟨x, H, I.kept k, ru, q⟩
def pMin2D (as : List Rs) (R : Rs → Prop) : Prop := ∃ d e, as = [.val d, .val e] ∧ d.canLay0 = true ∧ e.canLay0 = true ∧ PySem.W.AlikeAll [d, e] ∧ PyData.depthAll [d, e] ≤ 63 ∧ R (.val (if PySem.W.dataLt e d = true then e else d))
instance {K : KK} : ImL K (rMin2D K) pMin2D where
  run := by
    intro F B0 B Hs H0 H σ env xs as Q R st da ⟨d, e, e0, l1, l2, al, hd, h⟩ q
    subst e0
    obtain ⟨v, w, rfl, dv, dw⟩ := da.two
    have dv : Dp K H0 v d := dv
    have dw : Dp K H0 w e := dw
    refine ⟨v, w, d, e, rfl, dp_low d v l1 (dp_mono st.inn _ _ dv), dp_low e w l2 (dp_mono st.inn _ _ dw), al, hd, q.at st h ?_⟩
    by_cases c : PySem.W.dataLt e d = true
    · rw [if_pos c, if_pos c]; exact dw
    · rw [if_neg c, if_neg c]; exact dv
/-! ### min of a dict's values -/
def tMinValsD (K : KK) (td : TE) : TE := fun σ H Q => td σ H fun x H1 => ∃ (a : Addr) (kvs : List (Key × V)) (ds : List PyData) (d0 : PyData), x = V.ref a ∧ H1 a = some (.dK kvs) ∧ L2.DpAll K.fr H1 (kvs.map (·.2)) (d0 :: ds) ∧ PySem.W.AlikeAll (d0 :: ds) ∧ PyData.depthAll (d0 :: ds) ≤ 63 ∧
  ∀ (i : Nat) (v : V), (kvs.map (·.2))[i]? = some v → (d0 :: ds)[i]? = some (PySem.W.minD d0 ds) → Q v H1
theorem readsAllOf {X : Cx} {pins : List (Addr × Obj)} {σ : L2.St} {H : Hp} {s : Shared} (I : Inv X pins σ H s) : ∀ {xs : List V} {us : List Value} {ds : List PyData}, Vals xs us → L2.DpAll X.K H xs ds → ∃ as, PySem.ReadsAll s.heap us ds as
  | _, _, _, .nil, h => by cases h; exact ⟨_, .nil⟩
  | _, _, _, .cons r t, h => by
    cases h with
    | cons h1 h2 =>
      obtain ⟨as, a⟩ := L2.Dp.reads I _ _ _ h1 r
      obtain ⟨bs, b⟩ := readsAllOf I t h2
      exact ⟨_, .cons a b⟩
theorem kv_vals : ∀ {kvs : List (Key × V)} {vs : List (Key × Value)}, KV kvs vs → Vals (kvs.map (·.2)) (vs.map (·.2)) := by
  intro kvs vs r
  unfold KV at r
  induction r with
  | nil => exact .nil
  | cons r t ih => exact .cons r.2 ih
theorem pe_minValsD {X : Cx} {K : KK} {o : Expr} {p pos apos mpos : Pos} {td : TE} (hK : X.K = K.fr) (hc : X.calm = true) (hu : X.A.units + 65 < cLine) (hg : Gl X "min") (hm : X.mg "min" = none) (hd : PE X o td)
    (hbase : attributeBase o "values" X.env (eval o X.env) = eval o X.env := by rfl) (hline : (apos.endLine == mpos.line) = true := by rfl)
    (hse : starEach [Expr.Call (.Attribute o "values" apos) [] [] mpos] X.env = [(false, eval (Expr.Call (.Attribute o "values" apos) [] [] mpos) X.env)] := by rfl) :
    PE X (.Call (.Name "min" p) [.Call (.Attribute o "values" apos) [] [] mpos] [] pos) (tMinValsD K td) := by
  refine ⟨fun pins s σ H Q I h => ?_⟩
  refine wpAny_Call_Name_kw (ld_blt I hg hm (u := .builtin "min") (by first | rfl | decide +kernel) ?_ (by first | decide +kernel | decide) (by first | decide +kernel | decide))
  rw [hse]
  refine PySem.callWith_builtin1 (wpAny_Call_method0_late hbase hline (thn (hd.run pins s σ H _ I h) fun v s1 ⟨x, H1, I1, r1, a, kvs, ds, d0, ex, ha, dp, al, dep, q⟩ => ?_))
  subst ex
  obtain rfl : v = Value.ref a := r1
  rw [← hK] at dp
  obtain ⟨_, hsys, vs, rel, dof⟩ := dk_of I1.hok ha
  obtain ⟨ep, dat⟩ := dof.dictAt
  have dat' := dat
  obtain ⟨ob, es, ho, ex, hdat, hko, hpr, hnd⟩ := dat'
  obtain ⟨as, ra⟩ := readsAllOf I1 (kv_vals rel) dp
  refine ⟨"dict", "dict.values", F.plainAttrs_dict, F.slot_dict_values, F.type_dict_values, ⟨ob, ho, ex.1⟩, fun b e => ?_, Calls.callWith_builtin rfl (PySem.evalArgs_none ?_)⟩
  · cases e
    exact ⟨ob, ho, ex.2.1⟩
  refine call_meetsIn F.slot_dict_values ⟨ob, ho, ex.1⟩ F.entry_dict_values (F.args_dict_values_1 _) (meets_dict_values (mixKind X.prog X.w) a hsys) ⟨⟨vs, dof⟩, ?_⟩
  generalize hs2 : s1.heap.push { cls := .type "dict_values", data := .fields #[.ref a] } = h2
  have k1 : ∀ b u, s1.heap.get? b = some u → h2.get? b = some u := fun b u e => by rw [← hs2]; exact Heap.get?_push_of_some _ e
  have sz2 : h2.objs.size = s1.heap.objs.size + 1 := by rw [← hs2]; exact Heap.size_push _ _
  have lt : a < s1.heap.objs.size := Heap.lt_size ho
  have len : vs.length = ds.length + 1 := by
    have e1 := (L2.KV.length rel)
    have e2 := PySem.W.readsAll_len (vs := (vs.map (·.2)).toArray) (by simpa using ra)
    rw [List.size_toArray, List.length_map, List.length_cons] at e2
    exact e2
  have viewAt : h2.get? s1.heap.objs.size = some { cls := .type "dict_values", data := .fields #[.ref a] } := by rw [← hs2]; exact Heap.get?_push_size _ rfl
  refine PySem.call_min_walkH (wpAny_pyIter_values (v := s1.heap.objs.size) (d := a) ⟨_, viewAt, rfl, rfl⟩ (dat.keep k1) ?_)
  have W := (Walks.dictValues (knd := mixKind X.prog X.w) (A := X.A.in1) (I.ok.hd hc) h2.objs.size a (by rw [sz2]; exact Nat.ne_of_lt (Nat.lt_succ_of_lt lt)) vs ep).toS
  have cmp : PySem.CmpIn X.prog X.w X.A.in1 .Lt s1.heap (fun i v => ∃ k, vs[i]? = some (k, v)) (fun i j => PySem.W.dataLt ((d0 :: ds).getD i .none) ((d0 :: ds).getD j .none)) := by
    have c := PySem.W.cmpIn_lt (prog := X.prog) (w := X.w) (A := X.A.in1) (s := s1) (vs := (vs.map (·.2)).toArray) (xs := d0 :: ds) (as := as) (by simpa using ra) al (by show X.A.units + 1 + _ < _; omega)
    intro i j vi vj s' Q' E' hk ⟨k1, hi⟩ ⟨k2, hj⟩ hq
    exact c i j vi vj s' Q' E' hk (by simp [hi]) (by simp [hj]) hq
  have old : ∀ b o, s1.heap.get? b = some o → b ∉ [h2.objs.size] := fun b o e z => by
    have := Heap.lt_size e
    rw [List.mem_singleton.mp z, sz2] at this
    exact absurd this (Nat.not_lt.mpr (Nat.le_succ _))
  refine ⟨_, _, _, _, _, _, _, s1.heap, _, rfl, W, ⟨⟨_, Heap.get?_push_size _ rfl, rfl, rfl⟩, (dat.keep k1).keep fun b u e => Heap.get?_push_of_some _ e⟩, fun b hb => ?_, by omega, old, fun b o e => Heap.get?_push_of_some _ (k1 b o e), cmp, fun v s' hP m => ?_⟩
  · show b < (h2.push _).objs.size
    rw [Heap.size_push]
    rcases List.mem_cons.mp hb with e | hb
    · rw [e]; exact Nat.lt_succ_self _
    · rw [List.mem_singleton.mp hb, sz2]; exact Nat.lt_succ_of_lt (Nat.lt_succ_of_lt lt)
  · obtain ⟨k, hk⟩ := hP
    obtain ⟨xv, hx, rx⟩ := KV.at' rel hk
    have e1 : vs.length - 1 = ds.length := by omega
    rw [e1] at hx
    have best := PySem.W.argBest_fold PySem.W.dataLt PyData.none d0 ds ds.length (Nat.le_refl _)
    rw [List.take_length] at best
    have lt2 : argBest (fun i j => PySem.W.dataLt ((d0 :: ds).getD i .none) ((d0 :: ds).getD j .none)) ds.length < (d0 :: ds).length := by rw [List.length_cons]; omega
    have at2 : (d0 :: ds)[argBest (fun i j => PySem.W.dataLt ((d0 :: ds).getD i .none) ((d0 :: ds).getD j .none)) ds.length]? = some (PySem.W.minD d0 ds) := by
      have z := best.2
      rw [List.getD_eq_getElem?_getD, List.getElem?_eq_getElem lt2] at z
      rw [List.getElem?_eq_getElem lt2]
      exact congrArg some z
    have heap : ∀ b u, s1.heap.get? b = some u → s'.heap.get? b = some u := fun b u e => m.heap b u (old b u e) (Heap.get?_push_of_some _ (k1 b u e))
    have same : s' = { s1 with heap := s'.heap, toks := s'.toks } := by
      obtain ⟨hp, g, d, tk, os⟩ := s'
      have h1 : g = s1.gens := m.gens
      have h2 : d = s1.drawn := m.drawn
      have h3 : os = s1.os := m.os
      subst h1 h2 h3
      rfl
    refine ⟨xv, H1, ?_, rx, q _ xv (by rw [List.getElem?_map, hx]; rfl) at2⟩
    rw [same]
    exact I1.kept heap
theorem dpK_vals {K : KK} {H : Hp} : ∀ {ks : List (Key × V)} {kvs : List (Dat × Dat)}, DpK K H ks kvs → DpAll K H (ks.map (·.2)) (kvs.map (·.2))
  | _, _, .nil => .nil
  | _, _, .cons h t => .cons h (dpK_vals t)
/-- a dict whose keys are numbers or texts -/
def leafKeys (kvs : List (Dat × Dat)) : Prop := ∀ p ∈ kvs, ∃ i, p.1 = .int i
theorem dpD_leaf {K : KK} {H : Hp} {a : Addr} {ho : HO} {kvs : List (Dat × Dat)} (h : DpD K H a ho kvs) (l : leafKeys kvs) : ∃ ks, ho = .dK ks ∧ DpK K H ks kvs := by
  cases h with
  | leaf h => exact ⟨_, rfl, h⟩
  | nest ne h =>
    cases h with
    | nil => exact absurd rfl ne
    | @cons k b v kd d r s hk hd hkd hv ht =>
      obtain ⟨i, e⟩ := l (kd, d) List.mem_cons_self
      have e : kd = .int i := e
      subst e
      cases hkd
  | froz _ _ =>
    obtain ⟨i, e⟩ := l _ List.mem_cons_self
    cases e
  | frozK _ =>
    obtain ⟨i, e⟩ := l _ List.mem_cons_self
    cases e
def rMinV (ra : RE) : RE := fun env R => ra env fun a => ∃ kvs d0 ds, a.rd = .dict kvs ∧ leafKeys kvs ∧ kvs.map (·.2) = d0 :: ds ∧ PyData.canLayAll0 (d0 :: ds) = true ∧ PySem.W.AlikeAll (d0 :: ds) ∧ PyData.depthAll (d0 :: ds) ≤ 63 ∧ R (.val (PySem.W.minD d0 ds))
instance {K : KK} {td : TE} {ra : RE} [sa : SimE K td ra] : SimE K (tMinValsD K td) (rMinV ra) where
  run := by
    intro F B0 B H0 H σ env Q R st h q
    refine sa.run st h fun x s G0 G ⟨kvs, d0, ds, ek, lk, ev, lay, al, dep, hr⟩ xe dn => ?_
    have st' := st.go xe
    obtain ⟨a, ho, rfl, hG, dp⟩ := dn.asDict st' ek
    obtain ⟨ks, rfl, dk⟩ := dpD_leaf dp lk
    have dv := dpK_vals dk
    rw [ev] at dv
    refine ⟨a, ks, ds, d0, rfl, hG, dpAll_low _ _ lay (dpAll_mono st'.inn _ _ dv), al, dep, fun i v hi hd => ?_⟩
    obtain ⟨v', h1, h2⟩ := dv.pvGet hd
    rw [h1] at hi
    cases hi
    exact q _ (.val _) G0 G hr xe h2
end PV

/-! PvLock: a loop over the items of a dict that a slot holds: meanwhile the dict is locked, and the slot known by its address alone. -/
namespace PV
open PySem PySem.Spec PyProof.Rows L2 NdefX LamX -- pv
def del (H : Hp) (d : Addr) : Hp := fun b => if b = d then none else H b
theorem del_at {H : Hp} {d : Addr} : del H d d = none := by unfold del; rw [if_pos rfl]
theorem del_ne {H : Hp} {d b : Addr} (h : b ≠ d) : del H d b = H b := by unfold del; rw [if_neg h]
theorem del_some {H : Hp} {d b : Addr} {o : HO} (h : del H d b = some o) : b ≠ d ∧ H b = some o := by
  by_cases e : b = d
  · rw [e, del_at] at h; cases h
  · rw [del_ne e] at h; exact ⟨e, h⟩
/-- no list, no tuple stands at d -/
def NoSeq (H : Hp) (d : Addr) : Prop := ∃ ks, H d = some (.dK ks)
theorem NoSeq.sqL {K : KK} {H : Hp} {d a : Addr} {xs : List V} (n : NoSeq H d) (h : SqL K H a xs) : SqL K (del H d) a xs := by
  obtain ⟨ks, e⟩ := n
  have ne : ∀ o, H a = some o → (∀ k, o ≠ .dK k) → a ≠ d := fun o q r z => by rw [z, e] at q; exact r ks (Option.some.inj q).symm
  rcases h with (h | ⟨o, h⟩) | h
  · exact .inl (.inl (by rw [del_ne (ne _ h fun k z => nomatch z)]; exact h))
  · exact .inl (.inr ⟨o, by rw [del_ne (ne _ h fun k z => nomatch z)]; exact h⟩)
  · exact .inr h
theorem NoSeq.sqT {K : KK} {H : Hp} {d a : Addr} {xs : List V} (n : NoSeq H d) (h : SqT K H a xs) : SqT K (del H d) a xs := by
  obtain ⟨ks, e⟩ := n
  have ne : ∀ o, H a = some o → (∀ k, o ≠ .dK k) → a ≠ d := fun o q r z => by rw [z, e] at q; exact r ks (Option.some.inj q).symm
  rcases h with (h | ⟨o, h⟩) | h
  · exact .inl (.inl (by rw [del_ne (ne _ h fun k z => nomatch z)]; exact h))
  · exact .inl (.inr ⟨o, by rw [del_ne (ne _ h fun k z => nomatch z)]; exact h⟩)
  · exact .inr h
mutual
theorem dp_del {K : KK} {H : Hp} {d : Addr} (n : NoSeq H d) : ∀ (x : Dat) (v : V), x.canLay0 = true → Dp K H v x → Dp K (del H d) v x
  | .none, _, _, h => by cases h; exact .non
  | .bool b, _, _, h => by cases h; exact .bl b
  | .int i, _, _, h => by cases h; exact .int i
  | .str x, _, _, h => by cases h; exact .str x
  | .list ds, _, e, h => by
    cases h with
    | lst hs ha => exact .lst (n.sqL hs) (dpAll_del n ds _ (by simpa only [PyData.canLay0] using e) ha)
  | .tuple ds, _, e, h => by
    cases h with
    | tup hs ha => exact .tup (n.sqT hs) (dpAll_del n ds _ (by simpa only [PyData.canLay0] using e) ha)
  | .dict _, _, e, h => by simp [PyData.canLay0] at e
theorem dpAll_del {K : KK} {H : Hp} {d : Addr} (n : NoSeq H d) : ∀ (ds : List Dat) (vs : List V), PyData.canLayAll0 ds = true → DpAll K H vs ds → DpAll K (del H d) vs ds
  | [], _, _, h => by cases h; exact .nil
  | x :: ds, _, e, h => by
    simp only [PyData.canLayAll0, Bool.and_eq_true] at e
    cases h with
    | cons h1 h2 => exact .cons (dp_del n x _ e.1 h1) (dpAll_del n ds _ e.2 h2)
end
def valsLay (kvs : List (Dat × Dat)) : Prop := ∀ p ∈ kvs, p.1.canLay0 = true ∧ p.2.canLay0 = true
theorem dpK_del {K : KK} {H : Hp} {d : Addr} (n : NoSeq H d) : ∀ {ks : List (Key × V)} {kvs : List (Dat × Dat)}, valsLay kvs → DpK K H ks kvs → DpK K (del H d) ks kvs
  | _, _, _, .nil => .nil
  | _, _, l, .cons h t => .cons (dp_del n _ _ (l _ List.mem_cons_self).2 h) (dpK_del n (fun p hp => l p (List.mem_cons_of_mem _ hp)) t)
theorem dpN_del {K : KK} {H : Hp} {d : Addr} (n : NoSeq H d) : ∀ {xs : List (NestedKey × Addr × V)} {kvs : List (Dat × Dat)}, valsLay kvs → DpN K H xs kvs → DpN K (del H d) xs kvs
  | _, _, _, .nil => .nil
  | _, _, l, .cons hk hd h1 h2 t => .cons hk hd (dp_del n _ _ (l _ List.mem_cons_self).1 h1) (dp_del n _ _ (l _ List.mem_cons_self).2 h2) (dpN_del n (fun p hp => l p (List.mem_cons_of_mem _ hp)) t)
/-- what a slot holds has no dict in it -/
def SlLay : Sl → Prop
  | .un => True
  | .val x => x.canLay0 = true
  | .ow (.lst ds) => PyData.canLayAll0 ds = true
  | .ow (.dct kvs) => valsLay kvs
  | .kn (.is _) => True
  | .kn (.clo _) => True
  | .kn (.rng _ _) => True
  | .kn (.fn _ _ _ _) => False
/-- the dict is locked: what was known of the heap, but for it -/
theorem StOk.lockIn {K : KK} {F B0 B H0 H : Hp} {σ : St} {env : En} (st : StOk K F B0 B H0 H σ env) {i : Nat} {d : Addr} {ks : List (Key × V)} (od : Obj) (hv : σ[i]? = some (some (.ref d))) (hd : H0 d = some (.dK ks))
    (lay : ∀ (j : Nat) (s : Sl), env[j]? = some s → j ≠ i → SlLay s) : StOk K (del H0 d) (del B0 d) (upd B d (.frz od (.dK ks))) (del H0 d) (upd H d (.frz od (.dK ks))) σ (env.set i (.kn (.is (.ref d)))) := by
  have n : NoSeq H0 d := ⟨ks, hd⟩
  have ne : ∀ {a : Addr} {o : HO}, H0 a = some o → (∀ k, o ≠ .dK k) → a ≠ d := fun {a o} q r z => by rw [z, hd] at q; exact r ks (Option.some.inj q).symm
  have tabs : ∀ P, TabK K H0 H P → TabK K (del H0 d) (upd H d (.frz od (.dK ks))) P := fun P ⟨h0, ps, h1, h2, h3⟩ => by
    have hP : P ≠ d := fun z => by rw [z, hd] at h0; cases h0
    refine ⟨by rw [del_ne hP]; exact h0, ps, by rw [upd_ne hP]; exact h1, h2, fun pos cv hc => ?_⟩
    obtain ⟨c, e1, e2⟩ := h3 pos cv hc
    exact ⟨c, e1, by rw [del_ne (ne e2 fun k z => by unfold CodeO at z; cases z)]; exact e2⟩
  have slot : ∀ {j : Nat} {s : Sl}, (env.set i (.kn (.is (.ref d))))[j]? = some s → (j = i ∧ s = .kn (.is (.ref d))) ∨ (j ≠ i ∧ env[j]? = some s) := fun {j s} q => by
    by_cases hj : j = i
    · subst hj
      exact .inl ⟨rfl, (set_get q).1.symm⟩
    · rw [List.getElem?_set_ne fun z => hj z.symm] at q
      exact .inr ⟨hj, q⟩
  refine ⟨⟨⟨fun b o e t => ?_, fun {b} e => ?_⟩, fun b o e => ?_, fun b o e => ?_, fun b e x => ?_, fun P t => ?_⟩, Sub.refl _, by rw [List.length_set]; exact st.len, fun j x q => ?_, fun j w q => ?_, fun j k w w' o q1 q2 z1 z2 => ?_, fun j kn q => ?_, fun P hP => tabs P (st.tab P hP)⟩
  · by_cases hb : b = d
    · rw [hb, upd_same] at e ⊢; exact e
    · rw [upd_ne hb] at e ⊢; exact st.ext.act.of _ _ e t
  · by_cases hb : b = d
    · rw [hb, upd_same] at e; cases e
    · rw [upd_ne hb] at e ⊢; exact st.ext.act.none e
  · obtain ⟨hb, e⟩ := del_some e
    rw [del_ne hb]; exact st.ext.kn _ _ e
  · obtain ⟨hb, e⟩ := del_some e
    rw [upd_ne hb]; exact st.inn _ _ e
  · by_cases hb : b = d
    · rw [hb]; exact del_at
    · rw [del_ne hb] at e ⊢
      rw [upd_ne hb] at x
      exact st.ext.fr b e x
  · obtain ⟨h0, ps, h1, h2, h3⟩ := t
    have hP : P ≠ d := fun z => by rw [z, upd_same] at h1; cases h1
    refine tabs P (st.ext.tab P ⟨by rw [del_ne hP] at h0; exact h0, ps, by rw [upd_ne hP] at h1; exact h1, h2, fun pos cv hc => ?_⟩)
    obtain ⟨c, e1, e2⟩ := h3 pos cv hc
    exact ⟨c, e1, (del_some e2).2⟩
  · rcases slot q with ⟨_, z⟩ | ⟨hj, q⟩
    · cases z
    · obtain ⟨v, h1, h2⟩ := st.val j x q
      exact ⟨v, h1, dp_del n x v (lay j _ q hj) h2⟩
  · rcases slot q with ⟨_, z⟩ | ⟨hj, q⟩
    · cases z
    · obtain ⟨o, ho, h1, h2, h3, h4, h5⟩ := st.own j w q
      have hod : o ≠ d := fun z => by rw [z, hd] at h3; cases h3
      refine ⟨o, ho, h1, by rw [upd_ne hod]; exact h2, by rw [del_ne hod]; exact h3, by rw [upd_ne hod]; exact h4, ?_⟩
      have l := lay j _ q hj
      cases w with
      | lst ds =>
        obtain ⟨vs, e, dp⟩ := h5
        exact ⟨vs, e, dpAll_del n ds vs l dp⟩
      | dct kvs =>
        have h5 : DpD K H0 o ho kvs := h5
        show DpD K (del H0 d) o ho kvs
        cases h5 with
        | leaf h => exact .leaf (dpK_del n l h)
        | nest nn h => exact .nest nn (dpN_del n l h)
        | froz nn h => exact .froz nn (dpN_del n (fun p hp => l p (List.mem_cons_of_mem _ hp)) h)
        | frozK h => exact .frozK (dpK_del n (fun p hp => l p (List.mem_cons_of_mem _ hp)) h)
  · rcases slot q1 with ⟨_, z⟩ | ⟨_, q1⟩
    · cases z
    · rcases slot q2 with ⟨_, z⟩ | ⟨_, q2⟩
      · cases z
      · exact st.dis j k w w' o q1 q2 z1 z2
  · rcases slot q with ⟨rfl, z⟩ | ⟨hj, q⟩
    · cases z
      exact ⟨_, hv, rfl⟩
    · obtain ⟨v, h1, h2⟩ := st.kno j kn q
      refine ⟨v, h1, ?_⟩
      cases kn with
      | is u => exact h2
      | clo mk =>
        obtain ⟨f, c, e1, e2, e3⟩ := h2
        exact ⟨f, c, e1, by rw [del_ne (ne e2 fun k z => by unfold FnO at z; cases z)]; exact e2, by rw [del_ne (ne e3 fun k z => by unfold CodeO at z; cases z)]; exact e3⟩
      | rng lo hi =>
        obtain ⟨a, e1, e2⟩ := h2
        exact ⟨a, e1, by rw [del_ne (ne e2 fun k z => nomatch z)]; exact e2⟩
      | fn f F ws cs => exact (lay j _ q hj).elim
/-- .. and unlocked again -/
theorem StOk.lockOut {K : KK} {F B0 B H0 H G0 G : Hp} {σ τ : St} {env env2 : En} (st : StOk K F B0 B H0 H σ env) {i : Nat} {d : Addr} {ks : List (Key × V)} {kvs : List (Dat × Dat)} {od : Obj} (hd : H0 d = some (.dK ks)) (dk : DpK K H0 ks kvs)
    (s2 : StOk K (del H0 d) (del B0 d) (upd B d (.frz od (.dK ks))) G0 G τ env2) (hi : env2[i]? = some (.kn (.is (.ref d)))) : StOk K F B0 B (upd G0 d (.dK ks)) (upd G d (.dK ks)) τ (env2.set i (.val (.dict kvs))) := by
  have gd : G d = some (.frz od (.dK ks)) := s2.ext.act.of d _ upd_same fun ps z => nomatch z
  have g0d : G0 d = none := s2.ext.fr d del_at (by rw [upd_same]; simp)
  have up : Sub G0 (upd G0 d (.dK ks)) := Sub.upd g0d
  have hs : Sub H0 (upd G0 d (.dK ks)) := fun b o e => by
    by_cases hb : b = d
    · rw [hb, upd_same]; rw [hb, hd] at e; exact e
    · rw [upd_ne hb]; exact s2.fl b o (by rw [del_ne hb]; exact e)
  have tabs : ∀ P, TabK K G0 G P → TabK K (upd G0 d (.dK ks)) (upd G d (.dK ks)) P := fun P ⟨h0, ps, h1, h2, h3⟩ => by
    have hP : P ≠ d := fun z => by rw [z, gd] at h1; cases h1
    refine ⟨by rw [upd_ne hP]; exact h0, ps, by rw [upd_ne hP]; exact h1, h2, fun pos cv hc => ?_⟩
    obtain ⟨c, e1, e2⟩ := h3 pos cv hc
    exact ⟨c, e1, up _ _ e2⟩
  have slot : ∀ {j : Nat} {s : Sl}, (env2.set i (.val (.dict kvs)))[j]? = some s → (j = i ∧ s = .val (.dict kvs)) ∨ (j ≠ i ∧ env2[j]? = some s) := fun {j s} q => by
    by_cases hj : j = i
    · subst hj
      exact .inl ⟨rfl, (set_get q).1.symm⟩
    · rw [List.getElem?_set_ne fun z => hj z.symm] at q
      exact .inr ⟨hj, q⟩
  refine ⟨⟨⟨fun b o e t => ?_, fun {b} e => ?_⟩, fun b o e => hs b o (st.ext.kn b o e), fun b o e => ?_, fun b e x => ?_, fun P t => ?_⟩, fun b o e => hs b o (st.fl b o e), by rw [List.length_set]; exact s2.len, fun j x q => ?_, fun j w q => ?_, fun j k w w' o q1 q2 z1 z2 => ?_, fun j kn q => ?_, fun P hP => tabs P (s2.tab P hP)⟩
  · by_cases hb : b = d
    · have z := st.ext.act.of b o e t
      rw [hb, st.inn d _ hd] at z
      rw [hb, upd_same]; exact z
    · rw [upd_ne hb]
      exact s2.ext.act.of b o (by rw [upd_ne hb]; exact e) t
  · by_cases hb : b = d
    · rw [hb, upd_same] at e; cases e
    · rw [upd_ne hb] at e
      have z := s2.ext.act.none e
      rw [upd_ne hb] at z
      exact z
  · by_cases hb : b = d
    · rw [hb, upd_same] at e ⊢; exact e
    · rw [upd_ne hb] at e ⊢; exact s2.inn _ _ e
  · have hb : b ≠ d := fun z => by
      have w := st.ext.fr b e x
      rw [z, hd] at w
      cases w
    rw [upd_ne hb]
    exact s2.ext.fr b (by rw [del_ne hb]; exact e) (by rw [upd_ne hb]; exact x)
  · obtain ⟨h0, ps, h1, h2, h3⟩ := t
    have hP : P ≠ d := fun z => by
      have w := (st.ext.tab P ⟨h0, ps, h1, h2, h3⟩).1
      rw [z, hd] at w
      cases w
    refine tabs P (s2.ext.tab P ⟨by rw [del_ne hP]; exact h0, ps, by rw [upd_ne hP]; exact h1, h2, fun pos cv hc => ?_⟩)
    obtain ⟨c, e1, e2⟩ := h3 pos cv hc
    have hc : c ≠ d := fun z => by
      have w := st.ext.kn c _ e2
      rw [z, hd] at w
      unfold CodeO at w
      cases w
    exact ⟨c, e1, by rw [del_ne hc]; exact e2⟩
  · rcases slot q with ⟨rfl, z⟩ | ⟨hj, q⟩
    · cases z
      obtain ⟨v, h1, h2⟩ := s2.kno j _ hi
      have h2 : v = .ref d := h2
      subst h2
      exact ⟨_, h1, .dct upd_same (.leaf (dpK_mono' hs dk))⟩
    · obtain ⟨v, h1, h2⟩ := s2.val j x q
      exact ⟨v, h1, dp_mono up _ _ h2⟩
  · rcases slot q with ⟨_, z⟩ | ⟨hj, q⟩
    · cases z
    · obtain ⟨o, ho, h1, h2, h3, h4, h5⟩ := s2.own j w q
      have hod : o ≠ d := fun z => by rw [z, upd_same] at h2; cases h2
      rw [upd_ne hod] at h2
      exact ⟨o, ho, h1, h2, by rw [upd_ne hod]; exact h3, by rw [upd_ne hod]; exact h4, h5.mono up⟩
  · rcases slot q1 with ⟨_, z⟩ | ⟨_, q1⟩
    · cases z
    · rcases slot q2 with ⟨_, z⟩ | ⟨_, q2⟩
      · cases z
      · exact s2.dis j k w w' o q1 q2 z1 z2
  · rcases slot q with ⟨_, z⟩ | ⟨hj, q⟩
    · cases z
    · obtain ⟨v, h1, h2⟩ := s2.kno j kn q
      exact ⟨v, h1, h2.mono up⟩
/-! ### for k, v in d.items() -/
theorem dpK_get {K : KK} {H : Hp} : ∀ {ks : List (Key × V)} {kvs : List (Dat × Dat)}, DpK K H ks kvs → ∀ {n : Nat} {k : Key} {v : V}, ks[n]? = some (k, v) → ∃ x, kvs[n]? = some (keyD k, x) ∧ Dp K H v x
  | _, _, .nil, n, k, v, e => by simp at e
  | _, _, .cons h t, 0, k, v, e => by
    simp only [List.getElem?_cons_zero, Option.some.injEq, Prod.mk.injEq] at e
    obtain ⟨rfl, rfl⟩ := e
    exact ⟨_, rfl, h⟩
  | _, _, .cons h t, n + 1, k, v, e => by
    obtain ⟨x, h1, h2⟩ := dpK_get t (n := n) (k := k) (v := v) (by simpa using e)
    exact ⟨x, by simpa using h1, h2⟩
theorem dp_key {K : KK} {H : Hp} (k : Key) : Dp K H (kV k) (keyD k) := by
  cases k with
  | inl i => exact .int i
  | inr x => exact .str x
def noEd (nx : En → Prop) : Ed := { nx := nx, rt := fun _ => False, ct := nx }
def rForItems (i : Nat) (g : RG) (rb : RS) : RS := fun E env => ∃ kvs, env[i]? = some (.val (.dict kvs)) ∧ leafKeys kvs ∧ valsLay kvs ∧ (∀ (j : Nat) (s : Sl), env[j]? = some s → j ≠ i → SlLay s) ∧ ∀ d : Addr, ∃ P : Nat → En → Prop, P 0 (env.set i (.kn (.is (.ref d)))) ∧
  (∀ n e k x, kvs[n]? = some (k, x) → P n e → g (.tuple [k, x]) e fun e2 => rb (noEd (P (n + 1))) e2) ∧ ∀ e, P kvs.length e → e[i]? = some (.kn (.is (.ref d))) ∧ E.nx (e.set i (.val (.dict kvs)))
instance {K : KK} {i : Nat} {g : TG} {tb : TS} {rg : RG} {ws : List Nat} {rb : RS} [sg : SimG K g rg ws] [sb : SimS K tb rb] : SimS K (tLock (tFor (iItems (tVar i)) g tb)) (rForItems i rg rb) where
  run := by
    intro F B0 B H0 H σ env D E st ⟨kvs, e, lk, vl, lay, h⟩ m
    obtain ⟨v, hv, dv⟩ := st.val i _ e
    cases dv with
    | @dct d ho _ hd dd =>
      obtain ⟨ks, rfl, dk⟩ := dpD_leaf dd lk
      obtain ⟨P, p0, ps, pe⟩ := h d
      refine ⟨d, .dK ks, st.inn _ _ hd, trivial, fun od => ?_⟩
      have s0 := st.lockIn od hv hd lay
      have n : NoSeq H0 d := ⟨ks, hd⟩
      have dk0 := dpK_del n vl dk
      have len := dk.pvLen
      refine ⟨.ref d, hv, d, od, ks, rfl, upd_same, fun i' k σ' H' => k = ks.length - i' ∧ i' ≤ ks.length ∧ ∃ e G0, StOk K (del H0 d) (del B0 d) (upd B d (.frz od (.dK ks))) G0 H' σ' e ∧ P i' e, ⟨ks.length, rfl, Nat.zero_le _, _, _, s0, p0⟩, ?_⟩
      rintro n1 k1 σ1 H1 ⟨rfl, hi, e1, G1, st1, p1⟩
      have at1 : H1 d = some (.frz od (.dK ks)) := st1.ext.act.of d _ upd_same fun ps z => nomatch z
      by_cases hlt : n1 < ks.length
      · refine .inr ⟨⟨at1, hlt⟩, fun σ' H' => ∃ e G0, StOk K (del H0 d) (del B0 d) (upd B d (.frz od (.dK ks))) G0 H' σ' e ∧ P (n1 + 1) e, fun σ' H' ⟨e', g0', st', p'⟩ => ⟨ks.length - (n1 + 1), by omega, rfl, hlt, e', g0', st', p'⟩, fun x H2 y => ?_⟩
        obtain ⟨T, k, v, q1, rfl, q3, rfl⟩ := y
        obtain ⟨xd, q4, q5⟩ := dpK_get dk0 q1
        have kn := Sub.upd (o := .tup [kV k, v]) (st1.inn.none q3)
        have x2 := Ext.new (K := K) (o := .tup [kV k, v]) st1.inn q3
        have tup : Dp K (upd G1 T (.tup [kV k, v])) (.ref T) (.tuple [keyD k, xd]) := .tup (.inl (.inl upd_same)) (.cons (dp_key k) (.cons (dp_mono (st1.fl.trans kn) _ _ q5) .nil))
        refine sg.run (st1.go x2) tup (ps n1 e1 (keyD k) xd q4 p1) fun σ3 e3 h3 st3 _ _ => ?_
        exact sb.run st3 h3 { nx := fun h st => ⟨_, _, st, h⟩, ct := fun h st => ⟨_, _, st, h⟩, bk := fun h st => h.elim, rt := fun h _ _ => h.elim, rf := fun h _ _ => h.elim }
      · have en : n1 = ks.length := by omega
        subst en
        rw [len] at p1
        obtain ⟨z1, z2⟩ := pe e1 p1
        exact .inl ⟨⟨at1, Nat.le_refl _⟩, at1, m.nx z2 (st.lockOut hd dk st1 z1)⟩
/-! ### len of a dict with such keys -/
def rLenD : List V → Hp → VK → Prop := fun xs H Q => ∃ a kvs, xs = [V.ref a] ∧ H a = some (.dK kvs) ∧ Q (.int kvs.length) H
theorem call_lenDK {X : Cx} : CallR X (.builtin "len") rLenD := L2.call_lenD
def pLenD (as : List Rs) (R : Rs → Prop) : Prop := ∃ a kvs, as = [a] ∧ a.rd = .dict kvs ∧ leafKeys kvs ∧ R (.val (.int kvs.length))
instance {K : KK} : ImL K rLenD pLenD where
  run := by
    intro F B0 B Hs H0 H σ env xs as Q R st da ⟨a, kvs, e, ea, lk, h⟩ q
    subst e
    obtain ⟨v, rfl, dv⟩ := da.one
    obtain ⟨p, ho, rfl, hp, dd⟩ := dv.asDict st ea
    obtain ⟨ks, rfl, dk⟩ := dpD_leaf dd lk
    refine ⟨p, ks, rfl, hp, ?_⟩
    rw [dk.pvLen]
    exact q.at st h (Dp.int _)
end PV

/-! PvTop: a dict at the top of the module, its keys texts: d[k], k in d, for k in d; range(n) in a name. -/
namespace PV
open PySem PySem.Spec PyProof.Rows L2 NdefX LamX -- pv
/-- how an item of the display stands in the object -/
def TopE (p : Key × V) (e : DictEntry) : Prop := ∃ x t, p.1 = .inr x ∧ e.key = .str x t ∧ RelV p.2 e.val
class TopD (K : KK) (a : Addr) (ks : outParam (List (Key × V))) (kvs : outParam (List (Dat × Dat))) : Prop where
  lo : (a == sysModules) = false
  dp : ∀ H, DpK K H ks kvs
  rd : ∃ es n, K.fr.lookup a = some ⟨.type "dict", none, .dict es n, #[]⟩ ∧ PySem.W.KeysLit K.w.params es.toList ∧ Paired TopE ks es.toList
theorem top_find {ks : List (Key × V)} {l : List DictEntry} (h : Paired TopE ks l) (z : Str) : match valV ks (.inr z) with
    | none => (l.find? fun e => Value.isStrOf z e.key) = none
    | some v => ∃ e, (l.find? fun e => Value.isStrOf z e.key) = some e ∧ RelV v e.val := by
  induction h with
  | nil => rfl
  | @cons p e ks l hp t ih =>
    obtain ⟨x, t, e1, e2, r⟩ := hp
    obtain ⟨k, v⟩ := p
    dsimp only at e1 r
    subst e1
    rw [List.find?_cons, e2]
    by_cases q : x = z
    · subst q
      have : valV ((Sum.inr x, v) :: ks) (.inr x) = some v := by unfold valV; simp
      rw [this]
      have s : Value.isStrOf x (.str x t) = true := by simp [Value.isStrOf]
      rw [s]
      exact ⟨e, rfl, r⟩
    · have : valV ((Sum.inr x, v) :: ks) (.inr z) = valV ks (.inr z) := by unfold valV; simp [q]
      rw [this]
      have s : Value.isStrOf z (.str x t) = false := by simp [Value.isStrOf]; exact fun z => q z
      rw [s]
      exact ih
theorem paired_at {α β : Type} {F : α → β → Prop} : ∀ {l₁ : List α} {l₂ : List β}, Paired F l₁ l₂ → ∀ {i : Nat} {a : α}, l₁[i]? = some a → ∃ b, l₂[i]? = some b ∧ F a b
  | _, _, .nil, i, a, e => by simp at e
  | _, _, .cons h t, 0, a, e => by simp at e; subst e; exact ⟨_, rfl, h⟩
  | _, _, .cons h t, i + 1, a, e => by
    obtain ⟨b, h1, h2⟩ := paired_at t (i := i) (a := a) (by simpa using e)
    exact ⟨b, by simpa using h1, h2⟩
def rIxG (a : Addr) (ks : List (Key × V)) : R2 := fun x y H Q => x = .ref a ∧ ∃ z v, y = .str z ∧ valV ks (.inr z) = some v ∧ Q v H
def rInG (a : Addr) (ks : List (Key × V)) (n : Bool) : R2 := fun x y H Q => y = .ref a ∧ ∃ z, x = .str z ∧ Q (.bl (if n = true then !(valV ks (.inr z)).isSome else (valV ks (.inr z)).isSome)) H
theorem top_by {ks : List (Key × V)} {es : Array DictEntry} (h : Paired TopE ks es.toList) (z : Str) : match valV ks (.inr z) with
    | none => findBy Value.isStrOf es z = none
    | some v => ∃ u, findBy Value.isStrOf es z = some u ∧ RelV v u := by
  have := top_find h z
  obtain ⟨l⟩ := es
  unfold findBy
  rw [List.find?_toArray]
  cases q : valV ks (.inr z) with
  | none => rw [q] at this; rw [show List.find? (fun e => Value.isStrOf z e.key) l = none from this]; rfl
  | some v => rw [q] at this; obtain ⟨e, h1, h2⟩ := this; exact ⟨e.val, by rw [show List.find? (fun e => Value.isStrOf z e.key) l = some e from h1]; rfl, h2⟩
theorem ix_top {X : Cx} {K : KK} {a : Addr} {ks : List (Key × V)} {kvs : List (Dat × Dat)} [T : TopD K a ks kvs] (hK : X.K = K.fr) (hw : X.w = K.w) : IxR X (rIxG a ks) := by
  intro value slice pins s σ H x y v u Q I rx ry ⟨ex, z, vv, ey, hv, q⟩ hs
  subst ex ey
  cases (show v = Value.ref a from rx)
  obtain ⟨t, rfl⟩ : ∃ t, u = .str z t := ry
  obtain ⟨es, n, hl, hk, hp⟩ := T.rd
  have b := top_by hp z
  rw [hv] at b
  obtain ⟨w', hf, rw'⟩ := b
  rw [← hK] at hl
  rw [← hw] at hk
  have hm := PySem.W.mapOf_K (prog := X.prog) (w := X.w) I.kIn hl hk
  exact tail_any hm.typeIs slot_dict_getitem.lookup (wpAny_getItem_of (strKind_is X.prog X.w z t) hm hf ⟨vv, H, I.tok _, rw', q⟩) hs
theorem in_top {X : Cx} {K : KK} {a : Addr} {ks : List (Key × V)} {kvs : List (Dat × Dat)} [T : TopD K a ks kvs] (hK : X.K = K.fr) (hw : X.w = K.w) : OpR X (compareOp .In) (rInG a ks false) := by
  intro pins s σ H x y v u Q I rx ry ⟨ey, z, ex, q⟩
  subst ex ey
  cases (show u = Value.ref a from ry)
  obtain ⟨t, rfl⟩ : ∃ t, v = .str z t := rx
  obtain ⟨es, n, hl, hk, hp⟩ := T.rd
  have b := top_by hp z
  rw [← hK] at hl
  rw [← hw] at hk
  have hm := PySem.W.mapOf_K (prog := X.prog) (w := X.w) I.kIn hl hk
  refine wpAny_in_of (strKind_is X.prog X.w z t) T.lo hm ⟨_, H, I.tok _, ?_, q⟩
  rw [if_neg (by decide)]
  cases e : valV ks (.inr z) with
  | none => rw [e] at b; rw [show findBy Value.isStrOf es z = none from b]; rfl
  | some vv => rw [e] at b; obtain ⟨w', hf, _⟩ := b; rw [hf]; rfl
theorem notIn_top {X : Cx} {K : KK} {a : Addr} {ks : List (Key × V)} {kvs : List (Dat × Dat)} [T : TopD K a ks kvs] (hK : X.K = K.fr) (hw : X.w = K.w) : OpR X (compareOp .NotIn) (rInG a ks true) := by
  intro pins s σ H x y v u Q I rx ry ⟨ey, z, ex, q⟩
  subst ex ey
  cases (show u = Value.ref a from ry)
  obtain ⟨t, rfl⟩ : ∃ t, v = .str z t := rx
  obtain ⟨es, n, hl, hk, hp⟩ := T.rd
  have b := top_by hp z
  rw [← hK] at hl
  rw [← hw] at hk
  have hm := PySem.W.mapOf_K (prog := X.prog) (w := X.w) I.kIn hl hk
  refine wpAny_notIn_of (strKind_is X.prog X.w z t) T.lo hm ⟨_, H, I.tok _, ?_, q⟩
  rw [if_pos rfl]
  cases e : valV ks (.inr z) with
  | none => rw [e] at b; rw [show findBy Value.isStrOf es z = none from b]; rfl
  | some vv => rw [e] at b; obtain ⟨w', hf, _⟩ := b; rw [hf]; rfl
/-! readings -/
def rIxTop (kvs : List (Dat × Dat)) (rk : RE) : RE := fun env R => rk env fun b => ∃ z e, b.rd = .str z ∧ lookD kvs (.str z) = some e ∧ R (.val e)
def rInTop (kvs : List (Dat × Dat)) (n : Bool) (rk : RE) : RE := fun env R => rk env fun b => ∃ z, b.rd = .str z ∧ R (.val (.bool (if n = true then !(lookD kvs (.str z)).isSome else (lookD kvs (.str z)).isSome)))
theorem Den.asStr {K : KK} {F B0 B Hs H0 H : Hp} {σ : St} {env : En} {v : V} {r : Rs} {z : Str} (d : Den K Hs H0 H σ env v r) (st : StOk K F B0 B H0 H σ env) (e : r.rd = .str z) : v = .str z := by
  have := d.leafT (.inl (by rw [e]; rfl))
  rw [e] at this
  cases this
  rfl
instance {K : KK} {a : Addr} {ks : List (Key × V)} {kvs : List (Dat × Dat)} {tk : TE} {rk : RE} [T : TopD K a ks kvs] [sk : SimE K tk rk] : SimE K (tOp (rIxG a ks) (tC (.ref a)) tk) (rIxTop kvs rk) where
  run := by
    intro F B0 B H0 H σ env Q R st h q
    refine sk.run st h fun y s G0 G ⟨z, e, e1, e2, h⟩ xk dk => ?_
    have ey := dk.asStr (st.go xk) e1
    subst ey
    have b := valV_look (.inr z) (T.dp G0)
    cases hv : valV ks (.inr z) with
    | none => rw [hv] at b; rw [show lookD kvs (.str z) = none from b] at e2; cases e2
    | some v =>
      rw [hv] at b
      obtain ⟨d, l, dv⟩ := b
      rw [show lookD kvs (.str z) = some d from l] at e2
      cases e2
      exact ⟨rfl, z, v, rfl, hv, (q.after xk).at (st.go xk) h dv⟩
instance {K : KK} {a : Addr} {ks : List (Key × V)} {kvs : List (Dat × Dat)} {n : Bool} {tk : TE} {rk : RE} [T : TopD K a ks kvs] [sk : SimE K tk rk] : SimE K (tOp (rInG a ks n) tk (tC (.ref a))) (rInTop kvs n rk) where
  run := by
    intro F B0 B H0 H σ env Q R st h q
    refine sk.run st h fun y s G0 G ⟨z, e1, h⟩ xk dk => ?_
    have ey := dk.asStr (st.go xk) e1
    subst ey
    have b := valV_some (.inr z) (T.dp G0)
    rw [show keyD (.inr z) = .str z from rfl] at b
    refine ⟨rfl, z, rfl, ?_⟩
    rw [b]
    exact (q.after xk).at (st.go xk) h (Dp.bl _)
/-! for k in d -/
def ItG (ks : List (Key × V)) : It := ⟨fun i _ => i < ks.length, fun i H x H' => H' = H ∧ ∃ p, ks[i]? = some p ∧ x = kV p.1, fun i _ => ks.length ≤ i⟩
def iTop (_ : Addr) (ks : List (Key × V)) : TI := fun _ H R => R (ItG ks) H
theorem turn_top {P : Program} {w : World} {Kf : PySem.W.Frag} {tg : Expr} {d : Addr} {ks : List (Key × V)} {es : Array DictEntry} {n : Nat} (it : Addr) (hl : Kf.lookup d = some ⟨.type "dict", none, .dict es n, #[]⟩) (hp : Paired TopE ks es.toList) :
    Turn P w Kf tg (ItG ks) [it] it (fun i h => h.IsKeyIter it d i es.size n) where
  mem := by simp
  obj := fun i h st b hb => by
    have e : b = it := by simpa using hb
    subst e
    obtain ⟨oi, e, c, dd⟩ := st
    exact ⟨oi, e, fun v z => by rw [dd] at z; cases z⟩
  keep := fun i h h' st k => st.at fun oi e => k it (by simp) oi e
  item := by
    intro X hP hw hK hc i pins s σ H E I hf st hg
    subst hP hw hK
    obtain ⟨f0, f1, f2, f3, f4, f5⟩ := hf it (by simp)
    have hg : i < ks.length := hg
    obtain ⟨en, hen, x, t, e1, e2, _⟩ := paired_at hp (List.getElem?_eq_getElem hg)
    rw [Array.getElem?_toList] at hen
    refine next_key_item st (I.kIn _ _ hl) rfl rfl hen fun h' st' sb => ?_
    have I1 : Inv X pins σ H { s with heap := h' } := I.turned (t' := s.toks) (fun b ob hb e => (sb.2 b hb).trans e) f0 f1 f3 f4 f5
    obtain ⟨oi, e, c, dd⟩ := id st'
    exact ⟨_, rfl, go_of (s := { s with heap := h' }) e c dd (by decide) ⟨.str x, H, I1, by rw [e2]; exact ⟨t, rfl⟩, ⟨rfl, ks[i], List.getElem?_eq_getElem hg, by rw [e1]; rfl⟩, st', fun b hb => (hf b hb).1⟩⟩
  done := by
    intro X hP hw hK hc i pins s σ H E I hf st hg
    subst hP hw hK
    obtain ⟨f0, f1, f2, f3, f4, f5⟩ := hf it (by simp)
    have hg : ks.length ≤ i := hg
    have len : ks.length = es.size := (Paired.length hp).trans Array.length_toList
    exact next_key_end (I.ok.hd hc) st (I.kIn _ _ hl) rfl rfl (len ▸ hg) fun h' eb => ⟨rfl, I.turned (t' := s.toks) (fun b ob hb e => eb b ob hb e) f0 f1 f3 f4 f5⟩
  self := fun A i s Q E st h => wpAny_pyIter_keyiter st h
theorem pi_top {X : Cx} {K : KK} {tg : Expr} {a : Addr} {ks : List (Key × V)} {kvs : List (Dat × Dat)} {x : Str} {u : Value} {pos : Pos} [T : TopD K a ks kvs] (hK : X.K = K.fr) (hg : Gl X x) (hm : X.mg x = some u) (r : RelV (.ref a) u) (hd : (x == ("__debug__" : Str)) = false := by decide) : PI X tg (.Name x pos) (iTop a ks) := by
  refine ⟨fun pins s σ H R I h => ?_⟩
  refine thn ((pe_glob (pos := pos) hg hm r hd).run pins s σ H (fun v H1 => v = .ref a ∧ R (ItG ks) H1) I ⟨rfl, h⟩) fun v s1 ⟨y, H1, I1, r1, e, q⟩ => ?_
  subst e
  cases (show v = Value.ref a from r1)
  obtain ⟨es, n, hl, hk, hp⟩ := T.rd
  rw [← hK] at hl
  refine iter_keys T.lo (I1.kIn _ _ hl) ⟨rfl, rfl, rfl⟩ rfl ?_
  refine ⟨s1.heap.objs.size, [s1.heap.objs.size], _, _, H1, rfl, I1.kept (t' := s1.toks) fun b o e => Heap.get?_push_of_some _ e, turn_top _ hl hp, ⟨_, Heap.get?_push_size _ rfl, rfl, rfl⟩, fun b hb => ?_, q⟩
  have e : b = s1.heap.objs.size := by simpa using hb
  subst e
  exact I1.fpOk (Nat.le_refl _) (I1.hok.fresh (Nat.le_refl _))
def riTop (kvs : List (Dat × Dat)) : RI := fun _ R => R (kvs.map (·.1))
theorem dpK_len {K : KK} {H : Hp} : ∀ {ks : List (Key × V)} {kvs : List (Dat × Dat)}, DpK K H ks kvs → ks.length = kvs.length
  | _, _, .nil => rfl
  | _, _, .cons _ t => congrArg (· + 1) (dpK_len t)
instance {K : KK} {a : Addr} {ks : List (Key × V)} {kvs : List (Dat × Dat)} [T : TopD K a ks kvs] : SimI K (iTop a ks) (riTop kvs) where
  run := fun {F B0 B H0 H σ env Q R} st h q => q _ _ _ _ h (Ext.refl st.inn) {
    goes := fun i H s hi => by
      have := dpK_len (T.dp H)
      rw [List.length_map] at hi
      show i < ks.length
      omega
    stops := fun H s => by
      have := dpK_len (T.dp H)
      rw [List.length_map]
      show ks.length ≤ _
      omega
    yields := fun i H0 H x H' s s' hi y => by
      obtain ⟨rfl, p, hp, rfl⟩ := y
      obtain ⟨k, v⟩ := p
      obtain ⟨x, h1, h2⟩ := dpK_get (T.dp H0) hp
      exact ⟨keyD k, H0, by rw [List.getElem?_map, h1]; rfl, Ext.refl s', dp_key k⟩ }
/-! x = range(n) -/
def rRng1Of : List V → Hp → VK → Prop := fun vs H Q => ∃ j, vs = [V.int j] ∧ ∀ p, H p = none → Q (.ref p) (upd H p (.rng 0 j))
theorem call_rng1A {X : Cx} : CallR X (.type "range") rRng1Of := by
  intro pins s σ H vs us Q I r h
  obtain ⟨j, rfl, q⟩ := h
  obtain ⟨u, rfl, t, rfl⟩ := r.one
  refine call_range_1 ⟨.ref s.heap.objs.size, upd H s.heap.objs.size (.rng 0 j), I.laid (t' := s.toks + 1 + 1) (fun b o e => Heap.get?_push_of_some _ e) (Nat.le_refl _) ?_, rfl, q _ (I.hok.fresh (Nat.le_refl _))⟩
  exact ⟨s.toks, t, s.toks + 1, Heap.get?_push_size _ rfl⟩
def tSetR1 (i : Nat) (ta : TA) : TS := tAsg (tCB rRng1Of ta) (gName i)
theorem ps_setR1 {X : Cx} {i : Nat} {x : Str} {e : Expr} {ta : TA} {pos pos' : Pos} (hN : X.N.Nodup) (hi : X.N[i]? = some x) (hx : Loc X.env.scope x) (he : PE X e (tCB rRng1Of ta)) (hs : swapsWith e (some (.Name x pos')) pos.line X.env = pure false := by rfl) (hf : X.fn x = true ∨ X.env.scope.names.lookup x = some .local := by first | exact .inl rfl | exact .inr rfl | assumption) :
    PS X (.Assign [.Name x pos'] e pos) (tSetR1 i ta) := ps_set hN hi hx he hs hf
def rSetR1 (i : Nat) (ra : RA) : RS := fun E env => ra env fun as => ∃ a hi, as = [a] ∧ a.rd = .int hi ∧ E.nx (env.set i (.kn (.rng 0 hi)))
instance {K : KK} {i : Nat} {ta : TA} {ra : RA} [sa : SimA K ta ra] : SimS K (tSetR1 i ta) (rSetR1 i ra) where
  run := fun {F B0 B H0 H σ env E D} st h m => sa.run st h fun vs as G0 G ⟨a, hi, e, ea, hs⟩ x da ap => by
    subst e
    obtain ⟨v, rfl, dv⟩ := da.one
    have e1 := dv.asInt (st.go x) ea
    subst e1
    refine ⟨hi, rfl, fun p hp => ?_⟩
    exact m.nx hs (((st.go x).go (Ext.new x.inn hp)).setK i ⟨p, rfl, upd_same⟩)
end PV

/-! PvPairs: dict(list of pairs), the keys nested tuples. -/
namespace PV
open PySem PySem.Spec PyProof.Rows L2 NdefX LamX -- pv
abbrev NEnt := NestedKey × Addr × Value
def mergeN (acc : List NEnt) (rest : List NEnt) : List NEnt := rest.foldl (fun xs q => storedH xs q.1 q.2.1 q.2.2) acc
theorem nested_up {h h' : Heap} {k : NestedKey} {a : Addr} {P : Program} {w : World} (x : (nestedKind P w).is h k a) (s : ∀ b o, h.get? b = some o → h'.get? b = some o) : (nestedKind P w).is h' k a :=
  ⟨NestedIs.at (fun b ob vs n hb hc => s b ob hb) k _ x.1, x.2⟩
theorem storedH_len (xs : List NEnt) (k : NestedKey) (a : Addr) (v : Value) : (storedH xs k a v).length ≤ xs.length + 1 := by
  unfold storedH
  split
  · rw [List.length_map]; omega
  · rw [List.length_append]; simp
theorem storedH_mem {xs : List NEnt} {k : NestedKey} {a : Addr} {v : Value} {x : NEnt} (h : x ∈ storedH xs k a v) : (∃ y ∈ xs, y.1 = x.1 ∧ y.2.1 = x.2.1) ∨ (x.1 = k ∧ x.2.1 = a) := by
  unfold storedH at h
  split at h
  · obtain ⟨y, hy, rfl⟩ := List.mem_map.mp h
    refine .inl ⟨y, hy, ?_⟩
    unfold putAt
    split <;> exact ⟨rfl, rfl⟩
  · rcases List.mem_append.mp h with h | h
    · exact .inl ⟨x, h, rfl, rfl⟩
    · rw [List.mem_singleton.mp h]; exact .inr ⟨rfl, rfl⟩
section
variable {prog : Program} {w : World} {A : Around} {E : Value → Shared → Prop}
theorem updN_loop {R : Result → Shared → Prop} {h0 : Heap} {S I l : Addr} {items : Array Value} {res : Value} (hh : A.handled = none) (hu : A.units + 10 < cLine) (hlI : l ≠ I) (hSI : S ≠ I) (hSl : S ≠ l) (nS : h0.get? S = none) (nI : h0.get? I = none) :
    ∀ (rest : List NEnt) (i : Nat) (acc : List NEnt) (ix : Int) (t : Tok) (s : Shared), items.size = i + rest.length → acc.length + rest.length ≤ sizeLine →
      (∀ b o, h0.get? b = some o → s.heap.get? b = some o) →
      (∀ (j : Nat) (q : NEnt), rest[j]? = some q → ∃ (b : Addr), items[i + j]? = some (.ref b) ∧ IsTup h0 b #[.ref q.2.1, q.2.2] ∧ (nestedKind prog w).is h0 q.1 q.2.1) →
      (∀ x ∈ acc, (nestedKind prog w).is h0 x.1 x.2.1) →
      s.heap.IsListIter I l i → s.heap.IsList l items → s.heap.DictOfH (nestedKind prog w) S acc →
      (∀ h' tk, h'.DictOfH (nestedKind prog w) S (mergeN acc rest) → (∀ b o, b ≠ S → b ≠ I → s.heap.get? b = some o → h'.get? b = some o) → R (.ok (.ret res)) { s with heap := h', toks := tk }) →
      codeAny (model prog w) A (.builtin "dict.update.loop" ⟨[.ref S, .ref I, .int ix t, res], []⟩) R s
  | [], i, acc, ix, t, s, hsz, hln, hb, ht, ha, hit, hl, hm, hR => by
    refine codeAny_builtin ud_entry ?_
    rw [Around.under_plainId ud_plain _]
    show wpAny _ A.in1 (pyNext (.ref I) >>= _) _ _ s
    refine wpAny_bind (wpAny_pyNext_list_end (A := A.in1) hh hit hl (by first | exact Array.getElem?_eq_none (Nat.le_of_eq hsz) | (simp at hsz; simp; omega)) fun h' he => ?_)
    show wpAny _ A.in1 (Builtin.Dict.addKeywords S [] >>= _) _ _ _
    refine wpAny_bind (wpAny_pure (wpAny_pure ?_))
    have hb' : ∀ b o, h0.get? b = some o → h'.get? b = some o := fun b o e => he b o (fun z => by rw [z, nI] at e; cases e) (hb b o e)
    obtain ⟨o, es, ep, g1, g2, g3, g4, _, g5⟩ := hm
    exact hR h' s.toks ⟨o, es, ep, he S o hSI g1, g2, g3, g4, fun x hx => nested_up (ha x hx) hb', g5⟩ fun b o _ hbI e => he b o hbI e
  | q :: rest, i, acc, ix, t, s, hsz, hln, hb, ht, ha, hit, hl, hm, hR => by
    obtain ⟨b, hbi, htup, hk⟩ := ht 0 q rfl
    rw [List.length_cons] at hsz hln
    refine codeAny_builtin ud_entry ?_
    rw [Around.under_plainId ud_plain _]
    show wpAny _ A.in1 (pyNext (.ref I) >>= _) _ _ s
    refine wpAny_bind (wpAny_pyNext_list_item (x := .ref b) hit hl (by simpa using hbi) fun h1 hit1 hs1 => ?_)
    have hb1 : ∀ c o, h0.get? c = some o → h1.get? c = some o := fun c o e => (hs1.2 c (fun z => by rw [z, nI] at e; cases e)).trans (hb c o e)
    have ht1 : IsTup h1 b #[.ref q.2.1, q.2.2] := htup.keeps hb1
    have hl1 : h1.IsList l items := hl.extBut hs1.extBut hlI
    have hm1 : h1.DictOfH (nestedKind prog w) S acc := by
      obtain ⟨o, es, ep, g1, g2, g3, g4, _, g5⟩ := hm
      exact ⟨o, es, ep, (hs1.2 S hSI).trans g1, g2, g3, g4, fun x hx => nested_up (ha x hx) hb1, g5⟩
    obtain ⟨o, ho, hc, n, hd⟩ := id ht1
    show wpAny _ A.in1 (holding [Value.ref b] _ >>= _) _ _ _
    refine wpAny_bind (wpAny_holding ?_)
    refine wpAny_bind (wpAny_tryCatch ?_)
    unfold Builtin.Dict.pairItems
    refine wpAny_bind (wpAny_typeOf (T := "tuple") ⟨o, ho, hc⟩ ?_)
    rw [if_pos (by first | decide | rfl | simp)]
    refine wpAny_bind (wpAny_seqItems ho hd (wpAny_pure ?_))
    show wpAny _ A.in1 (holding [.ref q.2.1, q.2.2] (dictSet S (.ref q.2.1) q.2.2)) _ _ _
    refine wpAny_holding (wpAny_dictSet_heap (knd := nestedKind prog w) (k := q.1) (show A.units + 1 + 8 < cLine by omega) (nested_up hk hb1) hm1 (fun h2 hm2 hs2 => ?_) (by omega))
    have hb2 : ∀ c o, h0.get? c = some o → h2.get? c = some o := fun c o e => (hs2.2 c (fun z => by rw [z, nS] at e; cases e)).trans (hb1 c o e)
    refine wpAny_pure ⟨plainId_quiet ud_plain _, updN_loop (items := items) hh hu hlI hSI hSl nS nI rest (i + 1) (storedH acc q.1 q.2.1 q.2.2) (ix + 1) 0 _ (show items.size = i + 1 + rest.length by omega) ?_ hb2 (fun j q' e => ?_) (fun x hx => ?_) ?_ ?_ hm2 fun h' tk hd' k => ?_⟩
    · have z := storedH_len acc q.1 q.2.1 q.2.2
      omega
    · obtain ⟨b', e1, e2, e3⟩ := ht (j + 1) q' (by simpa using e)
      exact ⟨b', by rw [show i + 1 + j = i + (j + 1) by omega]; exact e1, e2, e3⟩
    · rcases storedH_mem hx with ⟨y, hy, e1, e2⟩ | ⟨e1, e2⟩
      · rw [← e1, ← e2]; exact ha y hy
      · rw [e1, e2]; exact hk
    · exact hit1.at fun o' e => hs2.extBut I o' (Ne.symm hSI) e
    · exact hl1.extBut hs2.extBut (Ne.symm hSl)
    · exact hR h' tk hd' fun c oc h3 h4 e => k c oc h3 h4 (hs2.extBut c oc h3 (hs1.extBut c oc h4 e))
/-- dict(l) of a list of pairs -/
theorem call_dict_pairsN {s : Shared} {l : Addr} {ol : Obj} {items : Array Value} {n : Nat} {prs : List NEnt} {Q : Value → Shared → Prop} (hh : A.handled = none) (hu : A.units + 20 < cLine) (hl : s.heap.get? l = some ol) (hc : ol.cls = .type "list") (hd : ol.dict = none)
    (hdat : ol.data = .seq items n) (hsz : items.size = prs.length) (hln : prs.length ≤ sizeLine)
    (ht : ∀ (j : Nat) (q : NEnt), prs[j]? = some q → ∃ (b : Addr), items[j]? = some (.ref b) ∧ IsTup s.heap b #[.ref q.2.1, q.2.2] ∧ (nestedKind prog w).is s.heap q.1 q.2.1)
    (h : ∀ h' tk, h'.DictOfH (nestedKind prog w) s.heap.objs.size (mergeN [] prs) → (∀ b o, s.heap.get? b = some o → h'.get? b = some o) → Q (.ref s.heap.objs.size) { s with heap := h', toks := tk }) :
    wpAny (model prog w) A (call (.type "dict") [.ref l]) Q E s := by
  refine callType_codes (Q₁ := fun obj s₁ => obj = .ref s.heap.objs.size ∧ s₁ = { s with heap := s.heap.push { cls := .type "dict", data := .dict #[] } }) PySem.F.kt_called_dict (PySem.F.kt_typeCall_dict_1 _) PySem.F.entry_dict_init (kt_code_dict_new _ ⟨rfl, rfl⟩) ?_
  rintro obj s₁ ⟨rfl, rfl⟩
  have hnew : (s.heap.push { cls := .type "dict", data := .dict #[] }).DictOfH (nestedKind prog w) s.heap.objs.size [] := Heap.DictOfH.new s.heap
  have k0 : ∀ b o, s.heap.get? b = some o → (s.heap.push { cls := .type "dict", data := .dict #[] }).get? b = some o := fun b o e => Heap.get?_push_of_some _ e
  refine ⟨hnew.typeIs, PySem.F.args_dict_init_2 _ _, ?_⟩
  unfold Builtin.«dict.__init__»
  refine wpAny_bind ?_
  unfold Builtin.Dict.selfAndRest
  refine wpAny_bind (wpAny_notOrdered_dict hnew.typeIs ?_)
  show wpAny _ _ (pure (s.heap.objs.size, [Value.ref l])) _ _ _
  refine wpAny_pure ?_
  show wpAny _ _ (Builtin.Dict.updateFrom "dict.__init__" s.heap.objs.size (.ref l) [] .none) _ _ _
  unfold Builtin.Dict.updateFrom
  refine wpAny_bind (wpAny_typeOf (T := "list") ⟨ol, k0 _ _ hl, hc⟩ ?_)
  rw [if_pos (by first | decide | rfl | simp)]
  refine wpAny_bind (miss_list (k0 _ _ hl) hc hdat hd hh fun h1 tk1 hk1 => ?_)
  rw [if_pos (show (none : Option Value).isNone = true from rfl)]
  refine wpAny_bind (wpAny_rule ?_)
  have hl1 : h1.IsList l items := ⟨ol, hk1 _ _ (k0 _ _ hl), hc, n, hdat⟩
  have hS1 : s.heap.objs.size < h1.objs.size := by
    have e : (s.heap.push { cls := .type "dict", data := .dict #[] }).get? s.heap.objs.size = some { cls := .type "dict", data := .dict #[] } := Heap.get?_push_size _ rfl
    exact Heap.lt_size (hk1 _ _ e)
  refine wpAny_bind (wpAny_pyIter_list hl1 ?_)
  have k2 : ∀ b o, h1.get? b = some o → (h1.push { cls := .type "list_iterator", data := .fields #[.ref l, .int 0 0] }).get? b = some o := fun b o e => Heap.get?_push_of_some _ e
  have hlt : l < s.heap.objs.size := Heap.lt_size hl
  have nS : s.heap.get? s.heap.objs.size = none := by
    cases e : s.heap.get? s.heap.objs.size with
    | none => rfl
    | some o => exact absurd (Heap.lt_size e) (Nat.lt_irrefl _)
  have nI : s.heap.get? h1.objs.size = none := by
    cases e : s.heap.get? h1.objs.size with
    | none => rfl
    | some o => exact absurd (Nat.lt_trans (Heap.lt_size e) hS1) (Nat.lt_irrefl _)
  have k3 : ∀ b o, s.heap.get? b = some o → (h1.push { cls := .type "list_iterator", data := .fields #[.ref l, .int 0 0] }).get? b = some o := fun b o z => k2 _ _ (hk1 _ _ (k0 _ _ z))
  have key := updN_loop (prog := prog) (w := w) (A := A.in1) (R := wants (fun r s₂ => r = .none ∧ Q (.ref s.heap.objs.size) s₂) E) (h0 := s.heap) (S := s.heap.objs.size) (I := h1.objs.size) (l := l) (items := items) (res := Value.none) hh (show A.units + 1 + 10 < cLine by omega)
    (Nat.ne_of_lt (Nat.lt_trans hlt hS1)) (Nat.ne_of_lt hS1) (Nat.ne_of_gt hlt) nS nI prs 0 [] 0 0
    { s with heap := h1.push { cls := .type "list_iterator", data := .fields #[.ref l, .int 0 0] }, toks := tk1 } (by rw [hsz, Nat.zero_add]) (by rw [List.length_nil, Nat.zero_add]; exact hln) k3
    (fun j q e => by
      obtain ⟨b, e1, e2, e3⟩ := ht j q e
      exact ⟨b, by rw [Nat.zero_add]; exact e1, e2, e3⟩) (fun x hx => by cases hx)
    ⟨_, Heap.get?_push_size _ rfl, rfl, rfl⟩ (hl1.at fun o e => k2 _ _ e) ?_
    (fun h' tk hd' k => ⟨rfl, h h' tk hd' fun b o e => k b o (Nat.ne_of_lt (Heap.lt_size e)) (Nat.ne_of_lt (Nat.lt_trans (Heap.lt_size e) hS1)) (k2 _ _ (hk1 _ _ (k0 _ _ e)))⟩)
  · first
      | exact wpAny_pure ⟨plainId_quiet ud_plain _, key⟩
      | exact wpAny_bind (wpAny_pure (wpAny_pure ⟨plainId_quiet ud_plain _, key⟩))
  · obtain ⟨o, es, ep, g1, g2, g3, g4, _, g5⟩ := hnew
    exact ⟨o, es, ep, k2 _ _ (hk1 _ _ g1), g2, g3, g4, (fun x hx => by cases hx), g5⟩
end
/-- how a pair stands -/
def PrIs (K : KK) (G : Hp) (e : NestedKey × Addr × V) (q : Dat × Dat) : Prop := keyOf q.1 = some e.1 ∧ e.1.depth ≤ 8 ∧ Dp K G (.ref e.2.1) q.1 ∧ Dp K G e.2.2 q.2
def putPrs (prs : List (Dat × Dat)) (kvs : List (Dat × Dat)) : List (Dat × Dat) := prs.foldl (fun d q => putD d q.1 q.2) kvs
def rDictP (K : KK) : List V → Hp → VK → Prop := fun xs H Q => ∃ (G : Hp) (a : Addr) (ps : List Addr) (es : List (NestedKey × Addr × V)) (prs : List (Dat × Dat)), xs = [.ref a] ∧ Sub G H ∧ SqL K H a (ps.map V.ref) ∧ Paired (fun p (e : NestedKey × Addr × V) => SqT K H p [.ref e.2.1, e.2.2]) ps es ∧ Paired (PrIs K G) es prs ∧
  ∀ p ho, H p = none → DpD K G p ho (putPrs prs []) → Q (.ref p) (upd H p ho)
theorem paired_atR {α β : Type} {F : α → β → Prop} : ∀ {l₁ : List α} {l₂ : List β}, Paired F l₁ l₂ → ∀ {i : Nat} {b : β}, l₂[i]? = some b → ∃ a, l₁[i]? = some a ∧ F a b
  | _, _, .nil, i, b, e => by simp at e
  | _, _, .cons h t, 0, b, e => by simp at e; subst e; exact ⟨_, rfl, h⟩
  | _, _, .cons h t, i + 1, b, e => by
    obtain ⟨a, h1, h2⟩ := paired_atR t (i := i) (b := b) (by simpa using e)
    exact ⟨a, by simpa using h1, h2⟩
section
variable {X : Cx} {K : KK} {pins : List (Addr × Obj)} {σ : St} {H G : Hp} {s : Shared}
theorem prs_of (hK : X.K = K.fr) (I : Inv X pins σ H s) : ∀ {ps : List Addr} {es : List (NestedKey × Addr × V)}, Paired (fun p (e : NestedKey × Addr × V) => SqT K H p [.ref e.2.1, e.2.2]) ps es →
    ∃ ys : List NEnt, Paired EnR es ys ∧ ys.length = ps.length ∧ ∀ (j : Nat) (q : NEnt), ys[j]? = some q → ∃ b, ps[j]? = some b ∧ IsTup s.heap b #[.ref q.2.1, q.2.2]
  | _, _, .nil => ⟨[], .nil, rfl, fun j q e => by simp at e⟩
  | _, _, .cons (a := p) (b := e) h t => by
    obtain ⟨ys, r, hl, hp⟩ := prs_of hK I t
    obtain ⟨its, rv, ht, _⟩ := I.tuple (show L2.SqT X.K H _ _ by rw [hK]; exact h)
    obtain ⟨u, y, ei, ru, ry⟩ := vals2 rv
    subst ei
    cases (show u = Value.ref e.2.1 from ru)
    refine ⟨(e.1, e.2.1, y) :: ys, .cons ⟨rfl, rfl, ry⟩ r, by rw [List.length_cons, List.length_cons, hl], fun j q e' => ?_⟩
    cases j with
    | zero =>
      simp only [List.getElem?_cons_zero, Option.some.injEq] at e'
      subst e'
      exact ⟨p, rfl, ht⟩
    | succ j =>
      obtain ⟨b, e1, e2⟩ := hp j q (by simpa using e')
      exact ⟨b, by simpa using e1, e2⟩
theorem fold_rel : ∀ {es : List (NestedKey × Addr × V)} {ys : List NEnt} {prs : List (Dat × Dat)}, Paired EnR es ys → Paired (PrIs K G) es prs → ∀ {acc : List NEnt} {kvs : List (Dat × Dat)}, Paired (EnIs K G) acc kvs → Paired (EnIs K G) (mergeN acc ys) (putPrs prs kvs)
  | _, _, _, .nil, .nil, _, _, h => h
  | _, _, _, .cons (b := y) r t, .cons q u, acc, kvs, h => by
    obtain ⟨r1, r2, r3⟩ := r
    obtain ⟨q1, q2, q3, q4⟩ := q
    rw [r1] at q1 q2
    rw [r2] at q3
    exact fold_rel t u (put_rel q1 q2 q3 r3 q4 h)
theorem put_some (kvs : List (Dat × Dat)) (k v : Dat) : putD kvs k v ≠ [] := fun q => by
  unfold putD at q
  split at q
  · rename_i l
    have : kvs = [] := List.map_eq_nil_iff.mp q
    subst this
    simp [lookD] at l
  · simp at q
theorem putPrs_some : ∀ (prs kvs : List (Dat × Dat)), kvs ≠ [] → putPrs prs kvs ≠ []
  | [], _, h => h
  | q :: prs, kvs, _ => putPrs_some prs _ (put_some kvs q.1 q.2)
theorem putPrs_len : ∀ (prs kvs : List (Dat × Dat)), (putPrs prs kvs).length ≤ kvs.length + prs.length
  | [], _ => by show _ ≤ _; simp [putPrs]
  | q :: prs, kvs => by
    have h1 := putPrs_len prs (putD kvs q.1 q.2)
    have h2 := putD_len kvs q.1 q.2
    show (putPrs prs (putD kvs q.1 q.2)).length ≤ _
    rw [List.length_cons]
    omega
theorem call_dictPK (hK : X.K = K.fr) (hP : X.prog = K.P) (hw : X.w = K.w) (hc : X.calm = true) (hu : X.A.units + 64 < cLine) : CallR X (.type "dict") (rDictP K) := by
  intro pins s σ H xs us Q I r ⟨G, a, ps, es, prs, ex, sg, hq, hp, hr, q⟩
  subst ex
  obtain ⟨u, eu, rx⟩ := vals1 r
  subst eu
  cases rx
  obtain ⟨its, rv, pl, hz⟩ := I.list (show L2.SqL X.K H _ _ by rw [hK]; exact hq)
  have ei := refs_at rv
  subst ei
  rw [List.length_map] at hz
  obtain ⟨ys, rel, hl, hpr⟩ := prs_of hK I hp
  obtain ⟨o, n, ho, hc', hd, hdat⟩ := pl
  have hm : (s.heap.objs.size == sysModules) = false := beq_eq_false_iff_ne.mpr (Nat.ne_of_gt I.big)
  have l1 : es.length = prs.length := Paired.length hr
  have l2 : ps.length = es.length := Paired.length hp
  have keys : ∀ (j : Nat) (y : NEnt), ys[j]? = some y → (nestedKind X.prog X.w).is s.heap y.1 y.2.1 := fun j y e => by
    obtain ⟨x, hx, r1, r2, _⟩ := paired_atR rel e
    obtain ⟨q', _, k1, k2, k3, _⟩ := paired_at hr hx
    rw [← r1, ← r2]
    exact ⟨key_is hK I q'.1 x.1 _ _ k1 (dp_mono sg _ _ k3) rfl, k2⟩
  refine call_dict_pairsN (prs := ys) (I.ok.hd hc) (by omega) ho hc' hd hdat (by simp [hl]) (by rw [hl]; exact hz) (fun j y e => ?_) fun h' tk hd' k => ?_
  · obtain ⟨b, e1, e2⟩ := hpr j y e
    exact ⟨b, by simp [e1], e2, keys j y e⟩
  · have en := fold_rel rel hr (K := K) (G := G) (acc := []) (kvs := []) .nil
    obtain ⟨xs, x1, x2⟩ := en_to en
    have xl : xs.length ≤ sizeLine := by
      rw [x1.pvLen]
      have := putPrs_len prs []
      rw [List.length_nil] at this
      omega
    cases prs with
    | nil =>
      cases hr
      cases rel
      obtain ⟨o', es', ep', g1, g2, g3, g4, _, _⟩ := hd'
      have e0 : es'.toList = [] := g4
      refine ⟨.ref s.heap.objs.size, upd H s.heap.objs.size (.dK []), I.laid (t' := tk) k (Nat.le_refl _) (show ObjOk X.prog X.w _ _ _ (.dK []) from ⟨Nat.zero_le _, hm, [], .nil, o', es', ep', g1, g2, g3, ?_, ?_, List.nodup_nil⟩), rfl, q _ _ (I.hok.fresh (Nat.le_refl _)) (.leaf .nil)⟩
      · intro e he
        rw [← Array.mem_toList_iff, e0] at he
        cases he
      · rw [e0]; exact .nil
    | cons q0 prs =>
      have xn : xs ≠ [] := fun z => by
        have := x1.pvLen
        rw [z, List.length_nil] at this
        exact putPrs_some prs _ (put_some [] q0.1 q0.2) (List.eq_nil_of_length_eq_zero this.symm)
      exact ⟨.ref s.heap.objs.size, upd H s.heap.objs.size (DN K.P K.w s.heap.objs.size xs), I.laid (t' := tk) k (Nat.le_refl _) (dn_ok (K := K) hP hw hm xl x2 hd'), rfl, q _ _ (I.hok.fresh (Nat.le_refl _)) (.nest xn x1)⟩
end
/-- dict(xs) of a list of pairs, the keys tuples -/
def pDictP (as : List Rs) (R : Rs → Prop) : Prop := ∃ a prs, as = [a] ∧ a.rd = .list (prs.map fun q : Dat × Dat => .tuple [q.1, q.2]) ∧ (∀ q ∈ prs, TKey q.1) ∧ R (.fr (.dct (putPrs prs [])))
theorem prs_dp {K : KK} {G H : Hp} (s : Sub G H) : ∀ {prs : List (Dat × Dat)} {vs : List V}, (∀ q ∈ prs, TKey q.1) → DpAll K G vs (prs.map fun q : Dat × Dat => .tuple [q.1, q.2]) → ∃ (ps : List Addr) (es : List (NestedKey × Addr × V)), vs = ps.map V.ref ∧ Paired (fun p (e : NestedKey × Addr × V) => SqT K H p [.ref e.2.1, e.2.2]) ps es ∧ Paired (PrIs K G) es prs
  | [], _, _, h => by
    cases h
    exact ⟨[], [], rfl, .nil, .nil⟩
  | q :: prs, _, hk, h => by
    cases h with
    | cons h1 h2 =>
      obtain ⟨ps, es, e, p1, p2⟩ := prs_dp s (fun x hx => hk x (List.mem_cons_of_mem _ hx)) h2
      cases h1 with
      | @tup a xs _ hs hd =>
        cases hd with
        | cons d1 d2 =>
          cases d2 with
          | cons d2 d3 =>
            cases d3
            obtain ⟨k, tk, ek, dk⟩ := hk q List.mem_cons_self
            obtain ⟨b, rfl⟩ := tkey_ref d1 tk
            exact ⟨a :: ps, (k, b, _) :: es, by rw [e]; rfl, .cons (s.sqT hs) p1, .cons ⟨ek, dk, d1, d2⟩ p2⟩
instance {K : KK} : ImL K (rDictP K) pDictP where
  run := by
    intro F B0 B Hs H0 H σ env xs as Q R st da ⟨a, prs, e, ea, hk, h⟩ q
    subst e
    obtain ⟨v, rfl, dv⟩ := da.one
    obtain ⟨p, vs, rfl, hp, dp⟩ := dv.asList st ea
    obtain ⟨ps, es, rfl, p1, p2⟩ := prs_dp st.inn hk dp
    exact ⟨H0, p, ps, es, prs, rfl, st.inn, hp, p1, p2, fun o ho hn dd => q _ _ _ _ h (Ext.hid st.inn hn) ⟨o, ho, rfl, hn, st.inn.none hn, upd_same, dd⟩⟩
end PV

/-! PvFroz: a dict with tuple keys that is done with: from now on it is known by its very object, and its items may be walked. -/
namespace PV
open PySem PySem.Spec PyProof.Rows L2 NdefX LamX -- pv
/-- the datum of such a dict -/
def fdict (kvs : List (Dat × Dat)) : Dat := .dict ((.bool true, .none) :: kvs)
def FzAt (K : KK) (H : Hp) (d : Addr) (o : Obj) (xs : List (NestedKey × Addr × V)) : Prop := ∃ u, (u = DN K.P K.w d xs ∨ (xs = [] ∧ u = .dK [])) ∧ H d = some (.frz o u)
def ItF (K : KK) (d : Addr) (o : Obj) (xs : List (NestedKey × Addr × V)) : It :=
  ⟨fun i H => FzAt K H d o xs ∧ i < xs.length, fun i H x H' => ∃ T k b v, xs[i]? = some (k, b, v) ∧ x = .ref T ∧ H T = none ∧ H' = upd H T (.tup [.ref b, v]), fun i H => FzAt K H d o xs ∧ xs.length ≤ i⟩
theorem paired_getR {α β : Type} {F : α → β → Prop} : ∀ {l₁ : List α} {l₂ : List β}, Paired F l₁ l₂ → ∀ {i : Nat} {a : α}, l₁[i]? = some a → ∃ b, l₂[i]? = some b ∧ F a b
  | _, _, .nil, i, b, e => by simp at e
  | _, _, .cons h t, 0, b, e => by simp at e; subst e; exact ⟨_, rfl, h⟩
  | _, _, .cons h t, i + 1, b, e => by
    obtain ⟨a, h1, h2⟩ := paired_getR t (i := i) (a := b) (by simpa using e)
    exact ⟨a, by simpa using h1, h2⟩
section
variable {X : Cx} {K : KK} {pins : List (Addr × Obj)} {σ : St} {H : Hp} {s : Shared}
/-- what stands there -/
theorem FzAt.raw (hP : X.prog = K.P) (hw : X.w = K.w) (I : Inv X pins σ H s) {d : Addr} {o : Obj} {xs : List (NestedKey × Addr × V)} (h : FzAt K H d o xs) :
    (d == sysModules) = false ∧ s.heap.get? d = some o ∧ o.ExactDict ∧ ∃ es ep, o.data = .dict es ep ∧ es.size = xs.length ∧ ∀ (i : Nat) (k : NestedKey) (b : Addr) (v : V), xs[i]? = some (k, b, v) → ∃ u, es[i]?.map (·.key) = some (.ref b) ∧ es[i]?.map (·.val) = some u ∧ RelV v u := by
  obtain ⟨u, hu, e⟩ := h
  obtain ⟨g0, q⟩ := I.hok d _ e
  rcases hu with rfl | ⟨rfl, rfl⟩
  · obtain ⟨⟨hd, hz, ys, o', es, ep, r, g1, g2, g3, g4, g5⟩, _, _⟩ := q
    rw [g0] at g1
    cases g1
    have sz : es.size = xs.length := by
      have := congrArg List.length g4
      rw [List.length_map, ← r.length] at this
      simpa using this
    refine ⟨hd, g0, g2, es, ep, g3, sz, fun i k b v ex => ?_⟩
    obtain ⟨y, hy, r1, r2, r3⟩ := paired_getR r ex
    have hi : es[i]? = some (entryOfKey (nestedKind K.P K.w) y) := by
      have : es.toList[i]? = some (entryOfKey (nestedKind K.P K.w) y) := by rw [g4, List.getElem?_map, hy]; rfl
      simpa using this
    refine ⟨y.2.2, ?_, ?_, r3⟩
    · rw [hi]; show some (Value.ref y.2.1) = _; rw [← r2]
    · rw [hi]; rfl
  · obtain ⟨_, hd, vs, r, o', es, ep, g1, g2, g3, g4, g5, g6⟩ := q
    rw [g0] at g1
    cases g1
    cases r
    refine ⟨hd, g0, g2, es, ep, g3, ?_, fun i k b v ex => by simp at ex⟩
    have : es.toList = [] := by
      cases q : es.toList with
      | nil => rfl
      | cons x r => rw [q] at g5; cases g5
    have := congrArg List.length this
    simpa using this
theorem turn_itemsF {P : Program} {w : World} {K : KK} {elts : List Expr} {kk : Nat} {tpos : Pos} {d : Addr} {o : Obj} {xs : List (NestedKey × Addr × V)} {es : Array DictEntry} {ep : Nat} (hKP : P = K.P) (hKw : w = K.w) (it : Addr) (hod : o.data = .dict es ep) :
    Turn P w K.fr (.Tuple elts kk tpos) (ItF K d o xs) [it] it (fun i h => ∃ ok ov, IsItemIter h it d i xs.length ep ok ov) where
  mem := by simp
  obj := fun i h st b hb => by
    have e : b = it := by simpa using hb
    subst e
    obtain ⟨ok, ov, e⟩ := st
    exact ⟨_, e, fun v z => nomatch z⟩
  keep := fun i h h' st k => let ⟨ok, ov, e⟩ := st; ⟨ok, ov, k it (by simp) _ e⟩
  item := by
    intro X hP hw hK hc i pins s σ H E I hf st hg
    obtain ⟨fz, hi⟩ := hg
    obtain ⟨hs, hgd, hx, es', ep', hdt, hsz, ent⟩ := fz.raw (K := K) (hP.trans hKP) (hw.trans hKw) I
    rw [hod] at hdt
    cases hdt
    obtain ⟨⟨k, b, v⟩, hkv⟩ : ∃ p, xs[i]? = some p := ⟨xs[i], List.getElem?_eq_getElem hi⟩
    obtain ⟨u, q1, q2, ru⟩ := ent i k b v hkv
    have hi' : i < es.size := by rw [hsz]; exact hi
    rw [Array.getElem?_eq_getElem hi'] at q1 q2
    have q1 : es[i].key = .ref b := Option.some.inj q1
    have q2 : es[i].val = u := Option.some.inj q2
    obtain ⟨ok, ov, he⟩ := st
    rw [← hsz] at he
    have hlt : it < s.heap.objs.size := Heap.lt_size he
    refine wpAny_pyNext_items_item_raw he ⟨o, hgd, hx, hod⟩ hi' fun h' ho hT hz hk => ?_
    rw [q1, q2] at hT ho
    refine ⟨_, rfl, wpAny_letOwnedTupleGo_items (s := { s with heap := h' }) ho fun h'' he' sb => ?_⟩
    have hT2 : h''.get? s.heap.objs.size = some { cls := .type "tuple", data := .seq #[.ref b, u] } := (sb.2 _ (Nat.ne_of_gt hlt)).trans hT
    have new : ObjOk X.prog X.w (upd H s.heap.objs.size (.tup [.ref b, v])) h'' s.heap.objs.size (.tup [.ref b, v]) :=
      ⟨by show 2 ≤ sizeLine; decide, [.ref b, u], .cons rfl (.cons ru .nil), ⟨_, hT2, rfl, _, rfl⟩⟩
    have I1 : Inv X pins σ (upd H s.heap.objs.size (.tup [.ref b, v])) { s with heap := h'' } :=
      I.turnedNew (t' := s.toks) (ch := [it]) (fun c ob hb e => (sb.2 c (by simpa using hb)).trans (hk c ob (by simpa using hb) e)) hf (Nat.le_refl _) new
    refine ⟨.ref s.heap.objs.size, _, I1, rfl, ⟨_, k, b, v, hkv, rfl, I.hok.fresh (Nat.le_refl _), rfl⟩, ⟨.ref b, u, ?_⟩, fun c hb => ?_⟩
    · rw [← hsz]; exact he'
    · have e : c = it := by simpa using hb
      rw [e, upd_ne (Nat.ne_of_lt hlt)]
      exact (hf it (by simp)).1
  done := by
    intro X hP hw hK hc i pins s σ H E I hf st hg
    obtain ⟨fz, hi⟩ := hg
    obtain ⟨f0, f1, f2, f3, f4, f5⟩ := hf it (by simp)
    obtain ⟨hs, hgd, hx, es', ep', hdt, hsz, ent⟩ := fz.raw (K := K) (hP.trans hKP) (hw.trans hKw) I
    rw [hod] at hdt
    cases hdt
    obtain ⟨ok, ov, he⟩ := st
    rw [← hsz] at he
    exact wpAny_pyNext_items_end_raw (I.ok.hd hc) he ⟨o, hgd, hx, hod⟩ (by omega) fun h' eb => ⟨rfl, I.turned (t' := s.toks) (fun b ob hb e => eb b ob hb e) f0 f1 f3 f4 f5⟩
  self := fun A i s Q E st h => let ⟨_, _, e⟩ := st; PySem.W.kcp_self e h
def iItemsF (K : KK) (td : TE) : TI := fun σ H R => td σ H fun x H1 => ∃ d o xs, x = .ref d ∧ FzAt K H1 d o xs ∧ R (ItF K d o xs) H1
theorem pi_itemsF {e : Expr} {td : TE} {apos cpos : Pos} {elts : List Expr} {kk : Nat} {tpos : Pos} (hK : X.K = K.fr) (hP : X.prog = K.P) (hw : X.w = K.w) (he : PE X e td) (hbase : attributeBase e "items" X.env (eval e X.env) = eval e X.env := by rfl) (hline : (apos.endLine == cpos.line) = true := by rfl) :
    PI X (.Tuple elts kk tpos) (.Call (.Attribute e "items" apos) [] [] cpos) (iItemsF K td) := by
  refine ⟨fun pins s σ H R I h => ?_⟩
  refine wpAny_Call_method (T := "dict") (id := "dict.items") hbase rfl hline F.plainAttrs_dict F.slot_dict_items F.type_dict_items (thn (he.run pins s σ H _ I h) fun u s1 ⟨x, H1, I1, rx, d, o, xs, ex, fz, q⟩ => ?_)
  subst ex
  obtain rfl : u = Value.ref d := rx
  obtain ⟨hs, hgd, hx, es, ep, hdt, hsz, ent⟩ := fz.raw hP hw I1
  have raw : s1.heap.DictRaw d es ep := ⟨o, hgd, hx, hdt⟩
  refine ⟨raw.typeIs, fun b q => by cases q; exact ⟨o, hgd, hx.2.1⟩, ?_⟩
  have I2 : Inv X pins σ H1 { s1 with heap := s1.heap.push { cls := .type "dict_items", data := .fields #[.ref d] } } := I1.kept (t' := s1.toks) fun b ob q => Heap.get?_push_of_some _ q
  have fin : wpAny (model X.prog X.w) X.A (pyIter (.ref s1.heap.objs.size)) (PIE X pins σ (.Tuple elts kk tpos) R) X.xe { s1 with heap := s1.heap.push { cls := .type "dict_items", data := .fields #[.ref d] } } := by
    have T : Turn X.prog X.w X.K (.Tuple elts kk tpos) (ItF K d o xs) [(s1.heap.push { cls := .type "dict_items", data := .fields #[.ref d] }).objs.size] (s1.heap.push { cls := .type "dict_items", data := .fields #[.ref d] }).objs.size (fun i h => ∃ ok ov, IsItemIter h (s1.heap.push { cls := .type "dict_items", data := .fields #[.ref d] }).objs.size d i xs.length ep ok ov) := by
      rw [hK]
      exact turn_itemsF hP hw _ hdt
    refine wpAny_pyIter_items_raw (d := d) (es := es) (ep := ep) ⟨_, Heap.get?_push_size _ rfl, rfl, rfl⟩ (raw.at fun o' e' => Heap.get?_push_of_some _ e') (pi_one (tk := s1.toks) I2 _ T ⟨.none, .none, ?_⟩ q)
    rw [← hsz]
    exact Heap.get?_push_size _ rfl
  show wpAny _ _ (callWith cpos (.builtin "dict.items") [.ref d] [] []) _ X.xe s1
  exact method_meetsIn F.slot_dict_items F.entry_dict_items rfl (PySem.evalArgs_none ⟨rfl, raw.typeIs, F.args_dict_items_1 _, _, meets_dict_items_raw d hs, ⟨⟨es, ep, raw⟩, fin⟩⟩)
end
def pairT (p : Dat × Dat) : Dat := .tuple [p.1, p.2]
theorem fz_of {K : KK} {H0 H : Hp} {v : V} {kvs : List (Dat × Dat)} (h : Dp K H0 v (fdict kvs)) : ∃ d o xs, v = .ref d ∧ FzAt K H0 d o xs ∧ DpN K H0 xs kvs := by
  unfold fdict at h
  cases h with
  | dct h1 h2 =>
    cases h2 with
    | leaf h =>
      rename_i ks
      cases ks with
      | nil => cases h
      | cons p r =>
        obtain ⟨k, w⟩ := p
        generalize e : keyD k = kd at h
        cases k <;> cases h
    | nest n h =>
      cases h with
      | cons e1 _ _ _ _ => simp [keyOf] at e1
    | froz n h => exact ⟨_, _, _, rfl, ⟨_, n, h1⟩, h⟩
theorem DpN.getK {K : KK} {H : Hp} : ∀ {xs : List (NestedKey × Addr × V)} {kvs : List (Dat × Dat)}, DpN K H xs kvs → ∀ {i : Nat} {k : NestedKey} {b : Addr} {v : V}, xs[i]? = some (k, b, v) → ∃ p, kvs[i]? = some p ∧ Dp K H (.ref b) p.1 ∧ Dp K H v p.2
  | _, _, .nil, i, k, b, v, e => by simp at e
  | _, _, .cons e1 e2 h1 h2 t, 0, k, b, v, e => by
    simp only [List.getElem?_cons_zero, Option.some.injEq, Prod.mk.injEq] at e
    obtain ⟨_, z1, z2⟩ := e
    subst z1
    subst z2
    exact ⟨_, rfl, h1, h2⟩
  | _, _, .cons e1 e2 h1 h2 t, i + 1, k, b, v, e => by
    obtain ⟨p, q1, q2⟩ := DpN.getK t (i := i) (by simpa using e)
    exact ⟨p, by simpa using q1, q2⟩
theorem FzAt.grow {K : KK} {H H' : Hp} (s : Grow K H H') {d : Addr} {o : Obj} {xs : List (NestedKey × Addr × V)} (h : FzAt K H d o xs) : FzAt K H' d o xs := by
  obtain ⟨u, hu, e⟩ := h
  exact ⟨u, hu, s.of d _ e fun ps z => nomatch z⟩
theorem WalkD.itemsF {K : KK} {d : Addr} {o : Obj} {xs : List (NestedKey × Addr × V)} {kvs : List (Dat × Dat)} {G0 : Hp} (fz : FzAt K G0 d o xs) (dn : DpN K G0 xs kvs) : WalkD K (ItF K d o xs) (kvs.map pairT) G0 where
  goes := fun i H s hi => by
    rw [List.length_map, ← dn.pvLen] at hi
    exact ⟨fz.grow s, hi⟩
  stops := fun H s => ⟨fz.grow s, by rw [List.length_map, dn.pvLen]; exact Nat.le_refl _⟩
  yields := fun i H0 H x H' s s' hi y => by
    obtain ⟨T, k, b, v, ex, rfl, hT, rfl⟩ := y
    obtain ⟨p, ep, d1, d2⟩ := dn.getK ex
    have kn := Sub.upd (o := .tup [.ref b, v]) (s'.none hT)
    refine ⟨pairT p, _, by rw [List.getElem?_map, ep]; rfl, Ext.new s' hT, .tup (.inl (.inl upd_same)) (.cons (dp_mono (s.trans kn) _ _ d1) (.cons (dp_mono (s.trans kn) _ _ d2) .nil))⟩
def riItemsF (ra : RE) : RI := fun env R => ra env fun a => ∃ kvs, a = .val (fdict kvs) ∧ R (kvs.map pairT)
instance {K : KK} {td : TE} {ra : RE} [sa : SimE K td ra] : SimI K (iItemsF K td) (riItemsF ra) where
  run := fun st h q => sa.run st h fun v r G0 G ⟨kvs, e, hr⟩ x dn => by
    subst e
    have dn : Dp K G0 v (fdict kvs) := dn
    obtain ⟨d, o, xs, rfl, fz, dp⟩ := fz_of (H := G) dn
    refine ⟨d, o, xs, rfl, ?_, q _ _ _ _ hr x (WalkD.itemsF fz dp)⟩
    obtain ⟨u, hu, e⟩ := fz
    exact ⟨u, hu, x.inn _ _ e⟩
/-! ### from here on it is known -/
def tFroz (t : TS) : TS := fun D σ H => ∃ d u, H d = some u ∧ Mut (some u) ∧ ∀ od, t D σ (upd H d (.frz od u))
def tFrozE (t : TE) : TE := fun σ H Q => t σ H fun x H1 => ∃ d u, x = .ref d ∧ H1 d = some u ∧ Mut (some u) ∧ ∀ od, Q x (upd H1 d (.frz od u))
theorem ps_froz0 {X : Cx} {st : Stmt} {t : TS} (h : PS X st t) : PS X st (tFroz t) := by
  refine ⟨fun pins s σ H D I hw => ?_⟩
  obtain ⟨d, u, hd, mu, hw⟩ := hw
  obtain ⟨od, I1⟩ := I.lock hd mu
  exact h.run pins s σ _ _ I1 (hw od)
theorem pe_froz {X : Cx} {e : Expr} {t : TE} (h : PE X e t) : PE X e (tFrozE t) := by
  refine ⟨fun pins s σ H Q I hw => ?_⟩
  refine thn (h.run pins s σ H _ I hw) fun v s1 ⟨x, H1, I2, r, d, u, ex, hd, mu, q⟩ => ?_
  obtain ⟨od, I3⟩ := I2.lock hd mu
  exact ⟨x, _, I3, r, q od⟩
theorem dd_frz {K : KK} {H0 : Hp} {o : Addr} {ho : HO} {kvs : List (Dat × Dat)} (d : DpD K H0 o ho kvs) (ht : ∀ p ∈ kvs, isT p.1 = true) : Mut (some ho) ∧ ∀ {H' : Hp} (od : Obj), Sub H0 H' → DpD K H' o (.frz od ho) ((.bool true, .none) :: kvs) := by
  cases d with
  | leaf h =>
    cases h with
    | cons _ _ =>
      have := ht _ List.mem_cons_self
      rename_i k v d' r s' _ _
      cases k <;> cases this
    | nil => exact ⟨True.intro, fun od s => .froz (.inr ⟨rfl, rfl⟩) .nil⟩
  | nest n h => exact ⟨by unfold DN; exact True.intro, fun od s => .froz (.inl rfl) (dpN_mono' s h)⟩
  | froz _ _ =>
    have := ht _ List.mem_cons_self
    cases this
  | frozK _ =>
    have := ht _ List.mem_cons_self
    cases this
theorem StOk.frz {K : KK} {F B0 B H0 H : Hp} {σ : St} {env : En} (st : StOk K F B0 B H0 H σ env) {i : Nat} {o : Addr} {ho : HO} {kvs : List (Dat × Dat)} (hw : env[i]? = some (.ow (.dct kvs))) (hv : σ[i]? = some (some (.ref o))) (hb : B o = none) (h0 : H0 o = none) (hh : H o = some ho)
    {od : Obj} (dd : DpD K (upd H0 o (.frz od ho)) o (.frz od ho) ((.bool true, .none) :: kvs)) (nt : ∀ ps, ho ≠ .tbl ps) : StOk K F B0 B (upd H0 o (.frz od ho)) (upd H o (.frz od ho)) σ (env.set i (.val (fdict kvs))) := by
  have up : Sub H0 (upd H0 o (.frz od ho)) := Sub.upd h0
  have tabs : ∀ P, TabK K H0 H P → TabK K (upd H0 o (.frz od ho)) (upd H o (.frz od ho)) P := fun P ⟨t0, ps, h1, h2, h3⟩ => by
    have hP : P ≠ o := fun z => by rw [z, hh] at h1; exact nt _ (Option.some.inj h1)
    refine ⟨by rw [upd_ne hP]; exact t0, ps, by rw [upd_ne hP]; exact h1, h2, fun pos cv hc => ?_⟩
    obtain ⟨c, e1, e2⟩ := h3 pos cv hc
    exact ⟨c, e1, up _ _ e2⟩
  have slot : ∀ {j : Nat} {s : Sl}, (env.set i (.val (fdict kvs)))[j]? = some s → (j = i ∧ s = .val (fdict kvs)) ∨ (j ≠ i ∧ env[j]? = some s) := fun {j s} q => by
    by_cases hj : j = i
    · subst hj
      exact .inl ⟨rfl, (set_get q).1.symm⟩
    · rw [List.getElem?_set_ne fun z => hj z.symm] at q
      exact .inr ⟨hj, q⟩
  refine ⟨⟨⟨fun b o' e t => ?_, fun {b} e => ?_⟩, fun b o' e => up _ _ (st.ext.kn b o' e), fun b o' e => ?_, fun b e x => ?_, fun P t => tabs P (st.ext.tab P t)⟩, fun b o' e => up _ _ (st.fl b o' e), by rw [List.length_set]; exact st.len, fun j x q => ?_, fun j w q => ?_, fun j k w w' o' q1 q2 z1 z2 => ?_, fun j kn q => ?_, fun P hP => tabs P (st.tab P hP)⟩
  · have : b ≠ o := fun z => by rw [z, hb] at e; cases e
    rw [upd_ne this]
    exact st.ext.act.of b o' e t
  · by_cases hbo : b = o
    · rw [hbo, upd_same] at e; cases e
    · rw [upd_ne hbo] at e; exact st.ext.act.none e
  · by_cases hbo : b = o
    · rw [hbo, upd_same] at e ⊢; exact e
    · rw [upd_ne hbo] at e ⊢; exact st.inn _ _ e
  · have hbo : b ≠ o := fun z => x (by rw [z]; exact hb)
    rw [upd_ne hbo]
    exact st.ext.fr b e x
  · rcases slot q with ⟨rfl, z⟩ | ⟨hj, q⟩
    · cases z
      exact ⟨_, hv, .dct upd_same dd⟩
    · obtain ⟨v, h1, h2⟩ := st.val j x q
      exact ⟨v, h1, dp_mono up _ _ h2⟩
  · rcases slot q with ⟨_, z⟩ | ⟨hj, q⟩
    · cases z
    · obtain ⟨o2, ho2, h1, h2, h3, h4, h5⟩ := st.own j w q
      have hod : o2 ≠ o := fun z => hj (st.dis j i w _ o q hw (by rw [← z]; exact h1) hv)
      exact ⟨o2, ho2, h1, h2, by rw [upd_ne hod]; exact h3, by rw [upd_ne hod]; exact h4, h5.mono up⟩
  · rcases slot q1 with ⟨_, z⟩ | ⟨_, q1⟩
    · cases z
    · rcases slot q2 with ⟨_, z⟩ | ⟨_, q2⟩
      · cases z
      · exact st.dis j k w w' o' q1 q2 z1 z2
  · rcases slot q with ⟨_, z⟩ | ⟨hj, q⟩
    · cases z
    · obtain ⟨v, h1, h2⟩ := st.kno j kn q
      exact ⟨v, h1, h2.mono up⟩
def rFroz (i : Nat) (rb : RS) : RS := fun E env => ∃ kvs, env[i]? = some (.ow (.dct kvs)) ∧ (∀ p ∈ kvs, isT p.1 = true) ∧ rb E (env.set i (.val (fdict kvs)))
def tFrozS (i : Nat) (t : TS) : TS := tFroz t
theorem ps_froz {X : Cx} {st : Stmt} {t : TS} (i : Nat) (h : PS X st t) : PS X st (tFrozS i t) := ps_froz0 h
instance {K : KK} {i : Nat} {t : TS} {rb : RS} [sb : SimS K t rb] : SimS K (tFrozS i t) (rFroz i rb) where
  run := by
    intro F B0 B H0 H σ env D E st ⟨kvs, e, ht, h⟩ m
    obtain ⟨o, ho, hv, hb, h0, hh, dd⟩ := st.own i _ e
    have dd : DpD K H0 o ho kvs := dd
    obtain ⟨mu, fz⟩ := dd_frz dd ht
    exact ⟨o, ho, hh, mu, fun od => sb.run (st.frz e hv hb h0 hh (fz od (Sub.upd h0)) (OwIs.noTbl (w := .dct kvs) dd)) h m⟩
def rFrozE (ra : RE) : RE := fun env R => ra env fun a => ∃ kvs, a = .fr (.dct kvs) ∧ (∀ p ∈ kvs, isT p.1 = true) ∧ R (.val (fdict kvs))
instance {K : KK} {td : TE} {ra : RE} [sa : SimE K td ra] : SimE K (tFrozE td) (rFrozE ra) where
  run := by
    intro F B0 B H0 H σ env Q R st h q
    refine sa.run st h fun v r G0 G ⟨kvs, e, ht, hr⟩ x dn => ?_
    subst e
    obtain ⟨o, ho, rfl, hs, h0, hh, dd⟩ := dn
    have dd : DpD K G0 o ho kvs := dd
    obtain ⟨mu, fz⟩ := dd_frz dd ht
    have nt : ∀ ps, ho ≠ .tbl ps := OwIs.noTbl (w := .dct kvs) dd
    refine ⟨o, ho, rfl, hh, mu, fun od => ?_⟩
    have up : Sub G0 (upd G0 o (.frz od ho)) := Sub.upd h0
    refine q _ (.val _) (upd G0 o (.frz od ho)) _ hr ⟨⟨fun b o' e t => ?_, fun {b} e => ?_⟩, fun b o' e => up _ _ (x.kn b o' e), fun b o' e => ?_, fun b e z => ?_, fun P t => ?_⟩ (.dct upd_same (fz od up))
    · have : b ≠ o := fun z => by rw [z, hs] at e; cases e
      rw [upd_ne this]
      exact x.act.of b o' e t
    · by_cases hbo : b = o
      · rw [hbo, upd_same] at e; cases e
      · rw [upd_ne hbo] at e; exact x.act.none e
    · by_cases hbo : b = o
      · rw [hbo, upd_same] at e ⊢; exact e
      · rw [upd_ne hbo] at e ⊢; exact x.inn _ _ e
    · have hbo : b ≠ o := fun w => z (by rw [w]; exact hs)
      rw [upd_ne hbo]
      exact x.fr b e z
    · obtain ⟨t0, ps, h1, h2, h3⟩ := x.tab P t
      have hP : P ≠ o := fun z => by rw [z, hh] at h1; exact nt _ (Option.some.inj h1)
      refine ⟨by rw [upd_ne hP]; exact t0, ps, by rw [upd_ne hP]; exact h1, h2, fun pos cv hc => ?_⟩
      obtain ⟨c, e1, e2⟩ := h3 pos cv hc
      exact ⟨c, e1, up _ _ e2⟩
end PV

/-! PvFrozB: dicts that are done with: with number keys; keys in order, len, list; enumerate(.., start=k). -/
namespace PV
open PySem PySem.Spec PyProof.Rows L2 NdefX LamX -- pv
/-! ### number keys -/
def fdictK (kvs : List (Dat × Dat)) : Dat := .dict ((.bool false, .none) :: kvs)
theorem fzk_of {K : KK} {H0 : Hp} {v : V} {kvs : List (Dat × Dat)} (h : Dp K H0 v (fdictK kvs)) : ∃ d o ks, v = .ref d ∧ H0 d = some (.frz o (.dK ks)) ∧ DpK K H0 ks kvs := by
  unfold fdictK at h
  cases h with
  | dct h1 h2 =>
    cases h2 with
    | leaf h =>
      rename_i ks
      cases ks with
      | nil => cases h
      | cons p r =>
        obtain ⟨k, w⟩ := p
        generalize e : keyD k = kd at h
        cases k <;> cases h
    | nest n h =>
      cases h with
      | cons e1 _ _ _ _ => simp [keyOf] at e1
    | frozK h => exact ⟨_, _, _, rfl, h1, h⟩
theorem WalkD.itemsK {K : KK} {d : Addr} {o : Obj} {ks : List (Key × V)} {kvs : List (Dat × Dat)} {G0 : Hp} (fz : G0 d = some (.frz o (.dK ks))) (dn : DpK K G0 ks kvs) : WalkD K (Iti d o ks) (kvs.map pairT) G0 where
  goes := fun i H s hi => by
    rw [List.length_map, ← dn.pvLen] at hi
    exact ⟨s.of d _ fz (fun ps z => nomatch z), hi⟩
  stops := fun H s => ⟨s.of d _ fz (fun ps z => nomatch z), by rw [List.length_map, dn.pvLen]; exact Nat.le_refl _⟩
  yields := fun i H0 H x H' s s' hi y => by
    obtain ⟨T, k, v, ex, rfl, hT, rfl⟩ := y
    obtain ⟨xd, ep, d2⟩ := dpK_get dn ex
    have kn := Sub.upd (o := .tup [kV k, v]) (s'.none hT)
    refine ⟨pairT (keyD k, xd), _, by rw [List.getElem?_map, ep]; rfl, Ext.new s' hT, .tup (.inl (.inl upd_same)) (.cons (dp_key k) (.cons (dp_mono (s.trans kn) _ _ d2) .nil))⟩
def riItemsK (ra : RE) : RI := fun env R => ra env fun a => ∃ kvs, a = .val (fdictK kvs) ∧ R (kvs.map pairT)
instance {K : KK} {td : TE} {ra : RE} [sa : SimE K td ra] : SimI K (iItems td) (riItemsK ra) where
  run := fun st h q => sa.run st h fun v r G0 G ⟨kvs, e, hr⟩ x dn => by
    subst e
    have dn : Dp K G0 v (fdictK kvs) := dn
    obtain ⟨d, o, ks, rfl, fz, dp⟩ := fzk_of dn
    exact ⟨d, o, ks, rfl, x.inn _ _ fz, q _ _ _ _ hr x (WalkD.itemsK fz dp)⟩
theorem dd_frzK {K : KK} {H0 : Hp} {o : Addr} {ho : HO} {kvs : List (Dat × Dat)} (d : DpD K H0 o ho kvs) (ht : ∀ p ∈ kvs, isLf p.1 = true) : Mut (some ho) ∧ ∀ {H' : Hp} (od : Obj), Sub H0 H' → DpD K H' o (.frz od ho) ((.bool false, .none) :: kvs) := by
  obtain ⟨ks, rfl, h⟩ := dd_leaf d ht
  exact ⟨True.intro, fun od s => .frozK (dpK_mono' s h)⟩
/-- the same steps as in PvFroz, whatever the mark -/
theorem StOk.frzM {K : KK} {F B0 B H0 H : Hp} {σ : St} {env : En} (st : StOk K F B0 B H0 H σ env) {i : Nat} {o : Addr} {ho : HO} {kvs c : List (Dat × Dat)} (hw : env[i]? = some (.ow (.dct kvs))) (hv : σ[i]? = some (some (.ref o))) (hb : B o = none) (h0 : H0 o = none) (hh : H o = some ho)
    {od : Obj} (dd : DpD K (upd H0 o (.frz od ho)) o (.frz od ho) c) (nt : ∀ ps, ho ≠ .tbl ps) : StOk K F B0 B (upd H0 o (.frz od ho)) (upd H o (.frz od ho)) σ (env.set i (.val (.dict c))) := by
  have up : Sub H0 (upd H0 o (.frz od ho)) := Sub.upd h0
  have tabs : ∀ P, TabK K H0 H P → TabK K (upd H0 o (.frz od ho)) (upd H o (.frz od ho)) P := fun P ⟨t0, ps, h1, h2, h3⟩ => by
    have hP : P ≠ o := fun z => by rw [z, hh] at h1; exact nt _ (Option.some.inj h1)
    refine ⟨by rw [upd_ne hP]; exact t0, ps, by rw [upd_ne hP]; exact h1, h2, fun pos cv hc => ?_⟩
    obtain ⟨c, e1, e2⟩ := h3 pos cv hc
    exact ⟨c, e1, up _ _ e2⟩
  have slot : ∀ {j : Nat} {s : Sl}, (env.set i (.val (.dict c)))[j]? = some s → (j = i ∧ s = .val (.dict c)) ∨ (j ≠ i ∧ env[j]? = some s) := fun {j s} q => by
    by_cases hj : j = i
    · subst hj
      exact .inl ⟨rfl, (set_get q).1.symm⟩
    · rw [List.getElem?_set_ne fun z => hj z.symm] at q
      exact .inr ⟨hj, q⟩
  refine ⟨⟨⟨fun b o' e t => ?_, fun {b} e => ?_⟩, fun b o' e => up _ _ (st.ext.kn b o' e), fun b o' e => ?_, fun b e x => ?_, fun P t => tabs P (st.ext.tab P t)⟩, fun b o' e => up _ _ (st.fl b o' e), by rw [List.length_set]; exact st.len, fun j x q => ?_, fun j w q => ?_, fun j k w w' o' q1 q2 z1 z2 => ?_, fun j kn q => ?_, fun P hP => tabs P (st.tab P hP)⟩
  · have : b ≠ o := fun z => by rw [z, hb] at e; cases e
    rw [upd_ne this]
    exact st.ext.act.of b o' e t
  · by_cases hbo : b = o
    · rw [hbo, upd_same] at e; cases e
    · rw [upd_ne hbo] at e; exact st.ext.act.none e
  · by_cases hbo : b = o
    · rw [hbo, upd_same] at e ⊢; exact e
    · rw [upd_ne hbo] at e ⊢; exact st.inn _ _ e
  · have hbo : b ≠ o := fun z => x (by rw [z]; exact hb)
    rw [upd_ne hbo]
    exact st.ext.fr b e x
  · rcases slot q with ⟨rfl, z⟩ | ⟨hj, q⟩
    · cases z
      exact ⟨_, hv, .dct upd_same dd⟩
    · obtain ⟨v, h1, h2⟩ := st.val j x q
      exact ⟨v, h1, dp_mono up _ _ h2⟩
  · rcases slot q with ⟨_, z⟩ | ⟨hj, q⟩
    · cases z
    · obtain ⟨o2, ho2, h1, h2, h3, h4, h5⟩ := st.own j w q
      have hod : o2 ≠ o := fun z => hj (st.dis j i w _ o q hw (by rw [← z]; exact h1) hv)
      exact ⟨o2, ho2, h1, h2, by rw [upd_ne hod]; exact h3, by rw [upd_ne hod]; exact h4, h5.mono up⟩
  · rcases slot q1 with ⟨_, z⟩ | ⟨_, q1⟩
    · cases z
    · rcases slot q2 with ⟨_, z⟩ | ⟨_, q2⟩
      · cases z
      · exact st.dis j k w w' o' q1 q2 z1 z2
  · rcases slot q with ⟨_, z⟩ | ⟨hj, q⟩
    · cases z
    · obtain ⟨v, h1, h2⟩ := st.kno j kn q
      exact ⟨v, h1, h2.mono up⟩
theorem Ext.frzM {K : KK} {H0 H G0 G : Hp} (x : Ext K H0 H G0 G) {o : Addr} {ho : HO} {od : Obj} (hs : H o = none) (h0 : G0 o = none) (hh : G o = some ho) (nt : ∀ ps, ho ≠ .tbl ps) : Ext K H0 H (upd G0 o (.frz od ho)) (upd G o (.frz od ho)) := by
  have up : Sub G0 (upd G0 o (.frz od ho)) := Sub.upd h0
  refine ⟨⟨fun b o' e t => ?_, fun {b} e => ?_⟩, fun b o' e => up _ _ (x.kn b o' e), fun b o' e => ?_, fun b e z => ?_, fun P t => ?_⟩
  · have : b ≠ o := fun z => by rw [z, hs] at e; cases e
    rw [upd_ne this]
    exact x.act.of b o' e t
  · by_cases hbo : b = o
    · rw [hbo, upd_same] at e; cases e
    · rw [upd_ne hbo] at e; exact x.act.none e
  · by_cases hbo : b = o
    · rw [hbo, upd_same] at e ⊢; exact e
    · rw [upd_ne hbo] at e ⊢; exact x.inn _ _ e
  · have hbo : b ≠ o := fun w => z (by rw [w]; exact hs)
    rw [upd_ne hbo]
    exact x.fr b e z
  · obtain ⟨t0, ps, h1, h2, h3⟩ := x.tab P t
    have hP : P ≠ o := fun z => by rw [z, hh] at h1; exact nt _ (Option.some.inj h1)
    refine ⟨by rw [upd_ne hP]; exact t0, ps, by rw [upd_ne hP]; exact h1, h2, fun pos cv hc => ?_⟩
    obtain ⟨c, e1, e2⟩ := h3 pos cv hc
    exact ⟨c, e1, up _ _ e2⟩
def tFrozKS (i : Nat) (t : TS) : TS := tFroz t
theorem ps_frozK {X : Cx} {st : Stmt} {t : TS} (i : Nat) (h : PS X st t) : PS X st (tFrozKS i t) := ps_froz0 h
def rFrozK (i : Nat) (rb : RS) : RS := fun E env => ∃ kvs, env[i]? = some (.ow (.dct kvs)) ∧ (∀ p ∈ kvs, isLf p.1 = true) ∧ rb E (env.set i (.val (fdictK kvs)))
instance {K : KK} {i : Nat} {t : TS} {rb : RS} [sb : SimS K t rb] : SimS K (tFrozKS i t) (rFrozK i rb) where
  run := by
    intro F B0 B H0 H σ env D E st ⟨kvs, e, ht, h⟩ m
    obtain ⟨o, ho, hv, hb, h0, hh, dd⟩ := st.own i _ e
    have dd : DpD K H0 o ho kvs := dd
    obtain ⟨mu, fz⟩ := dd_frzK dd ht
    exact ⟨o, ho, hh, mu, fun od => sb.run (st.frzM e hv hb h0 hh (fz od (Sub.upd h0)) (OwIs.noTbl (w := .dct kvs) dd)) h m⟩
def tFrozKE (t : TE) : TE := tFrozE t
theorem pe_frozK {X : Cx} {e : Expr} {t : TE} (h : PE X e t) : PE X e (tFrozKE t) := pe_froz h
def rFrozKE (ra : RE) : RE := fun env R => ra env fun a => ∃ kvs, a = .fr (.dct kvs) ∧ (∀ p ∈ kvs, isLf p.1 = true) ∧ R (.val (fdictK kvs))
instance {K : KK} {td : TE} {ra : RE} [sa : SimE K td ra] : SimE K (tFrozKE td) (rFrozKE ra) where
  run := by
    intro F B0 B H0 H σ env Q R st h q
    refine sa.run st h fun v r G0 G ⟨kvs, e, ht, hr⟩ x dn => ?_
    subst e
    obtain ⟨o, ho, rfl, hs, h0, hh, dd⟩ := dn
    have dd : DpD K G0 o ho kvs := dd
    obtain ⟨mu, fz⟩ := dd_frzK dd ht
    have nt : ∀ ps, ho ≠ .tbl ps := OwIs.noTbl (w := .dct kvs) dd
    exact ⟨o, ho, rfl, hh, mu, fun od => q _ (.val _) (upd G0 o (.frz od ho)) _ hr (x.frzM hs h0 hh nt) (.dct upd_same (fz od (Sub.upd h0)))⟩
/-! ### len -/
def rLenK : List V → Hp → VK → Prop := fun xs H Q => ∃ a kvs, xs = [V.ref a] ∧ Rd H a (.dK kvs) ∧ Q (.int kvs.length) H
theorem call_lenFK {X : Cx} : CallR X (.builtin "len") rLenK := by
  intro pins s σ H xs us Q I r h
  obtain ⟨a, kvs, rfl, ha, q⟩ := h
  obtain ⟨u, rfl, ru⟩ := vals1 r
  cases ru
  exact d_len I ha fun t s' I' => ⟨.int kvs.length, H, I', ⟨t, rfl⟩, q⟩
def pLenFK (as : List Rs) (R : Rs → Prop) : Prop := ∃ kvs, as = [.val (fdictK kvs)] ∧ R (.val (.int kvs.length))
instance {K : KK} : ImL K rLenK pLenFK where
  run := by
    intro F B0 B Hs H0 H σ env xs as Q R st da ⟨kvs, e, h⟩ q
    subst e
    obtain ⟨v, rfl, dv⟩ := da.one
    have dv : Dp K H0 v (fdictK kvs) := dv
    obtain ⟨d, o, ks, rfl, fz, dk⟩ := fzk_of dv
    refine ⟨d, ks, rfl, .inr ⟨o, st.inn _ _ fz⟩, ?_⟩
    rw [dk.pvLen]
    exact q.at st h (Dp.int _)
/-! ### tuple keys, one's own or done with -/
def Nst (c kvs : List (Dat × Dat)) : Prop := (c = kvs ∨ c = (.bool true, .none) :: kvs) ∧ ∀ p ∈ kvs, isT p.1 = true
section
variable {X : Cx} {K : KK} {pins : List (Addr × Obj)} {σ : St} {H G : Hp} {s : Shared}
theorem dd_nestA (hK : X.K = K.fr) (hP : X.prog = K.P) (hw : X.w = K.w) (I : Inv X pins σ H s) {a : Addr} {ho : HO} {c kvs : List (Dat × Dat)} (sg : Sub G H) (e : H a = some ho) (d : DpD K G a ho c) (n : Nst c kvs) :
    (a == sysModules) = false ∧ kvs.length ≤ sizeLine ∧ ∃ ys : List (NestedKey × Addr × Value), s.heap.DictOfH (nestedKind X.prog X.w) a ys ∧ Paired (EnIs K G) ys kvs := by
  obtain ⟨hc, ht⟩ := n
  rcases hc with rfl | rfl
  · exact dd_nest hK hP hw I sg e d ht
  · cases d with
    | leaf h =>
      rename_i ks
      cases ks with
      | nil => cases h
      | cons p r =>
        obtain ⟨k, w⟩ := p
        generalize e : keyD k = kd at h
        cases k <;> cases h
    | nest n h =>
      cases h with
      | cons e1 _ _ _ _ => simp [keyOf] at e1
    | froz nn h =>
      rename_i od u xs
      obtain ⟨g0, q⟩ := I.hok a _ e
      rcases nn with rfl | ⟨rfl, rfl⟩
      · obtain ⟨⟨hd, hz, ys, o, es, ep, r, g1, g2, g3, g4, g5⟩, _, _⟩ := q
        rw [← hP, ← hw] at g4
        have q := en_of h r
        refine ⟨hd, by rw [← h.pvLen]; exact hz, ys, ⟨o, es, ep, g1, g2, g3, g4, fun x hx => ?_, g5⟩, q⟩
        obtain ⟨p, _, e1, e2, e3, _⟩ := paired_mem q x hx
        exact ⟨key_is hK I p.1 x.1 _ _ e1 (dp_mono sg _ _ e3) rfl, e2⟩
      · cases h
        obtain ⟨z, hd, vs, r, o, es, ep, g1, g2, g3, g4, g5, g6⟩ := q
        cases r
        refine ⟨hd, Nat.zero_le _, [], ⟨o, es, ep, g1, g2, g3, ?_, fun x hx => by simp at hx, List.nodup_nil⟩, .nil⟩
        have : es.toList = [] := by
          cases q : es.toList with
          | nil => rfl
          | cons x r => rw [q] at g5; cases g5
        rw [this]; rfl
def rLenN (K : KK) : List V → Hp → VK → Prop := fun xs H Q => ∃ G a ho c kvs, xs = [V.ref a] ∧ Sub G H ∧ H a = some ho ∧ DpD K G a ho c ∧ Nst c kvs ∧ Q (.int kvs.length) H
theorem call_lenN (hK : X.K = K.fr) (hP : X.prog = K.P) (hw : X.w = K.w) : CallR X (.builtin "len") (rLenN K) := by
  intro pins s σ H xs us Q I r ⟨G, a, ho, c, kvs, ex, sg, e, d, n, q⟩
  subst ex
  obtain ⟨u, rfl, ru⟩ := vals1 r
  cases ru
  obtain ⟨hd, hz, ys, hx, hp⟩ := dd_nestA hK hP hw I sg e d n
  rw [sizeLine_eq] at hz
  refine call_len_dictH hd hx (by rw [hp.length]; omega) ?_
  rw [hp.length]
  exact ⟨.int kvs.length, H, (I.tok _).tok _, ⟨_, rfl⟩, q⟩
def pLenN (as : List Rs) (R : Rs → Prop) : Prop := ∃ a c kvs, as = [a] ∧ a.rd = .dict c ∧ Nst c kvs ∧ R (.val (.int kvs.length))
instance : ImL K (rLenN K) pLenN where
  run := by
    intro F B0 B Hs H0 H σ env xs as Q R st da ⟨a, c, kvs, e, ea, n, h⟩ q
    subst e
    obtain ⟨v, rfl, dv⟩ := da.one
    obtain ⟨p, ho, rfl, hp, dd⟩ := dv.asDict st ea
    exact ⟨H0, p, ho, c, kvs, rfl, st.inn, hp, dd, n, q.at st h (Dp.int _)⟩
/-- d[k] of a dict that is done with -/
def rIxF (K : KK) : R2 := fun x y H Q => ∃ G a ho c kvs kd e, x = .ref a ∧ Sub G H ∧ H a = some ho ∧ DpD K G a ho c ∧ Nst c kvs ∧ TKey kd ∧ Dp K G y kd ∧ lookD kvs kd = some e ∧ ∀ v, Dp K G v e → Q v H
theorem ix_frz (hu : X.A.units + 64 < cLine) (hK : X.K = K.fr) (hP : X.prog = K.P) (hw : X.w = K.w) : IxR X (rIxF K) := by
  intro value slice pins s σ H x y v u Q I rx ry ⟨G, a, ho, c, kvs, kd, e, ex, sg, eo, dd, n, ⟨k, tk, ek, dp⟩, dk, l, q⟩ hs
  subst ex
  cases rx
  obtain ⟨ty, _⟩ := dd_typed I eo dd
  obtain ⟨hd, hz, ys, hx, hp⟩ := dd_nestA hK hP hw I sg eo dd n
  obtain ⟨b, rfl⟩ := tkey_ref dk tk
  cases ry
  have al := at_look ek hp
  refine tail_any ty PySem.F.slot_dict_getitem.lookup ?_ hs
  cases z : atKey ys k with
  | none => rw [z] at al; rw [show lookD kvs kd = none from al] at l; cases l
  | some p =>
    rw [z] at al
    obtain ⟨v, e', l1, rv, dv⟩ := al
    rw [l] at l1
    cases l1
    refine wpAny_getItem_heap (knd := nestedKind X.prog X.w) (k := k) (by show X.A.units + 1 + 8 < cLine; omega) ⟨key_is hK I kd k _ _ ek (dp_mono sg _ _ dk) rfl, dp⟩ hx z ?_
    exact ⟨v, H, I.tok _, rv, q v dv⟩
def pIxF : R2p := fun a b R => ∃ c kvs e, a.rd = .dict c ∧ Nst c kvs ∧ TKey b.rd ∧ lookD kvs b.rd = some e ∧ R (.val e)
instance : Im2 K (rIxF K) pIxF where
  run := fun st da db ⟨c, kvs, e, ea, n, tk, l, h⟩ q => by
    obtain ⟨p, ho, rfl, e1, e2⟩ := da.asDict st ea
    exact ⟨_, p, ho, c, kvs, _, e, rfl, st.inn, e1, e2, n, tk, db.leafT (.inr (let ⟨_, t, _⟩ := tk; t)), l, fun v dv => q.at st h dv⟩
end
/-! ### for k in d -/
def ItKF (K : KK) (d : Addr) (o : Obj) (xs : List (NestedKey × Addr × V)) : It :=
  ⟨fun i H => FzAt K H d o xs ∧ i < xs.length, fun i H x H' => H' = H ∧ ∃ k b v, xs[i]? = some (k, b, v) ∧ x = .ref b, fun i H => FzAt K H d o xs ∧ xs.length ≤ i⟩
theorem turn_keysF {P : Program} {w : World} {K : KK} {tg : Expr} {d : Addr} {o : Obj} {xs : List (NestedKey × Addr × V)} {es : Array DictEntry} {ep : Nat} (hKP : P = K.P) (hKw : w = K.w) (it : Addr) (hod : o.data = .dict es ep) :
    Turn P w K.fr tg (ItKF K d o xs) [it] it (fun i h => h.IsKeyIter it d i xs.length ep) where
  mem := by simp
  obj := fun i h st b hb => by
    have e : b = it := by simpa using hb
    subst e
    obtain ⟨oi, e, c, dd⟩ := st
    exact ⟨oi, e, fun v z => by rw [dd] at z; cases z⟩
  keep := fun i h h' st k => st.at fun oi e => k it (by simp) oi e
  item := by
    intro X hP hw hK hc i pins s σ H E I hf st hg
    obtain ⟨fz, hi⟩ := hg
    obtain ⟨f0, f1, f2, f3, f4, f5⟩ := hf it (by simp)
    obtain ⟨hs, hgd, hx, es', ep', hdt, hsz, ent⟩ := fz.raw (K := K) (hP.trans hKP) (hw.trans hKw) I
    rw [hod] at hdt
    cases hdt
    obtain ⟨⟨k, b, v⟩, hkv⟩ : ∃ p, xs[i]? = some p := ⟨xs[i], List.getElem?_eq_getElem hi⟩
    obtain ⟨u, q1, q2, ru⟩ := ent i k b v hkv
    have hi' : i < es.size := by rw [hsz]; exact hi
    rw [Array.getElem?_eq_getElem hi'] at q1
    have q1 : es[i].key = .ref b := Option.some.inj q1
    rw [← hsz] at st
    refine wpAny_pyNext_keys_item_raw st ⟨o, hgd, hx, hod⟩ hi' fun h' st' sb => ?_
    have I1 : Inv X pins σ H { s with heap := h' } := I.turned (t' := s.toks) (fun b ob hb e => (sb.2 b hb).trans e) f0 f1 f3 f4 f5
    obtain ⟨oi, e, c, dd⟩ := id st'
    refine ⟨es[i].key, rfl, go_of (s := { s with heap := h' }) e c dd (by decide) ⟨.ref b, H, I1, q1, ⟨rfl, k, b, v, hkv, rfl⟩, ?_, fun b hb => (hf b hb).1⟩⟩
    show h'.IsKeyIter it d (i + 1) xs.length _
    rw [← hsz]
    exact st'
  done := by
    intro X hP hw hK hc i pins s σ H E I hf st hg
    obtain ⟨fz, hi⟩ := hg
    obtain ⟨f0, f1, f2, f3, f4, f5⟩ := hf it (by simp)
    obtain ⟨hs, hgd, hx, es', ep', hdt, hsz, ent⟩ := fz.raw (K := K) (hP.trans hKP) (hw.trans hKw) I
    rw [hod] at hdt
    cases hdt
    rw [← hsz] at st
    exact wpAny_pyNext_keys_end_raw (I.ok.hd hc) st ⟨o, hgd, hx, hod⟩ (by omega) fun h' eb => ⟨rfl, I.turned (t' := s.toks) (fun b ob hb e => eb b ob hb e) f0 f1 f3 f4 f5⟩
  self := fun A i s Q E st h => wpAny_pyIter_keyiter st h
def iKeysF (K : KK) (td : TE) : TI := fun σ H R => td σ H fun x H1 => ∃ d o xs, x = .ref d ∧ FzAt K H1 d o xs ∧ R (ItKF K d o xs) H1
theorem pi_keysF {X : Cx} {K : KK} {tg e : Expr} {td : TE} (hK : X.K = K.fr) (hP : X.prog = K.P) (hw : X.w = K.w) (he : PE X e td) : PI X tg e (iKeysF K td) := by
  refine ⟨fun pins s σ H R I h => ?_⟩
  refine thn (he.run pins s σ H _ I h) fun u s1 ⟨x, H1, I1, rx, d, o, xs, ex, fz, q⟩ => ?_
  subst ex
  obtain rfl : u = Value.ref d := rx
  obtain ⟨hs, hgd, hx, es, ep, hdt, hsz, ent⟩ := fz.raw hP hw I1
  have T : Turn X.prog X.w X.K tg (ItKF K d o xs) [s1.heap.objs.size] s1.heap.objs.size (fun i h => h.IsKeyIter s1.heap.objs.size d i xs.length ep) := by
    rw [hK]
    exact turn_keysF hP hw _ hdt
  refine wpAny_pyIter_dict_raw hs ⟨o, hgd, hx, hdt⟩ (pi_one (tk := s1.toks) I1 _ T ⟨_, Heap.get?_push_size _ rfl, rfl, ?_⟩ q)
  rw [← hsz]
  rfl
theorem WalkD.keysF {K : KK} {d : Addr} {o : Obj} {xs : List (NestedKey × Addr × V)} {kvs : List (Dat × Dat)} {G0 : Hp} (fz : FzAt K G0 d o xs) (dn : DpN K G0 xs kvs) : WalkD K (ItKF K d o xs) (kvs.map (·.1)) G0 where
  goes := fun i H s hi => by
    rw [List.length_map, ← dn.pvLen] at hi
    exact ⟨fz.grow s, hi⟩
  stops := fun H s => ⟨fz.grow s, by rw [List.length_map, dn.pvLen]; exact Nat.le_refl _⟩
  yields := fun i H0 H x H' s s' hi y => by
    obtain ⟨rfl, k, b, v, ex, rfl⟩ := y
    obtain ⟨p, ep, d1, d2⟩ := dn.getK ex
    exact ⟨p.1, H0, by rw [List.getElem?_map, ep]; rfl, Ext.refl s', dp_mono s _ _ d1⟩
def riKeysF (ra : RE) : RI := fun env R => ra env fun a => ∃ kvs, a = .val (fdict kvs) ∧ R (kvs.map (·.1))
instance {K : KK} {td : TE} {ra : RE} [sa : SimE K td ra] : SimI K (iKeysF K td) (riKeysF ra) where
  run := fun st h q => sa.run st h fun v r G0 G ⟨kvs, e, hr⟩ x dn => by
    subst e
    have dn : Dp K G0 v (fdict kvs) := dn
    obtain ⟨d, o, xs, rfl, fz, dp⟩ := fz_of (H := G) dn
    refine ⟨d, o, xs, rfl, ?_, q _ _ _ _ hr x (WalkD.keysF fz dp)⟩
    obtain ⟨u, hu, e⟩ := fz
    exact ⟨u, hu, x.inn _ _ e⟩
end PV

/-! PvEnumS: enumerate(xs, start=k). -/
namespace PV
open PySem PySem.Spec PyProof.Rows L2 NdefX LamX -- pv
def ItES (K : PySem.W.Frag) (b : Bool) (a : Addr) (c : Int) : It :=
  ⟨fun i H => ∃ (xs : List V) (x : V), SqB K b H a xs ∧ xs[i]? = some x, fun i H v H' => ∃ T x, v = .ref T ∧ H T = none ∧ H' = upd H T (.tup [.int (c + (i : Nat)), x]) ∧ ∀ xs, SqB K b H a xs → xs[i]? = some x,
    fun i H => ∃ xs : List V, SqB K b H a xs ∧ xs.length = i⟩
theorem turn_ES {P : Program} {w : World} {K : PySem.W.Frag} {elts : List Expr} {kk : Nat} {tpos : Pos} (b : Bool) (a e it : Addr) (c : Int) :
    Turn P w K (.Tuple elts kk tpos) (ItES K b a c) [e, it] e (fun i h => (∃ old, IsEnum h e it (c + ((i : Nat) : Int)) old) ∧ SeqItB b h it a i ∧ e ≠ it ∧ a ≠ it) where
  mem := by simp
  obj := fun i h st c hc => by
    obtain ⟨⟨old, he⟩, hi, _⟩ := st
    rcases List.mem_cons.mp hc with rfl | hc
    · exact ⟨_, he, fun v q => nomatch q⟩
    · rw [List.mem_singleton.mp hc]; exact hi.ob
  keep := fun i h h' st k => let ⟨⟨old, he⟩, hi, hn⟩ := st; ⟨⟨old, k e (by simp) _ he⟩, hi.keep fun o q => k it (by simp) o q, hn⟩
  item := by
    intro X hP hw hK hc i pins s σ H E I hf st hg
    subst hP hw hK
    obtain ⟨⟨old, he⟩, hit, hne, hna⟩ := st
    obtain ⟨xs, x, hq, hx⟩ := hg
    obtain ⟨its, rv, p⟩ := SqB.at I hq
    obtain ⟨u, hu, ru⟩ := rv.get hx
    have hh : X.A.handled = none := I.ok.hd hc
    have hel : e < s.heap.objs.size := Heap.lt_size he
    have nea : e ≠ a := itB_ne p he fun n xs q => nomatch q
    have hil : it < s.heap.objs.size := by obtain ⟨_, q, _⟩ := hit.ob; exact Heap.lt_size q
    have G := GoesN.enumFrom (elts := elts) (x1 := kk) (pos := tpos) c (draws_B (prog := X.prog) (w := X.w) (A := X.A.in1) hh b it a hna its.toArray) e hne (by simp [hne, nea]) (by simp)
    have hlt : i < its.toArray.size := by
      rw [List.size_toArray]
      exact (List.getElem?_eq_some_iff.mp hu).1
    refine thn (G.goes i s _ E hlt ⟨⟨old, he⟩, hit, p⟩ fun v h' tk hY st' hk _ => ?_) fun r s1 h1 => h1
    obtain ⟨T, t, y, rfl, hT, hy, tT⟩ := hY
    have ey : y = u := by
      have e2 : its[i]? = some y := by simpa using hy
      rw [hu] at e2; exact (Option.some.inj e2).symm
    subst ey
    obtain ⟨⟨old', he'⟩, hit', p'⟩ := st'
    have new : ObjOk X.prog X.w (upd H T (.tup [.int (c + (i : Nat)), x])) h' T (.tup [.int (c + (i : Nat)), x]) :=
      ⟨by show 2 ≤ sizeLine; decide, [.int (c + (i : Int)) t, y], .cons ⟨_, rfl⟩ (.cons ru .nil), tT⟩
    have I1 := I.turnedNew (t' := tk) (ch := [e, it]) hk hf hT new
    refine ⟨.ref T, _, I1, rfl, ⟨T, x, rfl, I.hok.fresh hT, rfl, fun ys hy => by rw [SqB.inj I hy hq]; exact hx⟩, ⟨⟨old', he'⟩, hit', hne, hna⟩, fun c hcm => ?_⟩
    have hlt' : c < s.heap.objs.size := by
      rcases List.mem_cons.mp hcm with rfl | hcm
      · exact hel
      · rw [List.mem_singleton.mp hcm]; exact hil
    rw [upd_ne (Nat.ne_of_lt (Nat.lt_of_lt_of_le hlt' hT))]
    exact (hf c hcm).1
  done := by
    intro X hP hw hK hc i pins s σ H E I hf st hg
    subst hP hw hK
    obtain ⟨⟨old, he⟩, hit, hne, hna⟩ := st
    obtain ⟨xs, hq, hx⟩ := hg
    obtain ⟨its, rv, p⟩ := SqB.at I hq
    have hh : X.A.handled = none := I.ok.hd hc
    have nea : e ≠ a := itB_ne p he fun n xs q => nomatch q
    have G := GoesN.enumFrom (elts := elts) (x1 := kk) (pos := tpos) c (draws_B (prog := X.prog) (w := X.w) (A := X.A.in1) hh b it a hna its.toArray) e hne (by simp [hne, nea]) (by simp)
    have hn : i = its.toArray.size := by rw [List.size_toArray, ← rv.length, hx]
    subst hn
    exact thn (G.stops s (fun s1 => Inv X pins σ H s1) E ⟨⟨old, he⟩, hit, p⟩ fun h' tk hk _ => I.turnedL hk hf) fun r s1 h1 => h1
  self := fun A i s Q E st h => let ⟨⟨_, he⟩, _⟩ := st; wpAny_pyIter_enum he h
theorem callWith_type_kw {M : Model} {A : Around} {E : Value → Shared → Prop} {s : Shared} {pos : Pos} {T : String} {args : List (Bool × Sem Value)} {keywords : List (Option PySem.Str × Sem Value)} {Q : Value → Shared → Prop}
    (hplain : args.any (·.1) = false) (hkw : keywords.any (·.1.isNone) = false)
    (h : wpAny M A (evalArgs (.type T) true args keywords) (fun a s₁ => wpAny M A (call (.type T) a.pos a.kw) Q E s₁) E s) :
    wpAny M A (callWith pos (.type T) [] args keywords) Q E s := by
  unfold callWith
  refine wpAny_bind (wpAny_holding (wpAny_mono h (fun a s₁ h₁ => wpAny_bind (wpAny_standAt ?_)) fun _ _ x => x))
  simp only [hplain, hkw, Bool.or_false]
  refine wpAny_bind (wpAny_pure ?_)
  exact wpAny_bind (wpAny_mono h₁ (fun r s₂ hr => wpAny_bind (wpAny_holding (wpAny_point (wpAny_pure hr)))) fun _ _ x => x)
def iEnumS (K : PySem.W.Frag) (ta tk : TA) : TI := fun σ H R => ta σ H fun vs H1 => tk σ H1 fun zs H2 => ∃ a b xs c, vs = [.ref a] ∧ zs = [.int c] ∧ -(2 ^ 63) ≤ c ∧ c < 2 ^ 63 ∧ SqB K b H2 a xs ∧ R (ItES K b a c) H2
theorem pi_enumS {X : Cx} {e ke : Expr} {ta tk : TA} {p pos kpos tpos : Pos} {elts : List Expr} {kk : Nat} (hg : Gl X "enumerate") (hm : X.mg "enumerate" = none) (ha : PA X [e] ta) (hk : PK X [⟨some (PySem.Str.ofString "start"), ke, kpos⟩] tk)
    (hs : backTo pos (starEach [e] X.env) = (false, eval e X.env) :: backTo pos (starEach [] X.env) := by rfl) :
    PI X (.Tuple elts kk tpos) (.Call (.Name "enumerate" p) [e] [⟨some (PySem.Str.ofString "start"), ke, kpos⟩] pos) (iEnumS X.K ta tk) := ⟨fun pins s σ H R I h => by
  refine wpAny_Call_Name_kw (ld_blt I hg hm boot_enumerate (callWith_type_kw (by rw [hs]; rfl) rfl ?_))
  rw [hs]
  refine evalArgs_kwB rfl ?_
  rw [← hs]
  refine thn (ha.run pos pins s σ H _ I h) fun us s1 ⟨vs, H1, I1, r1, q1⟩ => thn (hk.run pos pins s1 σ H1 _ I1 q1) fun ws s2 ⟨zs, H2, I2, r2, a, b, xs, c, ex, ez, c0, c1, hq, q⟩ => ?_
  subst ex ez
  obtain ⟨u, rfl, ru⟩ := vals1 r1
  cases ru
  obtain ⟨z, rfl, rz⟩ := vals1 r2
  obtain ⟨t, rfl⟩ := rz
  obtain ⟨its, rv, p'⟩ := SqB.at I2 hq
  have al := p'.lt
  show wpAny _ _ (call (.type "enumerate") [.ref a] [(PySem.Str.ofString "start", .int c t)]) _ _ _
  refine enum_begins_start (begins_B b a its.toArray) p' c0 c1 fun h' he hit _ hk => wpAny_pyIter_enum he ?_
  refine ⟨s2.heap.objs.size + 1, [s2.heap.objs.size + 1, s2.heap.objs.size], _, _, H2, rfl, I2.kept (t' := s2.toks) hk, turn_ES b a (s2.heap.objs.size + 1) s2.heap.objs.size c, ⟨⟨.none, by rw [show c + ((0 : Nat) : Int) = c by omega]; exact he⟩, SeqItB.new hit, Nat.succ_ne_self _, Nat.ne_of_lt al⟩, fun d hcm => ?_, q⟩
  have hle : s2.heap.objs.size ≤ d := by
    rcases List.mem_cons.mp hcm with rfl | hcm
    · exact Nat.le_succ _
    · rw [List.mem_singleton.mp hcm]; exact Nat.le_refl _
  exact I2.fpOk hle (I2.hok.fresh hle)⟩
def pairsC (c : Int) (k : Nat) : List Dat → List Dat
  | [] => []
  | d :: ds => .tuple [.int (c + (k : Nat)), d] :: pairsC c (k + 1) ds
theorem pairsC_len (c : Int) : ∀ (ds : List Dat) (k : Nat), (pairsC c k ds).length = ds.length
  | [], _ => rfl
  | d :: ds, k => by show (pairsC c (k + 1) ds).length + 1 = _; rw [pairsC_len c ds]; rfl
theorem pairsC_get (c : Int) : ∀ (ds : List Dat) (k i : Nat), (pairsC c k ds)[i]? = ds[i]?.map fun d => PyData.tuple [.int (c + ((k + i : Nat) : Int)), d]
  | [], _, _ => rfl
  | d :: ds, k, 0 => rfl
  | d :: ds, k, i + 1 => by
    show (pairsC c (k + 1) ds)[i]? = _
    rw [pairsC_get c ds (k + 1) i, show k + 1 + i = k + (i + 1) by omega]
    rfl
theorem WalkD.enumS {K : KK} {b : Bool} {a : Addr} {c : Int} {vs : List V} {ds : List Dat} {G0 : Hp} (hq : SqB K.fr b G0 a vs) (dp : DpAll K G0 vs ds) : WalkD K (ItES K.fr b a c) (pairsC c 0 ds) G0 where
  goes := fun i H s hi => by
    rw [pairsC_len, ← dp.pvLen] at hi
    exact ⟨vs, vs[i], hq.grow s, List.getElem?_eq_getElem hi⟩
  stops := fun H s => ⟨vs, hq.grow s, by rw [pairsC_len, dp.pvLen]⟩
  yields := fun i H0 H x H' s s' hi y => by
    obtain ⟨T, u, rfl, hT, rfl, hu⟩ := y
    obtain ⟨d, ed, dd⟩ := dp.pvGetV (hu vs (hq.mono (s.trans s')))
    have kn := Sub.upd (o := .tup [.int (c + (i : Nat)), u]) (s'.none hT)
    refine ⟨_, _, by rw [pairsC_get, ed]; rfl, Ext.new s' hT, .tup (.inl (.inl upd_same)) (.cons (by rw [Nat.zero_add]; exact Dp.int _) (.cons (dp_mono (s.trans kn) _ _ dd) .nil))⟩
def riEnumS (ra rk : RA) : RI := fun env R => ra env fun as => rk env fun bs => ∃ d ds c, as = [.val d] ∧ bs = [.val (.int c)] ∧ -(2 ^ 63) ≤ c ∧ c < 2 ^ 63 ∧ itemsD d = some ds ∧ R (pairsC c 0 ds)
instance {K : KK} {ta tk : TA} {ra rk : RA} [sa : SimA K ta ra] [sk : SimA K tk rk] : SimI K (iEnumS K.fr ta tk) (riEnumS ra rk) where
  run := fun st h q => sa.run st h fun vs as G0 G hb x da ap => sk.run (st.go x) hb fun zs bs G1 G' hc y db bp => by
    obtain ⟨d, ds, c, e1, e2, c0, c1, ed, hr⟩ := hc
    subst e1 e2
    obtain ⟨v, rfl, dv⟩ := da.one
    obtain ⟨z, rfl, dz⟩ := db.one
    have dv : Dp K G0 v d := dv
    have dz : Dp K G1 z (.int c) := dz
    cases dz
    obtain ⟨b, a, ws, rfl, hq, dp⟩ := dp_seq (dp_mono y.kn _ _ dv) ed
    exact ⟨a, b, ws, c, rfl, rfl, c0, c1, hq.mono y.inn, q _ _ _ _ hr (x.trans y) (WalkD.enumS hq dp)⟩
theorem pi_enumSK {X : Cx} {K : KK} (hK : X.K = K.fr) {e ke : Expr} {ta tk : TA} {p pos kpos tpos : Pos} {elts : List Expr} {kk : Nat} (hg : Gl X "enumerate") (hm : X.mg "enumerate" = none) (ha : PA X [e] ta) (hk : PK X [⟨some (PySem.Str.ofString "start"), ke, kpos⟩] tk)
    (hs : backTo pos (starEach [e] X.env) = (false, eval e X.env) :: backTo pos (starEach [] X.env) := by rfl) :
    PI X (.Tuple elts kk tpos) (.Call (.Name "enumerate" p) [e] [⟨some (PySem.Str.ofString "start"), ke, kpos⟩] pos) (iEnumS K.fr ta tk) := hK ▸ pi_enumS hg hm ha hk hs
end PV

/-! PvListN: list(d), the keys tuples. -/
namespace PV
open PySem PySem.Spec PyProof.Rows L2 NdefX LamX -- pv
def rListN (K : KK) : List V → Hp → VK → Prop := fun xs H Q => ∃ G a ho c kvs, xs = [V.ref a] ∧ Sub G H ∧ H a = some ho ∧ DpD K G a ho c ∧ Nst c kvs ∧ ∀ p vs, H p = none → DpAll K G vs (kvs.map (·.1)) → Q (.ref p) (upd H p (.lst vs))
theorem en_keys {K : KK} {G : Hp} : ∀ {ys : List (NestedKey × Addr × Value)} {kvs : List (Dat × Dat)}, Paired (EnIs K G) ys kvs → DpAll K G (ys.map fun y => V.ref y.2.1) (kvs.map (·.1))
  | _, _, .nil => .nil
  | _, _, .cons r t => .cons r.2.2.1 (en_keys t)
theorem keys_vals : ∀ ys : List (NestedKey × Addr × Value), Vals (ys.map fun y => V.ref y.2.1) (ys.map fun y => Value.ref y.2.1)
  | [] => .nil
  | y :: t => .cons rfl (keys_vals t)
theorem call_listN {X : Cx} {K : KK} (hK : X.K = K.fr) (hP : X.prog = K.P) (hw : X.w = K.w) (hc : X.calm = true) : CallR X (.type "list") (rListN K) := by
  intro pins s σ H xs us Q I r ⟨G, a, ho, c, kvs, ex, sg, e, d, n, q⟩
  subst ex
  obtain ⟨u, rfl, ru⟩ := vals1 r
  cases ru
  obtain ⟨hd, hz, ys, hx, hp⟩ := dd_nestA hK hP hw I sg e d n
  obtain ⟨o, es, ep, g1, g2, g3, g4, _, _⟩ := id hx
  have raw : s.heap.DictRaw a es ep := ⟨o, g1, g2, g3⟩
  have sz : es.size = ys.length := by
    have := congrArg List.length g4
    rw [List.length_map] at this
    simpa using this
  refine PySem.W.kdl_call (KdlSrc.rawDict hd) (I.ok.hd hc) raw (by rw [sz, hp.length]; exact hz) fun h' tk acc c' hk hD hacc => ?_
  have hv : Vals (ys.map fun y => V.ref y.2.1) acc.toList := by
    have e1 : acc.toList = ys.map fun y => Value.ref y.2.1 := by
      refine List.ext_getElem? fun i => ?_
      rw [List.getElem?_map]
      by_cases hi : i < es.size
      · obtain ⟨v, hv⟩ : ∃ v, acc[i]? = some v := ⟨acc[i]'(by rw [hacc.1]; exact hi), Array.getElem?_eq_getElem _⟩
        obtain ⟨hi', ev⟩ := hacc.2 i v hv
        have hy : i < ys.length := by rw [← sz]; exact hi
        have eg : es[i]? = some (entryOfKey (nestedKind X.prog X.w) ys[i]) := by
          have : es.toList[i]? = some (entryOfKey (nestedKind X.prog X.w) ys[i]) := by rw [g4, List.getElem?_map, List.getElem?_eq_getElem hy]; rfl
          simpa using this
        rw [Array.getElem?_eq_getElem hi'] at eg
        rw [Array.getElem?_toList, hv, List.getElem?_eq_getElem hy, ev, Option.some.inj eg]
        rfl
      · rw [Array.getElem?_toList, Array.getElem?_eq_none (by rw [hacc.1]; omega), List.getElem?_eq_none (by rw [← sz]; omega)]
        rfl
    rw [e1]
    exact keys_vals ys
  refine ⟨.ref s.heap.objs.size, upd H s.heap.objs.size (.lst (ys.map fun y => V.ref y.2.1)), I.laid (t' := tk) hk (Nat.le_refl _)
    (show ObjOk X.prog X.w _ _ _ (.lst _) from ⟨by rw [List.length_map, hp.length]; exact hz, acc.toList, c', hv, by rw [Array.toArray_toList]; exact hD⟩), rfl, q _ _ (I.hok.fresh (Nat.le_refl _)) (en_keys hp)⟩
def pListN (as : List Rs) (R : Rs → Prop) : Prop := ∃ a c kvs, as = [a] ∧ a.rd = .dict c ∧ Nst c kvs ∧ R (.fresh (kvs.map (·.1)))
instance {K : KK} : ImL K (rListN K) pListN where
  run := by
    intro F B0 B Hs H0 H σ env xs as Q R st da ⟨a, c, kvs, e, ea, n, h⟩ q
    subst e
    obtain ⟨v, rfl, dv⟩ := da.one
    obtain ⟨p, ho, rfl, hp, dd⟩ := dv.asDict st ea
    exact ⟨H0, p, ho, c, kvs, rfl, st.inn, hp, dd, n, fun o vs hn dp => q _ (.fresh (kvs.map (·.1))) _ _ h (Ext.hid st.inn hn) ⟨o, _, rfl, hn, st.inn.none hn, upd_same, vs, rfl, dp⟩⟩
end PV

/-! PvDictS: name = {k: v for .. for ..} on one line. -/
namespace PV
open PySem PySem.Spec PyProof.Rows L2 NdefX LamX -- pv
section
variable {X : Cx} {e tg iter : Expr} {ifs : List Expr} {scope : Scope} {own : List (PySem.Str × Nat)} {wi : TI} {g : TG} {tt : TT} {ta : TAct} {tail : Value → Value → PySem.Env → Sem PySem.Fin} {mk : Sem Value} {ob : Obj} {o0 : Addr → HO} {gs : List Comprehension} {pos : Pos}
theorem blk_core {pins : List (Addr × Obj)} {s : Shared} {σ : L2.St} {H : Hp} {Q : VK} {use : Option (Value → Sem Unit)} {Qf : Value → Shared → Prop} (hc : X.calm = true) (hN : X.N.Nodup) (hcl : clausesOf e = ⟨tg, iter, ifs, 0⟩ :: gs)
    (hd : Runs X.prog X.w e 0) (hst : Starts X.prog X.w e 0) (hq : ∀ it acc env, (Code.compLoop e 0 it acc env).quiet = true) (eq : ∀ it (D : Addr) env, TurnIs e 0 tg iter.pos ifs it (.ref D) env (tail it (.ref D) env))
    (new : ∀ (s : Shared) (Q : Value → Shared → Prop), Q (.ref s.heap.objs.size) { s with heap := s.heap.push ob } → wpAny (model X.prog X.w) X.A mk Q X.xe s)
    (new0 : ∀ {pins : List (Addr × Obj)} {σ : L2.St} {H : Hp} {s : Shared} (H' : Hp), Inv X pins σ H s → ObjOk X.prog X.w H' (s.heap.push ob) s.heap.objs.size (o0 s.heap.objs.size))
    (hi : PI X tg iter wi) (ok : BlkOk X.N X.env.scope scope own) (hg : ∀ q, PG (blkX X scope q) tg g) (ht : ∀ q, PTs (blkX X scope q) ifs tt) (pa : Act X scope (own.map (·.2)) e 0 tail ta)
    (hfs : ∀ x, foldedSetIterable iter X.env x = pure x) (I : Inv X pins σ H s) (h : tG o0 wi g tt ta (own.map (·.2)) σ H Q)
    (hRR : ∀ D C s' m H', Inv X pins σ H' s' → Q (.ref D) H' → s'.heap.Ns C m → FpOk X pins H' C → compPost (model X.prog X.w) X.A X.xe use Qf (.ref D) C (.ok .next) s') :
    wpAny (model X.prog X.w) X.A (comprehension e scope X.env pos mk false (eval iter X.env) use) Qf X.xe s := by
  have cells : ∀ y ∈ scope.names, y.2 = .free → ∃ c, X.env.cells.lookup y.1 = some c := fun y hy z => by
    cases ok.free y hy z with
    | inl k => exact I.ok.has _ (.inl k)
    | inr k => exact I.ok.has _ (.inr k)
  refine wpAny_comprehension_free (use := use) hcl hfs (closure_ok cells) ok.kind (fun y hy z => by rw [ok.uniq y hy, z]) (thn (hi.run pins s σ H _ I h) fun xv s1 hx => thn hx fun itv s2 h2 => ?_)
  obtain ⟨it, fp, tn, J, H2, rfl, I2, T, st2, f2, hW⟩ := h2
  refine new s2 _ (newEnv_comp ?_)
  obtain ⟨W, ⟨m0, w0⟩, turn⟩ := hW s2.heap.objs.size (I2.hok.fresh (Nat.le_refl _))
  have I3 := I2.laid (t' := s2.toks) (fun b o z => Heap.get?_push_of_some ob z) (Nat.le_refl _) (new0 (upd H2 s2.heap.objs.size (o0 s2.heap.objs.size)) I2)
  have hlt : ∀ b ∈ fp, b < s2.heap.objs.size := fun b hb => by
    obtain ⟨o, z, _⟩ := T.obj _ _ st2 b hb
    exact Heap.lt_size z
  have f3 : ∀ b ∈ fp, FpOk X pins (upd H2 s2.heap.objs.size (o0 s2.heap.objs.size)) b ∧ b < (s2.heap.push ob).objs.size := fun b hb =>
    ⟨⟨by rw [upd_ne (Nat.ne_of_lt (hlt b hb))]; exact (f2 b hb).1, (f2 b hb).2⟩, by rw [Heap.size_push]; exact Nat.lt_succ_of_lt (hlt b hb)⟩
  have st3 : tn 0 (s2.heap.push ob) := T.keep _ _ _ st2 fun b _ o z => Heap.get?_push_of_some _ z
  have I4 := block_start I3 ok hN f3
  have st4 := T.keep _ (s2.heap.push ob) _ st3 fun b _ o z => pushCells_keeps scope.names _ _ _ (Heap.get?_push_of_some { cls := .type "dict", data := .dict #[] } z)
  have loop := block_turns (q := ({ s2 with heap := s2.heap.push ob }, upd H2 s2.heap.objs.size (o0 s2.heap.objs.size), (s2.heap.push ob).objs.size, cellsFrom ((s2.heap.push ob).objs.size + 1) scope.names (cloFrom X.env.cells scope.names []), fp))
    (D := s2.heap.objs.size) (Q := Q (.ref s2.heap.objs.size)) (R := compPost (model X.prog X.w) X.A X.xe use Qf (.ref s2.heap.objs.size) (s2.heap.push ob).objs.size) hc hd hq eq T (fun {τ H' s'} I' hn b hb => ⟨hn b hb, (I'.ok.exf b hb).1, I'.ok.exfs b hb, .inl hb, fun x c z => (I'.ok.exf b hb).2 x c z, fun p hp => absurd (show p ∈ ([] : List (Addr × Obj)) ++ [] from hp) (by simp)⟩) (hg _) (ht _) pa turn (fun s' H' I' q' => ?_) I4 st4 (fun b hb => (f3 b hb).1.1) w0
  · exact hst X.A _ _ _ _ _ loop (T.self X.A 0 _ _ _ st4 loop)
  · have I5 : Inv X pins σ H' s' := I3.call' (ch := fp) I'.os I'.base I'.hok I'.bare fun b hb => ⟨(f3 b hb).1.2.2.2.1, (f3 b hb).1.2.1, (f3 b hb).1.2.2.2.2.1, (f3 b hb).1.2.2.2.2.2⟩
    obtain ⟨m, hn, _⟩ := I'.loc
    exact hRR _ _ s' m H' I5 q' hn (I3.fpOk (b := (s2.heap.push ob).objs.size) (H' := H') (Nat.le_refl _) I'.free)
end
theorem sw_trueD {kx vx : Expr} {gs : List Comprehension} {scope : Scope} {pos py : Pos} {y : PySem.Str} {l : Nat} {env : PySem.Env} (hk : env.scope.kind = .function) (hy : env.scope.names.lookup y = some .local) (hl : (py.line == pos.line) = true)
    (ha : (scope.names.any fun (n, k) => n == y && (k == .local || k == .cell)) = false) : swapsWith (.DictComp kx vx gs scope pos) (some (.Name y py)) l env = pure true := by
  have ky : env.kindOf y = some .local := hy
  have hb : env.blockKind = .function := by unfold PySem.Env.blockKind; rw [hk]; rfl
  unfold swapsWith
  simp only [hb, ky, ha, Expr.pos, hl]
  rfl
section
variable {X : Cx} {kx vx tg iter tg1 iter1 : Expr} {ifs ifs1 : List Expr} {scope : Scope} {own : List (PySem.Str × Nat)} {vs vs1 : List Nat} {pos spos py : Pos} {wi wi1 : TI} {g g1 : TG} {tt tt1 : TT} {tk tv : TE} {i : Nat} {y : PySem.Str}
theorem ps_setDc2 (hc : X.calm = true) (hN : X.N.Nodup) (hy : X.N[i]? = some y) (hyl : X.env.scope.names.lookup y = some .local)
    (hsw : swapsWith (.DictComp kx vx [⟨tg, iter, ifs, 0⟩, ⟨tg1, iter1, ifs1, 0⟩] scope pos) (some (.Name y py)) spos.line X.env = pure true) (hi : PI X tg iter wi) (ok : BlkOk X.N X.env.scope scope own) (hv : ∀ i ∈ vs1, i ∈ own.map (·.2))
    (hg : ∀ q, PG (blkX X scope q) tg g) (ht : ∀ q, PTs (blkX X scope q) ifs tt) (hi1 : ∀ q, PI (blkX X scope q) tg1 iter1 wi1) (hg1 : ∀ q, PG (blkX X scope q) tg1 g1) (ht1 : ∀ q, PTs (blkX X scope q) ifs1 tt1)
    (hk : ∀ q, PE (blkX X scope q) kx tk) (he : ∀ q, PE (blkX X scope q) vx tv) (hs : ∀ x, foldedSetIterable iter X.env x = pure x := by intro _; rfl) (hs1 : ∀ env x, foldedSetIterable iter1 env x = pure x := by intro _ _; rfl) :
    PS X (.Assign [.Name y py] (.DictComp kx vx [⟨tg, iter, ifs, 0⟩, ⟨tg1, iter1, ifs1, 0⟩] scope pos) spos) (tAsg (tG (fun _ => .dK []) wi g tt (ta2 wi1 g1 tt1 (taDict tk tv) vs1) (own.map (·.2))) (gName i)) := by
  refine ⟨fun pins s σ H D I h => ?_⟩
  rw [exec_Assign_Name_used _ _ _ _ hsw]
  refine wpAny_bind (wpAny_standAt (wpAny_bind ?_))
  show wpAny _ X.A (do let _ ← comprehension (.DictComp kx vx [⟨tg, iter, ifs, 0⟩, ⟨tg1, iter1, ifs1, 0⟩] scope pos) scope X.env (firstIterPos [⟨tg, iter, ifs, 0⟩, ⟨tg1, iter1, ifs1, 0⟩] pos) newDict false (eval iter X.env) (some (assign (.Name y py) X.env))) _ _ s
  have h : tG (fun _ => .dK []) wi g tt (ta2 wi1 g1 tt1 (taDict tk tv) vs1) (own.map (·.2)) σ H (fun x H1 => gName i x σ H1 D.nx) := h
  refine wpAny_bind (thn (blk_core (Qf := fun _ s' => SP X pins D .next s') (mk := newDict) (gs := [⟨tg1, iter1, ifs1, 0⟩]) (tail := tailTwo (.DictComp kx vx [⟨tg, iter, ifs, 0⟩, ⟨tg1, iter1, ifs1, 0⟩] scope pos) iter1) (ob := { cls := .type "dict", data := .dict #[] }) hc hN rfl (fun _ _ _ _ _ _ _ h => h) (fun _ _ _ _ _ _ => codeAny_compStart_dict) (fun _ _ _ => rfl) (fun _ _ _ => rfl)
    (fun s Q q => wpAny_newObj_type q) (fun H' I => dk_empty _ I.big) hi ok hg ht
    (act_two (tail1 := leafDict kx vx (.DictComp kx vx [⟨tg, iter, ifs, 0⟩, ⟨tg1, iter1, ifs1, 0⟩] scope pos) 1) hc (fun _ _ _ _ _ _ _ h => h) starts_dict1 (fun _ _ _ => rfl) (fun _ _ _ => rfl) hv hi1 hg1 ht1 (act_dict hk he) hs1) hs I h fun L C s' m H' I' q hn f => ?_) fun _ s' hq => wpAny_pure (wpAny_pure hq))
  show wpAny _ _ (assign (.Name y py) X.env (.ref L)) _ _ _
  refine wpAny_assign_Name (store_ok2 (v := V.ref L) I' hN hy (.inl hyl) rfl (fun s2 I2 ⟨a, sb, ha⟩ => ?_) (.inr hyl))
  obtain ⟨f0, f1, f2, f3, f4, f5⟩ := f
  have haC : C ≠ a := by
    rcases ha with z | z
    · rw [z]; exact f1
    · exact fun e => f4 y a z e.symm
  refine ⟨m, hn.sameBut sb haC, fun h3 sb3 => ?_⟩
  exact ⟨_, H', I2.turned (t' := s2.toks) (fun b o hb e => (sb3.2 b hb).trans e) f0 f1 f3 f4 f5, q⟩
end
end PV

/-! PvSetOf: sorted(set(t)), t a tuple of ints. -/
namespace PV
open PySem PySem.Spec PyProof.Rows L2 NdefX LamX -- pv
def rSetT (K : KK) : List V → Hp → VK → Prop := fun xs H Q => ∃ (a : Addr) (ns : List Int), xs = [.ref a] ∧ L2.SqT K.fr H a (ns.map V.int) ∧ ns.length ≤ 1000 ∧ ∀ p n, H p = none → Q (.ref p) (upd H p (SetO K.w p (fun j => decide (j ∈ ns)) n))
theorem call_setT {X : Cx} {K : KK} (hK : X.K = K.fr) (hw : X.w = K.w) (hc : X.calm = true) : CallR X (.type "set") (rSetT K) := by
  intro pins s σ H xs us Q I r ⟨a, ns, ex, hq, hl, q⟩
  subst ex
  obtain ⟨u, rfl, ru⟩ := vals1 r
  cases ru
  obtain ⟨its, rv, pt, hz⟩ := I.tuple (show L2.SqT X.K H a _ by rw [hK]; exact hq)
  have hi : IntsAre its.toArray.toList ns := ints_of_vals rv
  refine call_set_tupI ns (I.ok.hd hc) (show s.heap.IsTuple a its.toArray from pt) hi (by unfold scanBound; omega) fun h' tk c R1 hcn k => ?_
  rw [← hw] at q
  exact ⟨.ref s.heap.objs.size, upd H s.heap.objs.size (SetO X.w s.heap.objs.size (fun j => decide (j ∈ ns)) c), I.laid (t' := tk) k (Nat.le_refl _) (setO_new R1), rfl, q _ _ (I.hok.fresh (Nat.le_refl _))⟩
def rSortSetT (ra : RA) : RE := fun env R => ra env fun as => ∃ ns : List Int, as = [.val (.tuple (ns.map PyData.int))] ∧ ns.length ≤ 1000 ∧ ∀ out : List Int, out.Pairwise (· < ·) → (∀ k, k ∈ out ↔ k ∈ ns) → R (.fresh (out.map PyData.int))
instance {K : KK} {ta : TA} {ra : RA} [sa : SimA K ta ra] : SimE K (tCB (rSortSet K.w) (tCons (tCB (rSetT K) ta) tNil)) (rSortSetT ra) where
  run := by
    intro F B0 B H0 H σ env Q R st h q
    unfold tCB tCons tNil
    refine sa.run st h fun vs as G0 G ⟨ns, e, hl, hr⟩ x da ap => ?_
    subst e
    obtain ⟨v, rfl, dv⟩ := da.one
    have dv : Dp K G0 v (.tuple (ns.map PyData.int)) := dv
    cases dv with
    | @tup a xs _ h1 h2 =>
      have allI : ∀ (l : List Int) (xs : List V), DpAll K G0 xs (l.map PyData.int) → xs = l.map V.int := fun l => by
        induction l with
        | nil => intro xs h; cases h; rfl
        | cons i l ih =>
          intro xs h
          cases h with
          | cons h1 h2 =>
            cases h1
            rw [ih _ h2]
            rfl
      have ex := allI ns xs h2
      subst ex
      refine ⟨a, ns, rfl, x.inn.sqT h1, hl, fun p n hp => ?_⟩
      refine ⟨p, _, n, rfl, upd_same, fun out p2 o1 o2 hp2 => ?_⟩
      have hne : p2 ≠ p := fun z => by rw [z, upd_same] at hp2; cases hp2
      have hp2' : G p2 = none := by rwa [upd_ne hne] at hp2
      have dn : ∀ l : List Int, DpAll K G0 (l.map V.int) (l.map PyData.int) := fun l => by
        induction l with
        | nil => exact .nil
        | cons i l ih => exact .cons (.int i) ih
      have x1 : Ext K G0 G G0 (upd G p (SetO K.w p (fun j => decide (j ∈ ns)) n)) := Ext.hid x.inn hp
      have x2 : Ext K G0 (upd G p (SetO K.w p (fun j => decide (j ∈ ns)) n)) G0 (upd (upd G p (SetO K.w p (fun j => decide (j ∈ ns)) n)) p2 (.lst (out.map V.int))) := Ext.hid x1.inn hp2
      exact q _ (.fresh (out.map PyData.int)) G0 _ (hr out o1 fun k => (o2 k).trans (by simp)) ((x.trans x1).trans x2) ⟨p2, _, rfl, x.act.none hp2', x.inn.none hp2', upd_same, _, rfl, dn out⟩
/-! ### list(range(a, b)), tuple(range(n)) -/
def rgD (a b : Int) : List Dat := (List.range (b - a).toNat).map fun i : Nat => PyData.int (a + (i : Int))
theorem rg_dp {K : KK} {H : Hp} (a b : Int) : DpAll K H (L2.rgV a b) (rgD a b) := by
  unfold L2.rgV rgD
  generalize List.range (b - a).toNat = l
  induction l with
  | nil => exact .nil
  | cons i l ih => exact .cons (.int _) ih
def rLstRg (ra rb : RE) : RE := fun env R => ra env fun a => rb env fun b => ∃ i j, a.rd = .int i ∧ b.rd = .int j ∧ L2.RgOk i j ∧ R (.fresh (rgD i j))
instance {K : KK} {ta tb : TE} {ra rb : RE} [sa : SimE K ta ra] [sb : SimE K tb rb] : SimE K (L2.tLstRg (L2.tRg2 ta tb)) (rLstRg ra rb) where
  run := fun st h q => sa.run st h fun v r G0 G hb x dn => sb.run (st.go x) hb fun w r2 G1 G' ⟨i, j, e1, e2, ok, hr⟩ y dn2 =>
    ⟨i, j, dn.asInt (st.go x) e1, dn2.asInt ((st.go x).go y) e2, ok, fun p hp => q _ (.fresh (rgD i j)) G1 _ hr ((x.trans y).trans (Ext.hid y.inn hp)) ⟨p, _, rfl, (x.trans y).act.none hp, y.inn.none hp, upd_same, _, rfl, rg_dp i j⟩⟩
def rTupRg (ra : RE) : RE := fun env R => ra env fun a => ∃ j, a.rd = .int j ∧ L2.RgOk 0 j ∧ R (.val (.tuple (rgD 0 j)))
instance {K : KK} {ta : TE} {ra : RE} [sa : SimE K ta ra] : SimE K (L2.tTupRg (L2.tRg1 ta)) (rTupRg ra) where
  run := fun st h q => sa.run st h fun v r G0 G ⟨j, e, ok, hr⟩ x dn =>
    ⟨j, dn.asInt (st.go x) e, ok, fun p hp => q _ (.val _) _ _ hr (x.trans (Ext.new x.inn hp)) (.tup (.inl (.inl upd_same)) (rg_dp 0 j))⟩
end PV

/-! M0: the machine and its parts, in plain Lean -/
namespace KX
inductive Flt where
  | spaced (d : Int) | fresh (d : Int) | every (n k : Int) | limit (n w : Int)
def Flt.hold : Flt → Int
  | .spaced d => d
  | .fresh d => d + 1
  | .every _ _ => 0
  | .limit _ w => w
inductive Prt where
  | cnt (c : Int) | wts (ws : List Int)
def Flt.kind : Flt → Prt → Prop
  | .every _ _, .cnt c => 0 ≤ c
  | .every _ _, .wts _ => False
  | _, .cnt _ => False
  | _, .wts ws => ws.length ≤ 3
def Flt.ok : Flt → Prop
  | .spaced d => 1 ≤ d
  | .fresh d => 1 ≤ d
  | .every n k => 1 ≤ n ∧ 0 ≤ k
  | .limit n w => 1 ≤ n ∧ n ≤ 3 ∧ 1 ≤ w
def Flt.st0 : Flt → Prt
  | .every _ _ => .cnt 0
  | _ => .wts []
def fWaits (gap : Int) (ws : List Int) : List Int := (ws.filter fun w => decide (gap < w)).map fun w => w - gap
def Flt.most : Flt → Int
  | .limit n _ => n
  | _ => 1
def Flt.isFresh : Flt → Bool
  | .fresh _ => true
  | _ => false
def stepW (f : Flt) (ws : List Int) (gap : Int) (arr : Bool) : List Int × Bool :=
  let left := fWaits gap ws
  let keeps := arr && decide ((left.length : Int) < f.most)
  let left' := if arr && f.isFresh then [f.hold] else if keeps then left ++ [f.hold] else left
  (left'.filter fun w => decide (1 < w), keeps)
def stepPart (f : Flt) (s : Prt) (gap : Int) (arr : Bool) : Prt × Bool := match f, s with
  | .every n k, .cnt c => (.cnt (if arr then (c + 1) % max n 1 else c), arr && decide (c = k))
  | .every _ _, .wts ws => (.wts ws, false)
  | f, .wts ws => (.wts (stepW f ws gap arr).1, (stepW f ws gap arr).2)
  | _, s => (s, false)
def stepGo (gap : Int) : Nat → List (Flt × Prt) → Option Nat → List Prt × Option Nat
  | _, [], dr => ([], dr)
  | i, (f, s) :: r, dr => ((stepPart f s gap dr.isNone).1 :: (stepGo gap (i + 1) r (if dr.isNone && !(stepPart f s gap dr.isNone).2 then some i else dr)).1, (stepGo gap (i + 1) r (if dr.isNone && !(stepPart f s gap dr.isNone).2 then some i else dr)).2)
def stepM (p : List Flt) (st : List Prt) (gap : Int) : List Prt × Option Nat := stepGo gap 0 (p.zip st) none
def gapAt (log : List Int) (i : Nat) : Int := if 0 < i then log.getD i 0 - log.getD (i - 1) 0 else 1
def traceGo (p : List Flt) (log : List Int) : Nat → Nat → List Prt → List (List Prt × Option Nat)
  | _, 0, _ => []
  | i, n + 1, st => stepM p st (gapAt log i) :: traceGo p log (i + 1) n (stepM p st (gapAt log i)).1
def traceM (p : List Flt) (log : List Int) : List (List Prt × Option Nat) := traceGo p log 0 log.length (p.map Flt.st0)
def decM (p : List Flt) (log : List Int) : List (Option Nat) := (traceM p log).map (·.2)
def keepM (p : List Flt) (log : List Int) : List Int := ((log.zip (decM p log)).filter fun q => q.2.isNone).map (·.1)
structure OkPS (p : List Flt) (st : List Prt) : Prop where
  len : p.length = st.length
  kind : ∀ x ∈ p.zip st, x.1.kind x.2
structure OkP (p : List Flt) : Prop where
  ok : ∀ f ∈ p, f.ok
  few : p.length ≤ 100
theorem stepW_len (f : Flt) (ws : List Int) (gap : Int) (arr : Bool) (hf : f.ok) (hw : ws.length ≤ 3) (hn : ∀ n k, f ≠ .every n k) : (stepW f ws gap arr).1.length ≤ 3 := by
  have hl : (fWaits gap ws).length ≤ 3 := by
    unfold fWaits
    rw [List.length_map]
    exact Nat.le_trans (List.length_filter_le _ _) hw
  unfold stepW
  dsimp only
  refine Nat.le_trans (List.length_filter_le _ _) ?_
  split
  · simp
  · split
    · rename_i h1 h2
      rw [List.length_append, List.length_singleton]
      have : ((fWaits gap ws).length : Int) < f.most := by
        simp only [Bool.and_eq_true, decide_eq_true_eq] at h2
        exact h2.2
      have : f.most ≤ 3 := by
        cases f with
        | limit n w => exact hf.2.1
        | _ => show (1 : Int) ≤ 3; decide
      omega
    · exact hl
theorem stepPart_kind (f : Flt) (s : Prt) (gap : Int) (arr : Bool) (hf : f.ok) (h : f.kind s) : f.kind (stepPart f s gap arr).1 := by
  cases s with
  | cnt c =>
    cases f with
    | every n k =>
      show 0 ≤ if arr then (c + 1) % max n 1 else c
      split
      · exact Int.emod_nonneg _ (by omega)
      · exact h
    | _ => exact h.elim
  | wts ws =>
    have hw : ∀ n k, f ≠ .every n k := fun n k z => by subst z; exact h
    have hws : ws.length ≤ 3 := by cases f <;> first | exact h | exact absurd rfl (hw _ _)
    have := stepW_len f ws gap arr hf hws hw
    cases f <;> first | exact this | exact absurd rfl (hw _ _)
theorem stepGo_len (gap : Int) : ∀ (l : List (Flt × Prt)) (i : Nat) (dr : Option Nat), (stepGo gap i l dr).1.length = l.length
  | [], _, _ => rfl
  | (f, s) :: r, i, dr => by simp only [stepGo, List.length_cons, stepGo_len gap r]
theorem stepGo_kind (gap : Int) : ∀ (p : List Flt) (st : List Prt) (i : Nat) (dr : Option Nat), (∀ f ∈ p, f.ok) → (∀ x ∈ p.zip st, x.1.kind x.2) → ∀ x ∈ p.zip (stepGo gap i (p.zip st) dr).1, x.1.kind x.2
  | [], _, _, _, _, _ => by simp
  | f :: p, [], _, _, _, _ => by simp [stepGo]
  | f :: p, s :: st, i, dr, ho, hk => by
    intro x hx
    simp only [List.zip_cons_cons, stepGo] at hx
    rcases List.mem_cons.mp hx with rfl | hx
    · exact stepPart_kind f s gap _ (ho f List.mem_cons_self) (hk (f, s) (by simp))
    · exact stepGo_kind gap p st (i + 1) _ (fun g hg => ho g (List.mem_cons_of_mem _ hg)) (fun y hy => hk y (by simp [hy])) x hx
theorem stepM_ok {p : List Flt} {st : List Prt} (gap : Int) (ho : ∀ f ∈ p, f.ok) (h : OkPS p st) : OkPS p (stepM p st gap).1 := by
  refine ⟨?_, stepGo_kind gap p st 0 none ho h.kind⟩
  unfold stepM
  rw [stepGo_len, List.length_zip, h.len, Nat.min_self]
theorem st0_ok {p : List Flt} (ho : ∀ f ∈ p, f.ok) : OkPS p (p.map Flt.st0) := by
  refine ⟨by simp, ?_⟩
  induction p with
  | nil => simp
  | cons f p ih =>
    intro x hx
    simp only [List.map_cons, List.zip_cons_cons] at hx
    rcases List.mem_cons.mp hx with rfl | hx
    · cases f <;> simp [Flt.st0, Flt.kind]
    · exact ih (fun g hg => ho g (List.mem_cons_of_mem _ hg)) x hx
theorem traceGo_len (p : List Flt) (log : List Int) : ∀ (n i : Nat) (st : List Prt), (traceGo p log i n st).length = n
  | 0, _, _ => rfl
  | n + 1, i, st => by simp only [traceGo, List.length_cons, traceGo_len p log n]
theorem traceM_len (p : List Flt) (log : List Int) : (traceM p log).length = log.length := traceGo_len p log _ _ _
theorem decM_len (p : List Flt) (log : List Int) : (decM p log).length = log.length := by unfold decM; rw [List.length_map, traceM_len]
theorem range_at {n i : Nat} {pre post : List Nat} (h : List.range n = pre ++ i :: post) : i = pre.length ∧ pre.length < n := by
  have e : (List.range n)[pre.length]? = some i := by rw [h, List.getElem?_append_right (Nat.le_refl _), Nat.sub_self]; rfl
  have hl := (List.getElem?_eq_some_iff.mp e).1
  rw [List.length_range] at hl
  rw [List.getElem?_range hl] at e
  exact ⟨(Option.some.inj e).symm, hl⟩
theorem zipIdx_at {α : Type} {l : List α} {pre post : List (α × Nat)} {x : α × Nat} (h : l.zipIdx = pre ++ x :: post) : x.2 = pre.length ∧ l[pre.length]? = some x.1 := by
  have e : l.zipIdx[pre.length]? = some x := by rw [h, List.getElem?_append_right (Nat.le_refl _), Nat.sub_self]; rfl
  rw [List.getElem?_zipIdx] at e
  cases q : l[pre.length]? with
  | none => rw [q] at e; cases e
  | some a =>
    rw [q] at e
    cases e
    exact ⟨by simp, rfl⟩
def Flt.valid : Flt → Prop
  | .spaced d => 1 ≤ d ∧ d ≤ 8
  | .fresh d => 1 ≤ d ∧ d ≤ 8
  | .every n k => 2 ≤ n ∧ n ≤ 4 ∧ 0 ≤ k ∧ k < n
  | .limit n w => 1 ≤ n ∧ n ≤ 3 ∧ 1 ≤ w ∧ w ≤ 6
theorem Flt.valid.ok {f : Flt} (h : f.valid) : f.ok := by
  cases f with
  | spaced d => exact h.1
  | fresh d => exact h.1
  | every n k => exact ⟨by have := h.1; omega, h.2.2.1⟩
  | limit n w => exact ⟨h.1, h.2.1, h.2.2.1⟩
def Flt.weight : Flt → Int
  | .spaced d => d
  | .fresh d => d + 1
  | .every n _ => n
  | .limit n w => n * w
theorem Flt.weight_pos {f : Flt} (h : f.valid) : 1 ≤ f.weight ∧ f.weight ≤ 18 := by
  cases f with
  | spaced d => exact ⟨h.1, by have := h.2; show d ≤ 18; omega⟩
  | fresh d => have := h.1; have := h.2; exact ⟨by show 1 ≤ d + 1; omega, by show d + 1 ≤ 18; omega⟩
  | every n k => have := h.1; have := h.2.1; exact ⟨by show 1 ≤ n; omega, by show n ≤ 18; omega⟩
  | limit n w =>
    obtain ⟨h1, h2, h3, h4⟩ := h
    show 1 ≤ n * w ∧ n * w ≤ 18
    have a : n = 1 ∨ n = 2 ∨ n = 3 := by omega
    rcases a with rfl | rfl | rfl <;> omega
def wprod (p : List Flt) : Int := (p.map Flt.weight).foldr (· * ·) 1
theorem wprod_app (p : List Flt) (f : Flt) : wprod (p ++ [f]) = wprod p * f.weight := by
  induction p with
  | nil => simp [wprod]
  | cons g p ih =>
    have e : ∀ q : List Flt, wprod (g :: q) = g.weight * wprod q := fun q => rfl
    rw [List.cons_append, e, e, ih, Int.mul_assoc]
structure Valid (p : List Flt) (size : Nat) (top : Int) : Prop where
  each : ∀ f ∈ p, f.valid
  few : p.length ≤ size
  prod : wprod p ≤ top
  one : 1 ≤ wprod p
theorem Valid.okP {p : List Flt} {size : Nat} {top : Int} (h : Valid p size top) (hs : size ≤ 100) : OkP p := ⟨fun f hf => (h.each f hf).ok, Nat.le_trans h.few hs⟩
theorem ediv_step {a w t : Int} {P : Int} (hP : 0 < P) (hw : 0 < w) (h : a = t / P) : a / w = t / (P * w) := by
  rw [h, Int.ediv_ediv_of_nonneg (by omega)]
theorem len1 {α : Type} {xs : List α} (h : 1 ≤ xs.length) : ∃ x r, xs = x :: r := by
  cases xs with
  | nil => simp at h
  | cons x r => exact ⟨x, r, rfl⟩
theorem len3 {α : Type} {xs : List α} (h : 3 ≤ xs.length) : ∃ x y z r, xs = x :: y :: z :: r := by
  match xs, h with
  | x :: y :: z :: r, _ => exact ⟨x, y, z, r, rfl⟩
def cellM (xs : List Int) (i : Nat) : Int := if i < xs.length then xs.getD i 0 else if xs.length = 0 then 7919 * i + 101 else xs.getD (i % xs.length) 0 % 1000003 + 7919 * i
structure Digs (xs : List Int) (n : Nat) (b : Int) : Prop where
  len : xs.length = n
  pos : ∀ x ∈ xs, 0 ≤ x
  lt : ∀ x ∈ xs, x < b
end KX

/-! M1: the filters by their definition, and the machine against it -/
namespace KX
/-- by the definition: is an event at t kept, behind the inputs evs of which kps were kept -/
def good (f : Flt) (evs kps : List Int) (t : Int) : Bool := match f with
  | .spaced d => match kps.getLast? with
    | none => true
    | some l => decide (d ≤ t - l)
  | .fresh d => match evs.getLast? with
    | none => true
    | some l => decide (d < t - l)
  | .every n k => decide ((evs.length : Int) % n = k)
  | .limit n w => decide (((kps.filter fun o => decide (t - w < o)).length : Int) < n)
def keptGo (f : Flt) : List Int → List Int → List Int → List Int
  | _, _, [] => []
  | evs, kps, t :: r => if good f evs kps t = true then t :: keptGo f (evs ++ [t]) (kps ++ [t]) r else keptGo f (evs ++ [t]) kps r
def keptF (f : Flt) (l : List Int) : List Int := keptGo f [] [] l
theorem keptGo_app (f : Flt) : ∀ (a evs kps b : List Int), keptGo f evs kps (a ++ b) = keptGo f evs kps a ++ keptGo f (evs ++ a) (kps ++ keptGo f evs kps a) b
  | [], evs, kps, b => by simp [keptGo]
  | t :: a, evs, kps, b => by
    simp only [List.cons_append, keptGo]
    split
    · rw [keptGo_app f a]
      simp [List.append_assoc]
    · rw [keptGo_app f a]
      simp [List.append_assoc]
theorem keptF_snoc (f : Flt) (l : List Int) (t : Int) : keptF f (l ++ [t]) = keptF f l ++ (if good f l (keptF f l) t = true then [t] else []) := by
  unfold keptF
  rw [keptGo_app]
  simp only [List.nil_append, keptGo]
theorem keptGo_sub (f : Flt) : ∀ (r evs kps : List Int), (keptGo f evs kps r).Sublist r
  | [], _, _ => .slnil
  | t :: r, evs, kps => by
    simp only [keptGo]
    split
    · exact (keptGo_sub f r _ _).cons_cons t
    · exact (keptGo_sub f r _ _).cons t
theorem keptF_sub (f : Flt) (l : List Int) : (keptF f l).Sublist l := keptGo_sub f l [] []
theorem keptF_app (f : Flt) (a b : List Int) : ∃ c, c.Sublist b ∧ keptF f (a ++ b) = keptF f a ++ c := ⟨_, keptGo_sub f b _ _, by unfold keptF; rw [keptGo_app]⟩
/-! one filter's part against its history -/
def hist (f : Flt) (ev : List Int) : List Int := match f with
  | .fresh _ => ev.getLast?.toList
  | _ => keptF f ev
def relP (f : Flt) (ev : List Int) (t : Int) : Prt → Prop
  | .cnt c => match f with
    | .every n _ => c = (ev.length : Int) % n
    | _ => False
  | .wts ws => match f with
    | .every _ _ => False
    | _ => ws = ((hist f ev).map fun o => o + f.hold - t).filter fun x => decide (1 < x)
theorem left_eq (h t g : Int) (hg : 1 ≤ g) : ∀ H : List Int, fWaits g ((H.map fun o => o + h - t).filter fun x => decide (1 < x)) = (H.filter fun o => decide (t + g < o + h)).map fun o => o + h - (t + g)
  | [] => rfl
  | o :: H => by
    have ih := left_eq h t g hg H
    unfold fWaits at ih ⊢
    simp only [List.map_cons, List.filter_cons]
    by_cases h1 : 1 < o + h - t
    · by_cases h2 : t + g < o + h
      · have h3 : g < o + h - t := by omega
        simp only [h1, h2, h3, decide_true, if_true, List.filter_cons, List.map_cons]
        rw [ih]
        congr 1
        omega
      · have h3 : ¬ g < o + h - t := by omega
        simp only [h1, h2, h3, decide_true, decide_false, if_true, if_false, List.filter_cons, Bool.false_eq_true]
        exact ih
    · have h2 : ¬ t + g < o + h := by omega
      simp only [h1, h2, decide_false, if_false, Bool.false_eq_true]
      exact ih
theorem drop1 (h t' : Int) : ∀ H : List Int, (((H.filter fun o => decide (t' < o + h)).map fun o => o + h - t').filter fun x => decide (1 < x)) = (H.map fun o => o + h - t').filter fun x => decide (1 < x)
  | [] => rfl
  | o :: H => by
    have ih := drop1 h t' H
    simp only [List.map_cons, List.filter_cons]
    by_cases h2 : t' < o + h
    · simp only [h2, decide_true, if_true, List.map_cons, List.filter_cons]
      rw [ih]
    · have h3 : ¬ 1 < o + h - t' := by omega
      simp only [h2, h3, decide_false, if_false, Bool.false_eq_true]
      exact ih
theorem none_far {l : List Int} {h t' : Int} (hs : l.Pairwise (· < ·)) : ((((l.filter fun o => decide (t' < o + h)).map fun o => o + h - t').length : Int) < 1) ↔ (match l.getLast? with
    | none => true
    | some x => decide (h ≤ t' - x)) = true := by
  rw [List.length_map]
  cases e : l.getLast? with
  | none =>
    have : l = [] := List.getLast?_eq_none_iff.mp e
    subst this
    simp
  | some x =>
    obtain ⟨ys, rfl⟩ := List.getLast?_eq_some_iff.mp e
    have hx : ∀ y ∈ ys, y < x := fun y hy => (List.pairwise_append.mp hs).2.2 y hy x (by simp)
    simp only [decide_eq_true_eq]
    constructor
    · intro hlt
      have z : ((ys ++ [x]).filter fun o => decide (t' < o + h)) = [] := by
        apply List.eq_nil_of_length_eq_zero
        omega
      have := List.filter_eq_nil_iff.mp z x (by simp)
      simp at this
      omega
    · intro hle
      have z : ((ys ++ [x]).filter fun o => decide (t' < o + h)) = [] := by
        rw [List.filter_eq_nil_iff]
        intro a ha
        simp only [decide_eq_true_eq]
        rcases List.mem_append.mp ha with ha | ha
        · have := hx a ha; omega
        · rw [List.mem_singleton.mp ha]; omega
      rw [z]
      simp
theorem stepPart_rel {f : Flt} {s : Prt} {ev : List Int} {t g : Int} (hf : f.ok) (hs : ev.Pairwise (· < ·)) (hg : 1 ≤ g) (h : relP f ev t s) :
    ((stepPart f s g true).2 = good f ev (keptF f ev) (t + g) ∧ relP f (ev ++ [t + g]) (t + g) (stepPart f s g true).1) ∧ (stepPart f s g false).2 = false ∧ relP f ev (t + g) (stepPart f s g false).1 := by
  have hk : (keptF f ev).Pairwise (· < ·) := hs.sublist (keptF_sub f ev)
  cases s with
  | cnt c =>
    cases f with
    | every n k =>
      have e : c = (ev.length : Int) % n := h
      subst e
      have hn : 1 ≤ n := hf.1
      have hm : max n 1 = n := by omega
      refine ⟨⟨?_, ?_⟩, by simp [stepPart], h⟩
      · simp [stepPart, good]
      · show _ = (((ev ++ [t + g]).length : Nat) : Int) % n
        simp only [if_true, hm, List.length_append, List.length_singleton]
        rw [show (((ev.length + 1 : Nat)) : Int) = (ev.length : Int) + 1 by omega, Int.emod_add_emod]
    | _ => exact h.elim
  | wts ws =>
    cases f with
    | every n k => exact h.elim
    | spaced d =>
      have e : ws = ((keptF (.spaced d) ev).map fun o => o + d - t).filter fun x => decide (1 < x) := h
      subst e
      have le := left_eq d t g hg (keptF (.spaced d) ev)
      have nf := none_far (h := d) (t' := t + g) hk
      refine ⟨⟨?_, ?_⟩, ?_, ?_⟩
      · simp only [stepPart, stepW, Bool.true_and, le, good, Flt.most]
        rw [Bool.eq_iff_iff, decide_eq_true_iff]
        exact nf
      · simp only [stepPart, stepW, Bool.true_and, le, Flt.isFresh, Flt.most, Flt.hold, Bool.false_eq_true, if_false]
        show _ = ((keptF (.spaced d) (ev ++ [t + g])).map fun o => o + d - (t + g)).filter fun x => decide (1 < x)
        rw [keptF_snoc]
        by_cases hgd : good (.spaced d) ev (keptF (.spaced d) ev) (t + g) = true
        · rw [if_pos (decide_eq_true (nf.mpr hgd)), if_pos hgd, List.filter_append, drop1, List.map_append, List.filter_append]
          congr 2
          simp only [List.map_cons, List.map_nil]
          congr 1
          omega
        · rw [if_neg (fun z => hgd (nf.mp (of_decide_eq_true z))), if_neg hgd, List.append_nil, drop1]
      · simp [stepPart, stepW]
      · simp only [stepPart, stepW, Bool.false_and, le, Bool.false_eq_true, if_false]
        show _ = ((keptF (.spaced d) ev).map fun o => o + d - (t + g)).filter fun x => decide (1 < x)
        rw [drop1]
    | limit n w =>
      have e : ws = ((keptF (.limit n w) ev).map fun o => o + w - t).filter fun x => decide (1 < x) := h
      subst e
      have le := left_eq w t g hg (keptF (.limit n w) ev)
      have fe : (fun o : Int => decide (t + g < o + w)) = fun o => decide (t + g - w < o) := by
        funext o
        rw [Bool.eq_iff_iff, decide_eq_true_iff, decide_eq_true_iff]
        omega
      refine ⟨⟨?_, ?_⟩, ?_, ?_⟩
      · simp only [stepPart, stepW, Bool.true_and, le, good, Flt.most, List.length_map, fe]
      · simp only [stepPart, stepW, Bool.true_and, le, Flt.isFresh, Flt.most, Flt.hold, Bool.false_eq_true, if_false]
        show _ = ((keptF (.limit n w) (ev ++ [t + g])).map fun o => o + w - (t + g)).filter fun x => decide (1 < x)
        rw [keptF_snoc]
        have gd : good (.limit n w) ev (keptF (.limit n w) ev) (t + g) = decide ((((keptF (.limit n w) ev).filter fun o => decide (t + g < o + w)).map fun o => o + w - (t + g)).length < n) := by
          simp only [good, List.length_map, fe]
        by_cases hgd : good (.limit n w) ev (keptF (.limit n w) ev) (t + g) = true
        · rw [if_pos hgd]
          rw [gd] at hgd
          rw [if_pos hgd, List.filter_append, drop1, List.map_append, List.filter_append]
          congr 2
          simp only [List.map_cons, List.map_nil]
          congr 1
          omega
        · rw [if_neg hgd]
          rw [gd] at hgd
          rw [if_neg hgd, List.append_nil, drop1]
      · simp [stepPart, stepW]
      · simp only [stepPart, stepW, Bool.false_and, le, Bool.false_eq_true, if_false]
        show _ = ((keptF (.limit n w) ev).map fun o => o + w - (t + g)).filter fun x => decide (1 < x)
        rw [drop1]
    | fresh d =>
      have e : ws = ((ev.getLast?.toList).map fun o => o + (d + 1) - t).filter fun x => decide (1 < x) := h
      subst e
      have le := left_eq (d + 1) t g hg ev.getLast?.toList
      refine ⟨⟨?_, ?_⟩, ?_, ?_⟩
      · simp only [stepPart, stepW, Bool.true_and, le, good, Flt.most]
        cases q : ev.getLast? with
        | none => simp
        | some l =>
          simp only [Option.toList, List.filter_cons, List.filter_nil]
          by_cases hl : t + g < l + (d + 1)
          · have h2 : ¬ d < t + g - l := by omega
            simp [hl, h2]
          · have h2 : d < t + g - l := by omega
            simp [hl, h2]
      · simp only [stepPart, stepW, Bool.true_and, Flt.isFresh, if_true, Flt.hold]
        show _ = (((ev ++ [t + g]).getLast?.toList).map fun o => o + (d + 1) - (t + g)).filter fun x => decide (1 < x)
        rw [List.getLast?_concat]
        simp only [Option.toList, List.map_cons, List.map_nil]
        congr 2
        omega
      · simp [stepPart, stepW]
      · simp only [stepPart, stepW, Bool.false_and, le, Bool.false_eq_true, if_false]
        show _ = ((ev.getLast?.toList).map fun o => o + (d + 1) - (t + g)).filter fun x => decide (1 < x)
        rw [drop1]
end KX

/-! M2: pipelines by their definition; the machine decides as the definition does; two logs alike -/
namespace KX
def kept (p : List Flt) (l : List Int) : List Int := p.foldl (fun l f => keptF f l) l
/-- the filter that drops an event t of the inputs K -/
def decF : Nat → List Flt → List Int → Int → Option Nat
  | _, [], _, _ => none
  | i, f :: p, K, t => if t ∈ keptF f K then decF (i + 1) p (keptF f K) t else some i
def decD (p : List Flt) (l : List Int) : List (Option Nat) := l.map (decF 0 p l)
def relS : List Flt → List Int → Int → List Prt → Prop
  | [], _, _, st => st = []
  | _ :: _, _, _, [] => False
  | f :: p, ev, t, s :: st => relP f ev t s ∧ relS p (keptF f ev) t st
theorem relS_len : ∀ {p : List Flt} {ev : List Int} {t : Int} {st : List Prt}, relS p ev t st → p.length = st.length
  | [], _, _, st, h => by rw [show st = [] from h]; rfl
  | _ :: _, _, _, [], h => h.elim
  | f :: p, ev, t, s :: st, h => by rw [List.length_cons, List.length_cons, relS_len h.2]
theorem relS_st0 (t : Int) : ∀ p : List Flt, relS p [] t (p.map Flt.st0)
  | [] => rfl
  | f :: p => by
    refine ⟨?_, relS_st0 t p⟩
    cases f with
    | every n k => show (0 : Int) = ((([] : List Int).length : Nat) : Int) % n; simp
    | _ => rfl
theorem stepGo_no (g : Int) : ∀ (p : List Flt) (ev : List Int) (t : Int) (st : List Prt) (i j : Nat), (∀ f ∈ p, f.ok) → ev.Pairwise (· < ·) → 1 ≤ g → relS p ev t st →
    relS p ev (t + g) (stepGo g i (p.zip st) (some j)).1 ∧ (stepGo g i (p.zip st) (some j)).2 = some j
  | [], _, _, st, _, _, _, _, _, h => by
    rw [show st = [] from h]
    exact ⟨rfl, rfl⟩
  | _ :: _, _, _, [], _, _, _, _, _, h => h.elim
  | f :: p, ev, t, s :: st, i, j, ho, hs, hg, h => by
    have a := (stepPart_rel (ho f List.mem_cons_self) hs hg h.1).2
    have b := stepGo_no g p (keptF f ev) t st (i + 1) j (fun x hx => ho x (List.mem_cons_of_mem _ hx)) (hs.sublist (keptF_sub f ev)) hg h.2
    simp only [List.zip_cons_cons, stepGo, Option.isNone_some, Bool.false_and, Bool.false_eq_true, if_false]
    exact ⟨⟨a.2, b.1⟩, b.2⟩
theorem stepGo_yes (g : Int) : ∀ (p : List Flt) (ev : List Int) (t : Int) (st : List Prt) (i : Nat), (∀ f ∈ p, f.ok) → ev.Pairwise (· < ·) → (∀ o ∈ ev, o ≤ t) → 1 ≤ g → relS p ev t st →
    relS p (ev ++ [t + g]) (t + g) (stepGo g i (p.zip st) none).1 ∧ (stepGo g i (p.zip st) none).2 = decF i p (ev ++ [t + g]) (t + g)
  | [], _, _, st, _, _, _, _, _, h => by
    rw [show st = [] from h]
    exact ⟨rfl, rfl⟩
  | _ :: _, _, _, [], _, _, _, _, _, h => h.elim
  | f :: p, ev, t, s :: st, i, ho, hs, ht, hg, h => by
    have a := (stepPart_rel (ho f List.mem_cons_self) hs hg h.1).1
    have hk : (keptF f ev).Pairwise (· < ·) := hs.sublist (keptF_sub f ev)
    have kt : ∀ o ∈ keptF f ev, o ≤ t := fun o m => ht o ((keptF_sub f ev).subset m)
    have hp : ∀ x ∈ p, x.ok := fun x hx => ho x (List.mem_cons_of_mem _ hx)
    simp only [List.zip_cons_cons, stepGo, Option.isNone_none, Bool.true_and, a.1]
    have sn := keptF_snoc f ev (t + g)
    cases hgd : good f ev (keptF f ev) (t + g) with
    | true =>
      rw [hgd, if_pos rfl] at sn
      have b := stepGo_yes g p (keptF f ev) t st (i + 1) hp hk kt hg h.2
      simp only [Bool.not_true, Bool.false_eq_true, if_false, decF, sn]
      rw [if_pos (by simp)]
      exact ⟨⟨a.2, by rw [sn]; exact b.1⟩, b.2⟩
    | false =>
      rw [hgd, if_neg Bool.false_ne_true, List.append_nil] at sn
      have b := stepGo_no g p (keptF f ev) t st (i + 1) i hp hk hg h.2
      simp only [Bool.not_false, if_true, decF, sn]
      rw [if_neg (fun m => by have := kt _ m; omega)]
      exact ⟨⟨a.2, by rw [sn]; exact b.1⟩, b.2⟩
theorem decF_app : ∀ (p : List Flt) (i : Nat) (K R : List Int) (t : Int), t ∉ R → decF i p (K ++ R) t = decF i p K t
  | [], _, _, _, _, _ => rfl
  | f :: p, i, K, R, t, h => by
    obtain ⟨c, hc, e⟩ := keptF_app f K R
    have hc' : t ∉ c := fun m => h (hc.subset m)
    simp only [decF, e, List.mem_append, hc', or_false]
    rw [decF_app p (i + 1) (keptF f K) c t hc']
theorem traceGo_dec (p : List Flt) (ho : ∀ f ∈ p, f.ok) (log : List Int) (hs : log.Pairwise (· < ·)) : ∀ (rest done : List Int) (t : Int) (st : List Prt), log = done ++ rest → (∀ o ∈ done, o ≤ t) →
    (∀ x r, rest = x :: r → x = t + gapAt log done.length ∧ 1 ≤ gapAt log done.length) → relS p done t st → (traceGo p log done.length rest.length st).map (·.2) = rest.map (decF 0 p log)
  | [], _, _, _, _, _, _, _ => rfl
  | x :: r, done, t, st, hl, hd, hx, h => by
    obtain ⟨ex, hg⟩ := hx x r rfl
    have hsd : done.Pairwise (· < ·) := by rw [hl] at hs; exact (List.pairwise_append.mp hs).1
    have hxr : ∀ y ∈ r, x < y := by
      rw [hl] at hs
      exact (List.pairwise_cons.mp (List.pairwise_append.mp hs).2.1).1
    have q := stepGo_yes (gapAt log done.length) p done t st 0 ho hsd hd hg h
    rw [← ex] at q
    simp only [List.length_cons, traceGo, List.map_cons]
    congr 1
    · show (stepM p st (gapAt log done.length)).2 = _
      unfold stepM
      rw [q.2, hl, show done ++ x :: r = (done ++ [x]) ++ r by simp]
      exact (decF_app p 0 (done ++ [x]) r x fun m => by have := hxr x m; omega).symm
    · have hl' : log = (done ++ [x]) ++ r := by rw [hl]; simp
      have := traceGo_dec p ho log hs r (done ++ [x]) x (stepM p st (gapAt log done.length)).1 hl' (fun o m => by
        rcases List.mem_append.mp m with m | m
        · have := hd o m; omega
        · rw [List.mem_singleton.mp m]; exact Int.le_refl _) (fun y r' e => by
          subst e
          have e1 : gapAt log (done ++ [x]).length = y - x := by
            unfold gapAt
            rw [if_pos (by simp), List.length_append, List.length_singleton, Nat.add_sub_cancel, hl]
            simp [List.getD_eq_getElem?_getD, List.getElem?_append_right]
          rw [e1]
          have := hxr y (by simp)
          omega) q.1
      rw [List.length_append, List.length_singleton] at this
      exact this
theorem decM_eq {p : List Flt} {log : List Int} (ho : ∀ f ∈ p, f.ok) (hs : log.Pairwise (· < ·)) : decM p log = decD p log := by
  unfold decM traceM decD
  cases log with
  | nil => rfl
  | cons x r =>
    refine traceGo_dec p ho (x :: r) hs (x :: r) [] (x - 1) (p.map Flt.st0) rfl (by simp) (fun y r' e => ?_) (relS_st0 _ p)
    cases e
    show x = x - 1 + gapAt (x :: r) 0 ∧ 1 ≤ gapAt (x :: r) 0
    simp [gapAt]
/-! what is kept -/
theorem kept_sub : ∀ (p : List Flt) (l : List Int), (kept p l).Sublist l
  | [], l => List.Sublist.refl l
  | f :: p, l => (kept_sub p (keptF f l)).trans (keptF_sub f l)
theorem decF_none : ∀ (p : List Flt) (i : Nat) (K : List Int) (t : Int), t ∈ K → (decF i p K t = none ↔ t ∈ kept p K)
  | [], _, K, t, h => by simp [decF, kept, h]
  | f :: p, i, K, t, h => by
    unfold decF
    by_cases m : t ∈ keptF f K
    · rw [if_pos m, decF_none p (i + 1) (keptF f K) t m]
      rfl
    · rw [if_neg m]
      constructor
      · intro z; cases z
      · intro z
        exact absurd ((kept_sub p (keptF f K)).subset z) m
theorem filter_mem_sub : ∀ {a l : List Int}, a.Sublist l → l.Pairwise (· < ·) → (l.filter fun t => decide (t ∈ a)) = a
  | _, _, .slnil, _ => rfl
  | a, x :: l, .cons _ h, hs => by
    obtain ⟨h1, h2⟩ := List.pairwise_cons.mp hs
    have : x ∉ a := fun m => by have := h1 x (h.subset m); omega
    rw [List.filter_cons, if_neg (by simpa using this)]
    exact filter_mem_sub h h2
  | x :: a, _ :: l, .cons_cons _ h, hs => by
    obtain ⟨h1, h2⟩ := List.pairwise_cons.mp hs
    rw [List.filter_cons, if_pos (by simp)]
    congr 1
    rw [← filter_mem_sub h h2]
    apply List.filter_congr
    intro y hy
    have e1 := filter_mem_sub h h2
    have := h1 y hy
    have ny : ¬ y = x := by omega
    simp only [List.mem_cons, ny, false_or]
    rw [e1]
theorem zip_map_filter (f : Int → Option Nat) : ∀ l : List Int, ((l.zip (l.map f)).filter fun q => q.2.isNone).map (·.1) = l.filter fun t => (f t).isNone
  | [] => rfl
  | x :: l => by
    simp only [List.map_cons, List.zip_cons_cons, List.filter_cons]
    by_cases h : (f x).isNone = true
    · simp only [h, if_true, List.map_cons]
      rw [zip_map_filter f l]
    · simp only [h, if_false, Bool.false_eq_true]
      exact zip_map_filter f l
theorem keepM_eq {p : List Flt} {log : List Int} (ho : ∀ f ∈ p, f.ok) (hs : log.Pairwise (· < ·)) : keepM p log = kept p log := by
  unfold keepM
  rw [decM_eq ho hs]
  unfold decD
  rw [zip_map_filter, ← filter_mem_sub (kept_sub p log) hs]
  apply List.filter_congr
  intro t ht
  have h := decF_none p 0 log t ht
  have e := filter_mem_sub (kept_sub p log) hs
  rw [Bool.eq_iff_iff, decide_eq_true_iff, ← h, Option.isNone_iff_eq_none]
/-! two logs alike: pairs of times -/
def alike (f f' : Flt) (P : List (Int × Int)) : Prop := (match f, f' with
    | .spaced _, .spaced _ => True
    | .fresh _, .fresh _ => True
    | .every n k, .every n' k' => n = n' ∧ k = k'
    | .limit n _, .limit n' _ => n = n'
    | _, _ => False) ∧ P.Pairwise fun a b => (f.hold ≤ b.1 - a.1 ↔ f'.hold ≤ b.2 - a.2)
theorem alike.sub {f f' : Flt} {P Q : List (Int × Int)} (h : alike f f' P) (s : Q.Sublist P) : alike f f' Q := ⟨h.1, h.2.sublist s⟩
theorem good_alike {f f' : Flt} {E Kp : List (Int × Int)} {x : Int × Int} (hk : Kp.Sublist E) (h : alike f f' (E ++ [x])) :
    good f' (E.map (·.2)) (Kp.map (·.2)) x.2 = good f (E.map (·.1)) (Kp.map (·.1)) x.1 := by
  have far : ∀ e ∈ E, (f.hold ≤ x.1 - e.1 ↔ f'.hold ≤ x.2 - e.2) := fun e he => (List.pairwise_append.mp h.2).2.2 e he x (by simp)
  have farK : ∀ e ∈ Kp, (f.hold ≤ x.1 - e.1 ↔ f'.hold ≤ x.2 - e.2) := fun e he => far e (hk.subset he)
  cases f with
  | spaced d =>
    cases f' with
    | spaced d' =>
      simp only [good, List.getLast?_map]
      cases q : Kp.getLast? with
      | none => rfl
      | some e =>
        have := farK e (List.mem_of_getLast? q)
        simp only [Flt.hold] at this
        simp only [Option.map_some]
        rw [Bool.eq_iff_iff, decide_eq_true_iff, decide_eq_true_iff]
        exact this.symm
    | _ => exact h.1.elim
  | fresh d =>
    cases f' with
    | fresh d' =>
      simp only [good, List.getLast?_map]
      cases q : E.getLast? with
      | none => rfl
      | some e =>
        have := far e (List.mem_of_getLast? q)
        simp only [Flt.hold] at this
        simp only [Option.map_some]
        rw [Bool.eq_iff_iff, decide_eq_true_iff, decide_eq_true_iff]
        omega
    | _ => exact h.1.elim
  | every n k =>
    cases f' with
    | every n' k' =>
      obtain ⟨rfl, rfl⟩ := h.1
      simp only [good, List.length_map]
    | _ => exact h.1.elim
  | limit n w =>
    cases f' with
    | limit n' w' =>
      obtain rfl := h.1
      simp only [good, List.filter_map, List.length_map]
      have e : List.filter ((fun o => decide (x.2 - w' < o)) ∘ fun x : Int × Int => x.2) Kp = List.filter ((fun o => decide (x.1 - w < o)) ∘ fun x : Int × Int => x.1) Kp := by
        apply List.filter_congr
        intro e he
        have := farK e he
        simp only [Flt.hold] at this
        simp only [Function.comp]
        rw [Bool.eq_iff_iff, decide_eq_true_iff, decide_eq_true_iff]
        omega
      rw [e]
    | _ => exact h.1.elim
theorem keptGo_alike {f f' : Flt} : ∀ (R E Kp : List (Int × Int)), Kp.Sublist E → alike f f' (E ++ R) →
    ∃ Q : List (Int × Int), Q.Sublist R ∧ keptGo f (E.map (·.1)) (Kp.map (·.1)) (R.map (·.1)) = Q.map (·.1) ∧ keptGo f' (E.map (·.2)) (Kp.map (·.2)) (R.map (·.2)) = Q.map (·.2)
  | [], _, _, _, _ => ⟨[], .slnil, rfl, rfl⟩
  | x :: R, E, Kp, hk, h => by
    have h' : alike f f' ((E ++ [x]) ++ R) := by rw [List.append_assoc]; exact h
    have g := good_alike hk (h'.sub (List.sublist_append_left (E ++ [x]) R))
    simp only [List.map_cons, keptGo, g]
    by_cases hg : good f (E.map (·.1)) (Kp.map (·.1)) x.1 = true
    · obtain ⟨Q, q1, q2, q3⟩ := keptGo_alike R (E ++ [x]) (Kp ++ [x]) (hk.append (List.Sublist.refl [x])) h'
      rw [List.map_append, List.map_append] at q2 q3
      exact ⟨x :: Q, q1.cons_cons x, by rw [if_pos hg]; exact congrArg _ q2, by rw [if_pos hg]; exact congrArg _ q3⟩
    · obtain ⟨Q, q1, q2, q3⟩ := keptGo_alike R (E ++ [x]) Kp (hk.trans (List.sublist_append_left E [x])) h'
      rw [List.map_append] at q2 q3
      exact ⟨Q, q1.cons x, by rw [if_neg hg]; exact q2, by rw [if_neg hg]; exact q3⟩
theorem keptF_alike {f f' : Flt} {P : List (Int × Int)} (h : alike f f' P) : ∃ Q : List (Int × Int), Q.Sublist P ∧ keptF f (P.map (·.1)) = Q.map (·.1) ∧ keptF f' (P.map (·.2)) = Q.map (·.2) := keptGo_alike P [] [] .slnil h
/-- all pairs of filters of two pipelines -/
def alikeAll : List Flt → List Flt → List (Int × Int) → Prop
  | [], [], _ => True
  | f :: p, f' :: p', P => alike f f' P ∧ alikeAll p p' P
  | _, _, _ => False
theorem alikeAll.sub : ∀ {p p' : List Flt} {P Q : List (Int × Int)}, alikeAll p p' P → Q.Sublist P → alikeAll p p' Q
  | [], [], _, _, _, _ => trivial
  | _ :: _, _ :: _, _, _, h, s => ⟨h.1.sub s, alikeAll.sub h.2 s⟩
  | [], _ :: _, _, _, h, _ => h
  | _ :: _, [], _, _, h, _ => h
theorem mem_fst {Q P : List (Int × Int)} (s : Q.Sublist P) (hP : (P.map (·.1)).Nodup) {x : Int × Int} (hx : x ∈ P) : x.1 ∈ Q.map (·.1) ↔ x ∈ Q := by
  constructor
  · intro h
    obtain ⟨y, hy, e⟩ := List.mem_map.mp h
    have hyP := s.subset hy
    have : y = x := by
      obtain ⟨i, hi, rfl⟩ := List.getElem_of_mem hyP
      obtain ⟨j, hj, rfl⟩ := List.getElem_of_mem hx
      have ij := (List.getElem_inj (h₀ := by simpa using hi) (h₁ := by simpa using hj) hP).mp (by simpa using e)
      subst ij
      rfl
    rw [← this]; exact hy
  · exact fun h => List.mem_map_of_mem h
theorem mem_snd {Q P : List (Int × Int)} (s : Q.Sublist P) (hP : (P.map (·.2)).Nodup) {x : Int × Int} (hx : x ∈ P) : x.2 ∈ Q.map (·.2) ↔ x ∈ Q := by
  constructor
  · intro h
    obtain ⟨y, hy, e⟩ := List.mem_map.mp h
    have hyP := s.subset hy
    have : y = x := by
      obtain ⟨i, hi, rfl⟩ := List.getElem_of_mem hyP
      obtain ⟨j, hj, rfl⟩ := List.getElem_of_mem hx
      have ij := (List.getElem_inj (h₀ := by simpa using hi) (h₁ := by simpa using hj) hP).mp (by simpa using e)
      subst ij
      rfl
    rw [← this]; exact hy
  · exact fun h => List.mem_map_of_mem h
theorem decF_alike : ∀ (p p' : List Flt) (i : Nat) (P : List (Int × Int)) (x : Int × Int), alikeAll p p' P → (P.map (·.1)).Nodup → (P.map (·.2)).Nodup → x ∈ P → decF i p' (P.map (·.2)) x.2 = decF i p (P.map (·.1)) x.1
  | [], [], _, _, _, _, _, _, _ => rfl
  | [], _ :: _, _, _, _, h, _, _, _ => h.elim
  | _ :: _, [], _, _, _, h, _, _, _ => h.elim
  | f :: p, f' :: p', i, P, x, h, n1, n2, hx => by
    obtain ⟨Q, s, q1, q2⟩ := keptF_alike h.1
    simp only [decF, q1, q2, mem_fst s n1 hx, mem_snd s n2 hx]
    by_cases hq : x ∈ Q
    · rw [if_pos hq, if_pos hq]
      exact decF_alike p p' (i + 1) Q x (h.2.sub s) (n1.sublist (s.map _)) (n2.sublist (s.map _)) hq
    · rw [if_neg hq, if_neg hq]
theorem kept_alike : ∀ (p p' : List Flt) (P : List (Int × Int)), alikeAll p p' P → ∃ Q : List (Int × Int), Q.Sublist P ∧ kept p (P.map (·.1)) = Q.map (·.1) ∧ kept p' (P.map (·.2)) = Q.map (·.2)
  | [], [], P, _ => ⟨P, .refl P, rfl, rfl⟩
  | [], _ :: _, _, h => h.elim
  | _ :: _, [], _, h => h.elim
  | f :: p, f' :: p', P, h => by
    obtain ⟨Q, s, q1, q2⟩ := keptF_alike h.1
    obtain ⟨Q', s', r1, r2⟩ := kept_alike p p' Q (h.2.sub s)
    exact ⟨Q', s'.trans s, by rw [← r1, ← q1]; rfl, by rw [← r2, ← q2]; rfl⟩
theorem decD_alike {p p' : List Flt} {P : List (Int × Int)} (h : alikeAll p p' P) (n1 : (P.map (·.1)).Nodup) (n2 : (P.map (·.2)).Nodup) : decD p' (P.map (·.2)) = decD p (P.map (·.1)) := by
  unfold decD
  rw [List.map_map, List.map_map]
  apply List.map_congr_left
  intro x hx
  exact decF_alike p p' 0 P x h n1 n2 hx
theorem nodup_of_lt {l : List Int} (h : l.Pairwise (· < ·)) : l.Nodup := h.imp fun {a b} h => by omega
end KX

/-! M25: the values of a last filter's parameter are a row of whole numbers -/
namespace KX
theorem asc_same : ∀ {a b : List Int}, a.Pairwise (· < ·) → b.Pairwise (· < ·) → (∀ x, x ∈ a ↔ x ∈ b) → a = b
  | [], [], _, _, _ => rfl
  | [], y :: b, _, _, h => by have := (h y).mpr (by simp); cases this
  | x :: a, [], _, _, h => by have := (h x).mp (by simp); cases this
  | x :: a, y :: b, ha, hb, h => by
    rw [List.pairwise_cons] at ha hb
    have e : x = y := by
      have h1 := (h x).mp (by simp)
      have h2 := (h y).mpr (by simp)
      rcases List.mem_cons.mp h1 with z | z
      · exact z
      · rcases List.mem_cons.mp h2 with w | w
        · exact w.symm
        · have := ha.1 y w
          have := hb.1 x z
          omega
    subst e
    rw [asc_same ha.2 hb.2 fun z => ?_]
    have hz := h z
    simp only [List.mem_cons] at hz
    constructor
    · intro m
      rcases hz.mp (.inr m) with e | e
      · have := ha.1 z m
        omega
      · exact e
    · intro m
      rcases hz.mpr (.inr m) with e | e
      · have := hb.1 z m
        omega
      · exact e
theorem kept_last (f : Flt) : ∀ (p : List Flt) (l : List Int), kept (p ++ [f]) l = keptF f (kept p l)
  | [], l => rfl
  | g :: p, l => kept_last f p (keptF g l)
theorem tail_same {K1 K3 : List Int} {t : Int} {c1 c3 : Bool} (n1 : t ∉ K1) (n3 : t ∉ K3) (h : K1 ++ (if c1 = true then [t] else []) = K3 ++ (if c3 = true then [t] else [])) : K1 = K3 ∧ c1 = c3 := by
  cases c1 <;> cases c3 <;> simp at h ⊢
  · exact h
  · exact n1 (by rw [h]; simp)
  · exact n3 (by rw [← h]; simp)
  · exact h
theorem mid_spaced {d1 d2 d3 : Int} (h12 : d1 ≤ d2) (h23 : d2 ≤ d3) : ∀ (m : Nat) (l : List Int), l.length = m → l.Pairwise (· < ·) → keptF (.spaced d1) l = keptF (.spaced d3) l → keptF (.spaced d2) l = keptF (.spaced d1) l
  | 0, l, hl, _, _ => by rw [List.length_eq_zero_iff.mp hl]; rfl
  | m + 1, l, hl, hs, h => by
    rcases List.eq_nil_or_concat l with rfl | ⟨L, t, rfl⟩
    · cases hl
    · rw [List.concat_eq_append] at hl hs h ⊢
      rw [List.length_append, List.length_singleton] at hl
      obtain ⟨p1, _, p3⟩ := List.pairwise_append.mp hs
      have nt : ∀ f : Flt, t ∉ keptF f L := fun f m => by have := p3 t ((keptF_sub f L).subset m) t (by simp); omega
      rw [keptF_snoc, keptF_snoc] at h
      obtain ⟨e1, e2⟩ := tail_same (nt _) (nt _) h
      have ih := mid_spaced h12 h23 m L (by omega) p1 e1
      rw [keptF_snoc, keptF_snoc, ih]
      congr 2
      rw [e1] at e2 ⊢
      unfold good at e2 ⊢
      cases q : (keptF (.spaced d3) L).getLast? with
      | none => rfl
      | some x =>
        rw [q] at e2
        simp only [decide_eq_decide] at e2
        rw [decide_eq_true_eq, decide_eq_true_eq]
        refine propext ?_
        constructor
        · intro y; omega
        · intro y
          have := e2.mp y
          omega
theorem mid_fresh {d1 d2 d3 : Int} (h12 : d1 ≤ d2) (h23 : d2 ≤ d3) : ∀ (m : Nat) (l : List Int), l.length = m → l.Pairwise (· < ·) → keptF (.fresh d1) l = keptF (.fresh d3) l → keptF (.fresh d2) l = keptF (.fresh d1) l
  | 0, l, hl, _, _ => by rw [List.length_eq_zero_iff.mp hl]; rfl
  | m + 1, l, hl, hs, h => by
    rcases List.eq_nil_or_concat l with rfl | ⟨L, t, rfl⟩
    · cases hl
    · rw [List.concat_eq_append] at hl hs h ⊢
      rw [List.length_append, List.length_singleton] at hl
      obtain ⟨p1, _, p3⟩ := List.pairwise_append.mp hs
      have nt : ∀ f : Flt, t ∉ keptF f L := fun f m => by have := p3 t ((keptF_sub f L).subset m) t (by simp); omega
      rw [keptF_snoc, keptF_snoc] at h
      obtain ⟨e1, e2⟩ := tail_same (nt _) (nt _) h
      have ih := mid_fresh h12 h23 m L (by omega) p1 e1
      rw [keptF_snoc, keptF_snoc, ih]
      congr 2
      unfold good at e2 ⊢
      cases q : L.getLast? with
      | none => rfl
      | some x =>
        rw [q] at e2
        simp only [decide_eq_decide] at e2
        rw [decide_eq_true_eq, decide_eq_true_eq]
        refine propext ?_
        constructor
        · intro y; omega
        · intro y
          have := e2.mp y
          omega
/-- an ascending list whose members fill their row -/
theorem row_of {v : List Int} (hs : v.Pairwise (· < ·)) {a z : Int} (ha : a ∈ v) (hz : z ∈ v) (lo : ∀ x ∈ v, a ≤ x ∧ x ≤ z) (fill : ∀ x, a ≤ x → x ≤ z → x ∈ v) : v = (List.range (z + 1 - a).toNat).map fun i : Nat => a + (i : Int) := by
  refine asc_same hs (List.pairwise_map.mpr (List.pairwise_lt_range.imp fun {i j} h => by omega)) fun x => ?_
  rw [List.mem_map]
  constructor
  · intro h
    have := lo x h
    exact ⟨(x - a).toNat, List.mem_range.mpr (by omega), by omega⟩
  · rintro ⟨i, hi, rfl⟩
    have := List.mem_range.mp hi
    exact fill _ (by omega) (by omega)
end KX

namespace KX
open PySem PySem.Spec PyProof.Rows L2 PV -- pv
def topS (i : Nat) : Stmt := PySem.Challenge.pw_thinlog_k16_whole_possible_last_paramete.main.body.getD i (.Pass ⟨0, 0, 0, 0⟩)
abbrev s_hold : Stmt := topS 2
theorem sc_hold : FnScope ["one"] ["one"] (defScope s_hold) := ⟨rfl, rfl, rfl, by decide +kernel, rfl, by decide +kernel, by decide +kernel⟩
abbrev s_start : Stmt := topS 4
theorem sc_start : FnScope ["pipeline", "one"] ["pipeline"] (defScope s_start) := ⟨rfl, rfl, rfl, by decide +kernel, rfl, by decide +kernel, by decide +kernel⟩
abbrev s_step : Stmt := topS 5
theorem sc_step : FnScope ["pipeline", "state", "gap", "after", "dropper", "at", "one", "arrives", "part", "keeps"] ["pipeline", "state", "gap"] (defScope s_step) := ⟨rfl, rfl, rfl, by decide +kernel, rfl, by decide +kernel, by decide +kernel⟩
abbrev s_step_counting : Stmt := topS 6
theorem sc_step_counting : FnScope ["one", "count", "arrives"] ["one", "count", "arrives"] (defScope s_step_counting) := ⟨rfl, rfl, rfl, by decide +kernel, rfl, by decide +kernel, by decide +kernel⟩
abbrev s_step_waiting : Stmt := topS 7
theorem sc_step_waiting : FnScope ["one", "waits", "gap", "arrives", "wait", "left", "most", "keeps"] ["one", "waits", "gap", "arrives"] (defScope s_step_waiting) := ⟨rfl, rfl, rfl, by decide +kernel, rfl, by decide +kernel, by decide +kernel⟩
abbrev s_decisions : Stmt := topS 9
theorem sc_decisions : FnScope ["pipeline", "log", "row"] ["pipeline", "log"] (defScope s_decisions) := ⟨rfl, rfl, rfl, by decide +kernel, rfl, by decide +kernel, by decide +kernel⟩
abbrev s_keep : Stmt := topS 10
theorem sc_keep : FnScope ["pipeline", "log", "time", "dropper"] ["pipeline", "log"] (defScope s_keep) := ⟨rfl, rfl, rfl, by decide +kernel, rfl, by decide +kernel, by decide +kernel⟩
abbrev s_trace : Stmt := topS 11
theorem sc_trace : FnScope ["pipeline", "log", "state", "rows", "at", "dropper"] ["pipeline", "log"] (defScope s_trace) := ⟨rfl, rfl, rfl, by decide +kernel, rfl, by decide +kernel, by decide +kernel⟩
abbrev s_gap_before : Stmt := topS 12
theorem sc_gap_before : FnScope ["log", "at"] ["log", "at"] (defScope s_gap_before) := ⟨rfl, rfl, rfl, by decide +kernel, rfl, by decide +kernel, by decide +kernel⟩
abbrev s_possible_last : Stmt := topS 14
theorem sc_possible_last : FnScope ["pipeline", "name", "log", "kept", "found"] ["pipeline", "name", "log", "kept"] (defScope s_possible_last) := ⟨rfl, rfl, rfl, by decide +kernel, rfl, by decide +kernel, by decide +kernel⟩
abbrev s_possible_values : Stmt := topS 15
theorem sc_possible_values : FnScope ["pipeline", "index", "log", "kept", "numbers", "d"] ["pipeline", "index", "log", "kept"] (defScope s_possible_values) := ⟨rfl, rfl, rfl, by decide +kernel, rfl, by decide +kernel, by decide +kernel⟩
abbrev s_with_value : Stmt := topS 16
theorem sc_with_value : FnScope ["pipeline", "index", "d"] ["pipeline", "index", "d"] (defScope s_with_value) := ⟨rfl, rfl, rfl, by decide +kernel, rfl, by decide +kernel, by decide +kernel⟩
abbrev s_law_cell : Stmt := topS 18
theorem sc_law_cell : FnScope ["script", "index"] ["script", "index"] (defScope s_law_cell) := ⟨rfl, rfl, rfl, by decide +kernel, rfl, by decide +kernel, by decide +kernel⟩
abbrev s_law_digits : Stmt := topS 19
theorem sc_law_digits : FnScope ["script", "index", "count", "base", "primes", "cell", "rest", "digits", "k", "mixed"] ["script", "index", "count", "base"] (defScope s_law_digits) := ⟨rfl, rfl, rfl, by decide +kernel, rfl, by decide +kernel, by decide +kernel⟩
abbrev s_law_weight : Stmt := topS 20
theorem sc_law_weight : FnScope ["one"] ["one"] (defScope s_law_weight) := ⟨rfl, rfl, rfl, by decide +kernel, rfl, by decide +kernel, by decide +kernel⟩
abbrev s_law_filter : Stmt := topS 21
theorem sc_law_filter : FnScope ["digits", "count"] ["digits"] (defScope s_law_filter) := ⟨rfl, rfl, rfl, by decide +kernel, rfl, by decide +kernel, by decide +kernel⟩
abbrev s_law_pipeline : Stmt := topS 22
theorem sc_law_pipeline : FnScope ["digits", "size", "top", "pipeline", "weight_left", "k", "one"] ["digits", "size", "top"] (defScope s_law_pipeline) := ⟨rfl, rfl, rfl, by decide +kernel, rfl, by decide +kernel, by decide +kernel⟩
abbrev s_law_log : Stmt := topS 23
theorem sc_law_log : FnScope ["digits", "size", "wide", "log", "digit"] ["digits", "size"] (defScope s_law_log) := ⟨rfl, rfl, rfl, by decide +kernel, rfl, by decide +kernel, by decide +kernel⟩
abbrev s_law_kept : Stmt := topS 24
theorem sc_law_kept : FnScope ["one", "events", "kept", "index", "time", "good", "other"] ["one", "events"] (defScope s_law_kept) := ⟨rfl, rfl, rfl, by decide +kernel, rfl, by decide +kernel, by decide +kernel⟩
abbrev s_law_result : Stmt := topS 25
theorem sc_law_result : FnScope ["pipeline", "log", "events", "one"] ["pipeline", "log"] (defScope s_law_result) := ⟨rfl, rfl, rfl, by decide +kernel, rfl, by decide +kernel, by decide +kernel⟩
abbrev s_law : Stmt := topS 26
theorem sc_law : FnScope ["script", "index", "digits", "pipeline", "log", "turn", "name", "d", "kept", "place", "wished", "one", "valid", "found", "low", "high"] ["script"] (defScope s_law) := ⟨rfl, rfl, rfl, by decide +kernel, rfl, by decide +kernel, by decide +kernel⟩
structure Txt (K : KK) (mg : Str → Option Value) (base : Heap) where
  a_hold : Addr
  d_hold : FuncData
  F_hold : Fun K.fr "hold" "hold" s_hold a_hold d_hold
  g_hold : mg "hold" = some (.ref a_hold)
  b_hold : Binds K.fr d_hold ["one"] []
  a_start : Addr
  d_start : FuncData
  F_start : Fun K.fr "start" "start" s_start a_start d_start
  g_start : mg "start" = some (.ref a_start)
  b_start : Binds K.fr d_start ["pipeline"] []
  a_step : Addr
  d_step : FuncData
  F_step : Fun K.fr "step" "step" s_step a_step d_step
  g_step : mg "step" = some (.ref a_step)
  b_step : Binds K.fr d_step ["pipeline", "state", "gap"] []
  a_step_counting : Addr
  d_step_counting : FuncData
  F_step_counting : Fun K.fr "step_counting" "step_counting" s_step_counting a_step_counting d_step_counting
  g_step_counting : mg "step_counting" = some (.ref a_step_counting)
  b_step_counting : Binds K.fr d_step_counting ["one", "count", "arrives"] []
  a_step_waiting : Addr
  d_step_waiting : FuncData
  F_step_waiting : Fun K.fr "step_waiting" "step_waiting" s_step_waiting a_step_waiting d_step_waiting
  g_step_waiting : mg "step_waiting" = some (.ref a_step_waiting)
  b_step_waiting : Binds K.fr d_step_waiting ["one", "waits", "gap", "arrives"] []
  a_decisions : Addr
  d_decisions : FuncData
  F_decisions : Fun K.fr "decisions" "decisions" s_decisions a_decisions d_decisions
  g_decisions : mg "decisions" = some (.ref a_decisions)
  b_decisions : Binds K.fr d_decisions ["pipeline", "log"] []
  a_keep : Addr
  d_keep : FuncData
  F_keep : Fun K.fr "keep" "keep" s_keep a_keep d_keep
  g_keep : mg "keep" = some (.ref a_keep)
  b_keep : Binds K.fr d_keep ["pipeline", "log"] []
  a_trace : Addr
  d_trace : FuncData
  F_trace : Fun K.fr "trace" "trace" s_trace a_trace d_trace
  g_trace : mg "trace" = some (.ref a_trace)
  b_trace : Binds K.fr d_trace ["pipeline", "log"] []
  a_gap_before : Addr
  d_gap_before : FuncData
  F_gap_before : Fun K.fr "gap_before" "gap_before" s_gap_before a_gap_before d_gap_before
  g_gap_before : mg "gap_before" = some (.ref a_gap_before)
  b_gap_before : Binds K.fr d_gap_before ["log", "at"] []
  a_possible_last : Addr
  d_possible_last : FuncData
  F_possible_last : Fun K.fr "possible_last" "possible_last" s_possible_last a_possible_last d_possible_last
  g_possible_last : mg "possible_last" = some (.ref a_possible_last)
  b_possible_last : Binds K.fr d_possible_last ["pipeline", "name", "log", "kept"] []
  a_possible_values : Addr
  d_possible_values : FuncData
  F_possible_values : Fun K.fr "possible_values" "possible_values" s_possible_values a_possible_values d_possible_values
  g_possible_values : mg "possible_values" = some (.ref a_possible_values)
  b_possible_values : Binds K.fr d_possible_values ["pipeline", "index", "log", "kept"] []
  a_with_value : Addr
  d_with_value : FuncData
  F_with_value : Fun K.fr "with_value" "with_value" s_with_value a_with_value d_with_value
  g_with_value : mg "with_value" = some (.ref a_with_value)
  b_with_value : Binds K.fr d_with_value ["pipeline", "index", "d"] []
  a_law_cell : Addr
  d_law_cell : FuncData
  F_law_cell : Fun K.fr "_law_cell" "_law_cell" s_law_cell a_law_cell d_law_cell
  g_law_cell : mg "_law_cell" = some (.ref a_law_cell)
  b_law_cell : Binds K.fr d_law_cell ["script", "index"] []
  a_law_digits : Addr
  d_law_digits : FuncData
  F_law_digits : Fun K.fr "_law_digits" "_law_digits" s_law_digits a_law_digits d_law_digits
  g_law_digits : mg "_law_digits" = some (.ref a_law_digits)
  b_law_digits : Binds K.fr d_law_digits ["script", "index", "count", "base"] []
  a_law_weight : Addr
  d_law_weight : FuncData
  F_law_weight : Fun K.fr "_law_weight" "_law_weight" s_law_weight a_law_weight d_law_weight
  g_law_weight : mg "_law_weight" = some (.ref a_law_weight)
  b_law_weight : Binds K.fr d_law_weight ["one"] []
  a_law_filter : Addr
  d_law_filter : FuncData
  F_law_filter : Fun K.fr "_law_filter" "_law_filter" s_law_filter a_law_filter d_law_filter
  g_law_filter : mg "_law_filter" = some (.ref a_law_filter)
  b_law_filter : Binds K.fr d_law_filter ["digits"] []
  a_law_pipeline : Addr
  d_law_pipeline : FuncData
  F_law_pipeline : Fun K.fr "_law_pipeline" "_law_pipeline" s_law_pipeline a_law_pipeline d_law_pipeline
  g_law_pipeline : mg "_law_pipeline" = some (.ref a_law_pipeline)
  b_law_pipeline : Binds K.fr d_law_pipeline ["digits", "size", "top"] []
  a_law_log : Addr
  d_law_log : FuncData
  F_law_log : Fun K.fr "_law_log" "_law_log" s_law_log a_law_log d_law_log
  g_law_log : mg "_law_log" = some (.ref a_law_log)
  b_law_log : Binds K.fr d_law_log ["digits", "size"] []
  a_law_kept : Addr
  d_law_kept : FuncData
  F_law_kept : Fun K.fr "_law_kept" "_law_kept" s_law_kept a_law_kept d_law_kept
  g_law_kept : mg "_law_kept" = some (.ref a_law_kept)
  b_law_kept : Binds K.fr d_law_kept ["one", "events"] []
  a_law_result : Addr
  d_law_result : FuncData
  F_law_result : Fun K.fr "_law_result" "_law_result" s_law_result a_law_result d_law_result
  g_law_result : mg "_law_result" = some (.ref a_law_result)
  b_law_result : Binds K.fr d_law_result ["pipeline", "log"] []
  a_law : Addr
  d_law : FuncData
  F_law : Fun K.fr "law" "law" s_law a_law d_law
  g_law : mg "law" = some (.ref a_law)
  b_law : Binds K.fr d_law ["script"] []
  n_enumerate : mg "enumerate" = none
  n_len : mg "len" = none
  n_list : mg "list" = none
  n_max : mg "max" = none
  n_range : mg "range" = none
  n_set : mg "set" = none
  n_sorted : mg "sorted" = none
  n_tuple : mg "tuple" = none
  n_zip : mg "zip" = none
  v_LARGEST_PARAMETER : Value
  g_LARGEST_PARAMETER : mg "LARGEST_PARAMETER" = some v_LARGEST_PARAMETER
  r_LARGEST_PARAMETER : RelV (.int 8) v_LARGEST_PARAMETER
abbrev nSp : Str := "spaced"
abbrev nFr : Str := "fresh"
abbrev nEv : Str := "every"
abbrev nLi : Str := "limit"
theorem n12 : (Str.ofString "spaced" = Str.ofString "fresh") = False := eq_false (by decide +kernel)
theorem n13 : (Str.ofString "spaced" = Str.ofString "every") = False := eq_false (by decide +kernel)
theorem n14 : (Str.ofString "spaced" = Str.ofString "limit") = False := eq_false (by decide +kernel)
theorem n21 : (Str.ofString "fresh" = Str.ofString "spaced") = False := eq_false (by decide +kernel)
theorem n23 : (Str.ofString "fresh" = Str.ofString "every") = False := eq_false (by decide +kernel)
theorem n24 : (Str.ofString "fresh" = Str.ofString "limit") = False := eq_false (by decide +kernel)
theorem n31 : (Str.ofString "every" = Str.ofString "spaced") = False := eq_false (by decide +kernel)
theorem n32 : (Str.ofString "every" = Str.ofString "fresh") = False := eq_false (by decide +kernel)
theorem n34 : (Str.ofString "every" = Str.ofString "limit") = False := eq_false (by decide +kernel)
theorem n41 : (Str.ofString "limit" = Str.ofString "spaced") = False := eq_false (by decide +kernel)
theorem n42 : (Str.ofString "limit" = Str.ofString "fresh") = False := eq_false (by decide +kernel)
theorem n43 : (Str.ofString "limit" = Str.ofString "every") = False := eq_false (by decide +kernel)
theorem at2_0 {α : Type} (a b : α) : atI [a, b] 0 = some a := rfl
theorem at2_1 {α : Type} (a b : α) : atI [a, b] 1 = some b := rfl
theorem at2_m {α : Type} (a b : α) : atI [a, b] (-1) = some b := rfl
theorem ct2 (a b : Dat) : PV.cutD [a, b] none (some (-1)) = [a] := rfl
theorem ct3 (a b c : Dat) : PV.cutD [a, b, c] none (some (-1)) = [a, b] := rfl
theorem at3_0 {α : Type} (a b c : α) : atI [a, b, c] 0 = some a := rfl
theorem at3_1 {α : Type} (a b c : α) : atI [a, b, c] 1 = some b := rfl
theorem at3_2 {α : Type} (a b c : α) : atI [a, b, c] 2 = some c := rfl
theorem at3_m {α : Type} (a b c : α) : atI [a, b, c] (-1) = some c := rfl
local macro_rules | `(tactic| walk_at "pv") => `(tactic| simp only [rSeq, rNext, rSet, rAsgT, rPar, rUnp, putMany, rPut, rGet, rNew, rAug, rCount, pRep, pCatL, rSetR, riRngV, rgLst, pMaxL, pMinL, pSumL, pSortL, pSortD, pAnyL, pAllL, rRevS, riRevR, rChain, raLst, raSet, raDict, rLc2, rSortSc, rDc, pMin2D, rMinV, rIxTop, rInTop, riTop, rSetR1, pLenD, pDictP, riItemsF, rFroz, rFrozE, rFrozK, rFrozKE, riItemsK, riKeysF, riEnumS, rSortSetT, rLstRg, rTupRg, pLenFK, pLenN, pIxF, pListN, noEd, rPopS, rAppPop, rTruL, rCallP, rCallC, rNdefV, Sl.kn.injEq, Kn.rng.injEq, Kn.fn.injEq, Kn.clo.injEq, notVal, rDisp1, rDisp2, pIxD, pInD, rIsTy', isTy, Ow.dct.injEq, putS, rIfS, rRet, rRetF, rCallF, rApp, rFrz, frzSl, rTest, rAnd, rOr, rNot, rAndV, rOrV, rNotV, rIf, rIsN, isNone, rOp, rUn, rVar, rC, rTup, rLst, rNil, rCons, toDs, Rs.toD, Rs.rd, rCB, rCall, rSl, rPart, rNoPart, pIx, atD, pEqB, pInI, pInX, pIsB, rRevT, pI, pI0, pAddA, lenD, itemsD, rgName, rgTup, rgNil, rgCons, riSeq, rjSeq, riRng1, riRng2, riEnum, riZip, riEz, wipeE, rYes,
  n12, n13, n14, n21, n23, n24, n31, n32, n34, n41, n42, n43, at2_0, at2_1, at2_m, at3_0, at3_1, at3_2, at3_m, ct2, ct3,
  List.map_cons, List.map_nil, List.length_cons, List.length_nil, List.cons_append, List.nil_append, List.append_nil, List.replicate_succ, List.replicate_zero, List.getElem?_cons_zero, List.getElem?_cons_succ, List.getElem?_nil, List.set_cons_zero, List.set_cons_succ, List.foldl_cons, List.foldl_nil,
  Nat.zero_add, sizeLine_eq, Nat.zero_le, Nat.reduceLeDiff, Nat.reduceLT, Nat.reduceAdd, Nat.reduceSub, Nat.sub_self, Nat.add_sub_cancel, Option.some.injEq, Sl.ow.injEq, Ow.lst.injEq, Ow.dat, Sl.val.injEq, Rs.val.injEq, PyData.int.injEq, PyData.bool.injEq, PyData.str.injEq, PyData.tuple.injEq, PyData.list.injEq, PyData.dict.injEq, List.cons.injEq, reduceCtorEq, id_eq, decide_true, decide_false, decide_eq_true_eq, Bool.not_true, Bool.not_false, Bool.true_and, Bool.and_true, Bool.false_and, Bool.and_false, Bool.true_or, Bool.or_true, Bool.false_or, Bool.or_false, Bool.false_eq_true, if_true, if_false, ite_true, ite_false, true_and, and_true, false_and, and_false, exists_eq_left, exists_eq_left', exists_eq_right, exists_eq, exists_and_left, exists_const, exists_false, and_self, and_assoc, ↓reduceIte])
/-! ### filters -/
def Flt.enc : Flt → Dat
  | .spaced d => .tuple [.str "spaced", .int d]
  | .fresh d => .tuple [.str "fresh", .int d]
  | .every n k => .tuple [.str "every", .int n, .int k]
  | .limit n w => .tuple [.str "limit", .int n, .int w]
abbrev sp_hold := Sfn (fun f : Flt => [f.enc]) (fun _ => True) (fun f => .int f.hold)
theorem ok_hold {K : KK} {mg : Str → Option Value} {base : Heap} (T : Txt K mg base) : FnOk K.P K.w K.fr mg base CX0 1 T.a_hold T.d_hold ["one"] (spD K sp_hold) := by
  refine ok_def T.F_hold sc_hold (fun ds R h => by first | exact sfn_len h (fun _ => rfl) | exact srel_len h (fun _ => rfl) | (obtain ⟨a, rfl, _⟩ := h; rfl)) (fun cdv A outer s H E hr => ⟨_, _,
(pss_cons (ps_if (pt_cmpR (op_eqK (K := K) rfl hr.units) (pe_ix (ix_seqK (K := K) rfl) (pv 0) pe_int (fun _ _ => rfl)) pe_str (nomark _))
 (pss_one (ps_ret pe_int))
 pss_nil)
 (pss_cons (ps_if (pt_cmpR (op_eqK (K := K) rfl hr.units) (pe_ix (ix_seqK (K := K) rfl) (pv 0) pe_int (fun _ _ => rfl)) pe_str (nomark _))
 (pss_one (ps_ret (pe_op (op_addK (K := K) rfl) (pe_ix (ix_seqK (K := K) rfl) (pv 0) pe_int (fun _ _ => rfl)) pe_int)))
 pss_nil)
 (pss_one (ps_ret (pe_ix (ix_seqK (K := K) rfl) (pv 0) (pe_un un_neg pe_int) (fun _ _ => rfl)))))), (by (try dsimp only [nox_K]); infer_instance), fun ds R h => ?_⟩)
  obtain ⟨f, rfl, _, h⟩ := h
  cases f <;> simp only [Flt.enc] <;> walk_at "pv" <;> exact h
/-! ### the machine -/
def Prt.enc : Prt → Dat
  | .cnt c => .int c
  | .wts ws => .tuple (dInts ws)
def encP (p : List Flt) : Dat := .tuple (p.map Flt.enc)
def encS (s : List Prt) : Dat := .tuple (s.map Prt.enc)
abbrev sp_start := Sfn (fun p : List Flt => [encP p]) (fun p => p.length ≤ 100) (fun p => encS (p.map Flt.st0))
theorem ok_start {K : KK} {mg : Str → Option Value} {base : Heap} (T : Txt K mg base) : FnOk K.P K.w K.fr mg base CX0 1 T.a_start T.d_start ["pipeline"] (spD K sp_start) := by
  refine ok_def T.F_start sc_start (fun ds R h => by first | exact sfn_len h (fun _ => rfl) | exact srel_len h (fun _ => rfl) | (obtain ⟨a, rfl, _⟩ := h; rfl)) (fun cdv A outer s H E hr => ⟨_, _,
(pss_one (ps_ret (pe_callTy (call_tupleK (K := K) rfl) (by rfl) T.n_tuple PyProof.Rows.boot_tuple (pa_cons (pe_lc (own := [("one", 1)]) rfl sc_start.nd (pi_seqK (K := K) rfl (pv 0)) (blkOk_by (N := ["pipeline", "one"]) (sc := defScope s_start) (by decide +kernel)) (fun _ _ _ _ _ => (pg_name (i := 1) sc_start.nd rfl (Or.inl rfl))) (fun _ _ _ _ _ => pts_nil) (fun _ _ _ _ _ => (pe_ifExp (pt_cmpR (op_eqK (K := K) rfl hr.units) (pe_ix (ix_seqK (K := K) rfl) (pv 1) pe_int (fun _ _ => rfl)) pe_str (nomark _)) pe_int (pe_tup pa_nil)))) pa_nil)))), (by (try dsimp only [nox_K]); infer_instance), fun ds R h => ?_⟩)
  obtain ⟨p, rfl, hp, h⟩ := h
  simp only [encP]
  walk_at "pv"
  refine lc_intro p Flt.enc (fun f => some f.st0.enc) (fun Q h => ?_) (by rw [sizeLine_eq]; omega) (fun f N _ hN => ?_) ?_
  · walk_at "pv"
    exact h
  · cases f <;> simp only [Flt.enc] <;> walk_at "pv" <;> exact hN
  · walk_at "pv"
    rw [fm_some]
    simpa [encS, Function.comp_def] using h
abbrev sp_step_counting := Sfn (fun a : Int × Int × Int × Bool => [(Flt.every a.1 a.2.1).enc, .int a.2.2.1, .bool a.2.2.2]) (fun _ => True)
  (fun a => .tuple [.int (if a.2.2.2 then (a.2.2.1 + 1) % max a.1 1 else a.2.2.1), .bool (a.2.2.2 && decide (a.2.2.1 = a.2.1))])
theorem ok_step_counting {K : KK} {mg : Str → Option Value} {base : Heap} (T : Txt K mg base) : FnOk K.P K.w K.fr mg base CX0 1 T.a_step_counting T.d_step_counting ["one", "count", "arrives"] (spD K sp_step_counting) := by
  refine ok_def T.F_step_counting sc_step_counting (fun ds R h => by first | exact sfn_len h (fun _ => rfl) | exact srel_len h (fun _ => rfl) | (obtain ⟨a, rfl, _⟩ := h; rfl)) (fun cdv A outer s H E hr => ⟨_, _,
(pss_cons (ps_if (pt_not (pt_val (pv 2)))
 (pss_one (ps_ret (pe_tup (pa_cons (pv 1) (pa_cons pe_bl pa_nil)))))
 pss_nil)
 (pss_one (ps_ret (pe_tup (pa_cons (pe_op op_mod (pe_op (op_addK (K := K) rfl) (pv 1) pe_int) (pe_callB (call_max2A rfl) (by rfl) T.n_max PyProof.Rows.boot_max (pa_cons (pe_ix (ix_seqK (K := K) rfl) (pv 0) pe_int (fun _ _ => rfl)) (pa_cons pe_int pa_nil)))) (pa_cons (pe_cmpR (op_eqK (K := K) rfl hr.units) (pv 1) (pe_ix (ix_seqK (K := K) rfl) (pv 0) pe_int (fun _ _ => rfl)) (nomark _)) pa_nil)))))), (by (try dsimp only [nox_K]); infer_instance), fun ds R h => ?_⟩)
  obtain ⟨⟨n, k, c, arr⟩, rfl, _, h⟩ := h
  have hm : 0 < max n 1 := by omega
  cases arr <;> simp only [Flt.enc] <;> walk_at "pv"
  · simpa using h
  · exact ⟨hm, by simpa using h⟩
theorem lc_gt1 (l : List Int) (hl : l.length ≤ 10) {e0 e1 e2 e3 e4 e6 e7 : Sl} {R : Rs → Prop} (h : R (.fresh (dInts (l.filter fun x => decide (1 < x))))) :
    rLc (rjSeq (rVar 5)) (rgName 4) [4] (rTest (rOp (pI0 fun i j => PyData.bool (decide (j < i))) (rVar 4) (rC (PyData.int 1)))) (rVar 4) [4] [e0, e1, e2, e3, e4, Sl.own (dInts l), e6, e7] R := by
  refine lc_intro l PyData.int (fun x => if decide (1 < x) = true then some (.int x) else none) (fun Q h => ?_) (by rw [sizeLine_eq]; omega) (fun x N _ hN => ?_) ?_
  · walk_at "pv"; exact h
  · walk_at "pv"
    by_cases hx : 1 < x
    · simpa [hx] using hN
    · simpa [hx] using hN
  rw [fm_if (p := fun x => decide (1 < x))]
  exact h
abbrev sp_step_waiting := Sfn (fun a : Flt × List Int × Int × Bool => [a.1.enc, .tuple (dInts a.2.1), .int a.2.2.1, .bool a.2.2.2]) (fun a => a.2.1.length ≤ 3 ∧ ∀ n k, a.1 ≠ .every n k)
  (fun a => .tuple [.tuple (dInts (stepW a.1 a.2.1 a.2.2.1 a.2.2.2).1), .bool (stepW a.1 a.2.1 a.2.2.1 a.2.2.2).2])
theorem ok_step_waiting {K : KK} {mg : Str → Option Value} {base : Heap} (T : Txt K mg base) : FnOk K.P K.w K.fr mg base CX0 2 T.a_step_waiting T.d_step_waiting ["one", "waits", "gap", "arrives"] (spD K sp_step_waiting) := by
  refine ok_def T.F_step_waiting sc_step_waiting (fun ds R h => by first | exact sfn_len h (fun _ => rfl) | exact srel_len h (fun _ => rfl) | (obtain ⟨a, rfl, _⟩ := h; rfl)) (fun cdv A outer s H E hr => ⟨_, _,
(pss_cons (ps_setLc (i := 5) (own := [("wait", 4)]) rfl sc_step_waiting.nd rfl rfl (sw_true rfl rfl rfl (by decide +kernel)) (pi_seqK (K := K) rfl (pv 1)) (blkOk_by (N := ["one", "waits", "gap", "arrives", "wait", "left", "most", "keeps"]) (sc := defScope s_step_waiting) (by decide +kernel)) (fun _ _ _ _ _ => (pg_name (i := 4) sc_step_waiting.nd rfl (Or.inl rfl))) (fun _ _ _ _ _ => (pts_one (pt_cmpR op_gt (pv 4) (pv 2) (nomark _)))) (fun _ _ _ _ _ => (pe_op op_sub (pv 4) (pv 2))))
 (pss_cons (ps_set (i := 6) sc_step_waiting.nd rfl (Or.inl rfl) (pe_ifExp (pt_cmpR (op_eqK (K := K) rfl hr.units) (pe_ix (ix_seqK (K := K) rfl) (pv 0) pe_int (fun _ _ => rfl)) pe_str (nomark _)) (pe_ix (ix_seqK (K := K) rfl) (pv 0) pe_int (fun _ _ => rfl)) pe_int))
 (pss_cons (ps_set (i := 7) sc_step_waiting.nd rfl (Or.inl rfl) (pe_and (pv 3) (pe_one (pe_cmpR op_lt (pe_callB (call_lenK (K := K) rfl) (by rfl) T.n_len PySem.boot_len (pa_cons (pv 5) pa_nil)) (pv 6) (nomark _)))))
 (pss_cons (ps_if (pw_and (pt_val (pv 3)) (pw_and1 (pt_cmpR (op_eqK (K := K) rfl hr.units) (pe_ix (ix_seqK (K := K) rfl) (pv 0) pe_int (fun _ _ => rfl)) pe_str (nomark _)))).pt
 (pss_one (ps_set (i := 5) sc_step_waiting.nd rfl (Or.inl rfl) (pe_lst (pa_cons (pe_call (ok_hold T) (hr.mono (by decide)) (by rfl) T.g_hold T.F_hold.kp T.b_hold .nil pass0 (pa_cons (pv 0) pa_nil)) pa_nil))))
 (pss_one (ps_if (pt_val (pv 7))
 (pss_one (ps_expr (pe_bm PySem.F.plainAttrs_list PySem.F.slot_list_append PySem.F.type_list_append mt_append (pv 5) (pa_cons (pe_call (ok_hold T) (hr.mono (by decide)) (by rfl) T.g_hold T.F_hold.kp T.b_hold .nil pass0 (pa_cons (pv 0) pa_nil)) pa_nil))))
 pss_nil)))
 (pss_one (ps_ret (pe_tup (pa_cons (pe_callTy (call_tupleK (K := K) rfl) (by rfl) T.n_tuple PyProof.Rows.boot_tuple (pa_cons (pe_lc (own := [("wait", 4)]) rfl sc_step_waiting.nd (pi_seqK (K := K) rfl (pv 5)) (blkOk_by (N := ["one", "waits", "gap", "arrives", "wait", "left", "most", "keeps"]) (sc := defScope s_step_waiting) (by decide +kernel)) (fun _ _ _ _ _ => (pg_name (i := 4) sc_step_waiting.nd rfl (Or.inl rfl))) (fun _ _ _ _ _ => (pts_one (pt_cmpR op_gt (pv 4) pe_int (nomark _)))) (fun _ _ _ _ _ => (pv 4))) pa_nil)) (pa_cons (pv 7) pa_nil))))))))), (by (try dsimp only [nox_K]); infer_instance), fun ds R h => ?_⟩)
  obtain ⟨⟨f, ws, gap, arr⟩, rfl, ⟨hw, hf⟩, h⟩ := h
  simp only at hw hf h
  walk_at "pv"
  refine lc_intro ws PyData.int (fun x => if decide (gap < x) = true then some (.int (x - gap)) else none) (fun Q h => ?_) (by rw [sizeLine_eq]; omega) (fun x N _ hN => ?_) ?_
  · walk_at "pv"; exact h
  · walk_at "pv"
    by_cases hx : gap < x
    · simpa [hx] using hN
    · simpa [hx] using hN
  rw [fm_if (p := fun x => decide (gap < x))]
  have e : List.map (fun x => PyData.int (x - gap)) (List.filter (fun x => decide (gap < x)) ws) = dInts (fWaits gap ws) := by simp [dInts, fWaits]
  rw [e]
  have hl : (fWaits gap ws).length ≤ 3 := by
    unfold fWaits
    rw [List.length_map]
    exact Nat.le_trans (List.length_filter_le _ _) hw
  have hd : (dInts (fWaits gap ws)).length = (fWaits gap ws).length := by simp [dInts]
  unfold stepW at h
  generalize fWaits gap ws = L at hl hd h
  have ap : ∀ x : Int, dInts L ++ [PyData.int x] = dInts (L ++ [x]) := fun x => by simp [dInts]
  have sg : ∀ x : Int, [PyData.int x] = dInts [x] := fun x => rfl
  cases arr with
  | false =>
    cases f with
    | every n k => exact absurd rfl (hf n k)
    | _ =>
      simp only [Flt.enc]
      walk_at "pv"
      refine lc_gt1 L (by omega) ?_
      walk_at "pv"
      simpa using h
  | true =>
    cases f with
    | every n k => exact absurd rfl (hf n k)
    | spaced d =>
      simp only [Flt.enc]
      walk_at "pv"
      rw [hd]
      by_cases hk : (L.length : Int) < 1
      · simp only [hk, if_true]
        refine ⟨Flt.spaced d, rfl, trivial, ?_⟩
        dsimp only
        rw [ap]
        refine ⟨by omega, lc_gt1 _ (by rw [List.length_append, List.length_singleton]; omega) ?_⟩
        walk_at "pv"
        simpa [hk, Flt.most, Flt.isFresh] using h
      · simp only [hk, if_false]
        refine lc_gt1 L (by omega) ?_
        walk_at "pv"
        simpa [hk, Flt.most, Flt.isFresh] using h
    | fresh d =>
      simp only [Flt.enc]
      walk_at "pv"
      rw [hd]
      refine ⟨Flt.fresh d, rfl, trivial, ?_⟩
      dsimp only
      rw [sg]
      refine lc_gt1 [d + 1] (by show 1 ≤ 10; decide) ?_
      walk_at "pv"
      simp only [Flt.most, Flt.isFresh, Bool.true_and, if_true] at h
      exact h
    | limit n w =>
      simp only [Flt.enc]
      walk_at "pv"
      rw [hd]
      by_cases hk : (L.length : Int) < n
      · simp only [hk, if_true]
        refine ⟨Flt.limit n w, rfl, trivial, ?_⟩
        dsimp only
        rw [ap]
        refine ⟨by omega, lc_gt1 _ (by rw [List.length_append, List.length_singleton]; omega) ?_⟩
        walk_at "pv"
        simpa [hk, Flt.most, Flt.isFresh] using h
      · simp only [hk, if_false]
        refine lc_gt1 L (by omega) ?_
        walk_at "pv"
        simpa [hk, Flt.most, Flt.isFresh] using h
def encDr : Option Nat → Dat
  | none => .none
  | some i => .int i
theorem zip_pairs (p : List Flt) (st : List Prt) (h : p.length = st.length) : pairsFrom 0 (p.map Flt.enc) = (p.zip st).zipIdx.map fun q => PyData.tuple [.int q.2, q.1.1.enc] := by
  have e : p.map Flt.enc = (p.zip st).map fun q => q.1.enc := by
    rw [show (fun q : Flt × Prt => q.1.enc) = Flt.enc ∘ Prod.fst from rfl, ← List.map_map, List.map_fst_zip (by omega)]
  rw [e, pairs_map]
abbrev sp_step := Sfn (fun a : List Flt × List Prt × Int => [encP a.1, encS a.2.1, .int a.2.2]) (fun a => OkPS a.1 a.2.1 ∧ a.1.length ≤ 100)
  (fun a => .tuple [encS (stepM a.1 a.2.1 a.2.2).1, encDr (stepM a.1 a.2.1 a.2.2).2])
theorem ok_step {K : KK} {mg : Str → Option Value} {base : Heap} (T : Txt K mg base) : FnOk K.P K.w K.fr mg base CX0 3 T.a_step T.d_step ["pipeline", "state", "gap"] (spD K sp_step) := by
  refine ok_def T.F_step sc_step (fun ds R h => by first | exact sfn_len h (fun _ => rfl) | exact srel_len h (fun _ => rfl) | (obtain ⟨a, rfl, _⟩ := h; rfl)) (fun cdv A outer s H E hr => ⟨_, _,
(pss_cons (ps_set (i := 3) sc_step.nd rfl (Or.inl rfl) (pe_lst pa_nil))
 (pss_cons (ps_set (i := 4) sc_step.nd rfl (Or.inl rfl) pe_non)
 (pss_cons (ps_for PassesOwn.never rfl (pi_enumK (K := K) rfl (by rfl) T.n_enumerate (pa_cons (pv 0) pa_nil)) (pg_tupK (K := K) (n := 2) rfl rfl (pgs_cons (pg_name (i := 5) sc_step.nd rfl (Or.inl rfl)) (pgs_cons (pg_name (i := 6) sc_step.nd rfl (Or.inl rfl)) pgs_nil)))
 (pss_cons (ps_set (i := 7) sc_step.nd rfl (Or.inl rfl) (pe_cmp (pc_isN (pv 4))))
 (pss_cons (ps_if (pt_cmpR (op_eqK (K := K) rfl hr.units) (pe_ix (ix_seqK (K := K) rfl) (pv 6) pe_int (fun _ _ => rfl)) pe_str (nomark _))
 (pss_one (ps_asg (pe_call (ok_step_counting T) (hr.mono (by decide)) (by rfl) T.g_step_counting T.F_step_counting.kp T.b_step_counting .nil pass0 (pa_cons (pv 6) (pa_cons (pe_ix (ix_seqK (K := K) rfl) (pv 1) (pv 5) (fun _ _ => rfl)) (pa_cons (pv 7) pa_nil)))) (pg_tupK (K := K) (n := 2) rfl rfl (pgs_cons (pg_name (i := 8) sc_step.nd rfl (Or.inl rfl)) (pgs_cons (pg_name (i := 9) sc_step.nd rfl (Or.inl rfl)) pgs_nil)))))
 (pss_one (ps_asg (pe_call (ok_step_waiting T) (hr.mono (by decide)) (by rfl) T.g_step_waiting T.F_step_waiting.kp T.b_step_waiting .nil pass0 (pa_cons (pv 6) (pa_cons (pe_ix (ix_seqK (K := K) rfl) (pv 1) (pv 5) (fun _ _ => rfl)) (pa_cons (pv 2) (pa_cons (pv 7) pa_nil))))) (pg_tupK (K := K) (n := 2) rfl rfl (pgs_cons (pg_name (i := 8) sc_step.nd rfl (Or.inl rfl)) (pgs_cons (pg_name (i := 9) sc_step.nd rfl (Or.inl rfl)) pgs_nil))))))
 (pss_cons (ps_expr (pe_bm PySem.F.plainAttrs_list PySem.F.slot_list_append PySem.F.type_list_append mt_append (pv 3) (pa_cons (pv 8) pa_nil)))
 (pss_one (ps_if (pw_and (pt_val (pv 7)) (pw_and1 (pt_not (pt_val (pv 9))))).pt
 (pss_one (ps_set (i := 4) sc_step.nd rfl (Or.inl rfl) (pv 5)))
 pss_nil))))))
 (pss_one (ps_ret (pe_tup (pa_cons (pe_callTy (call_tupleK (K := K) rfl) (by rfl) T.n_tuple PyProof.Rows.boot_tuple (pa_cons (pv 3) pa_nil)) (pa_cons (pv 4) pa_nil)))))))), (by (try dsimp only [nox_K]); infer_instance), fun ds R h => ?_⟩)
  obtain ⟨⟨p, st, gap⟩, rfl, ⟨⟨hl, hk⟩, hp⟩, h⟩ := h
  dsimp only at hl hk hp h
  simp only [encP, encS]
  walk_at "pv"
  refine for_intro (p.zip st).zipIdx (fun q => .tuple [.int q.2, q.1.1.enc]) (fun Q h => ?_) (fun pre post env => ∃ acc dr g5 g6 g7 g8 g9,
    env = [.val (.tuple (p.map Flt.enc)), .val (.tuple (st.map Prt.enc)), .val (.int gap), .own (acc.map Prt.enc), .val (encDr dr), g5, g6, g7, g8, g9] ∧ acc.length = pre.length ∧
    (acc ++ (stepGo gap pre.length (post.map (·.1)) dr).1, (stepGo gap pre.length (post.map (·.1)) dr).2) = stepM p st gap) ?_ ?_ ?_
  · walk_at "pv"
    rw [zip_pairs p st hl]
    exact h
  · exact ⟨[], none, _, _, _, _, _, rfl, rfl, by unfold stepM; simp⟩
  · rintro pre ⟨⟨f, s⟩, i⟩ post env N hx ⟨acc, dr, g5, g6, g7, g8, g9, rfl, ha, hs⟩ hN
    obtain ⟨hi, hfs⟩ := zipIdx_at hx
    dsimp only at hi hfs
    subst hi
    have hkind := hk _ (List.mem_of_getElem? hfs)
    have hst : st[pre.length]? = some s := (List.getElem?_zip_eq_some.mp hfs).2
    have hlt : pre.length < 100 := by have := (List.getElem?_eq_some_iff.mp hst).1; omega
    have hat : atI (st.map Prt.enc) (pre.length : Int) = some s.enc := atI_nat (by rw [List.getElem?_map, hst]; rfl)
    have hal : (acc.map Prt.enc).length < 16777216 := by rw [List.length_map]; omega
    simp only [List.map_cons, stepGo] at hs
    have fin : ∀ (q : Prt) (kp : Bool) (h5 h6 h7 h8 h9 : Sl), stepPart f s gap dr.isNone = (q, kp) → N [.val (.tuple (p.map Flt.enc)), .val (.tuple (st.map Prt.enc)), .val (.int gap), .own (acc.map Prt.enc ++ [q.enc]), .val (encDr (if dr.isNone && !kp then some pre.length else dr)), h5, h6, h7, h8, h9] := by
      intro q kp h5 h6 h7 h8 h9 e
      rw [e] at hs
      refine hN _ ⟨acc ++ [q], _, h5, h6, h7, h8, h9, by rw [List.map_append]; rfl, by rw [List.length_append, List.length_append, ha]; rfl, ?_⟩
      rw [← hs, List.length_append, List.append_assoc]
      rfl
    cases s with
    | cnt c =>
      cases f with
      | every n k =>
        cases dr with
        | none =>
          have e := fin (.cnt ((c + 1) % max n 1)) (decide (c = k))
          simp only [encDr, Flt.enc]
          walk_at "pv"
          refine ⟨_, hat, (n, k, c, true), rfl, trivial, ?_⟩
          dsimp only
          walk_at "pv"
          refine ⟨hal, ?_⟩
          by_cases hc : c = k
          · simp only [hc, decide_true] at e ⊢
            walk_at "pv"
            exact e _ _ _ _ _ (by simp [stepPart])
          · simp only [hc, decide_false] at e ⊢
            walk_at "pv"
            exact e _ _ _ _ _ (by simp [stepPart, hc])
        | some j =>
          have e := fin (.cnt c) false
          simp only [encDr, Flt.enc]
          walk_at "pv"
          refine ⟨_, hat, (n, k, c, false), rfl, trivial, ?_⟩
          dsimp only
          walk_at "pv"
          refine ⟨hal, e _ _ _ _ _ rfl⟩
      | _ => exact hkind.elim
    | wts ws =>
      have hw : ∀ n k, f ≠ .every n k := fun n k z => by subst z; exact hkind
      have hws : ws.length ≤ 3 := by cases f <;> first | exact hkind | exact absurd rfl (hw _ _)
      have hsp : ∀ b, stepPart f (.wts ws) gap b = (.wts (stepW f ws gap b).1, (stepW f ws gap b).2) := fun b => by cases f <;> first | rfl | exact absurd rfl (hw _ _)
      cases dr with
      | none =>
        have e := fun h5 h6 h7 h8 h9 => fin _ _ h5 h6 h7 h8 h9 (hsp true)
        have go : ∀ x, (∃ ds : List Dat, x = PyData.tuple ds) → True := fun _ _ => trivial
        cases f with
        | every n k => exact absurd rfl (hw n k)
        | _ =>
          simp only [encDr, Flt.enc]
          walk_at "pv"
          refine ⟨_, hat, (_, ws, gap, true), rfl, ⟨hws, hw⟩, ?_⟩
          dsimp only
          walk_at "pv"
          refine ⟨hal, ?_⟩
          generalize stepW _ ws gap true = q at e ⊢
          obtain ⟨q1, q2⟩ := q
          cases q2
          · walk_at "pv"
            exact e _ _ _ _ _
          · walk_at "pv"
            exact e _ _ _ _ _
      | some j =>
        have e := fun h5 h6 h7 h8 h9 => fin _ _ h5 h6 h7 h8 h9 (hsp false)
        cases f with
        | every n k => exact absurd rfl (hw n k)
        | _ =>
          simp only [encDr, Flt.enc]
          walk_at "pv"
          refine ⟨_, hat, (_, ws, gap, false), rfl, ⟨hws, hw⟩, ?_⟩
          dsimp only
          walk_at "pv"
          exact ⟨hal, e _ _ _ _ _⟩
  · rintro env ⟨acc, dr, g5, g6, g7, g8, g9, rfl, ha, hs⟩
    simp only [List.map_nil, stepGo, List.append_nil] at hs
    walk_at "pv"
    rw [← hs] at h
    exact h
/-- the gaps of a log, the first one 1 -/
def encL (l : List Int) : Dat := .tuple (dInts l)
theorem atI_ints {l : List Int} {i : Nat} (h : i < l.length) : atI (dInts l) (i : Int) = some (.int (l.getD i 0)) := by
  refine atI_nat ?_
  unfold dInts
  rw [List.getElem?_map, List.getElem?_eq_getElem h, List.getD_eq_getElem?_getD, List.getElem?_eq_getElem h]
  rfl
abbrev sp_gap_before := Sfn (fun a : List Int × Nat => [encL a.1, .int a.2]) (fun a => a.2 < a.1.length) (fun a => .int (gapAt a.1 a.2))
theorem ok_gap_before {K : KK} {mg : Str → Option Value} {base : Heap} (T : Txt K mg base) : FnOk K.P K.w K.fr mg base CX0 1 T.a_gap_before T.d_gap_before ["log", "at"] (spD K sp_gap_before) := by
  refine ok_def T.F_gap_before sc_gap_before (fun ds R h => by first | exact sfn_len h (fun _ => rfl) | exact srel_len h (fun _ => rfl) | (obtain ⟨a, rfl, _⟩ := h; rfl)) (fun cdv A outer s H E hr => ⟨_, _,
(pss_one (ps_ret (pe_ifExp (pt_cmpR op_gt (pv 1) pe_int (nomark _)) (pe_op op_sub (pe_ix (ix_seqK (K := K) rfl) (pv 0) (pv 1) (fun _ _ => rfl)) (pe_ix (ix_seqK (K := K) rfl) (pv 0) (pe_op op_sub (pv 1) pe_int) (fun _ _ => rfl))) pe_int))), (by (try dsimp only [nox_K]); infer_instance), fun ds R h => ?_⟩)
  obtain ⟨⟨log, i⟩, rfl, hi, h⟩ := h
  dsimp only at hi h
  simp only [encL]
  walk_at "pv"
  unfold gapAt at h
  by_cases h0 : 0 < i
  · have e : ((i : Int) - 1) = ((i - 1 : Nat) : Int) := by omega
    have h0' : (0 : Int) < (i : Int) := by omega
    simp only [h0, h0', if_true] at h ⊢
    refine ⟨_, atI_ints hi, _, by rw [e]; exact atI_ints (by omega), ?_⟩
    walk_at "pv"
    exact h
  · have h0' : ¬ (0 : Int) < (i : Int) := by omega
    simp only [h0, h0', if_false] at h ⊢
    exact h
/-! the machine over a log -/
def encRow (r : List Prt × Option Nat) : Dat := .tuple [encS r.1, encDr r.2]
abbrev sp_trace := Sfn (fun a : List Flt × List Int => [encP a.1, encL a.2]) (fun a => OkP a.1 ∧ a.2.length ≤ 1000) (fun a => .list ((traceM a.1 a.2).map encRow))
theorem ok_trace {K : KK} {mg : Str → Option Value} {base : Heap} (T : Txt K mg base) : FnOk K.P K.w K.fr mg base CX0 4 T.a_trace T.d_trace ["pipeline", "log"] (spD K sp_trace) := by
  refine ok_def T.F_trace sc_trace (fun ds R h => by first | exact sfn_len h (fun _ => rfl) | exact srel_len h (fun _ => rfl) | (obtain ⟨a, rfl, _⟩ := h; rfl)) (fun cdv A outer s H E hr => ⟨_, _,
(pss_cons (ps_set (i := 2) sc_trace.nd rfl (Or.inl rfl) (pe_call (ok_start T) (hr.mono (by decide)) (by rfl) T.g_start T.F_start.kp T.b_start .nil pass0 (pa_cons (pv 0) pa_nil)))
 (pss_cons (ps_set (i := 3) sc_trace.nd rfl (Or.inl rfl) (pe_lst pa_nil))
 (pss_cons (ps_for PassesOwn.never rfl (pi_range1 (by rfl) T.n_range (pa_cons (pe_callB (call_lenK (K := K) rfl) (by rfl) T.n_len PySem.boot_len (pa_cons (pv 1) pa_nil)) pa_nil)) (pg_name (i := 4) sc_trace.nd rfl (Or.inl rfl))
 (pss_cons (ps_asg (pe_call (ok_step T) (hr.mono (by decide)) (by rfl) T.g_step T.F_step.kp T.b_step .nil pass0 (pa_cons (pv 0) (pa_cons (pv 2) (pa_cons (pe_call (ok_gap_before T) (hr.mono (by decide)) (by rfl) T.g_gap_before T.F_gap_before.kp T.b_gap_before .nil pass0 (pa_cons (pv 1) (pa_cons (pv 4) pa_nil))) pa_nil)))) (pg_tupK (K := K) (n := 2) rfl rfl (pgs_cons (pg_name (i := 2) sc_trace.nd rfl (Or.inl rfl)) (pgs_cons (pg_name (i := 5) sc_trace.nd rfl (Or.inl rfl)) pgs_nil))))
 (pss_one (ps_expr (pe_bm PySem.F.plainAttrs_list PySem.F.slot_list_append PySem.F.type_list_append mt_append (pv 3) (pa_cons (pe_tup (pa_cons (pv 2) (pa_cons (pv 5) pa_nil))) pa_nil))))))
 (pss_one (ps_ret (pv 3)))))), (by (try dsimp only [nox_K]); infer_instance), fun ds R h => ?_⟩)
  obtain ⟨⟨p, log⟩, rfl, ⟨hp, hl⟩, h⟩ := h
  dsimp only at hp hl h
  simp only [encL]
  walk_at "pv"
  refine ⟨p, rfl, by have := hp.few; omega, ?_⟩
  have hd : (dInts log).length = log.length := by simp [dInts]
  refine for_intro (List.range log.length) (fun (i : Nat) => PyData.int (0 + i)) (fun Q h => ?_) (fun pre post env => ∃ acc st g4 g5,
    env = [encP p, encL log].map Sl.val ++ [.val (encS st), .own (acc.map encRow), g4, g5] ∧ acc.length = pre.length ∧ OkPS p st ∧
    acc ++ traceGo p log pre.length post.length st = traceM p log) ?_ ?_ ?_
  · walk_at "pv"
    rw [hd]
    refine ⟨by omega, by omega, ?_⟩
    rw [Int.toNat_natCast]
    exact h
  · exact ⟨[], p.map Flt.st0, _, _, rfl, rfl, st0_ok hp.ok, by unfold traceM; simp⟩
  · rintro pre i post env N hx ⟨acc, st, g4, g5, rfl, ha, hk, hs⟩ hN
    have hi := range_at hx
    obtain ⟨rfl, hi⟩ := hi
    walk_at "pv"
    rw [Int.zero_add]
    refine ⟨(log, pre.length), rfl, hi, (p, st, gapAt log pre.length), rfl, ⟨hk, hp.few⟩, ?_⟩
    walk_at "pv"
    refine ⟨by rw [List.length_map]; omega, hN _ ⟨acc ++ [stepM p st (gapAt log pre.length)], (stepM p st (gapAt log pre.length)).1, .val (.int pre.length), .val (encDr (stepM p st (gapAt log pre.length)).2), ?_, ?_, stepM_ok _ hp.ok hk, ?_⟩⟩
    · rw [List.map_append]; rfl
    · rw [List.length_append, List.length_append, ha]; rfl
    · rw [← hs, List.length_append, List.append_assoc, List.length_cons]
      rfl
  · rintro env ⟨acc, st, g4, g5, rfl, ha, hk, hs⟩
    walk_at "pv"
    simp only [List.length_nil, traceGo, List.append_nil] at hs
    rw [hs]
    exact h
abbrev sp_decisions := Sfn (fun a : List Flt × List Int => [encP a.1, encL a.2]) (fun a => OkP a.1 ∧ a.2.length ≤ 1000) (fun a => .list ((decM a.1 a.2).map encDr))
theorem ok_decisions {K : KK} {mg : Str → Option Value} {base : Heap} (T : Txt K mg base) : FnOk K.P K.w K.fr mg base CX0 5 T.a_decisions T.d_decisions ["pipeline", "log"] (spD K sp_decisions) := by
  refine ok_def T.F_decisions sc_decisions (fun ds R h => by first | exact sfn_len h (fun _ => rfl) | exact srel_len h (fun _ => rfl) | (obtain ⟨a, rfl, _⟩ := h; rfl)) (fun cdv A outer s H E hr => ⟨_, _,
(pss_one (ps_ret (pe_lc (own := [("row", 2)]) rfl sc_decisions.nd (pi_seqK (K := K) rfl (pe_call (ok_trace T) (hr.mono (by decide)) (by rfl) T.g_trace T.F_trace.kp T.b_trace .nil pass0 (pa_cons (pv 0) (pa_cons (pv 1) pa_nil)))) (blkOk_by (N := ["pipeline", "log", "row"]) (sc := defScope s_decisions) (by decide +kernel)) (fun _ _ _ _ _ => (pg_name (i := 2) sc_decisions.nd rfl (Or.inl rfl))) (fun _ _ _ _ _ => pts_nil) (fun _ _ _ _ _ => (pe_ix (ix_seqK (K := K) rfl) (pv 2) pe_int (fun _ _ => rfl)))))), (by (try dsimp only [nox_K]); infer_instance), fun ds R h => ?_⟩)
  obtain ⟨⟨p, log⟩, rfl, ⟨hp, hl⟩, h⟩ := h
  dsimp only at hp hl h
  walk_at "pv"
  refine lc_intro (traceM p log) encRow (fun r => some (encDr r.2)) (fun Q h => ?_) (by rw [traceM_len, sizeLine_eq]; omega) (fun r N _ hN => ?_) ?_
  · walk_at "pv"
    exact ⟨(p, log), rfl, ⟨hp, hl⟩, _, rfl, h⟩
  · simp only [encRow]
    walk_at "pv"
    exact hN
  · rw [fm_some]
    walk_at "pv"
    unfold decM at h
    rw [List.map_map] at h
    exact h
abbrev sp_keep := Sfn (fun a : List Flt × List Int => [encP a.1, encL a.2]) (fun a => OkP a.1 ∧ a.2.length ≤ 1000) (fun a => encL (keepM a.1 a.2))
theorem ok_keep {K : KK} {mg : Str → Option Value} {base : Heap} (T : Txt K mg base) : FnOk K.P K.w K.fr mg base CX0 6 T.a_keep T.d_keep ["pipeline", "log"] (spD K sp_keep) := by
  refine ok_def T.F_keep sc_keep (fun ds R h => by first | exact sfn_len h (fun _ => rfl) | exact srel_len h (fun _ => rfl) | (obtain ⟨a, rfl, _⟩ := h; rfl)) (fun cdv A outer s H E hr => ⟨_, _,
(pss_one (ps_ret (pe_callTy (call_tupleK (K := K) rfl) (by rfl) T.n_tuple PyProof.Rows.boot_tuple (pa_cons (pe_lc (own := [("time", 2), ("dropper", 3)]) rfl sc_keep.nd (pi_zipK (K := K) rfl (by rfl) T.n_zip (pa_cons (pv 1) (pa_cons (pe_call (ok_decisions T) (hr.mono (by decide)) (by rfl) T.g_decisions T.F_decisions.kp T.b_decisions .nil pass0 (pa_cons (pv 0) (pa_cons (pv 1) pa_nil))) pa_nil))) (blkOk_by (N := ["pipeline", "log", "time", "dropper"]) (sc := defScope s_keep) (by decide +kernel)) (fun _ _ _ _ _ => (pg_tupK (K := K) (n := 2) rfl rfl (pgs_cons (pg_name (i := 2) sc_keep.nd rfl (Or.inl rfl)) (pgs_cons (pg_name (i := 3) sc_keep.nd rfl (Or.inl rfl)) pgs_nil)))) (fun _ _ _ _ _ => (pts_one (pt_cmp (pc_isN (pv 3))))) (fun _ _ _ _ _ => (pv 2))) pa_nil)))), (by (try dsimp only [nox_K]); infer_instance), fun ds R h => ?_⟩)
  obtain ⟨⟨p, log⟩, rfl, ⟨hp, hl⟩, h⟩ := h
  dsimp only at hp hl h
  walk_at "pv"
  refine lc_intro (log.zip (decM p log)) (fun q => .tuple [.int q.1, encDr q.2]) (fun q => if q.2.isNone = true then some (.int q.1) else none) (fun Q h => ?_) (by rw [List.length_zip, sizeLine_eq]; omega) (fun q N _ hN => ?_) ?_
  · walk_at "pv"
    refine ⟨(p, log), rfl, ⟨hp, hl⟩, ?_⟩
    simp only [encL]
    walk_at "pv"
    unfold dInts
    rw [zipD_map]
    exact h
  · obtain ⟨t, d⟩ := q
    cases d <;> simp only [encDr] <;> walk_at "pv" <;> simpa using hN
  · rw [fm_if (p := fun q : Int × Option Nat => q.2.isNone)]
    walk_at "pv"
    unfold keepM encL dInts at h
    rw [List.map_map] at h
    exact h
/-! ### what the law draws -/
def encI (xs : List Int) : Dat := .list (dInts xs)
abbrev sp_law_cell := Sfn (fun a : List Int × Nat => [encI a.1, .int a.2]) (fun a => a.1.length ≤ 1000 ∧ a.2 ≤ 1000) (fun a => .int (cellM a.1 a.2))
theorem ok_law_cell {K : KK} {mg : Str → Option Value} {base : Heap} (T : Txt K mg base) : FnOk K.P K.w K.fr mg base CX0 1 T.a_law_cell T.d_law_cell ["script", "index"] (spD K sp_law_cell) := by
  refine ok_def T.F_law_cell sc_law_cell (fun ds R h => by first | exact sfn_len h (fun _ => rfl) | exact srel_len h (fun _ => rfl) | (obtain ⟨a, rfl, _⟩ := h; rfl)) (fun cdv A outer s H E hr => ⟨_, _,
(pss_cons (ps_if (pt_cmpR op_lt (pv 1) (pe_callB (call_lenK (K := K) rfl) (by rfl) T.n_len PySem.boot_len (pa_cons (pv 0) pa_nil)) (nomark _))
 (pss_one (ps_ret (pe_ix (ix_seqK (K := K) rfl) (pv 0) (pv 1) (fun _ _ => rfl))))
 pss_nil)
 (pss_cons (ps_if (pt_cmpR (op_eqK (K := K) rfl hr.units) (pe_callB (call_lenK (K := K) rfl) (by rfl) T.n_len PySem.boot_len (pa_cons (pv 0) pa_nil)) pe_int (nomark _))
 (pss_one (ps_ret (pe_op (op_addK (K := K) rfl) (pe_op op_mul pe_int (pv 1)) pe_int)))
 pss_nil)
 (pss_one (ps_ret (pe_op (op_addK (K := K) rfl) (pe_op op_mod (pe_ix (ix_seqK (K := K) rfl) (pv 0) (pe_op op_mod (pv 1) (pe_callB (call_lenK (K := K) rfl) (by rfl) T.n_len PySem.boot_len (pa_cons (pv 0) pa_nil))) (fun _ _ => rfl)) pe_int) (pe_op op_mul pe_int (pv 1))))))), (by (try dsimp only [nox_K]); infer_instance), fun ds R h => ?_⟩)
  obtain ⟨⟨xs, i⟩, rfl, ⟨hl, hi⟩, h⟩ := h
  dsimp only at hl hi h
  simp only [encI]
  have hd : (dInts xs).length = xs.length := by simp [dInts]
  walk_at "pv"
  rw [hd]
  unfold cellM at h
  by_cases h1 : i < xs.length
  · have h1' : (i : Int) < (xs.length : Int) := by omega
    simp only [h1, h1', if_true] at h ⊢
    exact ⟨_, atI_ints h1, h⟩
  · have h1' : ¬ (i : Int) < (xs.length : Int) := by omega
    simp only [h1, h1', if_false] at h ⊢
    by_cases h2 : xs.length = 0
    · have h2' : (xs.length : Int) = 0 := by omega
      simp only [h2, if_true, Int.ofNat_zero, Int.natCast_zero] at h ⊢
      exact ⟨.inl (by omega), h⟩
    · have h2' : ¬ (xs.length : Int) = 0 := by omega
      simp only [h2, h2', if_false] at h ⊢
      have e : (i : Int) % (xs.length : Int) = ((i % xs.length : Nat) : Int) := by omega
      refine ⟨by omega, _, by rw [e]; exact atI_ints (Nat.mod_lt _ (by omega)), ?_⟩
      walk_at "pv"
      exact ⟨by omega, .inl (by omega), h⟩
def primesL : List Int := [2147483647, 2147483629, 2147483587, 2147483579, 2147483563, 2147483549, 2147483543, 2147483497]
theorem primes_at {j : Int} (h : ∃ m : Int, j = m % 8) : ∃ p : Int, atI (dInts primesL) j = some (.int p) ∧ 0 < p ∧ p < 2147483648 := by
  obtain ⟨m, rfl⟩ := h
  have h0 : 0 ≤ m % 8 := Int.emod_nonneg _ (by omega)
  have h1 : m % 8 < 8 := Int.emod_lt_of_pos _ (by omega)
  have e : m % 8 = (((m % 8).toNat : Nat) : Int) := by omega
  have hn : (m % 8).toNat < 8 := by omega
  rw [e]
  generalize (m % 8).toNat = n at hn
  refine ⟨primesL.getD n 0, atI_ints (by show n < 8; exact hn), ?_⟩
  match n, hn with
  | 0, _ => decide
  | 1, _ => decide
  | 2, _ => decide
  | 3, _ => decide
  | 4, _ => decide
  | 5, _ => decide
  | 6, _ => decide
  | 7, _ => decide
abbrev sp_law_digits := Srel (fun a : List Int × Nat × Nat × Int => [encI a.1, .int a.2.1, .int a.2.2.1, .int a.2.2.2]) (fun a => a.1.length ≤ 1000 ∧ a.2.1 ≤ 1000 ∧ a.2.2.1 ≤ 1000 ∧ 0 < a.2.2.2 ∧ a.2.2.2 < 1000000)
  (fun a xs => Digs xs a.2.2.1 a.2.2.2) encI
theorem ok_law_digits {K : KK} {mg : Str → Option Value} {base : Heap} (T : Txt K mg base) : FnOk K.P K.w K.fr mg base CX0 2 T.a_law_digits T.d_law_digits ["script", "index", "count", "base"] (spD K sp_law_digits) := by
  refine ok_def T.F_law_digits sc_law_digits (fun ds R h => by first | exact sfn_len h (fun _ => rfl) | exact srel_len h (fun _ => rfl) | (obtain ⟨a, rfl, _⟩ := h; rfl)) (fun cdv A outer s H E hr => ⟨_, _,
(pss_cons (ps_set (i := 4) sc_law_digits.nd rfl (Or.inl rfl) (pe_tup (pa_cons pe_int (pa_cons pe_int (pa_cons pe_int (pa_cons pe_int (pa_cons pe_int (pa_cons pe_int (pa_cons pe_int (pa_cons pe_int pa_nil))))))))))
 (pss_cons (ps_set (i := 5) sc_law_digits.nd rfl (Or.inl rfl) (pe_call (ok_law_cell T) (hr.mono (by decide)) (by rfl) T.g_law_cell T.F_law_cell.kp T.b_law_cell .nil pass0 (pa_cons (pv 0) (pa_cons (pv 1) pa_nil))))
 (pss_cons (ps_set (i := 6) sc_law_digits.nd rfl (Or.inl rfl) (pe_ifExp (pt_cmpR op_ge (pv 5) (pe_op op_pow pe_int pe_int) (nomark _)) (pv 5) pe_int))
 (pss_cons (ps_set (i := 7) sc_law_digits.nd rfl (Or.inl rfl) (pe_lst pa_nil))
 (pss_cons (ps_for PassesOwn.never rfl (pi_range1 (by rfl) T.n_range (pa_cons (pv 2) pa_nil)) (pg_name (i := 8) sc_law_digits.nd rfl (Or.inl rfl))
 (pss_cons (ps_set (i := 9) sc_law_digits.nd rfl (Or.inl rfl) (pe_op op_mul (pe_op op_mod (pv 5) (pe_ix (ix_seqK (K := K) rfl) (pv 4) (pe_op op_mod (pv 8) pe_int) (fun _ _ => rfl))) (pe_op (op_addK (K := K) rfl) pe_int (pe_op op_mul (pe_op op_mul pe_int (pv 8)) (pv 8)))))
 (pss_cons (ps_set (i := 9) sc_law_digits.nd rfl (Or.inl rfl) (pe_op (op_addK (K := K) rfl) (pe_op (op_addK (K := K) rfl) (pv 9) (pe_op op_mul (pe_op op_mul pe_int (pe_op (op_addK (K := K) rfl) (pv 8) pe_int)) (pe_op (op_addK (K := K) rfl) (pv 8) pe_int))) (pe_op op_mul pe_int (pv 1))))
 (pss_cons (ps_set (i := 9) sc_law_digits.nd rfl (Or.inl rfl) (pe_op op_mod (pv 9) (pe_ix (ix_seqK (K := K) rfl) (pv 4) (pe_op op_mod (pe_op (op_addK (K := K) rfl) (pe_op op_mul pe_int (pv 8)) (pv 1)) pe_int) (fun _ _ => rfl))))
 (pss_cons (ps_set (i := 9) sc_law_digits.nd rfl (Or.inl rfl) (pe_op op_mod (pe_op op_mul (pe_op op_mul (pv 9) (pv 9)) (pv 9)) (pe_ix (ix_seqK (K := K) rfl) (pv 4) (pe_op op_mod (pe_op (op_addK (K := K) rfl) (pv 8) pe_int) pe_int) (fun _ _ => rfl))))
 (pss_cons (ps_if (pt_cmpR op_gt (pv 6) pe_int (nomark _))
 (pss_one (ps_set (i := 9) sc_law_digits.nd rfl (Or.inl rfl) (pv 6)))
 pss_nil)
 (pss_cons (ps_expr (pe_bm PySem.F.plainAttrs_list PySem.F.slot_list_append PySem.F.type_list_append mt_append (pv 7) (pa_cons (pe_op op_mod (pv 9) (pv 3)) pa_nil)))
 (pss_one (ps_set (i := 6) sc_law_digits.nd rfl (Or.inl rfl) (pe_op op_fdiv (pv 6) (pv 3)))))))))))
 (pss_one (ps_ret (pv 7)))))))), (by (try dsimp only [nox_K]); infer_instance), fun ds R h => ?_⟩)
  obtain ⟨⟨xs, ix, n, b⟩, rfl, ⟨hl, hi, hn, hb, hb2⟩, h⟩ := h
  dsimp only at hl hi hn hb hb2 h
  walk_at "pv"
  refine ⟨(xs, ix), rfl, ⟨hl, hi⟩, ?_⟩
  dsimp only
  generalize cellM xs ix = cell
  refine ⟨⟨by decide, by decide, by decide⟩, cell, rfl, ?_⟩
  split
  all_goals
    refine for_intro (List.range n) (fun (i : Nat) => PyData.int (0 + i)) (fun Q h => ?_) (fun pre post env => ∃ (acc : List Int) (rest : Int) (g8 g9 : Sl),
      env = [.val (encI xs), .val (.int ix), .val (.int n), .val (.int b), .val (.tuple (dInts primesL)), .val (.int cell), .val (.int rest), .own (dInts acc), g8, g9] ∧ Digs acc pre.length b) ⟨[], _, _, _, rfl, ⟨rfl, by simp, by simp⟩⟩ ?_ ?_
    · walk_at "pv"
      exact ⟨by omega, by omega, h⟩
    · rintro pre k post env N hx ⟨acc, rest, g8, g9, rfl, hd⟩ hN
      obtain ⟨rfl, hk⟩ := range_at hx
      have hk2 : pre.length < 1000 := by omega
      obtain ⟨p1, e1, h1, h1'⟩ := primes_at (j := (0 + (pre.length : Int)) % 8) ⟨_, rfl⟩
      obtain ⟨p2, e2, h2, h2'⟩ := primes_at (j := (3 * (0 + (pre.length : Int)) + ix) % 8) ⟨_, rfl⟩
      obtain ⟨p3, e3, h3, h3'⟩ := primes_at (j := (0 + (pre.length : Int) + 5) % 8) ⟨_, rfl⟩
      have hdl : (dInts acc).length = acc.length := by simp [dInts]
      walk_at "pv"
      simp only [e1, e2, e3, hdl]
      walk_at "pv"
      have c1 : 0 ≤ cell % p1 := Int.emod_nonneg _ (by omega)
      have c2 : cell % p1 < p1 := Int.emod_lt_of_pos _ h1
      generalize cell % p1 = c at c1 c2
      generalize hm : (c * (48271 + 2 * (0 + (pre.length : Int)) * (0 + (pre.length : Int))) + 7919 * (0 + (pre.length : Int) + 1) * (0 + (pre.length : Int) + 1) + 104729 * (ix : Int)) % p2 = m
      have m1 : 0 ≤ m := by rw [← hm]; exact Int.emod_nonneg _ (by omega)
      have m2 : m < p2 := by rw [← hm]; exact Int.emod_lt_of_pos _ h2
      have fin : ∀ (v : Int) (r : Int) (g8 g9 : Sl), N [.val (encI xs), .val (.int ix), .val (.int n), .val (.int b), .val (.tuple (dInts primesL)), .val (.int cell), .val (.int r), .own (dInts acc ++ [PyData.int (v % b)]), g8, g9] := fun v r g8 g9 =>
        hN _ ⟨acc ++ [v % b], r, g8, g9, by simp [dInts], by rw [List.length_append, List.length_append, hd.len]; rfl,
          fun x hx => by
            rcases List.mem_append.mp hx with hx | hx
            · exact hd.pos x hx
            · rw [List.mem_singleton.mp hx]; exact Int.emod_nonneg _ (by omega),
          fun x hx => by
            rcases List.mem_append.mp hx with hx | hx
            · exact hd.lt x hx
            · rw [List.mem_singleton.mp hx]; exact Int.emod_lt_of_pos _ hb⟩
      have al : acc.length < 16777216 := by have := hd.len; omega
      have k0 : 0 + (pre.length : Int) = (pre.length : Int) := by omega
      refine ⟨by decide, h1, .inl (by omega), .inr (by omega), .inl (by omega), .inl (by omega), .inr (by omega), .inl (by omega), .inl (by omega), by decide, h2, .inl (by omega), .inr (by omega), by decide, h3, ?_⟩
      split
      · exact ⟨hb, al, ⟨hb, by omega⟩, fin _ _ _ _⟩
      · exact ⟨hb, al, ⟨hb, by omega⟩, fin _ _ _ _⟩
    · rintro env ⟨acc, rest, g8, g9, rfl, hd⟩
      walk_at "pv"
      rw [List.length_range] at hd
      exact h acc hd
/-! filters that are drawn: within the document's bounds -/
abbrev sp_law_weight := Sfn (fun f : Flt => [f.enc]) (fun f => f.ok) (fun f => .int f.weight)
theorem ok_law_weight {K : KK} {mg : Str → Option Value} {base : Heap} (T : Txt K mg base) : FnOk K.P K.w K.fr mg base CX0 1 T.a_law_weight T.d_law_weight ["one"] (spD K sp_law_weight) := by
  refine ok_def T.F_law_weight sc_law_weight (fun ds R h => by first | exact sfn_len h (fun _ => rfl) | exact srel_len h (fun _ => rfl) | (obtain ⟨a, rfl, _⟩ := h; rfl)) (fun cdv A outer s H E hr => ⟨_, _,
(pss_cons (ps_if (pt_cmpR (op_eqK (K := K) rfl hr.units) (pe_ix (ix_seqK (K := K) rfl) (pv 0) pe_int (fun _ _ => rfl)) pe_str (nomark _))
 (pss_one (ps_ret (pe_op op_mul (pe_ix (ix_seqK (K := K) rfl) (pv 0) pe_int (fun _ _ => rfl)) (pe_ix (ix_seqK (K := K) rfl) (pv 0) pe_int (fun _ _ => rfl)))))
 pss_nil)
 (pss_one (ps_ret (pe_ifExp (pt_cmpR (op_eqK (K := K) rfl hr.units) (pe_ix (ix_seqK (K := K) rfl) (pv 0) pe_int (fun _ _ => rfl)) pe_str (nomark _)) (pe_op (op_addK (K := K) rfl) (pe_ix (ix_seqK (K := K) rfl) (pv 0) pe_int (fun _ _ => rfl)) pe_int) (pe_ix (ix_seqK (K := K) rfl) (pv 0) pe_int (fun _ _ => rfl)))))), (by (try dsimp only [nox_K]); infer_instance), fun ds R h => ?_⟩)
  obtain ⟨f, rfl, hf, h⟩ := h
  cases f <;> simp only [Flt.enc] <;> walk_at "pv"
  · exact h
  · exact h
  · exact h
  · exact ⟨.inl (by have := hf.1; have := hf.2.1; omega), h⟩
theorem atI0 (x : Int) (r : List Int) : atI (dInts (x :: r)) 0 = some (.int x) := atI_nat (j := 0) rfl
theorem atI1 (x y : Int) (r : List Int) : atI (dInts (x :: y :: r)) 1 = some (.int y) := atI_nat (j := 1) rfl
theorem atI2 (x y z : Int) (r : List Int) : atI (dInts (x :: y :: z :: r)) 2 = some (.int z) := atI_nat (j := 2) rfl
abbrev sp_law_filter := Srel (fun xs : List Int => [encI xs]) (fun xs => 3 ≤ xs.length) (fun _ f => Flt.valid f) Flt.enc
theorem ok_law_filter {K : KK} {mg : Str → Option Value} {base : Heap} (T : Txt K mg base) : FnOk K.P K.w K.fr mg base CX0 1 T.a_law_filter T.d_law_filter ["digits"] (spD K sp_law_filter) := by
  refine ok_def T.F_law_filter sc_law_filter (fun ds R h => by first | exact sfn_len h (fun _ => rfl) | exact srel_len h (fun _ => rfl) | (obtain ⟨a, rfl, _⟩ := h; rfl)) (fun cdv A outer s H E hr => ⟨_, _,
(pss_cons (ps_if (pt_cmpR (op_eqK (K := K) rfl hr.units) (pe_op op_mod (pe_ix (ix_seqK (K := K) rfl) (pv 0) pe_int (fun _ _ => rfl)) pe_int) pe_int (nomark _))
 (pss_one (ps_ret (pe_tup (pa_cons pe_str (pa_cons (pe_op (op_addK (K := K) rfl) pe_int (pe_op op_mod (pe_ix (ix_seqK (K := K) rfl) (pv 0) pe_int (fun _ _ => rfl)) pe_int)) pa_nil)))))
 pss_nil)
 (pss_cons (ps_if (pt_cmpR (op_eqK (K := K) rfl hr.units) (pe_op op_mod (pe_ix (ix_seqK (K := K) rfl) (pv 0) pe_int (fun _ _ => rfl)) pe_int) pe_int (nomark _))
 (pss_one (ps_ret (pe_tup (pa_cons pe_str (pa_cons (pe_op (op_addK (K := K) rfl) pe_int (pe_op op_mod (pe_ix (ix_seqK (K := K) rfl) (pv 0) pe_int (fun _ _ => rfl)) pe_int)) pa_nil)))))
 pss_nil)
 (pss_cons (ps_if (pt_cmpR (op_eqK (K := K) rfl hr.units) (pe_op op_mod (pe_ix (ix_seqK (K := K) rfl) (pv 0) pe_int (fun _ _ => rfl)) pe_int) pe_int (nomark _))
 (pss_cons (ps_set (i := 1) sc_law_filter.nd rfl (Or.inl rfl) (pe_op (op_addK (K := K) rfl) pe_int (pe_op op_mod (pe_ix (ix_seqK (K := K) rfl) (pv 0) pe_int (fun _ _ => rfl)) pe_int)))
 (pss_one (ps_ret (pe_tup (pa_cons pe_str (pa_cons (pv 1) (pa_cons (pe_op op_mod (pe_ix (ix_seqK (K := K) rfl) (pv 0) pe_int (fun _ _ => rfl)) (pv 1)) pa_nil)))))))
 pss_nil)
 (pss_one (ps_ret (pe_tup (pa_cons pe_str (pa_cons (pe_op (op_addK (K := K) rfl) pe_int (pe_op op_mod (pe_ix (ix_seqK (K := K) rfl) (pv 0) pe_int (fun _ _ => rfl)) pe_int)) (pa_cons (pe_op (op_addK (K := K) rfl) pe_int (pe_op op_mod (pe_ix (ix_seqK (K := K) rfl) (pv 0) pe_int (fun _ _ => rfl)) pe_int)) pa_nil))))))))), (by (try dsimp only [nox_K]); infer_instance), fun ds R h => ?_⟩)
  obtain ⟨xs, rfl, hl, h⟩ := h
  match xs, hl with
  | x :: y :: z :: r, _ =>
    simp only [encI]
    walk_at "pv"
    simp only [atI0, atI1, atI2]
    walk_at "pv"
    refine ⟨by decide, ?_⟩
    split
    · exact ⟨by decide, h (.spaced (1 + y % 8)) ⟨by omega, by omega⟩⟩
    · refine ⟨by decide, ?_⟩
      split
      · exact ⟨by decide, h (.fresh (1 + y % 8)) ⟨by omega, by omega⟩⟩
      · refine ⟨by decide, ?_⟩
        split
        · have p : 0 < 2 + y % 3 := by omega
          exact ⟨by decide, p, h (.every (2 + y % 3) (z % (2 + y % 3))) ⟨by omega, by omega, Int.emod_nonneg _ (by omega), Int.emod_lt_of_pos _ p⟩⟩
        · exact ⟨by decide, by decide, h (.limit (1 + y % 3) (1 + z % 6)) ⟨by omega, by omega, by omega, by omega⟩⟩
def cutL {α : Type} (xs : List α) (lo hi : Option Int) : List α := (xs.drop (HT.sIx xs.length 0 lo)).take (HT.sIx xs.length xs.length hi - HT.sIx xs.length 0 lo)
theorem cutL_from {α : Type} (xs : List α) (k : Nat) : cutL xs (some (k : Int)) none = xs.drop k := by
  unfold cutL
  rw [HT.sIx_nat, HT.sIx_none]
  by_cases h : k ≤ xs.length
  · rw [Nat.min_eq_left h, List.take_of_length_le (by rw [List.length_drop]; omega)]
  · rw [Nat.min_eq_right (by omega), List.drop_eq_nil_of_le (Nat.le_refl _), List.drop_eq_nil_of_le (by omega)]
    simp
theorem cutL_mid {α : Type} (xs : List α) (a b : Nat) (h : a ≤ b) (h' : b ≤ xs.length) : cutL xs (some (a : Int)) (some (b : Int)) = (xs.drop a).take (b - a) := by
  unfold cutL
  rw [HT.sIx_nat, HT.sIx_nat, Nat.min_eq_left h', Nat.min_eq_left (by omega)]
theorem cutL_to {α : Type} (xs : List α) (b : Nat) (h' : b ≤ xs.length) : cutL xs none (some (b : Int)) = xs.take b := by
  unfold cutL
  rw [HT.sIx_none, HT.sIx_nat, Nat.min_eq_left h', List.drop_zero, Nat.sub_zero]
theorem cutD_map {α : Type} (e : α → Dat) (xs : List α) (lo hi : Option Int) : PV.cutD (xs.map e) lo hi = (cutL xs lo hi).map e := by
  unfold PV.cutD cutL
  rw [List.length_map, List.map_take, List.map_drop]
abbrev sp_law_pipeline := Srel (fun a : List Int × Nat × Int => [encI a.1, .int a.2.1, .int a.2.2]) (fun a => a.2.1 ≤ 10 ∧ 1 + 3 * a.2.1 ≤ a.1.length ∧ 1 ≤ a.2.2 ∧ a.2.2 ≤ 1000) (fun a p => Valid p a.2.1 a.2.2) encP
theorem ok_law_pipeline {K : KK} {mg : Str → Option Value} {base : Heap} (T : Txt K mg base) : FnOk K.P K.w K.fr mg base CX0 2 T.a_law_pipeline T.d_law_pipeline ["digits", "size", "top"] (spD K sp_law_pipeline) := by
  refine ok_def T.F_law_pipeline sc_law_pipeline (fun ds R h => by first | exact sfn_len h (fun _ => rfl) | exact srel_len h (fun _ => rfl) | (obtain ⟨a, rfl, _⟩ := h; rfl)) (fun cdv A outer s H E hr => ⟨_, _,
(pss_cons (ps_par (i := 3) (j := 4) rfl sc_law_pipeline.nd rfl rfl (by decide) rfl rfl (pa_cons (pe_tup pa_nil) (pa_cons (pv 2) pa_nil)) rfl)
 (pss_cons (ps_for PassesOwn.never rfl (pi_range1 (by rfl) T.n_range (pa_cons (pe_op op_mod (pe_ix (ix_seqK (K := K) rfl) (pv 0) pe_int (fun _ _ => rfl)) (pe_op (op_addK (K := K) rfl) (pv 1) pe_int)) pa_nil)) (pg_name (i := 5) sc_law_pipeline.nd rfl (Or.inl rfl))
 (pss_cons (ps_set (i := 6) sc_law_pipeline.nd rfl (Or.inl rfl) (pe_call (ok_law_filter T) (hr.mono (by decide)) (by rfl) T.g_law_filter T.F_law_filter.kp T.b_law_filter .nil pass0 (pa_cons (pe_slice (sl_anyK (K := K) rfl) (pv 0) (po_some (pe_op (op_addK (K := K) rfl) pe_int (pe_op op_mul pe_int (pv 5)))) (po_some (pe_op (op_addK (K := K) rfl) pe_int (pe_op op_mul pe_int (pv 5))))) pa_nil)))
 (pss_one (ps_if (pt_cmpR op_le (pe_call (ok_law_weight T) (hr.mono (by decide)) (by rfl) T.g_law_weight T.F_law_weight.kp T.b_law_weight .nil pass0 (pa_cons (pv 6) pa_nil)) (pv 4) (nomark _))
 (pss_cons (ps_set (i := 3) sc_law_pipeline.nd rfl (Or.inl rfl) (pe_op (op_addK (K := K) rfl) (pv 3) (pe_tup (pa_cons (pv 6) pa_nil))))
 (pss_one (ps_set (i := 4) sc_law_pipeline.nd rfl (Or.inl rfl) (pe_op op_fdiv (pv 4) (pe_call (ok_law_weight T) (hr.mono (by decide)) (by rfl) T.g_law_weight T.F_law_weight.kp T.b_law_weight .nil pass0 (pa_cons (pv 6) pa_nil))))))
 pss_nil))))
 (pss_one (ps_ret (pv 3))))), (by (try dsimp only [nox_K]); infer_instance), fun ds R h => ?_⟩)
  obtain ⟨⟨xs, size, top⟩, rfl, ⟨h10, hl, ht, ht2⟩, h⟩ := h
  dsimp only at h10 hl ht ht2 h
  obtain ⟨x, r, rfl⟩ := len1 (show 1 ≤ xs.length by omega)
  · simp only [encI]
    walk_at "pv"
    have hx0 : 0 ≤ x % ((size : Int) + 1) := Int.emod_nonneg _ (by omega)
    have hx1 : x % ((size : Int) + 1) < (size : Int) + 1 := Int.emod_lt_of_pos _ (by omega)
    refine for_intro (List.range (x % ((size : Int) + 1)).toNat) (fun (i : Nat) => PyData.int (0 + i)) (fun Q h => ?_) (fun pre post env => ∃ (p : List Flt) (wl : Int) (g5 g6 : Sl),
      env = [.val (.list (dInts (x :: r))), .val (.int size), .val (.int top), .val (encP p), .val (.int wl), g5, g6] ∧ p.length ≤ pre.length ∧ (∀ f ∈ p, f.valid) ∧ 1 ≤ wprod p ∧ wprod p ≤ top ∧ wl = top / wprod p) ?_ ?_ ?_
    · walk_at "pv"
      simp only [atI0]
      walk_at "pv"
      exact ⟨by omega, by omega, by omega, h⟩
    · exact ⟨[], top, _, _, rfl, Nat.zero_le _, by simp, by decide, by simpa [wprod] using ht, by simp [wprod]⟩
    · rintro pre i post env N hx ⟨p, wl, g5, g6, rfl, hp, hv, hw1, hw2, hwl⟩ hN
      obtain ⟨rfl, hi⟩ := range_at hx
      have hi2 : pre.length < size := by omega
      walk_at "pv"
      refine ⟨.inl (by omega), .inl (by omega), ?_⟩
      have k1 : (1 : Int) + 3 * (0 + (pre.length : Int)) = ((1 + 3 * pre.length : Nat) : Int) := by omega
      have k2 : (4 : Int) + 3 * (0 + (pre.length : Int)) = ((4 + 3 * pre.length : Nat) : Int) := by omega
      rw [k1, k2, dInts_map, cutD_map, cutL_mid _ _ _ (by omega) (by rw [List.length_cons] at hl ⊢; omega)]
      refine ⟨_, rfl, by dsimp only; rw [List.length_take, List.length_drop]; omega, fun f hf => ⟨f, rfl, hf.ok, ?_⟩⟩
      obtain ⟨fw1, fw2⟩ := Flt.weight_pos hf
      walk_at "pv"
      split
      · rename_i hle
        simp only [encP]
        walk_at "pv"
        rw [List.length_map]
        refine ⟨by omega, f, rfl, hf.ok, ?_⟩
        walk_at "pv"
        refine ⟨⟨by omega, by omega⟩, hN _ ⟨p ++ [f], wl / f.weight, _, _, by simp only [encP, List.map_append, List.map_cons, List.map_nil]; rfl, by rw [List.length_append, List.length_append]; simpa using hp, ?_, ?_, ?_, ?_⟩⟩
        · intro g hg
          rcases List.mem_append.mp hg with hg | hg
          · exact hv g hg
          · rw [List.mem_singleton.mp hg]; exact hf
        · rw [wprod_app]
          exact Int.mul_le_mul hw1 fw1 (by omega) (by omega)
        · rw [wprod_app]
          rw [hwl] at hle
          have := Int.mul_le_mul_of_nonneg_left hle (show 0 ≤ wprod p by omega)
          exact Int.le_trans this (Int.mul_ediv_self_le (by omega))
        · rw [wprod_app]
          exact ediv_step (by omega) (by omega) hwl
      · exact hN _ ⟨p, wl, _, _, rfl, by rw [List.length_append]; omega, hv, hw1, hw2, hwl⟩
    · rintro env ⟨p, wl, g5, g6, rfl, hp, hv, hw1, hw2, hwl⟩
      walk_at "pv"
      exact h p ⟨hv, by rw [List.length_range] at hp; omega, hw2, hw1⟩
theorem wide_at {j : Int} (h : ∃ m : Int, j = m % 4) : ∃ p : Int, atI [PyData.int 2, PyData.int 4, PyData.int 10, PyData.int 30] j = some (.int p) ∧ 1 ≤ p ∧ p ≤ 30 := by
  obtain ⟨m, rfl⟩ := h
  have e : m % 4 = 0 ∨ m % 4 = 1 ∨ m % 4 = 2 ∨ m % 4 = 3 := by omega
  rcases e with e | e | e | e <;> rw [e]
  · exact ⟨2, rfl, by decide, by decide⟩
  · exact ⟨4, rfl, by decide, by decide⟩
  · exact ⟨10, rfl, by decide, by decide⟩
  · exact ⟨30, rfl, by decide, by decide⟩
abbrev sp_law_log := Srel (fun a : List Int × Nat => [encI a.1, .int a.2]) (fun a => 3 + a.2 ≤ a.1.length ∧ 1 ≤ a.2 ∧ a.2 ≤ 500 ∧ ∀ x ∈ a.1, 0 ≤ x) (fun a l => l.Pairwise (· < ·) ∧ l ≠ [] ∧ l.length ≤ a.2 ∧ (∀ x ∈ l, 0 ≤ x) ∧ ∀ x ∈ l, x ≤ 100000) encL
theorem ok_law_log {K : KK} {mg : Str → Option Value} {base : Heap} (T : Txt K mg base) : FnOk K.P K.w K.fr mg base CX0 1 T.a_law_log T.d_law_log ["digits", "size"] (spD K sp_law_log) := by
  refine ok_def T.F_law_log sc_law_log (fun ds R h => by first | exact sfn_len h (fun _ => rfl) | exact srel_len h (fun _ => rfl) | (obtain ⟨a, rfl, _⟩ := h; rfl)) (fun cdv A outer s H E hr => ⟨_, _,
(pss_cons (ps_set (i := 2) sc_law_log.nd rfl (Or.inl rfl) (pe_ix (ix_seqK (K := K) rfl) (pe_lst (pa_cons pe_int (pa_cons pe_int (pa_cons pe_int (pa_cons pe_int pa_nil))))) (pe_op op_mod (pe_ix (ix_seqK (K := K) rfl) (pv 0) pe_int (fun _ _ => rfl)) pe_int) (fun _ _ => rfl)))
 (pss_cons (ps_set (i := 3) sc_law_log.nd rfl (Or.inl rfl) (pe_tup (pa_cons (pe_op op_mod (pe_ix (ix_seqK (K := K) rfl) (pv 0) pe_int (fun _ _ => rfl)) pe_int) pa_nil)))
 (pss_cons (ps_for PassesOwn.never rfl (pi_seqK (K := K) rfl (pe_slice (sl_anyK (K := K) rfl) (pv 0) (po_some pe_int) (po_some (pe_op (op_addK (K := K) rfl) pe_int (pe_op op_mod (pe_ix (ix_seqK (K := K) rfl) (pv 0) pe_int (fun _ _ => rfl)) (pv 1)))))) (pg_name (i := 4) sc_law_log.nd rfl (Or.inl rfl))
 (pss_one (ps_set (i := 3) sc_law_log.nd rfl (Or.inl rfl) (pe_op (op_addK (K := K) rfl) (pv 3) (pe_tup (pa_cons (pe_op (op_addK (K := K) rfl) (pe_op (op_addK (K := K) rfl) (pe_ix (ix_seqK (K := K) rfl) (pv 3) (pe_un un_neg pe_int) (fun _ _ => rfl)) pe_int) (pe_op op_mod (pv 4) (pv 2))) pa_nil))))))
 (pss_one (ps_ret (pv 3)))))), (by (try dsimp only [nox_K]); infer_instance), fun ds R h => ?_⟩)
  obtain ⟨⟨xs, size⟩, rfl, ⟨hl, h1, h5, hpos⟩, h⟩ := h
  dsimp only at hl h1 h5 hpos h
  obtain ⟨x, y, z, r, rfl⟩ := len3 (show 3 ≤ xs.length by omega)
  simp only [encI]
  walk_at "pv"
  simp only [atI0, atI1, atI2]
  walk_at "pv"
  obtain ⟨wd, ew, w1, w2⟩ := wide_at (j := x % 4) ⟨_, rfl⟩
  refine ⟨by decide, _, ew, by decide, ?_⟩
  have z0 : 0 ≤ z % (size : Int) := Int.emod_nonneg _ (by omega)
  have z1 : z % (size : Int) < (size : Int) := Int.emod_lt_of_pos _ (by omega)
  have ez : z % (size : Int) = (((z % (size : Int)).toNat : Nat) : Int) := by omega
  generalize (z % (size : Int)).toNat = q at ez
  have hq : q < size := by omega
  have y0 : 0 ≤ y := hpos y (by simp)
  refine for_intro ((List.drop 3 (x :: y :: z :: r)).take q) PyData.int (fun Q h => ?_) (fun pre post env => ∃ (init : List Int) (t : Int) (g4 : Sl),
    env = [.val (.list (dInts (x :: y :: z :: r))), .val (.int size), .val (.int wd), .val (encL (init ++ [t])), g4] ∧ init.length = pre.length ∧ (init ++ [t]).Pairwise (· < ·) ∧ (∀ u ∈ init ++ [t], 0 ≤ u ∧ u ≤ t) ∧ t ≤ 49 + 30 * (pre.length : Int)) ?_ ?_ ?_
  · walk_at "pv"
    simp only [atI2]
    walk_at "pv"
    refine ⟨by omega, ?_⟩
    have k2 : (3 : Int) + z % (size : Int) = ((3 + q : Nat) : Int) := by omega
    rw [k2, dInts_map, cutD_map, show (some (3 : Int)) = some ((3 : Nat) : Int) from rfl, cutL_mid _ _ _ (by omega) (by omega), Nat.add_sub_cancel_left]
    exact h
  · exact ⟨[], y % 50, _, rfl, rfl, by simp, by intro u hu; simp at hu; subst hu; constructor <;> omega, by simp; omega⟩
  · rintro pre g post env N hx ⟨init, t, g4, rfl, hi, hpw, hall, ht⟩ hN
    simp only [encL]
    walk_at "pv"
    have el : atI (dInts (init ++ [t])) (-1) = some (.int t) := by
      unfold dInts
      rw [List.map_append]
      exact atI_last _ _
    have g0 : 0 ≤ g % wd := Int.emod_nonneg _ (by omega)
    have g1 : g % wd < wd := Int.emod_lt_of_pos _ (by omega)
    have hpl : pre.length < size := by
      have : pre.length < ((List.drop 3 (x :: y :: z :: r)).take q).length := by rw [hx, List.length_append, List.length_cons]; omega
      rw [List.length_take] at this
      omega
    have hil : (dInts (init ++ [t])).length = init.length + 1 := by simp [dInts]
    refine ⟨_, el, ?_⟩
    walk_at "pv"
    rw [hil]
    refine ⟨by omega, by omega, hN _ ⟨init ++ [t], t + 1 + g % wd, .val (.int g), ?_, ?_, ?_, ?_, ?_⟩⟩
    · simp [encL, dInts]
    · rw [List.length_append, List.length_append, hi]; rfl
    · rw [List.pairwise_append]
      refine ⟨hpw, by simp, fun a ha b hb => ?_⟩
      rw [List.mem_singleton.mp hb]
      have := (hall a ha).2
      omega
    · intro u hu
      rcases List.mem_append.mp hu with hu | hu
      · have := hall u hu
        constructor <;> omega
      · rw [List.mem_singleton.mp hu]
        have := (hall t (by simp)).1
        constructor <;> omega
    · rw [List.length_append, List.length_singleton]
      omega
  · rintro env ⟨init, t, g4, rfl, hi, hpw, hall, ht⟩
    walk_at "pv"
    have hpl : init.length < size := by
      rw [hi, List.length_take]
      omega
    refine h _ ⟨hpw, by simp, by rw [List.length_append, List.length_singleton]; omega, fun u hu => (hall u hu).1, fun u hu => ?_⟩
    have := (hall u hu).2
    rw [← hi] at ht
    omega
theorem ok1 {f : Flt} (h : f.ok) : OkP [f] := ⟨fun g hg => by rw [List.mem_singleton.mp hg]; exact h, by show 1 ≤ 100; decide⟩
theorem ne_no {d e : Dat} {p q : Prop} {i : Decidable ((!PyData.eqv d e) = true)} (he : d = e) (hs : SeqAt.shaped e = true) (h : q) : SeqAt.shaped d = true ∧ SeqAt.shaped e = true ∧ @ite Prop _ i p q := by
  subst he
  refine ⟨hs, hs, ?_⟩
  rw [if_neg (by rw [eqv_self hs]; decide)]
  exact h
theorem shaped_dec (os : List (Option Nat)) : SeqAt.shaped (.list (os.map encDr)) = true := shaped_list fun d hd => by
  obtain ⟨o, _, rfl⟩ := List.mem_map.mp hd
  cases o with
  | none => exact lay_none
  | some i => exact lay_int i
theorem shaped_encL (l : List Int) : SeqAt.shaped (encL l) = true := (shaped_ints l).1
theorem mul_ints (l : List Int) (c : Int) : List.map (fun x : Int => PyData.int (x * c)) l = dInts (l.map (· * c)) := by unfold dInts; rw [List.map_map]; rfl
theorem seq_gen2 {a b c : RS} {E : Ed} {env : En} (I : En → Prop) (hc : ∀ e, I e → c E e) (ha : ∀ Y : RS, (∀ e, I e → Y E e) → rSeq a (rSeq b Y) E env) : rSeq a (rSeq b c) E env := ha c hc
theorem cut_drop (xs : List Int) (k : Nat) {i : Int} (h : i = (k : Int)) : PV.cutD (dInts xs) (some i) none = dInts (xs.drop k) := by
  rw [h, dInts_map, cutD_map]
  exact congrArg _ (cutL_from xs k)
def LogOk (l : List Int) : Prop := l.Pairwise (· < ·) ∧ l ≠ [] ∧ l.length ≤ 40 ∧ (∀ x ∈ l, 0 ≤ x) ∧ ∀ x ∈ l, x ≤ 100000
theorem cut_take (xs : List Int) (k : Nat) (h : k ≤ xs.length) : PV.cutD (dInts xs) none (some (k : Int)) = dInts (xs.take k) := by
  rw [dInts_map, cutD_map, cutL_to xs k h]
  rfl
theorem eq_yes {d e : Dat} {p q : Prop} {i : Decidable (PyData.eqv d e = true)} (he : d = e) (hs : SeqAt.shaped e = true) (h : p) : SeqAt.shaped d = true ∧ SeqAt.shaped e = true ∧ @ite Prop _ i p q := by
  subst he
  refine ⟨hs, hs, ?_⟩
  rw [if_pos (eqv_self hs)]
  exact h
theorem eq_bool {d e : Dat} {R : Dat → Prop} (he : d = e) (hs : SeqAt.shaped e = true) (h : R (.bool true)) : SeqAt.shaped d = true ∧ SeqAt.shaped e = true ∧ R (.bool (PyData.eqv d e)) := by
  subst he
  refine ⟨hs, hs, ?_⟩
  rw [eqv_self hs]
  exact h
/-! the law's own definition of a filter -/
abbrev sp_law_kept := Sfn (fun a : Flt × List Int => [a.1.enc, encI a.2]) (fun a => a.1.ok ∧ a.2.length ≤ 1000) (fun a => encI (keptF a.1 a.2))
theorem ok_law_kept {K : KK} {mg : Str → Option Value} {base : Heap} (T : Txt K mg base) : FnOk K.P K.w K.fr mg base CX0 1 T.a_law_kept T.d_law_kept ["one", "events"] (spD K sp_law_kept) := by
  refine ok_def T.F_law_kept sc_law_kept (fun ds R h => by first | exact sfn_len h (fun _ => rfl) | exact srel_len h (fun _ => rfl) | (obtain ⟨a, rfl, _⟩ := h; rfl)) (fun cdv A outer s H E hr => ⟨_, _,
(pss_cons (ps_set (i := 2) sc_law_kept.nd rfl (Or.inl rfl) (pe_lst pa_nil))
 (pss_cons (ps_for PassesOwn.never rfl (pi_enumK (K := K) rfl (by rfl) T.n_enumerate (pa_cons (pv 1) pa_nil)) (pg_tupK (K := K) (n := 2) rfl rfl (pgs_cons (pg_name (i := 3) sc_law_kept.nd rfl (Or.inl rfl)) (pgs_cons (pg_name (i := 4) sc_law_kept.nd rfl (Or.inr rfl)) pgs_nil)))
 (pss_cons (ps_if (pt_cmpR (op_eqK (K := K) rfl hr.units) (pe_ix (ix_seqK (K := K) rfl) (pv 0) pe_int (fun _ _ => rfl)) pe_str (nomark _))
 (pss_one (ps_set (i := 5) sc_law_kept.nd rfl (Or.inl rfl) (pe_or (pe_cmpR (op_eqK (K := K) rfl hr.units) (pv 2) (pe_lst pa_nil) (nomark _)) (pe_one (pe_cmpR op_ge (pe_op op_sub (pv 4) (pe_ix (ix_seqK (K := K) rfl) (pv 2) (pe_un un_neg pe_int) (fun _ _ => rfl))) (pe_ix (ix_seqK (K := K) rfl) (pv 0) pe_int (fun _ _ => rfl)) (nomark _))))))
 (pss_one (ps_if (pt_cmpR (op_eqK (K := K) rfl hr.units) (pe_ix (ix_seqK (K := K) rfl) (pv 0) pe_int (fun _ _ => rfl)) pe_str (nomark _))
 (pss_one (ps_set (i := 5) sc_law_kept.nd rfl (Or.inl rfl) (pe_or (pe_cmpR (op_eqK (K := K) rfl hr.units) (pv 3) pe_int (nomark _)) (pe_one (pe_cmpR op_gt (pe_op op_sub (pv 4) (pe_ix (ix_seqK (K := K) rfl) (pv 1) (pe_op op_sub (pv 3) pe_int) (fun _ _ => rfl))) (pe_ix (ix_seqK (K := K) rfl) (pv 0) pe_int (fun _ _ => rfl)) (nomark _))))))
 (pss_one (ps_if (pt_cmpR (op_eqK (K := K) rfl hr.units) (pe_ix (ix_seqK (K := K) rfl) (pv 0) pe_int (fun _ _ => rfl)) pe_str (nomark _))
 (pss_one (ps_set (i := 5) sc_law_kept.nd rfl (Or.inl rfl) (pe_cmpR (op_eqK (K := K) rfl hr.units) (pe_op op_mod (pv 3) (pe_ix (ix_seqK (K := K) rfl) (pv 0) pe_int (fun _ _ => rfl))) (pe_ix (ix_seqK (K := K) rfl) (pv 0) pe_int (fun _ _ => rfl)) (nomark _))))
 (pss_one (ps_set (i := 5) sc_law_kept.nd rfl (Or.inl rfl) (pe_cmpR op_lt (pe_callB (call_lenK (K := K) rfl) (by rfl) T.n_len PySem.boot_len (pa_cons (pe_lc (own := [("other", 6)]) rfl sc_law_kept.nd (pi_seqK (K := K) rfl (pv 2)) (blkOk_by (N := ["one", "events", "kept", "index", "time", "good", "other"]) (sc := defScope s_law_kept) (by decide +kernel)) (fun _ _ _ _ _ => (pg_name (i := 6) sc_law_kept.nd rfl (Or.inl rfl))) (fun _ _ _ _ _ => (pts_one (pt_cmpR op_gt (pv 6) (pe_op op_sub (pv 4) (pe_ix (ix_seqK (K := K) rfl) (pv 0) pe_int (fun _ _ => rfl))) (nomark _)))) (fun _ _ _ _ _ => (pv 6))) pa_nil)) (pe_ix (ix_seqK (K := K) rfl) (pv 0) pe_int (fun _ _ => rfl)) (nomark _)))))))))
 (pss_one (ps_if (pt_val (pv 5))
 (pss_one (ps_expr (pe_bm PySem.F.plainAttrs_list PySem.F.slot_list_append PySem.F.type_list_append mt_append (pv 2) (pa_cons (pv 4) pa_nil))))
 pss_nil))))
 (pss_one (ps_ret (pv 2))))), (by (try dsimp only [nox_K]); infer_instance), fun ds R h => ?_⟩)
  obtain ⟨⟨f, l⟩, rfl, ⟨hf, hl⟩, h⟩ := h
  dsimp only at hf hl h
  walk_at "pv"
  refine for_intro l.zipIdx (fun q => .tuple [.int q.2, .int q.1]) (fun Q h => ?_) (fun pre post env => ∃ g3 g4 g5 g6, env = [.val f.enc, .val (encI l), .own (dInts (keptF f (l.take pre.length))), g3, g4, g5, g6]) ⟨_, _, _, _, rfl⟩ ?_ ?_
  · walk_at "pv"
    simp only [encI]
    refine ⟨_, rfl, ?_⟩
    rw [dInts_map, pairs_map]
    exact h
  · rintro pre ⟨t, i⟩ post env N hx ⟨g3, g4, g5, g6, rfl⟩ hN
    obtain ⟨hi, ht⟩ := zipIdx_at hx
    dsimp only at hi ht
    subst hi
    have et : l.take (pre.length + 1) = l.take pre.length ++ [t] := by rw [List.take_add_one, ht]; rfl
    have sn := keptF_snoc f (l.take pre.length) t
    have kl : (keptF f (l.take pre.length)).length ≤ 1000 := Nat.le_trans (keptF_sub f _).length_le (by rw [List.length_take]; omega)
    generalize hK : keptF f (l.take pre.length) = K at *
    have fin : ∀ g5 g6 : Sl, N [.val f.enc, .val (encI l), .own (dInts (if good f (l.take pre.length) K t = true then K ++ [t] else K)), .val (.int pre.length), .val (.int t), g5, g6] := fun g5 g6 => by
      refine hN _ ⟨.val (.int pre.length), .val (.int t), g5, g6, ?_⟩
      rw [List.length_append, List.length_singleton, et, sn]
      split <;> simp
    have hKd : (dInts K).length < 16777216 := by simp [dInts]; omega
    have finY : good f (l.take pre.length) K t = true → ∀ g5 g6 : Sl, (dInts K).length < 16777216 ∧ N [.val f.enc, .val (encI l), .own (dInts K ++ [.int t]), .val (.int pre.length), .val (.int t), g5, g6] := fun hg g5 g6 => by
      have := fin g5 g6
      rw [if_pos hg] at this
      refine ⟨hKd, ?_⟩
      simpa [dInts] using this
    have finN : ¬ good f (l.take pre.length) K t = true → ∀ g5 g6 : Sl, N [.val f.enc, .val (encI l), .own (dInts K), .val (.int pre.length), .val (.int t), g5, g6] := fun hg g5 g6 => by
      have := fin g5 g6
      rw [if_neg hg] at this
      exact this
    have hil : pre.length < l.length := (List.getElem?_eq_some_iff.mp ht).1
    cases f with
    | spaced d =>
      simp only [Flt.enc] at finY finN ⊢
      walk_at "pv"
      have ee : PyData.eqv (.list (dInts K)) (.list []) = decide (K = []) := eqv_lints K []
      refine ⟨(shaped_ints K).2, (shaped_ints []).2, ?_⟩
      rw [ee]
      rcases List.eq_nil_or_concat K with rfl | ⟨ys, y, rfl⟩
      · simp only [decide_true, if_true]
        exact finY (by simp [good]) _ _
      · rw [List.concat_eq_append] at *
        have ey : atI (dInts (ys ++ [y])) (-1) = some (.int y) := by
          unfold dInts
          rw [List.map_append]
          exact atI_last _ _
        rw [if_neg (by simp)]
        refine ⟨_, ey, _, rfl, ?_⟩
        have gd : good (.spaced d) (l.take pre.length) (ys ++ [y]) t = decide (d ≤ t - y) := by simp [good]
        by_cases hg : d ≤ t - y
        · rw [if_pos hg]
          exact finY (by rw [gd]; exact decide_eq_true hg) _ _
        · rw [if_neg hg]
          exact finN (by rw [gd]; simpa using hg) _ _
    | fresh d =>
      simp only [Flt.enc] at finY finN ⊢
      walk_at "pv"
      by_cases h0 : pre.length = 0
      · rw [if_pos (by omega)]
        exact finY (by rw [h0]; simp [good]) _ _
      · rw [if_neg (by omega)]
        simp only [encI] at finY finN ⊢
        obtain ⟨k, hk⟩ : ∃ k, pre.length = k + 1 := ⟨pre.length - 1, by omega⟩
        have ek : (pre.length : Int) - 1 = (k : Int) := by omega
        rw [ek]
        refine ⟨_, atI_ints (by omega), _, rfl, ?_⟩
        have gd : good (.fresh d) (l.take pre.length) K t = decide (d < t - l.getD k 0) := by
          have : l[k]? = some (l.getD k 0) := by rw [List.getD_eq_getElem?_getD, List.getElem?_eq_getElem (by omega)]; rfl
          rw [hk, List.take_add_one, this]
          simp [good]
        by_cases hg : d < t - l.getD k 0
        · rw [if_pos hg]
          exact finY (by rw [gd]; exact decide_eq_true hg) _ _
        · rw [if_neg hg]
          exact finN (by rw [gd]; simpa using hg) _ _
    | every n k =>
      simp only [Flt.enc] at finY finN ⊢
      walk_at "pv"
      have gd : good (.every n k) (l.take pre.length) K t = decide ((pre.length : Int) % n = k) := by
        simp only [good, List.length_take]
        rw [Nat.min_eq_left (by omega)]
      refine ⟨by have := hf.1; omega, ?_⟩
      by_cases hg : (pre.length : Int) % n = k
      · rw [if_pos hg]
        exact finY (by rw [gd]; exact decide_eq_true hg) _ _
      · rw [if_neg hg]
        exact finN (by rw [gd]; simpa using hg) _ _
    | limit n w =>
      simp only [Flt.enc] at finY finN ⊢
      walk_at "pv"
      refine lc_intro K PyData.int (fun o => if decide (t - w < o) = true then some (.int o) else none) (fun Q h => ?_) (by rw [sizeLine_eq]; omega) (fun o N _ hN => ?_) ?_
      · walk_at "pv"; exact h
      · walk_at "pv"
        by_cases ho : t - w < o
        · simpa [ho] using hN
        · simpa [ho] using hN
      rw [fm_if (p := fun o => decide (t - w < o))]
      refine ⟨_, rfl, ?_⟩
      rw [List.length_map]
      have gd : good (.limit n w) (l.take pre.length) K t = decide ((((K.filter fun o => decide (t - w < o)).length : Nat) : Int) < n) := rfl
      by_cases hg : (((K.filter fun o => decide (t - w < o)).length : Nat) : Int) < n
      · rw [if_pos hg]
        exact finY (by rw [gd]; exact decide_eq_true hg) _ _
      · rw [if_neg hg]
        exact finN (by rw [gd]; simpa using hg) _ _
  · rintro env ⟨g3, g4, g5, g6, rfl⟩
    rw [List.length_zipIdx, List.take_length]
    walk_at "pv"
    exact h
abbrev sp_law_result := Sfn (fun a : List Flt × List Int => [encP a.1, encL a.2]) (fun a => OkP a.1 ∧ a.2.length ≤ 1000) (fun a => encL (kept a.1 a.2))
theorem ok_law_result {K : KK} {mg : Str → Option Value} {base : Heap} (T : Txt K mg base) : FnOk K.P K.w K.fr mg base CX0 2 T.a_law_result T.d_law_result ["pipeline", "log"] (spD K sp_law_result) := by
  refine ok_def T.F_law_result sc_law_result (fun ds R h => by first | exact sfn_len h (fun _ => rfl) | exact srel_len h (fun _ => rfl) | (obtain ⟨a, rfl, _⟩ := h; rfl)) (fun cdv A outer s H E hr => ⟨_, _,
(pss_cons (ps_set (i := 2) sc_law_result.nd rfl (Or.inl rfl) (pe_callTy (call_listK (K := K) rfl) (by rfl) T.n_list PyProof.Rows.boot_list (pa_cons (pv 1) pa_nil)))
 (pss_cons (ps_for PassesOwn.never rfl (pi_seqK (K := K) rfl (pv 0)) (pg_name (i := 3) sc_law_result.nd rfl (Or.inl rfl))
 (pss_one (ps_frz [2] (ps_set (i := 2) sc_law_result.nd rfl (Or.inl rfl) (pe_call (ok_law_kept T) (hr.mono (by decide)) (by rfl) T.g_law_kept T.F_law_kept.kp T.b_law_kept .nil pass0 (pa_cons (pv 3) (pa_cons (pv 2) pa_nil)))))))
 (pss_one (ps_ret (pe_callTy (call_tupleK (K := K) rfl) (by rfl) T.n_tuple PyProof.Rows.boot_tuple (pa_cons (pv 2) pa_nil)))))), (by (try dsimp only [nox_K]); infer_instance), fun ds R h => ?_⟩)
  obtain ⟨⟨p, l⟩, rfl, ⟨hp, hl⟩, h⟩ := h
  dsimp only at hp hl h
  have stp : ∀ (q : List Flt) (f : Flt), kept (q ++ [f]) l = keptF f (kept q l) := fun q f => by unfold kept; rw [List.foldl_append]; rfl
  walk_at "pv"
  refine ⟨dInts l, rfl, ?_⟩
  refine for_intro p Flt.enc (fun Q h => ?_) (fun pre _ env => ∃ g2 g3, env = [.val (encP p), .val (encL l), g2, g3] ∧ (g2 = .own (dInts (kept pre l)) ∨ g2 = .val (encI (kept pre l)))) ⟨_, _, rfl, .inl rfl⟩ ?_ ?_
  · walk_at "pv"
    exact ⟨_, rfl, h⟩
  · rintro pre f post env N hx ⟨g2, g3, rfl, hg⟩ hN
    have hf := hp.ok f (by rw [hx]; simp)
    have kl : (kept pre l).length ≤ 1000 := Nat.le_trans (kept_sub pre l).length_le hl
    have fin : N [.val (encP p), .val (encL l), .val (encI (keptF f (kept pre l))), .val f.enc] := hN _ ⟨_, _, rfl, .inr (by rw [stp])⟩
    rcases hg with rfl | rfl
    · walk_at "pv"
      exact ⟨(f, kept pre l), rfl, ⟨hf, kl⟩, fin⟩
    · walk_at "pv"
      exact ⟨(f, kept pre l), rfl, ⟨hf, kl⟩, fin⟩
  · rintro env ⟨g2, g3, rfl, hg⟩
    rcases hg with rfl | rfl
    · walk_at "pv"
      exact h
    · walk_at "pv"
      exact ⟨_, rfl, h⟩
/-! ### possible values -/
def mkF (b : Bool) (d : Int) : Flt := if b = true then .fresh d else .spaced d
def nmF (b : Bool) : Dat := if b = true then .str "fresh" else .str "spaced"
theorem mkF_enc (b : Bool) (d : Int) : (mkF b d).enc = .tuple [nmF b, .int d] := by cases b <;> rfl
theorem mkF_ok {d : Int} (b : Bool) (h : 1 ≤ d) : (mkF b d).ok := by
  cases b
  · exact h
  · exact h
theorem cutP_to (p q : List Flt) : PV.cutD ((p ++ q).map Flt.enc) none (some (p.length : Int)) = p.map Flt.enc := by
  rw [cutD_map, cutL_to _ _ (by simp), List.take_left]
theorem cutP_from (p q : List Flt) : PV.cutD ((p ++ q).map Flt.enc) (some (p.length : Int)) none = q.map Flt.enc := by
  rw [cutD_map, cutL_from, List.drop_left]
theorem cutP_after (p q : List Flt) (f : Flt) : PV.cutD ((p ++ f :: q).map Flt.enc) (some ((p.length : Int) + 1)) none = q.map Flt.enc := by
  have e : p ++ f :: q = (p ++ [f]) ++ q := by simp
  have := cutP_from (p ++ [f]) q
  rw [List.length_append, List.length_singleton, Int.natCast_add] at this
  rw [e]
  exact this
abbrev sp_with_value := Sfn (fun a : List Flt × List Flt × Bool × Int × Int => [encP (a.1 ++ mkF a.2.2.1 a.2.2.2.1 :: a.2.1), .int a.1.length, .int a.2.2.2.2]) (fun a => a.1.length + a.2.1.length ≤ 99) (fun a => encP (a.1 ++ mkF a.2.2.1 a.2.2.2.2 :: a.2.1))
theorem ok_with_value {K : KK} {mg : Str → Option Value} {base : Heap} (T : Txt K mg base) : FnOk K.P K.w K.fr mg base CX0 1 T.a_with_value T.d_with_value ["pipeline", "index", "d"] (spD K sp_with_value) := by
  refine ok_def T.F_with_value sc_with_value (fun ds R h => by first | exact sfn_len h (fun _ => rfl) | exact srel_len h (fun _ => rfl) | (obtain ⟨a, rfl, _⟩ := h; rfl)) (fun cdv A outer s H E hr => ⟨_, _,
(pss_one (ps_ret (pe_op (op_addK (K := K) rfl) (pe_op (op_addK (K := K) rfl) (pe_slice (sl_anyK (K := K) rfl) (pv 0) po_none (po_some (pv 1))) (pe_tup (pa_cons (pe_tup (pa_cons (pe_ix (ix_seqK (K := K) rfl) (pe_ix (ix_seqK (K := K) rfl) (pv 0) (pv 1) (fun _ _ => rfl)) pe_int (fun _ _ => rfl)) (pa_cons (pv 2) pa_nil))) pa_nil))) (pe_slice (sl_anyK (K := K) rfl) (pv 0) (po_some (pe_op (op_addK (K := K) rfl) (pv 1) pe_int)) po_none)))), (by (try dsimp only [nox_K]); infer_instance), fun ds R h => ?_⟩)
  obtain ⟨⟨p1, p2, b, d0, d⟩, rfl, hl, h⟩ := h
  dsimp only at hl h
  simp only [encP]
  walk_at "pv"
  refine ⟨(mkF b d0).enc, atI_nat (by rw [List.getElem?_map, List.getElem?_append_right (Nat.le_refl _), Nat.sub_self]; rfl), ?_⟩
  rw [mkF_enc]
  walk_at "pv"
  rw [cutP_to, cutP_after]
  refine ⟨by rw [List.length_map]; omega, by simp only [List.length_append, List.length_map, List.length_singleton]; omega, ?_⟩
  have e : encP (p1 ++ mkF b d :: p2) = .tuple (p1.map Flt.enc ++ [.tuple [nmF b, .int d]] ++ p2.map Flt.enc) := by
    simp [encP, mkF_enc]
  rw [e] at h
  exact h
def valsP (p1 p2 : List Flt) (b : Bool) (l w : List Int) : List Int := (intsUp 8).filter fun d => decide (keepM (p1 ++ mkF b d :: p2) l = w)
where intsUp (n : Nat) : List Int := (List.range n).map fun i : Nat => 1 + (i : Int)
abbrev spF_possible_values := SfnF (fun a : (List Flt × List Flt × Bool × Int) × List Int × List Int => [encP (a.1.1 ++ mkF a.1.2.2.1 a.1.2.2.2 :: a.1.2.1), .int a.1.1.length, encL a.2.1, encL a.2.2])
  (fun a => (∀ f ∈ a.1.1, f.ok) ∧ (∀ f ∈ a.1.2.1, f.ok) ∧ a.1.1.length + a.1.2.1.length ≤ 99 ∧ a.2.1.length ≤ 1000) (fun a => dInts (valsP a.1.1 a.1.2.1 a.1.2.2.1 a.2.1 a.2.2))
abbrev sp_possible_values := Sfn (fun a : (List Flt × List Flt × Bool × Int) × List Int × List Int => [encP (a.1.1 ++ mkF a.1.2.2.1 a.1.2.2.2 :: a.1.2.1), .int a.1.1.length, encL a.2.1, encL a.2.2])
  (fun a => (∀ f ∈ a.1.1, f.ok) ∧ (∀ f ∈ a.1.2.1, f.ok) ∧ a.1.1.length + a.1.2.1.length ≤ 99 ∧ a.2.1.length ≤ 1000) (fun a => encI (valsP a.1.1 a.1.2.1 a.1.2.2.1 a.2.1 a.2.2))
theorem okP_mk {p1 p2 : List Flt} {b : Bool} {d : Int} (h1 : ∀ f ∈ p1, f.ok) (h2 : ∀ f ∈ p2, f.ok) (h3 : p1.length + p2.length ≤ 99) (hd : 1 ≤ d) : OkP (p1 ++ mkF b d :: p2) := ⟨fun f hf => by
  rcases List.mem_append.mp hf with q | q
  · exact h1 f q
  · rcases List.mem_cons.mp q with rfl | q
    · exact mkF_ok b hd
    · exact h2 f q, by rw [List.length_append, List.length_cons]; omega⟩
theorem okF_possible_values {K : KK} {mg : Str → Option Value} {base : Heap} (T : Txt K mg base) : FnOk K.P K.w K.fr mg base CX0 7 T.a_possible_values T.d_possible_values ["pipeline", "index", "log", "kept"] (spF K spF_possible_values) := by
  refine ok_defF T.F_possible_values sc_possible_values (fun ds R h => by first | exact sfnF_len h (fun _ => rfl) | (obtain ⟨a, rfl, _⟩ := h; rfl)) (fun cdv A outer s H E hr => ⟨_, _,
(pss_cons (ps_setR (i := 4) sc_possible_values.nd rfl (Or.inl rfl) (pe_callTy call_rngA (by rfl) T.n_range PyProof.Rows.boot_range (pa_cons pe_int (pa_cons (pe_op (op_addK (K := K) rfl) (pe_glob (by rfl) T.g_LARGEST_PARAMETER T.r_LARGEST_PARAMETER) pe_int) pa_nil))))
 (pss_one (ps_retF (pe_lc (own := [("d", 5)]) rfl sc_possible_values.nd (pi_rngV (pv 4)) (blkOk_by (N := ["pipeline", "index", "log", "kept", "numbers", "d"]) (sc := defScope s_possible_values) (by decide +kernel)) (fun _ _ _ _ _ => (pg_name (i := 5) sc_possible_values.nd rfl (Or.inl rfl))) (fun _ _ _ _ _ => (pts_one (pt_cmpR (op_eqK (K := K) rfl hr.units) (pe_call (ok_keep T) (hr.mono (by decide)) (by rfl) T.g_keep T.F_keep.kp T.b_keep .nil pass0 (pa_cons (pe_call (ok_with_value T) (hr.mono (by decide)) (by rfl) T.g_with_value T.F_with_value.kp T.b_with_value .nil pass0 (pa_cons (pv 0) (pa_cons (pv 1) (pa_cons (pv 5) pa_nil)))) (pa_cons (pv 2) pa_nil))) (pv 3) (nomark _)))) (fun _ _ _ _ _ => (pv 5)))))), (by (try dsimp only [nox_K]); infer_instance), fun ds R h => ?_⟩)
  obtain ⟨⟨⟨p1, p2, b, d0⟩, l, w⟩, rfl, ⟨h1, h2, h3, hl⟩, h⟩ := h
  dsimp only at h1 h2 h3 hl h
  walk_at "pv"
  refine lc_intro (List.range 8) (fun i : Nat => .int (1 + (i : Int))) (fun i => if decide (keepM (p1 ++ mkF b (1 + (i : Int)) :: p2) l = w) = true then some (.int (1 + (i : Int))) else none) (fun Q h => ?_) (by rw [sizeLine_eq]; simp) (fun i N _ hN => ?_) ?_
  · walk_at "pv"
    exact ⟨by decide, by decide, by decide, by decide, h⟩
  · walk_at "pv"
    refine ⟨(p1, p2, b, d0, 1 + (i : Int)), rfl, h3, (p1 ++ mkF b (1 + (i : Int)) :: p2, l), rfl, ⟨okP_mk h1 h2 h3 (by omega), hl⟩, ?_⟩
    dsimp only [encL]
    refine ⟨shaped_encL _, shaped_encL _, ?_⟩
    have e : PyData.eqv (.tuple (dInts (keepM (p1 ++ mkF b (1 + (i : Int)) :: p2) l))) (.tuple (dInts w)) = decide (keepM (p1 ++ mkF b (1 + (i : Int)) :: p2) l = w) := eqv_tints _ _
    rw [e]
    by_cases q : keepM (p1 ++ mkF b (1 + (i : Int)) :: p2) l = w
    · rw [decide_eq_true q] at hN ⊢
      exact hN
    · rw [decide_eq_false q] at hN ⊢
      exact hN
  · have e : (List.range 8).filterMap (fun i : Nat => if decide (keepM (p1 ++ mkF b (1 + (i : Int)) :: p2) l = w) = true then some (PyData.int (1 + (i : Int))) else none) = dInts (valsP p1 p2 b l w) := by
      unfold valsP valsP.intsUp
      generalize List.range 8 = xs
      induction xs with
      | nil => rfl
      | cons x xs ih =>
        rw [List.filterMap_cons, List.map_cons, List.filter_cons, ih]
        by_cases q : keepM (p1 ++ mkF b (1 + (x : Int)) :: p2) l = w
        · rw [decide_eq_true q]; rfl
        · rw [decide_eq_false q]; rfl
    show R (.lst _)
    rw [e]
    exact h
theorem ok_possible_values {K : KK} {mg : Str → Option Value} {base : Heap} (T : Txt K mg base) : FnOk K.P K.w K.fr mg base CX0 7 T.a_possible_values T.d_possible_values ["pipeline", "index", "log", "kept"] (spD K sp_possible_values) := keepF (okF_possible_values T)
/-! ### the smallest and the largest possible last parameter -/
def encLast : List Int → Dat
  | [] => .none
  | x :: r => .tuple [.int x, .int ((x :: r).getLastD 0)]
abbrev sp_possible_last := Sfn (fun a : (List Flt × Bool) × List Int × List Int => [encP a.1.1, nmF a.1.2, encL a.2.1, encL a.2.2]) (fun a => (∀ f ∈ a.1.1, f.ok) ∧ a.1.1.length ≤ 98 ∧ a.2.1.length ≤ 1000) (fun a => encLast (valsP a.1.1 [] a.1.2 a.2.1 a.2.2))
theorem ok_possible_last {K : KK} {mg : Str → Option Value} {base : Heap} (T : Txt K mg base) : FnOk K.P K.w K.fr mg base CX0 8 T.a_possible_last T.d_possible_last ["pipeline", "name", "log", "kept"] (spD K sp_possible_last) := by
  refine ok_def T.F_possible_last sc_possible_last (fun ds R h => by first | exact sfn_len h (fun _ => rfl) | exact srel_len h (fun _ => rfl) | (obtain ⟨a, rfl, _⟩ := h; rfl)) (fun cdv A outer s H E hr => ⟨_, _,
(pss_cons (ps_set (i := 4) sc_possible_last.nd rfl (Or.inl rfl) (pe_call (ok_possible_values T) (hr.mono (by decide)) (by rfl) T.g_possible_values T.F_possible_values.kp T.b_possible_values .nil pass0 (pa_cons (pe_op (op_addK (K := K) rfl) (pv 0) (pe_tup (pa_cons (pe_tup (pa_cons (pv 1) (pa_cons pe_int pa_nil))) pa_nil))) (pa_cons (pe_callB (call_lenK (K := K) rfl) (by rfl) T.n_len PySem.boot_len (pa_cons (pv 0) pa_nil)) (pa_cons (pv 2) (pa_cons (pv 3) pa_nil))))))
 (pss_cons (ps_if (pt_cmpR (op_eqK (K := K) rfl hr.units) (pe_callB (call_lenK (K := K) rfl) (by rfl) T.n_len PySem.boot_len (pa_cons (pv 4) pa_nil)) pe_int (nomark _))
 (pss_one (ps_ret pe_non))
 pss_nil)
 (pss_one (ps_ret (pe_tup (pa_cons (pe_ix (ix_seqK (K := K) rfl) (pv 4) pe_int (fun _ _ => rfl)) (pa_cons (pe_ix (ix_seqK (K := K) rfl) (pv 4) (pe_un un_neg pe_int) (fun _ _ => rfl)) pa_nil))))))), (by (try dsimp only [nox_K]); infer_instance), fun ds R h => ?_⟩)
  obtain ⟨⟨⟨p, b⟩, l, w⟩, rfl, ⟨hp, hpl, hl⟩, h⟩ := h
  dsimp only at hp hpl hl h
  simp only [encP]
  walk_at "pv"
  refine ⟨by rw [List.length_map]; omega, ?_⟩
  rw [List.length_map]
  refine ⟨((p, [], b, 1), l, w), ?_, ⟨hp, by simp, by show p.length + 0 ≤ 99; omega, hl⟩, ?_⟩
  · dsimp only
    simp [encP, mkF_enc]
  · dsimp only [encI]
    refine ⟨_, rfl, ?_⟩
    generalize valsP p [] b l w = v at h ⊢
    unfold dInts
    rw [List.length_map]
    cases v with
    | nil =>
      rw [if_pos (by rfl)]
      exact h
    | cons x r =>
      rw [if_neg (by rw [List.length_cons]; omega)]
      refine ⟨.int x, (show atI _ ((0 : Nat) : Int) = _ from atI_nat rfl), .int ((x :: r).getLastD 0), ?_, h⟩
      rcases List.eq_nil_or_concat (x :: r) with e | ⟨L, t, e⟩
      · cases e
      · rw [e, List.concat_eq_append, List.map_append]
        have : (L ++ [t]).getLastD 0 = t := by simp
        rw [this]
        exact atI_last _ _
theorem seq_gen {a c : RS} {E : Ed} {env : En} (I : En → Prop) (hc : ∀ e, I e → c E e) (ha : ∀ Y : RS, (∀ e, I e → Y E e) → rSeq a Y E env) : rSeq a c E env := ha c hc
theorem seq_gen3 {a b c d : RS} {E : Ed} {env : En} (I : En → Prop) (hf : ∀ x, I x → d E x) (ha : ∀ Y : RS, (∀ x, I x → Y E x) → rSeq a (rSeq b (rSeq c Y)) E env) : rSeq a (rSeq b (rSeq c d)) E env := ha d hf
theorem cut_dropLast (K : List Int) : PV.cutD (dInts K) none (some (-1)) = dInts K.dropLast := by
  rcases List.eq_nil_or_concat K with rfl | ⟨L, x, rfl⟩
  · rfl
  · rw [List.concat_eq_append, List.dropLast_concat]
    unfold dInts PV.cutD
    have c := HT.clip_eq (-1) ((L ++ [x]).map PyData.int).length ((L ++ [x]).map PyData.int).length
    rw [if_pos (by decide), List.length_map, List.length_append, List.length_singleton] at c
    rw [HT.sIx_none, List.drop_zero, Nat.sub_zero, List.length_map, List.length_append, List.length_singleton]
    have : HT.sIx (L.length + 1) (L.length + 1) (some (-1)) = L.length := by omega
    rw [this, List.map_append]
    exact List.take_left' (by rw [List.length_map])
theorem encP_snoc (p : List Flt) (b : Bool) (d : Int) : PyData.tuple (p.map Flt.enc ++ [.tuple [nmF b, .int d]]) = encP (p ++ [mkF b d]) := by simp [encP, mkF_enc]
theorem val_0 : valsP [] [] false [0, 2, 3, 7, 8] [0, 3, 7] = [3] := by decide +kernel
theorem mem_vals {p : List Flt} (hp : ∀ f ∈ p, f.ok) (hpl : p.length ≤ 98) {b : Bool} {l w : List Int} (la : l.Pairwise (· < ·)) {d : Int} : d ∈ valsP p [] b l w ↔ 1 ≤ d ∧ d ≤ 8 ∧ kept (p ++ [mkF b d]) l = w := by
  unfold valsP valsP.intsUp
  rw [List.mem_filter, List.mem_map]
  constructor
  · rintro ⟨⟨i, hi, rfl⟩, h⟩
    have hi := List.mem_range.mp hi
    rw [decide_eq_true_eq, keepM_eq (okP_mk hp (by simp) (p2 := []) (b := b) (d := 1 + (i : Int)) (by show p.length + 0 ≤ 99; omega) (by omega)).ok la] at h
    exact ⟨by omega, by omega, h⟩
  · rintro ⟨h1, h8, h⟩
    refine ⟨⟨(d - 1).toNat, List.mem_range.mpr (by omega), by omega⟩, ?_⟩
    rw [decide_eq_true_eq, keepM_eq (okP_mk hp (by simp) (p2 := []) (b := b) (d := d) (by show p.length + 0 ≤ 99; omega) h1).ok la]
    exact h
theorem vals_fm {p : List Flt} (hp : ∀ f ∈ p, f.ok) (hpl : p.length ≤ 98) {b : Bool} {l w : List Int} (la : l.Pairwise (· < ·)) : (List.range 8).filterMap (fun i : Nat => if decide (kept (p ++ [mkF b (1 + (i : Int))]) l = w) = true then some (PyData.int (1 + (i : Int))) else none) = dInts (valsP p [] b l w) := by
  unfold valsP valsP.intsUp
  generalize List.range 8 = xs
  induction xs with
  | nil => rfl
  | cons x xs ih =>
    have e := keepM_eq (log := l) (okP_mk hp (by simp) (p2 := []) (b := b) (d := 1 + (x : Int)) (by show p.length + 0 ≤ 99; omega) (by omega)).ok la
    rw [List.filterMap_cons, List.map_cons, List.filter_cons, ih, e]
    by_cases q : kept (p ++ [mkF b (1 + (x : Int))]) l = w
    · rw [decide_eq_true q]; rfl
    · rw [decide_eq_false q]; rfl
theorem eqv_dnilL (l : List Int) : PyData.eqv (.list (dInts l)) (.list []) = decide (l = []) := by
  cases l with
  | nil => simp [dInts, PyData.eqv, PyData.eqvAll]
  | cons d ds => simp [dInts, PyData.eqv, PyData.eqvAll]
theorem fill_vals {p : List Flt} (hp : ∀ f ∈ p, f.ok) (hpl : p.length ≤ 98) {b : Bool} {l w : List Int} (la : l.Pairwise (· < ·)) {x z y : Int} (hx : x ∈ valsP p [] b l w) (hz : z ∈ valsP p [] b l w) (h1 : x ≤ y) (h2 : y ≤ z) : y ∈ valsP p [] b l w := by
  have a := (mem_vals hp hpl la).mp hx
  have c := (mem_vals hp hpl la).mp hz
  refine (mem_vals hp hpl la).mpr ⟨by omega, by omega, ?_⟩
  obtain ⟨_, _, a⟩ := a
  obtain ⟨_, _, c⟩ := c
  rw [kept_last] at a c ⊢
  have ks : (kept p l).Pairwise (· < ·) := la.sublist (kept_sub _ _)
  cases b with
  | false => exact (mid_spaced h1 h2 _ (kept p l) rfl ks (a.trans c.symm)).trans a
  | true => exact (mid_fresh h1 h2 _ (kept p l) rfl ks (a.trans c.symm)).trans a
theorem vals_asc {p : List Flt} {b : Bool} {l w : List Int} : (valsP p [] b l w).Pairwise (· < ·) := by
  unfold valsP valsP.intsUp
  exact List.Pairwise.sublist List.filter_sublist (List.pairwise_map.mpr (List.pairwise_lt_range.imp fun {i j} h => by omega))
theorem ends_of {v : List Int} (hv : v ≠ []) (va : v.Pairwise (· < ·)) : ∃ x z, x ∈ v ∧ z ∈ v ∧ encLast v = .tuple [.int x, .int z] ∧ atI (dInts v) 0 = some (.int x) ∧ atI (dInts v) (-1) = some (.int z) ∧ ∀ y ∈ v, x ≤ y ∧ y ≤ z := by
  cases v with
  | nil => exact absurd rfl hv
  | cons x r =>
    refine ⟨x, (x :: r).getLastD 0, by simp, ?_, rfl, (show atI _ ((0 : Nat) : Int) = _ from atI_nat rfl), ?_, fun y hy => ⟨?_, ?_⟩⟩
    · rcases List.eq_nil_or_concat (x :: r) with e | ⟨L, t, e⟩
      · cases e
      · rw [e, List.concat_eq_append]; simp
    · rcases List.eq_nil_or_concat (x :: r) with e | ⟨L, t, e⟩
      · cases e
      · unfold dInts
        rw [e, List.concat_eq_append, List.map_append]
        have : (L ++ [t]).getLastD 0 = t := by simp
        rw [this]
        exact atI_last _ _
    · rcases List.mem_cons.mp hy with rfl | q
      · exact Int.le_refl _
      · exact Int.le_of_lt ((List.pairwise_cons.mp va).1 y q)
    · rcases List.eq_nil_or_concat (x :: r) with e | ⟨L, t, e⟩
      · cases e
      · rw [e, List.concat_eq_append] at va hy ⊢
        have : (L ++ [t]).getLastD 0 = t := by simp
        rw [this]
        rcases List.mem_append.mp hy with q | q
        · exact Int.le_of_lt ((List.pairwise_append.mp va).2.2 y q t (by simp))
        · rw [List.mem_singleton.mp q]; exact Int.le_refl _
theorem vals_row {p : List Flt} (hp : ∀ f ∈ p, f.ok) (hpl : p.length ≤ 98) {b : Bool} {l w : List Int} (la : l.Pairwise (· < ·)) (hv : valsP p [] b l w ≠ []) : ∃ x z, x ∈ valsP p [] b l w ∧ z ∈ valsP p [] b l w ∧ encLast (valsP p [] b l w) = .tuple [.int x, .int z] ∧ atI (dInts (valsP p [] b l w)) 0 = some (.int x) ∧ atI (dInts (valsP p [] b l w)) (-1) = some (.int z) ∧ 1 ≤ x ∧ x ≤ z ∧ z ≤ 8 ∧ (∀ y ∈ valsP p [] b l w, x ≤ y ∧ y ≤ z) ∧ rgD x (z + 1) = dInts (valsP p [] b l w) := by
  obtain ⟨x, z, hx, hz, e1, e2, e3, h⟩ := ends_of hv vals_asc
  have a := (mem_vals hp hpl la).mp hx
  have c := (mem_vals hp hpl la).mp hz
  refine ⟨x, z, hx, hz, e1, e2, e3, a.1, (h z hz).1, c.2.1, h, ?_⟩
  have r := row_of vals_asc hx hz h fun y h1 h2 => fill_vals hp hpl la hx hz h1 h2
  unfold rgD dInts
  rw [r, List.map_map]
  rfl
theorem eqv_pair (x z : Int) : PyData.eqv (.tuple [.int x, .int z]) (.tuple [.int x, .int z]) = true := by
  have := eqv_tints [x, z] [x, z]
  rw [decide_eq_true rfl] at this
  exact this
theorem shaped_pair (x z : Int) : SeqAt.shaped (.tuple [.int x, .int z]) = true := (shaped_ints [x, z]).1
abbrev sp_law := Sfn (fun xs : List Int => [encI xs]) (fun xs => xs.length ≤ 63) (fun _ => .bool true)
theorem ok_law {K : KK} {mg : Str → Option Value} {base : Heap} (T : Txt K mg base) : FnOk K.P K.w K.fr mg base CX0 9 T.a_law T.d_law ["script"] (spD K sp_law) := by
  refine ok_def T.F_law sc_law (fun ds R h => by first | exact sfn_len h (fun _ => rfl) | exact srel_len h (fun _ => rfl) | (obtain ⟨a, rfl, _⟩ := h; rfl)) (fun cdv A outer s H E hr => ⟨_, _,
(pss_cons (ps_for PassesOwn.never rfl (pi_range1 (by rfl) T.n_range (pa_cons pe_int pa_nil)) (pg_name (i := 1) sc_law.nd rfl (Or.inl rfl))
 (pss_cons (ps_set (i := 2) sc_law.nd rfl (Or.inl rfl) (pe_call (ok_law_digits T) (hr.mono (by decide)) (by rfl) T.g_law_digits T.F_law_digits.kp T.b_law_digits .nil pass0 (pa_cons (pv 0) (pa_cons (pv 1) (pa_cons pe_int (pa_cons pe_int pa_nil))))))
 (pss_cons (ps_unp (K := K) [3, 4] (pe_tup (pa_cons (pe_call (ok_law_pipeline T) (hr.mono (by decide)) (by rfl) T.g_law_pipeline T.F_law_pipeline.kp T.b_law_pipeline .nil pass0 (pa_cons (pv 2) (pa_cons pe_int (pa_cons pe_int pa_nil)))) (pa_cons (pe_call (ok_law_log T) (hr.mono (by decide)) (by rfl) T.g_law_log T.F_law_log.kp T.b_law_log .nil pass0 (pa_cons (pe_slice (sl_anyK (K := K) rfl) (pv 2) (po_some pe_int) po_none) (pa_cons pe_int pa_nil))) pa_nil))) (pg_tupK (K := K) (n := 2) rfl rfl (pgs_cons (pg_name (i := 3) sc_law.nd rfl (Or.inr rfl)) (pgs_cons (pg_name (i := 4) sc_law.nd rfl (Or.inr rfl)) pgs_nil))))
 (pss_one (ps_for PassesOwn.never rfl (pi_range1 (by rfl) T.n_range (pa_cons pe_int pa_nil)) (pg_name (i := 5) sc_law.nd rfl (Or.inl rfl))
 (pss_cons (ps_unp (K := K) [6, 7] (pe_tup (pa_cons (pe_ix (ix_seqK (K := K) rfl) (pe_lst (pa_cons pe_str (pa_cons pe_str pa_nil))) (pe_op op_mod (pv 5) pe_int) (fun _ _ => rfl)) (pa_cons (pe_op (op_addK (K := K) rfl) pe_int (pe_op op_mod (pe_ix (ix_seqK (K := K) rfl) (pv 2) (pe_op (op_addK (K := K) rfl) pe_int (pv 5)) (fun _ _ => rfl)) pe_int)) pa_nil))) (pg_tupK (K := K) (n := 2) rfl rfl (pgs_cons (pg_name (i := 6) sc_law.nd rfl (Or.inr rfl)) (pgs_cons (pg_name (i := 7) sc_law.nd rfl (Or.inl rfl)) pgs_nil))))
 (pss_cons (ps_set (i := 8) sc_law.nd rfl (Or.inl rfl) (pe_call (ok_law_result T) (hr.mono (by decide)) (by rfl) T.g_law_result T.F_law_result.kp T.b_law_result .nil pass0 (pa_cons (pe_op (op_addK (K := K) rfl) (pv 3) (pe_tup (pa_cons (pe_tup (pa_cons (pv 6) (pa_cons (pv 7) pa_nil))) pa_nil))) (pa_cons (pv 4) pa_nil))))
 (pss_cons (ps_set (i := 9) sc_law.nd rfl (Or.inl rfl) (pe_op op_mod (pe_ix (ix_seqK (K := K) rfl) (pv 2) (pe_op (op_addK (K := K) rfl) pe_int (pv 5)) (fun _ _ => rfl)) (pe_callB (call_lenK (K := K) rfl) (by rfl) T.n_len PySem.boot_len (pa_cons (pv 4) pa_nil))))
 (pss_cons (ps_for PassesOwn.never rfl (pi_seqK (K := K) rfl (pe_tup (pa_cons (pv 8) (pa_cons (pe_slice (sl_anyK (K := K) rfl) (pv 8) (po_some pe_int) po_none) (pa_cons (pe_slice (sl_anyK (K := K) rfl) (pv 8) po_none (po_some (pe_un un_neg pe_int))) (pa_cons (pe_callTy (call_tupleK (K := K) rfl) (by rfl) T.n_tuple PyProof.Rows.boot_tuple (pa_cons (pe_callB (call_sortedSetW (K := K) rfl rfl) (by rfl) T.n_sorted PyProof.Rows.boot_sorted (pa_cons (pe_callTy (call_setT (K := K) rfl rfl rfl) (by rfl) T.n_set PyProof.Rows.boot_set (pa_cons (pe_op (op_addK (K := K) rfl) (pv 8) (pe_slice (sl_anyK (K := K) rfl) (pv 4) (po_some (pv 9)) (po_some (pe_op (op_addK (K := K) rfl) (pv 9) pe_int)))) pa_nil)) pa_nil)) pa_nil)) (pa_cons (pv 4) (pa_cons (pe_tup pa_nil) pa_nil)))))))) (pg_name (i := 10) sc_law.nd rfl (Or.inr rfl))
 (pss_cons (ps_setLc (i := 12) (own := [("one", 11)]) rfl sc_law.nd rfl rfl (sw_true rfl rfl rfl (by decide +kernel)) (pi_range2 (by rfl) T.n_range (pa_cons pe_int (pa_cons pe_int pa_nil))) (blkOk_by (N := ["script", "index", "digits", "pipeline", "log", "turn", "name", "d", "kept", "place", "wished", "one", "valid", "found", "low", "high"]) (sc := defScope s_law) (by decide +kernel)) (fun _ _ _ _ _ => (pg_name (i := 11) sc_law.nd rfl (Or.inl rfl))) (fun _ _ _ _ _ => (pts_one (pt_cmpR (op_eqK (K := K) rfl hr.units) (pe_call (ok_law_result T) (hr.mono (by decide)) (by rfl) T.g_law_result T.F_law_result.kp T.b_law_result .nil pass0 (pa_cons (pe_op (op_addK (K := K) rfl) (pv 3) (pe_tup (pa_cons (pe_tup (pa_cons (pv 6) (pa_cons (pv 11) pa_nil))) pa_nil))) (pa_cons (pv 4) pa_nil))) (pv 10) (nomark _)))) (fun _ _ _ _ _ => (pv 11)))
 (pss_cons (ps_set (i := 13) sc_law.nd rfl (Or.inl rfl) (pe_call (ok_possible_last T) (hr.mono (by decide)) (by rfl) T.g_possible_last T.F_possible_last.kp T.b_possible_last .nil pass0 (pa_cons (pv 3) (pa_cons (pv 6) (pa_cons (pv 4) (pa_cons (pv 10) pa_nil))))))
 (pss_one (ps_if (pt_cmpR (op_eqK (K := K) rfl hr.units) (pv 12) (pe_lst pa_nil) (nomark _))
 (pss_one (ps_if (pt_cmp (pc_notN (pv 13)))
 (pss_one (ps_ret pe_bl))
 pss_nil))
 (pss_one (ps_if (pw_or (pt_cmpR (op_neK (K := K) rfl hr.units) (pv 13) (pe_tup (pa_cons (pe_ix (ix_seqK (K := K) rfl) (pv 12) pe_int (fun _ _ => rfl)) (pa_cons (pe_ix (ix_seqK (K := K) rfl) (pv 12) (pe_un un_neg pe_int) (fun _ _ => rfl)) pa_nil))) (nomark _)) (pw_or1 (pt_cmpR (op_neK (K := K) rfl hr.units) (pv 12) (pe_listRg rfl (by rfl) T.n_list (prg_2 (by rfl) T.n_range (pe_ix (ix_seqK (K := K) rfl) (pv 12) pe_int (fun _ _ => rfl)) (pe_op (op_addK (K := K) rfl) (pe_ix (ix_seqK (K := K) rfl) (pv 12) (pe_un un_neg pe_int) (fun _ _ => rfl)) pe_int))) (nomark _)))).pt
 (pss_one (ps_ret pe_bl))
 pss_nil)))))))
 (pss_cons (ps_asg (pe_call (ok_possible_last T) (hr.mono (by decide)) (by rfl) T.g_possible_last T.F_possible_last.kp T.b_possible_last .nil pass0 (pa_cons (pv 3) (pa_cons (pv 6) (pa_cons (pv 4) (pa_cons (pv 8) pa_nil))))) (pg_tupK (K := K) (n := 2) rfl rfl (pgs_cons (pg_name (i := 14) sc_law.nd rfl (Or.inl rfl)) (pgs_cons (pg_name (i := 15) sc_law.nd rfl (Or.inl rfl)) pgs_nil))))
 (pss_one (ps_if (pt_not (pt_chain op_le op_le (pv 14) (pv 7) (pv 15)))
 (pss_one (ps_ret pe_bl))
 pss_nil))))))))))))
 (pss_one (ps_ret (pe_cmpR (op_eqK (K := K) rfl hr.units) (pe_call (ok_possible_last T) (hr.mono (by decide)) (by rfl) T.g_possible_last T.F_possible_last.kp T.b_possible_last .nil pass0 (pa_cons (pe_tup pa_nil) (pa_cons pe_str (pa_cons (pe_tup (pa_cons pe_int (pa_cons pe_int (pa_cons pe_int (pa_cons pe_int (pa_cons pe_int pa_nil)))))) (pa_cons (pe_tup (pa_cons pe_int (pa_cons pe_int (pa_cons pe_int pa_nil)))) pa_nil))))) (pe_tup (pa_cons pe_int (pa_cons pe_int pa_nil))) (nomark _))))), (by (try dsimp only [nox_K]); infer_instance), fun ds R h => ?_⟩)
  obtain ⟨ns, rfl, hl, h⟩ := h
  dsimp only at hl h
  refine seq_gen (fun e => ∃ g1 g2 g3 g4 g5 g6 g7 g8 g9 g10 g11 g12 g13 g14 g15, e = [.val (encI ns), g1, g2, g3, g4, g5, g6, g7, g8, g9, g10, g11, g12, g13, g14, g15]) (fun e he => ?_) (fun Y0 hY0 => ?_)
  · obtain ⟨g1, g2, g3, g4, g5, g6, g7, g8, g9, g10, g11, g12, g13, g14, g15, rfl⟩ := he
    walk_at "pv"
    refine ⟨(([], false), [0, 2, 3, 7, 8], [0, 3, 7]), rfl, ⟨by simp, by decide, by decide⟩, ?_⟩
    dsimp only
    rw [val_0]
    have e : PyData.eqv (encLast [3]) (.tuple [.int 3, .int 3]) = true := by decide +kernel
    rw [e]
    exact ⟨by decide +kernel, by decide +kernel, h⟩
  show rFor _ _ _ _ _
  refine for_intro (List.range 8) (fun (i : Nat) => PyData.int (0 + i)) (fun Q h => ?_) (fun _ _ env => ∃ g1 g2 g3 g4 g5 g6 g7 g8 g9 g10 g11 g12 g13 g14 g15, env = [.val (encI ns), g1, g2, g3, g4, g5, g6, g7, g8, g9, g10, g11, g12, g13, g14, g15]) ⟨_, _, _, _, _, _, _, _, _, _, _, _, _, _, _, rfl⟩ ?_ ?_
  · walk_at "pv"
    exact ⟨by decide, by decide, h⟩
  · rintro pre i post env N hx ⟨g1, g2, g3, g4, g5, g6, g7, g8, g9, g10, g11, g12, g13, g14, g15, rfl⟩ hN
    obtain ⟨rfl, hi⟩ := range_at hx
    show rSeq _ _ _ _
    refine seq_gen2 (fun e => ∃ (digits : List Int) (p : List Flt) (l : List Int), e = [.val (encI ns), .val (.int (0 + pre.length)), .val (encI digits), .val (encP p), .val (encL l), g5, g6, g7, g8, g9, g10, g11, g12, g13, g14, g15] ∧ Digs digits 120 27720 ∧ Valid p 3 60 ∧ l.Pairwise (· < ·) ∧ l ≠ [] ∧ l.length ≤ 30) (fun e he => ?_) (fun Y hY => ?_)
    · obtain ⟨digits, p, l, rfl, hd, hp, la, lne, ll⟩ := he
      have hp4 := hp.few
      show rFor _ _ _ _ _
      refine for_intro (List.range 6) (fun (i : Nat) => PyData.int (0 + i)) (fun Q h => ?_) (fun _ _ env => ∃ g5 g6 g7 g8 g9 g10 g11 g12 g13 g14 g15, env = [.val (encI ns), .val (.int (0 + pre.length)), .val (encI digits), .val (encP p), .val (encL l), g5, g6, g7, g8, g9, g10, g11, g12, g13, g14, g15]) ⟨_, _, _, _, _, _, _, _, _, _, _, rfl⟩ ?_ ?_
      · walk_at "pv"
        exact ⟨by decide, by decide, h⟩
      · rintro pre2 j post2 env N2 hx2 ⟨g5, g6, g7, g8, g9, g10, g11, g12, g13, g14, g15, rfl⟩ hN2
        obtain ⟨rfl, hj⟩ := range_at hx2
        show rSeq _ _ _ _
        refine seq_gen (fun e => ∃ (b : Bool) (d : Int), e = [.val (encI ns), .val (.int (0 + pre.length)), .val (encI digits), .val (encP p), .val (encL l), .val (.int (0 + pre2.length)), .val (nmF b), .val (.int d), g8, g9, g10, g11, g12, g13, g14, g15] ∧ 1 ≤ d ∧ d ≤ 8) (fun e he => ?_) (fun Y2 hY2 => ?_)
        · obtain ⟨b, d, rfl, d1, d8⟩ := he
          have ok : OkP (p ++ [mkF b d]) := okP_mk (hp.okP (by decide)).ok (by simp) (by simp; omega) d1
          have d80 : 80 + pre2.length < digits.length := by rw [hd.len]; omega
          obtain ⟨pl, epl, pl0, pl1⟩ : ∃ pl : Nat, (digits.getD (80 + pre2.length) 0) % (l.length : Int) = (pl : Int) ∧ True ∧ pl ≤ 30 := by
            have lp : 0 < (l.length : Int) := by have := List.length_pos_iff.mpr lne; omega
            have z0 := Int.emod_nonneg (digits.getD (80 + pre2.length) 0) (show (l.length : Int) ≠ 0 by omega)
            have z1 := Int.emod_lt_of_pos (digits.getD (80 + pre2.length) 0) lp
            exact ⟨((digits.getD (80 + pre2.length) 0) % (l.length : Int)).toNat, by omega, trivial, by omega⟩
          have lp : 0 < l.length := List.length_pos_iff.mpr lne
          simp only [encP, encI, encL]
          refine seq_gen2 (fun e => ∃ g10 g11 g12 g13 g14 g15, e = [.val (.list (dInts ns)), .val (.int (0 + pre.length)), .val (.list (dInts digits)), .val (.tuple (p.map Flt.enc)), .val (.tuple (dInts l)), .val (.int (0 + pre2.length)), .val (nmF b), .val (.int d), .val (.tuple (dInts (kept (p ++ [mkF b d]) l))), .val (.int (pl : Int)), g10, g11, g12, g13, g14, g15]) (fun e he => ?_) (fun Y3 hY3 => ?_)
          case refine_2 =>
            walk_at "pv"
            rw [encP_snoc]
            refine ⟨by rw [List.length_map]; omega, (p ++ [mkF b d], l), rfl, ⟨ok, by show l.length ≤ 1000; omega⟩, ?_⟩
            dsimp only [encL]
            rw [show (80 : Int) + (0 + (pre2.length : Int)) = ((80 + pre2.length : Nat) : Int) by omega]
            refine ⟨_, atI_ints d80, _, rfl, by unfold dInts; rw [List.length_map]; omega, ?_⟩
            have ell : (dInts l).length = l.length := by unfold dInts; rw [List.length_map]
            rw [ell, epl]
            exact hY3 _ ⟨_, _, _, _, _, _, rfl⟩
          obtain ⟨g10, g11, g12, g13, g14, g15, rfl⟩ := he
          have kk : (kept (p ++ [mkF b d]) l).Sublist l := kept_sub _ _
          have kl : (kept (p ++ [mkF b d]) l).length ≤ 30 := Nat.le_trans kk.length_le ll
          obtain ⟨C, eC⟩ : ∃ C : List Int, C = cutL l (some (pl : Int)) (some ((pl : Int) + 1)) := ⟨_, rfl⟩
          have hC : ∀ x ∈ C, x ∈ l := fun x hx => by
            rw [eC] at hx
            unfold cutL at hx
            exact List.mem_of_mem_drop (List.mem_of_mem_take hx)
          have lC : C.length ≤ 30 := by
            rw [eC]
            unfold cutL; rw [List.length_take, List.length_drop]; omega
          have dm : d ∈ valsP p [] b l (kept (p ++ [mkF b d]) l) := (mem_vals (hp.okP (by decide)).ok (by omega) la).mpr ⟨d1, d8, rfl⟩
          generalize kept (p ++ [mkF b d]) l = K at kk kl dm
          have hK : ∀ x ∈ K, x ∈ l := fun x hx => kk.subset hx
          refine for_intro [K, K.drop 1, K.dropLast, l.filter fun x => decide (x ∈ K ++ C), l, []] encL (fun Q h => ?_) (fun _ _ env => ∃ g10 g11 g12 g13 g14 g15, env = [.val (.list (dInts ns)), .val (.int (0 + pre.length)), .val (.list (dInts digits)), .val (.tuple (p.map Flt.enc)), .val (.tuple (dInts l)), .val (.int (0 + pre2.length)), .val (nmF b), .val (.int d), .val (.tuple (dInts K)), .val (.int (pl : Int)), g10, g11, g12, g13, g14, g15]) ⟨_, _, _, _, _, _, rfl⟩ ?_ ?_
          · walk_at "pv"
            have ecut : PV.cutD (dInts l) (some (pl : Int)) (some ((pl : Int) + 1)) = dInts C := by
              unfold dInts
              rw [cutD_map, eC]
            rw [show PV.cutD (dInts K) (some 1) none = dInts (K.drop 1) from cut_drop _ 1 rfl, cut_dropLast, ecut]
            refine ⟨by unfold dInts; rw [List.length_map, List.length_map]; omega, K ++ C, by unfold dInts; rw [List.map_append], by rw [List.length_append]; omega, fun out o1 o2 => ?_⟩
            have eo : out = l.filter fun x => decide (x ∈ K ++ C) := asc_same o1 (la.sublist List.filter_sublist) fun x => by
              rw [o2, List.mem_filter, decide_eq_true_eq]
              constructor
              · intro m
                refine ⟨?_, m⟩
                rcases List.mem_append.mp m with z | z
                · exact hK x z
                · exact hC x z
              · exact fun m => m.2
            rw [eo]
            exact h
          · rintro pre3 w post3 env N3 hx3 ⟨g10, g11, g12, g13, g14, g15, rfl⟩ hN3
            simp only [encL]
            walk_at "pv"
            have vm : ∀ x, x ∈ valsP p [] b l w ↔ 1 ≤ x ∧ x ≤ 8 ∧ kept (p ++ [mkF b x]) l = w := fun x => mem_vals (hp.okP (by decide)).ok (by omega) la
            have va : (valsP p [] b l w).Pairwise (· < ·) := by
              unfold valsP valsP.intsUp
              exact List.Pairwise.sublist List.filter_sublist (List.pairwise_map.mpr (List.pairwise_lt_range.imp fun {i j} h => by omega))
            have ve : (List.range 8).filterMap (fun i : Nat => if decide (kept (p ++ [mkF b (1 + (i : Int))]) l = w) = true then some (PyData.int (1 + (i : Int))) else none) = dInts (valsP p [] b l w) := vals_fm (hp.okP (by decide)).ok (by omega) la
            refine lc_intro (List.range 8) (fun i : Nat => PyData.int (1 + (i : Int))) (fun i => if decide (kept (p ++ [mkF b (1 + (i : Int))]) l = w) = true then some (.int (1 + (i : Int))) else none) (fun Q h => ?_) (by rw [sizeLine_eq]; simp) (fun i N4 hi hN4 => ?_) ?_
            · walk_at "pv"
              exact ⟨by decide, by decide, by decide, by decide, h⟩
            · have ok4 : OkP (p ++ [mkF b (1 + (i : Int))]) := okP_mk (hp.okP (by decide)).ok (by simp) (by simp; omega) (by omega)
              walk_at "pv"
              rw [encP_snoc]
              refine ⟨by rw [List.length_map]; omega, (p ++ [mkF b (1 + (i : Int))], l), rfl, ⟨ok4, by show l.length ≤ 1000; omega⟩, shaped_encL _, shaped_encL _, ?_⟩
              have e : PyData.eqv (encL (kept (p ++ [mkF b (1 + (i : Int))]) l)) (.tuple (dInts w)) = decide (kept (p ++ [mkF b (1 + (i : Int))]) l = w) := eqv_tints _ _
              rw [e]
              by_cases q : kept (p ++ [mkF b (1 + (i : Int))]) l = w
              · rw [decide_eq_true q] at hN4 ⊢
                exact hN4
              · rw [decide_eq_false q] at hN4 ⊢
                exact hN4
            rw [ve]
            show sp_possible_last _ _
            refine ⟨((p, b), l, w), rfl, ⟨(hp.okP (by decide)).ok, by show p.length ≤ 98; omega, by show l.length ≤ 1000; omega⟩, ?_⟩
            dsimp only
            refine ⟨(shaped_ints _).2, (shaped_ints []).2, ?_⟩
            rw [eqv_dnilL]
            have hN3' := hN3 _ ⟨.val (.tuple (dInts w)), g11, .ow (.lst (dInts (valsP p [] b l w))), .val (encLast (valsP p [] b l w)), g14, g15, rfl⟩
            by_cases eV : valsP p [] b l w = []
            · rw [decide_eq_true eV, if_pos rfl]
              have e : encLast (valsP p [] b l w) = .none := by rw [eV]; rfl
              rw [e] at hN3'
              simp only [e]
              exact hN3'
            · rw [decide_eq_false eV, if_neg (by decide)]
              obtain ⟨x, z, _, _, e1, e2, e3, x1, xz, z8, _, er⟩ := vals_row (hp.okP (by decide)).ok (by omega) la eV
              rw [e1] at hN3'
              simp only [e1]
              refine ⟨_, e2, _, e3, shaped_pair _ _, shaped_pair _ _, ?_⟩
              rw [eqv_pair]
              refine ⟨_, e2, _, e3, ?_⟩
              dsimp only
              refine ⟨x, rfl, by refine ⟨?_, ?_, ?_⟩ <;> omega, (shaped_ints _).2, by rw [er]; exact (shaped_ints _).2, ?_⟩
              rw [er, eqv_lints, decide_eq_true rfl]
              exact hN3'
          · rintro env ⟨g10, g11, g12, g13, g14, g15, rfl⟩
            walk_at "pv"
            have eV : valsP p [] b l K ≠ [] := fun h => by rw [h] at dm; cases dm
            obtain ⟨x, z, _, _, e1, _, _, x1, xz, z8, hall, _⟩ := vals_row (hp.okP (by decide)).ok (by omega) la eV
            have dd := hall d dm
            refine ⟨((p, b), l, K), rfl, ⟨(hp.okP (by decide)).ok, by show p.length ≤ 98; omega, by show l.length ≤ 1000; omega⟩, ?_⟩
            dsimp only
            rw [e1]
            refine ⟨_, rfl, rfl, _, _, rfl, _, _, rfl, rfl, x, rfl, ?_⟩
            rw [if_pos dd.1]
            refine ⟨z, rfl, ?_⟩
            rw [decide_eq_true dd.2, if_neg (by decide)]
            exact hN2 _ ⟨_, _, _, _, _, _, _, _, _, _, _, rfl⟩
        · have d20 : 20 + pre2.length < digits.length := by rw [hd.len]; omega
          simp only [encI]
          walk_at "pv"
          rw [show (20 : Int) + (0 + (pre2.length : Int)) = ((20 + pre2.length : Nat) : Int) by omega]
          have e2 : (0 + (pre2.length : Int)) % 2 = 0 ∨ (0 + (pre2.length : Int)) % 2 = 1 := by omega
          rcases e2 with e2 | e2 <;> rw [e2]
          · refine ⟨by decide, _, rfl, _, atI_ints d20, _, rfl, by decide, hY2 _ ⟨false, 1 + digits.getD (20 + pre2.length) 0 % 8, rfl, by omega, by omega⟩⟩
          · refine ⟨by decide, _, rfl, _, atI_ints d20, _, rfl, by decide, hY2 _ ⟨true, 1 + digits.getD (20 + pre2.length) 0 % 8, rfl, by omega, by omega⟩⟩
      · rintro env ⟨g5, g6, g7, g8, g9, g10, g11, g12, g13, g14, g15, rfl⟩
        exact hN _ ⟨_, _, _, _, _, _, _, _, _, _, _, _, _, _, _, rfl⟩
    walk_at "pv"
    refine ⟨(ns, pre.length, 120, 27720), by simp, ⟨by show ns.length ≤ 1000; omega, by show pre.length ≤ 1000; omega, by show (120:Nat) ≤ 1000; decide, by show (0:Int) < 27720; decide, by show (27720:Int) < 1000000; decide⟩, fun digits hd => ?_⟩
    dsimp only at hd ⊢
    refine ⟨(digits, 3, 60), rfl, ⟨by show 3 ≤ 10; decide, by show 1 + 3 * 3 ≤ digits.length; rw [hd.len]; decide, by show (1 : Int) ≤ 60; decide, by show (60 : Int) ≤ 1000; decide⟩, fun p (hp : Valid p 3 60) => ?_⟩
    dsimp only [encI]
    rw [show PV.cutD (dInts digits) (some 30) none = dInts (digits.drop 30) from cut_drop digits 30 rfl]
    refine ⟨(digits.drop 30, 30), rfl, ⟨by show 3 + 30 ≤ (digits.drop 30).length; rw [List.length_drop, hd.len]; decide, by show 1 ≤ 30; decide, by show 30 ≤ 500; decide, fun x hx => hd.pos x (List.mem_of_mem_drop hx)⟩, fun l hlg => ?_⟩
    obtain ⟨la, lne, ll, l0, _⟩ := hlg
    exact hY _ ⟨digits, p, l, rfl, hd, hp, la, lne, ll⟩
  · exact hY0

theorem ints_dp {K : KK} {H : Hp} : ∀ ns : List Int, DpAll K H (ns.map V.int) (dInts ns)
  | [] => .nil
  | i :: ns => .cons (.int i) (ints_dp ns)
theorem law_start {P : Program} {w : World} {K : PySem.W.Frag} {H : Hp} {a : Addr} {ns : List Int} (hl : ns.length ≤ 63) (hS : L2.SqL K H a (ns.map V.int)) : spD (kOf P w K) sp_law [.ref a] H (fun v _ => v = .bl true) fun _ _ _ => False :=
  ⟨H, [encI ns], Sub.refl H, (fun P m => by cases m), .cons (.lst hS (ints_dp ns)) .nil, ns, rfl, hl, fun v H0' H' _ h => by cases h; rfl⟩
theorem all_mk {l : PySem.W.OpenLaw} {w : World} {K : PySem.W.Frag} {h : Heap} {mg : Str → Option Value} {fa : Addr} (X : K.In h) (G : h.Ns mainGlobals mg) (hfa : mg "law" = some (.ref fa))
    {f0 f1 f2 f3 f4 f5 f6 f7 f8 f9 f10 f11 f12 f13 f14 f15 f16 f17 f18 f19 f20 : Addr}
    {od0 an0 od1 an1 od2 an2 od3 an3 od4 an4 od5 an5 od6 an6 od7 an7 od8 an8 od9 an9 od10 an10 od11 an11 od12 an12 od13 an13 od14 an14 od15 an15 od16 an16 od17 an17 od18 an18 od19 an19 od20 an20 : Option Addr}
    {sl0 sl1 sl2 sl3 sl4 sl5 sl6 sl7 sl8 sl9 sl10 sl11 sl12 sl13 sl14 sl15 sl16 sl17 sl18 sl19 sl20 : Array (Option Value)}
    {oc0 kV0 dc0 pm0 ct0 cd0 oc1 kV1 dc1 pm1 ct1 cd1 oc2 kV2 dc2 pm2 ct2 cd2 oc3 kV3 dc3 pm3 ct3 cd3 oc4 kV4 dc4 pm4 ct4 cd4 oc5 kV5 dc5 pm5 ct5 cd5 oc6 kV6 dc6 pm6 ct6 cd6 oc7 kV7 dc7 pm7 ct7 cd7 oc8 kV8 dc8 pm8 ct8 cd8 oc9 kV9 dc9 pm9 ct9 cd9 oc10 kV10 dc10 pm10 ct10 cd10 oc11 kV11 dc11 pm11 ct11 cd11 oc12 kV12 dc12 pm12 ct12 cd12 oc13 kV13 dc13 pm13 ct13 cd13 oc14 kV14 dc14 pm14 ct14 cd14 oc15 kV15 dc15 pm15 ct15 cd15 oc16 kV16 dc16 pm16 ct16 cd16 oc17 kV17 dc17 pm17 ct17 cd17 oc18 kV18 dc18 pm18 ct18 cd18 oc19 kV19 dc19 pm19 ct19 cd19 oc20 kV20 dc20 pm20 ct20 cd20 : Value}
    (a0 : PySem.W.nsIn K mainGlobals "hold" = some (some (.ref f0))) (l0 : K.lookup f0 = some ⟨oc0, od0, .func (PySem.W.fnOf "hold" "hold" (defArgs s_hold) (defBody s_hold) (defScope s_hold) .none kV0 dc0 pm0 an0 cd0 ct0), sl0⟩) (c0 : PySem.W.codeIn K cd0 "hold" = true) (k0 : PySem.W.keepIn K (.ref f0) = true)
    (a1 : PySem.W.nsIn K mainGlobals "start" = some (some (.ref f1))) (l1 : K.lookup f1 = some ⟨oc1, od1, .func (PySem.W.fnOf "start" "start" (defArgs s_start) (defBody s_start) (defScope s_start) .none kV1 dc1 pm1 an1 cd1 ct1), sl1⟩) (c1 : PySem.W.codeIn K cd1 "start" = true) (k1 : PySem.W.keepIn K (.ref f1) = true)
    (a2 : PySem.W.nsIn K mainGlobals "step" = some (some (.ref f2))) (l2 : K.lookup f2 = some ⟨oc2, od2, .func (PySem.W.fnOf "step" "step" (defArgs s_step) (defBody s_step) (defScope s_step) .none kV2 dc2 pm2 an2 cd2 ct2), sl2⟩) (c2 : PySem.W.codeIn K cd2 "step" = true) (k2 : PySem.W.keepIn K (.ref f2) = true)
    (a3 : PySem.W.nsIn K mainGlobals "step_counting" = some (some (.ref f3))) (l3 : K.lookup f3 = some ⟨oc3, od3, .func (PySem.W.fnOf "step_counting" "step_counting" (defArgs s_step_counting) (defBody s_step_counting) (defScope s_step_counting) .none kV3 dc3 pm3 an3 cd3 ct3), sl3⟩) (c3 : PySem.W.codeIn K cd3 "step_counting" = true) (k3 : PySem.W.keepIn K (.ref f3) = true)
    (a4 : PySem.W.nsIn K mainGlobals "step_waiting" = some (some (.ref f4))) (l4 : K.lookup f4 = some ⟨oc4, od4, .func (PySem.W.fnOf "step_waiting" "step_waiting" (defArgs s_step_waiting) (defBody s_step_waiting) (defScope s_step_waiting) .none kV4 dc4 pm4 an4 cd4 ct4), sl4⟩) (c4 : PySem.W.codeIn K cd4 "step_waiting" = true) (k4 : PySem.W.keepIn K (.ref f4) = true)
    (a5 : PySem.W.nsIn K mainGlobals "decisions" = some (some (.ref f5))) (l5 : K.lookup f5 = some ⟨oc5, od5, .func (PySem.W.fnOf "decisions" "decisions" (defArgs s_decisions) (defBody s_decisions) (defScope s_decisions) .none kV5 dc5 pm5 an5 cd5 ct5), sl5⟩) (c5 : PySem.W.codeIn K cd5 "decisions" = true) (k5 : PySem.W.keepIn K (.ref f5) = true)
    (a6 : PySem.W.nsIn K mainGlobals "keep" = some (some (.ref f6))) (l6 : K.lookup f6 = some ⟨oc6, od6, .func (PySem.W.fnOf "keep" "keep" (defArgs s_keep) (defBody s_keep) (defScope s_keep) .none kV6 dc6 pm6 an6 cd6 ct6), sl6⟩) (c6 : PySem.W.codeIn K cd6 "keep" = true) (k6 : PySem.W.keepIn K (.ref f6) = true)
    (a7 : PySem.W.nsIn K mainGlobals "trace" = some (some (.ref f7))) (l7 : K.lookup f7 = some ⟨oc7, od7, .func (PySem.W.fnOf "trace" "trace" (defArgs s_trace) (defBody s_trace) (defScope s_trace) .none kV7 dc7 pm7 an7 cd7 ct7), sl7⟩) (c7 : PySem.W.codeIn K cd7 "trace" = true) (k7 : PySem.W.keepIn K (.ref f7) = true)
    (a8 : PySem.W.nsIn K mainGlobals "gap_before" = some (some (.ref f8))) (l8 : K.lookup f8 = some ⟨oc8, od8, .func (PySem.W.fnOf "gap_before" "gap_before" (defArgs s_gap_before) (defBody s_gap_before) (defScope s_gap_before) .none kV8 dc8 pm8 an8 cd8 ct8), sl8⟩) (c8 : PySem.W.codeIn K cd8 "gap_before" = true) (k8 : PySem.W.keepIn K (.ref f8) = true)
    (a9 : PySem.W.nsIn K mainGlobals "possible_last" = some (some (.ref f9))) (l9 : K.lookup f9 = some ⟨oc9, od9, .func (PySem.W.fnOf "possible_last" "possible_last" (defArgs s_possible_last) (defBody s_possible_last) (defScope s_possible_last) .none kV9 dc9 pm9 an9 cd9 ct9), sl9⟩) (c9 : PySem.W.codeIn K cd9 "possible_last" = true) (k9 : PySem.W.keepIn K (.ref f9) = true)
    (a10 : PySem.W.nsIn K mainGlobals "possible_values" = some (some (.ref f10))) (l10 : K.lookup f10 = some ⟨oc10, od10, .func (PySem.W.fnOf "possible_values" "possible_values" (defArgs s_possible_values) (defBody s_possible_values) (defScope s_possible_values) .none kV10 dc10 pm10 an10 cd10 ct10), sl10⟩) (c10 : PySem.W.codeIn K cd10 "possible_values" = true) (k10 : PySem.W.keepIn K (.ref f10) = true)
    (a11 : PySem.W.nsIn K mainGlobals "with_value" = some (some (.ref f11))) (l11 : K.lookup f11 = some ⟨oc11, od11, .func (PySem.W.fnOf "with_value" "with_value" (defArgs s_with_value) (defBody s_with_value) (defScope s_with_value) .none kV11 dc11 pm11 an11 cd11 ct11), sl11⟩) (c11 : PySem.W.codeIn K cd11 "with_value" = true) (k11 : PySem.W.keepIn K (.ref f11) = true)
    (a12 : PySem.W.nsIn K mainGlobals "_law_cell" = some (some (.ref f12))) (l12 : K.lookup f12 = some ⟨oc12, od12, .func (PySem.W.fnOf "_law_cell" "_law_cell" (defArgs s_law_cell) (defBody s_law_cell) (defScope s_law_cell) .none kV12 dc12 pm12 an12 cd12 ct12), sl12⟩) (c12 : PySem.W.codeIn K cd12 "_law_cell" = true) (k12 : PySem.W.keepIn K (.ref f12) = true)
    (a13 : PySem.W.nsIn K mainGlobals "_law_digits" = some (some (.ref f13))) (l13 : K.lookup f13 = some ⟨oc13, od13, .func (PySem.W.fnOf "_law_digits" "_law_digits" (defArgs s_law_digits) (defBody s_law_digits) (defScope s_law_digits) .none kV13 dc13 pm13 an13 cd13 ct13), sl13⟩) (c13 : PySem.W.codeIn K cd13 "_law_digits" = true) (k13 : PySem.W.keepIn K (.ref f13) = true)
    (a14 : PySem.W.nsIn K mainGlobals "_law_weight" = some (some (.ref f14))) (l14 : K.lookup f14 = some ⟨oc14, od14, .func (PySem.W.fnOf "_law_weight" "_law_weight" (defArgs s_law_weight) (defBody s_law_weight) (defScope s_law_weight) .none kV14 dc14 pm14 an14 cd14 ct14), sl14⟩) (c14 : PySem.W.codeIn K cd14 "_law_weight" = true) (k14 : PySem.W.keepIn K (.ref f14) = true)
    (a15 : PySem.W.nsIn K mainGlobals "_law_filter" = some (some (.ref f15))) (l15 : K.lookup f15 = some ⟨oc15, od15, .func (PySem.W.fnOf "_law_filter" "_law_filter" (defArgs s_law_filter) (defBody s_law_filter) (defScope s_law_filter) .none kV15 dc15 pm15 an15 cd15 ct15), sl15⟩) (c15 : PySem.W.codeIn K cd15 "_law_filter" = true) (k15 : PySem.W.keepIn K (.ref f15) = true)
    (a16 : PySem.W.nsIn K mainGlobals "_law_pipeline" = some (some (.ref f16))) (l16 : K.lookup f16 = some ⟨oc16, od16, .func (PySem.W.fnOf "_law_pipeline" "_law_pipeline" (defArgs s_law_pipeline) (defBody s_law_pipeline) (defScope s_law_pipeline) .none kV16 dc16 pm16 an16 cd16 ct16), sl16⟩) (c16 : PySem.W.codeIn K cd16 "_law_pipeline" = true) (k16 : PySem.W.keepIn K (.ref f16) = true)
    (a17 : PySem.W.nsIn K mainGlobals "_law_log" = some (some (.ref f17))) (l17 : K.lookup f17 = some ⟨oc17, od17, .func (PySem.W.fnOf "_law_log" "_law_log" (defArgs s_law_log) (defBody s_law_log) (defScope s_law_log) .none kV17 dc17 pm17 an17 cd17 ct17), sl17⟩) (c17 : PySem.W.codeIn K cd17 "_law_log" = true) (k17 : PySem.W.keepIn K (.ref f17) = true)
    (a18 : PySem.W.nsIn K mainGlobals "_law_kept" = some (some (.ref f18))) (l18 : K.lookup f18 = some ⟨oc18, od18, .func (PySem.W.fnOf "_law_kept" "_law_kept" (defArgs s_law_kept) (defBody s_law_kept) (defScope s_law_kept) .none kV18 dc18 pm18 an18 cd18 ct18), sl18⟩) (c18 : PySem.W.codeIn K cd18 "_law_kept" = true) (k18 : PySem.W.keepIn K (.ref f18) = true)
    (a19 : PySem.W.nsIn K mainGlobals "_law_result" = some (some (.ref f19))) (l19 : K.lookup f19 = some ⟨oc19, od19, .func (PySem.W.fnOf "_law_result" "_law_result" (defArgs s_law_result) (defBody s_law_result) (defScope s_law_result) .none kV19 dc19 pm19 an19 cd19 ct19), sl19⟩) (c19 : PySem.W.codeIn K cd19 "_law_result" = true) (k19 : PySem.W.keepIn K (.ref f19) = true)
    (a20 : PySem.W.nsIn K mainGlobals "law" = some (some (.ref f20))) (l20 : K.lookup f20 = some ⟨oc20, od20, .func (PySem.W.fnOf "law" "law" (defArgs s_law) (defBody s_law) (defScope s_law) .none kV20 dc20 pm20 an20 cd20 ct20), sl20⟩) (c20 : PySem.W.codeIn K cd20 "law" = true) (k20 : PySem.W.keepIn K (.ref f20) = true)
    (z0 : PySem.W.nsIn K mainGlobals "enumerate" = some none)
    (z1 : PySem.W.nsIn K mainGlobals "len" = some none)
    (z2 : PySem.W.nsIn K mainGlobals "list" = some none)
    (z3 : PySem.W.nsIn K mainGlobals "max" = some none)
    (z4 : PySem.W.nsIn K mainGlobals "range" = some none)
    (z5 : PySem.W.nsIn K mainGlobals "set" = some none)
    (z6 : PySem.W.nsIn K mainGlobals "sorted" = some none)
    (z7 : PySem.W.nsIn K mainGlobals "tuple" = some none)
    (z8 : PySem.W.nsIn K mainGlobals "zip" = some none)
    {t_LARGEST_PARAMETER : Tok} (y_LARGEST_PARAMETER : PySem.W.nsIn K mainGlobals "LARGEST_PARAMETER" = some (some (.int 8 t_LARGEST_PARAMETER)))
    : ∃ fd : FuncData, (∀ (s : Shared) (v : Value), BindsTo s fd ⟨[v], []⟩ [("script", v)]) ∧ ∀ base : Heap, K.In base → base.Ns mainGlobals mg → FnOk l.prog w K mg base CX0 9 fa fd ["script"] (spD (kOf l.prog w K) sp_law) := by
  cases hfa.symm.trans (PySem.W.mg_of X G a20)
  have F0 := fun_mk (st := s_hold) l0 c0 k0
  have b0 := F0.binds (ps := ["one"]) fun _ _ _ _ _ _ us hl => match us, hl with | [_], _ => rfl
  have F1 := fun_mk (st := s_start) l1 c1 k1
  have b1 := F1.binds (ps := ["pipeline"]) fun _ _ _ _ _ _ us hl => match us, hl with | [_], _ => rfl
  have F2 := fun_mk (st := s_step) l2 c2 k2
  have b2 := F2.binds (ps := ["pipeline", "state", "gap"]) fun _ _ _ _ _ _ us hl => match us, hl with | [_, _, _], _ => rfl
  have F3 := fun_mk (st := s_step_counting) l3 c3 k3
  have b3 := F3.binds (ps := ["one", "count", "arrives"]) fun _ _ _ _ _ _ us hl => match us, hl with | [_, _, _], _ => rfl
  have F4 := fun_mk (st := s_step_waiting) l4 c4 k4
  have b4 := F4.binds (ps := ["one", "waits", "gap", "arrives"]) fun _ _ _ _ _ _ us hl => match us, hl with | [_, _, _, _], _ => rfl
  have F5 := fun_mk (st := s_decisions) l5 c5 k5
  have b5 := F5.binds (ps := ["pipeline", "log"]) fun _ _ _ _ _ _ us hl => match us, hl with | [_, _], _ => rfl
  have F6 := fun_mk (st := s_keep) l6 c6 k6
  have b6 := F6.binds (ps := ["pipeline", "log"]) fun _ _ _ _ _ _ us hl => match us, hl with | [_, _], _ => rfl
  have F7 := fun_mk (st := s_trace) l7 c7 k7
  have b7 := F7.binds (ps := ["pipeline", "log"]) fun _ _ _ _ _ _ us hl => match us, hl with | [_, _], _ => rfl
  have F8 := fun_mk (st := s_gap_before) l8 c8 k8
  have b8 := F8.binds (ps := ["log", "at"]) fun _ _ _ _ _ _ us hl => match us, hl with | [_, _], _ => rfl
  have F9 := fun_mk (st := s_possible_last) l9 c9 k9
  have b9 := F9.binds (ps := ["pipeline", "name", "log", "kept"]) fun _ _ _ _ _ _ us hl => match us, hl with | [_, _, _, _], _ => rfl
  have F10 := fun_mk (st := s_possible_values) l10 c10 k10
  have b10 := F10.binds (ps := ["pipeline", "index", "log", "kept"]) fun _ _ _ _ _ _ us hl => match us, hl with | [_, _, _, _], _ => rfl
  have F11 := fun_mk (st := s_with_value) l11 c11 k11
  have b11 := F11.binds (ps := ["pipeline", "index", "d"]) fun _ _ _ _ _ _ us hl => match us, hl with | [_, _, _], _ => rfl
  have F12 := fun_mk (st := s_law_cell) l12 c12 k12
  have b12 := F12.binds (ps := ["script", "index"]) fun _ _ _ _ _ _ us hl => match us, hl with | [_, _], _ => rfl
  have F13 := fun_mk (st := s_law_digits) l13 c13 k13
  have b13 := F13.binds (ps := ["script", "index", "count", "base"]) fun _ _ _ _ _ _ us hl => match us, hl with | [_, _, _, _], _ => rfl
  have F14 := fun_mk (st := s_law_weight) l14 c14 k14
  have b14 := F14.binds (ps := ["one"]) fun _ _ _ _ _ _ us hl => match us, hl with | [_], _ => rfl
  have F15 := fun_mk (st := s_law_filter) l15 c15 k15
  have b15 := F15.binds (ps := ["digits"]) fun _ _ _ _ _ _ us hl => match us, hl with | [_], _ => rfl
  have F16 := fun_mk (st := s_law_pipeline) l16 c16 k16
  have b16 := F16.binds (ps := ["digits", "size", "top"]) fun _ _ _ _ _ _ us hl => match us, hl with | [_, _, _], _ => rfl
  have F17 := fun_mk (st := s_law_log) l17 c17 k17
  have b17 := F17.binds (ps := ["digits", "size"]) fun _ _ _ _ _ _ us hl => match us, hl with | [_, _], _ => rfl
  have F18 := fun_mk (st := s_law_kept) l18 c18 k18
  have b18 := F18.binds (ps := ["one", "events"]) fun _ _ _ _ _ _ us hl => match us, hl with | [_, _], _ => rfl
  have F19 := fun_mk (st := s_law_result) l19 c19 k19
  have b19 := F19.binds (ps := ["pipeline", "log"]) fun _ _ _ _ _ _ us hl => match us, hl with | [_, _], _ => rfl
  have F20 := fun_mk (st := s_law) l20 c20 k20
  have b20 := F20.binds (ps := ["script"]) fun _ _ _ _ _ _ us hl => match us, hl with | [_], _ => rfl
  refine ⟨PySem.W.fnOf "law" "law" (defArgs s_law) (defBody s_law) (defScope s_law) .none kV20 dc20 pm20 an20 cd20 ct20, fun s v => .of_eq rfl, fun base _ _ => ?_⟩
  let T : Txt (kOf l.prog w K) mg base := ⟨_, _, F0, PySem.W.mg_of X G a0, b0, _, _, F1, PySem.W.mg_of X G a1, b1, _, _, F2, PySem.W.mg_of X G a2, b2, _, _, F3, PySem.W.mg_of X G a3, b3, _, _, F4, PySem.W.mg_of X G a4, b4, _, _, F5, PySem.W.mg_of X G a5, b5, _, _, F6, PySem.W.mg_of X G a6, b6, _, _, F7, PySem.W.mg_of X G a7, b7, _, _, F8, PySem.W.mg_of X G a8, b8, _, _, F9, PySem.W.mg_of X G a9, b9, _, _, F10, PySem.W.mg_of X G a10, b10, _, _, F11, PySem.W.mg_of X G a11, b11, _, _, F12, PySem.W.mg_of X G a12, b12, _, _, F13, PySem.W.mg_of X G a13, b13, _, _, F14, PySem.W.mg_of X G a14, b14, _, _, F15, PySem.W.mg_of X G a15, b15, _, _, F16, PySem.W.mg_of X G a16, b16, _, _, F17, PySem.W.mg_of X G a17, b17, _, _, F18, PySem.W.mg_of X G a18, b18, _, _, F19, PySem.W.mg_of X G a19, b19, _, _, F20, PySem.W.mg_of X G a20, b20, PySem.W.mg_none_of X G z0, PySem.W.mg_none_of X G z1, PySem.W.mg_none_of X G z2, PySem.W.mg_none_of X G z3, PySem.W.mg_none_of X G z4, PySem.W.mg_none_of X G z5, PySem.W.mg_none_of X G z6, PySem.W.mg_none_of X G z7, PySem.W.mg_none_of X G z8, _, PySem.W.mg_of X G y_LARGEST_PARAMETER, ⟨_, rfl⟩⟩
  exact (ok_law T : FnOk l.prog w K mg base CX0 9 T.a_law T.d_law ["script"] (spD (kOf l.prog w K) sp_law))
end KX
open PySem PySem.W PyProof.Rows -- pv
set_option maxHeartbeats 0 in
theorem PySem.Challenge.cw_thinlog_k16_whole_possible_last_paramete_holds : PySem.Challenge.rw_thinlog_k16_whole_possible_last_paramete.Holds := by
  w_on; o_law; k_head; (case hw => w_witness2)
  k_fill
  refine L2.walk_of (l := PySem.Challenge.rw_thinlog_k16_whole_possible_last_paramete) (n := 63) (k := 9) (x := "script") (CX := fun _ => L2.CX0) (sp := fun w => PV.spD (PV.kOf PySem.Challenge.rw_thinlog_k16_whole_possible_last_paramete.prog w _) KX.sp_law) rfl (by decide) rfl ⟨rfl, by decide, by decide⟩ (fun w h Y => PySem.W.kIn_of Y) ?F (fun w H a ns hl _ hS => KX.law_start hl hS) (fun _ _ _ _ _ h => h)
  case F =>
    intro w mg fa h Ki G hmg
    refine' KX.all_mk Ki G hmg ?a0 ?l0 ?c0 ?k0 ?a1 ?l1 ?c1 ?k1 ?a2 ?l2 ?c2 ?k2 ?a3 ?l3 ?c3 ?k3 ?a4 ?l4 ?c4 ?k4 ?a5 ?l5 ?c5 ?k5 ?a6 ?l6 ?c6 ?k6 ?a7 ?l7 ?c7 ?k7 ?a8 ?l8 ?c8 ?k8 ?a9 ?l9 ?c9 ?k9 ?a10 ?l10 ?c10 ?k10 ?a11 ?l11 ?c11 ?k11 ?a12 ?l12 ?c12 ?k12 ?a13 ?l13 ?c13 ?k13 ?a14 ?l14 ?c14 ?k14 ?a15 ?l15 ?c15 ?k15 ?a16 ?l16 ?c16 ?k16 ?a17 ?l17 ?c17 ?k17 ?a18 ?l18 ?c18 ?k18 ?a19 ?l19 ?c19 ?k19 ?a20 ?l20 ?c20 ?k20 ?z0 ?z1 ?z2 ?z3 ?z4 ?z5 ?z6 ?z7 ?z8 ?y_LARGEST_PARAMETER
    (case a0 => k_is); (case l0 => k_is); (case c0 => k_is); (case k0 => k_is); (case a1 => k_is); (case l1 => k_is); (case c1 => k_is); (case k1 => k_is); (case a2 => k_is); (case l2 => k_is); (case c2 => k_is); (case k2 => k_is); (case a3 => k_is); (case l3 => k_is); (case c3 => k_is); (case k3 => k_is); (case a4 => k_is); (case l4 => k_is); (case c4 => k_is); (case k4 => k_is); (case a5 => k_is); (case l5 => k_is); (case c5 => k_is); (case k5 => k_is); (case a6 => k_is); (case l6 => k_is); (case c6 => k_is); (case k6 => k_is); (case a7 => k_is); (case l7 => k_is); (case c7 => k_is); (case k7 => k_is); (case a8 => k_is); (case l8 => k_is); (case c8 => k_is); (case k8 => k_is); (case a9 => k_is); (case l9 => k_is); (case c9 => k_is); (case k9 => k_is); (case a10 => k_is); (case l10 => k_is); (case c10 => k_is); (case k10 => k_is); (case a11 => k_is); (case l11 => k_is); (case c11 => k_is); (case k11 => k_is); (case a12 => k_is); (case l12 => k_is); (case c12 => k_is); (case k12 => k_is); (case a13 => k_is); (case l13 => k_is); (case c13 => k_is); (case k13 => k_is); (case a14 => k_is); (case l14 => k_is); (case c14 => k_is); (case k14 => k_is); (case a15 => k_is); (case l15 => k_is); (case c15 => k_is); (case k15 => k_is); (case a16 => k_is); (case l16 => k_is); (case c16 => k_is); (case k16 => k_is); (case a17 => k_is); (case l17 => k_is); (case c17 => k_is); (case k17 => k_is); (case a18 => k_is); (case l18 => k_is); (case c18 => k_is); (case k18 => k_is); (case a19 => k_is); (case l19 => k_is); (case c19 => k_is); (case k19 => k_is); (case a20 => k_is); (case l20 => k_is); (case c20 => k_is); (case k20 => k_is); (case z0 => k_is); (case z1 => k_is); (case z2 => k_is); (case z3 => k_is); (case z4 => k_is); (case z5 => k_is); (case z6 => k_is); (case z7 => k_is); (case z8 => k_is); (case y_LARGEST_PARAMETER => k_is)
