import PyProof.Rows.All
import Wide.All
import OpenK.AllK
import Wide.FinOn
import Open.SpecLaws
import KE.OsGo
import HandS.ForSpec
import HandS.ForMost
import HandS.Deep
import HandS.Walk
import HandS.Zip
import PySem.Challenge.RW_tagmenddesk_s01_answers
set_option Elab.async false
set_option maxRecDepth 100000
set_option maxHeartbeats 2000000
/-! Rules and words that the layer lacks, for tagmenddesk. -/
namespace Tm
open PySem PySem.Spec PyProof.Rows L2

/-! ### a def of the program's own, called by its name -/
def Cal (P : Program) (w : World) (K : PySem.W.Frag) (mg : Str → Option Value) (base : Heap) (k : Nat) (x : Str) (ps : List Str) (sp : Sp) : Prop :=
  ∃ (f : Addr) (fd : FuncData), FnOk P w K mg base CX0 k f fd ps sp ∧ mg x = some (.ref f) ∧ PySem.W.keepIn K (.ref f) = true ∧ Binds K fd ps []

section
variable {X : Cx}
theorem pe_u {k : Nat} {x : Str} {ps : List Str} {sp : Sp} {e : Expr} {es : List Expr} {t : TA} {p pos : Pos}
    (C : Cal X.prog X.w X.K X.mg X.base k x ps sp) (hr : Room k X.A) (ha : PA X (e :: es) t) (hg : Gl X x := by rfl)
    (hdb : (x == ("__debug__" : Str)) = false := by decide)
    (he : starEach (e :: es) X.env = (false, eval e X.env) :: starEach es X.env := by rfl)
    (hpl : (backTo pos (starEach es X.env)).any (·.1) = false := by rfl) :
    PE X (.Call (.Name x p) (e :: es) [] pos) (tCall sp [] E0 t) := by
  obtain ⟨f, fd, F, hm, hk, hb⟩ := C
  exact pe_call F hr hg hm hk hb .nil L2.pass0 ha hdb he hpl

/-! ### a < b < c < d -/
def tChain3 (r1 r2 r3 : R2) (ta tb tc td : TE) : TE := fun σ H Q =>
  ta σ H fun x H1 => tb σ H1 fun y H2 => r1 x y H2 fun z H3 => ∃ k, z = .bl k ∧
    (if k = true then tc σ H3 fun y2 H4 => r2 y y2 H4 fun z2 H5 => ∃ k2, z2 = .bl k2 ∧
      (if k2 = true then td σ H5 fun y3 H6 => r3 y2 y3 H6 Q else Q (.bl false) H5)
     else Q (.bl false) H3)
theorem pe_chain3 {o1 o2 o3 : CmpOp} {r1 r2 r3 : R2} {a b c d : Expr} {ta tb tc td : TE} {pos : Pos}
    (h1 : OpR X (compareOp o1) r1) (h2 : OpR X (compareOp o2) r2) (h3 : OpR X (compareOp o3) r3)
    (ha : PE X a ta) (hb : PE X b tb) (hc : PE X c tc) (hd : PE X d td)
    (hm : lastMarks [o1, o2, o3] [b, c, d] = false := by with_unfolding_all rfl) :
    PE X (.Compare a [o1, o2, o3] [b, c, d] pos) (tChain3 r1 r2 r3 ta tb tc td) := by
  refine ⟨fun pins s σ H Q I h => ?_⟩
  refine Compare_chain (thn (ha.run pins s σ H _ I h) fun v s1 ⟨x, H1, I1, q1, h⟩ => chain_link
    (thn (hb.run pins s1 σ H1 _ I1 h) fun u s2 ⟨y, H2, I2, q2, h⟩ =>
      thn (h1 pins s2 σ H2 x y v u _ I2 q1 q2 h) fun _ s3 ⟨z, H3, I3, q3, k, ez, h⟩ => ?_)) hm
  subst ez
  cases q3
  refine wpAny_truthy_bool ?_
  cases k with
  | false => exact ite_ff ⟨.bl false, H3, I3, rfl, h⟩
  | true =>
    refine ite_tt (chain_link (thn (hc.run pins s3 σ H3 _ I3 h) fun u2 s4 ⟨y2, H4, I4, q4, h⟩ =>
      thn (h2 pins s4 σ H4 y y2 u u2 _ I4 q2 q4 h) fun _ s5 ⟨z2, H5, I5, q5, k2, e2, h⟩ => ?_))
    subst e2
    cases q5
    refine wpAny_truthy_bool ?_
    cases k2 with
    | false => exact ite_ff ⟨.bl false, H5, I5, rfl, h⟩
    | true =>
      exact ite_tt (chain_last (thn (hd.run pins s5 σ H5 _ I5 h) fun u3 s6 ⟨y3, H6, I6, q6, h⟩ =>
        h3 pins s6 σ H6 y2 y3 u2 u3 Q I6 q4 q6 h))

/-! ### l.count(x), items data of any depth -/
def rCountD (K : PySem.W.Frag) : V → List V → Hp → VK → Prop := fun x xs H Q =>
  ∃ (a : Addr) (y : V) (d : PyData) (ds : List PyData), x = V.ref a ∧ xs = [y] ∧ Dp K H (V.ref a) (.list ds) ∧ Dp K H y d ∧
    SeqAt.shaped (.list ds) = true ∧ SeqAt.shaped d = true ∧ Q (.int ((ds.countP fun z => PyData.eqv z d : Nat) : Int)) H
theorem mt_countD (hu : X.A.units + 65 < cLine) : MtR X "list.count" (rCountD X.K) := by
  intro pins s σ H x xs v us Q I rx rxs h
  obtain ⟨a, y, d, ds, rfl, rfl, hl, hy, sl, sd, q⟩ := h
  cases rx
  cases rxs with
  | cons ry rt =>
    rename_i uy ut
    cases rt
    obtain ⟨bs, r1⟩ := Dp.reads I d y uy hy ry
    have hxs : PyData.canLayAll0 ds = true := SeqAt.canLay_of_shaped sl
    cases hl with
    | lst hs ha =>
      obtain ⟨its, rv, ⟨⟨cls, dd, data, sls⟩, n, ho, hc, hdn, hdt⟩, hlen⟩ := I.list hs
      simp only at hc hdt
      subst hc hdt
      obtain ⟨as, h4⟩ := Dp.readsAll I ds _ its ha rv
      have hmap : its.map (SeqAt.readOf s.heap) = ds := SeqAt.readsAll_map ds its as hxs h4
      refine call_meets PySem.F.slot_list_count ⟨_, ho, rfl⟩ PySem.F.entry_list_count (PySem.F.args_list_count_2 _ _)
        (SeqAt.list_countAt a its.toArray n dd sls uy (fun u => PyData.eqv (SeqAt.readOf s.heap u) d))
        ⟨ho, SeqAt.items_eqAt (vs := its.toArray) (show ReadsAll s.heap its.toArray.toList ds as from h4) r1 hxs (SeqAt.canLay_of_shaped sd) (room_in_shaped sd hu), ?_⟩
      have ec : its.toArray.toList.countP (fun u => PyData.eqv (SeqAt.readOf s.heap u) d) = ds.countP fun z => PyData.eqv z d := by
        rw [← hmap, List.countP_map]
        rfl
      refine ⟨.int ((ds.countP fun z => PyData.eqv z d : Nat) : Int), H, I.tok _, ⟨s.toks, ?_⟩, q⟩
      show Value.int ((its.toArray.toList.countP _ : Nat) : Int) s.toks = _
      rw [ec]

/-! ### len(set(xs)), ints -/
theorem met_full {ns : List Int} : ∀ i, i ≤ ns.length → (PyProof.Rows.firstMet (fun i => ns.getD i 0) i).length = i →
    PyProof.Rows.firstMet (fun i => ns.getD i 0) i = ns.take i ∧ (ns.take i).Nodup
  | 0, _, _ => ⟨rfl, List.nodup_nil⟩
  | i + 1, hi, hl => by
    have hlt : i < ns.length := hi
    have ev : ns.getD i 0 = ns[i] := by simp [hlt]
    have et : ns.take (i + 1) = ns.take i ++ [ns[i]] := by simp
    have hb := PyProof.Rows.firstMet_length_le (fun i => ns.getD i 0) i
    have es : PyProof.Rows.firstMet (fun i => ns.getD i 0) (i + 1) =
        if (PyProof.Rows.firstMet (fun i => ns.getD i 0) i).any (· == ns[i]) then PyProof.Rows.firstMet (fun i => ns.getD i 0) i
        else PyProof.Rows.firstMet (fun i => ns.getD i 0) i ++ [ns[i]] := by
      rw [PyProof.Rows.firstMet_succ, ev]
      rfl
    rw [es] at hl ⊢
    by_cases hc : (PyProof.Rows.firstMet (fun i => ns.getD i 0) i).any (· == ns[i]) = true
    · rw [if_pos hc] at hl
      omega
    · rw [if_neg hc] at hl ⊢
      rw [List.length_append, List.length_singleton] at hl
      obtain ⟨e1, e2⟩ := met_full i (Nat.le_of_lt hlt) (by omega)
      rw [e1, et]
      refine ⟨rfl, ?_⟩
      rw [List.nodup_append]
      refine ⟨e2, by simp, fun a ha b hbm => ?_⟩
      rw [List.mem_singleton] at hbm
      subst hbm
      intro hab
      subst hab
      apply hc
      rw [e1, List.any_eq_true]
      exact ⟨_, ha, by simp⟩
theorem met_short {ns : List Int} : (PyProof.Rows.firstMet (fun i => ns.getD i 0) ns.length).length < ns.length ↔ ¬ ns.Nodup := by
  have hb := PyProof.Rows.firstMet_length_le (fun i => ns.getD i 0) ns.length
  constructor
  · intro h hn
    rw [RZ.firstMet_nodup hn ns.length (Nat.le_refl _), List.take_length] at h
    omega
  · intro hn
    by_cases e : (PyProof.Rows.firstMet (fun i => ns.getD i 0) ns.length).length = ns.length
    · have := (met_full ns.length (Nat.le_refl _) e).2
      rw [List.take_length] at this
      exact absurd this hn
    · omega
def tLenSetG (K : PySem.W.Frag) (ta : TE) : TE := fun σ H Q => ta σ H fun x H1 =>
  ∃ (l : Addr) (ns : List Int), x = .ref l ∧ SqL K H1 l (ns.map V.int) ∧ ns.length ≤ 4000 ∧ ∀ n : Nat, (n < ns.length ↔ ¬ ns.Nodup) → Q (.int (n : Int)) H1
theorem pe_lenSetG {a : Expr} {ta : TE} {p p2 q pos : Pos} (hg : Gl X "len") (hm : X.mg "len" = none) (hg2 : Gl X "set") (hm2 : X.mg "set" = none)
    (ha : PE X a ta) (hc : X.calm = true := by rfl) (na : starEach [a] X.env = (false, eval a X.env) :: starEach [] X.env := by rfl) :
    PE X (.Call (.Name "len" p) [.Call (.Name "set" p2) [a] [] q] [] pos) (tLenSetG X.K ta) := by
  refine ⟨fun pins s σ H Q I h => ?_⟩
  refine Call_ (ld_blt I hg hm boot_len (PyProof.Rows.callWith_builtin1 (PyProof.Rows.args_cons ?_ rfl) rfl rfl))
  refine Call_ (ld_blt I hg2 hm2 boot_set (PyProof.Rows.callWith_type1 (PyProof.Rows.args_cons
    (thn (ha.run pins s σ H _ I h) fun v s1 ⟨x, H1, I1, rx, h1⟩ => PyProof.Rows.args_nil ?_) na) na rfl))
  obtain ⟨l, ns, rfl, hq, hl, h1⟩ := h1
  cases rx
  obtain ⟨its, r, pl, _⟩ := I1.list hq
  have hsz : its.toArray.size = ns.length := by rw [List.size_toArray, ← r.length, List.length_map]
  refine call_set_list (I1.ok.hd hc) pl.isList (by simpa using RZ.intsAre_vals r) (by rw [hsz]; unfold scanBound; omega) fun h' tk hS hk => PyProof.Rows.args_nil ?_
  rw [hsz] at hS
  obtain ⟨o, es, ep, t, ho, hex, hd, _, _, _, hf, hn⟩ := hS
  have I2 : Inv X pins σ H1 { s1 with heap := h', toks := tk } := I1.kept fun b o e => hk b o (Heap.lt_size e) e
  have hle := PyProof.Rows.firstMet_length_le (fun i => ns.getD i 0) ns.length
  exact call_len_set ho hex hd hf (by rw [hn]; omega) ⟨.int _, H1, I2.tok _, ⟨_, rfl⟩, h1 _ (by rw [hn]; exact met_short)⟩
end
theorem hu65 {A : Around} {k : Nat} (hr : Room k A) : A.units + 65 < cLine := by
  have := hr.un
  omega

/-! ### data -/
/-- all that is tracked but instances is as it was -/
def SameI (H H' : Hp) : Prop := ∀ b o, H b = some o → (∀ C dx fs, o ≠ .ins C dx fs) → H' b = some o
theorem sameI {H H' : Hp} (e : Same H H') : SameI H H' := fun b o h _ => e b o h
theorem SameI.refl (H : Hp) : SameI H H := fun _ _ h _ => h
theorem SameI.trans {H H1 H2 : Hp} (a : SameI H H1) (b : SameI H1 H2) : SameI H H2 := fun c o h n => b c o (a c o h n) n
section
variable {K : PySem.W.Frag} {H H' : Hp}
theorem SameI.seq {a : Addr} {xs : List V} (e : SameI H H') (h : SqL K H a xs) : SqL K H' a xs := by
  rcases h with (h | ⟨o, h⟩) | h
  · exact .inl (.inl (e _ _ h fun _ _ _ z => nomatch z))
  · exact .inl (.inr ⟨o, e _ _ h fun _ _ _ z => nomatch z⟩)
  · exact .inr h
theorem SameI.tup {a : Addr} {xs : List V} (e : SameI H H') (h : SqT K H a xs) : SqT K H' a xs := by
  rcases h with (h | ⟨o, h⟩) | h
  · exact .inl (.inl (e _ _ h fun _ _ _ z => nomatch z))
  · exact .inl (.inr ⟨o, e _ _ h fun _ _ _ z => nomatch z⟩)
  · exact .inr h
mutual
theorem dpI (e : SameI H H') : ∀ {v : V} {d : PyData}, Dp K H v d → Dp K H' v d
  | _, _, .non => .non
  | _, _, .bl b => .bl b
  | _, _, .int i => .int i
  | _, _, .str x => .str x
  | _, _, .lst hs ha => .lst (e.seq hs) (dpAllI e ha)
  | _, _, .tup hs ha => .tup (e.tup hs) (dpAllI e ha)
theorem dpAllI (e : SameI H H') : ∀ {vs : List V} {ds : List PyData}, DpAll K H vs ds → DpAll K H' vs ds
  | _, _, .nil => .nil
  | _, _, .cons h t => .cons (dpI e h) (dpAllI e t)
end
theorem dp_list {v : V} {ds : List PyData} (h : Dp K H v (.list ds)) : ∃ a xs, v = .ref a ∧ SqL K H a xs ∧ DpAll K H xs ds := by
  cases h with
  | lst hs ha => exact ⟨_, _, rfl, hs, ha⟩
theorem dp_tuple {v : V} {ds : List PyData} (h : Dp K H v (.tuple ds)) : ∃ a xs, v = .ref a ∧ SqT K H a xs ∧ DpAll K H xs ds := by
  cases h with
  | tup hs ha => exact ⟨_, _, rfl, hs, ha⟩
theorem dp_int {v : V} {i : Int} (h : Dp K H v (.int i)) : v = .int i := by
  cases h
  rfl
theorem dpAll_len : ∀ {vs : List V} {ds : List PyData}, DpAll K H vs ds → vs.length = ds.length
  | _, _, .nil => rfl
  | _, _, .cons _ t => congrArg (· + 1) (dpAll_len t)
theorem dpAll_get : ∀ {vs : List V} {ds : List PyData}, DpAll K H vs ds → ∀ {i : Nat} {x : V}, vs[i]? = some x → ∃ d, ds[i]? = some d ∧ Dp K H x d
  | _, _, .nil, i, x, h => by simp at h
  | _, _, .cons h _, 0, x, e => by
    simp at e
    subst e
    exact ⟨_, rfl, h⟩
  | _, _, .cons _ t, i + 1, x, e => by
    obtain ⟨d, h1, h2⟩ := dpAll_get t (i := i) (x := x) (by simpa using e)
    exact ⟨d, by simpa using h1, h2⟩
theorem dpAll_at : ∀ {vs : List V} {ds : List PyData}, DpAll K H vs ds → ∀ {i : Nat} {d : PyData}, ds[i]? = some d → ∃ x, vs[i]? = some x ∧ Dp K H x d
  | _, _, .nil, i, x, h => by simp at h
  | _, _, .cons h _, 0, x, e => by
    simp at e
    subst e
    exact ⟨_, rfl, h⟩
  | _, _, .cons _ t, i + 1, x, e => by
    obtain ⟨d, h1, h2⟩ := dpAll_at t (i := i) (d := x) (by simpa using e)
    exact ⟨d, by simpa using h1, h2⟩
theorem dpAll_app : ∀ {vs us : List V} {ds es : List PyData}, DpAll K H vs ds → DpAll K H us es → DpAll K H (vs ++ us) (ds ++ es)
  | _, _, _, _, .nil, q => q
  | _, _, _, _, .cons h t, q => .cons h (dpAll_app t q)
theorem dpAll_one {v : V} {d : PyData} (h : Dp K H v d) : DpAll K H [v] [d] := .cons h .nil
theorem dpAll_take : ∀ {vs : List V} {ds : List PyData} (n : Nat), DpAll K H vs ds → DpAll K H (vs.take n) (ds.take n)
  | _, _, 0, _ => .nil
  | _, _, _ + 1, .nil => .nil
  | _, _, n + 1, .cons h t => .cons h (dpAll_take n t)
theorem dpAll_drop : ∀ {vs : List V} {ds : List PyData} (n : Nat), DpAll K H vs ds → DpAll K H (vs.drop n) (ds.drop n)
  | _, _, 0, h => h
  | _, _, _ + 1, .nil => .nil
  | _, _, n + 1, .cons _ t => dpAll_drop n t
theorem dpAll_ints : ∀ {vs : List V} {ns : List Int}, DpAll K H vs (ns.map PyData.int) → vs = ns.map V.int
  | _, [], .nil => rfl
  | _, _ :: _, .cons h t => by rw [dp_int h, dpAll_ints t]; rfl
theorem ints_dpAll : ∀ (ns : List Int), DpAll K H (ns.map V.int) (ns.map PyData.int)
  | [] => .nil
  | n :: r => .cons (.int n) (ints_dpAll r)
end
/-! ### data without lists: it stays where lists change -/
def isI : PyData → Bool
  | .int _ => true
  | .bool _ => true
  | _ => false
def flatD : PyData → Bool
  | .tuple ds => ds.all isI
  | d => isI d
def SameT (H H' : Hp) : Prop := ∀ b o, H b = some o → (∀ xs, o ≠ .lst xs) → (∀ C dx fs, o ≠ .ins C dx fs) → H' b = some o
theorem sameT {H H' : Hp} (e : Same H H') : SameT H H' := fun b o h _ _ => e b o h
theorem SameT.trans {H H1 H2 : Hp} (a : SameT H H1) (b : SameT H1 H2) : SameT H H2 := fun c o h n m => b c o (a c o h n m) n m
theorem sameT_upd {H : Hp} {D : Addr} {xs : List V} {o : HO} (h : H D = some (.lst xs)) : SameT H (upd H D o) := fun b u e n _ => by
  by_cases hb : b = D
  · subst hb
    rw [h] at e
    cases e
    exact absurd rfl (n xs)
  · rw [upd_ne hb]
    exact e
section
variable {K : PySem.W.Frag} {H H' : Hp}
theorem SameT.tup {a : Addr} {xs : List V} (e : SameT H H') (h : SqT K H a xs) : SqT K H' a xs := by
  rcases h with (h | ⟨o, h⟩) | h
  · exact .inl (.inl (e _ _ h (fun _ z => nomatch z) fun _ _ _ z => nomatch z))
  · exact .inl (.inr ⟨o, e _ _ h (fun _ z => nomatch z) fun _ _ _ z => nomatch z⟩)
  · exact .inr h
theorem dpAll_isI (e : SameT H H') : ∀ {vs : List V} {ds : List PyData}, ds.all isI = true → DpAll K H vs ds → DpAll K H' vs ds
  | _, _, _, .nil => .nil
  | _, _, hf, .cons h t => by
    rw [List.all_cons, Bool.and_eq_true] at hf
    refine .cons ?_ (dpAll_isI e hf.2 t)
    cases h with
    | int i => exact .int i
    | bl b => exact .bl b
    | non => exact .non
    | str x => exact .str x
    | lst hs ha => exact Bool.noConfusion hf.1
    | tup hs ha => exact Bool.noConfusion hf.1
theorem dp_flat (e : SameT H H') {v : V} {d : PyData} (hf : flatD d = true) (h : Dp K H v d) : Dp K H' v d := by
  cases h with
  | int i => exact .int i
  | bl b => exact .bl b
  | non => exact .non
  | str x => exact .str x
  | lst hs ha => exact Bool.noConfusion hf
  | tup hs ha => exact .tup (e.tup hs) (dpAll_isI e hf ha)
theorem dpAll_flat (e : SameT H H') : ∀ {vs : List V} {ds : List PyData}, (∀ d ∈ ds, flatD d = true) → DpAll K H vs ds → DpAll K H' vs ds
  | _, _, _, .nil => .nil
  | _, _, hf, .cons h t => .cons (dp_flat e (hf _ (List.mem_cons_self ..)) h) (dpAll_flat e (fun d hd => hf d (List.mem_cons_of_mem _ hd)) t)
end
/-! ### new objects -/
theorem same_new {H : Hp} {p : Addr} {o : HO} (hp : H p = none) : Same H (upd H p o) := fun b u e => by
  rw [upd_ne (ne_of_none e hp)]
  exact e
theorem same_upd {H0 H : Hp} {p : Addr} {o : HO} (hp : H0 p = none) (s : Same H0 H) : Same H0 (upd H p o) := fun b u e => by
  rw [upd_ne (ne_of_none e hp)]
  exact s _ _ e

/-! ### what is handed back -/
def RetL (K : PySem.W.Frag) (H : Hp) (Q : VK) (ds : List PyData) : Prop := ∀ (H' : Hp) (p : Addr) (ys : List V), Same H H' → H p = none → H' p = some (.lst ys) → DpAll K H' ys ds → Q (.ref p) H'
def RetB (H : Hp) (Q : VK) (b : Bool) : Prop := ∀ H' : Hp, Same H H' → Q (.bl b) H'
def RetD (K : PySem.W.Frag) (H : Hp) (Q : VK) (d : PyData) : Prop := ∀ (H' : Hp) (v : V), Same H H' → Dp K H' v d → Q v H'

/-! ### loops over data -/
section
variable {α : Type} {enc : α → PyData} {K : PySem.W.Frag} {a : Addr}
theorem split_at {l : List α} {i : Nat} {x : α} (h : l[i]? = some x) : l = l.take i ++ x :: l.drop (i + 1) ∧ l.take (i + 1) = l.take i ++ [x] := by
  obtain ⟨hi, e⟩ := List.getElem?_eq_some_iff.mp h
  subst e
  refine ⟨?_, by simp⟩
  rw [← List.drop_eq_getElem_cons hi, List.take_append_drop]
theorem for_data {g : TG} {tb : TS} {D : Ends} {σ : L2.St} {H H0 : Hp} {l : List α} (hv : Dp K H0 (.ref a) (.list (l.map enc))) (Pv : List α → L2.St → Hp → Prop) (h0 : Pv [] σ H)
    (hk : ∀ pre σ' H', Pv pre σ' H' → SameI H0 H')
    (hs : ∀ pre x post v σ' H', l = pre ++ x :: post → Pv pre σ' H' → Dp K H' v (enc x) → g v σ' H' fun σ2 H2 => tb { D with nx := Pv (pre ++ [x]), ct := Pv (pre ++ [x]), bk := D.nx } σ2 H2)
    (hd : ∀ σ' H', Pv l σ' H' → D.nx σ' H') :
    (∃ xs, SqL K H a xs) ∧ ∃ W : Nat → Nat → L2.St → Hp → Prop, (∃ m, W 0 m σ H) ∧ ∀ i m σ H, W i m σ H →
      ((Itl K a).stop i H ∧ D.nx σ H) ∨ ((Itl K a).go i H ∧ ∃ N : L2.St → Hp → Prop, (∀ σ' H', N σ' H' → ∃ m', m' < m ∧ W (i + 1) m' σ' H') ∧ ∀ x H', (Itl K a).yld i H x H' → g x σ H' fun σ2 H2 => tb { D with nx := N, ct := N, bk := D.nx } σ2 H2) := by
  obtain ⟨a', xs, ea, hsq, hall⟩ := dp_list hv
  cases ea
  have hlen : xs.length = l.length := by rw [dpAll_len hall, List.length_map]
  refine ⟨⟨xs, (hk _ _ _ h0).seq hsq⟩, for_list (K := K) (a := a) (xs := xs) (fun i σ' H' => Pv (l.take i) σ' H') (by simpa using h0) (fun i σ' H' _ p => (hk _ _ _ p).seq hsq) ?_ ?_⟩
  · intro i v σ' H' hi p
    obtain ⟨d, h1, h2⟩ := dpAll_get (dpAllI (hk _ _ _ p) hall) hi
    rw [List.getElem?_map] at h1
    cases e : l[i]? with
    | none =>
      rw [e] at h1
      cases h1
    | some x =>
      rw [e] at h1
      cases h1
      obtain ⟨e1, e2⟩ := split_at e
      have q := hs (l.take i) x (l.drop (i + 1)) v σ' H' e1 p h2
      rw [← e2] at q
      exact q
  · intro σ' H' p
    rw [hlen, List.take_length] at p
    exact hd σ' H' p
theorem lc_data {g : TG} {tt : TT} {te : TE} {vs : List Nat} {σ : L2.St} {H : Hp} {D : Addr} {Qd : Hp → Prop} {l : List α} (hv : Dp K H (.ref a) (.list (l.map enc))) (f : α → List PyData) (hf : ∀ x, ∀ d ∈ f x, flatD d = true) (hD : H D = none) (hz : l.length ≤ 6000)
    (hs : ∀ pre x post v H' (QT : V → Hp → Prop) (QF : Hp → Prop), l = pre ++ x :: post → Same H H' → Dp K H' v (enc x) →
      (∀ y H4 d, f x = [d] → Same H' H4 → Dp K H4 y d → QT y H4) → (f x = [] → ∀ H3, Same H' H3 → QF H3) →
      g v (wipe σ vs) H' fun σ2 H2 => wipe σ2 vs = wipe σ vs ∧ tt σ2 H2 fun b H3 => if b = true then te σ2 H3 QT else QF H3)
    (hd : ∀ H' ys, Same H H' → H' D = some (.lst ys) → DpAll K H' ys (l.flatMap f) → Qd H') :
    ∃ W : Nat → Nat → Hp → Prop, (∃ m, W 0 m (upd H D (.lst []))) ∧ ∀ i m H, W i m H →
      ((Itl K a).stop i H ∧ Qd H) ∨ ((Itl K a).go i H ∧ ∃ Nx : Hp → Prop, (∀ H', Nx H' → ∃ m', m' < m ∧ W (i + 1) m' H') ∧ ∀ x H', (Itl K a).yld i H x H' → g x (wipe σ vs) H' fun σ2 H2 => wipe σ2 vs = wipe σ vs ∧ tt σ2 H2 fun b H3 =>
        if b = true then te σ2 H3 fun y H4 => ∃ acc, H4 D = some (.lst acc) ∧ acc.length < sizeLine ∧ Nx (upd H4 D (.lst (acc ++ [y]))) else Nx H3) := by
  obtain ⟨a', xs, ea, hsq, hall⟩ := dp_list hv
  cases ea
  have hlen : xs.length = l.length := by rw [dpAll_len hall, List.length_map]
  refine lc_list (K := K) (a := a) (xs := xs) (fun i H' => i ≤ l.length ∧ Same H H' ∧ ∃ ys, H' D = some (.lst ys) ∧ ys.length ≤ i ∧ DpAll K H' ys ((l.take i).flatMap f))
    ⟨Nat.zero_le _, same_new hD, [], upd_same, Nat.le_refl _, .nil⟩ (fun i H' _ p => (sameI p.2.1).seq hsq) ?_ ?_
  · rintro i v H' hi ⟨hil, sm, ys, hy, hyl, ha⟩
    obtain ⟨d, h1, h2⟩ := dpAll_get (dpAllI (sameI sm) hall) hi
    rw [List.getElem?_map] at h1
    cases e : l[i]? with
    | none =>
      rw [e] at h1
      cases h1
    | some x =>
      rw [e] at h1
      cases h1
      obtain ⟨e1, e2⟩ := split_at e
      have hlt : i < l.length := (List.getElem?_eq_some_iff.mp e).1
      refine hs (l.take i) x (l.drop (i + 1)) v H' _ _ e1 sm h2 (fun y H4 d ef s4 hy4 => ?_) (fun ef H3 s3 => ?_)
      · have hsl : (6000 : Nat) < sizeLine := by decide
        refine ⟨ys, s4 _ _ hy, by omega, hlt, ?_, ys ++ [y], upd_same, by simp; omega, ?_⟩
        · exact same_upd hD (sm.trans s4)
        · have st : SameT H4 (upd H4 D (.lst (ys ++ [y]))) := sameT_upd (s4 _ _ hy)
          rw [e2, List.flatMap_append]
          refine dpAll_app (dpAll_flat ((sameT s4).trans st) ?_ ha) ?_
          · intro d hd
            obtain ⟨z, _, hz2⟩ := List.mem_flatMap.mp hd
            exact hf z d hz2
          · simp only [List.flatMap_cons, List.flatMap_nil, ef, List.append_nil]
            exact dpAll_one (dp_flat st (hf x d (by rw [ef]; exact List.mem_singleton.mpr rfl)) hy4)
      · refine ⟨hlt, sm.trans s3, ys, s3 _ _ hy, by omega, ?_⟩
        rw [e2, List.flatMap_append]
        simp only [List.flatMap_cons, List.flatMap_nil, ef, List.append_nil]
        exact dpAllI (sameI s3) ha
  · rintro H' ⟨_, sm, ys, hy, _, ha⟩
    rw [hlen, List.take_length] at ha
    exact hd H' ys sm hy ha
end
end Tm
set_option Elab.async false
set_option maxRecDepth 100000
set_option maxHeartbeats 2000000
namespace Tm
open PySem PySem.Spec PyProof.Rows L2
/-! the program's text by places -/
def topS (i : Nat) : Stmt := PySem.Challenge.pw_tagmenddesk_s01_answers.main.body.getD i (.Pass ⟨0, 0, 0, 0⟩)
abbrev s_init : Stmt := inClass (topS 36) 0
abbrev N_init : List Str := ["self"]
theorem sc_init : FnScope N_init ["self"] (defScope s_init) := ⟨rfl, rfl, rfl, by decide +kernel, rfl, by decide +kernel, by decide +kernel⟩
abbrev s_read_segment : Stmt := topS 37
abbrev N_read_segment : List Str := ["numbers", "k"]
theorem sc_read_segment : FnScope N_read_segment ["numbers"] (defScope s_read_segment) := ⟨rfl, rfl, rfl, by decide +kernel, rfl, by decide +kernel, by decide +kernel⟩
abbrev s_write_segment : Stmt := topS 38
abbrev N_write_segment : List Str := ["things", "numbers", "kind", "number"]
theorem sc_write_segment : FnScope N_write_segment ["things"] (defScope s_write_segment) := ⟨rfl, rfl, rfl, by decide +kernel, rfl, by decide +kernel, by decide +kernel⟩
abbrev s_is_too_much : Stmt := topS 39
abbrev N_is_too_much : List Str := ["things", "tag_count", "thing"]
theorem sc_is_too_much : FnScope N_is_too_much ["things"] (defScope s_is_too_much) := ⟨rfl, rfl, rfl, by decide +kernel, rfl, by decide +kernel, by decide +kernel⟩
abbrev s_has_great_number : Stmt := topS 40
abbrev N_has_great_number : List Str := ["things", "kind", "number"]
theorem sc_has_great_number : FnScope N_has_great_number ["things"] (defScope s_has_great_number) := ⟨rfl, rfl, rfl, by decide +kernel, rfl, by decide +kernel, by decide +kernel⟩
abbrev s_are_tags_out_of_range : Stmt := topS 41
abbrev N_are_tags_out_of_range : List Str := ["tags", "numbers", "tag", "number"]
theorem sc_are_tags_out_of_range : FnScope N_are_tags_out_of_range ["tags"] (defScope s_are_tags_out_of_range) := ⟨rfl, rfl, rfl, by decide +kernel, rfl, by decide +kernel, by decide +kernel⟩
abbrev s_pieces_of : Stmt := topS 42
abbrev N_pieces_of : List Str := ["number", "pair"]
theorem sc_pieces_of : FnScope N_pieces_of ["number", "pair"] (defScope s_pieces_of) := ⟨rfl, rfl, rfl, by decide +kernel, rfl, by decide +kernel, by decide +kernel⟩
abbrev s_is_of_source : Stmt := topS 43
abbrev N_is_of_source : List Str := ["tags", "thing", "tag"]
theorem sc_is_of_source : FnScope N_is_of_source ["tags", "thing"] (defScope s_is_of_source) := ⟨rfl, rfl, rfl, by decide +kernel, rfl, by decide +kernel, by decide +kernel⟩
abbrev s_strange_faults : Stmt := topS 44
abbrev N_strange_faults : List Str := ["tags", "things", "numbers", "thing", "number"]
theorem sc_strange_faults : FnScope N_strange_faults ["tags", "things"] (defScope s_strange_faults) := ⟨rfl, rfl, rfl, by decide +kernel, rfl, by decide +kernel, by decide +kernel⟩
abbrev s_is_whole : Stmt := topS 45
abbrev N_is_whole : List Str := ["things", "number"]
theorem sc_is_whole : FnScope N_is_whole ["things", "number"] (defScope s_is_whole) := ⟨rfl, rfl, rfl, by decide +kernel, rfl, by decide +kernel, by decide +kernel⟩
abbrev s_is_in_order : Stmt := topS 46
abbrev N_is_in_order : List Str := ["things", "number"]
theorem sc_is_in_order : FnScope N_is_in_order ["things", "number"] (defScope s_is_in_order) := ⟨rfl, rfl, rfl, by decide +kernel, rfl, by decide +kernel, by decide +kernel⟩
abbrev s_crosses : Stmt := topS 47
abbrev N_crosses : List Str := ["things", "first", "second", "first_opens", "first_closes", "second_opens", "second_closes"]
theorem sc_crosses : FnScope N_crosses ["things", "first", "second"] (defScope s_crosses) := ⟨rfl, rfl, rfl, by decide +kernel, rfl, by decide +kernel, by decide +kernel⟩
abbrev s_crossing_faults : Stmt := topS 48
abbrev N_crossing_faults : List Str := ["tags", "things", "number", "others", "tag", "other"]
theorem sc_crossing_faults : FnScope N_crossing_faults ["tags", "things", "number"] (defScope s_crossing_faults) := ⟨rfl, rfl, rfl, by decide +kernel, rfl, by decide +kernel, by decide +kernel⟩
abbrev s_pair_faults : Stmt := topS 49
abbrev N_pair_faults : List Str := ["tags", "things", "number", "needed", "openings", "closings"]
theorem sc_pair_faults : FnScope N_pair_faults ["tags", "things", "number", "needed"] (defScope s_pair_faults) := ⟨rfl, rfl, rfl, by decide +kernel, rfl, by decide +kernel, by decide +kernel⟩
abbrev s_alone_faults : Stmt := topS 50
abbrev N_alone_faults : List Str := ["things", "number", "needed", "times"]
theorem sc_alone_faults : FnScope N_alone_faults ["things", "number", "needed"] (defScope s_alone_faults) := ⟨rfl, rfl, rfl, by decide +kernel, rfl, by decide +kernel, by decide +kernel⟩
abbrev s_faults_of : Stmt := topS 51
abbrev N_faults_of : List Str := ["tags", "things", "found", "number", "pair", "needed"]
theorem sc_faults_of : FnScope N_faults_of ["tags", "things"] (defScope s_faults_of) := ⟨rfl, rfl, rfl, by decide +kernel, rfl, by decide +kernel, by decide +kernel⟩
abbrev s_is_as_told : Stmt := topS 52
abbrev N_is_as_told : List Str := ["tags", "things", "all_needed", "tag"]
theorem sc_is_as_told : FnScope N_is_as_told ["tags", "things"] (defScope s_is_as_told) := ⟨rfl, rfl, rfl, by decide +kernel, rfl, by decide +kernel, by decide +kernel⟩
abbrev s_may_stay : Stmt := topS 53
abbrev N_may_stay : List Str := ["tags", "kept", "fault"]
theorem sc_may_stay : FnScope N_may_stay ["tags", "kept"] (defScope s_may_stay) := ⟨rfl, rfl, rfl, by decide +kernel, rfl, by decide +kernel, by decide +kernel⟩
abbrev s_choices_that_may_stay : Stmt := topS 54
abbrev N_choices_that_may_stay : List Str := ["tags", "things", "choices", "thing", "longer", "kept", "more"]
theorem sc_choices_that_may_stay : FnScope N_choices_that_may_stay ["tags", "things"] (defScope s_choices_that_may_stay) := ⟨rfl, rfl, rfl, by decide +kernel, rfl, by decide +kernel, by decide +kernel⟩
abbrev s_completed : Stmt := topS 55
abbrev N_completed : List Str := ["tags", "kept", "things", "thing", "opening", "closing", "number", "pair", "needed", "pieces", "piece"]
theorem sc_completed : FnScope N_completed ["tags", "kept"] (defScope s_completed) := ⟨rfl, rfl, rfl, by decide +kernel, rfl, by decide +kernel, by decide +kernel⟩
abbrev s_mended : Stmt := topS 56
abbrev N_mended : List Str := ["tags", "things", "best", "kept", "whole", "taken_out", "put_in"]
theorem sc_mended : FnScope N_mended ["tags", "things"] (defScope s_mended) := ⟨rfl, rfl, rfl, by decide +kernel, rfl, by decide +kernel, by decide +kernel⟩
abbrev s_standing : Stmt := topS 57
abbrev N_standing : List Str := ["desk"]
theorem sc_standing : FnScope N_standing ["desk"] (defScope s_standing) := ⟨rfl, rfl, rfl, by decide +kernel, rfl, by decide +kernel, by decide +kernel⟩
abbrev s_without : Stmt := topS 58
abbrev N_without : List Str := ["things", "spot"]
theorem sc_without : FnScope N_without ["things", "spot"] (defScope s_without) := ⟨rfl, rfl, rfl, by decide +kernel, rfl, by decide +kernel, by decide +kernel⟩
abbrev s_change : Stmt := topS 59
abbrev N_change : List Str := ["desk", "things"]
theorem sc_change : FnScope N_change ["desk", "things"] (defScope s_change) := ⟨rfl, rfl, rfl, by decide +kernel, rfl, by decide +kernel, by decide +kernel⟩
abbrev s_source_answer : Stmt := topS 60
abbrev N_source_answer : List Str := ["desk", "told", "segment_start", "tags", "things", "k"]
theorem sc_source_answer : FnScope N_source_answer ["desk", "told"] (defScope s_source_answer) := ⟨rfl, rfl, rfl, by decide +kernel, rfl, by decide +kernel, by decide +kernel⟩
abbrev s_target_answer : Stmt := topS 61
abbrev N_target_answer : List Str := ["desk", "numbers", "things"]
theorem sc_target_answer : FnScope N_target_answer ["desk", "numbers"] (defScope s_target_answer) := ⟨rfl, rfl, rfl, by decide +kernel, rfl, by decide +kernel, by decide +kernel⟩
abbrev s_faults_answer : Stmt := topS 62
abbrev N_faults_answer : List Str := ["desk", "found", "numbers", "fault", "number", "other"]
theorem sc_faults_answer : FnScope N_faults_answer ["desk"] (defScope s_faults_answer) := ⟨rfl, rfl, rfl, by decide +kernel, rfl, by decide +kernel, by decide +kernel⟩
abbrev s_segment_answer : Stmt := topS 63
abbrev N_segment_answer : List Str := ["things"]
theorem sc_segment_answer : FnScope N_segment_answer ["things"] (defScope s_segment_answer) := ⟨rfl, rfl, rfl, by decide +kernel, rfl, by decide +kernel, by decide +kernel⟩
abbrev s_mend_answer : Stmt := topS 64
abbrev N_mend_answer : List Str := ["desk", "best"]
theorem sc_mend_answer : FnScope N_mend_answer ["desk"] (defScope s_mend_answer) := ⟨rfl, rfl, rfl, by decide +kernel, rfl, by decide +kernel, by decide +kernel⟩
abbrev s_would_answer : Stmt := topS 65
abbrev N_would_answer : List Str := ["desk", "best"]
theorem sc_would_answer : FnScope N_would_answer ["desk"] (defScope s_would_answer) := ⟨rfl, rfl, rfl, by decide +kernel, rfl, by decide +kernel, by decide +kernel⟩
abbrev s_put_answer : Stmt := topS 66
abbrev N_put_answer : List Str := ["desk", "spot", "kind", "number", "things"]
theorem sc_put_answer : FnScope N_put_answer ["desk", "spot", "kind", "number"] (defScope s_put_answer) := ⟨rfl, rfl, rfl, by decide +kernel, rfl, by decide +kernel, by decide +kernel⟩
abbrev s_refusal_of_taking : Stmt := topS 67
abbrev N_refusal_of_taking : List Str := ["things", "spot"]
theorem sc_refusal_of_taking : FnScope N_refusal_of_taking ["things", "spot"] (defScope s_refusal_of_taking) := ⟨rfl, rfl, rfl, by decide +kernel, rfl, by decide +kernel, by decide +kernel⟩
abbrev s_take_answer : Stmt := topS 68
abbrev N_take_answer : List Str := ["desk", "spot", "refusal"]
theorem sc_take_answer : FnScope N_take_answer ["desk", "spot"] (defScope s_take_answer) := ⟨rfl, rfl, rfl, by decide +kernel, rfl, by decide +kernel, by decide +kernel⟩
abbrev s_move_answer : Stmt := topS 69
abbrev N_move_answer : List Str := ["desk", "spot", "other", "refusal", "others"]
theorem sc_move_answer : FnScope N_move_answer ["desk", "spot", "other"] (defScope s_move_answer) := ⟨rfl, rfl, rfl, by decide +kernel, rfl, by decide +kernel, by decide +kernel⟩
abbrev s_rewrite_answer : Stmt := topS 70
abbrev N_rewrite_answer : List Str := ["desk", "spot", "many", "words", "end", "new_words", "staying", "things", "word", "thing"]
theorem sc_rewrite_answer : FnScope N_rewrite_answer ["desk", "spot", "many", "words"] (defScope s_rewrite_answer) := ⟨rfl, rfl, rfl, by decide +kernel, rfl, by decide +kernel, by decide +kernel⟩
abbrev s_words_within : Stmt := topS 71
abbrev N_words_within : List Str := ["things", "number", "first", "last", "thing"]
theorem sc_words_within : FnScope N_words_within ["things", "number"] (defScope s_words_within) := ⟨rfl, rfl, rfl, by decide +kernel, rfl, by decide +kernel, by decide +kernel⟩
abbrev s_within_answer : Stmt := topS 72
abbrev N_within_answer : List Str := ["desk", "number", "in_source", "in_translation"]
theorem sc_within_answer : FnScope N_within_answer ["desk", "number"] (defScope s_within_answer) := ⟨rfl, rfl, rfl, by decide +kernel, rfl, by decide +kernel, by decide +kernel⟩
abbrev s_undo_answer : Stmt := topS 73
abbrev N_undo_answer : List Str := ["desk"]
theorem sc_undo_answer : FnScope N_undo_answer ["desk"] (defScope s_undo_answer) := ⟨rfl, rfl, rfl, by decide +kernel, rfl, by decide +kernel, by decide +kernel⟩
abbrev s_call_length : Stmt := topS 74
abbrev N_call_length : List Str := ["calls", "start", "length"]
theorem sc_call_length : FnScope N_call_length ["calls", "start"] (defScope s_call_length) := ⟨rfl, rfl, rfl, by decide +kernel, rfl, by decide +kernel, by decide +kernel⟩
abbrev s_call_answer : Stmt := topS 75
abbrev N_call_answer : List Str := ["desk", "call"]
theorem sc_call_answer : FnScope N_call_answer ["desk", "call"] (defScope s_call_answer) := ⟨rfl, rfl, rfl, by decide +kernel, rfl, by decide +kernel, by decide +kernel⟩
abbrev s_answers : Stmt := topS 76
abbrev N_answers : List Str := ["calls", "desk", "given", "start", "length", "answer"]
theorem sc_answers : FnScope N_answers ["calls"] (defScope s_answers) := ⟨rfl, rfl, rfl, by decide +kernel, rfl, by decide +kernel, by decide +kernel⟩
end Tm
set_option Elab.async false
set_option maxRecDepth 100000
set_option maxHeartbeats 2000000
namespace Tm
open PySem PySem.Spec PyProof.Rows L2
open Ut02 (Tag Seg Fault)
abbrev Tk := Ut02.Tok

/-! ### how things, tags, faults lie as Python's data -/
def kindN : Tk → Nat
  | .word _ => 0
  | .open_ _ => 1
  | .close _ => 2
  | .alone _ => 3
def numN : Tk → Nat
  | .word n => n
  | .open_ n => n
  | .close n => n
  | .alone n => n
def b01 (b : Bool) : Int := if b = true then 1 else 0
def tokD (t : Tk) : PyData := .tuple [.int (kindN t), .int (numN t)]
def tagD (g : Tag) : PyData := .tuple [.int g.i, .int (b01 g.pair), .int (b01 g.must)]
def fltD (f : Fault) : PyData := .tuple [.int f.1, .int f.2.1, .int f.2.2]
theorem tok_ext {a b : Tk} (h1 : kindN a = kindN b) (h2 : numN a = numN b) : a = b := by
  cases a <;> cases b <;> simp_all [kindN, numN]
theorem isTag_kind (t : Tk) : Ut02.isTag t = decide (kindN t ≠ 0) := by
  cases t <;> rfl
theorem b01_one (b : Bool) : decide (b01 b = 1) = b := by cases b <;> rfl
theorem int_beq (a b : Nat) : (((a : Nat) : Int) == ((b : Nat) : Int)) = decide (a = b) := by
  by_cases h : a = b
  · subst h
    simp
  · rw [decide_eq_false h]
    exact beq_eq_false_iff_ne.mpr (by omega)
theorem tok_eqv (a b : Tk) : PyData.eqv (tokD a) (tokD b) = decide (a = b) := by
  have e : PyData.eqv (tokD a) (tokD b) = ((((kindN a : Nat) : Int) == ((kindN b : Nat) : Int)) && ((((numN a : Nat) : Int) == ((numN b : Nat) : Int)) && true)) := by simp only [tokD, PyData.eqv, PyData.eqvAll]
  rw [e, int_beq, int_beq, Bool.and_true]
  by_cases h : a = b
  · subst h
    simp
  · rw [decide_eq_false h]
    by_cases h1 : kindN a = kindN b
    · rw [decide_eq_false (fun h2 => h (tok_ext h1 h2)), Bool.and_false]
    · rw [decide_eq_false h1, Bool.false_and]
theorem tokD_lay (t : Tk) : (tokD t).canLay0 = true := by simp [tokD, PyData.canLay0, PyData.canLayAll0]
theorem tokD_depth (t : Tk) : (tokD t).depth = 1 := by simp [tokD, PyData.depth, PyData.depthAll]
theorem toks_lay : ∀ s : List Tk, PyData.canLayAll0 (s.map tokD) = true
  | [] => by simp [PyData.canLayAll0]
  | t :: s => by simp [PyData.canLayAll0, tokD_lay t, toks_lay s]
theorem toks_depth : ∀ s : List Tk, PyData.depthAll (s.map tokD) ≤ 1
  | [] => by simp [PyData.depthAll]
  | t :: s => by
    have h1 := toks_depth s
    have h2 := tokD_depth t
    simp only [List.map_cons, PyData.depthAll]
    omega
theorem tok_shaped (t : Tk) : SeqAt.shaped (tokD t) = true := by
  show ((tokD t).canLay0 && decide ((tokD t).depth ≤ 64)) = true
  rw [tokD_lay, tokD_depth]
  rfl
theorem toks_shaped (s : List Tk) : SeqAt.shaped (.list (s.map tokD)) = true := by
  have h1 := toks_depth s
  show (PyData.canLay0 (.list (s.map tokD)) && decide (PyData.depth (.list (s.map tokD)) ≤ 64)) = true
  rw [Bool.and_eq_true]
  refine ⟨?_, decide_eq_true ?_⟩
  · simp only [PyData.canLay0]
    exact toks_lay s
  · simp only [PyData.depth]
    omega
theorem tok_flat (t : Tk) : flatD (tokD t) = true := rfl
theorem tag_flat (g : Tag) : flatD (tagD g) = true := rfl
theorem flt_flat (f : Fault) : flatD (fltD f) = true := rfl
section
variable {K : PySem.W.Frag} {H H' : Hp}
abbrev TokL (K : PySem.W.Frag) (H : Hp) (v : V) (s : List Tk) : Prop := Dp K H v (.list (s.map tokD))
abbrev TagL (K : PySem.W.Frag) (H : Hp) (v : V) (l : List Tag) : Prop := Dp K H v (.list (l.map tagD))
abbrev IntL (K : PySem.W.Frag) (H : Hp) (v : V) (ns : List Int) : Prop := Dp K H v (.list (ns.map PyData.int))
theorem dp_two {v : V} {i j : Int} (h : Dp K H v (.tuple [.int i, .int j])) : ∃ a, v = .ref a ∧ SqT K H a [.int i, .int j] := by
  obtain ⟨a, xs, rfl, hs, ha⟩ := dp_tuple h
  cases ha with
  | cons h1 t =>
    cases t with
    | cons h2 t =>
      cases t
      rw [dp_int h1, dp_int h2] at hs
      exact ⟨a, rfl, hs⟩
theorem dp_three {v : V} {i j k : Int} (h : Dp K H v (.tuple [.int i, .int j, .int k])) : ∃ a, v = .ref a ∧ SqT K H a [.int i, .int j, .int k] := by
  obtain ⟨a, xs, rfl, hs, ha⟩ := dp_tuple h
  cases ha with
  | cons h1 t =>
    cases t with
    | cons h2 t =>
      cases t with
      | cons h3 t =>
        cases t
        rw [dp_int h1, dp_int h2, dp_int h3] at hs
        exact ⟨a, rfl, hs⟩
theorem dp_tok {v : V} {t : Tk} (h : Dp K H v (tokD t)) : ∃ a, v = .ref a ∧ SqT K H a [.int (kindN t), .int (numN t)] := dp_two h
theorem dp_tag {v : V} {g : Tag} (h : Dp K H v (tagD g)) : ∃ a, v = .ref a ∧ SqT K H a [.int g.i, .int (b01 g.pair), .int (b01 g.must)] := dp_three h
theorem dp_flt {v : V} {f : Fault} (h : Dp K H v (fltD f)) : ∃ a, v = .ref a ∧ SqT K H a [.int f.1, .int f.2.1, .int f.2.2] := dp_three h
theorem two_dp {a : Addr} {i j : Int} (h : SqT K H a [.int i, .int j]) : Dp K H (.ref a) (.tuple [.int i, .int j]) := .tup h (.cons (.int _) (.cons (.int _) .nil))
theorem three_dp {a : Addr} {i j k : Int} (h : SqT K H a [.int i, .int j, .int k]) : Dp K H (.ref a) (.tuple [.int i, .int j, .int k]) := .tup h (.cons (.int _) (.cons (.int _) (.cons (.int _) .nil)))
theorem len_of {v : V} {α : Type} {enc : α → PyData} {l : List α} (h : Dp K H v (.list (l.map enc))) : ∃ a xs, v = .ref a ∧ SqL K H a xs ∧ xs.length = l.length := by
  obtain ⟨a, xs, rfl, hs, ha⟩ := dp_list h
  exact ⟨a, xs, rfl, hs, by rw [dpAll_len ha, List.length_map]⟩
end

/-! ### what the top has written: the names of the module -/
structure Txt (K : PySem.W.Frag) (mg : Str → Option Value) : Prop where
  m_WORD : ∃ t, mg "WORD" = some (.int 0 t)
  m_OPENING : ∃ t, mg "OPENING" = some (.int 1 t)
  m_CLOSING : ∃ t, mg "CLOSING" = some (.int 2 t)
  m_ALONE : ∃ t, mg "ALONE" = some (.int 3 t)
  m_MOST_THINGS : ∃ t, mg "MOST_THINGS" = some (.int 16 t)
  m_MOST_TAGS : ∃ t, mg "MOST_TAGS" = some (.int 8 t)
  m_MOST_TOLD : ∃ t, mg "MOST_TOLD" = some (.int 6 t)
  m_GREATEST_WORD : ∃ t, mg "GREATEST_WORD" = some (.int 999 t)
  m_GREATEST_TAG : ∃ t, mg "GREATEST_TAG" = some (.int 99 t)
  m_STRANGE : ∃ t, mg "STRANGE" = some (.int 1 t)
  m_REPEATED : ∃ t, mg "REPEATED" = some (.int 2 t)
  m_MISSING : ∃ t, mg "MISSING" = some (.int 3 t)
  m_HALF : ∃ t, mg "HALF" = some (.int 4 t)
  m_REVERSED : ∃ t, mg "REVERSED" = some (.int 5 t)
  m_CROSSING : ∃ t, mg "CROSSING" = some (.int 6 t)
  m_OUT_OF_RANGE : ∃ t, mg "OUT_OF_RANGE" = some (.int (-1) t)
  m_NO_SUCH_PAIR : ∃ t, mg "NO_SUCH_PAIR" = some (.int (-2) t)
  m_NOT_AS_TOLD : ∃ t, mg "NOT_AS_TOLD" = some (.int (-3) t)
  m_TOO_MUCH : ∃ t, mg "TOO_MUCH" = some (.int (-5) t)
  m_IS_A_WORD : ∃ t, mg "IS_A_WORD" = some (.int (-6) t)
  m_NOT_WHOLE : ∃ t, mg "NOT_WHOLE" = some (.int (-6) t)
  m_NOTHING_TO_UNDO : ∃ t, mg "NOTHING_TO_UNDO" = some (.int (-7) t)
  m_SOURCE_CALL : ∃ t, mg "SOURCE_CALL" = some (.int 0 t)
  m_TARGET_CALL : ∃ t, mg "TARGET_CALL" = some (.int 1 t)
  m_FAULTS_CALL : ∃ t, mg "FAULTS_CALL" = some (.int 2 t)
  m_MEND_CALL : ∃ t, mg "MEND_CALL" = some (.int 3 t)
  m_WOULD_CALL : ∃ t, mg "WOULD_CALL" = some (.int 4 t)
  m_PUT_CALL : ∃ t, mg "PUT_CALL" = some (.int 5 t)
  m_TAKE_CALL : ∃ t, mg "TAKE_CALL" = some (.int 6 t)
  m_REWRITE_CALL : ∃ t, mg "REWRITE_CALL" = some (.int 7 t)
  m_WITHIN_CALL : ∃ t, mg "WITHIN_CALL" = some (.int 8 t)
  m_SHOWS_CALL : ∃ t, mg "SHOWS_CALL" = some (.int 9 t)
  m_UNDO_CALL : ∃ t, mg "UNDO_CALL" = some (.int 10 t)
  m_len : mg "len" = none
  m_range : mg "range" = none
  m_set : mg "set" = none
  m_any : mg "any" = none
  m_all : mg "all" = none
section
variable {X : Cx}
theorem pe_gi {x : Str} {i : Int} {pos : Pos} (hm : ∃ t, X.mg x = some (.int i t)) (hg : Gl X x := by rfl) (hd : (x == ("__debug__" : Str)) = false := by decide) : PE X (.Name x pos) (tC (.int i)) := by
  obtain ⟨t, hm⟩ := hm
  exact pe_glob hg hm ⟨t, rfl⟩ hd
theorem pe_gr {x : Str} {a : Addr} {pos : Pos} (hm : X.mg x = some (.ref a)) (hg : Gl X x := by rfl) (hd : (x == ("__debug__" : Str)) = false := by decide) : PE X (.Name x pos) (tC (.ref a)) := pe_glob hg hm rfl hd
/-! the rules with the written part told: for blocks of comprehensions -/
theorem k_ixL (K : PySem.W.Frag) (e : X.K = K := by rfl) : IxR X (rIxL K) := e ▸ ix_list
theorem k_ixT (K : PySem.W.Frag) (e : X.K = K := by rfl) : IxR X (rIxT K) := e ▸ ix_tup
theorem k_slL (K : PySem.W.Frag) (e : X.K = K := by rfl) : SlR X (rSlL K) := e ▸ sl_list
theorem k_inD (K : PySem.W.Frag) (hu : X.A.units + 65 < cLine) (e : X.K = K := by rfl) : OpR X (compareOp .In) (rInD K) := e ▸ op_inD hu
theorem k_notInD (K : PySem.W.Frag) (hu : X.A.units + 65 < cLine) (e : X.K = K := by rfl) : OpR X (compareOp .NotIn) (rNotInD K) := e ▸ op_notInD hu
theorem k_in (K : PySem.W.Frag) (e : X.K = K := by rfl) : OpR X (compareOp .In) (rIn K false) := e ▸ op_in_seq
theorem k_notIn (K : PySem.W.Frag) (e : X.K = K := by rfl) : OpR X (compareOp .NotIn) (rIn K true) := e ▸ op_notIn_seq
theorem k_eqD (K : PySem.W.Frag) (hu : X.A.units + 64 < cLine) (e : X.K = K := by rfl) : OpR X (compareOp .Eq) (rEqD K) := e ▸ op_eqD hu
theorem k_neD (K : PySem.W.Frag) (hu : X.A.units + 64 < cLine) (e : X.K = K := by rfl) : OpR X (compareOp .NotEq) (rNeD K) := e ▸ op_neD hu
theorem kg_tup (K : PySem.W.Frag) (n : Nat) {es : List Expr} {k : Nat} {t : TGs} {pos : Pos} (hc : X.calm = true) (h : PGs X es t) (hn : (assignEach es X.env).length = n := by rfl) (hst : (assignEach es X.env).findIdx? (·.1) = none := by rfl) (e : X.K = K := by rfl) : PG X (.Tuple es k pos) (gTup K n t) := e ▸ pg_tup hc h hn hst
theorem k_eqI : OpR X (compareOp .Eq) (rI0 fun i j => .bl (decide (i = j))) := by
  intro pins s σ H x y v u Q I rx ry h
  obtain ⟨i, j, rfl, rfl, q⟩ := h
  refine op_eq pins s σ H _ _ v u Q I rx ry ⟨rfl, ?_⟩
  have e : decide (V.int i = V.int j) = decide (i = j) := by
    by_cases h : i = j
    · subst h
      simp
    · rw [decide_eq_false h, decide_eq_false fun z => h (V.int.inj z)]
  rw [e]
  exact q
theorem k_neI : OpR X (compareOp .NotEq) (rI0 fun i j => .bl (!decide (i = j))) := by
  intro pins s σ H x y v u Q I rx ry h
  obtain ⟨i, j, rfl, rfl, q⟩ := h
  refine op_ne pins s σ H _ _ v u Q I rx ry ⟨rfl, ?_⟩
  have e : decide (V.int i = V.int j) = decide (i = j) := by
    by_cases h : i = j
    · subst h
      simp
    · rw [decide_eq_false h, decide_eq_false fun z => h (V.int.inj z)]
  rw [e]
  exact q
theorem k_count (K : PySem.W.Frag) (hu : X.A.units + 65 < cLine) (e : X.K = K := by rfl) : MtR X "list.count" (rCountD K) := e ▸ mt_countD hu
theorem k_index (K : PySem.W.Frag) (hu : X.A.units + 65 < cLine) (e : X.K = K := by rfl) : MtR X "list.index" (rIndexD K) := e ▸ mt_indexD hu
end
end Tm
set_option Elab.async false
set_option maxRecDepth 100000
set_option maxHeartbeats 2000000
namespace Tm
open PySem PySem.Spec PyProof.Rows L2
open Ut02 (Tag Seg Fault)
theorem szl {n : Nat} (h : n ≤ 100000) : n < sizeLine := Nat.lt_of_le_of_lt h (by decide)
theorem szle {n : Nat} (h : n ≤ 100000) : n ≤ sizeLine := Nat.le_of_lt (szl h)
theorem ifB {c : Bool} {A B : Prop} (h1 : c = true → A) (h2 : c = false → B) : if c = true then A else B := by
  cases c with
  | true => exact iteT (h1 rfl)
  | false => exact iteF (h2 rfl)
theorem yes_if {X Y : Hp → Prop} {σ : L2.St} {H : Hp} (h : X H) : tYes σ H (fun b H3 => if b = true then X H3 else Y H3) := iteT (B := Y H) h
section
variable {P : Program} {w : World} {K : PySem.W.Frag} {mg : Str → Option Value} {base : Heap} {f : Addr} {fd : FuncData}

/-! ### write_segment -/
def rowI (s : List Tk) : List Int := s.flatMap fun t => [(kindN t : Int), (numN t : Int)]
theorem rowI_len (s : List Tk) : (rowI s).length = 2 * s.length := by
  induction s with
  | nil => rfl
  | cons t s ih =>
    show ((kindN t : Int) :: (numN t : Int) :: rowI s).length = 2 * (s.length + 1)
    rw [List.length_cons, List.length_cons, ih]
    omega
theorem rowI_app (s u : List Tk) : rowI (s ++ u) = rowI s ++ rowI u := List.flatMap_append
def spWrite (K : PySem.W.Frag) : Sp := fun vs H Q _ => ∃ (v : V) (s : List Tk), vs = [v] ∧ TokL K H v s ∧ s.length ≤ 1000 ∧ RetL K H Q ((rowI s).map PyData.int)
theorem ok_write_segment (F : Fun K "write_segment" "write_segment" s_write_segment f fd) : FnOk P w K mg base CX0 1 f fd ["things"] (spWrite K) := by
  refine F.ok sc_write_segment (fun vs H Q E h => ?_) (fun cdv A outer st H vs Q E hr h => ?_)
  · obtain ⟨v, s, rfl, _⟩ := h
    rfl
  · obtain ⟨v, s, rfl, hv, hl, k⟩ := h
    refine ⟨_, (pss_cons (ps_set (i := 1) sc_write_segment.nd rfl (Or.inl rfl) (pe_lst pa_nil))
      (pss_cons (ps_for PassesOwn.never rfl (pi_list (pv 0)) (pg_tup rfl (pgs_cons (pg_name (i := 2) sc_write_segment.nd rfl (Or.inl rfl)) (pgs_cons (pg_name (i := 3) sc_write_segment.nd rfl (Or.inl rfl)) pgs_nil)))
        (pss_cons (ps_expr (pe_bm PySem.F.plainAttrs_list PySem.F.slot_list_append PySem.F.type_list_append mt_append (pv 1) (pa_cons (pv 2) pa_nil)))
      (pss_one (ps_expr (pe_bm PySem.F.plainAttrs_list PySem.F.slot_list_append PySem.F.type_list_append mt_append (pv 1) (pa_cons (pv 3) pa_nil))))))
      (pss_one (ps_ret (pv 1))))), ?_⟩
    refine ⟨Nat.zero_le _, fun p hp => ?_⟩
    obtain ⟨a, xs, rfl, _⟩ := dp_list hv
    refine ⟨_, rfl, a, rfl, for_data hv (fun pre σ H' => ∃ u1 u2, σ = [some (.ref a), some (.ref p), u1, u2] ∧ Same H H' ∧ H' p = some (.lst ((rowI pre).map V.int)))
      ⟨none, none, rfl, same_new hp, upd_same⟩ ?_ ?_ ?_⟩
    · rintro pre σ H' ⟨_, _, _, sm, _⟩
      exact sameI sm
    · rintro pre t post v σ H' e ⟨u1, u2, rfl, sm, hq⟩ hv'
      obtain ⟨b, rfl, hb⟩ := dp_tok hv'
      have hpre : pre.length < s.length := by
        rw [e]
        simp
      refine ⟨b, _, rfl, hb, rfl, _, _, rfl, _, _, rfl, rfl, ?_⟩
      refine ⟨_, rfl, .inl ⟨rfl, _, SqL.of hq⟩, _, rfl, p, _, _, rfl, rfl, hq, szl (by rw [List.length_map, rowI_len]; omega), ?_⟩
      refine ⟨_, rfl, .inl ⟨rfl, _, SqL.of upd_same⟩, _, rfl, p, _, _, rfl, rfl, upd_same, szl (by rw [List.length_append, List.length_map, rowI_len, List.length_singleton]; omega), ?_⟩
      refine ⟨_, _, rfl, same_upd hp (same_upd hp sm), ?_⟩
      rw [upd_same, rowI_app, List.map_append, List.append_assoc]
      rfl
    · rintro σ H' ⟨u1, u2, rfl, sm, hq⟩
      exact ⟨_, rfl, k _ _ _ sm hp hq (ints_dpAll _)⟩

/-! ### read_segment -/
theorem rowI_at : ∀ (s : List Tk) (i : Nat) (t : Tk), s[i]? = some t → (rowI s)[2 * i]? = some (kindN t : Int) ∧ (rowI s)[2 * i + 1]? = some (numN t : Int)
  | [], i, t, h => by simp at h
  | x :: s, 0, t, h => by
    simp at h
    subst h
    exact ⟨rfl, rfl⟩
  | x :: s, i + 1, t, h => by
    obtain ⟨h1, h2⟩ := rowI_at s i t (by simpa using h)
    exact ⟨by rw [show 2 * (i + 1) = 2 * i + 1 + 1 by omega]; exact h1, by rw [show 2 * (i + 1) + 1 = 2 * i + 1 + 1 + 1 by omega]; exact h2⟩
theorem rgUp {c : Int} {n : Nat} {lo hi : Int} (hc : 0 < c) (hc2 : c < 1000) (h0 : 0 ≤ lo) (h1 : hi = lo + c * n) (h2 : hi < 1000000) : RgC lo hi c n := by
  have e : Builtin.Range.rangeSize lo hi c = n := by
    unfold Builtin.Range.rangeSize
    rw [if_pos hc]
    by_cases hn : n = 0
    · subst hn
      rw [if_neg (by omega)]
      rfl
    · have hp : 0 < c * (n : Int) := Int.mul_pos hc (by omega)
      rw [if_pos (by omega)]
      have e1 : hi - lo - 1 = c - 1 + c * ((n : Int) - 1) := by
        rw [Int.mul_sub, h1]
        omega
      rw [e1, Int.add_mul_ediv_left _ _ (by omega), Int.ediv_eq_zero_of_lt (by omega) (by omega)]
      omega
  have hnc : (n : Int) ≤ c * n := by
    have := Int.mul_le_mul_of_nonneg_right (show (1 : Int) ≤ c by omega) (show (0 : Int) ≤ (n : Int) by omega)
    omega
  refine ⟨by omega, by omega, ?_, e⟩
  unfold Builtin.Range.small
  rw [e]
  simp only [Builtin.Range.rangeFitsLong, Bool.and_eq_true, Bool.or_eq_true, decide_eq_true_eq, beq_iff_eq, show c > 0 from hc, if_true]
  omega
def spRead (K : PySem.W.Frag) : Sp := fun vs H Q _ => ∃ (v : V) (s : List Tk), vs = [v] ∧ IntL K H v (rowI s) ∧ s.length ≤ 1000 ∧ RetL K H Q (s.map tokD)
theorem ok_read_segment (F : Fun K "read_segment" "read_segment" s_read_segment f fd) (T : Txt K mg) : FnOk P w K mg base CX0 1 f fd ["numbers"] (spRead K) := by
  refine F.ok sc_read_segment (fun vs H Q E h => ?_) (fun cdv A outer st H vs Q E hr h => ?_)
  · obtain ⟨v, s, rfl, _⟩ := h
    rfl
  · obtain ⟨v, s, rfl, hv, hl, k⟩ := h
    refine ⟨_, (pss_one (ps_ret (pe_lc (own := [("k", 1)]) (by rfl) sc_read_segment.nd (pi_range3 (by rfl) T.m_range (pa_cons pe_int (pa_cons (pe_callB call_len_seq (by rfl) T.m_len PySem.boot_len (pa_cons (pv 0) pa_nil)) (pa_cons pe_int pa_nil)))) (blkOk_by (own := [("k", 1)]) (N := N_read_segment) (sc := defScope s_read_segment) (by decide +kernel)) (fun _ _ _ _ _ => (pg_name (i := 1) sc_read_segment.nd rfl (Or.inl rfl))) (fun _ _ _ _ _ => pts_nil) (fun _ _ _ _ _ => (pe_tup (pa_cons (pe_ix (k_ixL K) (pv 0) (pv 1) (fun _ _ => rfl)) (pa_cons (pe_ix (k_ixL K) (pv 0) (pe_op op_add (pv 1) pe_int) (fun _ _ => rfl)) pa_nil))))))), ?_⟩
    obtain ⟨a, xs, rfl, hsq, hall⟩ := dp_list hv
    have hxs := dpAll_ints hall
    subst hxs
    refine ⟨_, rfl, a, _, rfl, .inl hsq, 0, _, 2, s.length, rfl, rgUp (by decide) (by decide) (by decide) (by rw [List.length_map, rowI_len]; omega) (by rw [List.length_map, rowI_len]; omega), fun D hD => ?_⟩
    refine lc_it walk_rangeC (fun i H' => Same H H' ∧ ∃ ys, H' D = some (.lst ys) ∧ ys.length = i ∧ DpAll K H' ys ((s.take i).map tokD)) ⟨same_new hD, [], upd_same, rfl, .nil⟩ (fun _ _ _ _ => trivial) ?_ ?_
    · rintro i x H1 H2 hi ⟨sm, ys, hy, hyl, ha⟩ ⟨rfl, rfl⟩
      obtain ⟨t, ht⟩ : ∃ t, s[i]? = some t := ⟨s[i], by simp [hi]⟩
      obtain ⟨g1, g2⟩ := rowI_at s i t ht
      refine ⟨rfl, yes_if ?_⟩
      refine ⟨_, rfl, _, rfl, a, _, _, _, rfl, rfl, (sameI sm).seq hsq, at_of (j := 2 * i) (by omega) (by rw [List.getElem?_map, g1]; rfl), ?_⟩
      refine ⟨_, rfl, _, rfl, _, _, rfl, rfl, a, _, _, _, rfl, rfl, (sameI sm).seq hsq, at_of (j := 2 * i + 1) (by omega) (by rw [List.getElem?_map, g2]; rfl), ?_⟩
      refine ⟨szle (by show 2 ≤ 100000; decide), fun p hp => ?_⟩
      have np : D ≠ p := ne_of_none hy hp
      have hlt : i < s.length := hi
      refine ⟨ys, by rw [upd_ne np]; exact hy, szl (by omega), same_upd hD (same_upd (sm.free hp) sm), ys ++ [V.ref p], upd_same, by simp [hyl], ?_⟩
      rw [(split_at ht).2, List.map_append]
      have st : SameT H2 (upd (upd H2 p (.tup [.int (kindN t), .int (numN t)])) D (.lst (ys ++ [V.ref p]))) := (sameT (same_new hp)).trans (sameT_upd (by rw [upd_ne np]; exact hy))
      refine dpAll_app (dpAll_flat st (fun d hd => ?_) ha) (dpAll_one (two_dp (SqT.of ?_)))
      · obtain ⟨z, _, rfl⟩ := List.mem_map.mp hd
        exact tok_flat z
      · rw [upd_ne np.symm, upd_same]
    · rintro H' ⟨sm, ys, hy, hyl, ha⟩
      rw [List.take_length] at ha
      exact k _ _ _ sm hD hy ha
end
end Tm
set_option Elab.async false
set_option maxRecDepth 100000
set_option maxHeartbeats 2000000
namespace Tm
open PySem PySem.Spec PyProof.Rows L2
open Ut02 (Tag Seg Fault)
section
variable {P : Program} {w : World} {K : PySem.W.Frag} {mg : Str → Option Value} {base : Heap} {f : Addr} {fd : FuncData}

/-! ### is_too_much -/
def tooMuch (s : List Tk) : Bool := decide (16 < s.length) || decide (8 < Ut02.tagCount s)
def spTooMuch (K : PySem.W.Frag) : Sp := fun vs H Q _ => ∃ (v : V) (s : List Tk), vs = [v] ∧ TokL K H v s ∧ s.length ≤ 1000 ∧ RetB H Q (tooMuch s)
theorem kind_ne (t : Tk) : (!decide (((kindN t : Nat) : Int) = 0)) = Ut02.isTag t := by
  cases t <;> rfl
theorem flatMap_if {α β : Type} (p : α → Bool) (g : α → β) : ∀ l : List α, (l.flatMap fun x => if p x = true then [g x] else []) = (l.filter p).map g
  | [] => rfl
  | x :: l => by
    rw [List.flatMap_cons, flatMap_if p g l]
    cases h : p x <;> simp [h]
theorem ok_is_too_much (F : Fun K "is_too_much" "is_too_much" s_is_too_much f fd) (T : Txt K mg) : FnOk P w K mg base CX0 1 f fd ["things"] (spTooMuch K) := by
  refine F.ok sc_is_too_much (fun vs H Q E h => ?_) (fun cdv A outer st H vs Q E hr h => ?_)
  · obtain ⟨v, s, rfl, _⟩ := h
    rfl
  · obtain ⟨v, s, rfl, hv, hl, k⟩ := h
    refine ⟨_, (pss_cons (ps_set (i := 1) sc_is_too_much.nd rfl (Or.inl rfl) (pe_callB call_len_seq (by rfl) T.m_len PySem.boot_len (pa_cons (pe_lc (own := [("thing", 2)]) (by rfl) sc_is_too_much.nd (pi_list (pv 0)) (blkOk_by (own := [("thing", 2)]) (N := N_is_too_much) (sc := defScope s_is_too_much) (by decide +kernel)) (fun _ _ _ _ _ => (pg_name (i := 2) sc_is_too_much.nd rfl (Or.inl rfl))) (fun _ _ _ _ _ => pts_one (pt_cmpR k_neI (pe_ix (k_ixT K) (pv 2) pe_int (fun _ _ => rfl)) (pe_gi T.m_WORD) (nomark _))) (fun _ _ _ _ _ => (pv 2))) pa_nil)))
      (pss_one (ps_ret (pe_or (pe_cmpR op_gt (pe_callB call_len_seq (by rfl) T.m_len PySem.boot_len (pa_cons (pv 0) pa_nil)) (pe_gi T.m_MOST_THINGS) (nomark _)) (pe_one (pe_cmpR op_gt (pv 1) (pe_gi T.m_MOST_TAGS) (nomark _))))))), ?_⟩
    obtain ⟨a, xs, rfl, hsq, hxl⟩ := len_of hv
    refine ⟨_, rfl, a, rfl, ⟨_, hsq⟩, fun D hD => lc_data hv (fun t => if Ut02.isTag t = true then [tokD t] else []) ?_ hD (by omega) ?_ ?_⟩
    · intro t d hd
      cases h : Ut02.isTag t <;> simp [h] at hd
      rw [hd]
      exact tok_flat t
    · intro pre t post v H' QT QF e sm hv' kT kF
      obtain ⟨b, rfl, hb⟩ := dp_tok hv'
      refine ⟨rfl, _, rfl, b, _, 0, _, rfl, rfl, hb, rfl, _, _, rfl, rfl, _, rfl, ?_⟩
      rw [kind_ne]
      refine ifB (fun h => ?_) (fun h => ?_)
      · exact ⟨_, rfl, kT _ _ _ (by simp [h]) (Same.refl _) hv'⟩
      · exact kF (by simp [h]) _ (Same.refl _)
    · intro H' ys sm hy ha
      rw [flatMap_if] at ha
      have hyl : ys.length = Ut02.tagCount s := by
        rw [dpAll_len ha, List.length_map]
        rfl
      refine ⟨D, _, rfl, .inl (SqL.of hy), ?_⟩
      refine ⟨_, rfl, a, _, rfl, .inl ((sameI sm).seq hsq), _, _, rfl, rfl, _, rfl, ?_⟩
      have e1 : decide ((16 : Int) < ((xs.length : Nat) : Int)) = decide (16 < s.length) := by rw [hxl]; exact decide_eq_decide.mpr (by omega)
      have e2 : decide ((8 : Int) < ((ys.length : Nat) : Int)) = decide (8 < Ut02.tagCount s) := by rw [hyl]; exact decide_eq_decide.mpr (by omega)
      rw [e1]
      refine ifB (fun h => ?_) (fun h => ?_)
      · have q := k _ sm
        unfold tooMuch at q
        rw [h, Bool.true_or] at q
        exact q
      · refine ⟨_, rfl, _, _, rfl, rfl, ?_⟩
        have q := k _ sm
        unfold tooMuch at q
        rw [h, Bool.false_or, ← e2] at q
        exact q

/-! ### has_great_number -/
theorem dpAll_bools {H : Hp} : ∀ {vs : List V} {bs : List Bool}, DpAll K H vs (bs.map PyData.bool) → vs = bs.map V.bl
  | _, [], .nil => rfl
  | _, _ :: _, .cons h t => by
    rw [dpAll_bools t]
    cases h
    rfl
theorem flat_bools {α : Type} (p : α → Bool) (l : List α) : (l.flatMap fun x => [PyData.bool (p x)]) = (l.map p).map PyData.bool := by
  rw [List.map_map, List.map_eq_flatMap]
  rfl
theorem any_bools {α : Type} (p : α → Bool) (l : List α) : (l.map p).any id = l.any p := by
  rw [List.any_map]
  rfl
theorem all_bools {α : Type} (p : α → Bool) (l : List α) : (l.map p).all id = l.all p := by
  rw [List.all_map]
  rfl
def spGreat (K : PySem.W.Frag) : Sp := fun vs H Q _ => ∃ (v : V) (s : List Tk), vs = [v] ∧ TokL K H v s ∧ s.length ≤ 1000 ∧ RetB H Q (!s.all Ut02.tokOk)
theorem tokOk_eq (t : Tk) : Ut02.tokOk t = decide (numN t ≤ if kindN t = 0 then 999 else 99) := by
  cases t <;> rfl
theorem ok_has_great_number (F : Fun K "has_great_number" "has_great_number" s_has_great_number f fd) (T : Txt K mg) : FnOk P w K mg base CX0 1 f fd ["things"] (spGreat K) := by
  refine F.ok sc_has_great_number (fun vs H Q E h => ?_) (fun cdv A outer st H vs Q E hr h => ?_)
  · obtain ⟨v, s, rfl, _⟩ := h
    rfl
  · obtain ⟨v, s, rfl, hv, hl, k⟩ := h
    refine ⟨_, (pss_one (ps_ret (pe_callB (cr_any rfl) (by rfl) T.m_any (by decide +kernel) (pa_cons (pe_lc (own := [("kind", 1), ("number", 2)]) (by rfl) sc_has_great_number.nd (pi_list (pv 0)) (blkOk_by (own := [("kind", 1), ("number", 2)]) (N := N_has_great_number) (sc := defScope s_has_great_number) (by decide +kernel)) (fun _ _ _ _ _ => (kg_tup K 2 rfl (pgs_cons (pg_name (i := 1) sc_has_great_number.nd rfl (Or.inl rfl)) (pgs_cons (pg_name (i := 2) sc_has_great_number.nd rfl (Or.inl rfl)) pgs_nil)))) (fun _ _ _ _ _ => pts_nil) (fun _ _ _ _ _ => (pe_cmpR op_gt (pv 2) (pe_ifExp (pt_cmpR k_eqI (pv 1) (pe_gi T.m_WORD) (nomark _)) (pe_gi T.m_GREATEST_WORD) (pe_gi T.m_GREATEST_TAG)) (nomark _)))) pa_nil)))), ?_⟩
    obtain ⟨a, xs, rfl, hsq, hxl⟩ := len_of hv
    refine ⟨_, rfl, a, rfl, ⟨_, hsq⟩, fun D hD => lc_data hv (fun t => [.bool (!Ut02.tokOk t)]) (fun x d hd => by rw [List.mem_singleton.mp hd]; rfl) hD (by omega) ?_ ?_⟩
    · intro pre t post v H' QT QF e sm hv' kT kF
      obtain ⟨b, rfl, hb⟩ := dp_tok hv'
      refine ⟨b, _, rfl, hb, rfl, _, _, rfl, _, _, rfl, rfl, rfl, yes_if ?_⟩
      have fin : ∀ (m : Int), (m = if kindN t = 0 then 999 else 99) → ∃ i j, V.int (numN t) = .int i ∧ V.int m = .int j ∧ QT (.bl (decide (j < i))) H' := by
        intro m hm
        have em : decide (m < ((numN t : Nat) : Int)) = !Ut02.tokOk t := by
          rw [tokOk_eq, hm, ← decide_not]
          refine decide_eq_decide.mpr ?_
          split <;> omega
        refine ⟨_, _, rfl, rfl, ?_⟩
        rw [em]
        exact kT _ _ _ rfl (Same.refl _) (.bl _)
      refine ⟨_, rfl, _, rfl, _, _, rfl, rfl, _, rfl, ?_⟩
      refine ifB (fun h => ?_) (fun h => ?_)
      · exact fin 999 (by rw [if_pos (by have := of_decide_eq_true h; omega)])
      · exact fin 99 (by rw [if_neg (by have := of_decide_eq_false h; omega)])
    · intro H1 ys s1 hy ha
      rw [flat_bools] at ha
      have ez := dpAll_bools ha
      subst ez
      refine ⟨D, _, rfl, SqL.of hy, ?_⟩
      have q := k _ s1
      rw [List.not_all_eq_any_not, ← any_bools] at q
      exact q

theorem segOk_eq (s : List Tk) : Ut02.segOk s = (!tooMuch s && s.all Ut02.tokOk) := by
  unfold Ut02.segOk tooMuch Ut02.LONG Ut02.TAGS
  rw [Bool.not_or, ← decide_not, ← decide_not, Bool.and_assoc]
  congr 1
  · exact decide_eq_decide.mpr (by omega)
  · congr 1
    exact decide_eq_decide.mpr (by omega)
end
end Tm
set_option Elab.async false
set_option maxRecDepth 100000
set_option maxHeartbeats 2000000
namespace Tm
open PySem PySem.Spec PyProof.Rows L2
open Ut02 (Tag Seg Fault)
/-! ### data, counted and found -/
theorem any_eqv (s : List Tk) (t : Tk) : ((s.map tokD).any fun z => PyData.eqv z (tokD t)) = decide (t ∈ s) := by
  induction s with
  | nil => rfl
  | cons x s ih =>
    rw [List.map_cons, List.any_cons, ih, tok_eqv]
    by_cases h : x = t
    · subst h
      simp
    · have h' : ¬ t = x := fun z => h z.symm
      rw [decide_eq_false h, Bool.false_or]
      exact decide_eq_decide.mpr (by simp [h'])
theorem count_eqv (s : List Tk) (t : Tk) : ((s.map tokD).countP fun z => PyData.eqv z (tokD t)) = Ut02.times s t := by
  unfold Ut02.times
  induction s with
  | nil => rfl
  | cons x s ih =>
    rw [List.map_cons, List.countP_cons, ih, tok_eqv, List.filter_cons]
    by_cases h : x = t
    · subst h
      simp
    · simp [h]
theorem place_cons_self (x : Tk) (s : List Tk) : Ut02.placeOf (x :: s) x = 0 := by
  unfold Ut02.placeOf
  simp
theorem place_cons_ne {x t : Tk} (s : List Tk) (h : x ≠ t) : Ut02.placeOf (x :: s) t = Ut02.placeOf s t + 1 := by
  unfold Ut02.placeOf
  rw [List.takeWhile_cons, if_pos (by simpa using h)]
  rfl
theorem place_at : ∀ {s : List Tk} {t : Tk}, t ∈ s → s[Ut02.placeOf s t]? = some t ∧ ∀ m x, m < Ut02.placeOf s t → s[m]? = some x → x ≠ t
  | x :: s, t, h => by
    by_cases e : x = t
    · subst e
      rw [place_cons_self]
      exact ⟨rfl, fun m x hm => absurd hm (Nat.not_lt_zero _)⟩
    · have hs : t ∈ s := by
        rcases List.mem_cons.mp h with q | q
        · exact absurd q.symm e
        · exact q
      obtain ⟨h1, h2⟩ := place_at hs
      rw [place_cons_ne s e]
      refine ⟨h1, fun m y hm hy => ?_⟩
      cases m with
      | zero =>
        simp at hy
        subst hy
        exact e
      | succ m => exact h2 m y (by omega) (by simpa using hy)
section
variable {K : PySem.W.Frag}
theorem rd_count {σ : L2.St} {H : Hp} {Q : VK} {i j : Nat} {v : V} {s : List Tk} {c n : Int} (t : Tk) (hi : σ[i]? = some (some v)) (hv : TokL K H v s) (hj : σ[j]? = some (some (.int n)))
    (hc : (kindN t : Int) = c) (hn : (numN t : Int) = n) (k : ∀ H', Same H H' → Q (.int (Ut02.times s t : Nat)) H') :
    tBM K "list" (rCountD K) (tVar i) (tCons (tTup (tCons (tC (.int c)) (tCons (tVar j) tNil))) tNil) σ H Q := by
  subst hc hn
  obtain ⟨a, xs, rfl, hsq, hall⟩ := dp_list hv
  refine ⟨_, hi, .inl ⟨rfl, _, hsq⟩, _, hj, szle (by show 2 ≤ 100000; decide), fun p hp => ?_⟩
  refine ⟨a, _, tokD t, s.map tokD, rfl, rfl, dpI (sameI (same_new hp)) hv, two_dp (SqT.of upd_same), toks_shaped s, tok_shaped t, ?_⟩
  rw [count_eqv]
  exact k _ (same_new hp)
theorem rd_index {σ : L2.St} {H : Hp} {Q : VK} {i j : Nat} {v : V} {s : List Tk} {c n : Int} (t : Tk) (hi : σ[i]? = some (some v)) (hv : TokL K H v s) (hj : σ[j]? = some (some (.int n)))
    (hc : (kindN t : Int) = c) (hn : (numN t : Int) = n) (ht : t ∈ s) (k : ∀ H', Same H H' → Q (.int (Ut02.placeOf s t : Nat)) H') :
    tBM K "list" (rIndexD K) (tVar i) (tCons (tTup (tCons (tC (.int c)) (tCons (tVar j) tNil))) tNil) σ H Q := by
  subst hc hn
  obtain ⟨a, xs, rfl, hsq, hall⟩ := dp_list hv
  obtain ⟨h1, h2⟩ := place_at ht
  refine ⟨_, hi, .inl ⟨rfl, _, hsq⟩, _, hj, szle (by show 2 ≤ 100000; decide), fun p hp => ?_⟩
  refine ⟨a, _, tokD t, s.map tokD, Ut02.placeOf s t, tokD t, rfl, rfl, dpI (sameI (same_new hp)) hv, two_dp (SqT.of upd_same), toks_shaped s, tok_shaped t, by rw [List.getElem?_map, h1]; rfl, by rw [tok_eqv]; simp, fun m z hm hz => ?_, k _ (same_new hp)⟩
  rw [List.getElem?_map] at hz
  cases e : s[m]? with
  | none =>
    rw [e] at hz
    cases hz
  | some x =>
    rw [e] at hz
    cases hz
    rw [tok_eqv]
    exact decide_eq_false (h2 m x hm e)
end
section
variable {P : Program} {w : World} {K : PySem.W.Frag} {mg : Str → Option Value} {base : Heap} {f : Addr} {fd : FuncData}
/-! ### pieces_of -/
def pieces (n : Nat) (p : Bool) : List Tk := if p = true then [.open_ n, .close n] else [.alone n]
def spPieces (K : PySem.W.Frag) : Sp := fun vs H Q _ => ∃ (n : Nat) (p : Bool), vs = [.int n, .int (b01 p)] ∧ RetL K H Q ((pieces n p).map tokD)
theorem ok_pieces_of (F : Fun K "pieces_of" "pieces_of" s_pieces_of f fd) (T : Txt K mg) : FnOk P w K mg base CX0 1 f fd ["number", "pair"] (spPieces K) := by
  refine F.ok sc_pieces_of (fun vs H Q E h => ?_) (fun cdv A outer st H vs Q E hr h => ?_)
  · obtain ⟨n, p, rfl, _⟩ := h
    rfl
  · obtain ⟨n, pr, rfl, k⟩ := h
    refine ⟨_, (pss_cons (ps_if (pt_cmpR k_eqI (pv 1) pe_int (nomark _)) (pss_one (ps_ret (pe_lst (pa_cons (pe_tup (pa_cons (pe_gi T.m_OPENING) (pa_cons (pv 0) pa_nil))) (pa_cons (pe_tup (pa_cons (pe_gi T.m_CLOSING) (pa_cons (pv 0) pa_nil))) pa_nil))))) pss_nil)
      (pss_one (ps_ret (pe_lst (pa_cons (pe_tup (pa_cons (pe_gi T.m_ALONE) (pa_cons (pv 0) pa_nil))) pa_nil))))), ?_⟩
    refine ⟨_, rfl, _, _, rfl, rfl, _, rfl, ?_⟩
    rw [b01_one]
    refine ifB (fun h => ?_) (fun h => ?_)
    · refine ⟨_, rfl, szle (by show 2 ≤ 100000; decide), fun p1 h1 => ⟨_, rfl, szle (by show 2 ≤ 100000; decide), fun p2 h2 => ⟨szle (by show 2 ≤ 100000; decide), fun p hp => ?_⟩⟩⟩
      have s12 := (same_new (o := .tup [.int 1, .int n]) h1).trans (same_new (o := .tup [.int 2, .int n]) h2)
      refine k _ p _ (s12.trans (same_new hp)) (s12.free hp) upd_same ?_
      unfold pieces
      rw [if_pos h]
      exact .cons (two_dp (SqT.of (same_new hp _ _ (same_new h2 _ _ upd_same)))) (.cons (two_dp (SqT.of (same_new hp _ _ upd_same))) .nil)
    · refine ⟨_, rfl, szle (by show 2 ≤ 100000; decide), fun p1 h1 => ⟨szle (by show 1 ≤ 100000; decide), fun p hp => ?_⟩⟩
      have s1 := same_new (o := .tup [.int 3, .int n]) h1
      refine k _ p _ (s1.trans (same_new hp)) (s1.free hp) upd_same ?_
      unfold pieces
      rw [if_neg (by rw [h]; exact Bool.false_ne_true)]
      exact .cons (two_dp (SqT.of (same_new hp _ _ upd_same))) .nil

/-! ### is_of_source -/
def ofSrc (l : List Tag) (t : Tk) : Bool := l.any fun g => decide (t ∈ pieces g.i g.pair)
def spOfSrc (K : PySem.W.Frag) : Sp := fun vs H Q _ => ∃ (v u : V) (l : List Tag) (t : Tk), vs = [v, u] ∧ TagL K H v l ∧ Dp K H u (tokD t) ∧ l.length ≤ 60 ∧ RetB H Q (ofSrc l t)
theorem ok_is_of_source (F : Fun K "is_of_source" "is_of_source" s_is_of_source f fd) (T : Txt K mg) (c_pieces_of : Cal P w K mg base 1 "pieces_of" ["number", "pair"] (spPieces K)) : FnOk P w K mg base CX0 2 f fd ["tags", "thing"] (spOfSrc K) := by
  refine F.ok sc_is_of_source (fun vs H Q E h => ?_) (fun cdv A outer st H vs Q E hr h => ?_)
  · obtain ⟨v, u, l, t, rfl, _⟩ := h
    rfl
  · obtain ⟨v, u, l, t, rfl, hv, hu, hl, k⟩ := h
    refine ⟨_, (pss_one (ps_ret (pe_callB (cr_any rfl) (by rfl) T.m_any (by decide +kernel) (pa_cons (pe_lc (own := [("tag", 2)]) (by rfl) sc_is_of_source.nd (pi_list (pv 0)) (blkOk_by (own := [("tag", 2)]) (N := N_is_of_source) (sc := defScope s_is_of_source) (by decide +kernel)) (fun _ _ _ _ _ => (pg_name (i := 2) sc_is_of_source.nd rfl (Or.inl rfl))) (fun _ _ _ _ _ => pts_nil) (fun _ _ _ _ _ => (pe_cmpR (k_inD K (hu65 hr)) (pv 1) (pe_u c_pieces_of (hr.mono (by decide)) (pa_cons (pe_ix (k_ixT K) (pv 2) pe_int (fun _ _ => rfl)) (pa_cons (pe_ix (k_ixT K) (pv 2) pe_int (fun _ _ => rfl)) pa_nil))) (by rfl)))) pa_nil)))), ?_⟩
    obtain ⟨a, xs, rfl, hsq, hxl⟩ := len_of hv
    refine ⟨_, rfl, a, rfl, ⟨_, hsq⟩, fun D hD => lc_data hv (fun g => [.bool (decide (t ∈ pieces g.i g.pair))]) (fun x d hd => by rw [List.mem_singleton.mp hd]; rfl) hD (by omega) ?_ ?_⟩
    · intro pre g post y H' QT QF e sm hy kT kF
      obtain ⟨b, rfl, hb⟩ := dp_tag hy
      refine ⟨rfl, yes_if ?_⟩
      refine ⟨_, rfl, _, rfl, b, _, 0, _, rfl, rfl, hb, rfl, _, rfl, b, _, 1, _, rfl, rfl, hb, rfl, g.i, g.pair, rfl, fun H2 q ys sm2 hq hy2 hall => ?_⟩
      refine ⟨tokD t, _, dpI (sameI (sm.trans sm2)) hu, .lst (SqL.of hy2) hall, tok_shaped t, toks_shaped _, ?_⟩
      rw [any_eqv]
      exact kT _ _ _ rfl sm2 (.bl _)
    · intro H1 ys s1 hy ha
      rw [flat_bools] at ha
      have ez := dpAll_bools ha
      subst ez
      refine ⟨D, _, rfl, SqL.of hy, ?_⟩
      have q := k _ s1
      unfold ofSrc at q
      rw [← any_bools] at q
      exact q

/-! ### is_whole -/
def spWhole (K : PySem.W.Frag) : Sp := fun vs H Q _ => ∃ (v : V) (s : List Tk) (n : Nat), vs = [v, .int n] ∧ TokL K H v s ∧ RetB H Q (Ut02.whole s n)
theorem one_eq (n : Nat) : decide (((n : Nat) : Int) = 1) = (n == 1) := by
  by_cases h : n = 1
  · subst h
    rfl
  · rw [beq_eq_false_iff_ne.mpr h]
    exact decide_eq_false (by omega)
theorem ok_is_whole (F : Fun K "is_whole" "is_whole" s_is_whole f fd) (T : Txt K mg) : FnOk P w K mg base CX0 1 f fd ["things", "number"] (spWhole K) := by
  refine F.ok sc_is_whole (fun vs H Q E h => ?_) (fun cdv A outer st H vs Q E hr h => ?_)
  · obtain ⟨v, s, n, rfl, _⟩ := h
    rfl
  · obtain ⟨v, s, n, rfl, hv, k⟩ := h
    refine ⟨_, (pss_one (ps_ret (pe_and (pe_cmpR k_eqI (pe_bm PySem.F.plainAttrs_list PySem.F.slot_list_count PySem.F.type_list_count (k_count K (hu65 hr)) (pv 0) (pa_cons (pe_tup (pa_cons (pe_gi T.m_OPENING) (pa_cons (pv 1) pa_nil))) pa_nil)) pe_int (nomark _)) (pe_one (pe_cmpR k_eqI (pe_bm PySem.F.plainAttrs_list PySem.F.slot_list_count PySem.F.type_list_count (k_count K (hu65 hr)) (pv 0) (pa_cons (pe_tup (pa_cons (pe_gi T.m_CLOSING) (pa_cons (pv 1) pa_nil))) pa_nil)) pe_int (nomark _)))))), ?_⟩
    refine rd_count (.open_ n) rfl hv rfl rfl rfl fun H1 s1 => ⟨_, _, rfl, rfl, _, rfl, ?_⟩
    rw [one_eq]
    unfold Ut02.whole at k
    refine ifB (fun h => ?_) (fun h => ?_)
    · rw [h] at k
      refine rd_count (.close n) rfl (dpI (sameI s1) hv) rfl rfl rfl fun H2 s2 => ⟨_, _, rfl, rfl, ?_⟩
      have q := k _ (s1.trans s2)
      rw [Bool.true_and, ← one_eq] at q
      exact q
    · rw [h] at k
      exact k _ s1

/-! ### is_in_order -/
def inOrd (s : List Tk) (n : Nat) : Bool := decide (Ut02.placeOf s (.open_ n) < Ut02.placeOf s (.close n))
def spOrder (K : PySem.W.Frag) : Sp := fun vs H Q _ => ∃ (v : V) (s : List Tk) (n : Nat), vs = [v, .int n] ∧ TokL K H v s ∧ .open_ n ∈ s ∧ .close n ∈ s ∧ RetB H Q (inOrd s n)
theorem ok_is_in_order (F : Fun K "is_in_order" "is_in_order" s_is_in_order f fd) (T : Txt K mg) : FnOk P w K mg base CX0 1 f fd ["things", "number"] (spOrder K) := by
  refine F.ok sc_is_in_order (fun vs H Q E h => ?_) (fun cdv A outer st H vs Q E hr h => ?_)
  · obtain ⟨v, s, n, rfl, _⟩ := h
    rfl
  · obtain ⟨v, s, n, rfl, hv, m1, m2, k⟩ := h
    refine ⟨_, (pss_one (ps_ret (pe_cmpR op_lt (pe_bm PySem.F.plainAttrs_list PySem.F.slot_list_index PySem.F.type_list_index (k_index K (hu65 hr)) (pv 0) (pa_cons (pe_tup (pa_cons (pe_gi T.m_OPENING) (pa_cons (pv 1) pa_nil))) pa_nil)) (pe_bm PySem.F.plainAttrs_list PySem.F.slot_list_index PySem.F.type_list_index (k_index K (hu65 hr)) (pv 0) (pa_cons (pe_tup (pa_cons (pe_gi T.m_CLOSING) (pa_cons (pv 1) pa_nil))) pa_nil)) (nomark _)))), ?_⟩
    refine rd_index (.open_ n) rfl hv rfl rfl rfl m1 fun H1 s1 => ?_
    refine rd_index (.close n) rfl (dpI (sameI s1) hv) rfl rfl rfl m2 fun H2 s2 => ⟨_, _, rfl, rfl, ?_⟩
    have q := k _ (s1.trans s2)
    unfold inOrd at q
    rw [show decide (Ut02.placeOf s (.open_ n) < Ut02.placeOf s (.close n)) = decide (((Ut02.placeOf s (.open_ n) : Nat) : Int) < ((Ut02.placeOf s (.close n) : Nat) : Int)) from decide_eq_decide.mpr (by omega)] at q
    exact q
theorem place_two {s : List Tk} {n : Nat} (h1 : .open_ n ∈ s) (h2 : .close n ∈ s) : Ut02.placeOf s (.open_ n) ≠ Ut02.placeOf s (.close n) := fun z => by
  have e1 := (place_at h1).1
  have e2 := (place_at h2).1
  rw [z, e2] at e1
  cases e1
/-- the pair stands the wrong way round -/
theorem not_order {s : List Tk} {n : Nat} (h1 : .open_ n ∈ s) (h2 : .close n ∈ s) : (!inOrd s n) = decide (Ut02.placeOf s (.close n) < Ut02.placeOf s (.open_ n)) := by
  have := place_two h1 h2
  unfold inOrd
  rw [← decide_not]
  exact decide_eq_decide.mpr (by omega)

/-! ### crosses -/
def spCross (K : PySem.W.Frag) : Sp := fun vs H Q _ => ∃ (v : V) (s : List Tk) (i j : Nat), vs = [v, .int i, .int j] ∧ TokL K H v s ∧ .open_ i ∈ s ∧ .close i ∈ s ∧ .open_ j ∈ s ∧ .close j ∈ s ∧ RetB H Q (Ut02.cross s i j)
theorem ok_crosses (F : Fun K "crosses" "crosses" s_crosses f fd) (T : Txt K mg) : FnOk P w K mg base CX0 1 f fd ["things", "first", "second"] (spCross K) := by
  refine F.ok sc_crosses (fun vs H Q E h => ?_) (fun cdv A outer st H vs Q E hr h => ?_)
  · obtain ⟨v, s, i, j, rfl, _⟩ := h
    rfl
  · obtain ⟨v, s, i, j, rfl, hv, m1, m2, m3, m4, k⟩ := h
    refine ⟨_, (pss_cons (ps_set (i := 3) sc_crosses.nd rfl (Or.inl rfl) (pe_bm PySem.F.plainAttrs_list PySem.F.slot_list_index PySem.F.type_list_index (k_index K (hu65 hr)) (pv 0) (pa_cons (pe_tup (pa_cons (pe_gi T.m_OPENING) (pa_cons (pv 1) pa_nil))) pa_nil)))
      (pss_cons (ps_set (i := 4) sc_crosses.nd rfl (Or.inl rfl) (pe_bm PySem.F.plainAttrs_list PySem.F.slot_list_index PySem.F.type_list_index (k_index K (hu65 hr)) (pv 0) (pa_cons (pe_tup (pa_cons (pe_gi T.m_CLOSING) (pa_cons (pv 1) pa_nil))) pa_nil)))
      (pss_cons (ps_set (i := 5) sc_crosses.nd rfl (Or.inl rfl) (pe_bm PySem.F.plainAttrs_list PySem.F.slot_list_index PySem.F.type_list_index (k_index K (hu65 hr)) (pv 0) (pa_cons (pe_tup (pa_cons (pe_gi T.m_OPENING) (pa_cons (pv 2) pa_nil))) pa_nil)))
      (pss_cons (ps_set (i := 6) sc_crosses.nd rfl (Or.inl rfl) (pe_bm PySem.F.plainAttrs_list PySem.F.slot_list_index PySem.F.type_list_index (k_index K (hu65 hr)) (pv 0) (pa_cons (pe_tup (pa_cons (pe_gi T.m_CLOSING) (pa_cons (pv 2) pa_nil))) pa_nil)))
      (pss_one (ps_ret (pe_chain3 op_lt op_lt op_lt (pv 3) (pv 5) (pv 4) (pv 6)))))))), ?_⟩
    refine rd_index (.open_ i) rfl hv rfl rfl rfl m1 fun H1 s1 => ?_
    refine rd_index (.close i) rfl (dpI (sameI s1) hv) rfl rfl rfl m2 fun H2 s2 => ?_
    refine rd_index (.open_ j) rfl (dpI (sameI (s1.trans s2)) hv) rfl rfl rfl m3 fun H3 s3 => ?_
    refine rd_index (.close j) rfl (dpI (sameI ((s1.trans s2).trans s3)) hv) rfl rfl rfl m4 fun H4 s4 => ?_
    have q := k _ (((s1.trans s2).trans s3).trans s4)
    unfold Ut02.cross at q
    have ec : ∀ a b : Nat, decide ((a : Int) < (b : Int)) = decide (a < b) := fun a b => decide_eq_decide.mpr (by omega)
    refine ⟨_, rfl, _, rfl, _, _, rfl, rfl, _, rfl, ?_⟩
    rw [ec]
    refine ifB (fun h => ?_) (fun h => ?_)
    · refine ⟨_, rfl, _, _, rfl, rfl, _, rfl, ?_⟩
      rw [ec]
      refine ifB (fun h' => ?_) (fun h' => ?_)
      · refine ⟨_, rfl, _, _, rfl, rfl, ?_⟩
        simp only [h, h', Bool.true_and, ← ec] at q
        exact q
      · simp only [h, h', Bool.true_and, Bool.false_and] at q
        exact q
    · simp only [h, Bool.false_and] at q
      exact q
end
end Tm
set_option Elab.async false
set_option maxRecDepth 100000
set_option maxHeartbeats 2000000
namespace Tm
open PySem PySem.Spec PyProof.Rows L2
open Ut02 (Tag Seg Fault)
/-! ### tests joined -/
theorem if_and {A B : TT} {t u : TS} {D : Ends} {σ : L2.St} {H : Hp} (h : A σ H fun c H1 => if c = true then tIfS B t u D σ H1 else u D σ H1) : tIfS (tAnd A B) t u D σ H := h
theorem if_or {A B : TT} {t u : TS} {D : Ends} {σ : L2.St} {H : Hp} (h : A σ H fun c H1 => if c = true then t D σ H1 else tIfS B t u D σ H1) : tIfS (tOr A B) t u D σ H := h
theorem times_pos {s : List Tk} {t : Tk} : 0 < Ut02.times s t ↔ t ∈ s := by
  unfold Ut02.times
  rw [List.length_pos_iff_exists_mem]
  constructor
  · rintro ⟨x, hx⟩
    obtain ⟨h1, h2⟩ := List.mem_filter.mp hx
    rw [← eq_of_beq h2]
    exact h1
  · intro h
    exact ⟨t, List.mem_filter.mpr ⟨h, beq_self_eq_true t⟩⟩
theorem whole_mem {s : List Tk} {n : Nat} (h : Ut02.whole s n = true) : .open_ n ∈ s ∧ .close n ∈ s := by
  unfold Ut02.whole at h
  rw [Bool.and_eq_true] at h
  exact ⟨times_pos.mp (by rw [eq_of_beq h.1]; decide), times_pos.mp (by rw [eq_of_beq h.2]; decide)⟩
theorem inV_nat (n : Nat) (acc : List Nat) : inV (.int n) (acc.map fun (m : Nat) => V.int m) = decide (n ∈ acc) := by
  unfold inV
  induction acc with
  | nil => rfl
  | cons x r ih =>
    rw [List.map_cons, List.any_cons, ih]
    show ((((x : Nat) : Int) == ((n : Nat) : Int)) || decide (n ∈ r)) = _
    rw [int_beq]
    by_cases h : x = n
    · subst h
      simp
    · have h' : ¬ n = x := fun z => h z.symm
      rw [decide_eq_false h, Bool.false_or]
      exact decide_eq_decide.mpr (by simp [h'])
theorem flat_nats (acc : List Nat) : (acc.map fun (m : Nat) => V.int m).all flatV = true := by
  rw [List.all_eq_true]
  intro x hx
  obtain ⟨m, _, rfl⟩ := List.mem_map.mp hx
  rfl
section
variable {P : Program} {w : World} {K : PySem.W.Frag} {mg : Str → Option Value} {base : Heap} {f : Addr} {fd : FuncData}

/-! ### strange_faults -/
def strStep (l : List Tag) (acc : List Nat) (t : Tk) : List Nat := if Ut02.isTag t = true ∧ ofSrc l t = false ∧ numN t ∉ acc then acc ++ [numN t] else acc
def strange (l : List Tag) (s : List Tk) : List Nat := s.foldl (strStep l) []
theorem strange_more (l : List Tag) (s : List Tk) (t : Tk) : strange l (s ++ [t]) = strStep l (strange l s) t := by
  unfold strange
  rw [List.foldl_append]
  rfl
theorem strStep_len (l : List Tag) (acc : List Nat) (t : Tk) : (strStep l acc t).length ≤ acc.length + 1 := by
  unfold strStep
  split <;> simp
theorem fold_len (l : List Tag) : ∀ (s : List Tk) (acc : List Nat), (s.foldl (strStep l) acc).length ≤ acc.length + s.length
  | [], acc => Nat.le_refl _
  | t :: s, acc => by
    have h1 := fold_len l s (strStep l acc t)
    have h2 := strStep_len l acc t
    rw [List.foldl_cons, List.length_cons]
    omega
theorem strange_len (l : List Tag) (s : List Tk) : (strange l s).length ≤ s.length := by
  have h := fold_len l s []
  unfold strange
  simpa using h
def strangeF (l : List Tag) (s : List Tk) : List Fault := (strange l s).map fun n => (1, n, 0)
def spStrange (K : PySem.W.Frag) : Sp := fun vs H Q _ => ∃ (v u : V) (l : List Tag) (s : List Tk), vs = [v, u] ∧ TagL K H v l ∧ TokL K H u s ∧ l.length ≤ 60 ∧ s.length ≤ 1000 ∧ RetL K H Q ((strangeF l s).map fltD)
theorem ok_strange_faults (F : Fun K "strange_faults" "strange_faults" s_strange_faults f fd) (T : Txt K mg) (c_is_of_source : Cal P w K mg base 2 "is_of_source" ["tags", "thing"] (spOfSrc K)) : FnOk P w K mg base CX0 3 f fd ["tags", "things"] (spStrange K) := by
  refine F.ok sc_strange_faults (fun vs H Q E h => ?_) (fun cdv A outer st H vs Q E hr h => ?_)
  · obtain ⟨v, u, l, s, rfl, _⟩ := h
    rfl
  · obtain ⟨v, u, l, s, rfl, hv, hu, hlt, hl, k⟩ := h
    refine ⟨_, (pss_cons (ps_set (i := 2) sc_strange_faults.nd rfl (Or.inl rfl) (pe_lst pa_nil))
      (pss_cons (ps_for PassesOwn.never rfl (pi_list (pv 1)) (pg_name (i := 3) sc_strange_faults.nd rfl (Or.inl rfl))
        (pss_one (ps_if (PW.pt (pw_and (pt_cmpR k_neI (pe_ix (k_ixT K) (pv 3) pe_int (fun _ _ => rfl)) (pe_gi T.m_WORD) (nomark _)) (pw_and (pt_not (pt_val (pe_u c_is_of_source (hr.mono (by decide)) (pa_cons (pv 0) (pa_cons (pv 3) pa_nil))))) (pw_and1 (pt_cmpR (k_notIn K) (pe_ix (k_ixT K) (pv 3) pe_int (fun _ _ => rfl)) (pv 2) (by rfl)))))) (pss_one (ps_expr (pe_bm PySem.F.plainAttrs_list PySem.F.slot_list_append PySem.F.type_list_append mt_append (pv 2) (pa_cons (pe_ix (k_ixT K) (pv 3) pe_int (fun _ _ => rfl)) pa_nil)))) pss_nil)))
      (pss_one (ps_ret (pe_lc (own := [("number", 4)]) (by rfl) sc_strange_faults.nd (pi_list (pv 2)) (blkOk_by (own := [("number", 4)]) (N := N_strange_faults) (sc := defScope s_strange_faults) (by decide +kernel)) (fun _ _ _ _ _ => (pg_name (i := 4) sc_strange_faults.nd rfl (Or.inl rfl))) (fun _ _ _ _ _ => pts_nil) (fun _ _ _ _ _ => (pe_tup (pa_cons (pe_gi T.m_STRANGE) (pa_cons (pv 4) (pa_cons pe_int pa_nil)))))))))), ?_⟩
    refine ⟨Nat.zero_le _, fun p hp => ?_⟩
    obtain ⟨a, xs, rfl, hsq, hxl⟩ := len_of hu
    refine ⟨_, rfl, a, rfl, for_data hu (fun pre σ H' => ∃ u1 u2, σ = [some v, some (.ref a), some (.ref p), u1, u2] ∧ Same H H' ∧ H' p = some (.lst ((strange l pre).map fun (m : Nat) => V.int m)))
      ⟨none, none, rfl, same_new hp, upd_same⟩ ?_ ?_ ?_⟩
    · rintro pre σ H' ⟨_, _, _, sm, _⟩
      exact sameI sm
    · rintro pre t post y σ H' e ⟨u1, u2, rfl, sm, hq⟩ hy
      have hlen : (strange l pre).length ≤ 1000 := by
        have h1 := strange_len l pre
        have h2 : s.length = pre.length + (post.length + 1) := by rw [e]; simp
        omega
      have hno : ∀ {H2 : Hp}, Same H' H2 → strStep l (strange l pre) t = strange l pre → ∃ x1 x2, [some v, some (.ref a), some (.ref p), some y, u2] = [some v, some (.ref a), some (.ref p), x1, x2] ∧ Same H H2 ∧ H2 p = some (.lst ((strange l (pre ++ [t])).map fun (m : Nat) => V.int m)) := by
        intro H2 s2 es
        refine ⟨_, u2, rfl, sm.trans s2, ?_⟩
        rw [strange_more, es]
        exact s2 _ _ hq
      obtain ⟨b, rfl, hb⟩ := dp_tok hy
      refine if_and ?_
      refine ⟨_, rfl, b, _, 0, _, rfl, rfl, hb, rfl, _, _, rfl, rfl, _, rfl, ?_⟩
      rw [kind_ne]
      refine ifB (fun h1 => ?_) (fun h1 => ?_)
      · refine if_and ?_
        refine ⟨_, rfl, _, rfl, _, _, l, t, rfl, dpI (sameI sm) hv, hy, hlt, fun H2 s2 => ⟨_, rfl, ?_⟩⟩
        refine ifB (fun h2 => ?_) (fun h2 => ?_)
        · have h2' : ofSrc l t = false := by
            cases q : ofSrc l t with
            | false => rfl
            | true =>
              rw [q] at h2
              cases h2
          have hq2 := s2 _ _ hq
          refine ⟨_, rfl, b, _, 1, _, rfl, rfl, (sameI s2).tup hb, rfl, _, rfl, p, _, rfl, .inl (SqL.of hq2), rfl, flat_nats _, _, rfl, ?_⟩
          have ei : (if true = true then !inV (V.int (numN t)) ((strange l pre).map fun (m : Nat) => V.int m) else inV (V.int (numN t)) ((strange l pre).map fun (m : Nat) => V.int m)) = !decide (numN t ∈ strange l pre) := by
            rw [if_pos rfl, inV_nat]
          rw [ei]
          refine ifB (fun h3 => ?_) (fun h3 => ?_)
          · have h3' : numN t ∉ strange l pre := by simpa using h3
            refine ⟨_, rfl, .inl ⟨rfl, _, SqL.of hq2⟩, _, rfl, b, _, 1, _, rfl, rfl, (sameI s2).tup hb, rfl, p, _, _, rfl, rfl, hq2, szl (by rw [List.length_map]; omega), ?_⟩
            refine ⟨_, u2, rfl, same_upd hp (sm.trans s2), ?_⟩
            rw [upd_same, strange_more]
            unfold strStep
            rw [if_pos ⟨h1, h2', h3'⟩, List.map_append]
            rfl
          · have h3' : numN t ∈ strange l pre := by simpa using h3
            refine hno s2 ?_
            unfold strStep
            rw [if_neg fun z => z.2.2 h3']
        · have h2' : ofSrc l t = true := by
            cases q : ofSrc l t with
            | true => rfl
            | false =>
              rw [q] at h2
              cases h2
          refine hno s2 ?_
          unfold strStep
          rw [if_neg fun z => by rw [h2'] at z; exact Bool.noConfusion z.2.1]
      · refine hno (Same.refl _) ?_
        unfold strStep
        rw [if_neg fun z => by rw [h1] at z; exact Bool.noConfusion z.1]
    · rintro σ H' ⟨u1, u2, rfl, sm, hq⟩
      have hd : Dp K H' (.ref p) (.list ((strange l s).map fun (m : Nat) => PyData.int m)) := .lst (SqL.of hq) (by
        have z := ints_dpAll (K := K) (H := H') ((strange l s).map fun (m : Nat) => (m : Int))
        rw [List.map_map, List.map_map] at z
        exact z)
      have hlen := strange_len l s
      refine ⟨_, rfl, p, rfl, ⟨_, SqL.of hq⟩, fun D hD => lc_data hd (fun n => [fltD (1, n, 0)]) (fun x d hd => by rw [List.mem_singleton.mp hd]; exact flt_flat _) hD (by omega) ?_ ?_⟩
      · intro pre n post y H2 QT QF e sm2 hy kT kF
        cases dp_int hy
        refine ⟨rfl, yes_if ?_⟩
        refine ⟨_, rfl, szle (by show 3 ≤ 100000; decide), fun q hq2 => ?_⟩
        exact kT _ _ _ rfl (same_new hq2) (three_dp (SqT.of upd_same))
      · intro H2 ys sm2 hy ha
        refine k _ _ _ (sm.trans sm2) (sm.free hD) hy ?_
        unfold strangeF
        rw [List.map_map]
        have ef : ((strange l s).flatMap fun n => [fltD (1, n, 0)]) = (strange l s).map (fltD ∘ fun n => (1, n, 0)) := by
          rw [List.map_eq_flatMap]
          rfl
        rw [← ef]
        exact ha

/-! ### crossing_faults -/
def crossF (l : List Tag) (s : List Tk) (n : Nat) : List Fault := (l.filter fun h => h.pair && (Ut02.whole s h.i && Ut02.cross s n h.i)).map fun h => (6, n, h.i)
def spCrossing (K : PySem.W.Frag) : Sp := fun vs H Q _ => ∃ (v u : V) (l : List Tag) (s : List Tk) (n : Nat), vs = [v, u, .int n] ∧ TagL K H v l ∧ TokL K H u s ∧ l.length ≤ 60 ∧ .open_ n ∈ s ∧ .close n ∈ s ∧ RetL K H Q ((crossF l s n).map fltD)
theorem crossF_len (l : List Tag) (s : List Tk) (n : Nat) : (crossF l s n).length ≤ l.length := by
  unfold crossF
  rw [List.length_map]
  exact List.length_filter_le _ _
theorem lc_and {A B : TT} {σ : L2.St} {H : Hp} {X Y : Hp → Prop} (h : A σ H fun c H1 => if c = true then B σ H1 (fun b H3 => if b = true then X H3 else Y H3) else Y H1) : tAnd A B σ H (fun b H3 => if b = true then X H3 else Y H3) := h
def othersOf (l : List Tag) (s : List Tk) : List Nat := (l.filter fun h => h.pair && Ut02.whole s h.i).map fun h => h.i
theorem others_cross (l : List Tag) (s : List Tk) (n : Nat) : ((othersOf l s).filter fun o => Ut02.cross s n o).map (fun o => ((6, n, o) : Fault)) = crossF l s n := by
  unfold othersOf crossF
  rw [List.filter_map, List.filter_filter, List.map_map]
  congr 1
  congr 1
  funext h
  show (Ut02.cross s n h.i && (h.pair && Ut02.whole s h.i)) = _
  cases h.pair <;> cases Ut02.whole s h.i <;> cases Ut02.cross s n h.i <;> rfl
theorem others_len (l : List Tag) (s : List Tk) : (othersOf l s).length ≤ l.length := by
  unfold othersOf
  rw [List.length_map]
  exact List.length_filter_le _ _
theorem others_whole {l : List Tag} {s : List Tk} {o : Nat} (h : o ∈ othersOf l s) : Ut02.whole s o = true := by
  unfold othersOf at h
  obtain ⟨g, hg, rfl⟩ := List.mem_map.mp h
  have := (List.mem_filter.mp hg).2
  rw [Bool.and_eq_true] at this
  exact this.2
theorem ok_crossing_faults (F : Fun K "crossing_faults" "crossing_faults" s_crossing_faults f fd) (T : Txt K mg) (c_is_whole : Cal P w K mg base 1 "is_whole" ["things", "number"] (spWhole K)) (c_crosses : Cal P w K mg base 1 "crosses" ["things", "first", "second"] (spCross K)) :
    FnOk P w K mg base CX0 2 f fd ["tags", "things", "number"] (spCrossing K) := by
  refine F.ok sc_crossing_faults (fun vs H Q E h => ?_) (fun cdv A outer st H vs Q E hr h => ?_)
  · obtain ⟨v, u, l, s, n, rfl, _⟩ := h
    rfl
  · obtain ⟨v, u, l, s, n, rfl, hv, hu, hl, mo, mc, k⟩ := h
    refine ⟨_, (pss_cons (ps_setLc (i := 3) (own := [("tag", 4)]) (by rfl) sc_crossing_faults.nd rfl rfl (sw_true rfl rfl rfl (by decide +kernel)) (pi_list (pv 0)) (blkOk_by (own := [("tag", 4)]) (N := N_crossing_faults) (sc := defScope s_crossing_faults) (by decide +kernel)) (fun _ _ _ _ _ => (pg_name (i := 4) sc_crossing_faults.nd rfl (Or.inl rfl))) (fun _ _ _ _ _ => pts_one (PW.pt (pw_and (pt_cmpR k_eqI (pe_ix (k_ixT K) (pv 4) pe_int (fun _ _ => rfl)) pe_int (nomark _)) (pw_and1 (pt_val (pe_u c_is_whole (hr.mono (by decide)) (pa_cons (pv 1) (pa_cons (pe_ix (k_ixT K) (pv 4) pe_int (fun _ _ => rfl)) pa_nil)))))))) (fun _ _ _ _ _ => (pe_ix (k_ixT K) (pv 4) pe_int (fun _ _ => rfl))))
      (pss_one (ps_ret (pe_lc (own := [("other", 5)]) (by rfl) sc_crossing_faults.nd (pi_list (pv 3)) (blkOk_by (own := [("other", 5)]) (N := N_crossing_faults) (sc := defScope s_crossing_faults) (by decide +kernel)) (fun _ _ _ _ _ => (pg_name (i := 5) sc_crossing_faults.nd rfl (Or.inl rfl))) (fun _ _ _ _ _ => pts_one (pt_val (pe_u c_crosses (hr.mono (by decide)) (pa_cons (pv 1) (pa_cons (pv 2) (pa_cons (pv 5) pa_nil)))))) (fun _ _ _ _ _ => (pe_tup (pa_cons (pe_gi T.m_CROSSING) (pa_cons (pv 2) (pa_cons (pv 5) pa_nil))))))))), ?_⟩
    obtain ⟨a, xs, rfl, hsq, hxl⟩ := len_of hv
    refine ⟨_, rfl, a, rfl, ⟨_, hsq⟩, fun D hD => lc_data hv (fun g => if (g.pair && Ut02.whole s g.i) = true then [.int g.i] else []) ?_ hD (by omega) ?_ ?_⟩
    · intro g d hd
      split at hd
      · rw [List.mem_singleton.mp hd]
        rfl
      · cases hd
    · intro pre g post y H' QT QF e sm hy kT kF
      obtain ⟨b, rfl, hb⟩ := dp_tag hy
      refine ⟨rfl, lc_and ?_⟩
      refine ⟨_, rfl, b, _, 1, _, rfl, rfl, hb, rfl, _, _, rfl, rfl, _, rfl, ?_⟩
      rw [b01_one]
      refine ifB (fun h1 => ?_) (fun h1 => ?_)
      · refine ⟨_, rfl, _, rfl, b, _, 0, _, rfl, rfl, hb, rfl, _, s, g.i, rfl, dpI (sameI sm) hu, fun H2 s2 => ⟨_, rfl, ?_⟩⟩
        refine ifB (fun h2 => ?_) (fun h2 => ?_)
        · exact ⟨_, rfl, b, _, 0, _, rfl, rfl, (sameI s2).tup hb, rfl, kT _ _ _ (by rw [h1, h2]; rfl) s2 (.int _)⟩
        · exact kF (by rw [h1, h2]; rfl) _ s2
      · exact kF (by rw [h1]; rfl) _ (Same.refl _)
    · intro H1 ys s1 hy ha
      have ef : (l.flatMap fun g => if (g.pair && Ut02.whole s g.i) = true then [PyData.int g.i] else []) = (othersOf l s).map fun (o : Nat) => PyData.int o := by
        rw [flatMap_if (fun g : Tag => g.pair && Ut02.whole s g.i) (fun g => PyData.int g.i)]
        unfold othersOf
        rw [List.map_map]
        rfl
      rw [ef] at ha
      have hd : Dp K H1 (.ref D) (.list ((othersOf l s).map fun (o : Nat) => PyData.int o)) := .lst (SqL.of hy) ha
      have hol := others_len l s
      refine ⟨_, rfl, D, rfl, ⟨_, SqL.of hy⟩, fun D2 hD2 => lc_data hd (fun o => if Ut02.cross s n o = true then [fltD (6, n, o)] else []) ?_ hD2 (by omega) ?_ ?_⟩
      · intro o d hd
        split at hd
        · rw [List.mem_singleton.mp hd]
          rfl
        · cases hd
      · intro pre o post y H' QT QF e sm hy2 kT kF
        cases dp_int hy2
        obtain ⟨w1, w2⟩ := whole_mem (others_whole (l := l) (s := s) (o := o) (by rw [e]; simp))
        refine ⟨rfl, ?_⟩
        refine ⟨_, rfl, _, rfl, _, rfl, _, s, n, o, rfl, dpI (sameI (s1.trans sm)) hu, mo, mc, w1, w2, fun H3 s3 => ⟨_, rfl, ?_⟩⟩
        refine ifB (fun h3 => ?_) (fun h3 => ?_)
        · refine ⟨_, rfl, _, rfl, szle (by show 3 ≤ 100000; decide), fun q hq2 => ?_⟩
          exact kT _ _ _ (by rw [h3]; rfl) (s3.trans (same_new hq2)) (three_dp (SqT.of upd_same))
        · exact kF (by rw [h3]; rfl) _ s3
      · intro H2 zs s2 hz hza
        refine k _ _ _ (s1.trans s2) (s1.free hD2) hz ?_
        rw [flatMap_if (fun o => Ut02.cross s n o) (fun o => fltD (6, n, o))] at hza
        rw [← others_cross, List.map_map]
        exact hza
end
end Tm
set_option Elab.async false
set_option maxRecDepth 100000
set_option maxHeartbeats 2000000
namespace Tm
open PySem PySem.Spec PyProof.Rows L2
open Ut02 (Tag Seg Fault)
section
variable {K : PySem.W.Frag}
theorem RetL.mono {H H1 : Hp} {Q : VK} {ds : List PyData} (k : RetL K H Q ds) (s : Same H H1) : RetL K H1 Q ds := fun H' p ys s1 hp hy ha => k H' p ys (s.trans s1) (s.free hp) hy ha
theorem RetB.mono {H H1 : Hp} {Q : VK} {b : Bool} (k : RetB H Q b) (s : Same H H1) : RetB H1 Q b := fun H' s1 => k H' (s.trans s1)
/-- [(c, x, 0)] -/
theorem rd_one {σ : L2.St} {H : Hp} {Q : VK} {j c n : Nat} {cc nn : Int} (hj : σ[j]? = some (some (.int nn))) (hc : (c : Int) = cc) (hn : (n : Int) = nn) (k : RetL K H Q [fltD (c, n, 0)]) :
    tLst (tCons (tTup (tCons (tC (.int cc)) (tCons (tVar j) (tCons (tC (.int 0)) tNil)))) tNil) σ H Q := by
  subst hc hn
  refine ⟨_, hj, szle (by show 3 ≤ 100000; decide), fun q hq => ⟨szle (by show 1 ≤ 100000; decide), fun p hp => ?_⟩⟩
  have s1 := same_new (o := .tup [.int c, .int n, .int 0]) hq
  exact k _ p _ (s1.trans (same_new hp)) (s1.free hp) upd_same (.cons (three_dp (SqT.of (same_new hp _ _ upd_same))) .nil)
/-- [] -/
theorem rd_nil {σ : L2.St} {H : Hp} {Q : VK} (k : RetL K H Q []) : tLst tNil σ H Q :=
  ⟨Nat.zero_le _, fun p hp => k _ p _ (same_new hp) hp upd_same .nil⟩
end
section
variable {P : Program} {w : World} {K : PySem.W.Frag} {mg : Str → Option Value} {base : Heap} {f : Addr} {fd : FuncData}

/-! ### pair_faults -/
def pairF (l : List Tag) (s : List Tk) (n : Nat) (m : Bool) : List Fault :=
  if 1 < Ut02.times s (.open_ n) ∨ 1 < Ut02.times s (.close n) then [(2, n, 0)]
  else if Ut02.times s (.open_ n) = 0 ∧ Ut02.times s (.close n) = 0 then (if m = true then [(3, n, 0)] else [])
  else if Ut02.times s (.open_ n) + Ut02.times s (.close n) = 1 then [(4, n, 0)]
  else if Ut02.placeOf s (.close n) < Ut02.placeOf s (.open_ n) then [(5, n, 0)] else crossF l s n
theorem pairF_len (l : List Tag) (s : List Tk) (n : Nat) (m : Bool) : (pairF l s n m).length ≤ l.length + 1 := by
  have h := crossF_len l s n
  unfold pairF
  repeat' split
  all_goals first | (simp; done) | (simp; omega) | omega
def spPairF (K : PySem.W.Frag) : Sp := fun vs H Q _ => ∃ (v u : V) (l : List Tag) (s : List Tk) (n : Nat) (m : Bool), vs = [v, u, .int n, .int (b01 m)] ∧ TagL K H v l ∧ TokL K H u s ∧ l.length ≤ 60 ∧ RetL K H Q ((pairF l s n m).map fltD)
theorem nat_lt (a b : Nat) : decide ((a : Int) < (b : Int)) = decide (a < b) := decide_eq_decide.mpr (by omega)
theorem nat_eq (a b : Nat) : decide ((a : Int) = (b : Int)) = decide (a = b) := decide_eq_decide.mpr (by omega)
theorem ok_pair_faults (F : Fun K "pair_faults" "pair_faults" s_pair_faults f fd) (T : Txt K mg) (c_is_in_order : Cal P w K mg base 1 "is_in_order" ["things", "number"] (spOrder K)) (c_crossing_faults : Cal P w K mg base 2 "crossing_faults" ["tags", "things", "number"] (spCrossing K)) :
    FnOk P w K mg base CX0 3 f fd ["tags", "things", "number", "needed"] (spPairF K) := by
  refine F.ok sc_pair_faults (fun vs H Q E h => ?_) (fun cdv A outer st H vs Q E hr h => ?_)
  · obtain ⟨v, u, l, s, n, m, rfl, _⟩ := h
    rfl
  · obtain ⟨v, u, l, s, n, m, rfl, hv, hu, hl, k⟩ := h
    refine ⟨_, (pss_cons (ps_set (i := 4) sc_pair_faults.nd rfl (Or.inl rfl) (pe_bm PySem.F.plainAttrs_list PySem.F.slot_list_count PySem.F.type_list_count (k_count K (hu65 hr)) (pv 1) (pa_cons (pe_tup (pa_cons (pe_gi T.m_OPENING) (pa_cons (pv 2) pa_nil))) pa_nil)))
      (pss_cons (ps_set (i := 5) sc_pair_faults.nd rfl (Or.inl rfl) (pe_bm PySem.F.plainAttrs_list PySem.F.slot_list_count PySem.F.type_list_count (k_count K (hu65 hr)) (pv 1) (pa_cons (pe_tup (pa_cons (pe_gi T.m_CLOSING) (pa_cons (pv 2) pa_nil))) pa_nil)))
      (pss_cons (ps_if (PW.pt (pw_or (pt_cmpR op_gt (pv 4) pe_int (nomark _)) (pw_or1 (pt_cmpR op_gt (pv 5) pe_int (nomark _))))) (pss_one (ps_ret (pe_lst (pa_cons (pe_tup (pa_cons (pe_gi T.m_REPEATED) (pa_cons (pv 2) (pa_cons pe_int pa_nil)))) pa_nil)))) pss_nil)
      (pss_cons (ps_if (pt_cmpR k_eqI (pe_op op_add (pv 4) (pv 5)) pe_int (nomark _)) (pss_one (ps_ret (pe_ifExp (pt_cmpR k_eqI (pv 3) pe_int (nomark _)) (pe_lst (pa_cons (pe_tup (pa_cons (pe_gi T.m_MISSING) (pa_cons (pv 2) (pa_cons pe_int pa_nil)))) pa_nil)) (pe_lst pa_nil)))) pss_nil)
      (pss_cons (ps_if (pt_cmpR k_eqI (pe_op op_add (pv 4) (pv 5)) pe_int (nomark _)) (pss_one (ps_ret (pe_lst (pa_cons (pe_tup (pa_cons (pe_gi T.m_HALF) (pa_cons (pv 2) (pa_cons pe_int pa_nil)))) pa_nil)))) pss_nil)
      (pss_cons (ps_if (pt_not (pt_val (pe_u c_is_in_order (hr.mono (by decide)) (pa_cons (pv 1) (pa_cons (pv 2) pa_nil))))) (pss_one (ps_ret (pe_lst (pa_cons (pe_tup (pa_cons (pe_gi T.m_REVERSED) (pa_cons (pv 2) (pa_cons pe_int pa_nil)))) pa_nil)))) pss_nil)
      (pss_one (ps_ret (pe_u c_crossing_faults (hr.mono (by decide)) (pa_cons (pv 0) (pa_cons (pv 1) (pa_cons (pv 2) pa_nil)))))))))))), ?_⟩
    refine rd_count (.open_ n) rfl hu rfl rfl rfl fun H1 s1 => ?_
    refine rd_count (.close n) rfl (dpI (sameI s1) hu) rfl rfl rfl fun H2 s2 => ?_
    have sm := s1.trans s2
    have hu2 := dpI (sameI sm) hu
    replace k := k.mono sm
    unfold pairF at k
    have two : ∀ {Q'} {σ : L2.St}, (1 < Ut02.times s (.open_ n) ∨ 1 < Ut02.times s (.close n)) → σ[2]? = some (some (.int n)) → (∀ v H, Q v H → Q' v H) → tLst (tCons (tTup (tCons (tC (.int 2)) (tCons (tVar 2) (tCons (tC (.int 0)) tNil)))) tNil) σ H2 Q' := by
      intro Q' σ h hσ hQ
      rw [if_pos h] at k
      exact rd_one (c := 2) hσ rfl rfl fun H' p ys a b c d => hQ _ _ (k H' p ys a b c d)
    dsimp only [gName, tNext, tSeq]
    refine if_or ?_
    refine ⟨_, rfl, _, _, rfl, rfl, _, rfl, ?_⟩
    refine ite2 (fun h => ?_) (fun h => ?_)
    · exact two (.inl (by have := of_decide_eq_true h; omega)) rfl fun _ _ q => q
    refine ⟨_, rfl, _, _, rfl, rfl, _, rfl, ?_⟩
    refine ite2 (fun h' => ?_) (fun h' => ?_)
    · exact two (.inr (by have := of_decide_eq_true h'; omega)) rfl fun _ _ q => q
    have g1 : ¬ 1 < Ut02.times s (.open_ n) := fun z => h (decide_eq_true (by omega))
    have g2 : ¬ 1 < Ut02.times s (.close n) := fun z => h' (decide_eq_true (by omega))
    rw [if_neg (fun z => z.elim g1 g2)] at k
    refine ⟨_, rfl, _, rfl, _, _, rfl, rfl, _, _, rfl, rfl, _, rfl, ?_⟩
    refine ite2 (fun h3 => ?_) (fun h3 => ?_)
    · have h3' := of_decide_eq_true h3
      rw [if_pos (by omega)] at k
      refine ⟨_, rfl, _, _, rfl, rfl, _, rfl, ?_⟩
      rw [b01_one]
      refine ifB (fun hm => ?_) (fun hm => ?_)
      · rw [hm, if_pos rfl] at k
        exact rd_one (c := 3) rfl rfl rfl k
      · rw [hm, if_neg Bool.false_ne_true] at k
        exact rd_nil (σ := []) k
    have h3' : ¬ (Ut02.times s (.open_ n) = 0 ∧ Ut02.times s (.close n) = 0) := fun z => h3 (decide_eq_true (by omega))
    rw [if_neg h3'] at k
    refine ⟨_, rfl, _, rfl, _, _, rfl, rfl, _, _, rfl, rfl, _, rfl, ?_⟩
    refine ite2 (fun h4 => ?_) (fun h4 => ?_)
    · have h4' := of_decide_eq_true h4
      rw [if_pos (by omega)] at k
      exact rd_one (c := 4) rfl rfl rfl k
    have h4' : ¬ (Ut02.times s (.open_ n) + Ut02.times s (.close n) = 1) := fun z => h4 (decide_eq_true (by omega))
    rw [if_neg h4'] at k
    have mo : .open_ n ∈ s := times_pos.mp (by omega)
    have mc : .close n ∈ s := times_pos.mp (by omega)
    refine ⟨_, rfl, _, rfl, _, s, n, rfl, hu2, mo, mc, fun H3 s3 => ⟨_, rfl, ?_⟩⟩
    replace k := k.mono s3
    refine ifB (fun h5 => ?_) (fun h5 => ?_)
    · rw [not_order mo mc] at h5
      rw [if_pos (of_decide_eq_true h5)] at k
      exact rd_one (c := 5) rfl rfl rfl k
    rw [not_order mo mc] at h5
    rw [if_neg (of_decide_eq_false h5)] at k
    have s34 := sm.trans s3
    exact ⟨_, rfl, _, rfl, _, rfl, _, _, l, s, n, rfl, dpI (sameI s34) hv, dpI (sameI s34) hu, hl, mo, mc, k⟩

/-! ### alone_faults -/
def aloneF (s : List Tk) (n : Nat) (m : Bool) : List Fault := if 1 < Ut02.times s (.alone n) then [(2, n, 0)] else if Ut02.times s (.alone n) = 0 ∧ m = true then [(3, n, 0)] else []
theorem aloneF_len (s : List Tk) (n : Nat) (m : Bool) : (aloneF s n m).length ≤ 1 := by
  unfold aloneF
  repeat' split
  all_goals simp
def spAloneF (K : PySem.W.Frag) : Sp := fun vs H Q _ => ∃ (u : V) (s : List Tk) (n : Nat) (m : Bool), vs = [u, .int n, .int (b01 m)] ∧ TokL K H u s ∧ RetL K H Q ((aloneF s n m).map fltD)
theorem ok_alone_faults (F : Fun K "alone_faults" "alone_faults" s_alone_faults f fd) (T : Txt K mg) : FnOk P w K mg base CX0 1 f fd ["things", "number", "needed"] (spAloneF K) := by
  refine F.ok sc_alone_faults (fun vs H Q E h => ?_) (fun cdv A outer st H vs Q E hr h => ?_)
  · obtain ⟨u, s, n, m, rfl, _⟩ := h
    rfl
  · obtain ⟨u, s, n, m, rfl, hu, k⟩ := h
    refine ⟨_, (pss_cons (ps_set (i := 3) sc_alone_faults.nd rfl (Or.inl rfl) (pe_bm PySem.F.plainAttrs_list PySem.F.slot_list_count PySem.F.type_list_count (k_count K (hu65 hr)) (pv 0) (pa_cons (pe_tup (pa_cons (pe_gi T.m_ALONE) (pa_cons (pv 1) pa_nil))) pa_nil)))
      (pss_cons (ps_if (pt_cmpR op_gt (pv 3) pe_int (nomark _)) (pss_one (ps_ret (pe_lst (pa_cons (pe_tup (pa_cons (pe_gi T.m_REPEATED) (pa_cons (pv 1) (pa_cons pe_int pa_nil)))) pa_nil)))) pss_nil)
      (pss_cons (ps_if (PW.pt (pw_and (pt_cmpR k_eqI (pv 3) pe_int (nomark _)) (pw_and1 (pt_cmpR k_eqI (pv 2) pe_int (nomark _))))) (pss_one (ps_ret (pe_lst (pa_cons (pe_tup (pa_cons (pe_gi T.m_MISSING) (pa_cons (pv 1) (pa_cons pe_int pa_nil)))) pa_nil)))) pss_nil)
      (pss_one (ps_ret (pe_lst pa_nil)))))), ?_⟩
    refine rd_count (.alone n) rfl hu rfl rfl rfl fun H1 s1 => ?_
    replace k := k.mono s1
    unfold aloneF at k
    refine ⟨_, rfl, _, _, rfl, rfl, _, rfl, ?_⟩
    refine ite2 (fun h => ?_) (fun h => ?_)
    · rw [if_pos (by have := of_decide_eq_true h; omega)] at k
      exact rd_one (c := 2) rfl rfl rfl k
    rw [if_neg (fun z => h (decide_eq_true (by omega)))] at k
    dsimp only [gName, tNext, tSeq]
    refine if_and ?_
    refine ⟨_, rfl, _, _, rfl, rfl, _, rfl, ?_⟩
    refine ite2 (fun h2 => ?_) (fun h2 => ?_)
    · have h2' := of_decide_eq_true h2
      refine ⟨_, rfl, _, _, rfl, rfl, _, rfl, ?_⟩
      rw [b01_one]
      refine ifB (fun hm => ?_) (fun hm => ?_)
      · rw [if_pos ⟨by omega, hm⟩] at k
        exact rd_one (c := 3) rfl rfl rfl k
      · rw [if_neg (fun z => by rw [hm] at z; exact Bool.noConfusion z.2)] at k
        exact rd_nil (σ := []) k
    · rw [if_neg (fun z => h2 (decide_eq_true (by omega)))] at k
      exact rd_nil (σ := []) k

/-! ### faults_of -/
def tagF (l : List Tag) (s : List Tk) (g : Tag) : List Fault := if g.pair = true then pairF l s g.i g.must else aloneF s g.i g.must
def faultsM (l : List Tag) (s : List Tk) : List Fault := strangeF l s ++ l.flatMap (tagF l s)
theorem tagF_len (l : List Tag) (s : List Tk) (g : Tag) : (tagF l s g).length ≤ l.length + 1 := by
  unfold tagF
  split
  · exact pairF_len l s g.i g.must
  · exact Nat.le_trans (aloneF_len s g.i g.must) (by omega)
theorem tagsF_len (l : List Tag) (s : List Tk) : ∀ pre : List Tag, (pre.flatMap (tagF l s)).length ≤ pre.length * (l.length + 1)
  | [] => by simp
  | g :: r => by
    have h1 := tagsF_len l s r
    have h2 := tagF_len l s g
    rw [List.flatMap_cons, List.length_append, List.length_cons, Nat.add_mul]
    omega
theorem faults_len {l : List Tag} {s : List Tk} (hl : l.length ≤ 60) (hs : s.length ≤ 1000) {pre : List Tag} (hp : pre.length ≤ l.length) : (strangeF l s ++ pre.flatMap (tagF l s)).length ≤ 5000 := by
  have h1 := tagsF_len l s pre
  have h2 := strange_len l s
  have h3 : pre.length * (l.length + 1) ≤ 60 * 61 := Nat.mul_le_mul (by omega) (by omega)
  rw [List.length_append]
  unfold strangeF
  rw [List.length_map]
  omega
def spFaults (K : PySem.W.Frag) : Sp := fun vs H Q _ => ∃ (v u : V) (l : List Tag) (s : List Tk), vs = [v, u] ∧ TagL K H v l ∧ TokL K H u s ∧ l.length ≤ 60 ∧ s.length ≤ 1000 ∧ RetL K H Q ((faultsM l s).map fltD)
theorem ok_faults_of (F : Fun K "faults_of" "faults_of" s_faults_of f fd) (c_strange_faults : Cal P w K mg base 3 "strange_faults" ["tags", "things"] (spStrange K))
    (c_pair_faults : Cal P w K mg base 3 "pair_faults" ["tags", "things", "number", "needed"] (spPairF K)) (c_alone_faults : Cal P w K mg base 1 "alone_faults" ["things", "number", "needed"] (spAloneF K)) :
    FnOk P w K mg base CX0 4 f fd ["tags", "things"] (spFaults K) := by
  refine F.ok sc_faults_of (fun vs H Q E h => ?_) (fun cdv A outer st H vs Q E hr h => ?_)
  · obtain ⟨v, u, l, s, rfl, _⟩ := h
    rfl
  · obtain ⟨v, u, l, s, rfl, hv, hu, hl, hs, k⟩ := h
    refine ⟨_, (pss_cons (ps_set (i := 2) sc_faults_of.nd rfl (Or.inl rfl) (pe_u c_strange_faults (hr.mono (by decide)) (pa_cons (pv 0) (pa_cons (pv 1) pa_nil))))
      (pss_cons (ps_for PassesOwn.never rfl (pi_list (pv 0)) (pg_tup rfl (pgs_cons (pg_name (i := 3) sc_faults_of.nd rfl (Or.inl rfl)) (pgs_cons (pg_name (i := 4) sc_faults_of.nd rfl (Or.inl rfl)) (pgs_cons (pg_name (i := 5) sc_faults_of.nd rfl (Or.inl rfl)) pgs_nil))))
        (pss_one (ps_if (pt_cmpR k_eqI (pv 4) pe_int (nomark _)) (pss_one (ps_expr (pe_bm PySem.F.plainAttrs_list PySem.F.slot_list_extend PySem.F.type_list_extend mt_extend (pv 2) (pa_cons (pe_u c_pair_faults (hr.mono (by decide)) (pa_cons (pv 0) (pa_cons (pv 1) (pa_cons (pv 3) (pa_cons (pv 5) pa_nil))))) pa_nil)))) (pss_one (ps_expr (pe_bm PySem.F.plainAttrs_list PySem.F.slot_list_extend PySem.F.type_list_extend mt_extend (pv 2) (pa_cons (pe_u c_alone_faults (hr.mono (by decide)) (pa_cons (pv 1) (pa_cons (pv 3) (pa_cons (pv 5) pa_nil)))) pa_nil)))))))
      (pss_one (ps_ret (pv 2))))), ?_⟩
    obtain ⟨a, xs, rfl, hsq, hxl⟩ := len_of hv
    refine ⟨_, rfl, _, rfl, _, _, l, s, rfl, hv, hu, hl, hs, fun H1 p ys sm hp hy ha => ?_⟩
    refine ⟨_, rfl, a, rfl, for_data hv (fun pre σ H' => ∃ u1 u2 u3, σ = [some (.ref a), some u, some (.ref p), u1, u2, u3] ∧ Same H H' ∧ ∃ ys, H' p = some (.lst ys) ∧ DpAll K H' ys ((strangeF l s ++ pre.flatMap (tagF l s)).map fltD))
      ⟨none, none, none, rfl, sm, ys, hy, by simpa using ha⟩ ?_ ?_ ?_⟩
    · rintro pre σ H' ⟨_, _, _, _, sm, _⟩
      exact sameI sm
    · rintro pre g post y σ H' e ⟨u1, u2, u3, rfl, sm, ys, hq, ha⟩ hy
      obtain ⟨b, rfl, hb⟩ := dp_tag hy
      have hpl : (pre ++ [g]).length ≤ l.length := by rw [e]; simp
      have hlen2 := faults_len hl hs hpl
      have e2 : (strangeF l s ++ (pre ++ [g]).flatMap (tagF l s)) = (strangeF l s ++ pre.flatMap (tagF l s)) ++ tagF l s g := by
        rw [List.flatMap_append, List.append_assoc]
        simp
      have fin : ∀ (H2 : Hp) (q : Addr) (zs : List V), Same H' H2 → H' q = none → H2 q = some (.lst zs) → DpAll K H2 zs ((tagF l s g).map fltD) →
          (ys.length + zs.length ≤ sizeLine) ∧ (∃ x1 x2 x3, [some (.ref a), some u, some (.ref p), some (.int g.i), some (.int (b01 g.pair)), some (.int (b01 g.must))] = [some (V.ref a), some u, some (.ref p), x1, x2, x3] ∧ Same H (upd H2 p (.lst (ys ++ zs))) ∧ ∃ ys', (upd H2 p (.lst (ys ++ zs))) p = some (.lst ys') ∧ DpAll K (upd H2 p (.lst (ys ++ zs))) ys' ((strangeF l s ++ (pre ++ [g]).flatMap (tagF l s)).map fltD)) := by
        intro H2 q zs s2 hq2 hz hza
        have l1 := dpAll_len ha
        have l2 := dpAll_len hza
        rw [List.length_map] at l1 l2
        rw [e2, List.length_append] at hlen2
        refine ⟨szle (by omega), _, _, _, rfl, same_upd hp (sm.trans s2), _, upd_same, ?_⟩
        have st : SameT H2 (upd H2 p (.lst (ys ++ zs))) := sameT_upd (s2 _ _ hq)
        rw [e2, List.map_append]
        refine dpAll_app (dpAll_flat ((sameT s2).trans st) (fun d hd => ?_) ha) (dpAll_flat st (fun d hd => ?_) hza)
        · obtain ⟨z, _, rfl⟩ := List.mem_map.mp hd
          exact flt_flat z
        · obtain ⟨z, _, rfl⟩ := List.mem_map.mp hd
          exact flt_flat z
      refine ⟨b, _, rfl, hb, rfl, _, _, rfl, _, _, rfl, _, _, rfl, rfl, ?_⟩
      refine ⟨_, rfl, _, _, rfl, rfl, _, rfl, ?_⟩
      rw [b01_one]
      refine ifB (fun h => ?_) (fun h => ?_)
      · refine ⟨_, rfl, .inl ⟨rfl, _, SqL.of hq⟩, _, rfl, _, rfl, _, rfl, _, rfl, _, _, l, s, g.i, g.must, rfl, dpI (sameI sm) hv, dpI (sameI sm) hu, hl, fun H2 q zs s2 hq2 hz hza => ?_⟩
        have et : tagF l s g = pairF l s g.i g.must := by
          unfold tagF
          rw [if_pos h]
        rw [← et] at hza
        obtain ⟨f1, f2⟩ := fin H2 q zs s2 hq2 hz hza
        exact ⟨p, q, ys, zs, rfl, rfl, s2 _ _ hq, hz, f1, f2⟩
      · refine ⟨_, rfl, .inl ⟨rfl, _, SqL.of hq⟩, _, rfl, _, rfl, _, rfl, _, s, g.i, g.must, rfl, dpI (sameI sm) hu, fun H2 q zs s2 hq2 hz hza => ?_⟩
        have et : tagF l s g = aloneF s g.i g.must := by
          unfold tagF
          rw [if_neg (by rw [h]; exact Bool.false_ne_true)]
        rw [← et] at hza
        obtain ⟨f1, f2⟩ := fin H2 q zs s2 hq2 hz hza
        exact ⟨p, q, ys, zs, rfl, rfl, s2 _ _ hq, hz, f1, f2⟩
    · rintro σ H' ⟨u1, u2, u3, rfl, sm, ys, hq, ha⟩
      exact ⟨_, rfl, k _ _ _ sm hp hq ha⟩

/-! ### is_as_told -/
def allMust (l : List Tag) : List Tag := l.map fun t => { t with must := true }
def spTold (K : PySem.W.Frag) : Sp := fun vs H Q _ => ∃ (v u : V) (l : List Tag) (s : List Tk), vs = [v, u] ∧ TagL K H v l ∧ TokL K H u s ∧ l.length ≤ 60 ∧ s.length ≤ 1000 ∧ RetB H Q (faultsM (allMust l) s).isEmpty
theorem ok_is_as_told (F : Fun K "is_as_told" "is_as_told" s_is_as_told f fd) (T : Txt K mg) (c_faults_of : Cal P w K mg base 4 "faults_of" ["tags", "things"] (spFaults K)) : FnOk P w K mg base CX0 5 f fd ["tags", "things"] (spTold K) := by
  refine F.ok sc_is_as_told (fun vs H Q E h => ?_) (fun cdv A outer st H vs Q E hr h => ?_)
  · obtain ⟨v, u, l, s, rfl, _⟩ := h
    rfl
  · obtain ⟨v, u, l, s, rfl, hv, hu, hl, hs, k⟩ := h
    refine ⟨_, (pss_cons (ps_setLc (i := 2) (own := [("tag", 3)]) (by rfl) sc_is_as_told.nd rfl rfl (sw_true rfl rfl rfl (by decide +kernel)) (pi_list (pv 0)) (blkOk_by (own := [("tag", 3)]) (N := N_is_as_told) (sc := defScope s_is_as_told) (by decide +kernel)) (fun _ _ _ _ _ => (pg_name (i := 3) sc_is_as_told.nd rfl (Or.inl rfl))) (fun _ _ _ _ _ => pts_nil) (fun _ _ _ _ _ => (pe_tup (pa_cons (pe_ix (k_ixT K) (pv 3) pe_int (fun _ _ => rfl)) (pa_cons (pe_ix (k_ixT K) (pv 3) pe_int (fun _ _ => rfl)) (pa_cons pe_int pa_nil))))))
      (pss_one (ps_ret (pe_cmpR k_eqI (pe_callB call_len_seq (by rfl) T.m_len PySem.boot_len (pa_cons (pe_u c_faults_of (hr.mono (by decide)) (pa_cons (pv 2) (pa_cons (pv 1) pa_nil))) pa_nil)) pe_int (nomark _))))), ?_⟩
    obtain ⟨a, xs, rfl, hsq, hxl⟩ := len_of hv
    refine ⟨_, rfl, a, rfl, ⟨_, hsq⟩, fun D hD => lc_data hv (fun g => [tagD { g with must := true }]) (fun x d hd => by rw [List.mem_singleton.mp hd]; exact tag_flat _) hD (by omega) ?_ ?_⟩
    · intro pre g post y H2 QT QF e sm2 hy kT kF
      obtain ⟨b, rfl, hb⟩ := dp_tag hy
      refine ⟨rfl, yes_if ?_⟩
      refine ⟨_, rfl, b, _, 0, _, rfl, rfl, hb, rfl, _, rfl, b, _, 1, _, rfl, rfl, hb, rfl, szle (by show 3 ≤ 100000; decide), fun q hq2 => ?_⟩
      exact kT _ _ _ rfl (same_new hq2) (three_dp (SqT.of upd_same))
    · intro H1 ys s1 hy ha
      have ef : (l.flatMap fun g => [tagD { g with must := true }]) = (allMust l).map tagD := by
        unfold allMust
        rw [List.map_map, List.map_eq_flatMap]
        rfl
      rw [ef] at ha
      refine ⟨_, rfl, _, rfl, _, _, allMust l, s, rfl, .lst (SqL.of hy) ha, dpI (sameI s1) hu, by unfold allMust; rw [List.length_map]; exact hl, hs, fun H2 q zs s2 hq hz hza => ?_⟩
      refine ⟨q, _, rfl, .inl (SqL.of hz), _, _, rfl, rfl, ?_⟩
      have hzl := dpAll_len hza
      rw [List.length_map] at hzl
      have e0 : decide (((zs.length : Nat) : Int) = 0) = (faultsM (allMust l) s).isEmpty := by
        rw [hzl]
        cases faultsM (allMust l) s with
        | nil => rfl
        | cons x r => exact decide_eq_false (by simp; omega)
      have q := k _ (s1.trans s2)
      rw [← e0] at q
      exact q

/-! ### may_stay -/
def stayM (l : List Tag) (s : List Tk) : Bool := (faultsM l s).all fun f => decide (f.1 = 3) || decide (f.1 = 4)
def spStay (K : PySem.W.Frag) : Sp := fun vs H Q _ => ∃ (v u : V) (l : List Tag) (s : List Tk), vs = [v, u] ∧ TagL K H v l ∧ TokL K H u s ∧ l.length ≤ 60 ∧ s.length ≤ 1000 ∧ RetB H Q (stayM l s)
theorem ok_may_stay (F : Fun K "may_stay" "may_stay" s_may_stay f fd) (T : Txt K mg) (c_faults_of : Cal P w K mg base 4 "faults_of" ["tags", "things"] (spFaults K)) : FnOk P w K mg base CX0 5 f fd ["tags", "kept"] (spStay K) := by
  refine F.ok sc_may_stay (fun vs H Q E h => ?_) (fun cdv A outer st H vs Q E hr h => ?_)
  · obtain ⟨v, u, l, s, rfl, _⟩ := h
    rfl
  · obtain ⟨v, u, l, s, rfl, hv, hu, hl, hs, k⟩ := h
    refine ⟨_, (pss_one (ps_ret (pe_callB (cr_all rfl) (by rfl) T.m_all (by decide +kernel) (pa_cons (pe_lc (own := [("fault", 2)]) (by rfl) sc_may_stay.nd (pi_list (pe_u c_faults_of (hr.mono (by decide)) (pa_cons (pv 0) (pa_cons (pv 1) pa_nil)))) (blkOk_by (own := [("fault", 2)]) (N := N_may_stay) (sc := defScope s_may_stay) (by decide +kernel)) (fun _ _ _ _ _ => (pg_name (i := 2) sc_may_stay.nd rfl (Or.inl rfl))) (fun _ _ _ _ _ => pts_nil) (fun _ _ _ _ _ => (pe_cmpR (k_in K) (pe_ix (k_ixT K) (pv 2) pe_int (fun _ _ => rfl)) (pe_tup (pa_cons (pe_gi T.m_MISSING) (pa_cons (pe_gi T.m_HALF) pa_nil))) (by rfl)))) pa_nil)))), ?_⟩
    refine ⟨_, rfl, _, rfl, _, _, l, s, rfl, hv, hu, hl, hs, fun H1 p ys s1 hp hy ha => ?_⟩
    have hd : Dp K H1 (.ref p) (.list ((faultsM l s).map fltD)) := .lst (SqL.of hy) ha
    have hfl : (faultsM l s).length ≤ 5000 := faults_len hl hs (Nat.le_refl _)
    refine ⟨p, rfl, ⟨_, SqL.of hy⟩, fun D hD => lc_data hd (fun x => [.bool (decide (x.1 = 3) || decide (x.1 = 4))]) (fun x d hd => by rw [List.mem_singleton.mp hd]; rfl) hD (by omega) ?_ ?_⟩
    · intro pre x post y H' QT QF e sm hy2 kT kF
      obtain ⟨b, rfl, hb⟩ := dp_flt hy2
      refine ⟨rfl, yes_if ?_⟩
      refine ⟨_, rfl, b, _, 0, _, rfl, rfl, hb, rfl, szle (by show 2 ≤ 100000; decide), fun q hq => ⟨q, _, rfl, .inr (SqT.of upd_same), rfl, rfl, ?_⟩⟩
      have ei : (if false = true then !inV (V.int (x.1 : Nat)) [.int 3, .int 4] else inV (V.int (x.1 : Nat)) [.int 3, .int 4]) = (decide (x.1 = 3) || decide (x.1 = 4)) := by
        rw [if_neg Bool.false_ne_true]
        have := inV_nat x.1 [3, 4]
        simp only [List.map_cons, List.map_nil] at this
        refine this.trans ?_
        by_cases h3 : x.1 = 3 <;> by_cases h4 : x.1 = 4 <;> simp [h3, h4]
      rw [ei]
      exact kT _ _ _ rfl (same_new hq) (.bl _)
    · intro H2 zs s2 hz hza
      rw [flat_bools] at hza
      have ez := dpAll_bools hza
      subst ez
      refine ⟨D, _, rfl, SqL.of hz, ?_⟩
      have q := k _ (s1.trans s2)
      unfold stayM at q
      rw [← all_bools] at q
      exact q
end
end Tm
set_option Elab.async false
set_option maxRecDepth 100000
set_option maxHeartbeats 2000000
namespace Tm
open PySem PySem.Spec PyProof.Rows L2
open Ut02 (Tag Seg Fault)
/-! ### xs + ys of lists that are read -/
section
variable {X : Cx}
def rCatQ (K : PySem.W.Frag) : R2 := fun x y H Q => ∃ l b xs zs, x = .ref l ∧ y = .ref b ∧ SqL K H l xs ∧ SqL K H b zs ∧ xs.length + zs.length ≤ sizeLine ∧ ∀ p, H p = none → Q (.ref p) (upd H p (.lst (xs ++ zs)))
theorem k_cat (K : PySem.W.Frag) (e : X.K = K := by rfl) : OpR X (binaryOp .Add) (rCatQ K) := by
  subst e
  intro pins s σ H x y v u Q I rx ry h
  obtain ⟨l, b, xs, zs, rfl, rfl, hH, hB, hz, q⟩ := h
  cases rx
  cases ry
  obtain ⟨i1, r1, ⟨⟨c1, d1, dt1, sl1⟩, n1, e1, hc1, _, hd1⟩, _⟩ := I.list hH
  obtain ⟨i2, r2, ⟨⟨c2, d2, dt2, sl2⟩, n2, e2, hc2, _, hd2⟩, _⟩ := I.list hB
  simp only at hc1 hd1 hc2 hd2
  subst hc1 hd1 hc2 hd2
  have len1 := r1.length
  have len2 := r2.length
  have ea : i1.toArray ++ i2.toArray = (i1 ++ i2).toArray := by simp
  refine concat_meets ⟨_, e1, rfl⟩ ⟨_, e2, rfl⟩ noFill_list_add seq_list_add PySem.F.slot_list_add PySem.F.entry_list_add (PySem.F.args_list_add_2 _ _)
    (list_addW l b i1.toArray i2.toArray n1 n2 d1 d2 sl1 sl2 (by rw [List.size_toArray, List.size_toArray]; omega)) ⟨e1, e2, ?_⟩
  rw [ea]
  exact ⟨.ref _, _, I.lnew (t' := s.toks) (r1.append r2) (by rw [List.length_append]; omega), rfl, q _ I.fresh⟩
end
/-! ### a heap without one of its objects -/
def del (H : Hp) (q : Addr) : Hp := fun b => if b = q then none else H b
theorem del_at (H : Hp) (q : Addr) : del H q q = none := if_pos rfl
theorem del_ne {H : Hp} {q b : Addr} (h : b ≠ q) : del H q b = H b := if_neg h
theorem del_upd (H : Hp) (q : Addr) (o : HO) : del (upd H q o) q = del H q := by
  funext b
  by_cases h : b = q
  · rw [h, del_at, del_at]
  · rw [del_ne h, del_ne h, upd_ne h]
theorem same_del (H : Hp) (q : Addr) : Same (del H q) H := fun b o e => by
  by_cases h : b = q
  · rw [h, del_at] at e
    cases e
  · rw [del_ne h] at e
    exact e
theorem del_same {H H' : Hp} {q : Addr} (s : Same H H') : Same (del H q) (del H' q) := fun b o e => by
  by_cases h : b = q
  · rw [h, del_at] at e
    cases e
  · rw [del_ne h] at e ⊢
    exact s _ _ e
theorem same_to_del {H H' : Hp} {q : Addr} (s : Same H H') (hq : H q = none) : Same H (del H' q) := fun b o e => by
  rw [del_ne (ne_of_none e hq)]
  exact s _ _ e
/-! ### a loop over data, the item told in the heap where the list was told -/
theorem for_data0 {α : Type} {enc : α → PyData} {K : PySem.W.Frag} {a : Addr} {g : TG} {tb : TS} {D : Ends} {σ : L2.St} {H H0 : Hp} {l : List α} (hv : Dp K H0 (.ref a) (.list (l.map enc))) (Pv : List α → L2.St → Hp → Prop) (h0 : Pv [] σ H)
    (hk : ∀ pre σ' H', Pv pre σ' H' → SameI H0 H')
    (hs : ∀ pre x post v σ' H', l = pre ++ x :: post → Pv pre σ' H' → Dp K H0 v (enc x) → g v σ' H' fun σ2 H2 => tb { D with nx := Pv (pre ++ [x]), ct := Pv (pre ++ [x]), bk := D.nx } σ2 H2)
    (hd : ∀ σ' H', Pv l σ' H' → D.nx σ' H') :
    (∃ xs, SqL K H a xs) ∧ ∃ W : Nat → Nat → L2.St → Hp → Prop, (∃ m, W 0 m σ H) ∧ ∀ i m σ H, W i m σ H →
      ((Itl K a).stop i H ∧ D.nx σ H) ∨ ((Itl K a).go i H ∧ ∃ N : L2.St → Hp → Prop, (∀ σ' H', N σ' H' → ∃ m', m' < m ∧ W (i + 1) m' σ' H') ∧ ∀ x H', (Itl K a).yld i H x H' → g x σ H' fun σ2 H2 => tb { D with nx := N, ct := N, bk := D.nx } σ2 H2) := by
  obtain ⟨a', xs, ea, hsq, hall⟩ := dp_list hv
  cases ea
  have hlen : xs.length = l.length := by rw [dpAll_len hall, List.length_map]
  refine ⟨⟨xs, (hk _ _ _ h0).seq hsq⟩, for_list (K := K) (a := a) (xs := xs) (fun i σ' H' => Pv (l.take i) σ' H') (by simpa using h0) (fun i σ' H' _ p => (hk _ _ _ p).seq hsq) ?_ ?_⟩
  · intro i v σ' H' hi p
    obtain ⟨d, h1, h2⟩ := dpAll_get hall hi
    rw [List.getElem?_map] at h1
    cases e : l[i]? with
    | none =>
      rw [e] at h1
      cases h1
    | some x =>
      rw [e] at h1
      cases h1
      obtain ⟨e1, e2⟩ := split_at e
      have q := hs (l.take i) x (l.drop (i + 1)) v σ' H' e1 p h2
      rw [← e2] at q
      exact q
  · intro σ' H' p
    rw [hlen, List.take_length] at p
    exact hd σ' H' p
section
variable {P : Program} {w : World} {K : PySem.W.Frag} {mg : Str → Option Value} {base : Heap} {f : Addr} {fd : FuncData}

/-! ### choices_that_may_stay -/
def encL (k : List Tk) : PyData := .list (k.map tokD)
def chOne (l : List Tag) (t : Tk) (k : List Tk) : List (List Tk) := (if Ut02.isTag t = false ∨ stayM l (k ++ [t]) = true then [k ++ [t]] else []) ++ (if Ut02.isTag t = true then [k] else [])
def chStep (l : List Tag) (cs : List (List Tk)) (t : Tk) : List (List Tk) := cs.flatMap (chOne l t)
def choicesM (l : List Tag) (s : List Tk) : List (List Tk) := s.foldl (chStep l) [[]]
theorem choices_more (l : List Tag) (s : List Tk) (t : Tk) : choicesM l (s ++ [t]) = chStep l (choicesM l s) t := by
  unfold choicesM
  rw [List.foldl_append]
  rfl
theorem chOne_len (l : List Tag) (t : Tk) (k : List Tk) : (chOne l t k).length ≤ if Ut02.isTag t = true then 2 else 1 := by
  unfold chOne
  cases h : Ut02.isTag t with
  | true =>
    rw [if_pos rfl, if_pos rfl]
    by_cases h2 : true = false ∨ stayM l (k ++ [t]) = true
    · rw [if_pos h2]
      simp
    · rw [if_neg h2]
      simp
  | false =>
    rw [if_pos (.inl rfl), if_neg Bool.false_ne_true, if_neg Bool.false_ne_true]
    simp
theorem chFlat_len (l : List Tag) (t : Tk) : ∀ cs : List (List Tk), (cs.flatMap (chOne l t)).length ≤ cs.length * if Ut02.isTag t = true then 2 else 1
  | [] => by simp
  | k :: r => by
    have h1 := chFlat_len l t r
    have h2 := chOne_len l t k
    rw [List.flatMap_cons, List.length_append, List.length_cons, Nat.add_mul, Nat.one_mul]
    omega
theorem choices_len (l : List Tag) : ∀ (s : List Tk) (cs : List (List Tk)), (s.foldl (chStep l) cs).length ≤ cs.length * 2 ^ Ut02.tagCount s
  | [], cs => by simp [Ut02.tagCount]
  | t :: s, cs => by
    have h1 := choices_len l s (chStep l cs t)
    have h2 := chFlat_len l t cs
    rw [List.foldl_cons]
    refine Nat.le_trans h1 ?_
    have e : cs.length * 2 ^ Ut02.tagCount (t :: s) = (cs.length * if Ut02.isTag t = true then 2 else 1) * 2 ^ Ut02.tagCount s := by
      unfold Ut02.tagCount
      rw [List.filter_cons]
      cases h : Ut02.isTag t with
      | true =>
        rw [if_pos rfl, if_pos rfl, List.length_cons, Nat.pow_succ, Nat.mul_assoc, Nat.mul_comm 2]
      | false =>
        rw [if_neg Bool.false_ne_true, if_neg Bool.false_ne_true, Nat.mul_one]
    rw [e]
    exact Nat.mul_le_mul_right _ h2
theorem tagCount_app (s u : List Tk) : Ut02.tagCount (s ++ u) = Ut02.tagCount s + Ut02.tagCount u := by
  unfold Ut02.tagCount
  rw [List.filter_append, List.length_append]
theorem choices_256 {l : List Tag} {s pre post : List Tk} (h : Ut02.tagCount s ≤ 8) (e : s = pre ++ post) : (choicesM l pre).length ≤ 256 := by
  have h1 := choices_len l pre [[]]
  have h2 : Ut02.tagCount pre ≤ 8 := by
    rw [e, tagCount_app] at h
    omega
  have h3 : 2 ^ Ut02.tagCount pre ≤ 2 ^ 8 := Nat.pow_le_pow_right (by decide) h2
  unfold choicesM
  simp at h1
  omega
theorem mem_chOne {l : List Tag} {t : Tk} {k x : List Tk} (h : x ∈ chOne l t k) : x = k ++ [t] ∨ x = k := by
  unfold chOne at h
  rcases List.mem_append.mp h with h | h
  · split at h
    · exact .inl (List.mem_singleton.mp h)
    · cases h
  · split at h
    · exact .inr (List.mem_singleton.mp h)
    · cases h
theorem choices_short (l : List Tag) : ∀ (s : List Tk) (cs : List (List Tk)) (n : Nat), (∀ k ∈ cs, k.length ≤ n) → ∀ k ∈ s.foldl (chStep l) cs, k.length ≤ n + s.length
  | [], cs, n, h, k, hk => h k hk
  | t :: s, cs, n, h, k, hk => by
    have := choices_short l s (chStep l cs t) (n + 1) (fun x hx => ?_) k hk
    · rw [List.length_cons]
      omega
    · obtain ⟨y, hy, hx⟩ := List.mem_flatMap.mp hx
      have hy' := h y hy
      rcases mem_chOne hx with rfl | rfl
      · rw [List.length_append, List.length_singleton]
        omega
      · omega
theorem choices_le {l : List Tag} {s k : List Tk} (h : k ∈ choicesM l s) : k.length ≤ s.length := by
  have := choices_short l s [[]] 0 (fun k hk => by rw [List.mem_singleton.mp hk]; exact Nat.le_refl _) k h
  omega
def spChoices (K : PySem.W.Frag) : Sp := fun vs H Q _ => ∃ (v u : V) (l : List Tag) (s : List Tk), vs = [v, u] ∧ TagL K H v l ∧ TokL K H u s ∧ l.length ≤ 60 ∧ s.length ≤ 100 ∧ Ut02.tagCount s ≤ 8 ∧ RetL K H Q ((choicesM l s).map encL)
theorem kind_eq (t : Tk) : decide (((kindN t : Nat) : Int) = 0) = !Ut02.isTag t := by
  cases t <;> rfl
theorem ok_choices (F : Fun K "choices_that_may_stay" "choices_that_may_stay" s_choices_that_may_stay f fd) (T : Txt K mg) (c_may_stay : Cal P w K mg base 5 "may_stay" ["tags", "kept"] (spStay K)) : FnOk P w K mg base CX0 6 f fd ["tags", "things"] (spChoices K) := by
  refine F.ok sc_choices_that_may_stay (fun vs H Q E h => ?_) (fun cdv A outer st H vs Q E hr h => ?_)
  · obtain ⟨v, u, l, s, rfl, _⟩ := h
    rfl
  · obtain ⟨v, u, l, s, rfl, hv, hu, hl, hs, ht, k⟩ := h
    refine ⟨_, (pss_cons (ps_set (i := 2) sc_choices_that_may_stay.nd rfl (Or.inl rfl) (pe_lst (pa_cons (pe_lst pa_nil) pa_nil)))
      (pss_cons (ps_for PassesOwn.never rfl (pi_list (pv 1)) (pg_name (i := 3) sc_choices_that_may_stay.nd rfl (Or.inl rfl))
        (pss_cons (ps_set (i := 4) sc_choices_that_may_stay.nd rfl (Or.inl rfl) (pe_lst pa_nil))
      (pss_cons (ps_for PassesOwn.never rfl (pi_list (pv 2)) (pg_name (i := 5) sc_choices_that_may_stay.nd rfl (Or.inl rfl))
        (pss_cons (ps_set (i := 6) sc_choices_that_may_stay.nd rfl (Or.inl rfl) (pe_op (k_cat K) (pv 5) (pe_lst (pa_cons (pv 3) pa_nil))))
      (pss_cons (ps_if (PW.pt (pw_or (pt_cmpR k_eqI (pe_ix (k_ixT K) (pv 3) pe_int (fun _ _ => rfl)) (pe_gi T.m_WORD) (nomark _)) (pw_or1 (pt_val (pe_u c_may_stay (hr.mono (by decide)) (pa_cons (pv 0) (pa_cons (pv 6) pa_nil))))))) (pss_one (ps_expr (pe_bm PySem.F.plainAttrs_list PySem.F.slot_list_append PySem.F.type_list_append mt_append (pv 4) (pa_cons (pv 6) pa_nil)))) pss_nil)
      (pss_one (ps_if (pt_cmpR k_neI (pe_ix (k_ixT K) (pv 3) pe_int (fun _ _ => rfl)) (pe_gi T.m_WORD) (nomark _)) (pss_one (ps_expr (pe_bm PySem.F.plainAttrs_list PySem.F.slot_list_append PySem.F.type_list_append mt_append (pv 4) (pa_cons (pv 5) pa_nil)))) pss_nil)))))
      (pss_one (ps_set (i := 2) sc_choices_that_may_stay.nd rfl (Or.inl rfl) (pv 4))))))
      (pss_one (ps_ret (pv 2))))), ?_⟩
    obtain ⟨a, xs, rfl, hsq, hxl⟩ := len_of hu
    refine ⟨Nat.zero_le _, fun p1 h1 => ⟨szle (by show 1 ≤ 100000; decide), fun c hc => ?_⟩⟩
    have s0 := (same_new (o := .lst []) h1).trans (same_new (o := .lst [.ref p1]) hc)
    have hc0 : H c = none := (same_new (o := .lst []) h1).free hc
    refine ⟨_, rfl, a, rfl, for_data hu (fun pre σ H' => ∃ c u3 u4 u5 u6, σ = [some v, some (.ref a), some (.ref c), u3, u4, u5, u6] ∧ Same H H' ∧ H c = none ∧ ∃ ys, H' c = some (.lst ys) ∧ DpAll K H' ys ((choicesM l pre).map encL))
      ⟨c, none, none, none, none, rfl, s0, hc0, _, upd_same, ?_⟩ ?_ ?_ ?_⟩
    · exact .cons (.lst (SqL.of (same_new hc _ _ upd_same)) .nil) .nil
    · rintro pre σ H' ⟨_, _, _, _, _, _, sm, _⟩
      exact sameI sm
    · rintro pre t post y σ H1 e ⟨c, u3, u4, u5, u6, rfl, sm, hc, ys, hy, ha⟩ hyt
      obtain ⟨b, rfl, hb⟩ := dp_tok hyt
      refine ⟨Nat.zero_le _, fun q hq => ?_⟩
      have hd : Dp K H1 (.ref c) (.list ((choicesM l pre).map encL)) := .lst (SqL.of hy) ha
      have h256 : (choicesM l pre).length ≤ 256 := choices_256 ht e
      have hpl : pre.length ≤ 100 := by
        have : s.length = pre.length + (post.length + 1) := by rw [e]; simp
        omega
      refine ⟨_, rfl, c, rfl, for_data0 hd (fun pre2 σ H' => ∃ u5 u6, σ = [some v, some (.ref a), some (.ref c), some (.ref b), some (.ref q), u5, u6] ∧ Same H1 H' ∧ ∃ zs, H' q = some (.lst zs) ∧ DpAll K (del H' q) zs ((pre2.flatMap (chOne l t)).map encL))
        ⟨u5, u6, rfl, same_new hq, [], upd_same, .nil⟩ ?_ ?_ ?_⟩
      · rintro pre2 σ H' ⟨_, _, _, sm2, _⟩
        exact sameI sm2
      · rintro pre2 kp post2 y2 σ H2 e2 ⟨u5, u6, rfl, s2, zs, hz, hza⟩ hkp
        obtain ⟨ka, kxs, rfl, hksq, hkall⟩ := dp_list hkp
        have hmem : kp ∈ choicesM l pre := by
          rw [e2]
          simp
        have hkl := choices_le hmem
        have hkx : kxs.length = kp.length := by rw [dpAll_len hkall, List.length_map]
        have hzl : zs.length ≤ 512 := by
          have q1 := chFlat_len l t pre2
          have q2 : pre2.length ≤ 256 := by
            have : (choicesM l pre).length = pre2.length + (post2.length + 1) := by rw [e2]; simp
            omega
          have q3 := dpAll_len hza
          rw [List.length_map] at q3
          have q4 : pre2.length * (if Ut02.isTag t = true then 2 else 1) ≤ 256 * 2 := Nat.mul_le_mul q2 (by split <;> omega)
          omega
        -- more = kept + [thing]
        refine ⟨_, rfl, _, rfl, szle (by show 1 ≤ 100000; decide), fun m1 hm1 => ?_⟩
        have s3 : Same H2 (upd H2 m1 (.lst [.ref b])) := same_new hm1
        refine ⟨ka, m1, kxs, [.ref b], rfl, rfl, (sameI (s2.trans s3)).seq hksq, SqL.of upd_same, szle (by simp; omega), fun m hm => ?_⟩
        have s4 : Same H2 (upd (upd H2 m1 (.lst [.ref b])) m (.lst (kxs ++ [.ref b]))) := s3.trans (same_new hm)
        have nqm : m ≠ q := fun z => by
          rw [z] at hm
          have := s3 _ _ hz
          rw [this] at hm
          cases hm
        -- the heap now, and what is known in it without longer
        generalize hH4 : upd (upd H2 m1 (.lst [.ref b])) m (.lst (kxs ++ [.ref b])) = H4 at s4 ⊢
        have hm4 : H4 m = some (.lst (kxs ++ [.ref b])) := by
          rw [← hH4]
          exact upd_same
        have sD : Same H1 (del H4 q) := same_to_del (s2.trans s4) hq
        have hbt : Dp K (del H4 q) (.ref b) (tokD t) := dpI (sameI sD) hyt
        have hkpD : Dp K (del H4 q) (.ref ka) (encL kp) := dpI (sameI sD) hkp
        have hmore : Dp K (del H4 q) (.ref m) (encL (kp ++ [t])) := by
          refine .lst (SqL.of (by rw [del_ne nqm]; exact hm4)) ?_
          rw [List.map_append]
          exact dpAll_app (dpAllI (sameI sD) hkall) (dpAll_one hbt)
        have hza4 : DpAll K (del H4 q) zs ((pre2.flatMap (chOne l t)).map encL) := dpAllI (sameI (del_same s4)) hza
        have hz4 : H4 q = some (.lst zs) := s4 _ _ hz
        have sm4 : Same H1 H4 := s2.trans s4
        clear hH4 s3 s4 hza hz s2 hm
        -- second half: if thing[0] != WORD: longer.append(kept)
        have half2 : ∀ (H5 : Hp) (ws : List V) (r1 : List (List Tk)), Same H1 H5 → H5 q = some (.lst ws) → ws.length ≤ 513 → Dp K (del H5 q) (.ref ka) (encL kp) → DpAll K (del H5 q) ws ((pre2.flatMap (chOne l t) ++ r1).map encL) →
            (r1 = if Ut02.isTag t = false ∨ stayM l (kp ++ [t]) = true then [kp ++ [t]] else []) →
            tIfS (tTest (tOp (rI0 fun i j => .bl (!decide (i = j))) (tOp (rIxT K) (tVar 3) (tC (.int 0))) (tC (.int 0)))) (tDrop (tBM K "list" rAppend (tVar 4) (tCons (tVar 5) tNil))) tNext
              { nx := fun σ H' => ∃ u5 u6, σ = [some v, some (.ref a), some (.ref c), some (.ref b), some (.ref q), u5, u6] ∧ Same H1 H' ∧ ∃ zs, H' q = some (.lst zs) ∧ DpAll K (del H' q) zs (((pre2 ++ [kp]).flatMap (chOne l t)).map encL), rt := Q }
              [some v, some (.ref a), some (.ref c), some (.ref b), some (.ref q), some (.ref ka), some (.ref m)] H5 := by
          intro H5 ws r1 sm5 hw hwl hk5 hwa hr1
          have eF : (pre2 ++ [kp]).flatMap (chOne l t) = (pre2.flatMap (chOne l t) ++ r1) ++ (if Ut02.isTag t = true then [kp] else []) := by
            rw [List.flatMap_append, List.append_assoc, hr1]
            simp [chOne]
          refine ⟨_, rfl, b, _, 0, _, rfl, rfl, (sameI sm5).tup hb, rfl, _, _, rfl, rfl, _, rfl, ?_⟩
          rw [kind_ne]
          refine ifB (fun h => ?_) (fun h => ?_)
          · refine ⟨_, rfl, .inl ⟨rfl, _, SqL.of hw⟩, _, rfl, q, _, _, rfl, rfl, hw, szl (by omega), _, _, rfl, same_upd hq sm5, _, upd_same, ?_⟩
            rw [del_upd, eF, if_pos h, List.map_append]
            exact dpAll_app hwa (dpAll_one hk5)
          · refine ⟨_, _, rfl, sm5, _, hw, ?_⟩
            rw [eF, if_neg (by rw [h]; exact Bool.false_ne_true), List.append_nil]
            exact hwa
        -- first half
        have yes : (Ut02.isTag t = false ∨ stayM l (kp ++ [t]) = true) → ∀ H5 : Hp, Same H4 H5 → tDrop (tBM K "list" rAppend (tVar 4) (tCons (tVar 6) tNil))
            { nx := (tIfS (tTest (tOp (rI0 fun i j => .bl (!decide (i = j))) (tOp (rIxT K) (tVar 3) (tC (.int 0))) (tC (.int 0)))) (tDrop (tBM K "list" rAppend (tVar 4) (tCons (tVar 5) tNil))) tNext
              { nx := fun σ H' => ∃ u5 u6, σ = [some v, some (.ref a), some (.ref c), some (.ref b), some (.ref q), u5, u6] ∧ Same H1 H' ∧ ∃ zs, H' q = some (.lst zs) ∧ DpAll K (del H' q) zs (((pre2 ++ [kp]).flatMap (chOne l t)).map encL), rt := Q }), rt := Q }
            [some v, some (.ref a), some (.ref c), some (.ref b), some (.ref q), some (.ref ka), some (.ref m)] H5 := by
          intro hyes H5 s5
          have hz5 := s5 _ _ hz4
          refine ⟨_, rfl, .inl ⟨rfl, _, SqL.of hz5⟩, _, rfl, q, _, _, rfl, rfl, hz5, szl (by omega), ?_⟩
          refine half2 _ _ [kp ++ [t]] (same_upd hq (sm4.trans s5)) upd_same (by simp; omega) ?_ ?_ (by rw [if_pos hyes])
          · rw [del_upd]
            exact dpI (sameI (del_same s5)) hkpD
          · rw [del_upd, List.map_append]
            exact dpAll_app (dpAllI (sameI (del_same s5)) hza4) (dpAll_one (dpI (sameI (del_same s5)) hmore))
        dsimp only [gName, tNext, tSeq]
        refine if_or ?_
        refine ⟨_, rfl, b, _, 0, _, rfl, rfl, (sameI sm4).tup hb, rfl, _, _, rfl, rfl, _, rfl, ?_⟩
        rw [kind_eq]
        refine ifB (fun h => ?_) (fun h => ?_)
        · exact yes (.inl (by simpa using h)) H4 (Same.refl _)
        · refine ⟨_, rfl, _, rfl, _, _, l, kp ++ [t], rfl, dpI (sameI (sm.trans sm4)) hv, dpI (sameI (same_del _ _)) hmore, hl, by rw [List.length_append, List.length_singleton]; omega, fun H5 s5 => ⟨_, rfl, ?_⟩⟩
          refine ifB (fun h2 => ?_) (fun h2 => ?_)
          · exact yes (.inr h2) H5 s5
          · have hno : ¬ (Ut02.isTag t = false ∨ stayM l (kp ++ [t]) = true) := by
              rintro (z | z)
              · rw [z] at h
                cases h
              · rw [z] at h2
                cases h2
            refine half2 H5 zs [] (sm4.trans s5) (s5 _ _ hz4) (by omega) (dpI (sameI (del_same s5)) hkpD) ?_ (by rw [if_neg hno])
            rw [List.append_nil]
            exact dpAllI (sameI (del_same s5)) hza4
      · rintro σ H2 ⟨u5, u6, rfl, s2, zs, hz, hza⟩
        refine ⟨_, rfl, q, _, _, _, _, rfl, sm.trans s2, sm.free hq, zs, hz, ?_⟩
        rw [choices_more]
        exact dpAllI (sameI (same_del _ _)) hza
    · rintro σ H' ⟨c, u3, u4, u5, u6, rfl, sm, hc, ys, hy, ha⟩
      exact ⟨_, rfl, k _ _ _ sm hc hy ha⟩
end
end Tm
set_option Elab.async false
set_option maxRecDepth 100000
set_option maxHeartbeats 2000000
namespace Tm
open PySem PySem.Spec PyProof.Rows L2
open Ut02 (Tag Seg Fault)
section
variable {K : PySem.W.Frag}
/-- a list of one's own at a -/
def LT (K : PySem.W.Frag) (H : Hp) (a : Addr) (ds : List PyData) : Prop := ∃ xs, H a = some (.lst xs) ∧ DpAll K H xs ds
theorem LT.dp {H : Hp} {a : Addr} {ds : List PyData} (h : LT K H a ds) : Dp K H (.ref a) (.list ds) := by
  obtain ⟨xs, hx, ha⟩ := h
  exact .lst (SqL.of hx) ha
theorem LT.sameI {H H' : Hp} {a : Addr} {ds : List PyData} (h : LT K H a ds) (e : SameI H H') : LT K H' a ds := by
  obtain ⟨xs, hx, ha⟩ := h
  exact ⟨xs, e _ _ hx fun _ _ _ z => (nomatch z), dpAllI e ha⟩
/-- another list changes: a list of flat data stays -/
theorem LT.upd {H : Hp} {a q : Addr} {ds : List PyData} {ys : List V} {o : HO} (h : LT K H a ds) (hf : ∀ d ∈ ds, flatD d = true) (hq : H q = some (.lst ys)) (n : a ≠ q) : LT K (upd H q o) a ds := by
  obtain ⟨xs, hx, ha⟩ := h
  exact ⟨xs, by rw [upd_ne n]; exact hx, dpAll_flat (sameT_upd hq) hf ha⟩
/-- a list of things that grows at p, all that stood in H0 as it was -/
def AccT (K : PySem.W.Frag) (H0 H : Hp) (p : Addr) (s : List Tk) : Prop := Same H0 H ∧ ∃ ys, H p = some (.lst ys) ∧ DpAll K H ys (s.map tokD)
theorem AccT.same {H0 H H' : Hp} {p : Addr} {s : List Tk} (a : AccT K H0 H p s) (e : Same H H') : AccT K H0 H' p s := by
  obtain ⟨s0, ys, hy, ha⟩ := a
  exact ⟨s0.trans e, ys, e _ _ hy, dpAllI (sameI e) ha⟩
theorem flat_toks {s : List Tk} : ∀ d ∈ s.map tokD, flatD d = true := fun d hd => by
  obtain ⟨z, _, rfl⟩ := List.mem_map.mp hd
  exact tok_flat z
theorem rd_appT {H0 H : Hp} {p : Addr} {s : List Tk} {t : Tk} {D : Ends} {σ : L2.St} {i j : Nat} {v : V} (a : AccT K H0 H p s) (hp : H0 p = none) (hl : s.length ≤ 9000)
    (hi : σ[i]? = some (some (.ref p))) (hj : σ[j]? = some (some v)) (hv : Dp K H v (tokD t)) (k : ∀ H', AccT K H0 H' p (s ++ [t]) → SameT H H' → D.nx σ H') :
    tDrop (tBM K "list" rAppend (tVar i) (tCons (tVar j) tNil)) D σ H := by
  obtain ⟨s0, ys, hy, ha⟩ := a
  have hyl := dpAll_len ha
  rw [List.length_map] at hyl
  refine ⟨_, hi, .inl ⟨rfl, _, SqL.of hy⟩, _, hj, p, _, _, rfl, rfl, hy, szl (by omega), ?_⟩
  have st : SameT H (upd H p (.lst (ys ++ [v]))) := sameT_upd hy
  refine k _ ⟨same_upd hp s0, _, upd_same, ?_⟩ st
  rw [List.map_append]
  exact dpAll_app (dpAll_flat st flat_toks ha) (dpAll_one (dp_flat st (tok_flat t) hv))
/-- x == y, things -/
theorem rd_eqT {H : Hp} {Q : VK} {x y : V} {t u : Tk} (hx : Dp K H x (tokD t)) (hy : Dp K H y (tokD u)) (k : Q (.bl (decide (t = u))) H) : rEqD K x y H Q := by
  refine ⟨tokD t, tokD u, hx, hy, tok_shaped t, tok_shaped u, ?_⟩
  rw [tok_eqv]
  exact k
theorem rd_notInT {H : Hp} {Q : VK} {x y : V} {t : Tk} {s : List Tk} (hx : Dp K H x (tokD t)) (hy : TokL K H y s) (k : Q (.bl (!decide (t ∈ s))) H) : rNotInD K x y H Q := by
  refine ⟨tokD t, s.map tokD, hx, hy, tok_shaped t, toks_shaped s, ?_⟩
  rw [any_eqv]
  exact k
theorem rd_inT {H : Hp} {Q : VK} {x y : V} {t : Tk} {s : List Tk} (hx : Dp K H x (tokD t)) (hy : TokL K H y s) (k : Q (.bl (decide (t ∈ s))) H) : rInD K x y H Q := by
  refine ⟨tokD t, s.map tokD, hx, hy, tok_shaped t, toks_shaped s, ?_⟩
  rw [any_eqv]
  exact k
end
section
variable {P : Program} {w : World} {K : PySem.W.Frag} {mg : Str → Option Value} {base : Heap} {f : Addr} {fd : FuncData}
/-! ### completed -/
def fill1 (s : List Tk) (t : Tk) : List Tk := if t = .close (numN t) ∧ .open_ (numN t) ∉ s then [.open_ (numN t)] else []
def fill2 (s : List Tk) (t : Tk) : List Tk := if t = .open_ (numN t) ∧ .close (numN t) ∉ s then [.close (numN t)] else []
def fillOne (s : List Tk) (t : Tk) : List Tk := fill1 s t ++ [t] ++ fill2 s t
def missOne (s : List Tk) (g : Tag) : List Tk := if g.must = true ∧ ((pieces g.i g.pair).any fun t => decide (t ∈ s)) = false then pieces g.i g.pair else []
def complM (l : List Tag) (s : List Tk) : List Tk := s.flatMap (fillOne s) ++ l.flatMap (missOne s)
theorem fill_len (s : List Tk) (t : Tk) : (fillOne s t).length ≤ 3 := by
  unfold fillOne fill1 fill2
  repeat' split
  all_goals simp
theorem fills_len (s : List Tk) : ∀ pre : List Tk, (pre.flatMap (fillOne s)).length ≤ 3 * pre.length
  | [] => by simp
  | t :: r => by
    have h1 := fills_len s r
    have h2 := fill_len s t
    rw [List.flatMap_cons, List.length_append, List.length_cons]
    omega
theorem pieces_len (n : Nat) (p : Bool) : (pieces n p).length ≤ 2 := by
  unfold pieces
  split <;> simp
theorem miss_len (s : List Tk) (g : Tag) : (missOne s g).length ≤ 2 := by
  have := pieces_len g.i g.pair
  unfold missOne
  split
  · exact this
  · simp
theorem misses_len (s : List Tk) : ∀ pre : List Tag, (pre.flatMap (missOne s)).length ≤ 2 * pre.length
  | [] => by simp
  | t :: r => by
    have h1 := misses_len s r
    have h2 := miss_len s t
    rw [List.flatMap_cons, List.length_append, List.length_cons]
    omega
theorem compl_len {l : List Tag} {s : List Tk} (hl : l.length ≤ 60) (hs : s.length ≤ 100) : (complM l s).length ≤ 420 := by
  have h1 := fills_len s s
  have h2 := misses_len s l
  unfold complM
  rw [List.length_append]
  omega
def spCompl (K : PySem.W.Frag) : Sp := fun vs H Q _ => ∃ (v u : V) (l : List Tag) (s : List Tk), vs = [v, u] ∧ TagL K H v l ∧ TokL K H u s ∧ l.length ≤ 60 ∧ s.length ≤ 100 ∧ RetL K H Q ((complM l s).map tokD)
theorem ok_completed (F : Fun K "completed" "completed" s_completed f fd) (T : Txt K mg) (c_pieces_of : Cal P w K mg base 1 "pieces_of" ["number", "pair"] (spPieces K)) : FnOk P w K mg base CX0 2 f fd ["tags", "kept"] (spCompl K) := by
  refine F.ok sc_completed (fun vs H Q E h => ?_) (fun cdv A outer st H vs Q E hr h => ?_)
  · obtain ⟨v, u, l, s, rfl, _⟩ := h
    rfl
  · obtain ⟨v, u, l, s, rfl, hv, hu, hl, hs, k⟩ := h
    refine ⟨_, (pss_cons (ps_set (i := 2) sc_completed.nd rfl (Or.inl rfl) (pe_lst pa_nil))
      (pss_cons (ps_for PassesOwn.never rfl (pi_list (pv 1)) (pg_name (i := 3) sc_completed.nd rfl (Or.inl rfl))
        (pss_cons (ps_set (i := 4) sc_completed.nd rfl (Or.inl rfl) (pe_tup (pa_cons (pe_gi T.m_OPENING) (pa_cons (pe_ix (k_ixT K) (pv 3) pe_int (fun _ _ => rfl)) pa_nil))))
      (pss_cons (ps_set (i := 5) sc_completed.nd rfl (Or.inl rfl) (pe_tup (pa_cons (pe_gi T.m_CLOSING) (pa_cons (pe_ix (k_ixT K) (pv 3) pe_int (fun _ _ => rfl)) pa_nil))))
      (pss_cons (ps_if (PW.pt (pw_and (pt_cmpR (k_eqD K hr.units) (pv 3) (pv 5) (nomark _)) (pw_and1 (pt_cmpR (k_notInD K (hu65 hr)) (pv 4) (pv 1) (by rfl))))) (pss_one (ps_expr (pe_bm PySem.F.plainAttrs_list PySem.F.slot_list_append PySem.F.type_list_append mt_append (pv 2) (pa_cons (pv 4) pa_nil)))) pss_nil)
      (pss_cons (ps_expr (pe_bm PySem.F.plainAttrs_list PySem.F.slot_list_append PySem.F.type_list_append mt_append (pv 2) (pa_cons (pv 3) pa_nil)))
      (pss_one (ps_if (PW.pt (pw_and (pt_cmpR (k_eqD K hr.units) (pv 3) (pv 4) (nomark _)) (pw_and1 (pt_cmpR (k_notInD K (hu65 hr)) (pv 5) (pv 1) (by rfl))))) (pss_one (ps_expr (pe_bm PySem.F.plainAttrs_list PySem.F.slot_list_append PySem.F.type_list_append mt_append (pv 2) (pa_cons (pv 5) pa_nil)))) pss_nil)))))))
      (pss_cons (ps_for PassesOwn.never rfl (pi_list (pv 0)) (pg_tup rfl (pgs_cons (pg_name (i := 6) sc_completed.nd rfl (Or.inl rfl)) (pgs_cons (pg_name (i := 7) sc_completed.nd rfl (Or.inl rfl)) (pgs_cons (pg_name (i := 8) sc_completed.nd rfl (Or.inl rfl)) pgs_nil))))
        (pss_cons (ps_set (i := 9) sc_completed.nd rfl (Or.inl rfl) (pe_u c_pieces_of (hr.mono (by decide)) (pa_cons (pv 6) (pa_cons (pv 7) pa_nil))))
      (pss_one (ps_if (PW.pt (pw_and (pt_cmpR k_eqI (pv 8) pe_int (nomark _)) (pw_and1 (pt_not (pt_val (pe_callB (cr_any rfl) (by rfl) T.m_any (by decide +kernel) (pa_cons (pe_lc (own := [("piece", 10)]) (by rfl) sc_completed.nd (pi_list (pv 9)) (blkOk_by (own := [("piece", 10)]) (N := N_completed) (sc := defScope s_completed) (by decide +kernel)) (fun _ _ _ _ _ => (pg_name (i := 10) sc_completed.nd rfl (Or.inl rfl))) (fun _ _ _ _ _ => pts_nil) (fun _ _ _ _ _ => (pe_cmpR (k_inD K (hu65 hr)) (pv 10) (pv 1) (by rfl)))) pa_nil))))))) (pss_one (ps_expr (pe_bm PySem.F.plainAttrs_list PySem.F.slot_list_extend PySem.F.type_list_extend mt_extend (pv 2) (pa_cons (pv 9) pa_nil)))) pss_nil))))
      (pss_one (ps_ret (pv 2)))))), ?_⟩
    refine ⟨Nat.zero_le _, fun p hp => ?_⟩
    obtain ⟨a, xs, rfl, hsq, hxl⟩ := len_of hu
    obtain ⟨g, gs, rfl, hgsq, hgl⟩ := len_of hv
    refine ⟨_, rfl, a, rfl, for_data hu (fun pre σ H' => ∃ u3 u4 u5 u6 u7 u8 u9 u10, σ = [some (.ref g), some (.ref a), some (.ref p), u3, u4, u5, u6, u7, u8, u9, u10] ∧ AccT K H H' p (pre.flatMap (fillOne s)))
      ⟨none, none, none, none, none, none, none, none, rfl, same_new hp, [], upd_same, .nil⟩ ?_ ?_ ?_⟩
    · rintro pre σ H' ⟨_, _, _, _, _, _, _, _, _, sm, _⟩
      exact sameI sm
    · rintro pre t post y σ H1 e ⟨u3, u4, u5, u6, u7, u8, u9, u10, rfl, acc⟩ hy
      have hpl : (pre.flatMap (fillOne s)).length ≤ 300 := by
        have h1 := fills_len s pre
        have h2 : s.length = pre.length + (post.length + 1) := by rw [e]; simp
        omega
      obtain ⟨b, rfl, hb⟩ := dp_tok hy
      refine ⟨_, rfl, b, _, 1, _, rfl, rfl, hb, rfl, szle (by show 2 ≤ 100000; decide), fun o1 ho1 => ?_⟩
      refine ⟨_, rfl, b, _, 1, _, rfl, rfl, (sameI (same_new ho1)).tup hb, rfl, szle (by show 2 ≤ 100000; decide), fun o2 ho2 => ?_⟩
      have s12 := (same_new (o := .tup [.int 1, .int (numN t)]) ho1).trans (same_new (o := .tup [.int 2, .int (numN t)]) ho2)
      have d1 : Dp K (upd (upd H1 o1 (.tup [.int 1, .int (numN t)])) o2 (.tup [.int 2, .int (numN t)])) (.ref o1) (tokD (.open_ (numN t))) := two_dp (SqT.of (same_new ho2 _ _ upd_same))
      have d2 : Dp K (upd (upd H1 o1 (.tup [.int 1, .int (numN t)])) o2 (.tup [.int 2, .int (numN t)])) (.ref o2) (tokD (.close (numN t))) := two_dp (SqT.of upd_same)
      have acc2 := acc.same s12
      have hy2 := dpI (sameI s12) hy
      generalize upd (upd H1 o1 (.tup [.int 1, .int (numN t)])) o2 (.tup [.int 2, .int (numN t)]) = H2 at d1 d2 acc2 hy2 ⊢
      clear s12 ho2
      -- the last part: if thing == opening and closing not in kept: things.append(closing)
      have last : ∀ (H5 : Hp), AccT K H H5 p (pre.flatMap (fillOne s) ++ fill1 s t ++ [t]) → Dp K H5 (.ref b) (tokD t) → Dp K H5 (.ref o1) (tokD (.open_ (numN t))) → Dp K H5 (.ref o2) (tokD (.close (numN t))) →
          tIfS (tAnd (tTest (tOp (rEqD K) (tVar 3) (tVar 4))) (tTest (tOp (rNotInD K) (tVar 5) (tVar 1)))) (tDrop (tBM K "list" rAppend (tVar 2) (tCons (tVar 5) tNil))) tNext
            { nx := fun σ H' => ∃ u3 u4 u5 u6 u7 u8 u9 u10, σ = [some (.ref g), some (.ref a), some (.ref p), u3, u4, u5, u6, u7, u8, u9, u10] ∧ AccT K H H' p ((pre ++ [t]).flatMap (fillOne s)), rt := Q }
            [some (.ref g), some (.ref a), some (.ref p), some (.ref b), some (.ref o1), some (.ref o2), u6, u7, u8, u9, u10] H5 := by
        intro H5 ac hb5 ho1 ho2
        have eF : (pre ++ [t]).flatMap (fillOne s) = pre.flatMap (fillOne s) ++ fill1 s t ++ [t] ++ fill2 s t := by
          rw [List.flatMap_append]
          simp [fillOne, List.append_assoc]
        have no : ¬ (t = .open_ (numN t) ∧ .close (numN t) ∉ s) → ∃ x3 x4 x5 x6 x7 x8 x9 x10, [some (.ref g), some (.ref a), some (.ref p), some (.ref b), some (.ref o1), some (.ref o2), u6, u7, u8, u9, u10] = [some (V.ref g), some (.ref a), some (.ref p), x3, x4, x5, x6, x7, x8, x9, x10] ∧ AccT K H H5 p ((pre ++ [t]).flatMap (fillOne s)) := by
          intro hn
          refine ⟨_, _, _, _, _, _, _, _, rfl, ?_⟩
          rw [eF]
          unfold fill2
          rw [if_neg hn, List.append_nil]
          exact ac
        refine if_and ?_
        refine ⟨_, rfl, _, rfl, rd_eqT hb5 ho1 ⟨_, rfl, ?_⟩⟩
        refine ite2 (fun h => ?_) (fun h => ?_)
        · refine ⟨_, rfl, _, rfl, rd_notInT ho2 (dpI (sameI ac.1) hu) ⟨_, rfl, ?_⟩⟩
          refine ifB (fun h2 => ?_) (fun h2 => ?_)
          · have hyes : t = .open_ (numN t) ∧ .close (numN t) ∉ s := ⟨of_decide_eq_true h, by simpa using h2⟩
            refine rd_appT (t := .close (numN t)) ac hp ?_ rfl rfl ho2 fun H6 ac6 _ => ?_
            · rw [List.length_append, List.length_append, List.length_singleton]
              have : (fill1 s t).length ≤ 1 := by
                unfold fill1
                split <;> simp
              omega
            · refine ⟨_, _, _, _, _, _, _, _, rfl, ?_⟩
              rw [eF]
              unfold fill2
              rw [if_pos hyes]
              exact ac6
          · exact no fun z => by simp [z.2] at h2
        · exact no fun z => h (decide_eq_true z.1)
      -- things.append(thing), then the last part
      have mid : ∀ (H4 : Hp), AccT K H H4 p (pre.flatMap (fillOne s) ++ fill1 s t) → Dp K H4 (.ref b) (tokD t) → Dp K H4 (.ref o1) (tokD (.open_ (numN t))) → Dp K H4 (.ref o2) (tokD (.close (numN t))) →
          tDrop (tBM K "list" rAppend (tVar 2) (tCons (tVar 3) tNil))
            { nx := (tIfS (tAnd (tTest (tOp (rEqD K) (tVar 3) (tVar 4))) (tTest (tOp (rNotInD K) (tVar 5) (tVar 1)))) (tDrop (tBM K "list" rAppend (tVar 2) (tCons (tVar 5) tNil))) tNext
              { nx := fun σ H' => ∃ u3 u4 u5 u6 u7 u8 u9 u10, σ = [some (.ref g), some (.ref a), some (.ref p), u3, u4, u5, u6, u7, u8, u9, u10] ∧ AccT K H H' p ((pre ++ [t]).flatMap (fillOne s)), rt := Q }), rt := Q }
            [some (.ref g), some (.ref a), some (.ref p), some (.ref b), some (.ref o1), some (.ref o2), u6, u7, u8, u9, u10] H4 := by
        intro H4 ac hb4 ho1 ho2
        refine rd_appT ac hp ?_ rfl rfl hb4 fun H5 ac5 s5 => ?_
        · rw [List.length_append]
          have : (fill1 s t).length ≤ 1 := by
            unfold fill1
            split <;> simp
          omega
        · exact last H5 ac5 (dp_flat s5 (tok_flat _) hb4) (dp_flat s5 (tok_flat _) ho1) (dp_flat s5 (tok_flat _) ho2)
      dsimp only [gName, tNext, tSeq]
      have no1 : ¬ (t = .close (numN t) ∧ .open_ (numN t) ∉ s) → AccT K H H2 p (pre.flatMap (fillOne s) ++ fill1 s t) := by
        intro hn
        unfold fill1
        rw [if_neg hn, List.append_nil]
        exact acc2
      refine if_and ?_
      refine ⟨_, rfl, _, rfl, rd_eqT hy2 d2 ⟨_, rfl, ?_⟩⟩
      refine ite2 (fun h => ?_) (fun h => ?_)
      · refine ⟨_, rfl, _, rfl, rd_notInT d1 (dpI (sameI acc2.1) hu) ⟨_, rfl, ?_⟩⟩
        refine ifB (fun h2 => ?_) (fun h2 => ?_)
        · have hyes : t = .close (numN t) ∧ .open_ (numN t) ∉ s := ⟨of_decide_eq_true h, by simpa using h2⟩
          refine rd_appT (t := .open_ (numN t)) acc2 hp (by omega) rfl rfl d1 fun H4 ac4 s4 => ?_
          refine mid H4 ?_ (dp_flat s4 (tok_flat _) hy2) (dp_flat s4 (tok_flat _) d1) (dp_flat s4 (tok_flat _) d2)
          unfold fill1
          rw [if_pos hyes]
          exact ac4
        · exact mid H2 (no1 fun z => by simp [z.2] at h2) hy2 d1 d2
      · exact mid H2 (no1 fun z => h (decide_eq_true z.1)) hy2 d1 d2
    · rintro σ H1 ⟨u3, u4, u5, u6, u7, u8, u9, u10, rfl, acc⟩
      have hfl := fills_len s s
      refine ⟨_, rfl, g, rfl, for_data hv (fun pre σ H' => ∃ u3 u4 u5 u6 u7 u8 u9 u10, σ = [some (.ref g), some (.ref a), some (.ref p), u3, u4, u5, u6, u7, u8, u9, u10] ∧ AccT K H H' p (s.flatMap (fillOne s) ++ pre.flatMap (missOne s)))
        ⟨u3, u4, u5, u6, u7, u8, u9, u10, rfl, by simpa using acc⟩ ?_ ?_ ?_⟩
      · rintro pre σ H' ⟨_, _, _, _, _, _, _, _, _, sm, _⟩
        exact sameI sm
      · rintro pre x post y σ H2 e ⟨u3, u4, u5, u6, u7, u8, u9, u10, rfl, acc⟩ hy
        obtain ⟨b, rfl, hb⟩ := dp_tag hy
        have hml := misses_len s pre
        have hpre : pre.length < l.length := by rw [e]; simp
        refine ⟨b, _, rfl, hb, rfl, _, _, rfl, _, _, rfl, _, _, rfl, rfl, ?_⟩
        refine ⟨_, rfl, _, rfl, x.i, x.pair, rfl, fun H3 q zs s3 hq hz hza => ?_⟩
        have acc3 := acc.same s3
        have eF : s.flatMap (fillOne s) ++ (pre ++ [x]).flatMap (missOne s) = (s.flatMap (fillOne s) ++ pre.flatMap (missOne s)) ++ missOne s x := by
          rw [List.flatMap_append, List.append_assoc]
          simp
        have no : ∀ H4, Same H3 H4 → ¬ (x.must = true ∧ ((pieces x.i x.pair).any fun t => decide (t ∈ s)) = false) → AccT K H H4 p (s.flatMap (fillOne s) ++ (pre ++ [x]).flatMap (missOne s)) := by
          intro H4 s4 hn
          rw [eF]
          unfold missOne
          rw [if_neg hn, List.append_nil]
          exact acc3.same s4
        dsimp only [gName, tNext, tSeq]
        refine if_and ?_
        refine ⟨_, rfl, _, _, rfl, rfl, _, rfl, ?_⟩
        rw [b01_one]
        refine ifB (fun h => ?_) (fun h => ?_)
        · have hdq : Dp K H3 (.ref q) (.list ((pieces x.i x.pair).map tokD)) := .lst (SqL.of hz) hza
          have hpl := pieces_len x.i x.pair
          refine ⟨_, rfl, q, rfl, ⟨_, SqL.of hz⟩, fun D hD => lc_data hdq (fun t => [.bool (decide (t ∈ s))]) (fun z d hd => by rw [List.mem_singleton.mp hd]; rfl) hD (by omega) ?_ ?_⟩
          · intro pre2 t post2 y2 H4 QT QF e2 s4 hy4 kT kF
            refine ⟨rfl, yes_if ?_⟩
            refine ⟨_, rfl, _, rfl, rd_inT hy4 (dpI (sameI (acc3.1.trans s4)) hu) ?_⟩
            exact kT _ _ _ rfl (Same.refl _) (.bl _)
          · intro H4 ys s4 hy4 ha4
            have ef : ((pieces x.i x.pair).flatMap fun t => [PyData.bool (decide (t ∈ s))]) = ((pieces x.i x.pair).map fun t => decide (t ∈ s)).map PyData.bool := by
              rw [List.map_map, List.map_eq_flatMap]
              rfl
            rw [ef] at ha4
            have eys := dpAll_bools ha4
            subst eys
            refine ⟨D, _, rfl, SqL.of hy4, _, rfl, ?_⟩
            have ea : (((pieces x.i x.pair).map fun t => decide (t ∈ s)).any id) = (pieces x.i x.pair).any fun t => decide (t ∈ s) := by
              rw [List.any_map]
              rfl
            rw [ea]
            refine ifB (fun h2 => ?_) (fun h2 => ?_)
            · have hyes : x.must = true ∧ ((pieces x.i x.pair).any fun t => decide (t ∈ s)) = false := ⟨h, by simpa using h2⟩
              obtain ⟨sm4, ws, hw, hwa⟩ := acc3.same s4
              have hwl := dpAll_len hwa
              rw [List.length_map, List.length_append] at hwl
              have hzl := dpAll_len hza
              rw [List.length_map] at hzl
              have hz4 := s4 _ _ hz
              refine ⟨_, rfl, .inl ⟨rfl, _, SqL.of hw⟩, _, rfl, p, q, ws, zs, rfl, rfl, hw, hz4, szle (by omega), ?_⟩
              have st : SameT H4 (upd H4 p (.lst (ws ++ zs))) := sameT_upd hw
              refine ⟨_, _, _, _, _, _, _, _, rfl, same_upd hp sm4, _, upd_same, ?_⟩
              rw [eF]
              unfold missOne
              rw [if_pos hyes, List.map_append]
              exact dpAll_app (dpAll_flat st flat_toks hwa) (dpAll_flat ((sameT s4).trans st) flat_toks hza)
            · refine ⟨_, _, _, _, _, _, _, _, rfl, no H4 s4 fun z => ?_⟩
              rw [z.2] at h2
              cases h2
        · refine ⟨_, _, _, _, _, _, _, _, rfl, no H3 (Same.refl _) fun z => ?_⟩
          rw [z.1] at h
          cases h
      · rintro σ H2 ⟨u3, u4, u5, u6, u7, u8, u9, u10, rfl, sm, ys, hy, ha⟩
        exact ⟨_, rfl, k _ _ _ sm hp hy ha⟩
end
end Tm
set_option Elab.async false
set_option maxRecDepth 100000
set_option maxHeartbeats 2000000
namespace Tm
open PySem PySem.Spec PyProof.Rows L2
open Ut02 (Tag Seg Fault)
section
variable {P : Program} {w : World} {K : PySem.W.Frag} {mg : Str → Option Value} {base : Heap} {f : Addr} {fd : FuncData}
/-! ### mended -/
def costI (l : List Tag) (s k : List Tk) : Int := ((s.length : Int) - (k.length : Int)) + (((complM l k).length : Int) - (k.length : Int))
abbrev Best := Option (Int × List Tk)
def bestStep (l : List Tag) (s : List Tk) (b : Best) (k : List Tk) : Best := match b with
  | none => some (costI l s k, complM l k)
  | some (c, w) => if costI l s k < c then some (costI l s k, complM l k) else some (c, w)
def bestM (l : List Tag) (s : List Tk) : Best := (choicesM l s).foldl (bestStep l s) none
def BestV (K : PySem.W.Frag) (H0 H : Hp) (v : V) : Best → Prop
  | none => v = .non
  | some (c, w) => ∃ a p, v = .ref a ∧ SqT K H a [.int c, .ref p] ∧ H0 p = none ∧ LT K H p (w.map tokD)
theorem BestV.same {H0 H H' : Hp} {v : V} {b : Best} (h : BestV K H0 H v b) (e : Same H H') : BestV K H0 H' v b := by
  cases b with
  | none => exact h
  | some x =>
    obtain ⟨a, p, h1, h2, h3, h4⟩ := h
    exact ⟨a, p, h1, (sameI e).tup h2, h3, h4.sameI (sameI e)⟩
def spMended (K : PySem.W.Frag) : Sp := fun vs H Q _ => ∃ (v u : V) (l : List Tag) (s : List Tk), vs = [v, u] ∧ TagL K H v l ∧ TokL K H u s ∧ l.length ≤ 60 ∧ s.length ≤ 100 ∧ Ut02.tagCount s ≤ 8 ∧
  ∀ (H' : Hp) (x : V), Same H H' → BestV K H H' x (bestM l s) → Q x H'
theorem ok_mended (F : Fun K "mended" "mended" s_mended f fd) (T : Txt K mg) (c_choices_that_may_stay : Cal P w K mg base 6 "choices_that_may_stay" ["tags", "things"] (spChoices K)) (c_completed : Cal P w K mg base 2 "completed" ["tags", "kept"] (spCompl K)) :
    FnOk P w K mg base CX0 7 f fd ["tags", "things"] (spMended K) := by
  refine F.ok sc_mended (fun vs H Q E h => ?_) (fun cdv A outer st H vs Q E hr h => ?_)
  · obtain ⟨v, u, l, s, rfl, _⟩ := h
    rfl
  · obtain ⟨v, u, l, s, rfl, hv, hu, hl, hs, ht, k⟩ := h
    refine ⟨_, (pss_cons (ps_set (i := 2) sc_mended.nd rfl (Or.inl rfl) pe_non)
      (pss_cons (ps_for PassesOwn.never rfl (pi_list (pe_u c_choices_that_may_stay (hr.mono (by decide)) (pa_cons (pv 0) (pa_cons (pv 1) pa_nil)))) (pg_name (i := 3) sc_mended.nd rfl (Or.inl rfl))
        (pss_cons (ps_set (i := 4) sc_mended.nd rfl (Or.inl rfl) (pe_u c_completed (hr.mono (by decide)) (pa_cons (pv 0) (pa_cons (pv 3) pa_nil))))
      (pss_cons (ps_set (i := 5) sc_mended.nd rfl (Or.inl rfl) (pe_op op_sub (pe_callB call_len_seq (by rfl) T.m_len PySem.boot_len (pa_cons (pv 1) pa_nil)) (pe_callB call_len_seq (by rfl) T.m_len PySem.boot_len (pa_cons (pv 3) pa_nil))))
      (pss_cons (ps_set (i := 6) sc_mended.nd rfl (Or.inl rfl) (pe_op op_sub (pe_callB call_len_seq (by rfl) T.m_len PySem.boot_len (pa_cons (pv 4) pa_nil)) (pe_callB call_len_seq (by rfl) T.m_len PySem.boot_len (pa_cons (pv 3) pa_nil))))
      (pss_one (ps_if (PW.pt (pw_or (pt_cmpR op_isN (pv 2) pe_non (nomark _)) (pw_or1 (pt_cmpR op_lt (pe_op op_add (pv 5) (pv 6)) (pe_ix (k_ixT K) (pv 2) pe_int (fun _ _ => rfl)) (nomark _))))) (pss_one (ps_set (i := 2) sc_mended.nd rfl (Or.inl rfl) (pe_tup (pa_cons (pe_op op_add (pv 5) (pv 6)) (pa_cons (pv 4) pa_nil))))) pss_nil))))))
      (pss_one (ps_ret (pv 2))))), ?_⟩
    obtain ⟨a, xs, rfl, hsq, hxl⟩ := len_of hu
    refine ⟨_, rfl, _, rfl, _, _, l, s, rfl, hv, hu, hl, hs, ht, fun H1 c ys s1 hc hy ha => ?_⟩
    have hd : Dp K H1 (.ref c) (.list ((choicesM l s).map encL)) := .lst (SqL.of hy) ha
    refine ⟨c, rfl, for_data hd (fun pre σ H' => ∃ b u3 u4 u5 u6, σ = [some v, some (.ref a), some b, u3, u4, u5, u6] ∧ Same H1 H' ∧ BestV K H H' b (pre.foldl (bestStep l s) none))
      ⟨.non, none, none, none, none, rfl, Same.refl _, rfl⟩ ?_ ?_ ?_⟩
    · rintro pre σ H' ⟨_, _, _, _, _, _, sm, _⟩
      exact sameI sm
    · rintro pre kp post y σ H2 e ⟨b, u3, u4, u5, u6, rfl, sm, hb⟩ hy2
      have hkl : kp.length ≤ s.length := choices_le (l := l) (by rw [e]; simp)
      have hkp : TokL K H2 y kp := hy2
      obtain ⟨ka, kxs, rfl, hksq, hkx⟩ := len_of hkp
      have s12 := s1.trans sm
      refine ⟨_, rfl, _, rfl, _, _, l, kp, rfl, dpI (sameI s12) hv, hkp, hl, by omega, fun H3 p zs s3 hp hz hza => ?_⟩
      have s13 := s12.trans s3
      have hzl := dpAll_len hza
      rw [List.length_map] at hzl
      refine ⟨_, rfl, a, _, rfl, .inl ((sameI s13).seq hsq), _, rfl, ka, _, rfl, .inl ((sameI s3).seq hksq), _, _, rfl, rfl, ?_⟩
      refine ⟨_, rfl, p, _, rfl, .inl (SqL.of hz), _, rfl, ka, _, rfl, .inl ((sameI s3).seq hksq), _, _, rfl, rfl, ?_⟩
      rw [hkx, hzl, hxl]
      have hbs := hb.same s3
      -- best = (taken_out + put_in, whole)
      have take : (∃ c0, pre.foldl (bestStep l s) none = c0 ∧ bestStep l s c0 kp = some (costI l s kp, complM l kp)) →
          tAsg (tTup (tCons (tOp (rI0 fun i j => .int (i + j)) (tVar 5) (tVar 6)) (tCons (tVar 4) tNil))) (gName 2)
            { nx := fun σ H' => ∃ b u3 u4 u5 u6, σ = [some v, some (.ref a), some b, u3, u4, u5, u6] ∧ Same H1 H' ∧ BestV K H H' b ((pre ++ [kp]).foldl (bestStep l s) none), rt := Q }
            [some v, some (.ref a), some b, some (.ref ka), some (.ref p), some (.int ((s.length : Int) - (kp.length : Int))), some (.int (((complM l kp).length : Int) - (kp.length : Int)))] H3 := by
        rintro ⟨c0, e0, e1⟩
        refine ⟨_, rfl, _, rfl, _, _, rfl, rfl, _, rfl, szle (by show 2 ≤ 100000; decide), fun q hq => ?_⟩
        refine ⟨_, _, _, _, _, rfl, (sm.trans s3).trans (same_new hq), ?_⟩
        rw [List.foldl_append, e0]
        show BestV K H _ _ (bestStep l s c0 kp)
        rw [e1]
        exact ⟨q, p, rfl, SqT.of upd_same, s12.free hp, zs, same_new hq _ _ hz, dpAllI (sameI (same_new hq)) hza⟩
      dsimp only [gName, tNext, tSeq]
      refine if_or ?_
      refine ⟨_, rfl, rfl, _, rfl, ?_⟩
      refine ite2 (fun h => ?_) (fun h => ?_)
      · have hn := of_decide_eq_true h
        refine take ⟨_, rfl, ?_⟩
        cases q : pre.foldl (bestStep l s) none with
        | none => rfl
        | some x =>
          rw [q] at hb
          obtain ⟨z, _, z2, _⟩ := (show ∃ a p, b = .ref a ∧ SqT K H2 a [.int x.1, .ref p] ∧ H p = none ∧ LT K H2 p (x.2.map tokD) from hb)
          rw [z2] at hn
          cases hn
      · cases q : pre.foldl (bestStep l s) none with
        | none =>
          rw [q] at hb
          exact absurd (decide_eq_true (show b = V.non from hb)) h
        | some x =>
          obtain ⟨c0, w0⟩ := x
          rw [q] at hb hbs take
          obtain ⟨z, zp, rfl, hzs, hz0, hzl⟩ := (show ∃ a p, b = .ref a ∧ SqT K H3 a [.int c0, .ref p] ∧ H p = none ∧ LT K H3 p (w0.map tokD) from hbs)
          refine ⟨_, rfl, _, rfl, _, _, rfl, rfl, _, rfl, z, _, 0, _, rfl, rfl, hzs, at_of (j := 0) rfl rfl, _, _, rfl, rfl, _, rfl, ?_⟩
          refine ite2 (fun h2 => ?_) (fun h2 => ?_)
          · refine take ⟨_, rfl, ?_⟩
            show (if costI l s kp < c0 then _ else _) = _
            rw [if_pos (show costI l s kp < c0 from of_decide_eq_true h2)]
          · refine ⟨_, _, _, _, _, rfl, sm.trans s3, ?_⟩
            rw [List.foldl_append, q]
            show BestV K H _ _ (if costI l s kp < c0 then _ else _)
            rw [if_neg (show ¬ costI l s kp < c0 from fun z => h2 (decide_eq_true z))]
            exact hbs
    · rintro σ H2 ⟨b, u3, u4, u5, u6, rfl, sm, hb⟩
      exact ⟨_, rfl, k _ _ (s1.trans sm) hb⟩
end
end Tm
set_option Elab.async false
set_option maxRecDepth 100000
set_option maxHeartbeats 2000000
namespace Tm
open Ut02 (Tag Seg Fault)
/-! ### the mirror's faults are the specification's -/
theorem ofSrc_known (l : List Tag) (t : Tk) (h : Ut02.isTag t = true) : ofSrc l t = Ut02.known l t := by
  unfold ofSrc
  cases t with
  | word n => cases h
  | open_ n =>
    show _ = l.any fun g => g.i == n && g.pair
    congr 1
    funext g
    obtain ⟨i, p, m⟩ := g
    cases p
    · simp [pieces]
    · by_cases e : n = i
      · subst e
        simp [pieces]
      · have e' : ¬ i = n := fun z => e z.symm
        simp [pieces, e, e']
  | close n =>
    show _ = l.any fun g => g.i == n && g.pair
    congr 1
    funext g
    obtain ⟨i, p, m⟩ := g
    cases p
    · simp [pieces]
    · by_cases e : n = i
      · subst e
        simp [pieces]
      · have e' : ¬ i = n := fun z => e z.symm
        simp [pieces, e, e']
  | alone n =>
    show _ = l.any fun g => g.i == n && !g.pair
    congr 1
    funext g
    obtain ⟨i, p, m⟩ := g
    cases p
    · by_cases e : n = i
      · subst e
        simp [pieces]
      · have e' : ¬ i = n := fun z => e z.symm
        simp [pieces, e, e']
    · simp [pieces]
/-- the numbers of the things that aren't so in the source -/
def unkn (l : List Tag) (s : List Tk) : List Nat := (s.filter fun t => !Ut02.known l t).filterMap fun t => match t with
  | .word _ => none
  | .open_ i => some i
  | .close i => some i
  | .alone i => some i
theorem unkn_snoc (l : List Tag) (s : List Tk) (t : Tk) : unkn l (s ++ [t]) = unkn l s ++ (if Ut02.isTag t = true ∧ ofSrc l t = false then [numN t] else []) := by
  unfold unkn
  rw [List.filter_append, List.filterMap_append]
  congr 1
  cases t with
  | word n => rfl
  | open_ n =>
    rw [ofSrc_known l _ rfl]
    cases h : Ut02.known l (.open_ n) <;> simp [h, Ut02.isTag, numN]
  | close n =>
    rw [ofSrc_known l _ rfl]
    cases h : Ut02.known l (.close n) <;> simp [h, Ut02.isTag, numN]
  | alone n =>
    rw [ofSrc_known l _ rfl]
    cases h : Ut02.known l (.alone n) <;> simp [h, Ut02.isTag, numN]
theorem snoc_ind {α : Type} {P : List α → Prop} (h0 : P []) (h1 : ∀ l x, P l → P (l ++ [x])) (l : List α) : P l := by
  have : ∀ (r : List α), P r.reverse := by
    intro r
    induction r with
    | nil => exact h0
    | cons x r ih =>
      rw [List.reverse_cons]
      exact h1 _ _ ih
  have h := this l.reverse
  rw [List.reverse_reverse] at h
  exact h
theorem eraseDups_snoc (l : List Nat) (x : Nat) : (l ++ [x]).eraseDups = if x ∈ l then l.eraseDups else l.eraseDups ++ [x] := by
  rw [List.eraseDups_append]
  by_cases h : x ∈ l
  · rw [if_pos h]
    have : [x].removeAll l = [] := by simp [List.removeAll, h]
    rw [this]
    simp
  · rw [if_neg h]
    have : [x].removeAll l = [x] := by simp [List.removeAll, h]
    rw [this]
    congr 1
theorem strange_eq (l : List Tag) (s : List Tk) : strange l s = (unkn l s).eraseDups := by
  induction s using snoc_ind with
  | h0 => rfl
  | h1 s t ih =>
    rw [strange_more, unkn_snoc, ih]
    unfold strStep
    by_cases h : Ut02.isTag t = true ∧ ofSrc l t = false
    · rw [if_pos h, eraseDups_snoc]
      by_cases h2 : numN t ∈ unkn l s
      · rw [if_pos h2, if_neg]
        rintro ⟨_, _, z⟩
        exact z (List.mem_eraseDups.mpr h2)
      · rw [if_neg h2, if_pos]
        exact ⟨h.1, h.2, fun z => h2 (List.mem_eraseDups.mp z)⟩
    · rw [if_neg h, List.append_nil, if_neg]
      rintro ⟨z1, z2, _⟩
      exact h ⟨z1, z2⟩
theorem faults_eq (l : List Tag) (s : List Tk) : faultsM l s = Ut02.faults l s := by
  unfold faultsM strangeF Ut02.faults
  rw [strange_eq]
  congr 1
/-! ### no faults, just what's right -/
theorem place_ne {s : List Tk} {t u : Tk} (ht : t ∈ s) (hu : u ∈ s) (h : t ≠ u) : Ut02.placeOf s t ≠ Ut02.placeOf s u := by
  intro e
  have h1 := (place_at ht).1
  have h2 := (place_at hu).1
  rw [e, h2] at h1
  exact h (Option.some.inj h1).symm
theorem strange_nil (l : List Tag) (s : List Tk) : strangeF l s = [] ↔ s.all (Ut02.known l) = true := by
  unfold strangeF
  rw [List.map_eq_nil_iff, strange_eq]
  have e1 : (unkn l s).eraseDups = [] ↔ unkn l s = [] := by
    constructor
    · intro h
      cases q : unkn l s with
      | nil => rfl
      | cons x r =>
        have : x ∈ (unkn l s).eraseDups := List.mem_eraseDups.mpr (by rw [q]; simp)
        rw [h] at this
        cases this
    · intro h
      rw [h]
      rfl
  rw [e1]
  unfold unkn
  rw [List.filterMap_eq_nil_iff, List.all_eq_true]
  constructor
  · intro h t ht
    cases q : Ut02.known l t with
    | true => rfl
    | false =>
      have := h t (List.mem_filter.mpr ⟨ht, by rw [q]; rfl⟩)
      cases t with
      | word n => cases q
      | open_ n => cases this
      | close n => cases this
      | alone n => cases this
  · intro h t ht
    obtain ⟨h1, h2⟩ := List.mem_filter.mp ht
    rw [h t h1] at h2
    cases h2
theorem crossF_nil (l : List Tag) (s : List Tk) (n : Nat) : crossF l s n = [] ↔ ∀ h ∈ l, (h.pair && (Ut02.whole s h.i && Ut02.cross s n h.i)) = false := by
  unfold crossF
  rw [List.map_eq_nil_iff, List.filter_eq_nil_iff]
  constructor
  · intro h g hg
    exact Bool.eq_false_iff.mpr (h g hg)
  · intro h g hg
    rw [h g hg]
    exact Bool.false_ne_true
def rightOne (s : List Tk) (g : Tag) : Bool := if g.pair = true then (Ut02.whole s g.i && decide (Ut02.placeOf s (.open_ g.i) < Ut02.placeOf s (.close g.i))) || (!g.must && (Ut02.times s (.open_ g.i) == 0 && Ut02.times s (.close g.i) == 0)) else Ut02.times s (.alone g.i) == 1 || (!g.must && Ut02.times s (.alone g.i) == 0)
theorem tagF_nil (l : List Tag) (s : List Tk) (g : Tag) : tagF l s g = [] ↔ rightOne s g = true ∧ (g.pair = true → Ut02.whole s g.i = true → crossF l s g.i = []) := by
  unfold tagF rightOne
  cases hp : g.pair with
  | false =>
    rw [if_neg Bool.false_ne_true, if_neg Bool.false_ne_true]
    unfold aloneF
    generalize Ut02.times s (.alone g.i) = c
    cases g.must <;> by_cases h1 : 1 < c <;> by_cases h0 : c = 0 <;> simp [h1, h0] <;> omega
  | true =>
    rw [if_pos rfl, if_pos rfl]
    unfold pairF
    have hw : Ut02.whole s g.i = (Ut02.times s (.open_ g.i) == 1 && Ut02.times s (.close g.i) == 1) := rfl
    have hne : 0 < Ut02.times s (.open_ g.i) → 0 < Ut02.times s (.close g.i) → Ut02.placeOf s (.open_ g.i) ≠ Ut02.placeOf s (.close g.i) := fun h1 h2 => place_ne (times_pos.mp h1) (times_pos.mp h2) (fun z => nomatch z)
    rw [hw]
    generalize Ut02.times s (.open_ g.i) = a at hne ⊢
    generalize Ut02.times s (.close g.i) = b at hne ⊢
    generalize Ut02.placeOf s (.open_ g.i) = x at hne ⊢
    generalize Ut02.placeOf s (.close g.i) = y at hne ⊢
    by_cases h1 : 1 < a ∨ 1 < b
    · rw [if_pos h1]
      have : ¬ (a = 1 ∧ b = 1) := by omega
      have h00 : ¬ (a = 0 ∧ b = 0) := by omega
      simp
      omega
    · rw [if_neg h1]
      by_cases h2 : a = 0 ∧ b = 0
      · rw [if_pos h2]
        obtain ⟨rfl, rfl⟩ := h2
        cases g.must <;> simp
      · rw [if_neg h2]
        by_cases h3 : a + b = 1
        · rw [if_pos h3]
          simp
          omega
        · rw [if_neg h3]
          have ha : a = 1 := by omega
          have hb : b = 1 := by omega
          subst ha hb
          have hxy := hne (by decide) (by decide)
          by_cases h4 : y < x
          · rw [if_pos h4]
            simp
            omega
          · rw [if_neg h4]
            simp
            omega
theorem cr1 (k v c : Bool) : (!(true && (k && (true && (v && c))))) = true ↔ (k && (v && c)) = false := by
  cases k <;> cases v <;> cases c <;> decide
theorem right_eq (l : List Tag) (s : List Tk) : (faultsM l s).isEmpty = Ut02.isRight l s := by
  rw [Bool.eq_iff_iff, List.isEmpty_iff]
  unfold faultsM
  rw [List.append_eq_nil_iff, strange_nil, List.flatMap_eq_nil_iff]
  have er : Ut02.isRight l s = (s.all (Ut02.known l) && ((l.all (rightOne s)) && l.all fun g => l.all fun h => !(g.pair && (h.pair && (Ut02.whole s g.i && (Ut02.whole s h.i && Ut02.cross s g.i h.i)))))) := rfl
  rw [er, Bool.and_eq_true, Bool.and_eq_true]
  refine and_congr Iff.rfl ?_
  rw [List.all_eq_true, List.all_eq_true]
  constructor
  · intro h
    refine ⟨fun g hg => ((tagF_nil l s g).mp (h g hg)).1, fun g hg => ?_⟩
    rw [List.all_eq_true]
    intro k hk
    have h2 := ((tagF_nil l s g).mp (h g hg)).2
    cases h3 : g.pair with
    | false => rfl
    | true =>
      cases h4 : Ut02.whole s g.i with
      | false => simp
      | true =>
        exact (cr1 _ _ _).mpr ((crossF_nil l s g.i).mp (h2 h3 h4) k hk)
  · rintro ⟨h1, h2⟩ g hg
    refine (tagF_nil l s g).mpr ⟨h1 g hg, fun h3 h4 => (crossF_nil l s g.i).mpr fun k hk => ?_⟩
    have := List.all_eq_true.mp (h2 g hg) k hk
    rw [h3, h4] at this
    exact (cr1 _ _ _).mp this
/-! ### what may stay -/
theorem stayM_iff (l : List Tag) (s : List Tk) : stayM l s = true ↔ s.all (Ut02.known l) = true ∧ ∀ g ∈ l, ∀ f ∈ tagF l s g, f.1 = 3 ∨ f.1 = 4 := by
  unfold stayM faultsM
  rw [List.all_append, Bool.and_eq_true, ← strange_nil, List.all_eq_true, List.all_eq_true]
  refine and_congr ?_ ?_
  · unfold strangeF
    constructor
    · intro h
      cases q : strange l s with
      | nil => rfl
      | cons x r =>
        have := h (1, x, 0) (by rw [q]; simp)
        simp at this
    · intro h f hf
      rw [h] at hf
      cases hf
  · constructor
    · intro h g hg f hf
      have := h f (List.mem_flatMap.mpr ⟨g, hg, hf⟩)
      simpa using this
    · intro h f hf
      obtain ⟨g, hg, hf2⟩ := List.mem_flatMap.mp hf
      have := h g hg f hf2
      simpa using this
theorem tagF_34 (l : List Tag) (s : List Tk) (g : Tag) : (∀ f ∈ tagF l s g, f.1 = 3 ∨ f.1 = 4) ↔
    (if g.pair = true then Ut02.times s (.open_ g.i) ≤ 1 ∧ Ut02.times s (.close g.i) ≤ 1 ∧ (Ut02.whole s g.i = true → Ut02.placeOf s (.open_ g.i) < Ut02.placeOf s (.close g.i) ∧ crossF l s g.i = []) else Ut02.times s (.alone g.i) ≤ 1) := by
  unfold tagF
  cases hp : g.pair with
  | false =>
    rw [if_neg Bool.false_ne_true, if_neg Bool.false_ne_true]
    unfold aloneF
    generalize Ut02.times s (.alone g.i) = c
    by_cases h1 : 1 < c
    · rw [if_pos h1]
      simp
      omega
    · rw [if_neg h1]
      have : c ≤ 1 := by omega
      by_cases h2 : c = 0 ∧ g.must = true
      · rw [if_pos h2]
        simp [this]
      · rw [if_neg h2]
        simp [this]
  | true =>
    rw [if_pos rfl, if_pos rfl]
    unfold pairF
    have hw : Ut02.whole s g.i = (Ut02.times s (.open_ g.i) == 1 && Ut02.times s (.close g.i) == 1) := rfl
    have hne : 0 < Ut02.times s (.open_ g.i) → 0 < Ut02.times s (.close g.i) → Ut02.placeOf s (.open_ g.i) ≠ Ut02.placeOf s (.close g.i) := fun h1 h2 => place_ne (times_pos.mp h1) (times_pos.mp h2) (fun z => nomatch z)
    rw [hw]
    generalize Ut02.times s (.open_ g.i) = a at hne ⊢
    generalize Ut02.times s (.close g.i) = b at hne ⊢
    generalize Ut02.placeOf s (.open_ g.i) = x at hne ⊢
    generalize Ut02.placeOf s (.close g.i) = y at hne ⊢
    by_cases h1 : 1 < a ∨ 1 < b
    · rw [if_pos h1]
      simp
      omega
    · rw [if_neg h1]
      have ha : a ≤ 1 := by omega
      have hb : b ≤ 1 := by omega
      by_cases h2 : a = 0 ∧ b = 0
      · rw [if_pos h2]
        obtain ⟨rfl, rfl⟩ := h2
        cases g.must <;> simp
      · rw [if_neg h2]
        by_cases h3 : a + b = 1
        · rw [if_pos h3]
          simp [ha, hb]
          omega
        · rw [if_neg h3]
          have ha : a = 1 := by omega
          have hb : b = 1 := by omega
          subst ha hb
          have hxy := hne (by decide) (by decide)
          by_cases h4 : y < x
          · rw [if_pos h4]
            simp
            omega
          · rw [if_neg h4]
            have hlt : x < y := by omega
            simp [hlt]
            constructor
            · intro h
              cases q : crossF l s g.i with
              | nil => rfl
              | cons z r =>
                have hz : z ∈ crossF l s g.i := by rw [q]; simp
                have h6 : z.1 = 6 := by
                  unfold crossF at hz
                  obtain ⟨k, _, rfl⟩ := List.mem_map.mp hz
                  rfl
                have := h z.1 z.2.1 z.2.2 hz
                omega
            · intro h
              rw [h]
              simp
theorem known_tag {l : List Tag} {t : Tk} (h : Ut02.known l t = true) (ht : Ut02.isTag t = true) : ∃ g ∈ l, (g.pair = true ∧ (t = .open_ g.i ∨ t = .close g.i)) ∨ (g.pair = false ∧ t = .alone g.i) := by
  cases t with
  | word n => cases ht
  | open_ n =>
    obtain ⟨g, hg, hx⟩ := List.any_eq_true.mp (show (l.any fun g => g.i == n && g.pair) = true from h)
    rw [Bool.and_eq_true] at hx
    exact ⟨g, hg, .inl ⟨hx.2, .inl (by rw [eq_of_beq hx.1])⟩⟩
  | close n =>
    obtain ⟨g, hg, hx⟩ := List.any_eq_true.mp (show (l.any fun g => g.i == n && g.pair) = true from h)
    rw [Bool.and_eq_true] at hx
    exact ⟨g, hg, .inl ⟨hx.2, .inr (by rw [eq_of_beq hx.1])⟩⟩
  | alone n =>
    obtain ⟨g, hg, hx⟩ := List.any_eq_true.mp (show (l.any fun g => g.i == n && !g.pair) = true from h)
    rw [Bool.and_eq_true] at hx
    exact ⟨g, hg, .inr ⟨by simpa using hx.2, by rw [eq_of_beq hx.1]⟩⟩
theorem stay_eq (l : List Tag) (s : List Tk) : stayM l s = Ut02.mayStay l s := by
  rw [Bool.eq_iff_iff, stayM_iff]
  unfold Ut02.mayStay
  rw [Bool.and_eq_true, Bool.and_eq_true, Bool.and_eq_true]
  refine and_congr_right fun hk => ?_
  rw [List.all_eq_true] at hk
  rw [List.all_eq_true, List.all_eq_true, List.all_eq_true]
  constructor
  · intro h
    have h34 := fun g hg => (tagF_34 l s g).mp (h g hg)
    refine ⟨fun t ht => ?_, fun g hg => ?_, fun g hg => ?_⟩
    · obtain ⟨h1, h2⟩ := List.mem_filter.mp ht
      have hpos := times_pos.mpr h1
      have hle : Ut02.times s t ≤ 1 := by
        obtain ⟨g, hg, q⟩ := known_tag (hk t h1) h2
        have h3 := h34 g hg
        rcases q with ⟨hp, rfl | rfl⟩ | ⟨hp, rfl⟩
        · rw [if_pos hp] at h3
          exact h3.1
        · rw [if_pos hp] at h3
          exact h3.2.1
        · rw [if_neg (by rw [hp]; exact Bool.false_ne_true)] at h3
          exact h3
      exact beq_iff_eq.mpr (by omega)
    · have h3 := h34 g hg
      cases hp : g.pair with
      | false => rfl
      | true =>
        rw [if_pos hp] at h3
        cases hw : Ut02.whole s g.i with
        | false => rfl
        | true =>
          rw [decide_eq_true (h3.2.2 hw).1]
          rfl
    · rw [List.all_eq_true]
      intro k hk2
      have h3 := h34 g hg
      cases hp : g.pair with
      | false => rfl
      | true =>
        rw [if_pos hp] at h3
        cases hw : Ut02.whole s g.i with
        | false => simp
        | true =>
          exact (cr1 _ _ _).mpr ((crossF_nil l s g.i).mp (h3.2.2 hw).2 k hk2)
  · rintro ⟨h1, h2, h3⟩ g hg
    have once : ∀ t, Ut02.isTag t = true → Ut02.times s t ≤ 1 := by
      intro t ht
      by_cases hm : t ∈ s
      · have := eq_of_beq (h1 t (List.mem_filter.mpr ⟨hm, ht⟩))
        omega
      · have : ¬ 0 < Ut02.times s t := fun z => hm (times_pos.mp z)
        omega
    refine (tagF_34 l s g).mpr ?_
    cases hp : g.pair with
    | false =>
      rw [if_neg Bool.false_ne_true]
      exact once _ rfl
    | true =>
      rw [if_pos rfl]
      refine ⟨once _ rfl, once _ rfl, fun hw => ⟨?_, (crossF_nil l s g.i).mpr fun k hk2 => ?_⟩⟩
      · have := h2 g hg
        rw [hp, hw] at this
        simpa using this
      · have := List.all_eq_true.mp (h3 g hg) k hk2
        rw [hp, hw] at this
        exact (cr1 _ _ _).mp this
end Tm
set_option Elab.async false
set_option maxRecDepth 100000
set_option maxHeartbeats 2000000
namespace Tm
open Ut02 (Tag Seg Fault)
theorem times_app (s r : List Tk) (t : Tk) : Ut02.times (s ++ r) t = Ut02.times s t + Ut02.times r t := by
  unfold Ut02.times
  rw [List.filter_append, List.length_append]
theorem place_app : ∀ {s : List Tk} (r : List Tk) {t : Tk}, t ∈ s → Ut02.placeOf (s ++ r) t = Ut02.placeOf s t
  | x :: s, r, t, h => by
    by_cases e : x = t
    · subst e
      rw [List.cons_append, place_cons_self, place_cons_self]
    · have hs : t ∈ s := by
        rcases List.mem_cons.mp h with q | q
        · exact absurd q.symm e
        · exact q
      rw [List.cons_append, place_cons_ne _ e, place_cons_ne _ e, place_app r hs]
theorem mayStay_iff (l : List Tag) (s : List Tk) : Ut02.mayStay l s = true ↔ (∀ t ∈ s, Ut02.known l t = true) ∧ (∀ t, Ut02.isTag t = true → Ut02.times s t ≤ 1) ∧
    (∀ g ∈ l, g.pair = true → Ut02.whole s g.i = true → Ut02.placeOf s (.open_ g.i) < Ut02.placeOf s (.close g.i)) ∧
    (∀ g ∈ l, ∀ h ∈ l, g.pair = true → h.pair = true → Ut02.whole s g.i = true → Ut02.whole s h.i = true → Ut02.cross s g.i h.i = false) := by
  unfold Ut02.mayStay
  rw [Bool.and_eq_true, Bool.and_eq_true, Bool.and_eq_true, List.all_eq_true, List.all_eq_true, List.all_eq_true, List.all_eq_true]
  refine and_congr Iff.rfl (and_congr ?_ (and_congr ?_ ?_))
  · constructor
    · intro h t ht
      by_cases hm : t ∈ s
      · have := eq_of_beq (h t (List.mem_filter.mpr ⟨hm, ht⟩))
        omega
      · have : ¬ 0 < Ut02.times s t := fun z => hm (times_pos.mp z)
        omega
    · intro h t ht
      obtain ⟨h1, h2⟩ := List.mem_filter.mp ht
      have := h t h2
      have := times_pos.mpr h1
      exact beq_iff_eq.mpr (by omega)
  · refine forall_congr' fun g => forall_congr' fun hg => ?_
    cases g.pair <;> cases Ut02.whole s g.i <;> simp
  · refine forall_congr' fun g => forall_congr' fun hg => ?_
    rw [List.all_eq_true]
    refine forall_congr' fun h => forall_congr' fun hh => ?_
    cases g.pair <;> cases h.pair <;> cases Ut02.whole s g.i <;> cases Ut02.whole s h.i <;> simp
theorem whole_iff (s : List Tk) (n : Nat) : Ut02.whole s n = true ↔ Ut02.times s (.open_ n) = 1 ∧ Ut02.times s (.close n) = 1 := by
  unfold Ut02.whole
  rw [Bool.and_eq_true, beq_iff_eq, beq_iff_eq]
theorem cross_app {s : List Tk} (r : List Tk) {i j : Nat} (hi : Ut02.whole s i = true) (hj : Ut02.whole s j = true) : Ut02.cross (s ++ r) i j = Ut02.cross s i j := by
  obtain ⟨a1, a2⟩ := whole_mem hi
  obtain ⟨b1, b2⟩ := whole_mem hj
  unfold Ut02.cross
  rw [place_app r a1, place_app r a2, place_app r b1, place_app r b2]
theorem stay_prefix {l : List Tag} {k r : List Tk} (h : Ut02.mayStay l (k ++ r) = true) : Ut02.mayStay l k = true := by
  obtain ⟨h1, h2, h3, h4⟩ := (mayStay_iff l (k ++ r)).mp h
  have up : ∀ n, Ut02.whole k n = true → Ut02.whole (k ++ r) n = true := by
    intro n hn
    obtain ⟨a, b⟩ := (whole_iff k n).mp hn
    have q1 := h2 (.open_ n) rfl
    have q2 := h2 (.close n) rfl
    rw [times_app] at q1 q2
    refine (whole_iff _ n).mpr ⟨?_, ?_⟩
    · rw [times_app]
      omega
    · rw [times_app]
      omega
  refine (mayStay_iff l k).mpr ⟨fun t ht => h1 t (List.mem_append_left _ ht), fun t ht => ?_, fun g hg hp hw => ?_, fun g hg j hj hp hq hw hv => ?_⟩
  · have := h2 t ht
    rw [times_app] at this
    omega
  · have := h3 g hg hp (up _ hw)
    obtain ⟨a1, a2⟩ := whole_mem hw
    rw [place_app r a1, place_app r a2] at this
    exact this
  · have := h4 g hg j hj hp hq (up _ hw) (up _ hv)
    rw [cross_app r hw hv] at this
    exact this
theorem stay_word {l : List Tag} {k : List Tk} {n : Nat} (h : Ut02.mayStay l k = true) : Ut02.mayStay l (k ++ [.word n]) = true := by
  obtain ⟨h1, h2, h3, h4⟩ := (mayStay_iff l k).mp h
  have et : ∀ t : Tk, Ut02.isTag t = true → Ut02.times (k ++ [.word n]) t = Ut02.times k t := by
    intro t ht
    rw [times_app]
    have : Ut02.times [.word n] t = 0 := by
      cases t with
      | word m => cases ht
      | open_ m => rfl
      | close m => rfl
      | alone m => rfl
    omega
  have ew : ∀ m, Ut02.whole (k ++ [.word n]) m = Ut02.whole k m := by
    intro m
    unfold Ut02.whole
    rw [et _ rfl, et _ rfl]
  refine (mayStay_iff l _).mpr ⟨fun t ht => ?_, fun t ht => by rw [et t ht]; exact h2 t ht, fun g hg hp hw => ?_, fun g hg j hj hp hq hw hv => ?_⟩
  · rcases List.mem_append.mp ht with q | q
    · exact h1 t q
    · rw [List.mem_singleton.mp q]
      rfl
  · rw [ew] at hw
    obtain ⟨a1, a2⟩ := whole_mem hw
    rw [place_app _ a1, place_app _ a2]
    exact h3 g hg hp hw
  · rw [ew] at hw hv
    rw [cross_app _ hw hv]
    exact h4 g hg j hj hp hq hw hv
/-! ### the ways to keep -/
def allK (s : List Tk) : List (List Tk) := (Ut02.ways (Ut02.tagCount s)).map (Ut02.kept s)
def snocs (t : Tk) (k : List Tk) : List (List Tk) := if Ut02.isTag t = true then [k ++ [t], k] else [k ++ [t]]
theorem allK_nil : allK [] = [[]] := rfl
theorem allK_word (n : Nat) (s : List Tk) : allK (.word n :: s) = (allK s).map (.word n :: ·) := by
  unfold allK
  rw [List.map_map]
  rfl
theorem allK_tag {t : Tk} (ht : Ut02.isTag t = true) (s : List Tk) : allK (t :: s) = (allK s).map (t :: ·) ++ allK s := by
  have ec : Ut02.tagCount (t :: s) = Ut02.tagCount s + 1 := by
    unfold Ut02.tagCount
    rw [List.filter_cons, if_pos ht]
    rfl
  unfold allK
  rw [ec]
  show ((Ut02.ways (Ut02.tagCount s)).map (fun k => true :: k) ++ (Ut02.ways (Ut02.tagCount s)).map fun k => false :: k).map (Ut02.kept (t :: s)) = _
  rw [List.map_append, List.map_map, List.map_map, List.map_map]
  cases t with
  | word n => cases ht
  | open_ n => rfl
  | close n => rfl
  | alone n => rfl
theorem snocs_cons (t x : Tk) (k : List Tk) : snocs t (x :: k) = (snocs t k).map (x :: ·) := by
  unfold snocs
  split <;> rfl
theorem flat_cons (t x : Tk) (cs : List (List Tk)) : (cs.map (x :: ·)).flatMap (snocs t) = (cs.flatMap (snocs t)).map (x :: ·) := by
  induction cs with
  | nil => rfl
  | cons k r ih => rw [List.map_cons, List.flatMap_cons, ih, List.flatMap_cons, List.map_append, snocs_cons]
theorem allK_snoc (t : Tk) : ∀ s : List Tk, allK (s ++ [t]) = (allK s).flatMap (snocs t)
  | [] => by
    rw [List.nil_append, allK_nil]
    cases t <;> rfl
  | x :: s => by
    have ih := allK_snoc t s
    cases hx : Ut02.isTag x with
    | true => rw [List.cons_append, allK_tag hx, allK_tag hx, ih, List.flatMap_append, flat_cons]
    | false =>
      cases x with
      | word n => rw [List.cons_append, allK_word, allK_word, ih, flat_cons]
      | open_ n => cases hx
      | close n => cases hx
      | alone n => cases hx
theorem choices_eq (l : List Tag) (s : List Tk) : choicesM l s = (allK s).filter (Ut02.mayStay l) := by
  induction s using snoc_ind with
  | h0 =>
    have e : Ut02.mayStay l [] = true := (mayStay_iff l []).mpr ⟨(fun t ht => nomatch ht), fun t _ => Nat.zero_le _, fun g _ _ hw => Bool.noConfusion hw, fun g _ _ _ _ _ hw => Bool.noConfusion hw⟩
    rw [allK_nil, List.filter_cons, if_pos e]
    rfl
  | h1 s t ih =>
    rw [choices_more, ih, allK_snoc]
    unfold chStep
    generalize allK s = cs
    induction cs with
    | nil => rfl
    | cons k r ihr =>
      rw [List.flatMap_cons, List.filter_append, ← ihr, List.filter_cons]
      cases hk : Ut02.mayStay l k with
      | false =>
        rw [if_neg Bool.false_ne_true]
        have : (snocs t k).filter (Ut02.mayStay l) = [] := by
          rw [List.filter_eq_nil_iff]
          intro x hx hs
          have hx' : x = k ++ [t] ∨ x = k := by
            unfold snocs at hx
            split at hx
            · simpa using hx
            · left
              simpa using hx
          rcases hx' with rfl | rfl
          · rw [stay_prefix hs] at hk
            cases hk
          · rw [hs] at hk
            cases hk
        rw [this]
        rfl
      | true =>
        rw [if_pos rfl, List.flatMap_cons]
        congr 1
        unfold chOne snocs
        rw [stay_eq]
        cases ht : Ut02.isTag t with
        | true =>
          rw [if_pos rfl, if_pos rfl]
          cases hm : Ut02.mayStay l (k ++ [t]) with
          | true => simp [hm, hk]
          | false => simp [hm, hk]
        | false =>
          rw [if_pos (.inl rfl), if_neg Bool.false_ne_true, if_neg Bool.false_ne_true]
          cases t with
          | word n => simp [stay_word hk]
          | open_ n => cases ht
          | close n => cases ht
          | alone n => cases ht
/-! ### completed -/
theorem times_zero {s : List Tk} {t : Tk} : Ut02.times s t = 0 ↔ t ∉ s := by
  constructor
  · intro h hm
    have := times_pos.mpr hm
    omega
  · intro h
    have : ¬ 0 < Ut02.times s t := fun z => h (times_pos.mp z)
    omega
theorem compl_eq (l : List Tag) (s : List Tk) : complM l s = Ut02.completed l s := by
  unfold complM Ut02.completed
  congr 1
  · unfold Ut02.filled
    congr 1
    funext t
    unfold fillOne fill1 fill2
    cases t with
    | word n => rfl
    | open_ n =>
      by_cases h : Ut02.Tok.close n ∈ s
      · have : ¬ Ut02.times s (.close n) = 0 := fun z => times_zero.mp z h
        simp [numN, h, this]
      · have : Ut02.times s (.close n) = 0 := times_zero.mpr h
        simp [numN, h, this]
    | close n =>
      by_cases h : Ut02.Tok.open_ n ∈ s
      · have : ¬ Ut02.times s (.open_ n) = 0 := fun z => times_zero.mp z h
        simp [numN, h, this]
      · have : Ut02.times s (.open_ n) = 0 := times_zero.mpr h
        simp [numN, h, this]
    | alone n => rfl
  · unfold Ut02.missing
    congr 1
    funext g
    unfold missOne
    obtain ⟨i, p, m⟩ := g
    cases m with
    | false => simp
    | true =>
      cases p with
      | true =>
        by_cases h1 : Ut02.Tok.open_ i ∈ s <;> by_cases h2 : Ut02.Tok.close i ∈ s <;> simp [pieces, h1, h2, times_zero]
      | false =>
        by_cases h1 : Ut02.Tok.alone i ∈ s <;> simp [pieces, h1, times_zero]
/-! ### the cost -/
def wcnt (s : List Tk) : Nat := (s.filter fun t => !Ut02.isTag t).length
theorem len_split (s : List Tk) : s.length = Ut02.tagCount s + wcnt s := by
  unfold wcnt Ut02.tagCount
  induction s with
  | nil => rfl
  | cons t s ih =>
    rw [List.filter_cons, List.filter_cons, List.length_cons]
    cases Ut02.isTag t <;> simp <;> omega
theorem wcnt_app (s r : List Tk) : wcnt (s ++ r) = wcnt s + wcnt r := by
  unfold wcnt
  rw [List.filter_append, List.length_append]
theorem wcnt_cons (t : Tk) (s : List Tk) : wcnt (t :: s) = (if Ut02.isTag t = true then 0 else 1) + wcnt s := by
  unfold wcnt
  rw [List.filter_cons]
  cases Ut02.isTag t
  · simp
    omega
  · simp
theorem wcnt_kept : ∀ (s : List Tk) (k : List Bool), wcnt (Ut02.kept s k) = wcnt s
  | [], _ => rfl
  | .word n :: s, k => by
    show wcnt (.word n :: Ut02.kept s k) = _
    rw [wcnt_cons, wcnt_cons, wcnt_kept s k]
  | .open_ n :: s, [] => by
    show wcnt (Ut02.kept s []) = _
    rw [wcnt_cons, wcnt_kept s []]
    simp [Ut02.isTag]
  | .close n :: s, [] => by
    show wcnt (Ut02.kept s []) = _
    rw [wcnt_cons, wcnt_kept s []]
    simp [Ut02.isTag]
  | .alone n :: s, [] => by
    show wcnt (Ut02.kept s []) = _
    rw [wcnt_cons, wcnt_kept s []]
    simp [Ut02.isTag]
  | .open_ n :: s, b :: k => by
    show wcnt (if b = true then .open_ n :: Ut02.kept s k else Ut02.kept s k) = _
    cases b <;> simp [wcnt_cons, wcnt_kept s k, Ut02.isTag]
  | .close n :: s, b :: k => by
    show wcnt (if b = true then .close n :: Ut02.kept s k else Ut02.kept s k) = _
    cases b <;> simp [wcnt_cons, wcnt_kept s k, Ut02.isTag]
  | .alone n :: s, b :: k => by
    show wcnt (if b = true then .alone n :: Ut02.kept s k else Ut02.kept s k) = _
    cases b <;> simp [wcnt_cons, wcnt_kept s k, Ut02.isTag]
theorem kept_le : ∀ (s : List Tk) (k : List Bool), (Ut02.kept s k).length ≤ s.length
  | [], _ => Nat.le_refl _
  | .word n :: s, k => by
    have := kept_le s k
    show (Ut02.kept s k).length + 1 ≤ s.length + 1
    omega
  | .open_ n :: s, [] => Nat.le_succ_of_le (kept_le s [])
  | .close n :: s, [] => Nat.le_succ_of_le (kept_le s [])
  | .alone n :: s, [] => Nat.le_succ_of_le (kept_le s [])
  | .open_ n :: s, b :: k => by
    have := kept_le s k
    show (if b = true then .open_ n :: Ut02.kept s k else Ut02.kept s k).length ≤ s.length + 1
    cases b <;> simp <;> omega
  | .close n :: s, b :: k => by
    have := kept_le s k
    show (if b = true then .close n :: Ut02.kept s k else Ut02.kept s k).length ≤ s.length + 1
    cases b <;> simp <;> omega
  | .alone n :: s, b :: k => by
    have := kept_le s k
    show (if b = true then .alone n :: Ut02.kept s k else Ut02.kept s k).length ≤ s.length + 1
    cases b <;> simp <;> omega
theorem wcnt_fills (s : List Tk) : ∀ pre : List Tk, wcnt (pre.flatMap (fillOne s)) = wcnt pre
  | [] => rfl
  | t :: r => by
    rw [List.flatMap_cons, wcnt_app, wcnt_fills s r, wcnt_cons]
    congr 1
    unfold fillOne
    rw [wcnt_app, wcnt_app]
    have e1 : wcnt (fill1 s t) = 0 := by
      unfold fill1
      split <;> rfl
    have e2 : wcnt (fill2 s t) = 0 := by
      unfold fill2
      split <;> rfl
    rw [e1, e2]
    cases t <;> rfl
theorem wcnt_miss (s : List Tk) : ∀ pre : List Tag, wcnt (pre.flatMap (missOne s)) = 0
  | [] => rfl
  | g :: r => by
    rw [List.flatMap_cons, wcnt_app, wcnt_miss s r]
    unfold missOne
    split
    · unfold pieces
      split <;> rfl
    · rfl
theorem wcnt_compl (l : List Tag) (k : List Tk) : wcnt (complM l k) = wcnt k := by
  unfold complM
  rw [wcnt_app, wcnt_fills, wcnt_miss]
  rfl
theorem fills_ge (s : List Tk) : ∀ pre : List Tk, pre.length ≤ (pre.flatMap (fillOne s)).length
  | [] => Nat.le_refl _
  | t :: r => by
    have := fills_ge s r
    rw [List.flatMap_cons, List.length_append, List.length_cons]
    have : 1 ≤ (fillOne s t).length := by
      unfold fillOne
      simp
      omega
    omega
theorem compl_ge (l : List Tag) (k : List Tk) : k.length ≤ (complM l k).length := by
  have := fills_ge k k
  unfold complM
  rw [List.length_append]
  omega
theorem cost_eq (l : List Tag) (s : List Tk) (b : List Bool) : costI l s (Ut02.kept s b) = (Ut02.costOf l s b : Nat) := by
  unfold costI Ut02.costOf
  rw [compl_eq]
  have h1 := len_split s
  have h2 := len_split (Ut02.kept s b)
  have h3 := len_split (Ut02.completed l (Ut02.kept s b))
  have h4 := wcnt_kept s b
  have h5 := wcnt_compl l (Ut02.kept s b)
  have h6 := kept_le s b
  have h7 := compl_ge l (Ut02.kept s b)
  rw [compl_eq] at h5 h7
  omega
/-! ### of several at least cost the first -/
section
variable {α β : Type}
def minStep (c : α → Nat) (o : α → β) (b : Option (Nat × β)) (k : α) : Option (Nat × β) := match b with
  | none => some (c k, o k)
  | some (m, w) => if c k < m then some (c k, o k) else some (m, w)
def leastOf (c : α → Nat) (B : Nat) (ok : List α) : Nat := ok.foldl (fun b k => min b (c k)) B
theorem least_snoc (c : α → Nat) (B : Nat) (ok : List α) (x : α) : leastOf c B (ok ++ [x]) = min (leastOf c B ok) (c x) := by
  unfold leastOf
  rw [List.foldl_append]
  rfl
theorem least_le (c : α → Nat) (B : Nat) (ok : List α) : ∀ x ∈ ok, leastOf c B ok ≤ c x := by
  induction ok using snoc_ind with
  | h0 => intro x hx; cases hx
  | h1 ok y ih =>
    intro x hx
    rw [least_snoc]
    rcases List.mem_append.mp hx with q | q
    · have := ih x q
      omega
    · rw [List.mem_singleton.mp q]
      omega
theorem first_min (c : α → Nat) (o : α → β) (B : Nat) (ok : List α) (hB : ∀ x ∈ ok, c x ≤ B) :
    (ok = [] ∧ ok.foldl (minStep c o) none = none) ∨ ∃ k, ok.find? (fun k => c k == leastOf c B ok) = some k ∧ ok.foldl (minStep c o) none = some (leastOf c B ok, o k) := by
  induction ok using snoc_ind with
  | h0 => exact .inl ⟨rfl, rfl⟩
  | h1 ok x ih =>
    right
    rw [least_snoc, List.foldl_append, List.find?_append]
    rcases ih (fun y hy => hB y (List.mem_append_left _ hy)) with ⟨rfl, _⟩ | ⟨k, hk, hf⟩
    · have hx := hB x (by simp)
      have e : min (leastOf c B []) (c x) = c x := by
        show min B (c x) = c x
        omega
      refine ⟨x, ?_, ?_⟩
      · rw [e]
        simp
      · rw [e]
        rfl
    · rw [hf]
      have hck : c k = leastOf c B ok := by
        have := List.find?_some hk
        exact beq_iff_eq.mp this
      by_cases h : c x < leastOf c B ok
      · have e : min (leastOf c B ok) (c x) = c x := by omega
        refine ⟨x, ?_, ?_⟩
        · have hn : ok.find? (fun k => c k == min (leastOf c B ok) (c x)) = none := by
            rw [List.find?_eq_none]
            intro y hy hz
            have h1 := least_le c B ok y hy
            have h2 := beq_iff_eq.mp hz
            omega
          rw [hn, e]
          simp
        · rw [e]
          show (if c x < leastOf c B ok then some (c x, o x) else _) = _
          rw [if_pos h]
      · have e : min (leastOf c B ok) (c x) = leastOf c B ok := by omega
        refine ⟨k, ?_, ?_⟩
        · rw [e, hk]
          rfl
        · rw [e]
          show (if c x < leastOf c B ok then some (c x, o x) else _) = _
          rw [if_neg h]
end
/-- best, as the specification's ways tell it -/
def castB (b : Option (Nat × List Tk)) : Best := b.map fun x => ((x.1 : Int), x.2)
theorem best_fold (l : List Tag) (s : List Tk) : ∀ (ok : List (List Bool)) (b : Option (Nat × List Tk)),
    (ok.map (Ut02.kept s)).foldl (bestStep l s) (castB b) = castB (ok.foldl (minStep (Ut02.costOf l s) fun k => Ut02.completed l (Ut02.kept s k)) b)
  | [], b => rfl
  | k :: r, b => by
    rw [List.map_cons, List.foldl_cons, List.foldl_cons, ← best_fold l s r]
    congr 1
    cases b with
    | none =>
      show some (costI l s (Ut02.kept s k), complM l (Ut02.kept s k)) = some ((Ut02.costOf l s k : Int), Ut02.completed l (Ut02.kept s k))
      rw [cost_eq, compl_eq]
    | some x =>
      show (if costI l s (Ut02.kept s k) < (x.1 : Int) then some (costI l s (Ut02.kept s k), complM l (Ut02.kept s k)) else some ((x.1 : Int), x.2)) = castB (if Ut02.costOf l s k < x.1 then _ else _)
      rw [cost_eq, compl_eq]
      by_cases h : Ut02.costOf l s k < x.1
      · rw [if_pos (by omega), if_pos h]
        rfl
      · rw [if_neg (by omega), if_neg h]
        rfl
theorem allK_words (l : List Tag) : ∀ s : List Tk, ∃ k ∈ allK s, (∀ t ∈ k, Ut02.isTag t = false)
  | [] => ⟨[], by rw [allK_nil]; simp, fun t ht => nomatch ht⟩
  | t :: s => by
    obtain ⟨k, hk, hw⟩ := allK_words l s
    cases ht : Ut02.isTag t with
    | true =>
      refine ⟨k, ?_, hw⟩
      rw [allK_tag ht]
      exact List.mem_append_right _ hk
    | false =>
      cases t with
      | word n =>
        refine ⟨.word n :: k, ?_, fun x hx => ?_⟩
        · rw [allK_word]
          exact List.mem_map.mpr ⟨k, hk, rfl⟩
        · rcases List.mem_cons.mp hx with rfl | hx
          · rfl
          · exact hw x hx
      | open_ n => cases ht
      | close n => cases ht
      | alone n => cases ht
theorem stay_words (l : List Tag) {k : List Tk} (hw : ∀ t ∈ k, Ut02.isTag t = false) : Ut02.mayStay l k = true := by
  have ht0 : ∀ t, Ut02.isTag t = true → Ut02.times k t = 0 := fun t ht => times_zero.mpr fun hm => by
    rw [hw t hm] at ht
    cases ht
  have hwh : ∀ n, ¬ Ut02.whole k n = true := fun n h => by
    have := (whole_iff k n).mp h
    rw [ht0 _ rfl] at this
    omega
  refine (mayStay_iff l k).mpr ⟨fun t ht => ?_, fun t ht => by rw [ht0 t ht]; exact Nat.zero_le _, fun g _ _ h => absurd h (hwh _), fun g _ _ _ _ _ h => absurd h (hwh _)⟩
  have := hw t ht
  cases t with
  | word n => rfl
  | open_ n => cases this
  | close n => cases this
  | alone n => cases this
theorem fill_tag (s : List Tk) (t : Tk) : (fillOne s t).length ≤ 1 + if Ut02.isTag t = true then 1 else 0 := by
  unfold fillOne fill1 fill2
  cases t with
  | word n => simp [Ut02.isTag, numN]
  | alone n => simp [Ut02.isTag, numN]
  | open_ n =>
    by_cases h : Ut02.Tok.close n ∈ s <;> simp [Ut02.isTag, numN, h]
  | close n =>
    by_cases h : Ut02.Tok.open_ n ∈ s <;> simp [Ut02.isTag, numN, h]
theorem tagCount_cons (t : Tk) (s : List Tk) : Ut02.tagCount (t :: s) = (if Ut02.isTag t = true then 1 else 0) + Ut02.tagCount s := by
  unfold Ut02.tagCount
  rw [List.filter_cons]
  cases Ut02.isTag t
  · simp
  · simp
    omega
theorem fills_tag (s : List Tk) : ∀ pre : List Tk, (pre.flatMap (fillOne s)).length ≤ pre.length + Ut02.tagCount pre
  | [] => by simp
  | t :: r => by
    have h1 := fills_tag s r
    have h2 := fill_tag s t
    rw [List.flatMap_cons, List.length_append, List.length_cons, tagCount_cons]
    omega
theorem costs_le (l : List Tag) (s : List Tk) (k : List Bool) : Ut02.costOf l s k ≤ 2 * Ut02.tagCount s + 2 * l.length + 1 := by
  have h0 := cost_eq l s k
  unfold costI at h0
  have h1 := fills_tag (Ut02.kept s k) (Ut02.kept s k)
  have h2 := misses_len (Ut02.kept s k) l
  have h3 := len_split s
  have h4 := len_split (Ut02.kept s k)
  have h5 := wcnt_kept s k
  have h6 : (complM l (Ut02.kept s k)).length = ((Ut02.kept s k).flatMap (fillOne (Ut02.kept s k))).length + (l.flatMap (missOne (Ut02.kept s k))).length := by
    unfold complM
    rw [List.length_append]
  omega
theorem filter_map_kept (l : List Tag) (s : List Tk) (ws : List (List Bool)) : (ws.map (Ut02.kept s)).filter (Ut02.mayStay l) = (ws.filter fun k => Ut02.mayStay l (Ut02.kept s k)).map (Ut02.kept s) := by
  rw [List.filter_map]
  rfl
theorem best_eq (l : List Tag) (s : List Tk) : bestM l s = some (((Ut02.mended l s).1 : Int), (Ut02.mended l s).2) := by
  have e1 : bestM l s = castB (((Ut02.ways (Ut02.tagCount s)).filter fun k => Ut02.mayStay l (Ut02.kept s k)).foldl (minStep (Ut02.costOf l s) fun k => Ut02.completed l (Ut02.kept s k)) none) := by
    rw [← best_fold, ← filter_map_kept]
    show (choicesM l s).foldl _ _ = _
    rw [choices_eq]
    rfl
  have hne : ((Ut02.ways (Ut02.tagCount s)).filter fun k => Ut02.mayStay l (Ut02.kept s k)) ≠ [] := by
    intro z
    obtain ⟨k, hk, hw⟩ := allK_words l s
    have h1 : k ∈ (allK s).filter (Ut02.mayStay l) := List.mem_filter.mpr ⟨hk, stay_words l hw⟩
    unfold allK at h1
    rw [filter_map_kept, z] at h1
    cases h1
  rcases first_min (Ut02.costOf l s) (fun k => Ut02.completed l (Ut02.kept s k)) (2 * Ut02.tagCount s + 2 * l.length + 1) _ (fun k _ => costs_le l s k) with ⟨z, _⟩ | ⟨k, hk, hf⟩
  · exact absurd z hne
  · rw [e1, hf]
    have em : Ut02.mended l s = (leastOf (Ut02.costOf l s) (2 * Ut02.tagCount s + 2 * l.length + 1) ((Ut02.ways (Ut02.tagCount s)).filter fun k => Ut02.mayStay l (Ut02.kept s k)), Ut02.completed l (Ut02.kept s k)) := by
      unfold Ut02.mended
      show (match ((Ut02.ways (Ut02.tagCount s)).filter fun k => Ut02.mayStay l (Ut02.kept s k)).find? (fun k => Ut02.costOf l s k == leastOf (Ut02.costOf l s) (2 * Ut02.tagCount s + 2 * l.length + 1) ((Ut02.ways (Ut02.tagCount s)).filter fun k => Ut02.mayStay l (Ut02.kept s k))) with
        | none => (0, s)
        | some k => (leastOf (Ut02.costOf l s) (2 * Ut02.tagCount s + 2 * l.length + 1) ((Ut02.ways (Ut02.tagCount s)).filter fun k => Ut02.mayStay l (Ut02.kept s k)), Ut02.completed l (Ut02.kept s k))) = _
      rw [hk]
    rw [em]
    rfl
end Tm
set_option Elab.async false
set_option maxRecDepth 100000
set_option maxHeartbeats 2000000
namespace Tm
open PySem PySem.Spec PyProof.Rows L2
open Ut02 (Tag Seg Fault)
section
variable {P : Program} {w : World} {K : PySem.W.Frag} {mg : Str → Option Value} {base : Heap} {f : Addr} {fd : FuncData}
/-! ### are_tags_out_of_range -/
def ids (l : List Tag) : List Int := l.map fun g => (g.i : Int)
def tagsOut (l : List Tag) : Bool := decide (6 < l.length ∨ ¬ (ids l).Nodup) || l.any fun g => decide (99 < g.i)
def spTagsOut (K : PySem.W.Frag) : Sp := fun vs H Q _ => ∃ (v : V) (l : List Tag), vs = [v] ∧ TagL K H v l ∧ l.length ≤ 60 ∧ RetB H Q (tagsOut l)
theorem ids_len (l : List Tag) : (ids l).length = l.length := by
  unfold ids
  rw [List.length_map]
theorem bools_ids : ∀ l : List Tag, ((ids l).flatMap fun i => [PyData.bool (decide (99 < i))]) = (l.map fun g => decide (99 < g.i)).map PyData.bool
  | [] => rfl
  | g :: r => by
    show [PyData.bool (decide ((99 : Int) < (g.i : Int)))] ++ ((ids r).flatMap fun i => [PyData.bool (decide (99 < i))]) = _
    rw [bools_ids r, show decide ((99 : Int) < (g.i : Int)) = decide (99 < g.i) from decide_eq_decide.mpr (by omega)]
    rfl
theorem ok_are_tags_out_of_range (F : Fun K "are_tags_out_of_range" "are_tags_out_of_range" s_are_tags_out_of_range f fd) (T : Txt K mg) : FnOk P w K mg base CX0 1 f fd ["tags"] (spTagsOut K) := by
  refine F.ok sc_are_tags_out_of_range (fun vs H Q E h => ?_) (fun cdv A outer st H vs Q E hr h => ?_)
  · obtain ⟨v, l, rfl, _⟩ := h
    rfl
  · obtain ⟨v, l, rfl, hv, hl, k⟩ := h
    refine ⟨_, (pss_cons (ps_setLc (i := 1) (own := [("tag", 2)]) (by rfl) sc_are_tags_out_of_range.nd rfl rfl (sw_true rfl rfl rfl (by decide +kernel)) (pi_list (pv 0)) (blkOk_by (own := [("tag", 2)]) (N := N_are_tags_out_of_range) (sc := defScope s_are_tags_out_of_range) (by decide +kernel)) (fun _ _ _ _ _ => (pg_name (i := 2) sc_are_tags_out_of_range.nd rfl (Or.inl rfl))) (fun _ _ _ _ _ => pts_nil) (fun _ _ _ _ _ => (pe_ix (k_ixT K) (pv 2) pe_int (fun _ _ => rfl))))
      (pss_cons (ps_if (PW.pt (pw_or (pt_cmpR op_gt (pe_callB call_len_seq (by rfl) T.m_len PySem.boot_len (pa_cons (pv 1) pa_nil)) (pe_gi T.m_MOST_TOLD) (nomark _)) (pw_or1 (pt_cmpR op_lt (pe_lenSetG (by rfl) T.m_len (by rfl) T.m_set (pv 1)) (pe_callB call_len_seq (by rfl) T.m_len PySem.boot_len (pa_cons (pv 1) pa_nil)) (nomark _))))) (pss_one (ps_ret pe_bl)) pss_nil)
      (pss_one (ps_ret (pe_callB (cr_any rfl) (by rfl) T.m_any (by decide +kernel) (pa_cons (pe_lc (own := [("number", 3)]) (by rfl) sc_are_tags_out_of_range.nd (pi_list (pv 1)) (blkOk_by (own := [("number", 3)]) (N := N_are_tags_out_of_range) (sc := defScope s_are_tags_out_of_range) (by decide +kernel)) (fun _ _ _ _ _ => (pg_name (i := 3) sc_are_tags_out_of_range.nd rfl (Or.inl rfl))) (fun _ _ _ _ _ => pts_nil) (fun _ _ _ _ _ => (pe_cmpR op_gt (pv 3) (pe_gi T.m_GREATEST_TAG) (nomark _)))) pa_nil)))))), ?_⟩
    obtain ⟨a, xs, rfl, hsq, hxl⟩ := len_of hv
    refine ⟨_, rfl, a, rfl, ⟨_, hsq⟩, fun D hD => lc_data hv (fun g => [.int g.i]) (fun x d hd => by rw [List.mem_singleton.mp hd]; rfl) hD (by omega) ?_ ?_⟩
    · intro pre g post y H' QT QF e sm hy kT kF
      obtain ⟨b, rfl, hb⟩ := dp_tag hy
      refine ⟨rfl, yes_if ?_⟩
      exact ⟨_, rfl, b, _, 0, _, rfl, rfl, hb, rfl, kT _ _ _ rfl (Same.refl _) (.int _)⟩
    · intro H1 ys s1 hy ha
      have ef : (l.flatMap fun g => [PyData.int g.i]) = (ids l).map PyData.int := by
        unfold ids
        rw [List.map_map, List.map_eq_flatMap]
        rfl
      rw [ef] at ha
      have ey := dpAll_ints ha
      subst ey
      have hlen : ((ids l).map V.int).length = l.length := by rw [List.length_map, ids_len]
      replace k := k.mono s1
      unfold tagsOut at k
      dsimp only [gName, tNext, tSeq]
      have yes : (6 < l.length ∨ ¬ (ids l).Nodup) → Q (.bl true) H1 := fun h => by
        rw [decide_eq_true h, Bool.true_or] at k
        exact k _ (Same.refl _)
      refine if_or ?_
      refine ⟨_, rfl, D, _, rfl, .inl (SqL.of hy), _, _, rfl, rfl, _, rfl, ?_⟩
      refine ite2 (fun h => ?_) (fun h => ?_)
      · have h' := of_decide_eq_true h
        exact yes (.inl (by rw [hlen] at h'; omega))
      have h6 : ¬ 6 < l.length := fun z => h (decide_eq_true (by rw [hlen]; omega))
      refine ⟨_, rfl, D, ids l, rfl, SqL.of hy, by rw [ids_len]; omega, fun n hn => ?_⟩
      refine ⟨_, rfl, D, _, rfl, .inl (SqL.of hy), _, _, rfl, rfl, _, rfl, ?_⟩
      rw [ids_len] at hn
      refine ite2 (fun h2 => ?_) (fun h2 => ?_)
      · have h' := of_decide_eq_true h2
        exact yes (.inr (hn.mp (by rw [hlen] at h'; omega)))
      have hno : ¬ (6 < l.length ∨ ¬ (ids l).Nodup) := by
        rintro (z | z)
        · exact h6 z
        · exact h2 (decide_eq_true (by have := hn.mpr z; rw [hlen]; omega))
      rw [decide_eq_false hno, Bool.false_or] at k
      have hd : Dp K H1 (.ref D) (.list ((ids l).map PyData.int)) := .lst (SqL.of hy) ha
      refine ⟨_, rfl, D, rfl, ⟨_, SqL.of hy⟩, fun D2 hD2 => lc_data hd (fun i => [.bool (decide (99 < i))]) (fun x d hd => by rw [List.mem_singleton.mp hd]; rfl) hD2 (by rw [ids_len]; omega) ?_ ?_⟩
      · intro pre g post y H' QT QF e sm hy kT kF
        cases dp_int hy
        refine ⟨rfl, yes_if ?_⟩
        exact ⟨_, rfl, _, _, rfl, rfl, kT _ _ _ rfl (Same.refl _) (.bl _)⟩
      · intro H2 zs s2 hz hza
        rw [bools_ids] at hza
        have ez := dpAll_bools hza
        subst ez
        refine ⟨D2, _, rfl, SqL.of hz, ?_⟩
        have q := k _ s2
        rw [List.any_map]
        exact q
end
theorem nodup_erase (ns : List Nat) : ns.eraseDups.length ≤ ns.length ∧ (ns.Nodup ↔ ns.eraseDups.length = ns.length) := by
  induction ns using snoc_ind with
  | h0 => exact ⟨Nat.le_refl _, by simp⟩
  | h1 ns x ih =>
    obtain ⟨h1, h2⟩ := ih
    rw [eraseDups_snoc, List.length_append, List.length_singleton]
    by_cases hx : x ∈ ns
    · rw [if_pos hx]
      refine ⟨by omega, ?_⟩
      constructor
      · intro h
        rw [List.nodup_append] at h
        exact absurd rfl (h.2.2 x hx x (by simp))
      · intro h
        omega
    · rw [if_neg hx, List.length_append, List.length_singleton]
      refine ⟨by omega, ?_⟩
      rw [List.nodup_append]
      constructor
      · rintro ⟨h, _⟩
        have := h2.mp h
        omega
      · intro h
        refine ⟨h2.mpr (by omega), by simp, fun a ha b hb => ?_⟩
        rw [List.mem_singleton.mp hb]
        intro z
        rw [z] at ha
        exact hx ha
theorem nodup_ids (l : List Tag) : (ids l).Nodup ↔ (l.map fun t => t.i).eraseDups.length = l.length := by
  have e1 : (ids l).Nodup ↔ (l.map fun t => t.i).Nodup := by
    unfold ids
    rw [show (l.map fun g => (g.i : Int)) = (l.map fun t => t.i).map (fun n : Nat => (n : Int)) by rw [List.map_map]; rfl]
    unfold List.Nodup
    rw [List.pairwise_map]
    constructor
    · intro h
      exact h.imp fun h z => h (by rw [z])
    · intro h
      exact h.imp fun h z => h (by omega)
  rw [e1]
  have e2 : l.length = (l.map fun t => t.i).length := by rw [List.length_map]
  rw [e2]
  exact (nodup_erase _).2
end Tm
set_option Elab.async false
set_option maxRecDepth 100000
set_option maxHeartbeats 2000000
namespace Tm
open Ut02 (Tag Seg Fault)
/-! ### the calls' numbers -/
/-- one call at the head of a list: the whole list, the call as it stands there, without its row's length, what is left -/
inductive HeadIs : List Int → List Int → List Int → List Int → Prop
  | plain (p : Int) (nums rest : List Int) : PyUt02.shape p = some (nums.length, 0) → HeadIs (p :: nums ++ rest) (p :: nums) (p :: nums) rest
  | rowed (p : Int) (nums row rest : List Int) : PyUt02.shape p = some (nums.length, 1) → HeadIs (p :: nums ++ ((row.length : Int) :: row) ++ rest) (p :: nums ++ ((row.length : Int) :: row)) (p :: nums ++ row) rest
theorem shape_cases {p : Int} {n k : Nat} (h : PyUt02.shape p = some (n, k)) : (p = 0 ∧ n = 0 ∧ k = 1) ∨ (p = 1 ∧ n = 0 ∧ k = 1) ∨ (p = 2 ∧ n = 0 ∧ k = 0) ∨ (p = 3 ∧ n = 0 ∧ k = 0) ∨ (p = 4 ∧ n = 0 ∧ k = 0) ∨ (p = 5 ∧ n = 3 ∧ k = 0) ∨ (p = 6 ∧ n = 1 ∧ k = 0) ∨ (p = 7 ∧ n = 2 ∧ k = 1) ∨ (p = 8 ∧ n = 1 ∧ k = 0) ∨ (p = 9 ∧ n = 0 ∧ k = 0) ∨ (p = 10 ∧ n = 0 ∧ k = 0) ∨ (p = 11 ∧ n = 2 ∧ k = 0) := by
  unfold PyUt02.shape at h
  repeat' split at h
  all_goals first
    | (obtain ⟨rfl, rfl⟩ := Prod.mk.inj (Option.some.inj h); subst p; simp; done)
    | cases h
theorem len0 {xs : List Int} (h : xs.length = 0) : xs = [] := List.length_eq_zero_iff.mp h
theorem len1 {xs : List Int} (h : xs.length = 1) : ∃ a, xs = [a] := by
  cases xs with
  | nil => cases h
  | cons a r => exact ⟨a, by rw [len0 (Nat.succ.inj h)]⟩
theorem len2 {xs : List Int} (h : xs.length = 2) : ∃ a b, xs = [a, b] := by
  cases xs with
  | nil => cases h
  | cons a r =>
    obtain ⟨b, e⟩ := len1 (Nat.succ.inj h)
    exact ⟨a, b, by rw [e]⟩
theorem len3 {xs : List Int} (h : xs.length = 3) : ∃ a b c, xs = [a, b, c] := by
  cases xs with
  | nil => cases h
  | cons a r =>
    obtain ⟨b, c, e⟩ := len2 (Nat.succ.inj h)
    exact ⟨a, b, c, by rw [e]⟩
def flatC (c : List (List Int)) : List Int := (PyUt02.whole c).headD []
theorem row_bound {p : Int} {n : Nat} {nums row : List Int} (hs : PyUt02.shape p = some (n, 1)) (hb : PyInside.call PyUt02.bound [p :: nums, row] = true) : row.length ≤ 130 := by
  have hb : (PyInside.each (PyUt02.bound p).1 nums && PyInside.lists (PyUt02.bound p).2 [row]) = true := hb
  rw [Bool.and_eq_true] at hb
  have hb := hb.2
  rcases shape_cases hs with ⟨rfl, _, h4⟩ | ⟨rfl, _, h4⟩ | ⟨rfl, _, h4⟩ | ⟨rfl, _, h4⟩ | ⟨rfl, _, h4⟩ | ⟨rfl, _, h4⟩ | ⟨rfl, _, h4⟩ | ⟨rfl, _, h4⟩ | ⟨rfl, _, h4⟩ | ⟨rfl, _, h4⟩ | ⟨rfl, _, h4⟩ | ⟨rfl, _, h4⟩
  all_goals first
    | (exact absurd h4 (by decide))
    | (have hb : ((decide (1 ≤ row.length) && decide (row.length ≤ 130)) && row.all (PyInside.within 0 4294967295) && true) = true := hb
       simp only [Bool.and_eq_true, decide_eq_true_eq] at hb
       omega)
    | (have hb : ((decide (0 ≤ row.length) && decide (row.length ≤ 100)) && row.all (PyInside.within 0 4294967295) && true) = true := hb
       simp only [Bool.and_eq_true, decide_eq_true_eq] at hb
       omega)
theorem call_head {p : Int} {r t : List Int} {c : List (List Int)} (h : PyFlat.call PyUt02.shape (p :: r) = some (c, t)) : ∃ cl, HeadIs (p :: r) cl (flatC c) t ∧ (PyInside.call PyUt02.bound c = true → cl.length ≤ 140) := by
  unfold PyFlat.call at h
  dsimp only at h
  cases hs : PyUt02.shape p with
  | none =>
    rw [hs] at h
    cases h
  | some nk =>
    obtain ⟨n, k⟩ := nk
    rw [hs] at h
    simp only at h
    by_cases hl : r.length < n
    · rw [if_pos hl] at h
      cases h
    · rw [if_neg hl] at h
      have hn : (r.take n).length = n := by rw [List.length_take]; omega
      have er : r = r.take n ++ r.drop n := (List.take_append_drop n r).symm
      have hk : k = 0 ∨ k = 1 := by
        rcases shape_cases hs with z | z | z | z | z | z | z | z | z | z | z | z <;> omega
      rcases hk with rfl | rfl
      · cases h
        refine ⟨p :: r.take n, ?_, fun _ => by rw [List.length_cons, hn]; rcases shape_cases hs with z | z | z | z | z | z | z | z | z | z | z | z <;> omega⟩
        have ew : flatC [p :: r.take n] = p :: r.take n := by
          have h2 := shape_cases hs
          generalize r.take n = xs at hn
          subst hn
          rcases h2 with ⟨rfl, h3, h4⟩ | ⟨rfl, h3, h4⟩ | ⟨rfl, h3, h4⟩ | ⟨rfl, h3, h4⟩ | ⟨rfl, h3, h4⟩ | ⟨rfl, h3, h4⟩ | ⟨rfl, h3, h4⟩ | ⟨rfl, h3, h4⟩ | ⟨rfl, h3, h4⟩ | ⟨rfl, h3, h4⟩ | ⟨rfl, h3, h4⟩ | ⟨rfl, h3, h4⟩
          all_goals first
            | (exact absurd h4 (by decide))
            | (cases len0 h3; rfl)
            | (obtain ⟨a, rfl⟩ := len1 h3; rfl)
            | (obtain ⟨a, b, rfl⟩ := len2 h3; rfl)
            | (obtain ⟨a, b, c, rfl⟩ := len3 h3; rfl)
        rw [ew]
        have := HeadIs.plain p (r.take n) (r.drop n) (by rw [hn]; exact hs)
        rw [List.cons_append, ← er] at this
        exact this
      · unfold PyFlat.rows at h
        cases hr : PyFlat.row (r.drop n) with
        | none =>
          rw [hr] at h
          cases h
        | some x =>
          obtain ⟨row, s⟩ := x
          rw [hr] at h
          cases h
          cases hd : r.drop n with
          | nil =>
            rw [hd] at hr
            cases hr
          | cons m r2 =>
            rw [hd] at hr
            unfold PyFlat.row at hr
            dsimp only at hr
            by_cases hm : 0 ≤ m ∧ m.toNat ≤ r2.length
            · rw [if_pos hm] at hr
              cases hr
              have hrl : (r2.take m.toNat).length = m.toNat := by rw [List.length_take]; omega
              have em : m = ((r2.take m.toNat).length : Int) := by rw [hrl]; omega
              refine ⟨p :: r.take n ++ (((r2.take m.toNat).length : Int) :: r2.take m.toNat), ?_, fun hb => by have := row_bound hs hb; rw [List.length_append, List.length_cons, List.length_cons, hn]; rcases shape_cases hs with z | z | z | z | z | z | z | z | z | z | z | z <;> omega⟩
              have ew : flatC [p :: r.take n, r2.take m.toNat] = p :: r.take n ++ r2.take m.toNat := by
                have h2 := shape_cases hs
                generalize r.take n = xs at hn
                subst hn
                rcases h2 with ⟨rfl, h3, h4⟩ | ⟨rfl, h3, h4⟩ | ⟨rfl, h3, h4⟩ | ⟨rfl, h3, h4⟩ | ⟨rfl, h3, h4⟩ | ⟨rfl, h3, h4⟩ | ⟨rfl, h3, h4⟩ | ⟨rfl, h3, h4⟩ | ⟨rfl, h3, h4⟩ | ⟨rfl, h3, h4⟩ | ⟨rfl, h3, h4⟩ | ⟨rfl, h3, h4⟩
                all_goals first
                  | (exact absurd h4 (by decide))
                  | (cases len0 h3; rfl)
                  | (obtain ⟨a, b, rfl⟩ := len2 h3; rfl)
              rw [ew]
              have := HeadIs.rowed p (r.take n) (r2.take m.toNat) (r2.drop m.toNat) (by rw [hn]; exact hs)
              rw [← em, List.append_assoc, List.cons_append, List.cons_append, List.take_append_drop, ← hd, List.take_append_drop] at this
              rw [← em]
              exact this
            · rw [if_neg hm] at hr
              cases hr
/-- a list's calls -/
def Parsed (rest : List Int) (raws : List (List (List Int))) : Prop := ∃ f, PyFlat.calls PyUt02.shape f rest = some raws
theorem parsed_nil {raws : List (List (List Int))} (h : Parsed [] raws) : raws = [] := by
  obtain ⟨f, h⟩ := h
  cases f <;> exact (Option.some.inj h).symm
theorem parsed_cons {p : Int} {r : List Int} {raws : List (List (List Int))} (h : Parsed (p :: r) raws) : ∃ c t cs, raws = c :: cs ∧ PyFlat.call PyUt02.shape (p :: r) = some (c, t) ∧ Parsed t cs := by
  obtain ⟨f, h⟩ := h
  cases f with
  | zero => cases h
  | succ f =>
    unfold PyFlat.calls at h
    cases hc : PyFlat.call PyUt02.shape (p :: r) with
    | none =>
      rw [hc] at h
      cases h
    | some x =>
      obtain ⟨c, t⟩ := x
      rw [hc] at h
      simp only at h
      cases ht : PyFlat.calls PyUt02.shape f t with
      | none =>
        rw [ht] at h
        cases h
      | some cs =>
        rw [ht] at h
        exact ⟨c, t, cs, (Option.some.inj h).symm, rfl, f, ht⟩
/-- what a machine answers from a state to the calls that are left -/
def runs (s : Ut02.St) (raws : List (List (List Int))) : List Int := PyFlat.told (PyFlat.played (fun s c => Ut02Neutral.step s (c.headD [])) s (raws.map PyUt02.whole))
theorem runs_nil (s : Ut02.St) : runs s [] = [] := rfl
theorem runs_cons (s : Ut02.St) (c : List (List Int)) (cs : List (List (List Int))) :
    runs s (c :: cs) = ((Ut02Neutral.step s (flatC c)).2.length : Int) :: ((Ut02Neutral.step s (flatC c)).2 ++ runs (Ut02Neutral.step s (flatC c)).1 cs) := by
  unfold runs PyFlat.told
  rw [List.map_cons]
  show List.flatMap _ ((Ut02Neutral.step s (flatC c)).2 :: _) = _
  rw [List.flatMap_cons]
  rfl
theorem answers_runs {l : List Int} {raws : List (List (List Int))} (h : PyFlat.calls PyUt02.shape l.length l = some raws) : PyUt02.answers l = runs Ut02.init raws := by
  unfold PyUt02.answers PyUt02.calls
  rw [h]
  rfl
/-! ### a call's own numbers read -/
theorem seg_row : ∀ {ns : List Nat} {s : List Tk}, Ut02Neutral.segIn ns = some s → ns.map (fun (n : Nat) => (n : Int)) = rowI s
  | [], s, h => by
    cases h
    rfl
  | [_], s, h => by cases h
  | k :: n :: r, s, h => by
    unfold Ut02Neutral.segIn at h
    cases ht : Ut02Neutral.tokIn k n with
    | none =>
      rw [ht] at h
      cases h
    | some t =>
      rw [ht] at h
      cases hr : Ut02Neutral.segIn r with
      | none =>
        rw [hr] at h
        cases h
      | some u =>
        rw [hr] at h
        cases h
        have e : k = kindN t ∧ n = numN t := by
          unfold Ut02Neutral.tokIn at ht
          repeat' split at ht
          all_goals first
            | (cases ht; exact ⟨by assumption, rfl⟩)
            | cases ht
        rw [List.map_cons, List.map_cons, seg_row hr, e.1, e.2]
        rfl
def tagRow (l : List Tag) : List Int := l.flatMap fun g => [(g.i : Int), b01 g.pair, b01 g.must]
theorem bit_b01 {n : Nat} {b : Bool} (h : Ut02Neutral.bit n = some b) : (n : Int) = b01 b := by
  unfold Ut02Neutral.bit at h
  repeat' split at h
  all_goals first
    | (cases h; subst n; rfl)
    | cases h
theorem tags_row : ∀ {k : Nat} {ns rest : List Nat} {l : List Tag}, Ut02Neutral.tagsIn k ns = some (l, rest) → l.length = k ∧ ns.map (fun (n : Nat) => (n : Int)) = tagRow l ++ rest.map fun (n : Nat) => (n : Int)
  | 0, ns, rest, l, h => by
    cases h
    exact ⟨rfl, rfl⟩
  | k + 1, [], rest, l, h => by cases h
  | k + 1, [_], rest, l, h => by cases h
  | k + 1, [_, _], rest, l, h => by cases h
  | k + 1, i :: p :: m :: ns, rest, l, h => by
    unfold Ut02Neutral.tagsIn at h
    cases hp : Ut02Neutral.bit p with
    | none =>
      rw [hp] at h
      cases h
    | some bp =>
      rw [hp] at h
      cases hm : Ut02Neutral.bit m with
      | none =>
        rw [hm] at h
        cases h
      | some bm =>
        rw [hm] at h
        cases ht : Ut02Neutral.tagsIn k ns with
        | none =>
          rw [ht] at h
          cases h
        | some x =>
          obtain ⟨l', rest'⟩ := x
          rw [ht] at h
          cases h
          obtain ⟨h1, h2⟩ := tags_row ht
          refine ⟨by rw [List.length_cons, h1], ?_⟩
          rw [List.map_cons, List.map_cons, List.map_cons, h2, bit_b01 hp, bit_b01 hm]
          rfl
theorem nats_back {l : List Int} (h : l.all Ut02Neutral.nat = true) : (l.map Int.toNat).map (fun (n : Nat) => (n : Int)) = l := by
  rw [List.map_map]
  have : ∀ x ∈ l, ((fun (n : Nat) => (n : Int)) ∘ Int.toNat) x = x := by
    intro x hx
    have h1 := List.all_eq_true.mp h x hx
    unfold Ut02Neutral.nat at h1
    rw [Bool.and_eq_true] at h1
    have h2 := of_decide_eq_true h1.1
    show ((x.toNat : Nat) : Int) = x
    omega
  rw [List.map_congr_left this]
  exact List.map_id' l
/-! ### what holds of the house -/
structure Good (g : Ut02.St) : Prop where
  few : g.tags.length ≤ 6
  small : ∀ t ∈ g.tags, t.i ≤ 99
  right : Ut02.isRight (allMust g.tags) g.source = true
  src : Ut02.segOk g.source = true
  tgt : Ut02.segOk g.target = true
  old : ∀ s ∈ g.old, Ut02.segOk s = true
theorem good_init : Good Ut02.init := ⟨Nat.zero_le _, (fun t ht => nomatch ht), rfl, rfl, rfl, (fun t ht => nomatch ht)⟩
theorem segOk_iff (s : List Tk) : Ut02.segOk s = true ↔ s.length ≤ 16 ∧ Ut02.tagCount s ≤ 8 ∧ s.all Ut02.tokOk = true := by
  unfold Ut02.segOk Ut02.LONG Ut02.TAGS
  rw [Bool.and_eq_true, Bool.and_eq_true, decide_eq_true_iff, decide_eq_true_iff]
theorem segOk_tooMuch {s : List Tk} (h : s.all Ut02.tokOk = true) : Ut02.segOk s = !tooMuch s := by
  rw [segOk_eq, h, Bool.and_true]
theorem kept_mem : ∀ (s : List Tk) (k : List Bool) (t : Tk), t ∈ Ut02.kept s k → t ∈ s
  | [], _, t, h => h
  | .word n :: s, k, t, h => by
    rcases List.mem_cons.mp h with rfl | h
    · simp
    · exact List.mem_cons_of_mem _ (kept_mem s k t h)
  | .open_ n :: s, [], t, h => List.mem_cons_of_mem _ (kept_mem s [] t h)
  | .close n :: s, [], t, h => List.mem_cons_of_mem _ (kept_mem s [] t h)
  | .alone n :: s, [], t, h => List.mem_cons_of_mem _ (kept_mem s [] t h)
  | .open_ n :: s, b :: k, t, h => by
    have h : t ∈ (if b = true then .open_ n :: Ut02.kept s k else Ut02.kept s k) := h
    cases b with
    | false => exact List.mem_cons_of_mem _ (kept_mem s k t h)
    | true =>
      rcases List.mem_cons.mp h with rfl | h
      · simp
      · exact List.mem_cons_of_mem _ (kept_mem s k t h)
  | .close n :: s, b :: k, t, h => by
    have h : t ∈ (if b = true then .close n :: Ut02.kept s k else Ut02.kept s k) := h
    cases b with
    | false => exact List.mem_cons_of_mem _ (kept_mem s k t h)
    | true =>
      rcases List.mem_cons.mp h with rfl | h
      · simp
      · exact List.mem_cons_of_mem _ (kept_mem s k t h)
  | .alone n :: s, b :: k, t, h => by
    have h : t ∈ (if b = true then .alone n :: Ut02.kept s k else Ut02.kept s k) := h
    cases b with
    | false => exact List.mem_cons_of_mem _ (kept_mem s k t h)
    | true =>
      rcases List.mem_cons.mp h with rfl | h
      · simp
      · exact List.mem_cons_of_mem _ (kept_mem s k t h)
theorem compl_ok {l : List Tag} {k : List Tk} (hl : ∀ g ∈ l, g.i ≤ 99) (hk : k.all Ut02.tokOk = true) : (complM l k).all Ut02.tokOk = true := by
  rw [List.all_eq_true] at hk ⊢
  intro t ht
  unfold complM at ht
  rcases List.mem_append.mp ht with h | h
  · obtain ⟨u, hu, h⟩ := List.mem_flatMap.mp h
    have hu2 := hk u hu
    unfold fillOne at h
    rcases List.mem_append.mp h with h | h
    · rcases List.mem_append.mp h with h | h
      · unfold fill1 at h
        split at h
        · rename_i hc
          rw [List.mem_singleton.mp h]
          rw [hc.1] at hu2
          exact hu2
        · cases h
      · rw [List.mem_singleton.mp h]
        exact hu2
    · unfold fill2 at h
      split at h
      · rename_i hc
        rw [List.mem_singleton.mp h]
        rw [hc.1] at hu2
        exact hu2
      · cases h
  · obtain ⟨g, hg, h⟩ := List.mem_flatMap.mp h
    have hg2 := hl g hg
    unfold missOne at h
    split at h
    · unfold pieces at h
      split at h
      · rcases List.mem_cons.mp h with rfl | h
        · exact decide_eq_true hg2
        · rw [List.mem_singleton.mp h]
          exact decide_eq_true hg2
      · rw [List.mem_singleton.mp h]
        exact decide_eq_true hg2
    · cases h
theorem mended_ok {l : List Tag} {s : List Tk} (hl : ∀ g ∈ l, g.i ≤ 99) (hs : s.all Ut02.tokOk = true) : (Ut02.mended l s).2.all Ut02.tokOk = true := by
  unfold Ut02.mended
  simp only
  split
  · exact hs
  · rename_i k _
    show (Ut02.completed l (Ut02.kept s k)).all Ut02.tokOk = true
    rw [← compl_eq]
    refine compl_ok hl ?_
    rw [List.all_eq_true] at hs ⊢
    exact fun t ht => hs t (kept_mem s k t ht)
end Tm
set_option Elab.async false
set_option maxRecDepth 100000
set_option maxHeartbeats 2000000
namespace Tm
open PySem PySem.Spec PyProof.Rows L2
open Ut02 (Tag Seg Fault)
/-! ### expressions by their values -/
section
variable {K : PySem.W.Frag} {σ : L2.St} {H : Hp}
/-- te gives v and leaves the heap, from H on -/
def Pur (te : TE) (σ : L2.St) (H : Hp) (v : V) : Prop := ∀ H1, Same H H1 → ∀ Q : VK, Q v H1 → te σ H1 Q
theorem Pur.same {te : TE} {v : V} {H1 : Hp} (h : Pur te σ H v) (s : Same H H1) : Pur te σ H1 v := fun H2 s2 Q q => h H2 (s.trans s2) Q q
theorem pur_var {i : Nat} {v : V} (h : σ[i]? = some (some v)) : Pur (tVar i) σ H v := fun _ _ _ q => ⟨v, h, q⟩
theorem pur_c {v : V} : Pur (tC v) σ H v := fun _ _ _ q => q
theorem pur_fld {ta : TE} {fn : Str} {d C dx : Addr} {fs : List (Str × V)} {v : V} (ha : Pur ta σ H (.ref d)) (hd : H d = some (.ins C dx fs)) (c : Cls K C) (n : NoAttr K C fn) (l : fs.lookup fn = some v) : Pur (tFld K ta fn) σ H v :=
  fun H1 s _ q => ha H1 s _ ⟨d, C, dx, fs, v, rfl, s _ _ hd, c, n, l, q⟩
theorem pur_i2 {ta tb : TE} {i j : Int} {g : Int → Int → V} (ha : Pur ta σ H (.int i)) (hb : Pur tb σ H (.int j)) : Pur (tOp (rI0 g) ta tb) σ H (g i j) :=
  fun H1 s _ q => ha H1 s _ (hb H1 s _ ⟨i, j, rfl, rfl, q⟩)
theorem pur_ixT {ta tb : TE} {a : Addr} {xs : List V} {i : Int} {v : V} (ha : Pur ta σ H (.ref a)) (hs : SqT K H a xs) (hb : Pur tb σ H (.int i)) (hx : atI xs i = some v) : Pur (tOp (rIxT K) ta tb) σ H v :=
  fun H1 s _ q => ha H1 s _ (hb H1 s _ ⟨a, xs, i, v, rfl, rfl, (sameI s).tup hs, hx, q⟩)
theorem pur_ixL {ta tb : TE} {a : Addr} {xs : List V} {i : Int} {v : V} (ha : Pur ta σ H (.ref a)) (hs : SqL K H a xs) (hb : Pur tb σ H (.int i)) (hx : atI xs i = some v) : Pur (tOp (rIxL K) ta tb) σ H v :=
  fun H1 s _ q => ha H1 s _ (hb H1 s _ ⟨a, xs, i, v, rfl, rfl, (sameI s).seq hs, hx, q⟩)
theorem pur_len {ta : TE} {a : Addr} {xs : List V} (ha : Pur ta σ H (.ref a)) (hs : SqL K H a xs) :
    Pur (tCB (fun xs H Q => ∃ p ys, xs = [.ref p] ∧ (SqL K H p ys ∨ SqT K H p ys) ∧ Q (.int ys.length) H) (tCons ta tNil)) σ H (.int xs.length) :=
  fun H1 s _ q => ha H1 s _ ⟨a, xs, rfl, .inl ((sameI s).seq hs), q⟩
def PurO (to : TO) (σ : L2.St) (H : Hp) (o : Option Int) : Prop := ∀ H1, Same H H1 → ∀ Q : Option Int → Hp → Prop, Q o H1 → to σ H1 Q
theorem puro_none : PurO tNoPart σ H none := fun _ _ _ q => q
theorem puro_some {te : TE} {i : Int} (h : Pur te σ H (.int i)) : PurO (tPart te) σ H (some i) := fun H1 s _ q => h H1 s _ ⟨i, rfl, q⟩
/-- te makes a new list of such data -/
def Ev (K : PySem.W.Frag) (te : TE) (σ : L2.St) (H : Hp) (ds : List PyData) : Prop := ∀ H1, Same H H1 → ∀ Q : VK, (∀ (H' : Hp) (p : Addr) (ys : List V), Same H1 H' → H1 p = none → H' p = some (.lst ys) → DpAll K H' ys ds → Q (.ref p) H') → te σ H1 Q
/-- te gives such data -/
def EvD (K : PySem.W.Frag) (te : TE) (σ : L2.St) (H : Hp) (d : PyData) : Prop := ∀ H1, Same H H1 → ∀ Q : VK, (∀ (H' : Hp) (v : V), Same H1 H' → Dp K H' v d → Q v H') → te σ H1 Q
theorem evd_pur {te : TE} {v : V} {d : PyData} (h : Pur te σ H v) (hd : Dp K H v d) : EvD K te σ H d := fun H1 s _ q => h H1 s _ (q H1 v (Same.refl _) (dpI (sameI s) hd))
theorem evd_two {t1 t2 : TE} {i j : Int} (h1 : Pur t1 σ H (.int i)) (h2 : Pur t2 σ H (.int j)) : EvD K (tTup (tCons t1 (tCons t2 tNil))) σ H (.tuple [.int i, .int j]) :=
  fun H1 s _ q => h1 H1 s _ (h2 H1 s _ ⟨szle (by show 2 ≤ 100000; decide), fun p hp => q _ _ (same_new hp) (two_dp (SqT.of upd_same))⟩)
theorem ev_one {te : TE} {d : PyData} (h : EvD K te σ H d) : Ev K (tLst (tCons te tNil)) σ H [d] := fun H1 s _ q =>
  h H1 s _ fun H2 v s2 hv => ⟨szle (by show 1 ≤ 100000; decide), fun p hp => q _ p _ (s2.trans (same_new hp)) (s2.free hp) upd_same (dpAll_one (dpI (sameI (same_new hp)) hv))⟩
theorem ev_nil : Ev K (tLst tNil) σ H [] := fun _ _ _ q => ⟨Nat.zero_le _, fun p hp => q _ p _ (same_new hp) hp upd_same .nil⟩
theorem ev_cat {ta tb : TE} {d1 d2 : List PyData} (h1 : Ev K ta σ H d1) (h2 : Ev K tb σ H d2) (hl : d1.length + d2.length ≤ 100000) : Ev K (tOp (rCatQ K) ta tb) σ H (d1 ++ d2) := fun H1 s Q q =>
  h1 H1 s _ fun H2 p1 x1 s1 _ hx ha => h2 H2 (s.trans s1) _ fun H3 p2 x2 s2 _ hx2 ha2 =>
    ⟨p1, p2, x1, x2, rfl, rfl, SqL.of (s2 _ _ hx), SqL.of hx2, szle (by rw [dpAll_len ha, dpAll_len ha2]; exact hl), fun p hp =>
      q _ p _ ((s1.trans s2).trans (same_new hp)) ((s1.trans s2).free hp) upd_same (dpAll_app (dpAllI (sameI (s2.trans (same_new hp))) ha) (dpAllI (sameI (same_new hp)) ha2))⟩
/-- a list of one's own that stands there, and a new one -/
theorem ev_catL {ta tb : TE} {a : Addr} {d1 d2 : List PyData} (h1 : Pur ta σ H (.ref a)) (hd : Dp K H (.ref a) (.list d1)) (h2 : Ev K tb σ H d2) (hl : d1.length + d2.length ≤ 100000) : Ev K (tOp (rCatQ K) ta tb) σ H (d1 ++ d2) := fun H1 s Q q => by
  obtain ⟨a', xs, ea, hsq, hall⟩ := dp_list hd
  cases ea
  exact h1 H1 s _ (h2 H1 s _ fun H3 p2 x2 s2 _ hx2 ha2 =>
    ⟨a, p2, xs, x2, rfl, rfl, (sameI (s.trans s2)).seq hsq, SqL.of hx2, szle (by rw [dpAll_len hall, dpAll_len ha2]; exact hl), fun p hp =>
      q _ p _ (s2.trans (same_new hp)) (s2.free hp) upd_same (dpAll_app (dpAllI (sameI ((s.trans s2).trans (same_new hp))) hall) (dpAllI (sameI (same_new hp)) ha2))⟩)
theorem cut_take (xs : List V) (n : Nat) : cutV xs none (some (n : Int)) = xs.take n := by
  unfold cutV
  rw [HT.sIx_none, HT.sIx_nat, List.drop_zero, Nat.sub_zero]
  by_cases h : n ≤ xs.length
  · rw [Nat.min_eq_left h]
  · rw [Nat.min_eq_right (by omega), List.take_length, List.take_of_length_le (by omega)]
theorem cut_drop (xs : List V) (n : Nat) : cutV xs (some (n : Int)) none = xs.drop n := by
  unfold cutV
  rw [HT.sIx_none, HT.sIx_nat]
  by_cases h : n ≤ xs.length
  · rw [Nat.min_eq_left h, List.take_of_length_le (by rw [List.length_drop]; omega)]
  · rw [Nat.min_eq_right (by omega), List.drop_length, List.drop_of_length_le (by omega)]
    simp
theorem cut_mid (xs : List V) (n m : Nat) : cutV xs (some (n : Int)) (some (m : Int)) = (xs.drop n).take (m - n) := by
  unfold cutV
  rw [HT.sIx_nat, HT.sIx_nat]
  by_cases h : n ≤ xs.length
  · rw [Nat.min_eq_left h]
    by_cases h2 : m ≤ xs.length
    · rw [Nat.min_eq_left h2]
    · rw [Nat.min_eq_right (by omega), List.take_of_length_le (by rw [List.length_drop]; omega), List.take_of_length_le (by rw [List.length_drop]; omega)]
  · rw [Nat.min_eq_right (by omega : xs.length ≤ n), List.drop_length, List.drop_of_length_le (by omega : xs.length ≤ n)]
    simp
theorem ev_take {ta th : TE} {a : Addr} {ds : List PyData} {n : Nat} (h : Pur ta σ H (.ref a)) (hd : Dp K H (.ref a) (.list ds)) (hn : Pur th σ H (.int n)) : Ev K (tSl (rSlL K) ta tNoPart (tPart th)) σ H (ds.take n) := fun H1 s Q q => by
  obtain ⟨a', xs, ea, hsq, hall⟩ := dp_list hd
  cases ea
  refine h H1 s _ (hn H1 s _ ⟨_, rfl, a, xs, rfl, (sameI s).seq hsq, fun p hp => ?_⟩)
  rw [cut_take]
  exact q _ p _ (same_new hp) hp upd_same (dpAll_take n (dpAllI (sameI (s.trans (same_new hp))) hall))
theorem ev_drop {ta tl : TE} {a : Addr} {ds : List PyData} {n : Nat} (h : Pur ta σ H (.ref a)) (hd : Dp K H (.ref a) (.list ds)) (hn : Pur tl σ H (.int n)) : Ev K (tSl (rSlL K) ta (tPart tl) tNoPart) σ H (ds.drop n) := fun H1 s Q q => by
  obtain ⟨a', xs, ea, hsq, hall⟩ := dp_list hd
  cases ea
  refine h H1 s _ (hn H1 s _ ⟨_, rfl, a, xs, rfl, (sameI s).seq hsq, fun p hp => ?_⟩)
  rw [cut_drop]
  exact q _ p _ (same_new hp) hp upd_same (dpAll_drop n (dpAllI (sameI (s.trans (same_new hp))) hall))
theorem ev_mid {ta tl th : TE} {a : Addr} {ds : List PyData} {n m : Nat} (h : Pur ta σ H (.ref a)) (hd : Dp K H (.ref a) (.list ds)) (hn : Pur tl σ H (.int n)) (hm : Pur th σ H (.int m)) : Ev K (tSl (rSlL K) ta (tPart tl) (tPart th)) σ H ((ds.drop n).take (m - n)) := fun H1 s Q q => by
  obtain ⟨a', xs, ea, hsq, hall⟩ := dp_list hd
  cases ea
  refine h H1 s _ (hn H1 s _ ⟨_, rfl, hm H1 s _ ⟨_, rfl, a, xs, rfl, (sameI s).seq hsq, fun p hp => ?_⟩⟩)
  rw [cut_mid]
  exact q _ p _ (same_new hp) hp upd_same (dpAll_take _ (dpAll_drop n (dpAllI (sameI (s.trans (same_new hp))) hall)))
end
end Tm
set_option Elab.async false
set_option maxRecDepth 100000
set_option maxHeartbeats 2000000
namespace Tm
open PySem PySem.Spec PyProof.Rows L2
open Ut02 (Tag Seg Fault)
/-! ### the desk -/
section
variable {K : PySem.W.Frag}
/-- all is as it was but what stands at d and at e -/
def Changed (d e : Addr) (H H' : Hp) : Prop := ∀ b o, H b = some o → b ≠ d → b ≠ e → H' b = some o
theorem Changed.of {d e : Addr} {H H' : Hp} (s : Same H H') : Changed d e H H' := fun b o h _ _ => s b o h
theorem Changed.trans {d e : Addr} {H H1 H2 : Hp} (a : Changed d e H H1) (b : Changed d e H1 H2) : Changed d e H H2 := fun c o h n m => b c o (a c o h n m) n m
theorem Changed.updD {d e : Addr} {H : Hp} {o : HO} : Changed d e H (upd H d o) := fun b u h n _ => by
  rw [upd_ne n]
  exact h
theorem Changed.updE {d e : Addr} {H : Hp} {o : HO} : Changed d e H (upd H e o) := fun b u h _ n => by
  rw [upd_ne n]
  exact h
theorem Changed.sameT {d e C dx : Addr} {fs : List (Str × V)} {ys : List V} {H H' : Hp} (c : Changed d e H H') (hd : H d = some (.ins C dx fs)) (he : H e = some (.lst ys)) : SameT H H' := fun b o h n1 n2 => by
  refine c b o h (fun z => ?_) fun z => ?_
  · rw [z, hd] at h
    cases h
    exact n2 C dx fs rfl
  · rw [z, he] at h
    cases h
    exact n1 ys rfl
theorem Changed.lt {d e C dx a : Addr} {fs : List (Str × V)} {ys : List V} {H H' : Hp} {ds : List PyData} (c : Changed d e H H') (hd : H d = some (.ins C dx fs)) (he : H e = some (.lst ys)) (h : LT K H a ds) (hf : ∀ x ∈ ds, flatD x = true) (n : a ≠ e) : LT K H' a ds := by
  obtain ⟨xs, hx, ha⟩ := h
  exact ⟨xs, c _ _ hx (ne_of hx hd fun z => nomatch z) n, dpAll_flat (c.sameT hd he) hf ha⟩
theorem Changed.free {d e : Addr} {H H' : Hp} (c : Changed d e H H') {p : Addr} (hd : H' d ≠ none) (he : H' e ≠ none) (hp : H' p = none) : H p = none := by
  cases q : H p with
  | none => rfl
  | some o =>
    have n1 : p ≠ d := fun z => by
      rw [z] at hp
      exact hd hp
    have n2 : p ≠ e := fun z => by
      rw [z] at hp
      exact he hp
    rw [c p o q n1 n2] at hp
    cases hp
theorem lk_here {k : Str} {v : V} {r : List (Str × V)} : List.lookup k ((k, v) :: r) = some v := by
  simp only [List.lookup, beq_self_eq_true]
theorem lk_past {k g : Str} {v : V} {r : List (Str × V)} (h : (k == g) = false) : List.lookup k ((g, v) :: r) = List.lookup k r := by
  simp only [List.lookup, h]
theorem put_here {f : Str} {v x : V} {r : List (Str × V)} : putF f v ((f, x) :: r) = (f, v) :: r := if_pos rfl
theorem put_past {f g : Str} {v x : V} {r : List (Str × V)} (h : ¬ g = f) : putF f v ((g, x) :: r) = (g, x) :: putF f v r := if_neg h
/-! CHANGE with the class: its attributes in their order -/
def dF (vt vo vs ve : V) : List (Str × V) := [("tags", vt), ("source_things", vo), ("things", vs), ("earlier", ve)]
theorem dF_tags (vt vo vs ve : V) : (dF vt vo vs ve).lookup ("tags" : Str) = some vt := lk_here
theorem dF_source (vt vo vs ve : V) : (dF vt vo vs ve).lookup ("source_things" : Str) = some vo := (lk_past (by decide +kernel)).trans lk_here
theorem dF_things (vt vo vs ve : V) : (dF vt vo vs ve).lookup ("things" : Str) = some vs := ((lk_past (by decide +kernel)).trans (lk_past (by decide +kernel))).trans lk_here
theorem dF_earlier (vt vo vs ve : V) : (dF vt vo vs ve).lookup ("earlier" : Str) = some ve := (((lk_past (by decide +kernel)).trans (lk_past (by decide +kernel))).trans (lk_past (by decide +kernel))).trans lk_here
theorem dF_putTags (vt vo vs ve x : V) : putF "tags" x (dF vt vo vs ve) = dF x vo vs ve := put_here
theorem dF_putSource (vt vo vs ve x : V) : putF "source_things" x (dF vt vo vs ve) = dF vt x vs ve := (put_past (by decide +kernel)).trans (congrArg _ put_here)
theorem dF_putThings (vt vo vs ve x : V) : putF "things" x (dF vt vo vs ve) = dF vt vo x ve := (put_past (by decide +kernel)).trans (congrArg _ ((put_past (by decide +kernel)).trans (congrArg _ put_here)))
theorem dF_putEarlier (vt vo vs ve x : V) : putF "earlier" x (dF vt vo vs ve) = dF vt vo vs x := (put_past (by decide +kernel)).trans (congrArg _ ((put_past (by decide +kernel)).trans (congrArg _ ((put_past (by decide +kernel)).trans (congrArg _ put_here)))))
/-- the translations as they were, the last ahead -/
inductive Olds (K : PySem.W.Frag) (H : Hp) (e : Addr) (A : List Addr) : List Addr → List Seg → Prop
  | nil : Olds K H e A [] []
  | cons {a : Addr} {s : Seg} {es : List Addr} {ss : List Seg} : a ∈ A → a ≠ e → LT K H a (s.map tokD) → Olds K H e A es ss → Olds K H e A (a :: es) (s :: ss)
theorem Olds.same {H H' : Hp} {e : Addr} {A : List Addr} {es : List Addr} {ss : List Seg} (h : Olds K H e A es ss) (s : Same H H') : Olds K H' e A es ss := by
  induction h with
  | nil => exact .nil
  | cons m n l _ ih => exact .cons m n (l.sameI (Tm.sameI s)) ih
theorem Olds.chg {H H' : Hp} {d e C dx : Addr} {A A' : List Addr} {fs : List (Str × V)} {ys : List V} {es : List Addr} {ss : List Seg} (h : Olds K H e A es ss) (c : Changed d e H H') (hd : H d = some (.ins C dx fs)) (he : H e = some (.lst ys)) (hA : ∀ a ∈ A, a ∈ A') : Olds K H' e A' es ss := by
  induction h with
  | nil => exact .nil
  | cons m n l _ ih => exact .cons (hA _ m) n (c.lt hd he l flat_toks n) ih
theorem Olds.upd {H : Hp} {e q : Addr} {A : List Addr} {es : List Addr} {ss : List Seg} {ys : List V} {o : HO} (h : Olds K H e A es ss) (hq : H q = some (.lst ys)) (n : q ∉ A) : Olds K (L2.upd H q o) e A es ss := by
  induction h with
  | nil => exact .nil
  | cons m n' l _ ih => exact .cons m n' (l.upd flat_toks hq fun z => n (z ▸ m)) ih
theorem Olds.len {H : Hp} {e : Addr} {A : List Addr} {es : List Addr} {ss : List Seg} (h : Olds K H e A es ss) : es.length = ss.length := by
  induction h with
  | nil => rfl
  | cons _ _ _ _ ih => rw [List.length_cons, List.length_cons, ih]
theorem flat_tags {l : List Tag} : ∀ d ∈ l.map tagD, flatD d = true := fun d hd => by
  obtain ⟨z, _, rfl⟩ := List.mem_map.mp hd
  exact tag_flat z
structure DeskIs (C : Addr) (K : PySem.W.Frag) (H : Hp) (d e : Addr) (A : List Addr) (g : Ut02.St) (dx at' ao as : Addr) (es : List Addr) : Prop where
  hd : H d = some (.ins C dx (dF (.ref at') (.ref ao) (.ref as) (.ref e)))
  mt : at' ∈ A
  mo : ao ∈ A
  ms : as ∈ A
  me : e ∈ A
  nt : at' ≠ e
  no : ao ≠ e
  ns : as ≠ e
  ht : LT K H at' (g.tags.map tagD)
  ho : LT K H ao (g.source.map tokD)
  hs : LT K H as (g.target.map tokD)
  he : H e = some (.lst (es.reverse.map V.ref))
  ol : Olds K H e A es g.old
  hA : ∀ a ∈ A, H a ≠ none
def DeskAt (C : Addr) (K : PySem.W.Frag) (H : Hp) (d e : Addr) (A : List Addr) (g : Ut02.St) : Prop :=
  ∃ dx at' ao as es, DeskIs C K H d e A g dx at' ao as es
theorem DeskIs.same {C d e dx at' ao as : Addr} {A es : List Addr} {H H' : Hp} {g : Ut02.St} (D : DeskIs C K H d e A g dx at' ao as es) (s : Same H H') : DeskIs C K H' d e A g dx at' ao as es :=
  ⟨s _ _ D.hd, D.mt, D.mo, D.ms, D.me, D.nt, D.no, D.ns, D.ht.sameI (Tm.sameI s), D.ho.sameI (Tm.sameI s), D.hs.sameI (Tm.sameI s), s _ _ D.he, D.ol.same s, fun a ha z => D.hA a ha (s.free z)⟩
theorem DeskAt.same {C d e : Addr} {A : List Addr} {H H' : Hp} {g : Ut02.St} (h : DeskAt C K H d e A g) (s : Same H H') : DeskAt C K H' d e A g := by
  obtain ⟨dx, t, o, u, es, D⟩ := h
  exact ⟨dx, t, o, u, es, D.same s⟩
theorem upd_some {H : Hp} {p a : Addr} {o : HO} (h : H a ≠ none) : upd H p o a ≠ none := by
  by_cases z : a = p
  · rw [z, upd_same]
    exact fun y => nomatch y
  · rw [upd_ne z]
    exact h
theorem LT.some {H : Hp} {a : Addr} {ds : List PyData} (h : LT K H a ds) : H a ≠ none := by
  obtain ⟨xs, hx, _⟩ := h
  rw [hx]
  exact fun y => nomatch y
/-- desk.earlier.append(desk.things); desk.things = the list at p -/
theorem DeskIs.changed {C d e dx at' ao as p : Addr} {A es : List Addr} {H : Hp} {g : Ut02.St} {s : List Tk} (D : DeskIs C K H d e A g dx at' ao as es) (hp : LT K H p (s.map tokD)) (np : p ≠ e) :
    DeskIs C K (upd (upd H e (.lst (es.reverse.map V.ref ++ [.ref as]))) d (.ins C dx (dF (.ref at') (.ref ao) (.ref p) (.ref e)))) d e (p :: A) { g with target := s, old := g.target :: g.old } dx at' ao p (as :: es) := by
  have ch : Changed d e H (upd (upd H e (.lst (es.reverse.map V.ref ++ [.ref as]))) d (.ins C dx (dF (.ref at') (.ref ao) (.ref p) (.ref e)))) := Changed.updE.trans Changed.updD
  have nde : e ≠ d := ne_of D.he D.hd fun z => nomatch z
  refine ⟨upd_same, List.mem_cons_of_mem _ D.mt, List.mem_cons_of_mem _ D.mo, List.mem_cons_self .., List.mem_cons_of_mem _ D.me, D.nt, D.no, np, ch.lt D.hd D.he D.ht flat_tags D.nt, ch.lt D.hd D.he D.ho flat_toks D.no, ch.lt D.hd D.he hp flat_toks np, ?_, ?_, fun a ha => ?_⟩
  · rw [upd_ne nde, upd_same, List.reverse_cons, List.map_append]
    rfl
  · exact .cons (List.mem_cons_of_mem _ D.ms) D.ns (ch.lt D.hd D.he D.hs flat_toks D.ns) (D.ol.chg ch D.hd D.he fun a ha => List.mem_cons_of_mem _ ha)
  · refine upd_some (upd_some ?_)
    rcases List.mem_cons.mp ha with rfl | ha
    · exact hp.some
    · exact D.hA a ha
/-- what a call of the desk answers -/
def RetAns (C : Addr) (K : PySem.W.Frag) (H : Hp) (d e : Addr) (A : List Addr) (Q : VK) (r : Ut02.St × List Int) : Prop :=
  ∀ (H' : Hp) (p e' : Addr) (A' : List Addr), Changed d e H H' → (∀ a ∈ A', a ∈ A ∨ H a = none) → DeskAt C K H' d e' A' r.1 → H p = none → H' p = some (.lst (r.2.map V.int)) → Q (.ref p) H'
structure Cl (K : PySem.W.Frag) (mg : Str → Option Value) (C : Addr) : Prop where
  cl : Cls K C
  n_tags : NoAttr K C "tags"
  n_source : NoAttr K C "source_things"
  n_things : NoAttr K C "things"
  n_earlier : NoAttr K C "earlier"
  m_Desk : mg "Desk" = some (.ref C)
/-- a refusal: [c] -/
theorem rd_ref {C d e : Addr} {A : List Addr} {H : Hp} {Q : VK} {g : Ut02.St} {c : Int} {σ : L2.St} (D : DeskAt C K H d e A g) (k : RetAns C K H d e A Q (g, [c])) : tLst (tCons (tC (.int c)) tNil) σ H Q :=
  ⟨szle (by show 1 ≤ 100000; decide), fun p hp => k _ p e A (Changed.of (same_new hp)) (fun _ h => .inl h) (D.same (same_new hp)) hp upd_same⟩
theorem RetAns.mono {C d e : Addr} {A : List Addr} {H H1 : Hp} {Q : VK} {r : Ut02.St × List Int} (k : RetAns C K H d e A Q r) (s : Same H H1) : RetAns C K H1 d e A Q r := fun H' p e' A' c h D hp hy =>
  k H' p e' A' ((Changed.of s).trans c) (fun a ha => (h a ha).imp id fun z => s.free z) D (s.free hp) hy
/-- an answer that leaves the desk as it is -/
theorem RetAns.keep {C d e : Addr} {A : List Addr} {H : Hp} {Q : VK} {g : Ut02.St} {ns : List Int} (D : DeskAt C K H d e A g) (k : RetAns C K H d e A Q (g, ns)) : RetL K H Q (ns.map PyData.int) := fun H' p ys s hp hy ha => by
  have z := dpAll_ints ha
  subst z
  exact k H' p e A (Changed.of s) (fun _ h => .inl h) (D.same s) hp hy
/-- what holds of the house, and how many translations it keeps -/
def Fine (g : Ut02.St) : Prop := Good g ∧ g.old.length ≤ 1000
end
section
variable {P : Program} {w : World} {K : PySem.W.Frag} {mg : Str → Option Value} {base : Heap} {f : Addr} {fd : FuncData} {C : Addr}
/-! ### standing -/
def spStanding (C : Addr) (K : PySem.W.Frag) : Sp := fun vs H Q _ => ∃ (d e : Addr) (A : List Addr) (g : Ut02.St), vs = [.ref d] ∧ DeskAt C K H d e A g ∧ g.tags.length ≤ 60 ∧ g.target.length ≤ 1000 ∧
  ∀ (H' : Hp) (p : Addr), Same H H' → H p = none → H' p = some (.lst ((Ut02.told g).map V.int)) → Q (.ref p) H'
theorem ok_standing (F : Fun K "standing" "standing" s_standing f fd) (T : Txt K mg) (L : Cl K mg C) (c_faults_of : Cal P w K mg base 4 "faults_of" ["tags", "things"] (spFaults K)) : FnOk P w K mg base CX0 5 f fd ["desk"] (spStanding C K) := by
  refine F.ok sc_standing (fun vs H Q E h => ?_) (fun cdv A outer st H vs Q E hr h => ?_)
  · obtain ⟨d, e, A, g, rfl, _⟩ := h
    rfl
  · obtain ⟨d, e, A, g, rfl, ⟨dx, at', ao, as, es, D⟩, hl, hsl, k⟩ := h
    refine ⟨_, (pss_one (ps_ret (pe_lst (pa_cons (pe_callB call_len_seq (by rfl) T.m_len PySem.boot_len (pa_cons (pe_fld (pv 0) rfl) pa_nil)) (pa_cons (pe_callB call_len_seq (by rfl) T.m_len PySem.boot_len (pa_cons (pe_u c_faults_of (hr.mono (by decide)) (pa_cons (pe_fld (pv 0) rfl) (pa_cons (pe_fld (pv 0) rfl) pa_nil))) pa_nil)) pa_nil))))), ?_⟩
    obtain ⟨xs, hx, hxa⟩ := id D.hs
    have hxl : xs.length = g.target.length := by rw [dpAll_len hxa, List.length_map]
    refine ⟨_, rfl, d, C, dx, _, _, rfl, D.hd, L.cl, L.n_things, dF_things _ _ _ _, as, _, rfl, .inl (SqL.of hx), ?_⟩
    refine ⟨_, rfl, d, C, dx, _, _, rfl, D.hd, L.cl, L.n_tags, dF_tags _ _ _ _, _, rfl, d, C, dx, _, _, rfl, D.hd, L.cl, L.n_things, dF_things _ _ _ _, _, _, g.tags, g.target, rfl, D.ht.dp, D.hs.dp, hl, hsl, fun H1 q zs s1 hq hz hza => ?_⟩
    have hzl := dpAll_len hza
    rw [List.length_map, faults_eq] at hzl
    refine ⟨q, _, rfl, .inl (SqL.of hz), szle (by show 2 ≤ 100000; decide), fun p hp => ?_⟩
    refine k _ p (s1.trans (same_new hp)) (s1.free hp) ?_
    rw [upd_same, hxl, hzl]
    rfl
/-! ### change -/
def nextG (g : Ut02.St) (s : List Tk) : Ut02.St := { g with target := s, old := g.target :: g.old }
def spChange (C : Addr) (K : PySem.W.Frag) : Sp := fun vs H Q _ => ∃ (d e p : Addr) (A : List Addr) (g : Ut02.St) (s : List Tk), vs = [.ref d, .ref p] ∧ DeskAt C K H d e A g ∧ g.tags.length ≤ 60 ∧ g.old.length ≤ 1000 ∧ LT K H p (s.map tokD) ∧ s.length ≤ 1000 ∧ p ≠ e ∧
  ∀ (H' : Hp) (q : Addr), Changed d e H H' → DeskAt C K H' d e (p :: A) (nextG g s) → H q = none → H' q = some (.lst ((Ut02.told (nextG g s)).map V.int)) → Q (.ref q) H'
theorem ok_change (F : Fun K "change" "change" s_change f fd) (T : Txt K mg) (L : Cl K mg C) (c_standing : Cal P w K mg base 5 "standing" ["desk"] (spStanding C K)) : FnOk P w K mg base CX0 6 f fd ["desk", "things"] (spChange C K) := by
  refine F.ok sc_change (fun vs H Q E h => ?_) (fun cdv A outer st H vs Q E hr h => ?_)
  · obtain ⟨d, e, p, A, g, s, rfl, _⟩ := h
    rfl
  · obtain ⟨d, e, p, A, g, s, rfl, ⟨dx, at', ao, as, es, D⟩, hl, hol, hp, hsl, np, k⟩ := h
    refine ⟨_, (pss_cons (ps_expr (pe_bm PySem.F.plainAttrs_list PySem.F.slot_list_append PySem.F.type_list_append mt_append (pe_fld (pv 0) rfl) (pa_cons (pe_fld (pv 0) rfl) pa_nil)))
      (pss_cons (ps_fld (pv 0) (pv 1) rfl)
      (pss_one (ps_ret (pe_u c_standing (hr.mono (by decide)) (pa_cons (pv 0) pa_nil)))))), ?_⟩
    have nde : d ≠ e := ne_of D.hd D.he fun z => nomatch z
    have hel := D.ol.len
    refine ⟨_, rfl, d, C, dx, _, _, rfl, D.hd, L.cl, L.n_earlier, dF_earlier _ _ _ _, .inl ⟨rfl, _, SqL.of D.he⟩, _, rfl, d, C, dx, _, _, rfl, D.hd, L.cl, L.n_things, dF_things _ _ _ _, e, _, _, rfl, rfl, D.he, szl (by rw [List.length_map, List.length_reverse]; omega), ?_⟩
    refine ⟨_, rfl, _, rfl, d, C, dx, _, rfl, (by rw [upd_ne nde]; exact D.hd), L.cl, L.n_things, (by show 4 < 1000; decide), ?_⟩
    rw [dF_putThings]
    have ch : Changed d e H (upd (upd H e (.lst (es.reverse.map V.ref ++ [.ref as]))) d (.ins C dx (dF (.ref at') (.ref ao) (.ref p) (.ref e)))) := Changed.updE.trans Changed.updD
    have D2 := D.changed hp np
    refine ⟨_, rfl, d, e, p :: A, nextG g s, rfl, ⟨_, _, _, _, _, D2⟩, hl, hsl, fun H3 q s3 hq hz => ?_⟩
    exact k H3 q (ch.trans (Changed.of s3)) (DeskAt.same ⟨_, _, _, _, _, D2⟩ s3) (ch.free (by rw [D2.hd]; exact fun z => nomatch z) (by rw [D2.he]; exact fun z => nomatch z) hq) hz
/-- return change(desk, things), where it is right -/
theorem ret_change {d e p : Addr} {A : List Addr} {g : Ut02.St} {H H1 : Hp} {s : List Tk} {Q : VK} {vs : List V} (D : DeskAt C K H d e A g) (G : Fine g) (s1 : Same H H1) (hp : H p = none) (hy : LT K H1 p (s.map tokD)) (hok : Ut02.segOk s = true) (k : RetAns C K H d e A Q (Ut02.becomes g s)) (hvs : vs = [.ref d, .ref p]) :
    ∃ (d e p : Addr) (A : List Addr) (g : Ut02.St) (s : List Tk), vs = [.ref d, .ref p] ∧ DeskAt C K H1 d e A g ∧ g.tags.length ≤ 60 ∧ g.old.length ≤ 1000 ∧ LT K H1 p (s.map tokD) ∧ s.length ≤ 1000 ∧ p ≠ e ∧
      ∀ (H' : Hp) (q : Addr), Changed d e H1 H' → DeskAt C K H' d e (p :: A) (nextG g s) → H1 q = none → H' q = some (.lst ((Ut02.told (nextG g s)).map V.int)) → Q (.ref q) H' := by
  obtain ⟨q1, q2, q3⟩ := (segOk_iff _).mp hok
  have eb : Ut02.becomes g s = (nextG g s, Ut02.told (nextG g s)) := by
    unfold Ut02.becomes
    rw [hok, if_neg (fun z => Bool.noConfusion z)]
    rfl
  rw [eb] at k
  have npe : p ≠ e := fun z => by
    obtain ⟨_, _, _, _, _, D⟩ := D
    exact D.hA e D.me (z ▸ hp)
  refine ⟨d, e, p, A, g, s, hvs, D.same s1, Nat.le_trans G.1.few (by decide), G.2, hy, by omega, npe, fun H' q c D' hq hz => ?_⟩
  refine k H' q e (p :: A) ((Changed.of s1).trans c) (fun a ha => ?_) D' (s1.free hq) hz
  rcases List.mem_cons.mp ha with rfl | ha
  · exact .inr hp
  · exact .inl ha
/-! ### put_answer -/
/-- if is_too_much(things): return [TOO_MUCH]; return change(desk, things) -/
theorem becomes_tail {d e : Addr} {A : List Addr} {g : Ut02.St} {H H1 : Hp} {p : Addr} {s' : List Tk} {Q : VK} {σ : L2.St} {i : Nat}
    (D : DeskAt C K H d e A g) (G : Fine g) (s1 : Same H H1) (hp : H p = none) (hy : LT K H1 p (s'.map tokD)) (hok : s'.all Ut02.tokOk = true) (hsl : s'.length ≤ 1000) (k : RetAns C K H d e A Q (Ut02.becomes g s'))
    (h0 : σ[0]? = some (some (.ref d))) (h4 : σ[i]? = some (some (.ref p))) :
    tSeq (tIfS (tB (tCall (spTooMuch K) [] E0 (tCons (tVar i) tNil))) (tRet (tLst (tCons (tC (.int (-5))) tNil))) tNext)
      (tRet (tCall (spChange C K) [] E0 (tCons (tVar 0) (tCons (tVar i) tNil)))) { nx := fun _ H' => Q .non H', rt := Q } σ H1 := by
  refine ⟨_, h4, _, s', rfl, hy.dp, hsl, fun H2 s2 => ⟨_, rfl, ?_⟩⟩
  have s12 := s1.trans s2
  refine ifB (fun h => ?_) (fun h => ?_)
  · have eb : Ut02.becomes g s' = (g, [-5]) := by
      unfold Ut02.becomes
      rw [segOk_tooMuch hok, h]
      rfl
    rw [eb] at k
    exact rd_ref (σ := []) (D.same s12) (k.mono s12)
  · have hseg : Ut02.segOk s' = true := by
      rw [segOk_tooMuch hok, h]
      rfl
    exact ⟨_, h0, _, h4, ret_change D G s12 hp (hy.sameI (sameI s2)) hseg k rfl⟩
def spPut (C : Addr) (K : PySem.W.Frag) : Sp := fun vs H Q _ => ∃ (d e : Addr) (A : List Addr) (g : Ut02.St) (n : Nat) (t : Tk), vs = [.ref d, .int n, .int (kindN t), .int (numN t)] ∧ DeskAt C K H d e A g ∧ Fine g ∧ Ut02.isTag t = true ∧
  RetAns C K H d e A Q (Ut02.step g (.put n t))
theorem ok_put_answer (F : Fun K "put_answer" "put_answer" s_put_answer f fd) (T : Txt K mg) (L : Cl K mg C) (c_is_too_much : Cal P w K mg base 1 "is_too_much" ["things"] (spTooMuch K)) (c_change : Cal P w K mg base 6 "change" ["desk", "things"] (spChange C K)) :
    FnOk P w K mg base CX0 7 f fd ["desk", "spot", "kind", "number"] (spPut C K) := by
  refine F.ok sc_put_answer (fun vs H Q E h => ?_) (fun cdv A outer st H vs Q E hr h => ?_)
  · obtain ⟨d, e, A, g, n, t, rfl, _⟩ := h
    rfl
  · obtain ⟨d, e, A, g, n, t, rfl, D, G, htag, k⟩ := h
    refine ⟨_, (pss_cons (ps_if (PW.pt (pw_or (pt_cmpR op_gt (pv 1) (pe_callB call_len_seq (by rfl) T.m_len PySem.boot_len (pa_cons (pe_fld (pv 0) rfl) pa_nil)) (nomark _)) (pw_or1 (pt_cmpR op_gt (pv 3) (pe_gi T.m_GREATEST_TAG) (nomark _))))) (pss_one (ps_ret (pe_lst (pa_cons (pe_gi T.m_OUT_OF_RANGE) pa_nil)))) pss_nil)
      (pss_cons (ps_set (i := 4) sc_put_answer.nd rfl (Or.inl rfl) (pe_op (k_cat K) (pe_op (k_cat K) (pe_slice (k_slL K) (pe_fld (pv 0) rfl) po_none (po_some (pv 1))) (pe_lst (pa_cons (pe_tup (pa_cons (pv 2) (pa_cons (pv 3) pa_nil))) pa_nil))) (pe_slice (k_slL K) (pe_fld (pv 0) rfl) (po_some (pv 1)) po_none)))
      (pss_cons (ps_if (pt_val (pe_u c_is_too_much (hr.mono (by decide)) (pa_cons (pv 4) pa_nil))) (pss_one (ps_ret (pe_lst (pa_cons (pe_gi T.m_TOO_MUCH) pa_nil)))) pss_nil)
      (pss_one (ps_ret (pe_u c_change (hr.mono (by decide)) (pa_cons (pv 0) (pa_cons (pv 4) pa_nil)))))))), ?_⟩
    obtain ⟨dx, at', ao, as, es, D0⟩ := id D
    have hd := D0.hd
    have hs := D0.hs
    obtain ⟨xs, hx, hxa⟩ := id hs
    have hxl : xs.length = g.target.length := by rw [dpAll_len hxa, List.length_map]
    obtain ⟨g1, g2, g3⟩ := (segOk_iff _).mp G.1.tgt
    have htok : Ut02.tokOk t = decide (numN t ≤ 99) := by
      cases t <;> first | rfl | cases htag
    have ref1 : (g.target.length < n ∨ Ut02.tokOk t = false) → RetAns C K H d e A Q (g, [-1]) := by
      intro h
      have e : Ut02.step g (.put n t) = (g, [-1]) := by
        show (if g.target.length < n ∨ Ut02.tokOk t = false ∨ Ut02.isTag t = false then (g, [-1]) else _) = _
        rw [if_pos (h.imp id .inl)]
      rw [e] at k
      exact k
    refine if_or ?_
    refine ⟨_, rfl, _, rfl, d, C, dx, _, _, rfl, hd, L.cl, L.n_things, dF_things _ _ _ _, as, _, rfl, .inl (SqL.of hx), _, _, rfl, rfl, _, rfl, ?_⟩
    rw [hxl, nat_lt]
    refine ite2 (fun h => ?_) (fun h => ?_)
    · exact rd_ref (σ := []) D (ref1 (.inl (of_decide_eq_true h)))
    have h1 : ¬ g.target.length < n := fun z => h (decide_eq_true z)
    refine ⟨_, rfl, _, _, rfl, rfl, _, rfl, ?_⟩
    refine ite2 (fun h2 => ?_) (fun h2 => ?_)
    · exact rd_ref (σ := []) D (ref1 (.inr (by rw [htok]; exact decide_eq_false (by have := of_decide_eq_true h2; omega))))
    have h2' : Ut02.tokOk t = true := by
      rw [htok]
      exact decide_eq_true (Nat.le_of_not_lt fun z => h2 (decide_eq_true (by omega)))
    have e1 : Ut02.step g (.put n t) = Ut02.becomes g (g.target.take n ++ (t :: g.target.drop n)) := by
      show (if g.target.length < n ∨ Ut02.tokOk t = false ∨ Ut02.isTag t = false then _ else _) = _
      rw [if_neg]
      rintro (z | z | z)
      · exact h1 z
      · rw [h2'] at z
        cases z
      · rw [htag] at z
        cases z
    rw [e1] at k
    -- things = desk.things[:spot] + [(kind, number)] + desk.things[spot:]
    have pf : Pur (tFld K (tVar 0) "things") [some (.ref d), some (.int n), some (.int (kindN t)), some (.int (numN t)), none] H (.ref as) := pur_fld (pur_var rfl) hd L.cl L.n_things (dF_things _ _ _ _)
    refine ev_cat (ev_cat (ev_take pf hs.dp (pur_var rfl)) (ev_one (evd_two (pur_var rfl) (pur_var rfl))) ?_) (ev_drop pf hs.dp (pur_var rfl)) ?_ H (Same.refl _) _ fun H1 p ys s1 hp hy hya => ?_
    · rw [List.length_take, List.length_map]
      simp
      omega
    · rw [List.length_append, List.length_take, List.length_drop, List.length_map]
      simp
      omega
    have es : (((g.target.map tokD).take n ++ [PyData.tuple [.int (kindN t), .int (numN t)]]) ++ (g.target.map tokD).drop n) = (g.target.take n ++ (t :: g.target.drop n)).map tokD := by
      rw [List.map_append, List.map_cons, List.map_take, List.map_drop, List.append_assoc]
      rfl
    rw [es] at hya
    have hok : (g.target.take n ++ (t :: g.target.drop n)).all Ut02.tokOk = true := by
      rw [List.all_eq_true] at g3 ⊢
      intro x hx
      rcases List.mem_append.mp hx with q | q
      · exact g3 x (List.mem_of_mem_take q)
      · rcases List.mem_cons.mp q with rfl | q
        · exact h2'
        · exact g3 x (List.mem_of_mem_drop q)
    have hsl : (g.target.take n ++ (t :: g.target.drop n)).length ≤ 17 := by
      rw [List.length_append, List.length_cons, List.length_take, List.length_drop]
      omega
    generalize g.target.take n ++ (t :: g.target.drop n) = s' at hya hok hsl k
    exact becomes_tail D G s1 hp ⟨ys, hy, hya⟩ hok (by omega) k rfl rfl
end
end Tm
set_option Elab.async false
set_option maxRecDepth 100000
set_option maxHeartbeats 2000000
namespace Tm
open Ut02 (Tag Seg Fault)
/-! ### the house stays good -/
theorem good_becomes {g : Ut02.St} (G : Good g) (s : List Tk) : Good (Ut02.becomes g s).1 := by
  unfold Ut02.becomes
  by_cases h : Ut02.segOk s = false
  · rw [if_pos h]
    exact G
  · rw [if_neg h]
    refine ⟨G.few, G.small, G.right, G.src, by simpa using h, fun u hu => ?_⟩
    rcases List.mem_cons.mp hu with rfl | hu
    · exact G.tgt
    · exact G.old u hu
theorem good_step {g : Ut02.St} (G : Good g) (x : Ut02.Call) : Good (Ut02.step g x).1 := by
  cases x with
  | source l s =>
    show Good (if Ut02.segOk s = false ∨ 6 < l.length ∨ (l.any fun t => decide (99 < t.i)) = true ∨ (l.map fun t => t.i).eraseDups.length ≠ l.length then (g, [-1]) else if Ut02.isRight (l.map fun t => { t with must := true }) s = false then (g, [-3]) else _).1
    by_cases h : Ut02.segOk s = false ∨ 6 < l.length ∨ (l.any fun t => decide (99 < t.i)) = true ∨ (l.map fun t => t.i).eraseDups.length ≠ l.length
    · rw [if_pos h]
      exact G
    · rw [if_neg h]
      by_cases h2 : Ut02.isRight (l.map fun t => { t with must := true }) s = false
      · rw [if_pos h2]
        exact G
      · rw [if_neg h2]
        have h3 : Ut02.segOk s = true := by
          cases q : Ut02.segOk s with
          | true => rfl
          | false => exact absurd (.inl q) h
        have h4 : ¬ 6 < l.length := fun z => h (.inr (.inl z))
        refine ⟨by show l.length ≤ 6; omega, fun t ht => ?_, (by unfold allMust; simpa using h2), h3, rfl, (fun _ hu => nomatch hu)⟩
        by_cases q : t.i ≤ 99
        · exact q
        · exact absurd (.inr (.inr (.inl (List.any_eq_true.mpr ⟨t, ht, decide_eq_true (by omega)⟩)))) h
  | target s =>
    show Good (if Ut02.segOk s = false then (g, [-1]) else Ut02.becomes g s).1
    by_cases h : Ut02.segOk s = false
    · rw [if_pos h]
      exact G
    · rw [if_neg h]
      exact good_becomes G s
  | faults => exact G
  | mend =>
    show Good (if Ut02.segOk (Ut02.mended g.tags g.target).2 = false then (g, [-5]) else _).1
    by_cases h : Ut02.segOk (Ut02.mended g.tags g.target).2 = false
    · rw [if_pos h]
      exact G
    · rw [if_neg h]
      refine ⟨G.few, G.small, G.right, G.src, by simpa using h, fun u hu => ?_⟩
      rcases List.mem_cons.mp hu with rfl | hu
      · exact G.tgt
      · exact G.old u hu
  | would => exact G
  | put p t =>
    show Good (if g.target.length < p ∨ Ut02.tokOk t = false ∨ Ut02.isTag t = false then (g, [-1]) else Ut02.becomes g _).1
    split
    · exact G
    · exact good_becomes G _
  | take p =>
    show Good (match g.target[p]? with
      | none => (g, [-1])
      | some t => if Ut02.isTag t = false then (g, [-6]) else Ut02.becomes g _).1
    split
    · exact G
    · split
      · exact G
      · exact good_becomes G _
  | type_ p n w =>
    show Good (if g.target.length < p + n ∨ (w.all fun x => decide (x ≤ 999)) = false then (g, [-1]) else Ut02.becomes g _).1
    split
    · exact G
    · exact good_becomes G _
  | within_ i => exact G
  | shows => exact G
  | undo =>
    show Good (match g.old with
      | [] => (g, [-7])
      | s :: l => _).1
    cases h : g.old with
    | nil => exact G
    | cons s l =>
      exact ⟨G.few, G.small, G.right, G.src, G.old s (by rw [h]; simp), fun u hu => G.old u (by rw [h]; exact List.mem_cons_of_mem _ hu)⟩
  | move p q =>
    show Good (match g.target[p]? with
      | none => (g, [-1])
      | some t => if Ut02.isTag t = false then (g, [-6]) else _).1
    split
    · exact G
    · split
      · exact G
      · dsimp only
        split
        · exact G
        · exact good_becomes G _
theorem old_becomes (g : Ut02.St) (s : List Tk) : (Ut02.becomes g s).1.old.length ≤ g.old.length + 1 := by
  unfold Ut02.becomes
  split
  · exact Nat.le_succ _
  · exact Nat.le_refl _
theorem old_step (g : Ut02.St) (x : Ut02.Call) : (Ut02.step g x).1.old.length ≤ g.old.length + 1 := by
  cases x with
  | source l s =>
    show (if _ then (g, [-1]) else if _ then (g, [-3]) else _ : Ut02.St × List Int).1.old.length ≤ _
    split
    · exact Nat.le_succ _
    · split
      · exact Nat.le_succ _
      · exact Nat.zero_le _
  | target s =>
    show (if _ then (g, [-1]) else Ut02.becomes g s).1.old.length ≤ _
    split
    · exact Nat.le_succ _
    · exact old_becomes g s
  | faults => exact Nat.le_succ _
  | mend =>
    show (if _ then (g, [-5]) else _ : Ut02.St × List Int).1.old.length ≤ _
    split
    · exact Nat.le_succ _
    · exact Nat.le_refl _
  | would => exact Nat.le_succ _
  | put p t =>
    show (if _ then (g, [-1]) else Ut02.becomes g _).1.old.length ≤ _
    split
    · exact Nat.le_succ _
    · exact old_becomes g _
  | take p =>
    show (match g.target[p]? with
      | none => (g, [-1])
      | some t => if Ut02.isTag t = false then (g, [-6]) else Ut02.becomes g _).1.old.length ≤ _
    split
    · exact Nat.le_succ _
    · split
      · exact Nat.le_succ _
      · exact old_becomes g _
  | type_ p n w =>
    show (if _ then (g, [-1]) else Ut02.becomes g _).1.old.length ≤ _
    split
    · exact Nat.le_succ _
    · exact old_becomes g _
  | within_ i => exact Nat.le_succ _
  | shows => exact Nat.le_succ _
  | undo =>
    show (match g.old with
      | [] => (g, [-7])
      | s :: l => _).1.old.length ≤ _
    cases h : g.old with
    | nil =>
      show g.old.length ≤ _
      rw [h]
      exact Nat.le_succ _
    | cons s l =>
      show l.length ≤ _
      rw [List.length_cons]
      omega
  | move p q =>
    show (match g.target[p]? with
      | none => (g, [-1])
      | some t => if Ut02.isTag t = false then (g, [-6]) else _).1.old.length ≤ _
    split
    · exact Nat.le_succ _
    · split
      · exact Nat.le_succ _
      · dsimp only
        split
        · exact Nat.le_succ _
        · exact old_becomes g _
/-! ### what is asked of a line -/
structure Asked (l : List Int) (raws : List (List (List Int))) : Prop where
  parsed : PyFlat.calls PyUt02.shape l.length l = some raws
  inside : ∀ c ∈ raws, PyInside.call PyUt02.bound c = true
  each : ∀ c ∈ raws, Ut02Neutral.asked1 (flatC c) = true
  short : (PyUt02.answers l).length ≤ 10000000
  few : raws.length ≤ 40
theorem asked_of {l : List Int} (h : PyUt02.answers_asked l = true) : ∃ raws, Asked l raws := by
  unfold PyUt02.answers_asked at h
  cases hp : PyFlat.calls PyUt02.shape l.length l with
  | none =>
    rw [hp] at h
    cases h
  | some raws =>
    rw [hp] at h
    simp only [Bool.and_eq_true] at h
    obtain ⟨⟨⟨⟨_, h2⟩, h3⟩, h4⟩, h5⟩ := h
    refine ⟨raws, hp, fun c hc => ?_, fun c hc => ?_, ?_, of_decide_eq_true h2⟩
    · unfold PyInside.calls at h3
      exact List.all_eq_true.mp h3 c hc
    · unfold Ut02Neutral.asked at h4
      rw [Bool.and_eq_true] at h4
      have := List.all_eq_true.mp h4.1 (flatC c)
      apply this
      rw [List.mem_map]
      exact ⟨PyUt02.whole c, List.mem_map.mpr ⟨c, hc, rfl⟩, rfl⟩
    · unfold PyFlat.short at h5
      exact of_decide_eq_true h5
/-! ### a call as it stands in the list, and the call that it is -/
def toldRow (l : List Tag) (s : List Tk) : List Int := (l.length : Int) :: (tagRow l ++ rowI s)
inductive CallIs : List Int → Ut02.Call → Prop
  | source (l : List Tag) (s : List Tk) : CallIs (0 :: ((toldRow l s).length : Int) :: toldRow l s) (.source l s)
  | target (s : List Tk) : CallIs (1 :: ((rowI s).length : Int) :: rowI s) (.target s)
  | faults : CallIs [2] .faults
  | mend : CallIs [3] .mend
  | would : CallIs [4] .would
  | put (n : Nat) (t : Tk) (h : Ut02.isTag t = true) : CallIs [5, (n : Int), (kindN t : Int), (numN t : Int)] (.put n t)
  | take (n : Nat) : CallIs [6, (n : Int)] (.take n)
  | typ (n m : Nat) (ws : List Nat) : CallIs (7 :: (n : Int) :: (m : Int) :: ((Ut02.ints ws).length : Int) :: Ut02.ints ws) (.type_ n m ws)
  | inside (n : Nat) : CallIs [8, (n : Int)] (.within_ n)
  | shows : CallIs [9] .shows
  | undo : CallIs [10] .undo
  | move (n m : Nat) : CallIs [11, (n : Int), (m : Int)] (.move n m)
theorem nat_of {z : Int} (h : Ut02Neutral.nat z = true) : ∃ n : Nat, z = (n : Int) := by
  unfold Ut02Neutral.nat at h
  rw [Bool.and_eq_true] at h
  have := of_decide_eq_true h.1
  exact ⟨z.toNat, by omega⟩
theorem ints_of {l : List Int} (h : l.all Ut02Neutral.nat = true) : ∃ ns : List Nat, l = Ut02.ints ns := ⟨l.map Int.toNat, (nats_back h).symm⟩
theorem ints_back (ns : List Nat) : (Ut02.ints ns).map Int.toNat = ns := by
  unfold Ut02.ints
  rw [List.map_map]
  exact List.map_id' ns
theorem tokIn_tok {k n : Nat} {t : Tk} (h : Ut02Neutral.tokIn k n = some t) : k = kindN t ∧ n = numN t := by
  unfold Ut02Neutral.tokIn at h
  repeat' split at h
  all_goals first
    | (cases h; exact ⟨by assumption, rfl⟩)
    | cases h
theorem callOf_ints {ns : List Nat} {x : Ut02.Call} (h : Ut02Neutral.callOf (Ut02.ints ns) = some x) : Ut02Neutral.callIn ns = some x := by
  unfold Ut02Neutral.callOf at h
  split at h
  · cases h
  · rw [ints_back] at h
    exact h
theorem callOf_nats {l : List Int} {x : Ut02.Call} (h : Ut02Neutral.callOf l = some x) : ∃ ns, l = Ut02.ints ns ∧ Ut02Neutral.callIn ns = some x := by
  have ha : l.all Ut02Neutral.nat = true := by
    unfold Ut02Neutral.callOf at h
    split at h
    · cases h
    · rename_i z
      simpa using z
  obtain ⟨ns, rfl⟩ := ints_of ha
  exact ⟨ns, rfl, callOf_ints h⟩
theorem ints_cons {z : Int} {l : List Int} {ns : List Nat} (h : z :: l = Ut02.ints ns) : ∃ n r, ns = n :: r ∧ z = (n : Int) ∧ l = Ut02.ints r := by
  cases ns with
  | nil => cases h
  | cons n r => exact ⟨n, r, rfl, (List.cons.inj h).1, (List.cons.inj h).2⟩
theorem call_is {l cl fl rest : List Int} {x : Ut02.Call} (hh : HeadIs l cl fl rest) (h : Ut02Neutral.callOf fl = some x) : CallIs cl x := by
  obtain ⟨ns, e, hx⟩ := callOf_nats h
  cases hh with
  | plain p nums rest hs =>
    obtain ⟨pn, r, rfl, ep, er⟩ := ints_cons e
    rcases shape_cases hs with ⟨rfl, h3, h4⟩ | ⟨rfl, h3, h4⟩ | ⟨rfl, h3, h4⟩ | ⟨rfl, h3, h4⟩ | ⟨rfl, h3, h4⟩ | ⟨rfl, h3, h4⟩ | ⟨rfl, h3, h4⟩ | ⟨rfl, h3, h4⟩ | ⟨rfl, h3, h4⟩ | ⟨rfl, h3, h4⟩ | ⟨rfl, h3, h4⟩ | ⟨rfl, h3, h4⟩
    · exact absurd h4 (by decide)
    · exact absurd h4 (by decide)
    · have : pn = 2 := by omega
      subst this
      cases len0 h3
      cases r with
      | nil =>
        cases hx
        exact .faults
      | cons a b => cases er
    · have : pn = 3 := by omega
      subst this
      cases len0 h3
      cases r with
      | nil =>
        cases hx
        exact .mend
      | cons a b => cases er
    · have : pn = 4 := by omega
      subst this
      cases len0 h3
      cases r with
      | nil =>
        cases hx
        exact .would
      | cons a b => cases er
    · have : pn = 5 := by omega
      subst this
      obtain ⟨a, b, c, rfl⟩ := len3 h3
      obtain ⟨a', r1, rfl, rfl, er1⟩ := ints_cons er
      obtain ⟨b', r2, rfl, rfl, er2⟩ := ints_cons er1
      obtain ⟨c', r3, rfl, rfl, er3⟩ := ints_cons er2
      cases r3 with
      | cons a b => cases er3
      | nil =>
        have hx : ((Ut02Neutral.tokIn b' c').bind fun t => if b' = 0 then none else some (.put a' t)) = some x := hx
        cases ht : Ut02Neutral.tokIn b' c' with
        | none =>
          rw [ht] at hx
          cases hx
        | some t =>
          rw [ht] at hx
          obtain ⟨e1, e2⟩ := tokIn_tok ht
          have hx : (if b' = 0 then none else some (Ut02.Call.put a' t)) = some x := hx
          by_cases hb : b' = 0
          · rw [if_pos hb] at hx
            cases hx
          · rw [if_neg hb] at hx
            cases hx
            rw [e1, e2]
            refine .put a' t ?_
            rw [isTag_kind]
            exact decide_eq_true (by omega)
    · have : pn = 6 := by omega
      subst this
      obtain ⟨a, rfl⟩ := len1 h3
      obtain ⟨a', r, rfl, rfl, er⟩ := ints_cons er
      cases r with
      | cons a b => cases er
      | nil =>
        cases hx
        exact .take a'
    · exact absurd h4 (by decide)
    · have : pn = 8 := by omega
      subst this
      obtain ⟨a, rfl⟩ := len1 h3
      obtain ⟨a', r, rfl, rfl, er⟩ := ints_cons er
      cases r with
      | cons a b => cases er
      | nil =>
        cases hx
        exact .inside a'
    · have : pn = 9 := by omega
      subst this
      cases len0 h3
      cases r with
      | nil =>
        cases hx
        exact .shows
      | cons a b => cases er
    · have : pn = 10 := by omega
      subst this
      cases len0 h3
      cases r with
      | nil =>
        cases hx
        exact .undo
      | cons a b => cases er
    · have : pn = 11 := by omega
      subst this
      obtain ⟨a, b, rfl⟩ := len2 h3
      obtain ⟨a', r1, rfl, rfl, er1⟩ := ints_cons er
      obtain ⟨b', r2, rfl, rfl, er2⟩ := ints_cons er1
      cases r2 with
      | cons a b => cases er2
      | nil =>
        cases hx
        exact .move a' b'
  | rowed p nums row rest hs =>
    obtain ⟨pn, r, rfl, ep, er⟩ := ints_cons (show p :: (nums ++ row) = Ut02.ints ns from e)
    rcases shape_cases hs with ⟨rfl, h3, h4⟩ | ⟨rfl, h3, h4⟩ | ⟨rfl, h3, h4⟩ | ⟨rfl, h3, h4⟩ | ⟨rfl, h3, h4⟩ | ⟨rfl, h3, h4⟩ | ⟨rfl, h3, h4⟩ | ⟨rfl, h3, h4⟩ | ⟨rfl, h3, h4⟩ | ⟨rfl, h3, h4⟩ | ⟨rfl, h3, h4⟩ | ⟨rfl, h3, h4⟩
    · have : pn = 0 := by omega
      subst this
      cases len0 h3
      have er : row = Ut02.ints r := er
      cases r with
      | nil => cases hx
      | cons n l =>
        have hx : (if l.length < n then none else (Ut02Neutral.tagsIn n l).bind fun x => (Ut02Neutral.segIn x.2).map fun s => Ut02.Call.source x.1 s) = some x := hx
        by_cases hl : l.length < n
        · rw [if_pos hl] at hx
          cases hx
        · rw [if_neg hl] at hx
          cases ht : Ut02Neutral.tagsIn n l with
          | none =>
            rw [ht] at hx
            cases hx
          | some y =>
            obtain ⟨tg, rs⟩ := y
            rw [ht] at hx
            have hx : ((Ut02Neutral.segIn rs).map fun s => Ut02.Call.source tg s) = some x := hx
            cases hsg : Ut02Neutral.segIn rs with
            | none =>
              rw [hsg] at hx
              cases hx
            | some s =>
              rw [hsg] at hx
              cases hx
              obtain ⟨e1, e2⟩ := tags_row ht
              have e3 := seg_row hsg
              have erow : row = toldRow tg s := by
                rw [er]
                show (n : Int) :: l.map (fun (n : Nat) => (n : Int)) = _
                rw [e2, e3, ← e1]
                rfl
              rw [erow]
              exact .source tg s
    · have : pn = 1 := by omega
      subst this
      cases len0 h3
      have er : row = Ut02.ints r := er
      have hx : ((Ut02Neutral.segIn r).map Ut02.Call.target) = some x := hx
      cases hsg : Ut02Neutral.segIn r with
      | none =>
        rw [hsg] at hx
        cases hx
      | some s =>
        rw [hsg] at hx
        cases hx
        have e3 := seg_row hsg
        have erow : row = rowI s := er.trans e3
        rw [erow]
        exact .target s
    · exact absurd h4 (by decide)
    · exact absurd h4 (by decide)
    · exact absurd h4 (by decide)
    · exact absurd h4 (by decide)
    · exact absurd h4 (by decide)
    · have : pn = 7 := by omega
      subst this
      obtain ⟨a, b, rfl⟩ := len2 h3
      obtain ⟨a', r1, rfl, rfl, er1⟩ := ints_cons (show a :: (b :: row) = Ut02.ints r from er)
      obtain ⟨b', r2, rfl, rfl, er2⟩ := ints_cons er1
      cases hx
      subst er2
      exact .typ a' b' r2
    · exact absurd h4 (by decide)
    · exact absurd h4 (by decide)
    · exact absurd h4 (by decide)
    · exact absurd h4 (by decide)
end Tm
set_option Elab.async false
set_option maxRecDepth 100000
set_option maxHeartbeats 2000000
namespace Tm
open PySem PySem.Spec PyProof.Rows L2
open Ut02 (Tag Seg Fault)
/-! ### a new desk -/
def Maker (P : Program) (w : World) (K : PySem.W.Frag) (mg : Str → Option Value) (base : Heap) (k : Nat) (x : Str) (C : Addr) (sp : Sp) : Prop :=
  ∃ (f : Addr) (fd : FuncData), Mk K C f ∧ FnOk P w K mg base CX0 k f fd ["self"] sp ∧ mg x = some (.ref C) ∧ Binds K fd ["self"] []
theorem pe_mk0 {X : Cx} {k : Nat} {x : Str} {C : Addr} {sp : Sp} {p pos : Pos} (M : Maker X.prog X.w X.K X.mg X.base k x C sp) (hr : Room (k + 1) X.A) (hg : Gl X x := by rfl) (hdb : (x == ("__debug__" : Str)) = false := by decide) :
    PE X (.Call (.Name x p) [] [] pos) (tMake C sp [] E0 tNil) := by
  obtain ⟨f, fd, m, F, hm, hb⟩ := M
  exact pe_make0 m F hr hg hm hb .nil L2.pass0 hdb
section
variable {P : Program} {w : World} {K : PySem.W.Frag} {mg : Str → Option Value} {base : Heap} {f : Addr} {fd : FuncData} {C : Addr}
def spInit (C : Addr) (K : PySem.W.Frag) : Sp := fun vs H Q _ => ∃ (d dx : Addr), vs = [.ref d] ∧ H d = some (.ins C dx []) ∧
  ∀ (H' : Hp) (e : Addr) (A : List Addr), (∀ b o, H b = some o → b ≠ d → H' b = some o) → (∀ a ∈ A, H a = none) → DeskAt C K H' d e A Ut02.init → Q .non H'
structure Ist (C : Addr) (d dx : Addr) (H H' : Hp) (p : Addr) (fs : List (Str × V)) : Prop where
  hd : H' d = some (.ins C dx fs)
  hp : H' p = some (.lst [])
  ch : ∀ b o, H b = some o → b ≠ d → H' b = some o
  nd : p ≠ d
theorem init_step {d dx p : Addr} {H : Hp} {fs fs' : List (Str × V)} (hd : H d = some (.ins C dx fs)) (hp : H p = none) : Ist C d dx H (upd (upd H p (.lst [])) d (.ins C dx fs')) p fs' := by
  have np : d ≠ p := ne_of_none hd hp
  refine ⟨upd_same, by rw [upd_ne np.symm, upd_same], fun b o h n => ?_, np.symm⟩
  rw [upd_ne n, upd_ne (ne_of_none h hp)]
  exact h
theorem Ist.at {d dx p : Addr} {H H' : Hp} {fs : List (Str × V)} (S : Ist C d dx H H' p fs) {q : Addr} (h : H q = some (.lst [])) (n : q ≠ d) : H' q = some (.lst []) := S.ch q _ h n
def iF1 (p1 : Addr) : List (Str × V) := [("tags", .ref p1)]
def iF2 (p1 p2 : Addr) : List (Str × V) := [("tags", .ref p1), ("source_things", .ref p2)]
def iF3 (p1 p2 p3 : Addr) : List (Str × V) := [("tags", .ref p1), ("source_things", .ref p2), ("things", .ref p3)]
theorem ok_init (F : Fun K "__init__" "Desk.__init__" s_init f fd) (L : Cl K mg C) : FnOk P w K mg base CX0 1 f fd ["self"] (spInit C K) := by
  refine F.ok sc_init (fun vs H Q E h => ?_) (fun cdv A outer st H vs Q E hr h => ?_)
  · obtain ⟨d, dx, rfl, _⟩ := h
    rfl
  · obtain ⟨d, dx, rfl, hd, k⟩ := h
    refine ⟨_, (pss_cons (ps_fld (pv 0) (pe_lst pa_nil) rfl) (pss_cons (ps_fld (pv 0) (pe_lst pa_nil) rfl) (pss_cons (ps_fld (pv 0) (pe_lst pa_nil) rfl) (pss_one (ps_fld (pv 0) (pe_lst pa_nil) rfl))))), ?_⟩
    refine ⟨Nat.zero_le _, fun p1 h1 => ?_⟩
    refine ⟨_, rfl, d, C, dx, [], rfl, by rw [upd_ne (ne_of_none hd h1)]; exact hd, L.cl, L.n_tags, (by show 0 < 1000; decide), ?_⟩
    have S1 : Ist C d dx H _ p1 (iF1 p1) := init_step hd h1
    have e1 : putF "tags" (.ref p1) ([] : List (Str × V)) = (iF1 p1) := rfl
    rw [e1]
    generalize upd (upd H p1 (.lst [])) d (.ins C dx (iF1 p1)) = H1 at S1 ⊢
    refine ⟨Nat.zero_le _, fun p2 h2 => ?_⟩
    refine ⟨_, rfl, d, C, dx, (iF1 p1), rfl, by rw [upd_ne (ne_of_none S1.hd h2)]; exact S1.hd, L.cl, L.n_source, (by show 1 < 1000; decide), ?_⟩
    have S2 : Ist C d dx H1 _ p2 (iF2 p1 p2) := init_step S1.hd h2
    have e2 : putF "source_things" (.ref p2) (iF1 p1) = (iF2 p1 p2) := (put_past (by decide +kernel)).trans rfl
    rw [e2]
    generalize upd (upd H1 p2 (.lst [])) d (.ins C dx (iF2 p1 p2)) = H2 at S2 ⊢
    refine ⟨Nat.zero_le _, fun p3 h3 => ?_⟩
    refine ⟨_, rfl, d, C, dx, (iF2 p1 p2), rfl, by rw [upd_ne (ne_of_none S2.hd h3)]; exact S2.hd, L.cl, L.n_things, (by show 2 < 1000; decide), ?_⟩
    have S3 : Ist C d dx H2 _ p3 (iF3 p1 p2 p3) := init_step S2.hd h3
    have e3 : putF "things" (.ref p3) (iF2 p1 p2) = (iF3 p1 p2 p3) := (put_past (by decide +kernel)).trans (congrArg _ ((put_past (by decide +kernel)).trans rfl))
    rw [e3]
    generalize upd (upd H2 p3 (.lst [])) d (.ins C dx (iF3 p1 p2 p3)) = H3 at S3 ⊢
    refine ⟨Nat.zero_le _, fun p4 h4 => ?_⟩
    refine ⟨_, rfl, d, C, dx, (iF3 p1 p2 p3), rfl, by rw [upd_ne (ne_of_none S3.hd h4)]; exact S3.hd, L.cl, L.n_earlier, (by show 3 < 1000; decide), ?_⟩
    have S4 : Ist C d dx H3 _ p4 (dF (.ref p1) (.ref p2) (.ref p3) (.ref p4)) := init_step S3.hd h4
    have e4 : putF "earlier" (.ref p4) (iF3 p1 p2 p3) = dF (.ref p1) (.ref p2) (.ref p3) (.ref p4) := (put_past (by decide +kernel)).trans (congrArg _ ((put_past (by decide +kernel)).trans (congrArg _ ((put_past (by decide +kernel)).trans rfl))))
    rw [e4]
    generalize upd (upd H3 p4 (.lst [])) d (.ins C dx (dF (.ref p1) (.ref p2) (.ref p3) (.ref p4))) = H4 at S4 ⊢
    -- the lists behind it all
    have q1 : H4 p1 = some (.lst []) := S4.at (S3.at (S2.at S1.hp S1.nd) S1.nd) S1.nd
    have q2 : H4 p2 = some (.lst []) := S4.at (S3.at S2.hp S2.nd) S2.nd
    have q3 : H4 p3 = some (.lst []) := S4.at S3.hp S3.nd
    have c1 : ∀ b o, H b = some o → b ≠ d → H1 b = some o := S1.ch
    have c2 : ∀ b o, H b = some o → b ≠ d → H2 b = some o := fun b o h n => S2.ch b o (c1 b o h n) n
    have c3 : ∀ b o, H b = some o → b ≠ d → H3 b = some o := fun b o h n => S3.ch b o (c2 b o h n) n
    have fr : ∀ {H' : Hp} {p : Addr}, (∀ b o, H b = some o → b ≠ d → H' b = some o) → p ≠ d → H' p = none → H p = none := fun {H' p} c n h => by
      cases z : H p with
      | none => rfl
      | some o =>
        rw [c p o z n] at h
        cases h
    have n41 : p1 ≠ p4 := ne_of_none (S3.at (S2.at S1.hp S1.nd) S1.nd) h4
    have n42 : p2 ≠ p4 := ne_of_none (S3.at S2.hp S2.nd) h4
    have n43 : p3 ≠ p4 := ne_of_none S3.hp h4
    refine k _ p4 [p1, p2, p3, p4] (fun b o h n => S4.ch b o (c3 b o h n) n) (fun a ha => ?_) ⟨dx, p1, p2, p3, [], S4.hd, by simp, by simp, by simp, by simp, n41, n42, n43, ⟨[], q1, .nil⟩, ⟨[], q2, .nil⟩, ⟨[], q3, .nil⟩, S4.hp, .nil, fun a ha => ?_⟩
    · simp only [List.mem_cons, List.not_mem_nil, or_false] at ha
      rcases ha with rfl | rfl | rfl | rfl
      · exact h1
      · exact fr c1 S2.nd h2
      · exact fr c2 S3.nd h3
      · exact fr c3 S4.nd h4
    · simp only [List.mem_cons, List.not_mem_nil, or_false] at ha
      rcases ha with rfl | rfl | rfl | rfl
      · rw [q1]
        exact fun z => nomatch z
      · rw [q2]
        exact fun z => nomatch z
      · rw [q3]
        exact fun z => nomatch z
      · rw [S4.hp]
        exact fun z => nomatch z
/-! ### the calls, one behind another -/
theorem DeskIs.upd {d e dx at' ao as : Addr} {A es : List Addr} {H : Hp} {g : Ut02.St} {q : Addr} {ys : List V} {o : HO} (D : DeskIs C K H d e A g dx at' ao as es) (hq : H q = some (.lst ys)) (n : q ∉ A) : DeskIs C K (upd H q o) d e A g dx at' ao as es := by
  refine ⟨?_, D.mt, D.mo, D.ms, D.me, D.nt, D.no, D.ns, D.ht.upd flat_tags hq fun z => n (z ▸ D.mt), D.ho.upd flat_toks hq fun z => n (z ▸ D.mo), D.hs.upd flat_toks hq fun z => n (z ▸ D.ms), ?_, D.ol.upd hq n, fun a ha => upd_some (D.hA a ha)⟩
  · rw [upd_ne (ne_of D.hd hq (fun z => nomatch z))]
    exact D.hd
  · rw [upd_ne (fun z : e = q => n (z ▸ D.me))]
    exact D.he
theorem DeskAt.upd {d e : Addr} {A : List Addr} {H : Hp} {g : Ut02.St} {q : Addr} {ys : List V} {o : HO} (h : DeskAt C K H d e A g) (hq : H q = some (.lst ys)) (n : q ∉ A) : DeskAt C K (upd H q o) d e A g := by
  obtain ⟨dx, t, u, s, es, D⟩ := h
  exact ⟨dx, t, u, s, es, D.upd hq n⟩
theorem head_take {l cl fl rest : List Int} (h : HeadIs l cl fl rest) : l = cl ++ rest ∧ cl ≠ [] := by
  cases h with
  | plain p nums rest _ => exact ⟨rfl, fun z => nomatch z⟩
  | rowed p nums row rest _ => exact ⟨rfl, fun z => nomatch z⟩
def spCallLen (K : PySem.W.Frag) : Sp := fun vs H Q _ => ∃ (a : Addr) (ns cl fl rest : List Int) (i : Nat), vs = [.ref a, .int i] ∧ SqL K H a (ns.map V.int) ∧ HeadIs (ns.drop i) cl fl rest ∧ Q (.int cl.length) H
/-- one call: as it stands in the list (cl), its own numbers (fl), the call that they are -/
def spCall (C : Addr) (K : PySem.W.Frag) : Sp := fun vs H Q _ => ∃ (d e a : Addr) (A : List Addr) (g : Ut02.St) (cl : List Int) (x : Ut02.Call), vs = [.ref d, .ref a] ∧ DeskAt C K H d e A g ∧ Fine g ∧ SqL K H a (cl.map V.int) ∧
  CallIs cl x ∧ cl.length ≤ 140 ∧ RetAns C K H d e A Q (Ut02.step g x)
def spAns (K : PySem.W.Frag) : Sp := fun vs H Q _ => ∃ (a : Addr) (ns : List Int), vs = [.ref a] ∧ SqL K H a (ns.map V.int) ∧ PyUt02.answers_asked ns = true ∧
  ∀ (H' : Hp) (p : Addr), H' p = some (.lst ((PyUt02.answers ns).map V.int)) → Q (.ref p) H'
theorem szM {n : Nat} (h : n ≤ 10000000) : n < sizeLine := Nat.lt_of_le_of_lt h (by decide)
theorem ok_answers (F : Fun K "answers" "answers" s_answers f fd) (T : Txt K mg) (m_Desk : Maker P w K mg base 1 "Desk" C (spInit C K)) (c_call_length : Cal P w K mg base 1 "call_length" ["calls", "start"] (spCallLen K))
    (c_call_answer : Cal P w K mg base 9 "call_answer" ["desk", "call"] (spCall C K)) : FnOk P w K mg base CX0 11 f fd ["calls"] (spAns K) := by
  refine F.ok sc_answers (fun vs H Q E h => ?_) (fun cdv A outer st H vs Q E hr h => ?_)
  · obtain ⟨a, ns, rfl, _⟩ := h
    rfl
  · obtain ⟨a, ns, rfl, hS, hask, k⟩ := h
    obtain ⟨raws0, AS⟩ := asked_of hask
    refine ⟨_, (pss_cons (ps_set (i := 1) sc_answers.nd rfl (Or.inl rfl) (pe_mk0 m_Desk (hr.mono (by decide))))
      (pss_cons (ps_set (i := 2) sc_answers.nd rfl (Or.inl rfl) (pe_lst pa_nil))
      (pss_cons (ps_set (i := 3) sc_answers.nd rfl (Or.inl rfl) pe_int)
      (pss_cons (ps_while PassesOwn.never (pt_cmpR op_lt (pv 3) (pe_callB call_len_seq (by rfl) T.m_len PySem.boot_len (pa_cons (pv 0) pa_nil)) (nomark _))
        (pss_cons (ps_set (i := 4) sc_answers.nd rfl (Or.inl rfl) (pe_u c_call_length (hr.mono (by decide)) (pa_cons (pv 0) (pa_cons (pv 3) pa_nil))))
      (pss_cons (ps_set (i := 5) sc_answers.nd rfl (Or.inl rfl) (pe_u c_call_answer (hr.mono (by decide)) (pa_cons (pv 1) (pa_cons (pe_slice (k_slL K) (pv 0) (po_some (pv 3)) (po_some (pe_op op_add (pv 3) (pv 4)))) pa_nil))))
      (pss_cons (ps_expr (pe_bm PySem.F.plainAttrs_list PySem.F.slot_list_append PySem.F.type_list_append mt_append (pv 2) (pa_cons (pe_callB call_len_seq (by rfl) T.m_len PySem.boot_len (pa_cons (pv 5) pa_nil)) pa_nil)))
      (pss_cons (ps_expr (pe_bm PySem.F.plainAttrs_list PySem.F.slot_list_extend PySem.F.type_list_extend mt_extend (pv 2) (pa_cons (pv 5) pa_nil)))
      (pss_one (ps_set (i := 3) sc_answers.nd rfl (Or.inl rfl) (pe_op op_add (pv 3) (pv 4)))))))))
      (pss_one (ps_ret (pv 2))))))), ?_⟩
    intro d dx nd ndx ne
    refine ⟨d, dx, rfl, upd_same, fun H1 e1 A1 ch1 hA1 D1 => ⟨rfl, ?_⟩⟩
    have s1 : Same H H1 := Same.made nd ndx ch1
    refine ⟨Nat.zero_le _, fun p hp => ?_⟩
    have hp0 : H p = none := s1.free hp
    have hpA : p ∉ A1 := fun z => by
      obtain ⟨_, _, _, _, _, D1⟩ := D1
      exact D1.hA p z hp
    have hA1' : ∀ a ∈ A1, H a = none := fun a ha => by
      cases z : H a with
      | none => rfl
      | some o =>
        have n1 : a ≠ d := ne_of_none z nd
        have n2 : a ≠ dx := ne_of_none z ndx
        have := hA1 a ha
        rw [upd_ne n1] at this
        first
          | (rw [z] at this; cases this)
          | (rw [upd_ne n2, z] at this; cases this)
    refine while_by (fun σ H' => ∃ (i : Nat) (raws : List (List (List Int))) (g : Ut02.St) (e : Addr) (A : List Addr) (out : List Int) (u4 u5 : Option V), σ = [some (.ref a), some (.ref d), some (.ref p), some (.int i), u4, u5] ∧ Same H H' ∧ Parsed (ns.drop i) raws ∧ (∀ c ∈ raws, c ∈ raws0) ∧ DeskAt C K H' d e A g ∧ Good g ∧ g.old.length + raws.length ≤ 40 ∧ (∀ a ∈ A, H a = none) ∧ H' p = some (.lst (out.map V.int)) ∧ p ∉ A ∧ out ++ runs g raws = PyUt02.answers ns)
      (fun σ _ => match σ with
        | [_, _, _, some (.int i), _, _] => ns.length - i.toNat
        | _ => 0)
      ⟨0, raws0, Ut02.init, e1, A1, [], none, none, rfl, s1.trans (same_new hp), ⟨_, AS.parsed⟩, fun _ h => h, D1.same (same_new hp), good_init, by show 0 + raws0.length ≤ 40; have := AS.few; omega, hA1', upd_same, hpA, by rw [List.nil_append, answers_runs AS.parsed]⟩ ?_ ?_
    · rintro σ H2 ⟨i, raws, g, e, A, out, u4, u5, rfl, s2, hpar, hsub, D, G, hold, hAn, hq, hpA, hrun⟩
      have hS2 := (sameI s2).seq hS
      refine ⟨_, rfl, _, rfl, a, _, rfl, .inl hS2, _, _, rfl, rfl, _, rfl, ?_⟩
      rw [List.length_map, nat_lt]
      refine ite2 (fun h => ?_) (fun h => ?_)
      · have hi := of_decide_eq_true h
        cases hdr : ns.drop i with
        | nil =>
          have := congrArg List.length hdr
          rw [List.length_drop] at this
          simp at this
          omega
        | cons pn r =>
          rw [hdr] at hpar
          obtain ⟨c, t, cs, rfl, hcall, hpar2⟩ := parsed_cons hpar
          obtain ⟨cl, hh, hbound⟩ := call_head hcall
          obtain ⟨ecl, hne⟩ := head_take hh
          have hc0 := hsub c (List.mem_cons_self ..)
          have hlen1 : 1 ≤ cl.length := by
            cases cl with
            | nil => exact absurd rfl hne
            | cons x y => simp
          have hcl : i + cl.length ≤ ns.length := by
            have := congrArg List.length (hdr.trans ecl)
            rw [List.length_drop, List.length_append] at this
            omega
          obtain ⟨x, hx⟩ : ∃ x, Ut02Neutral.callOf (flatC c) = some x := by
            have := AS.each c hc0
            unfold Ut02Neutral.asked1 at this
            exact Option.isSome_iff_exists.mp this
          have hstep : Ut02Neutral.step g (flatC c) = Ut02.step g x := by
            unfold Ut02Neutral.step
            rw [hx]
          -- length = call_length(calls, start)
          refine ⟨_, rfl, _, rfl, a, ns, cl, flatC c, t, i, rfl, hS2, by rw [hdr]; exact hh, ?_⟩
          -- answer = call_answer(desk, calls[start:start + length])
          refine ⟨_, rfl, _, rfl, _, rfl, _, rfl, _, rfl, _, rfl, _, _, rfl, rfl, _, rfl, a, _, rfl, hS2, fun b hb => ?_⟩
          have ecut : cutV (ns.map V.int) (some (i : Int)) (some ((i : Int) + (cl.length : Int))) = cl.map V.int := by
            have e1 : (i : Int) + (cl.length : Int) = ((i + cl.length : Nat) : Int) := by omega
            rw [e1, cut_mid, ← List.map_drop, hdr, ecl, ← List.map_take, show i + cl.length - i = cl.length by omega, List.take_left']
            rfl
          rw [ecut]
          have s3 : Same H2 (upd H2 b (.lst (cl.map V.int))) := same_new hb
          have hfine : Fine g := ⟨G, by rw [List.length_cons] at hold; omega⟩
          have heA : e ∈ A := by
            obtain ⟨_, _, _, _, _, D⟩ := D
            exact D.me
          refine ⟨d, e, b, A, g, cl, x, rfl, D.same s3, hfine, SqL.of upd_same, call_is hh hx, hbound (AS.inside c hc0), fun H4 q e4 A4 ch4 hA4 D4 hq4 hz4 => ?_⟩
          have s4 : Same H H4 := fun b' o h => ch4 b' o (s3 _ _ (s2 _ _ h)) (ne_of_none h nd) (ne_of_none h (hAn e heA))
          have ndp : p ≠ d := by
            obtain ⟨_, _, _, _, _, D⟩ := D
            exact ne_of hq D.hd (fun z => nomatch z)
          have hp4 : H4 p = some (.lst (out.map V.int)) := ch4 _ _ (s3 _ _ hq) ndp fun z => hpA (z ▸ heA)
          have hpA4 : p ∉ A4 := fun z => by
            rcases hA4 p z with y | y
            · exact hpA y
            · rw [s3 _ _ hq] at y
              cases y
          have hrun2 : (out ++ [((Ut02.step g x).2.length : Int)] ++ (Ut02.step g x).2) ++ runs (Ut02.step g x).1 cs = PyUt02.answers ns := by
            rw [← hrun, runs_cons, hstep]
            simp [List.append_assoc]
          have htot : out.length + 1 + (Ut02.step g x).2.length ≤ 10000000 := by
            have h1 := congrArg List.length hrun2
            have h2 := AS.short
            rw [List.length_append, List.length_append, List.length_append, List.length_singleton] at h1
            omega
          have npq : p ≠ q := fun z => by
            rw [← z, s3 _ _ hq] at hq4
            cases hq4
          -- given.append(len(answer))
          refine ⟨_, rfl, .inl ⟨rfl, _, SqL.of hp4⟩, _, rfl, q, _, rfl, .inl (SqL.of hz4), p, _, _, rfl, rfl, hp4, szM (by rw [List.length_map]; omega), ?_⟩
          -- given.extend(answer)
          refine ⟨_, rfl, .inl ⟨rfl, _, SqL.of upd_same⟩, _, rfl, p, q, _, _, rfl, rfl, upd_same, by rw [upd_ne npq.symm]; exact hz4, Nat.le_of_lt (szM (by rw [List.length_append, List.length_map, List.length_map, List.length_singleton]; omega)), ?_⟩
          -- start = start + length
          refine ⟨_, rfl, _, rfl, _, _, rfl, rfl, ?_⟩
          refine ⟨⟨i + cl.length, cs, (Ut02.step g x).1, e4, A4, out ++ [((Ut02.step g x).2.length : Int)] ++ (Ut02.step g x).2, some (.int cl.length), some (.ref q), ?_, ?_, ?_, fun c' hc' => hsub c' (List.mem_cons_of_mem _ hc'), ?_, good_step G x, ?_, ?_, ?_, hpA4, hrun2⟩, ?_⟩
          · rfl
          · exact same_upd hp0 (same_upd hp0 s4)
          · rw [← List.drop_drop, hdr, ecl, List.drop_left']
            · exact hpar2
            · rfl
          · exact (D4.upd hp4 hpA4).upd upd_same hpA4
          · have h1 := old_step g x
            rw [List.length_cons] at hold
            omega
          · intro a' ha'
            rcases hA4 a' ha' with y | y
            · exact hAn a' y
            · exact s2.free (s3.free y)
          · rw [upd_same, List.map_append, List.map_append, List.length_map]
            rfl
          · show ns.length - ((i : Int) + (cl.length : Int)).toNat < ns.length - (i : Int).toNat
            omega
      · have hd0 : ns.drop i = [] := List.drop_eq_nil_of_le (Nat.le_of_not_lt fun z => h (decide_eq_true z))
        rw [hd0] at hpar
        have er := parsed_nil hpar
        subst er
        rw [runs_nil, List.append_nil] at hrun
        rw [hrun] at hq
        exact ⟨_, rfl, k _ _ hq⟩
    · intro σ H2 Q1 Q2 hQ h
      obtain ⟨v1, e1, v2, e2, p', ys, e3, e4, i, j, e5, e6, b, e7, q⟩ := h
      exact ⟨v1, e1, v2, e2, p', ys, e3, e4, i, j, e5, e6, b, e7, hQ _ _ q⟩
end
end Tm
set_option Elab.async false
set_option maxRecDepth 100000
set_option maxHeartbeats 2000000
namespace Tm
open PySem PySem.Spec PyProof.Rows L2
open Ut02 (Tag Seg Fault)
theorem rowOf_rowI (s : List Tk) : Ut02.ints (Ut02.rowOf s) = rowI s := by
  unfold Ut02.ints Ut02.rowOf rowI
  rw [List.map_flatMap]
  congr 1
  funext t
  cases t <;> rfl
theorem ints_app (a b : List Nat) : Ut02.ints (a ++ b) = Ut02.ints a ++ Ut02.ints b := by
  unfold Ut02.ints
  rw [List.map_append]
section
variable {P : Program} {w : World} {K : PySem.W.Frag} {mg : Str → Option Value} {base : Heap} {f : Addr} {fd : FuncData} {C : Addr}
/-! ### segment_answer -/
def spSeg (K : PySem.W.Frag) : Sp := fun vs H Q _ => ∃ (v : V) (s : List Tk), vs = [v] ∧ TokL K H v s ∧ s.length ≤ 1000 ∧ RetL K H Q (((s.length : Int) :: rowI s).map PyData.int)
theorem ok_segment_answer (F : Fun K "segment_answer" "segment_answer" s_segment_answer f fd) (T : Txt K mg) (c_write_segment : Cal P w K mg base 1 "write_segment" ["things"] (spWrite K)) : FnOk P w K mg base CX0 2 f fd ["things"] (spSeg K) := by
  refine F.ok sc_segment_answer (fun vs H Q E h => ?_) (fun cdv A outer st H vs Q E hr h => ?_)
  · obtain ⟨v, s, rfl, _⟩ := h
    rfl
  · obtain ⟨v, s, rfl, hv, hl, k⟩ := h
    refine ⟨_, (pss_one (ps_ret (pe_op (k_cat K) (pe_lst (pa_cons (pe_callB call_len_seq (by rfl) T.m_len PySem.boot_len (pa_cons (pv 0) pa_nil)) pa_nil)) (pe_u c_write_segment (hr.mono (by decide)) (pa_cons (pv 0) pa_nil))))), ?_⟩
    obtain ⟨a, xs, rfl, hsq, hxl⟩ := len_of hv
    refine ⟨_, rfl, a, _, rfl, .inl hsq, szle (by show 1 ≤ 100000; decide), fun p1 h1 => ?_⟩
    have s1 := same_new (o := .lst [.int xs.length]) h1
    refine ⟨_, rfl, _, s, rfl, dpI (sameI s1) hv, hl, fun H2 q ys s2 hq hy hya => ?_⟩
    have hyl := dpAll_len hya
    rw [List.length_map, rowI_len] at hyl
    refine ⟨p1, q, _, _, rfl, rfl, SqL.of (s2 _ _ upd_same), SqL.of hy, szle (by show 1 + ys.length ≤ 100000; omega), fun p hp => ?_⟩
    refine k _ p _ ((s1.trans s2).trans (same_new hp)) ((s1.trans s2).free hp) upd_same ?_
    rw [hxl]
    exact .cons (.int _) (dpAllI (sameI (same_new hp)) hya)
/-- [best[0]] + segment_answer(best[1]) -/
theorem rd_mend {z zp : Addr} {c : Int} {s : List Tk} {σ : L2.St} {H1 : Hp} {Q : VK} (h1 : σ[1]? = some (some (.ref z))) (hz : SqT K H1 z [.int c, .ref zp]) (hl : LT K H1 zp (s.map tokD)) (hsl : s.length ≤ 1000) (k : RetL K H1 Q ((c :: (s.length : Int) :: rowI s).map PyData.int)) :
    tOp (rCatQ K) (tLst (tCons (tOp (rIxT K) (tVar 1) (tC (.int 0))) tNil)) (tCall (spSeg K) [] E0 (tCons (tOp (rIxT K) (tVar 1) (tC (.int 1))) tNil)) σ H1 Q := by
  refine ⟨_, h1, z, _, 0, _, rfl, rfl, hz, rfl, szle (by show 1 ≤ 100000; decide), fun p1 hp1 => ?_⟩
  have s2 := same_new (o := .lst [.int c]) hp1
  refine ⟨_, h1, z, _, 1, _, rfl, rfl, (sameI s2).tup hz, rfl, _, s, rfl, (hl.sameI (sameI s2)).dp, hsl, fun H3 q ys s3 hq hy hya => ?_⟩
  have hyl := dpAll_len hya
  rw [List.length_map, List.length_cons, rowI_len] at hyl
  refine ⟨p1, q, _, _, rfl, rfl, SqL.of (s3 _ _ upd_same), SqL.of hy, szle (by show 1 + ys.length ≤ 100000; omega), fun p hp => ?_⟩
  refine k _ p _ ((s2.trans s3).trans (same_new hp)) ((s2.trans s3).free hp) upd_same ?_
  exact .cons (.int _) (dpAllI (sameI (same_new hp)) hya)
/-! ### would_answer -/
def spWould (C : Addr) (K : PySem.W.Frag) : Sp := fun vs H Q _ => ∃ (d e : Addr) (A : List Addr) (g : Ut02.St), vs = [.ref d] ∧ DeskAt C K H d e A g ∧ Fine g ∧ RetAns C K H d e A Q (Ut02.step g .would)
theorem mend_row (x : Nat × List Tk) : Ut02.ints ([x.1, x.2.length] ++ Ut02.rowOf x.2) = (x.1 : Int) :: (x.2.length : Int) :: rowI x.2 := by
  rw [ints_app, rowOf_rowI]
  rfl
theorem mended_len {g : Ut02.St} (G : Good g) : (Ut02.mended g.tags g.target).2.length ≤ 1000 := by
  have h1 := best_eq g.tags g.target
  obtain ⟨q1, q2, q3⟩ := (segOk_iff _).mp G.tgt
  have h2 : ∀ (cs : List (List Tk)) (b : Best), (∀ k ∈ cs, k.length ≤ 100) → (∀ x, b = some x → x.2.length ≤ 1000) → ∀ x, cs.foldl (bestStep g.tags g.target) b = some x → x.2.length ≤ 1000 := by
    intro cs
    induction cs with
    | nil => intro b _ hb x hx; exact hb x hx
    | cons k r ih =>
      intro b hc hb x hx
      refine ih _ (fun k hk => hc k (List.mem_cons_of_mem _ hk)) (fun y hy => ?_) x hx
      have hk := compl_len (l := g.tags) (s := k) (Nat.le_trans G.few (by decide)) (hc k (List.mem_cons_self ..))
      unfold bestStep at hy
      split at hy
      · cases hy
        show (complM g.tags k).length ≤ 1000
        omega
      · split at hy
        · cases hy
          show (complM g.tags k).length ≤ 1000
          omega
        · exact hb y hy
  have h3 := h2 (choicesM g.tags g.target) none (fun k hk => by have := choices_le hk; omega) (fun x hx => nomatch hx) _ h1
  exact h3
theorem ok_would_answer (F : Fun K "would_answer" "would_answer" s_would_answer f fd) (L : Cl K mg C) (c_mended : Cal P w K mg base 7 "mended" ["tags", "things"] (spMended K)) (c_segment_answer : Cal P w K mg base 2 "segment_answer" ["things"] (spSeg K)) :
    FnOk P w K mg base CX0 8 f fd ["desk"] (spWould C K) := by
  refine F.ok sc_would_answer (fun vs H Q E h => ?_) (fun cdv A outer st H vs Q E hr h => ?_)
  · obtain ⟨d, e, A, g, rfl, _⟩ := h
    rfl
  · obtain ⟨d, e, A, g, rfl, D, G, k⟩ := h
    refine ⟨_, (pss_cons (ps_set (i := 1) sc_would_answer.nd rfl (Or.inl rfl) (pe_u c_mended (hr.mono (by decide)) (pa_cons (pe_fld (pv 0) rfl) (pa_cons (pe_fld (pv 0) rfl) pa_nil))))
      (pss_one (ps_ret (pe_op (k_cat K) (pe_lst (pa_cons (pe_ix (k_ixT K) (pv 1) pe_int (fun _ _ => rfl)) pa_nil)) (pe_u c_segment_answer (hr.mono (by decide)) (pa_cons (pe_ix (k_ixT K) (pv 1) pe_int (fun _ _ => rfl)) pa_nil)))))), ?_⟩
    obtain ⟨dx, at', ao, as, es, D0⟩ := id D
    obtain ⟨q1, q2, q3⟩ := (segOk_iff _).mp G.1.tgt
    refine ⟨_, rfl, d, C, dx, _, _, rfl, D0.hd, L.cl, L.n_tags, dF_tags _ _ _ _, _, rfl, d, C, dx, _, _, rfl, D0.hd, L.cl, L.n_things, dF_things _ _ _ _, _, _, g.tags, g.target, rfl, D0.ht.dp, D0.hs.dp, Nat.le_trans G.1.few (by decide), by omega, q2, fun H1 x s1 hb => ?_⟩
    rw [best_eq] at hb
    obtain ⟨z, zp, rfl, hz, _, hl⟩ := hb
    have eb : Ut02.step g .would = (g, ((Ut02.mended g.tags g.target).1 : Int) :: ((Ut02.mended g.tags g.target).2.length : Int) :: rowI (Ut02.mended g.tags g.target).2) := by
      show (g, Ut02.ints _) = _
      rw [mend_row]
    rw [eb] at k
    exact rd_mend rfl hz hl (mended_len G.1) ((k.mono s1).keep (D.same s1))
/-! ### mend_answer -/
def spMend (C : Addr) (K : PySem.W.Frag) : Sp := fun vs H Q _ => ∃ (d e : Addr) (A : List Addr) (g : Ut02.St), vs = [.ref d] ∧ DeskAt C K H d e A g ∧ Fine g ∧ RetAns C K H d e A Q (Ut02.step g .mend)
theorem ok_mend_answer (F : Fun K "mend_answer" "mend_answer" s_mend_answer f fd) (T : Txt K mg) (L : Cl K mg C) (c_mended : Cal P w K mg base 7 "mended" ["tags", "things"] (spMended K)) (c_segment_answer : Cal P w K mg base 2 "segment_answer" ["things"] (spSeg K))
    (c_is_too_much : Cal P w K mg base 1 "is_too_much" ["things"] (spTooMuch K)) (c_change : Cal P w K mg base 6 "change" ["desk", "things"] (spChange C K)) : FnOk P w K mg base CX0 8 f fd ["desk"] (spMend C K) := by
  refine F.ok sc_mend_answer (fun vs H Q E h => ?_) (fun cdv A outer st H vs Q E hr h => ?_)
  · obtain ⟨d, e, A, g, rfl, _⟩ := h
    rfl
  · obtain ⟨d, e, A, g, rfl, D, G, k⟩ := h
    refine ⟨_, (pss_cons (ps_set (i := 1) sc_mend_answer.nd rfl (Or.inl rfl) (pe_u c_mended (hr.mono (by decide)) (pa_cons (pe_fld (pv 0) rfl) (pa_cons (pe_fld (pv 0) rfl) pa_nil))))
      (pss_cons (ps_if (pt_val (pe_u c_is_too_much (hr.mono (by decide)) (pa_cons (pe_ix (k_ixT K) (pv 1) pe_int (fun _ _ => rfl)) pa_nil))) (pss_one (ps_ret (pe_lst (pa_cons (pe_gi T.m_TOO_MUCH) pa_nil)))) pss_nil)
      (pss_cons (ps_expr (pe_u c_change (hr.mono (by decide)) (pa_cons (pv 0) (pa_cons (pe_ix (k_ixT K) (pv 1) pe_int (fun _ _ => rfl)) pa_nil))))
      (pss_one (ps_ret (pe_op (k_cat K) (pe_lst (pa_cons (pe_ix (k_ixT K) (pv 1) pe_int (fun _ _ => rfl)) pa_nil)) (pe_u c_segment_answer (hr.mono (by decide)) (pa_cons (pe_ix (k_ixT K) (pv 1) pe_int (fun _ _ => rfl)) pa_nil)))))))), ?_⟩
    obtain ⟨dx, at', ao, as, es, D0⟩ := id D
    obtain ⟨q1, q2, q3⟩ := (segOk_iff _).mp G.1.tgt
    refine ⟨_, rfl, d, C, dx, _, _, rfl, D0.hd, L.cl, L.n_tags, dF_tags _ _ _ _, _, rfl, d, C, dx, _, _, rfl, D0.hd, L.cl, L.n_things, dF_things _ _ _ _, _, _, g.tags, g.target, rfl, D0.ht.dp, D0.hs.dp, Nat.le_trans G.1.few (by decide), by omega, q2, fun H1 x s1 hb => ?_⟩
    rw [best_eq] at hb
    obtain ⟨z, zp, rfl, hz, hzp, hl⟩ := hb
    have hok := mended_ok G.1.small q3
    have hlen := mended_len G.1
    have eb : Ut02.step g .mend = if Ut02.segOk (Ut02.mended g.tags g.target).2 = false then (g, [-5]) else (nextG g (Ut02.mended g.tags g.target).2, ((Ut02.mended g.tags g.target).1 : Int) :: ((Ut02.mended g.tags g.target).2.length : Int) :: rowI (Ut02.mended g.tags g.target).2) := by
      show (if _ then _ else (_, Ut02.ints _)) = _
      rw [mend_row]
      rfl
    rw [eb, segOk_tooMuch hok] at k
    generalize Ut02.mended g.tags g.target = mm at hl hok hlen k hz
    refine ⟨_, rfl, z, _, 1, _, rfl, rfl, hz, rfl, _, mm.2, rfl, hl.dp, hlen, fun H2 s2 => ⟨_, rfl, ?_⟩⟩
    have s12 := s1.trans s2
    refine ifB (fun h => ?_) (fun h => ?_)
    · rw [h, if_pos (show (!true) = false from rfl)] at k
      exact rd_ref (σ := []) (D.same s12) (k.mono s12)
    · rw [h, if_neg (show ¬ (!false) = false from fun z => Bool.noConfusion z)] at k
      have hz2 := (sameI s2).tup hz
      have hl2 := hl.sameI (sameI s2)
      have D2 := D0.same s12
      have npe : zp ≠ e := fun y => D0.hA e D0.me (y ▸ hzp)
      -- change(desk, best[1])
      refine ⟨_, rfl, _, rfl, z, _, 1, _, rfl, rfl, hz2, rfl, d, e, zp, A, g, mm.2, rfl, D.same s12, Nat.le_trans G.1.few (by decide), G.2, hl2, hlen, npe, fun H3 q ch D3 hq hz3 => ?_⟩
      refine rd_mend rfl ((ch.sameT D2.hd D2.he).tup hz2) (ch.lt D2.hd D2.he hl2 flat_toks npe) hlen fun H4 p ys s4 hp hy hya => ?_
      have ey := dpAll_ints hya
      subst ey
      have c3 : Changed d e H H3 := (Changed.of s12).trans ch
      obtain ⟨_, _, _, _, _, D3'⟩ := id D3
      refine k H4 p e (zp :: A) (c3.trans (Changed.of s4)) (fun a ha => ?_) (D3.same s4) (c3.free (by rw [D3'.hd]; exact fun z => nomatch z) (by rw [D3'.he]; exact fun z => nomatch z) hp) hy
      rcases List.mem_cons.mp ha with rfl | ha
      · exact .inr hzp
      · exact .inl ha
/-! ### target_answer -/
def spTarget (C : Addr) (K : PySem.W.Frag) : Sp := fun vs H Q _ => ∃ (d e : Addr) (v : V) (A : List Addr) (g : Ut02.St) (s : List Tk), vs = [.ref d, v] ∧ DeskAt C K H d e A g ∧ Fine g ∧ IntL K H v (rowI s) ∧ s.length ≤ 1000 ∧ RetAns C K H d e A Q (Ut02.step g (.target s))
theorem ok_target_answer (F : Fun K "target_answer" "target_answer" s_target_answer f fd) (T : Txt K mg) (c_read_segment : Cal P w K mg base 1 "read_segment" ["numbers"] (spRead K)) (c_is_too_much : Cal P w K mg base 1 "is_too_much" ["things"] (spTooMuch K)) (c_has_great_number : Cal P w K mg base 1 "has_great_number" ["things"] (spGreat K))
    (c_change : Cal P w K mg base 6 "change" ["desk", "things"] (spChange C K)) : FnOk P w K mg base CX0 7 f fd ["desk", "numbers"] (spTarget C K) := by
  refine F.ok sc_target_answer (fun vs H Q E h => ?_) (fun cdv A outer st H vs Q E hr h => ?_)
  · obtain ⟨d, e, v, A, g, s, rfl, _⟩ := h
    rfl
  · obtain ⟨d, e, v, A, g, s, rfl, D, G, hv, hl, k⟩ := h
    refine ⟨_, (pss_cons (ps_set (i := 2) sc_target_answer.nd rfl (Or.inl rfl) (pe_u c_read_segment (hr.mono (by decide)) (pa_cons (pv 1) pa_nil)))
      (pss_cons (ps_if (PW.pt (pw_or (pt_val (pe_u c_is_too_much (hr.mono (by decide)) (pa_cons (pv 2) pa_nil))) (pw_or1 (pt_val (pe_u c_has_great_number (hr.mono (by decide)) (pa_cons (pv 2) pa_nil)))))) (pss_one (ps_ret (pe_lst (pa_cons (pe_gi T.m_OUT_OF_RANGE) pa_nil)))) pss_nil)
      (pss_one (ps_ret (pe_u c_change (hr.mono (by decide)) (pa_cons (pv 0) (pa_cons (pv 2) pa_nil))))))), ?_⟩
    refine ⟨_, rfl, v, s, rfl, hv, hl, fun H1 p ys s1 hp hy hya => ?_⟩
    have hlt : LT K H1 p (s.map tokD) := ⟨ys, hy, hya⟩
    have eb : Ut02.step g (.target s) = if Ut02.segOk s = false then (g, [-1]) else Ut02.becomes g s := rfl
    rw [eb] at k
    dsimp only [gName, tNext, tSeq]
    refine if_or ?_
    refine ⟨_, rfl, _, s, rfl, hlt.dp, hl, fun H2 s2 => ⟨_, rfl, ?_⟩⟩
    have s12 := s1.trans s2
    refine ifB (fun h => ?_) (fun h => ?_)
    · rw [if_pos (by rw [segOk_eq, h]; rfl)] at k
      exact rd_ref (σ := []) (D.same s12) (k.mono s12)
    refine ⟨_, rfl, _, s, rfl, (hlt.sameI (sameI s2)).dp, hl, fun H3 s3 => ⟨_, rfl, ?_⟩⟩
    have s13 := s12.trans s3
    refine ifB (fun h2 => ?_) (fun h2 => ?_)
    · rw [if_pos (by rw [segOk_eq]; cases z : s.all Ut02.tokOk with | false => exact Bool.and_false _ | true => rw [z] at h2; cases h2)] at k
      exact rd_ref (σ := []) (D.same s13) (k.mono s13)
    have hseg : Ut02.segOk s = true := by
      rw [segOk_eq, h]
      simpa using h2
    rw [if_neg (fun z => by rw [hseg] at z; cases z)] at k
    exact ⟨_, rfl, _, rfl, ret_change D G s13 hp (hlt.sameI (sameI (s2.trans s3))) hseg k rfl⟩
/-! ### faults_answer -/
def fltI (x : Fault) : List Int := [(x.1 : Int), (x.2.1 : Int), (x.2.2 : Int)]
theorem fltI_len : ∀ pre : List Fault, (pre.flatMap fltI).length = 3 * pre.length
  | [] => rfl
  | a :: r => by
    rw [List.flatMap_cons, List.length_append, fltI_len r, List.length_cons]
    show 3 + 3 * r.length = 3 * (r.length + 1)
    omega
def spFaultsAns (C : Addr) (K : PySem.W.Frag) : Sp := fun vs H Q _ => ∃ (d e : Addr) (A : List Addr) (g : Ut02.St), vs = [.ref d] ∧ DeskAt C K H d e A g ∧ Fine g ∧ RetAns C K H d e A Q (Ut02.step g .faults)
theorem ok_faults_answer (F : Fun K "faults_answer" "faults_answer" s_faults_answer f fd) (T : Txt K mg) (L : Cl K mg C) (c_faults_of : Cal P w K mg base 4 "faults_of" ["tags", "things"] (spFaults K)) : FnOk P w K mg base CX0 5 f fd ["desk"] (spFaultsAns C K) := by
  refine F.ok sc_faults_answer (fun vs H Q E h => ?_) (fun cdv A outer st H vs Q E hr h => ?_)
  · obtain ⟨d, e, A, g, rfl, _⟩ := h
    rfl
  · obtain ⟨d, e, A, g, rfl, D, G0, k⟩ := h
    have G := G0.1
    refine ⟨_, (pss_cons (ps_set (i := 1) sc_faults_answer.nd rfl (Or.inl rfl) (pe_u c_faults_of (hr.mono (by decide)) (pa_cons (pe_fld (pv 0) rfl) (pa_cons (pe_fld (pv 0) rfl) pa_nil))))
      (pss_cons (ps_set (i := 2) sc_faults_answer.nd rfl (Or.inl rfl) (pe_lst (pa_cons (pe_callB call_len_seq (by rfl) T.m_len PySem.boot_len (pa_cons (pv 1) pa_nil)) pa_nil)))
      (pss_cons (ps_for PassesOwn.never rfl (pi_list (pv 1)) (pg_tup rfl (pgs_cons (pg_name (i := 3) sc_faults_answer.nd rfl (Or.inl rfl)) (pgs_cons (pg_name (i := 4) sc_faults_answer.nd rfl (Or.inl rfl)) (pgs_cons (pg_name (i := 5) sc_faults_answer.nd rfl (Or.inl rfl)) pgs_nil))))
        (pss_one (ps_expr (pe_bm PySem.F.plainAttrs_list PySem.F.slot_list_extend PySem.F.type_list_extend mt_extend (pv 2) (pa_cons (pe_lst (pa_cons (pv 3) (pa_cons (pv 4) (pa_cons (pv 5) pa_nil)))) pa_nil)))))
      (pss_one (ps_ret (pv 2)))))), ?_⟩
    obtain ⟨dx, at', ao, as, es, D0⟩ := id D
    have hd := D0.hd
    have ht := D0.ht
    have hs := D0.hs
    obtain ⟨q1, q2, q3⟩ := (segOk_iff _).mp G.tgt
    have hfl : (faultsM g.tags g.target).length ≤ 5000 := faults_len (Nat.le_trans G.few (by decide)) (by omega) (Nat.le_refl _)
    refine ⟨_, rfl, d, C, dx, _, _, rfl, hd, L.cl, L.n_tags, dF_tags _ _ _ _, _, rfl, d, C, dx, _, _, rfl, hd, L.cl, L.n_things, dF_things _ _ _ _, _, _, g.tags, g.target, rfl, ht.dp, hs.dp, Nat.le_trans G.few (by decide), by omega, fun H1 q zs s1 hq hz hza => ?_⟩
    have hzl := dpAll_len hza
    rw [List.length_map] at hzl
    refine ⟨_, rfl, q, _, rfl, .inl (SqL.of hz), szle (by show 1 ≤ 100000; decide), fun p hp => ?_⟩
    rw [hzl]
    have hdq : Dp K H1 (.ref q) (.list ((faultsM g.tags g.target).map fltD)) := .lst (SqL.of hz) hza
    refine ⟨_, rfl, q, rfl, for_data hdq (fun pre σ H' => ∃ u3 u4 u5, σ = [some (.ref d), some (.ref q), some (.ref p), u3, u4, u5] ∧ Same H1 H' ∧ H' p = some (.lst ((((faultsM g.tags g.target).length : Int) :: pre.flatMap fltI).map V.int)))
      ⟨none, none, none, rfl, same_new hp, upd_same⟩ ?_ ?_ ?_⟩
    · rintro pre σ H' ⟨_, _, _, _, sm, _⟩
      exact sameI sm
    · rintro pre x post y σ H2 ee ⟨u3, u4, u5, rfl, sm, hq2⟩ hy
      obtain ⟨b, rfl, hb⟩ := dp_flt hy
      have hlen := fltI_len pre
      have hpl : pre.length ≤ 5000 := by
        have : (faultsM g.tags g.target).length = pre.length + (post.length + 1) := by rw [ee]; simp
        omega
      refine ⟨b, _, rfl, hb, rfl, _, _, rfl, _, _, rfl, _, _, rfl, rfl, ?_⟩
      refine ⟨_, rfl, .inl ⟨rfl, _, SqL.of hq2⟩, _, rfl, _, rfl, _, rfl, szle (by show 3 ≤ 100000; decide), fun r hr2 => ?_⟩
      refine ⟨p, r, _, _, rfl, rfl, same_new hr2 _ _ hq2, upd_same, szle (by rw [List.length_map, List.length_cons, hlen]; show 3 * pre.length + 1 + 3 ≤ 100000; omega), ?_⟩
      refine ⟨_, _, _, rfl, same_upd hp (sm.trans (same_new hr2)), ?_⟩
      rw [upd_same, List.flatMap_append, List.map_cons, List.map_cons, List.map_append]
      simp [fltI]
    · rintro σ H2 ⟨u3, u4, u5, rfl, sm, hq2⟩
      refine ⟨_, rfl, k H2 p e A (Changed.of (s1.trans sm)) (fun _ h => .inl h) (D.same (s1.trans sm)) (s1.free hp) ?_⟩
      rw [hq2]
      have eb : (Ut02.step g .faults).2 = ((faultsM g.tags g.target).length : Int) :: (faultsM g.tags g.target).flatMap fltI := by
        rw [faults_eq]
        show _ :: Ut02.ints _ = _
        congr 1
        unfold Ut02.ints
        rw [List.map_flatMap]
        rfl
      rw [eb]
end
end Tm
set_option Elab.async false
set_option maxRecDepth 100000
set_option maxHeartbeats 2000000
namespace Tm
open PySem PySem.Spec PyProof.Rows L2
open Ut02 (Tag Seg Fault)
theorem tagRow_len : ∀ l : List Tag, (tagRow l).length = 3 * l.length
  | [] => rfl
  | g :: r => by
    show ((g.i : Int) :: b01 g.pair :: b01 g.must :: tagRow r).length = 3 * (r.length + 1)
    rw [List.length_cons, List.length_cons, List.length_cons, tagRow_len r]
    omega
theorem tagRow_at : ∀ (l : List Tag) (i : Nat) (g : Tag), l[i]? = some g → (tagRow l)[3 * i]? = some (g.i : Int) ∧ (tagRow l)[3 * i + 1]? = some (b01 g.pair) ∧ (tagRow l)[3 * i + 2]? = some (b01 g.must)
  | [], i, g, h => by simp at h
  | x :: l, 0, g, h => by
    simp at h
    subst h
    exact ⟨rfl, rfl, rfl⟩
  | x :: l, i + 1, g, h => by
    obtain ⟨h1, h2, h3⟩ := tagRow_at l i g (by simpa using h)
    exact ⟨by rw [show 3 * (i + 1) = 3 * i + 1 + 1 + 1 by omega]; exact h1, by rw [show 3 * (i + 1) + 1 = 3 * i + 1 + 1 + 1 + 1 by omega]; exact h2, by rw [show 3 * (i + 1) + 2 = 3 * i + 2 + 1 + 1 + 1 by omega]; exact h3⟩
theorem told_at {l : List Tag} {s : List Tk} {i : Nat} {g : Tag} (h : l[i]? = some g) (j : Nat) (hj : j < 3) : (toldRow l s)[1 + 3 * i + j]? = (tagRow l)[3 * i + j]? := by
  have hi : i < l.length := (List.getElem?_eq_some_iff.mp h).1
  unfold toldRow
  rw [show 1 + 3 * i + j = (3 * i + j) + 1 by omega, List.getElem?_cons_succ, List.getElem?_append_left (by rw [tagRow_len]; omega)]
theorem told_drop (l : List Tag) (s : List Tk) : (toldRow l s).drop (1 + 3 * l.length) = rowI s := by
  unfold toldRow
  rw [Nat.add_comm, List.drop_succ_cons, List.drop_left' (tagRow_len l)]
section
variable {P : Program} {w : World} {K : PySem.W.Frag} {mg : Str → Option Value} {base : Heap} {f : Addr} {fd : FuncData} {C : Addr}
theorem source_refused {g : Ut02.St} {l : List Tag} {s : List Tk} (h : Ut02.segOk s = false ∨ tagsOut l = true) : Ut02.step g (.source l s) = (g, [-1]) := by
  have e : Ut02.segOk s = false ∨ 6 < l.length ∨ (l.any fun t => decide (99 < t.i)) = true ∨ (l.map fun t => t.i).eraseDups.length ≠ l.length := by
    rcases h with h | h
    · exact .inl h
    · unfold tagsOut at h
      rw [Bool.or_eq_true] at h
      rcases h with h | h
      · rcases of_decide_eq_true h with h | h
        · exact .inr (.inl h)
        · exact .inr (.inr (.inr fun z => h ((nodup_ids l).mpr z)))
      · exact .inr (.inr (.inl h))
  show (if _ then _ else _) = _
  rw [if_pos e]
theorem source_taken {g : Ut02.St} {l : List Tag} {s : List Tk} (h1 : Ut02.segOk s = true) (h2 : tagsOut l = false) : Ut02.step g (.source l s) = if (faultsM (allMust l) s).isEmpty = false then (g, [-3]) else (⟨l, s, [], []⟩, Ut02.told ⟨l, s, [], []⟩) := by
  unfold tagsOut at h2
  rw [Bool.or_eq_false_iff] at h2
  have h3 := of_decide_eq_false h2.1
  have e : ¬ (Ut02.segOk s = false ∨ 6 < l.length ∨ (l.any fun t => decide (99 < t.i)) = true ∨ (l.map fun t => t.i).eraseDups.length ≠ l.length) := by
    rintro (z | z | z | z)
    · rw [h1] at z
      cases z
    · exact h3 (.inl z)
    · rw [h2.2] at z
      cases z
    · exact h3 (.inr fun y => z ((nodup_ids l).mp y))
  show (if _ then _ else if Ut02.isRight (allMust l) s = false then _ else _) = _
  rw [if_neg e, right_eq]
def spSource (C : Addr) (K : PySem.W.Frag) : Sp := fun vs H Q _ => ∃ (d e : Addr) (v : V) (A : List Addr) (g : Ut02.St) (l : List Tag) (s : List Tk), vs = [.ref d, v] ∧ DeskAt C K H d e A g ∧ Fine g ∧ IntL K H v (toldRow l s) ∧ l.length ≤ 60 ∧ s.length ≤ 1000 ∧ RetAns C K H d e A Q (Ut02.step g (.source l s))
/-- a field set -/
theorem field_step {d dx : Addr} {H : Hp} {fs' : List (Str × V)} : (upd H d (.ins C dx fs')) d = some (.ins C dx fs') ∧ ∀ b o, H b = some o → b ≠ d → (upd H d (.ins C dx fs')) b = some o :=
  ⟨upd_same, fun b o h n => by rw [upd_ne n]; exact h⟩
theorem ok_source_answer (F : Fun K "source_answer" "source_answer" s_source_answer f fd) (T : Txt K mg) (L : Cl K mg C) (c_read_segment : Cal P w K mg base 1 "read_segment" ["numbers"] (spRead K)) (c_is_too_much : Cal P w K mg base 1 "is_too_much" ["things"] (spTooMuch K)) (c_has_great_number : Cal P w K mg base 1 "has_great_number" ["things"] (spGreat K))
    (c_are_tags_out_of_range : Cal P w K mg base 1 "are_tags_out_of_range" ["tags"] (spTagsOut K)) (c_is_as_told : Cal P w K mg base 5 "is_as_told" ["tags", "things"] (spTold K))
    (c_standing : Cal P w K mg base 5 "standing" ["desk"] (spStanding C K)) : FnOk P w K mg base CX0 6 f fd ["desk", "told"] (spSource C K) := by
  refine F.ok sc_source_answer (fun vs H Q E h => ?_) (fun cdv A outer st H vs Q E hr h => ?_)
  · obtain ⟨d, e, v, A, g, l, s, rfl, _⟩ := h
    rfl
  · obtain ⟨d, e, v, A, g, l, s, rfl, D, G, hv, hl, hsl, k⟩ := h
    refine ⟨_, (pss_cons (ps_set (i := 2) sc_source_answer.nd rfl (Or.inl rfl) (pe_op op_add pe_int (pe_op op_mul pe_int (pe_ix (k_ixL K) (pv 1) pe_int (fun _ _ => rfl)))))
      (pss_cons (ps_setLc (i := 3) (own := [("k", 5)]) (by rfl) sc_source_answer.nd rfl rfl (sw_true rfl rfl rfl (by decide +kernel)) (pi_range3 (by rfl) T.m_range (pa_cons pe_int (pa_cons (pv 2) (pa_cons pe_int pa_nil)))) (blkOk_by (own := [("k", 5)]) (N := N_source_answer) (sc := defScope s_source_answer) (by decide +kernel)) (fun _ _ _ _ _ => (pg_name (i := 5) sc_source_answer.nd rfl (Or.inl rfl))) (fun _ _ _ _ _ => pts_nil) (fun _ _ _ _ _ => (pe_tup (pa_cons (pe_ix (k_ixL K) (pv 1) (pv 5) (fun _ _ => rfl)) (pa_cons (pe_ix (k_ixL K) (pv 1) (pe_op op_add (pv 5) pe_int) (fun _ _ => rfl)) (pa_cons (pe_ix (k_ixL K) (pv 1) (pe_op op_add (pv 5) pe_int) (fun _ _ => rfl)) pa_nil))))))
      (pss_cons (ps_set (i := 4) sc_source_answer.nd rfl (Or.inl rfl) (pe_u c_read_segment (hr.mono (by decide)) (pa_cons (pe_slice (k_slL K) (pv 1) (po_some (pv 2)) po_none) pa_nil)))
      (pss_cons (ps_if (PW.pt (pw_or (pt_val (pe_u c_is_too_much (hr.mono (by decide)) (pa_cons (pv 4) pa_nil))) (pw_or (pt_val (pe_u c_has_great_number (hr.mono (by decide)) (pa_cons (pv 4) pa_nil))) (pw_or1 (pt_val (pe_u c_are_tags_out_of_range (hr.mono (by decide)) (pa_cons (pv 3) pa_nil))))))) (pss_one (ps_ret (pe_lst (pa_cons (pe_gi T.m_OUT_OF_RANGE) pa_nil)))) pss_nil)
      (pss_cons (ps_if (pt_not (pt_val (pe_u c_is_as_told (hr.mono (by decide)) (pa_cons (pv 3) (pa_cons (pv 4) pa_nil))))) (pss_one (ps_ret (pe_lst (pa_cons (pe_gi T.m_NOT_AS_TOLD) pa_nil)))) pss_nil)
      (pss_cons (ps_fld (pv 0) (pv 3) rfl)
      (pss_cons (ps_fld (pv 0) (pv 4) rfl)
      (pss_cons (ps_fld (pv 0) (pe_lst pa_nil) rfl)
      (pss_cons (ps_fld (pv 0) (pe_lst pa_nil) rfl)
      (pss_one (ps_ret (pe_u c_standing (hr.mono (by decide)) (pa_cons (pv 0) pa_nil))))))))))))), ?_⟩
    obtain ⟨a, xs, rfl, hsq, hall⟩ := dp_list hv
    have hxs := dpAll_ints hall
    subst hxs
    -- segment_start = 1 + 3 * told[0]
    refine ⟨_, rfl, a, _, 0, .int l.length, rfl, rfl, hsq, at_of (j := 0) rfl rfl, _, _, rfl, rfl, .inl ⟨by decide, by decide⟩, _, _, rfl, rfl, ?_⟩
    -- tags = [..]
    refine ⟨_, rfl, _, _, _, l.length, rfl, rgUp (by decide) (by decide) (by decide) rfl (by omega), fun D1 hD1 => ?_⟩
    refine lc_it walk_rangeC (fun i H' => Same H H' ∧ ∃ ys, H' D1 = some (.lst ys) ∧ ys.length = i ∧ DpAll K H' ys ((l.take i).map tagD)) ⟨same_new hD1, [], upd_same, rfl, .nil⟩ (fun _ _ _ _ => trivial) ?_ ?_
    · rintro i x H1 H2 hi ⟨sm, ys, hy, hyl, ha⟩ ⟨rfl, rfl⟩
      obtain ⟨t, ht⟩ : ∃ t, l[i]? = some t := ⟨l[i], by simp [hi]⟩
      obtain ⟨g1, g2, g3⟩ := tagRow_at l i t ht
      have hlt : i < l.length := hi
      refine ⟨rfl, yes_if ?_⟩
      refine ⟨_, rfl, _, rfl, a, _, _, _, rfl, rfl, (sameI sm).seq hsq, at_of (j := 1 + 3 * i + 0) (by omega) (by rw [List.getElem?_map, told_at ht 0 (by decide), Nat.add_zero, g1]; rfl), ?_⟩
      refine ⟨_, rfl, _, rfl, _, _, rfl, rfl, a, _, _, _, rfl, rfl, (sameI sm).seq hsq, at_of (j := 1 + 3 * i + 1) (by omega) (by rw [List.getElem?_map, told_at ht 1 (by decide), g2]; rfl), ?_⟩
      refine ⟨_, rfl, _, rfl, _, _, rfl, rfl, a, _, _, _, rfl, rfl, (sameI sm).seq hsq, at_of (j := 1 + 3 * i + 2) (by omega) (by rw [List.getElem?_map, told_at ht 2 (by decide), g3]; rfl), ?_⟩
      refine ⟨szle (by show 3 ≤ 100000; decide), fun p hp => ?_⟩
      have np : D1 ≠ p := ne_of_none hy hp
      refine ⟨ys, by rw [upd_ne np]; exact hy, szl (by omega), same_upd hD1 (same_upd (sm.free hp) sm), ys ++ [V.ref p], upd_same, by simp [hyl], ?_⟩
      rw [(split_at ht).2, List.map_append]
      have st : SameT H2 (upd (upd H2 p (.tup [.int t.i, .int (b01 t.pair), .int (b01 t.must)])) D1 (.lst (ys ++ [V.ref p]))) := (sameT (same_new hp)).trans (sameT_upd (by rw [upd_ne np]; exact hy))
      refine dpAll_app (dpAll_flat st (fun d hd => ?_) ha) (dpAll_one (three_dp (SqT.of ?_)))
      · obtain ⟨z, _, rfl⟩ := List.mem_map.mp hd
        exact tag_flat z
      · rw [upd_ne np.symm, upd_same]
    rintro H1 ⟨s1, ts, hts, htl, hta⟩
    rw [List.take_length] at hta
    have hT : LT K H1 D1 (l.map tagD) := ⟨ts, hts, hta⟩
    -- things = read_segment(told[segment_start:])
    refine ⟨_, rfl, _, rfl, _, rfl, a, _, rfl, (sameI s1).seq hsq, fun p1 hp1 => ?_⟩
    have ecut : cutV ((toldRow l s).map V.int) (some (1 + 3 * (l.length : Int))) none = (rowI s).map V.int := by
      rw [show (1 + 3 * (l.length : Int)) = ((1 + 3 * l.length : Nat) : Int) by omega, cut_drop, ← List.map_drop, told_drop]
    have ecut' := ecut
    refine ⟨.ref p1, s, rfl, .lst (SqL.of (by rw [upd_same]; exact congrArg (fun q => some (HO.lst q)) ecut)) (ints_dpAll _), hsl, fun H2 p ys s2 hp hy hya => ?_⟩
    have s12 : Same H1 H2 := (same_new hp1).trans s2
    have hS : LT K H2 p (s.map tokD) := ⟨ys, hy, hya⟩
    have hT2 := hT.sameI (sameI s12)
    have sH2 := s1.trans s12
    have hpH : H p = none := (s1.trans (same_new hp1)).free hp
    dsimp only [gName, tNext, tSeq]
    refine if_or ?_
    refine ⟨_, rfl, _, s, rfl, hS.dp, hsl, fun H3 s3 => ⟨_, rfl, ?_⟩⟩
    refine ifB (fun h => ?_) (fun h => ?_)
    · rw [source_refused (.inl (by rw [segOk_eq, h]; rfl))] at k
      exact rd_ref (σ := []) (D.same (sH2.trans s3)) (k.mono (sH2.trans s3))
    refine if_or ?_
    refine ⟨_, rfl, _, s, rfl, (hS.sameI (sameI s3)).dp, hsl, fun H3' s3' => ⟨_, rfl, ?_⟩⟩
    refine ifB (fun h' => ?_) (fun h' => ?_)
    · have hno : Ut02.segOk s = false := by
        rw [segOk_eq]
        cases z : s.all Ut02.tokOk with
        | false => exact Bool.and_false _
        | true =>
          rw [z] at h'
          cases h'
      rw [source_refused (.inl hno)] at k
      exact rd_ref (σ := []) (D.same ((sH2.trans s3).trans s3')) (k.mono ((sH2.trans s3).trans s3'))
    have hseg : Ut02.segOk s = true := by
      rw [segOk_eq, h]
      simpa using h'
    replace s3 := s3.trans s3'
    refine ⟨_, rfl, _, l, rfl, (hT2.sameI (sameI s3)).dp, hl, fun H4 s4 => ⟨_, rfl, ?_⟩⟩
    have s34 := s3.trans s4
    refine ifB (fun h2 => ?_) (fun h2 => ?_)
    · rw [source_refused (.inr h2)] at k
      exact rd_ref (σ := []) (D.same (sH2.trans s34)) (k.mono (sH2.trans s34))
    rw [source_taken hseg h2] at k
    refine ⟨_, rfl, _, rfl, _, _, l, s, rfl, (hT2.sameI (sameI s34)).dp, (hS.sameI (sameI s34)).dp, hl, hsl, fun H5 s5 => ⟨_, rfl, ?_⟩⟩
    have s35 := s34.trans s5
    have sH5 := sH2.trans s35
    refine ifB (fun h3 => ?_) (fun h3 => ?_)
    · have h3' : (faultsM (allMust l) s).isEmpty = false := by simpa using h3
      rw [if_pos h3'] at k
      exact rd_ref (σ := []) (D.same sH5) (k.mono sH5)
    have h3' : (faultsM (allMust l) s).isEmpty = true := by simpa using h3
    rw [if_neg (fun z => by rw [h3'] at z; cases z)] at k
    have hT5 := hT2.sameI (sameI s35)
    have hS5 := hS.sameI (sameI s35)
    -- desk.tags = tags; desk.source_things = things; desk.things = []; desk.earlier = []; return standing(desk)
    obtain ⟨dx, at', ao, as, es, D0⟩ := id D
    have hd5 := sH5 _ _ D0.hd
    refine ⟨_, rfl, _, rfl, d, C, dx, _, rfl, hd5, L.cl, L.n_tags, (by show 4 < 1000; decide), ?_⟩
    rw [dF_putTags]
    obtain ⟨hd6, c6⟩ := field_step (C := C) (d := d) (dx := dx) (H := H5) (fs' := dF (.ref D1) (.ref ao) (.ref as) (.ref e))
    generalize upd H5 d (.ins C dx (dF (.ref D1) (.ref ao) (.ref as) (.ref e))) = H6 at hd6 c6 ⊢
    refine ⟨_, rfl, _, rfl, d, C, dx, _, rfl, hd6, L.cl, L.n_source, (by show 4 < 1000; decide), ?_⟩
    rw [dF_putSource]
    obtain ⟨hd7, c7⟩ := field_step (C := C) (d := d) (dx := dx) (H := H6) (fs' := dF (.ref D1) (.ref p) (.ref as) (.ref e))
    generalize upd H6 d (.ins C dx (dF (.ref D1) (.ref p) (.ref as) (.ref e))) = H7 at hd7 c7 ⊢
    refine ⟨Nat.zero_le _, fun p2 h2' => ?_⟩
    refine ⟨_, rfl, d, C, dx, _, rfl, by rw [upd_ne (ne_of_none hd7 h2')]; exact hd7, L.cl, L.n_things, (by show 4 < 1000; decide), ?_⟩
    rw [dF_putThings]
    have S8 : Ist C d dx H7 _ p2 (dF (.ref D1) (.ref p) (.ref p2) (.ref e)) := init_step hd7 h2'
    generalize upd (upd H7 p2 (.lst [])) d (.ins C dx (dF (.ref D1) (.ref p) (.ref p2) (.ref e))) = H8 at S8 ⊢
    refine ⟨Nat.zero_le _, fun p3 h3'' => ?_⟩
    refine ⟨_, rfl, d, C, dx, _, rfl, by rw [upd_ne (ne_of_none S8.hd h3'')]; exact S8.hd, L.cl, L.n_earlier, (by show 4 < 1000; decide), ?_⟩
    rw [dF_putEarlier]
    have S9 : Ist C d dx H8 _ p3 (dF (.ref D1) (.ref p) (.ref p2) (.ref p3)) := init_step S8.hd h3''
    generalize upd (upd H8 p3 (.lst [])) d (.ins C dx (dF (.ref D1) (.ref p) (.ref p2) (.ref p3))) = H9 at S9 ⊢
    have c57 : ∀ b o, H5 b = some o → b ≠ d → H7 b = some o := fun b o h n => c7 b o (c6 b o h n) n
    have c58 : ∀ b o, H5 b = some o → b ≠ d → H8 b = some o := fun b o h n => S8.ch b o (c57 b o h n) n
    have c59 : ∀ b o, H5 b = some o → b ≠ d → H9 b = some o := fun b o h n => S9.ch b o (c58 b o h n) n
    have toI : ∀ {H' : Hp}, (∀ b o, H5 b = some o → b ≠ d → H' b = some o) → SameI H5 H' := fun {H'} c b o h n => c b o h fun z => by
      rw [z, hd5] at h
      cases h
      exact n C dx _ rfl
    have fr : ∀ {H' : Hp} {q : Addr}, (∀ b o, H5 b = some o → b ≠ d → H' b = some o) → q ≠ d → H' q = none → H q = none := fun {H' q} c n h => by
      refine sH5.free ?_
      cases z : H5 q with
      | none => rfl
      | some o =>
        rw [c q o z n] at h
        cases h
    have hD8 := hT5.sameI (toI c58)
    have hp8 := hS5.sameI (toI c58)
    have n1 : D1 ≠ p3 := fun z => hD8.some (z ▸ h3'')
    have n2 : p ≠ p3 := fun z => hp8.some (z ▸ h3'')
    have n3 : p2 ≠ p3 := ne_of_none S8.hp h3''
    have hD9 := hT5.sameI (toI c59)
    have hp9 := hS5.sameI (toI c59)
    have h29 : H9 p2 = some (.lst []) := S9.at S8.hp S8.nd
    have D3 : DeskAt C K H9 d p3 [D1, p, p2, p3] ⟨l, s, [], []⟩ := by
      refine ⟨dx, D1, p, p2, [], S9.hd, by simp, by simp, by simp, by simp, n1, n2, n3, hD9, hp9, ⟨[], h29, .nil⟩, S9.hp, .nil, fun a ha => ?_⟩
      simp only [List.mem_cons, List.not_mem_nil, or_false] at ha
      rcases ha with rfl | rfl | rfl | rfl
      · exact hD9.some
      · exact hp9.some
      · rw [h29]
        exact fun z => nomatch z
      · rw [S9.hp]
        exact fun z => nomatch z
    refine ⟨_, rfl, d, p3, [D1, p, p2, p3], _, rfl, D3, hl, Nat.zero_le _, fun H10 q s10 hq hz => ?_⟩
    have hH9 : ∀ b o, H b = some o → b ≠ d → H9 b = some o := fun b o h n => c59 b o (sH5 _ _ h) n
    have nqd : q ≠ d := fun z => by
      rw [z, S9.hd] at hq
      cases hq
    refine k H10 q p3 [D1, p, p2, p3] (fun b o h n _ => s10 _ _ (hH9 b o h n)) (fun a ha => ?_) (D3.same s10) (fr c59 nqd hq) hz
    simp only [List.mem_cons, List.not_mem_nil, or_false] at ha
    rcases ha with rfl | rfl | rfl | rfl
    · exact .inr hD1
    · exact .inr hpH
    · exact .inr (fr c57 S8.nd h2')
    · exact .inr (fr c58 S9.nd h3'')
end
end Tm
set_option Elab.async false
set_option maxRecDepth 100000
set_option maxHeartbeats 2000000
namespace Tm
open PySem PySem.Spec PyProof.Rows L2
open Ut02 (Tag Seg Fault)
/-! ### segments that stay right -/
theorem segOk_sub {s u : List Tk} (h : s.Sublist u) (hu : Ut02.segOk u = true) : Ut02.segOk s = true := by
  obtain ⟨h1, h2, h3⟩ := (segOk_iff _).mp hu
  rw [List.all_eq_true] at h3
  refine (segOk_iff _).mpr ⟨Nat.le_trans h.length_le h1, ?_, ?_⟩
  · unfold Ut02.tagCount at h2 ⊢
    exact Nat.le_trans (h.filter _).length_le h2
  · rw [List.all_eq_true]
    exact fun t ht => h3 t (h.subset ht)
theorem segOk_perm {s u : List Tk} (h : s.Perm u) (hu : Ut02.segOk u = true) : Ut02.segOk s = true := by
  obtain ⟨h1, h2, h3⟩ := (segOk_iff _).mp hu
  rw [List.all_eq_true] at h3
  refine (segOk_iff _).mpr ⟨by rw [h.length_eq]; exact h1, ?_, ?_⟩
  · unfold Ut02.tagCount at h2 ⊢
    rw [(h.filter _).length_eq]
    exact h2
  · rw [List.all_eq_true]
    exact fun t ht => h3 t (h.mem_iff.mp ht)
def outOf (s : List Tk) (n : Nat) : List Tk := s.take n ++ s.drop (n + 1)
theorem outOf_sub (s : List Tk) (n : Nat) : (outOf s n).Sublist s := by
  unfold outOf
  rw [← List.eraseIdx_eq_take_drop_succ]
  exact List.eraseIdx_sublist _ _
theorem outOf_perm {s : List Tk} {n : Nat} {t : Tk} (h : s[n]? = some t) : (t :: outOf s n).Perm s := by
  obtain ⟨e, _⟩ := split_at h
  have hp : (s.take n ++ t :: s.drop (n + 1)).Perm (t :: (s.take n ++ s.drop (n + 1))) := List.perm_middle
  rw [← e] at hp
  exact hp.symm
theorem into_perm (o : List Tk) (q : Nat) (t : Tk) : (o.take q ++ (t :: o.drop q)).Perm (t :: o) := by
  have hp : (o.take q ++ t :: o.drop q).Perm (t :: (o.take q ++ o.drop q)) := List.perm_middle
  rw [List.take_append_drop] at hp
  exact hp
section
variable {P : Program} {w : World} {K : PySem.W.Frag} {mg : Str → Option Value} {base : Heap} {f : Addr} {fd : FuncData} {C : Addr}
/-- a new list, and one that stands there -/
theorem ev_catR {σ : L2.St} {H : Hp} {ta tb : TE} {a : Addr} {d1 d2 : List PyData} (h1 : Ev K ta σ H d1) (h2 : Pur tb σ H (.ref a)) (hd : Dp K H (.ref a) (.list d2)) (hl : d1.length + d2.length ≤ 100000) : Ev K (tOp (rCatQ K) ta tb) σ H (d1 ++ d2) := fun H1 s Q q => by
  obtain ⟨a', xs, ea, hsq, hall⟩ := dp_list hd
  cases ea
  exact h1 H1 s _ fun H2 p1 x1 s1 _ hx ha => h2 H2 (s.trans s1) _
    ⟨p1, a, x1, xs, rfl, rfl, SqL.of hx, (sameI (s.trans s1)).seq hsq, szle (by rw [dpAll_len hall, dpAll_len ha]; exact hl), fun p hp =>
      q _ p _ (s1.trans (same_new hp)) (s1.free hp) upd_same (dpAll_app (dpAllI (sameI (same_new hp)) ha) (dpAllI (sameI ((s.trans s1).trans (same_new hp))) hall))⟩
/-! ### without -/
def spWithout (K : PySem.W.Frag) : Sp := fun vs H Q _ => ∃ (v : V) (s : List Tk) (n : Nat), vs = [v, .int n] ∧ TokL K H v s ∧ s.length ≤ 1000 ∧ RetL K H Q ((outOf s n).map tokD)
theorem ok_without (F : Fun K "without" "without" s_without f fd) : FnOk P w K mg base CX0 1 f fd ["things", "spot"] (spWithout K) := by
  refine F.ok sc_without (fun vs H Q E h => ?_) (fun cdv A outer st H vs Q E hr h => ?_)
  · obtain ⟨v, s, n, rfl, _⟩ := h
    rfl
  · obtain ⟨v, s, n, rfl, hv, hl, k⟩ := h
    refine ⟨_, (pss_one (ps_ret (pe_op (k_cat K) (pe_slice (k_slL K) (pv 0) po_none (po_some (pv 1))) (pe_slice (k_slL K) (pv 0) (po_some (pe_op op_add (pv 1) pe_int)) po_none)))), ?_⟩
    obtain ⟨a, xs, rfl, hsq, hxl⟩ := len_of hv
    refine ev_cat (ev_take (pur_var rfl) hv (pur_var rfl)) (ev_drop (n := n + 1) (pur_var rfl) hv (pur_i2 (g := fun i j => .int (i + j)) (i := n) (j := 1) (pur_var rfl) pur_c)) ?_ H (Same.refl _) _ fun H1 p ys s1 hp hy hya => ?_
    · rw [List.length_take, List.length_drop, List.length_map]
      omega
    · refine k _ p ys s1 hp hy ?_
      unfold outOf
      rw [List.map_append, List.map_take, List.map_drop]
      exact hya
/-! ### refusal_of_taking -/
def refV (s : List Tk) (n : Nat) : V := match s[n]? with
  | none => .int (-1)
  | some t => if Ut02.isTag t = true then .non else .int (-6)
theorem refV_none {s : List Tk} {n : Nat} (h : s[n]? = none) : refV s n = .int (-1) := by
  unfold refV
  rw [h]
theorem refV_word {s : List Tk} {n : Nat} {t : Tk} (h : s[n]? = some t) (h2 : Ut02.isTag t = false) : refV s n = .int (-6) := by
  unfold refV
  rw [h]
  show (if Ut02.isTag t = true then V.non else V.int (-6)) = _
  rw [h2, if_neg Bool.false_ne_true]
theorem refV_tag {s : List Tk} {n : Nat} {t : Tk} (h : s[n]? = some t) (h2 : Ut02.isTag t = true) : refV s n = .non := by
  unfold refV
  rw [h]
  show (if Ut02.isTag t = true then V.non else V.int (-6)) = _
  rw [h2, if_pos rfl]
def spRefuse (K : PySem.W.Frag) : Sp := fun vs H Q _ => ∃ (v : V) (s : List Tk) (n : Nat), vs = [v, .int n] ∧ TokL K H v s ∧ Q (refV s n) H
theorem ok_refusal_of_taking (F : Fun K "refusal_of_taking" "refusal_of_taking" s_refusal_of_taking f fd) (T : Txt K mg) : FnOk P w K mg base CX0 1 f fd ["things", "spot"] (spRefuse K) := by
  refine F.ok sc_refusal_of_taking (fun vs H Q E h => ?_) (fun cdv A outer st H vs Q E hr h => ?_)
  · obtain ⟨v, s, n, rfl, _⟩ := h
    rfl
  · obtain ⟨v, s, n, rfl, hv, k⟩ := h
    refine ⟨_, (pss_cons (ps_if (pt_cmpR op_ge (pv 1) (pe_callB call_len_seq (by rfl) T.m_len PySem.boot_len (pa_cons (pv 0) pa_nil)) (nomark _)) (pss_one (ps_ret (pe_gi T.m_OUT_OF_RANGE))) pss_nil)
      (pss_cons (ps_if (pt_cmpR k_eqI (pe_ix (k_ixT K) (pe_ix (k_ixL K) (pv 0) (pv 1) (fun _ _ => rfl)) pe_int (fun _ _ => rfl)) (pe_gi T.m_WORD) (nomark _)) (pss_one (ps_ret (pe_gi T.m_IS_A_WORD))) pss_nil)
      (pss_one (ps_ret pe_non)))), ?_⟩
    obtain ⟨a, xs, rfl, hsq, hall⟩ := dp_list hv
    have hxl : xs.length = s.length := by rw [dpAll_len hall, List.length_map]
    unfold refV at k
    refine ⟨_, rfl, _, rfl, a, _, rfl, .inl hsq, _, _, rfl, rfl, _, rfl, ?_⟩
    rw [hxl]
    refine ite2 (fun h => ?_) (fun h => ?_)
    · have h' := of_decide_eq_true h
      rw [List.getElem?_eq_none (by omega)] at k
      exact k
    have hlt : n < s.length := Nat.lt_of_not_le fun z => h (decide_eq_true (by omega))
    have ht : s[n]? = some s[n] := List.getElem?_eq_getElem hlt
    generalize s[n] = t at ht
    rw [ht] at k
    obtain ⟨x, hx, hxd⟩ := dpAll_at hall (i := n) (d := tokD t) (by rw [List.getElem?_map, ht]; rfl)
    obtain ⟨b, rfl, hb⟩ := dp_tok hxd
    refine ⟨_, rfl, _, rfl, a, _, _, _, rfl, rfl, hsq, at_of (j := n) (by omega) hx, b, _, 0, _, rfl, rfl, hb, rfl, _, _, rfl, rfl, _, rfl, ?_⟩
    rw [kind_eq]
    have k : Q (if Ut02.isTag t = true then V.non else V.int (-6)) H := k
    refine ifB (fun h2 => ?_) (fun h2 => ?_)
    · have h2' : Ut02.isTag t = false := by simpa using h2
      rw [h2', if_neg Bool.false_ne_true] at k
      exact k
    · have h2' : Ut02.isTag t = true := by simpa using h2
      rw [h2', if_pos rfl] at k
      exact k
/-! ### take_answer -/
def spTake (C : Addr) (K : PySem.W.Frag) : Sp := fun vs H Q _ => ∃ (d e : Addr) (A : List Addr) (g : Ut02.St) (n : Nat), vs = [.ref d, .int n] ∧ DeskAt C K H d e A g ∧ Fine g ∧ RetAns C K H d e A Q (Ut02.step g (.take n))
theorem rd_refV {d e : Addr} {A : List Addr} {H : Hp} {Q : VK} {g : Ut02.St} {c : Int} {σ : L2.St} {i : Nat} (hi : σ[i]? = some (some (.int c))) (D : DeskAt C K H d e A g) (k : RetAns C K H d e A Q (g, [c])) : tLst (tCons (tVar i) tNil) σ H Q :=
  ⟨_, hi, szle (by show 1 ≤ 100000; decide), fun p hp => k _ p e A (Changed.of (same_new hp)) (fun _ h => .inl h) (D.same (same_new hp)) hp upd_same⟩
theorem ok_take_answer (F : Fun K "take_answer" "take_answer" s_take_answer f fd) (L : Cl K mg C) (c_refusal_of_taking : Cal P w K mg base 1 "refusal_of_taking" ["things", "spot"] (spRefuse K)) (c_without : Cal P w K mg base 1 "without" ["things", "spot"] (spWithout K))
    (c_change : Cal P w K mg base 6 "change" ["desk", "things"] (spChange C K)) : FnOk P w K mg base CX0 7 f fd ["desk", "spot"] (spTake C K) := by
  refine F.ok sc_take_answer (fun vs H Q E h => ?_) (fun cdv A outer st H vs Q E hr h => ?_)
  · obtain ⟨d, e, A, g, n, rfl, _⟩ := h
    rfl
  · obtain ⟨d, e, A, g, n, rfl, D, G, k⟩ := h
    refine ⟨_, (pss_cons (ps_set (i := 2) sc_take_answer.nd rfl (Or.inl rfl) (pe_u c_refusal_of_taking (hr.mono (by decide)) (pa_cons (pe_fld (pv 0) rfl) (pa_cons (pv 1) pa_nil))))
      (pss_cons (ps_if (pt_cmpR op_notN (pv 2) pe_non (nomark _)) (pss_one (ps_ret (pe_lst (pa_cons (pv 2) pa_nil)))) pss_nil)
      (pss_one (ps_ret (pe_u c_change (hr.mono (by decide)) (pa_cons (pv 0) (pa_cons (pe_u c_without (hr.mono (by decide)) (pa_cons (pe_fld (pv 0) rfl) (pa_cons (pv 1) pa_nil))) pa_nil))))))), ?_⟩
    obtain ⟨dx, at', ao, as, es, D0⟩ := id D
    obtain ⟨g1, g2, g3⟩ := (segOk_iff _).mp G.1.tgt
    have eb : Ut02.step g (.take n) = (match g.target[n]? with
      | none => (g, [-1])
      | some t => if Ut02.isTag t = false then (g, [-6]) else Ut02.becomes g (outOf g.target n)) := rfl
    rw [eb] at k
    refine ⟨_, rfl, d, C, dx, _, _, rfl, D0.hd, L.cl, L.n_things, dF_things _ _ _ _, _, rfl, _, g.target, n, rfl, D0.hs.dp, ?_⟩
    cases ht : g.target[n]? with
    | none =>
      rw [ht] at k
      rw [refV_none ht]
      exact ⟨_, rfl, rfl, _, rfl, rd_refV rfl D k⟩
    | some t =>
      rw [ht] at k
      have k : RetAns C K H d e A Q (if Ut02.isTag t = false then (g, [-6]) else Ut02.becomes g (outOf g.target n)) := k
      cases h2 : Ut02.isTag t with
      | false =>
        rw [h2, if_pos rfl] at k
        rw [refV_word ht h2]
        exact ⟨_, rfl, rfl, _, rfl, rd_refV rfl D k⟩
      | true =>
        rw [h2, if_neg (fun z => Bool.noConfusion z)] at k
        rw [refV_tag ht h2]
        refine ⟨_, rfl, rfl, _, rfl, ?_⟩
        refine ⟨_, rfl, _, rfl, d, C, dx, _, _, rfl, D0.hd, L.cl, L.n_things, dF_things _ _ _ _, _, rfl, _, g.target, n, rfl, D0.hs.dp, by omega, fun H1 p ys s1 hp hy hya => ?_⟩
        exact ret_change D G s1 hp ⟨ys, hy, hya⟩ (segOk_sub (outOf_sub _ _) G.1.tgt) k rfl
/-! ### move_answer -/
def spMove (C : Addr) (K : PySem.W.Frag) : Sp := fun vs H Q _ => ∃ (d e : Addr) (A : List Addr) (g : Ut02.St) (n m : Nat), vs = [.ref d, .int n, .int m] ∧ DeskAt C K H d e A g ∧ Fine g ∧ RetAns C K H d e A Q (Ut02.step g (.move n m))
theorem ok_move_answer (F : Fun K "move_answer" "move_answer" s_move_answer f fd) (T : Txt K mg) (L : Cl K mg C) (c_refusal_of_taking : Cal P w K mg base 1 "refusal_of_taking" ["things", "spot"] (spRefuse K)) (c_without : Cal P w K mg base 1 "without" ["things", "spot"] (spWithout K))
    (c_change : Cal P w K mg base 6 "change" ["desk", "things"] (spChange C K)) : FnOk P w K mg base CX0 7 f fd ["desk", "spot", "other"] (spMove C K) := by
  refine F.ok sc_move_answer (fun vs H Q E h => ?_) (fun cdv A outer st H vs Q E hr h => ?_)
  · obtain ⟨d, e, A, g, n, m, rfl, _⟩ := h
    rfl
  · obtain ⟨d, e, A, g, n, m, rfl, D, G, k⟩ := h
    refine ⟨_, (pss_cons (ps_set (i := 3) sc_move_answer.nd rfl (Or.inl rfl) (pe_u c_refusal_of_taking (hr.mono (by decide)) (pa_cons (pe_fld (pv 0) rfl) (pa_cons (pv 1) pa_nil))))
      (pss_cons (ps_if (pt_cmpR op_notN (pv 3) pe_non (nomark _)) (pss_one (ps_ret (pe_lst (pa_cons (pv 3) pa_nil)))) pss_nil)
      (pss_cons (ps_set (i := 4) sc_move_answer.nd rfl (Or.inl rfl) (pe_u c_without (hr.mono (by decide)) (pa_cons (pe_fld (pv 0) rfl) (pa_cons (pv 1) pa_nil))))
      (pss_cons (ps_if (pt_cmpR op_gt (pv 2) (pe_callB call_len_seq (by rfl) T.m_len PySem.boot_len (pa_cons (pv 4) pa_nil)) (nomark _)) (pss_one (ps_ret (pe_lst (pa_cons (pe_gi T.m_OUT_OF_RANGE) pa_nil)))) pss_nil)
      (pss_one (ps_ret (pe_u c_change (hr.mono (by decide)) (pa_cons (pv 0) (pa_cons (pe_op (k_cat K) (pe_op (k_cat K) (pe_slice (k_slL K) (pv 4) po_none (po_some (pv 2))) (pe_lst (pa_cons (pe_ix (k_ixL K) (pe_fld (pv 0) rfl) (pv 1) (fun _ _ => rfl)) pa_nil))) (pe_slice (k_slL K) (pv 4) (po_some (pv 2)) po_none)) pa_nil))))))))), ?_⟩
    obtain ⟨dx, at', ao, as, es, D0⟩ := id D
    obtain ⟨g1, g2, g3⟩ := (segOk_iff _).mp G.1.tgt
    have eb : Ut02.step g (.move n m) = (match g.target[n]? with
      | none => (g, [-1])
      | some t => if Ut02.isTag t = false then (g, [-6]) else if (outOf g.target n).length < m then (g, [-1]) else Ut02.becomes g ((outOf g.target n).take m ++ (t :: (outOf g.target n).drop m))) := rfl
    rw [eb] at k
    refine ⟨_, rfl, d, C, dx, _, _, rfl, D0.hd, L.cl, L.n_things, dF_things _ _ _ _, _, rfl, _, g.target, n, rfl, D0.hs.dp, ?_⟩
    cases ht : g.target[n]? with
    | none =>
      rw [ht] at k
      rw [refV_none ht]
      exact ⟨_, rfl, rfl, _, rfl, rd_refV rfl D k⟩
    | some t =>
      rw [ht] at k
      have k : RetAns C K H d e A Q (if Ut02.isTag t = false then (g, [-6]) else if (outOf g.target n).length < m then (g, [-1]) else Ut02.becomes g ((outOf g.target n).take m ++ (t :: (outOf g.target n).drop m))) := k
      cases h2 : Ut02.isTag t with
      | false =>
        rw [h2, if_pos rfl] at k
        rw [refV_word ht h2]
        exact ⟨_, rfl, rfl, _, rfl, rd_refV rfl D k⟩
      | true =>
        rw [h2, if_neg (fun z => Bool.noConfusion z)] at k
        rw [refV_tag ht h2]
        refine ⟨_, rfl, rfl, _, rfl, ?_⟩
        -- others = without(desk.things, spot)
        refine ⟨_, rfl, d, C, dx, _, _, rfl, D0.hd, L.cl, L.n_things, dF_things _ _ _ _, _, rfl, _, g.target, n, rfl, D0.hs.dp, by omega, fun H1 p ys s1 hp hy hya => ?_⟩
        have hyl := dpAll_len hya
        rw [List.length_map] at hyl
        have hol : (outOf g.target n).length ≤ 16 := Nat.le_trans (outOf_sub _ _).length_le g1
        have hperm := (into_perm (outOf g.target n) m t).trans (outOf_perm ht)
        have hLT : LT K H1 p ((outOf g.target n).map tokD) := ⟨ys, hy, hya⟩
        generalize outOf g.target n = o at hya hyl hol hperm hLT k
        have D1 := D0.same s1
        refine ⟨_, rfl, _, rfl, p, _, rfl, .inl (SqL.of hy), _, _, rfl, rfl, _, rfl, ?_⟩
        rw [hyl, nat_lt]
        refine ite2 (fun h => ?_) (fun h => ?_)
        · rw [if_pos (of_decide_eq_true h)] at k
          exact rd_ref (σ := []) (D.same s1) (k.mono s1)
        rw [if_neg (fun z => h (decide_eq_true z))] at k
        -- change(desk, others[:other] + [desk.things[spot]] + others[other:])
        refine ⟨_, rfl, ?_⟩
        obtain ⟨xs, hx, hxa⟩ := id D1.hs
        obtain ⟨x, hxn, hxd⟩ := dpAll_at hxa (i := n) (d := tokD t) (by rw [List.getElem?_map, ht]; rfl)
        have pf : Pur (tFld K (tVar 0) "things") [some (.ref d), some (.int n), some (.int m), some .non, some (.ref p)] H1 (.ref as) := pur_fld (pur_var rfl) D1.hd L.cl L.n_things (dF_things _ _ _ _)
        refine ev_cat (ev_cat (ev_take (pur_var rfl) hLT.dp (pur_var rfl)) (ev_one (evd_pur (pur_ixL pf (SqL.of hx) (pur_var rfl) (at_of (j := n) (by omega) hxn)) hxd)) ?_) (ev_drop (pur_var rfl) hLT.dp (pur_var rfl)) ?_ H1 (Same.refl _) _ fun H2 p2 zs s2 hp2 hz hza => ?_
        · rw [List.length_take, List.length_map]
          simp
          omega
        · rw [List.length_append, List.length_take, List.length_drop, List.length_map]
          simp
          omega
        have ez : (((o.map tokD).take m ++ [tokD t]) ++ (o.map tokD).drop m) = (o.take m ++ (t :: o.drop m)).map tokD := by
          rw [List.map_append, List.map_cons, List.map_take, List.map_drop, List.append_assoc]
          rfl
        rw [ez] at hza
        exact ret_change D G (s1.trans s2) (s1.free hp2) ⟨zs, hz, hza⟩ (segOk_perm hperm G.1.tgt) k rfl
end
end Tm
set_option Elab.async false
set_option maxRecDepth 100000
set_option maxHeartbeats 2000000
namespace Tm
open PySem PySem.Spec PyProof.Rows L2
open Ut02 (Tag Seg Fault)
section
variable {P : Program} {w : World} {K : PySem.W.Frag} {mg : Str → Option Value} {base : Heap} {f : Addr} {fd : FuncData} {C : Addr}
/-! ### undo_answer -/
theorem Olds.head {H : Hp} {e : Addr} {A : List Addr} {es : List Addr} {s : Seg} {ss : List Seg} (h : Olds K H e A es (s :: ss)) : ∃ a es', es = a :: es' ∧ a ∈ A ∧ a ≠ e ∧ LT K H a (s.map tokD) ∧ Olds K H e A es' ss := by
  cases h with
  | cons m n l t => exact ⟨_, _, rfl, m, n, l, t⟩
def spUndo (C : Addr) (K : PySem.W.Frag) : Sp := fun vs H Q _ => ∃ (d e : Addr) (A : List Addr) (g : Ut02.St), vs = [.ref d] ∧ DeskAt C K H d e A g ∧ Fine g ∧ RetAns C K H d e A Q (Ut02.step g .undo)
theorem ok_undo_answer (F : Fun K "undo_answer" "undo_answer" s_undo_answer f fd) (T : Txt K mg) (L : Cl K mg C) (c_standing : Cal P w K mg base 5 "standing" ["desk"] (spStanding C K)) : FnOk P w K mg base CX0 6 f fd ["desk"] (spUndo C K) := by
  refine F.ok sc_undo_answer (fun vs H Q E h => ?_) (fun cdv A outer st H vs Q E hr h => ?_)
  · obtain ⟨d, e, A, g, rfl, _⟩ := h
    rfl
  · obtain ⟨d, e, A, g, rfl, D, G, k⟩ := h
    refine ⟨_, (pss_cons (ps_if (pt_cmpR k_eqI (pe_callB call_len_seq (by rfl) T.m_len PySem.boot_len (pa_cons (pe_fld (pv 0) rfl) pa_nil)) pe_int (nomark _)) (pss_one (ps_ret (pe_lst (pa_cons (pe_gi T.m_NOTHING_TO_UNDO) pa_nil)))) pss_nil)
      (pss_cons (ps_fld (pv 0) (pe_bm0 PySem.F.plainAttrs_list PySem.F.slot_list_pop PySem.F.type_list_pop mt_pop (pe_fld (pv 0) rfl)) rfl)
      (pss_one (ps_ret (pe_u c_standing (hr.mono (by decide)) (pa_cons (pv 0) pa_nil)))))), ?_⟩
    obtain ⟨dx, at', ao, as, es, D0⟩ := id D
    have hel := D0.ol.len
    refine ⟨_, rfl, d, C, dx, _, _, rfl, D0.hd, L.cl, L.n_earlier, dF_earlier _ _ _ _, e, _, rfl, .inl (SqL.of D0.he), _, _, rfl, rfl, _, rfl, ?_⟩
    rw [List.length_map, List.length_reverse, hel]
    have eb : Ut02.step g .undo = (match g.old with
      | [] => (g, [-7])
      | s :: l => ({ g with target := s, old := l }, Ut02.told { g with target := s, old := l })) := rfl
    rw [eb] at k
    have ol := D0.ol
    cases ho : g.old with
    | nil =>
      rw [ho] at k
      exact rd_ref (σ := []) D k
    | cons s l =>
      rw [ho] at k ol
      obtain ⟨a, es', rfl, ma, na, hla, hol⟩ := ol.head
      refine ite2 (fun h => ?_) (fun h => ?_)
      · have := of_decide_eq_true h
        rw [List.length_cons] at this
        omega
      have exs : (a :: es').reverse.map V.ref = es'.reverse.map V.ref ++ [V.ref a] := by
        rw [List.reverse_cons, List.map_append]
        rfl
      have he := D0.he
      rw [exs] at he
      have nde : d ≠ e := ne_of D0.hd D0.he fun z => nomatch z
      -- desk.things = desk.earlier.pop()
      refine ⟨_, rfl, d, C, dx, _, _, rfl, D0.hd, L.cl, L.n_earlier, dF_earlier _ _ _ _, .inl ⟨rfl, _, SqL.of he⟩, e, _, V.ref a, rfl, rfl, he, ?_, ?_⟩
      · rw [List.length_append, List.length_singleton, Nat.add_sub_cancel, List.getElem?_append_right (Nat.le_refl _), Nat.sub_self]
        rfl
      rw [List.dropLast_concat]
      refine ⟨_, rfl, d, C, dx, _, rfl, (by rw [upd_ne nde]; exact D0.hd), L.cl, L.n_things, (by show 4 < 1000; decide), ?_⟩
      rw [dF_putThings]
      have ch : Changed d e H (upd (upd H e (.lst (es'.reverse.map V.ref))) d (.ins C dx (dF (.ref at') (.ref ao) (.ref a) (.ref e)))) := Changed.updE.trans Changed.updD
      have D2 : DeskIs C K (upd (upd H e (.lst (es'.reverse.map V.ref))) d (.ins C dx (dF (.ref at') (.ref ao) (.ref a) (.ref e)))) d e A { g with target := s, old := l } dx at' ao a es' := by
        refine ⟨upd_same, D0.mt, D0.mo, ma, D0.me, D0.nt, D0.no, na, ch.lt D0.hd D0.he D0.ht flat_tags D0.nt, ch.lt D0.hd D0.he D0.ho flat_toks D0.no, ch.lt D0.hd D0.he hla flat_toks na, ?_, hol.chg ch D0.hd D0.he fun _ h => h, fun b hb => upd_some (upd_some (D0.hA b hb))⟩
        rw [upd_ne nde.symm, upd_same]
      have hsok : Ut02.segOk s = true := G.1.old s (by rw [ho]; simp)
      obtain ⟨q1, q2, q3⟩ := (segOk_iff _).mp hsok
      refine ⟨_, rfl, d, e, A, _, rfl, ⟨_, _, _, _, _, D2⟩, Nat.le_trans G.1.few (by decide), by show s.length ≤ 1000; omega, fun H3 q s3 hq hz => ?_⟩
      exact k H3 q e A (ch.trans (Changed.of s3)) (fun _ h => .inl h) (DeskAt.same ⟨_, _, _, _, _, D2⟩ s3) (ch.free (by rw [D2.hd]; exact fun z => nomatch z) (by rw [D2.he]; exact fun z => nomatch z) hq) hz
/-! ### words_within -/
def wordD (t : Tk) : List PyData := if (!Ut02.isTag t) = true then [.int (numN t)] else []
theorem words_flat : ∀ l : List Tk, l.flatMap wordD = (Ut02.ints (Ut02.wordsOf l)).map PyData.int
  | [] => rfl
  | t :: l => by
    rw [List.flatMap_cons, words_flat l]
    cases t <;> rfl
def spWords (K : PySem.W.Frag) : Sp := fun vs H Q _ => ∃ (v : V) (s : List Tk) (n : Nat), vs = [v, .int n] ∧ TokL K H v s ∧ s.length ≤ 1000 ∧ .open_ n ∈ s ∧ .close n ∈ s ∧ RetL K H Q ((Ut02.ints (Ut02.inPair s n)).map PyData.int)
theorem ok_words_within (F : Fun K "words_within" "words_within" s_words_within f fd) (T : Txt K mg) : FnOk P w K mg base CX0 1 f fd ["things", "number"] (spWords K) := by
  refine F.ok sc_words_within (fun vs H Q E h => ?_) (fun cdv A outer st H vs Q E hr h => ?_)
  · obtain ⟨v, s, n, rfl, _⟩ := h
    rfl
  · obtain ⟨v, s, n, rfl, hv, hl, m1, m2, k⟩ := h
    refine ⟨_, (pss_cons (ps_set (i := 2) sc_words_within.nd rfl (Or.inl rfl) (pe_bm PySem.F.plainAttrs_list PySem.F.slot_list_index PySem.F.type_list_index (k_index K (hu65 hr)) (pv 0) (pa_cons (pe_tup (pa_cons (pe_gi T.m_OPENING) (pa_cons (pv 1) pa_nil))) pa_nil)))
      (pss_cons (ps_set (i := 3) sc_words_within.nd rfl (Or.inl rfl) (pe_bm PySem.F.plainAttrs_list PySem.F.slot_list_index PySem.F.type_list_index (k_index K (hu65 hr)) (pv 0) (pa_cons (pe_tup (pa_cons (pe_gi T.m_CLOSING) (pa_cons (pv 1) pa_nil))) pa_nil)))
      (pss_one (ps_ret (pe_lc (own := [("thing", 4)]) (by rfl) sc_words_within.nd (pi_list (pe_slice (k_slL K) (pv 0) (po_some (pv 2)) (po_some (pv 3)))) (blkOk_by (own := [("thing", 4)]) (N := N_words_within) (sc := defScope s_words_within) (by decide +kernel)) (fun _ _ _ _ _ => (pg_name (i := 4) sc_words_within.nd rfl (Or.inl rfl))) (fun _ _ _ _ _ => pts_one (pt_cmpR k_eqI (pe_ix (k_ixT K) (pv 4) pe_int (fun _ _ => rfl)) (pe_gi T.m_WORD) (nomark _))) (fun _ _ _ _ _ => (pe_ix (k_ixT K) (pv 4) pe_int (fun _ _ => rfl)))))))), ?_⟩
    refine rd_index (.open_ n) rfl hv rfl rfl rfl m1 fun H1 s1 => ?_
    refine rd_index (.close n) rfl (dpI (sameI s1) hv) rfl rfl rfl m2 fun H2 s2 => ?_
    have s12 := s1.trans s2
    have hv2 := dpI (sameI s12) hv
    obtain ⟨a, xs, rfl, hsq, hxl⟩ := len_of hv2
    generalize hi : Ut02.placeOf s (.open_ n) = i
    generalize hj : Ut02.placeOf s (.close n) = j
    refine ev_mid (ds := s.map tokD) (pur_var rfl) hv2 (pur_var rfl) (pur_var rfl) H2 (Same.refl _) _ fun H3 p ys s3 hp hy hya => ?_
    have ec : ((s.map tokD).drop i).take (j - i) = ((s.take j).drop i).map tokD := by
      rw [← List.map_drop, ← List.map_take, List.drop_take]
    rw [ec] at hya
    have hpd : Dp K H3 (.ref p) (.list (((s.take j).drop i).map tokD)) := .lst (SqL.of hy) hya
    have hml : ((s.take j).drop i).length ≤ 1000 := by
      rw [List.length_drop, List.length_take]
      omega
    have ei : Ut02.inPair s n = Ut02.wordsOf ((s.take j).drop i) := by
      unfold Ut02.inPair
      rw [hi, hj]
    rw [ei] at k
    generalize (s.take j).drop i = u at hpd hml k
    refine ⟨p, rfl, ⟨_, SqL.of hy⟩, fun D hD => lc_data hpd wordD ?_ hD (by omega) ?_ ?_⟩
    · intro t d hd
      unfold wordD at hd
      split at hd
      · rw [List.mem_singleton.mp hd]
        rfl
      · cases hd
    · intro pre t post y H' QT QF ee sm hy2 kT kF
      obtain ⟨b, rfl, hb⟩ := dp_tok hy2
      refine ⟨rfl, ?_⟩
      refine ⟨_, rfl, b, _, 0, _, rfl, rfl, hb, rfl, _, _, rfl, rfl, _, rfl, ?_⟩
      rw [kind_eq]
      refine ifB (fun h => ?_) (fun h => ?_)
      · exact ⟨_, rfl, b, _, 1, _, rfl, rfl, hb, rfl, kT _ _ _ (by unfold wordD; rw [if_pos h]) (Same.refl _) (.int _)⟩
      · exact kF (by unfold wordD; rw [if_neg (by rw [h]; exact Bool.false_ne_true)]) _ (Same.refl _)
    · intro H4 zs s4 hz hza
      rw [words_flat] at hza
      exact k _ _ _ ((s12.trans s3).trans s4) ((s12.trans s3).free hD) hz hza
/-! ### within_answer -/
theorem right_whole {l : List Tag} {s : List Tk} (h : Ut02.isRight (allMust l) s = true) {n : Nat} (hn : (l.any fun t => t.i == n && t.pair) = true) : Ut02.whole s n = true := by
  unfold Ut02.isRight at h
  rw [Bool.and_eq_true, Bool.and_eq_true] at h
  have h2 := List.all_eq_true.mp h.2.1
  obtain ⟨t, ht, hp⟩ := List.any_eq_true.mp hn
  rw [Bool.and_eq_true] at hp
  have h3 := h2 { t with must := true } (by unfold allMust; exact List.mem_map.mpr ⟨t, ht, rfl⟩)
  have e : t.i = n := eq_of_beq hp.1
  subst e
  simp only [hp.2, if_true, Bool.not_true, Bool.false_and, Bool.or_false, Bool.and_eq_true] at h3
  exact h3.1
def spWithin (C : Addr) (K : PySem.W.Frag) : Sp := fun vs H Q _ => ∃ (d e : Addr) (A : List Addr) (g : Ut02.St) (n : Nat), vs = [.ref d, .int n] ∧ DeskAt C K H d e A g ∧ Fine g ∧ RetAns C K H d e A Q (Ut02.step g (.within_ n))
theorem ok_within_answer (F : Fun K "within_answer" "within_answer" s_within_answer f fd) (T : Txt K mg) (L : Cl K mg C) (c_is_of_source : Cal P w K mg base 2 "is_of_source" ["tags", "thing"] (spOfSrc K)) (c_is_whole : Cal P w K mg base 1 "is_whole" ["things", "number"] (spWhole K))
    (c_is_in_order : Cal P w K mg base 1 "is_in_order" ["things", "number"] (spOrder K)) (c_words_within : Cal P w K mg base 1 "words_within" ["things", "number"] (spWords K)) : FnOk P w K mg base CX0 3 f fd ["desk", "number"] (spWithin C K) := by
  refine F.ok sc_within_answer (fun vs H Q E h => ?_) (fun cdv A outer st H vs Q E hr h => ?_)
  · obtain ⟨d, e, A, g, n, rfl, _⟩ := h
    rfl
  · obtain ⟨d, e, A, g, n, rfl, D, G, k⟩ := h
    refine ⟨_, (pss_cons (ps_if (pt_not (pt_val (pe_u c_is_of_source (hr.mono (by decide)) (pa_cons (pe_fld (pv 0) rfl) (pa_cons (pe_tup (pa_cons (pe_gi T.m_OPENING) (pa_cons (pv 1) pa_nil))) pa_nil))))) (pss_one (ps_ret (pe_lst (pa_cons (pe_gi T.m_NO_SUCH_PAIR) pa_nil)))) pss_nil)
      (pss_cons (ps_if (PW.pt (pw_or (pt_not (pt_val (pe_u c_is_whole (hr.mono (by decide)) (pa_cons (pe_fld (pv 0) rfl) (pa_cons (pv 1) pa_nil))))) (pw_or1 (pt_not (pt_val (pe_u c_is_in_order (hr.mono (by decide)) (pa_cons (pe_fld (pv 0) rfl) (pa_cons (pv 1) pa_nil)))))))) (pss_one (ps_ret (pe_lst (pa_cons (pe_gi T.m_NOT_WHOLE) pa_nil)))) pss_nil)
      (pss_cons (ps_set (i := 2) sc_within_answer.nd rfl (Or.inl rfl) (pe_u c_words_within (hr.mono (by decide)) (pa_cons (pe_fld (pv 0) rfl) (pa_cons (pv 1) pa_nil))))
      (pss_cons (ps_set (i := 3) sc_within_answer.nd rfl (Or.inl rfl) (pe_u c_words_within (hr.mono (by decide)) (pa_cons (pe_fld (pv 0) rfl) (pa_cons (pv 1) pa_nil))))
      (pss_one (ps_ret (pe_op (k_cat K) (pe_op (k_cat K) (pe_op (k_cat K) (pe_lst (pa_cons (pe_callB call_len_seq (by rfl) T.m_len PySem.boot_len (pa_cons (pv 2) pa_nil)) pa_nil)) (pv 2)) (pe_lst (pa_cons (pe_callB call_len_seq (by rfl) T.m_len PySem.boot_len (pa_cons (pv 3) pa_nil)) pa_nil))) (pv 3)))))))), ?_⟩
    obtain ⟨dx, at', ao, as, es, D0⟩ := id D
    obtain ⟨g1, g2, g3⟩ := (segOk_iff _).mp G.1.tgt
    obtain ⟨r1, r2, r3⟩ := (segOk_iff _).mp G.1.src
    have hsrc : ofSrc g.tags (.open_ n) = g.tags.any fun t => t.i == n && t.pair := ofSrc_known g.tags (.open_ n) rfl
    have eb : Ut02.step g (.within_ n) = (g, if (g.tags.any fun t => t.i == n && t.pair) = false then [-2] else if Ut02.whole g.target n = false ∨ Ut02.placeOf g.target (.close n) < Ut02.placeOf g.target (.open_ n) then [-6] else
      Ut02.ints ([(Ut02.inPair g.source n).length] ++ Ut02.inPair g.source n ++ [(Ut02.inPair g.target n).length] ++ Ut02.inPair g.target n)) := rfl
    rw [eb, ← hsrc] at k
    -- is_of_source(desk.tags, (OPENING, number))
    refine ⟨_, rfl, d, C, dx, _, _, rfl, D0.hd, L.cl, L.n_tags, dF_tags _ _ _ _, _, rfl, szle (by show 2 ≤ 100000; decide), fun q hq => ?_⟩
    have s0 : Same H _ := same_new (o := .tup [.int 1, .int n]) hq
    refine ⟨_, _, g.tags, .open_ n, rfl, (D0.same s0).ht.dp, two_dp (SqT.of upd_same), Nat.le_trans G.1.few (by decide), fun H1 s1' => ⟨_, rfl, ?_⟩⟩
    have s1 := s0.trans s1'
    refine ifB (fun h => ?_) (fun h => ?_)
    · rw [if_pos (by simpa using h)] at k
      exact rd_ref (σ := []) (D.same s1) (k.mono s1)
    have ho : ofSrc g.tags (.open_ n) = true := by simpa using h
    rw [if_neg (fun z => by rw [ho] at z; cases z)] at k
    have hw := whole_mem (right_whole G.1.right (hsrc ▸ ho))
    -- not is_whole(desk.things, number) or not is_in_order(desk.things, number)
    have D1 := D0.same s1
    dsimp only [gName, tNext, tSeq]
    refine if_or ?_
    refine ⟨_, rfl, d, C, dx, _, _, rfl, D1.hd, L.cl, L.n_things, dF_things _ _ _ _, _, rfl, _, g.target, n, rfl, D1.hs.dp, fun H2 s2 => ⟨_, rfl, ?_⟩⟩
    have s12 := s1.trans s2
    refine ifB (fun h2 => ?_) (fun h2 => ?_)
    · rw [if_pos (.inl (by simpa using h2))] at k
      exact rd_ref (σ := []) (D.same s12) (k.mono s12)
    have hwt : Ut02.whole g.target n = true := by simpa using h2
    obtain ⟨mo, mc⟩ := whole_mem hwt
    have D2 := D0.same s12
    refine ⟨_, rfl, d, C, dx, _, _, rfl, D2.hd, L.cl, L.n_things, dF_things _ _ _ _, _, rfl, _, g.target, n, rfl, D2.hs.dp, mo, mc, fun H3 s3 => ⟨_, rfl, ?_⟩⟩
    have s13 := s12.trans s3
    refine ifB (fun h3 => ?_) (fun h3 => ?_)
    · rw [not_order mo mc] at h3
      rw [if_pos (.inr (of_decide_eq_true h3))] at k
      exact rd_ref (σ := []) (D.same s13) (k.mono s13)
    rw [not_order mo mc] at h3
    rw [if_neg (by rintro (z | z); · rw [hwt] at z; cases z
                   · exact of_decide_eq_false h3 z)] at k
    -- in_source, in_translation
    have D3 := D0.same s13
    refine ⟨_, rfl, d, C, dx, _, _, rfl, D3.hd, L.cl, L.n_source, dF_source _ _ _ _, _, rfl, _, g.source, n, rfl, D3.ho.dp, by omega, hw.1, hw.2, fun H4 pa ya s4 hpa hya hda => ?_⟩
    have s14 := s13.trans s4
    have D4 := D0.same s14
    refine ⟨_, rfl, d, C, dx, _, _, rfl, D4.hd, L.cl, L.n_things, dF_things _ _ _ _, _, rfl, _, g.target, n, rfl, D4.hs.dp, by omega, mo, mc, fun H5 pb yb s5 hpb hyb hdb => ?_⟩
    have s15 := s14.trans s5
    have ka := (k.mono s15).keep (D.same s15)
    have hla : (Ut02.inPair g.source n).length ≤ 1000 := by
      unfold Ut02.inPair Ut02.wordsOf
      refine Nat.le_trans (List.length_filterMap_le _ _) ?_
      rw [List.length_drop, List.length_take]
      omega
    have hlb : (Ut02.inPair g.target n).length ≤ 1000 := by
      unfold Ut02.inPair Ut02.wordsOf
      refine Nat.le_trans (List.length_filterMap_le _ _) ?_
      rw [List.length_drop, List.length_take]
      omega
    generalize Ut02.inPair g.source n = wa at hda ka hla
    generalize Ut02.inPair g.target n = wb at hdb ka hlb
    have hil : ∀ ns : List Nat, (Ut02.ints ns).length = ns.length := fun ns => List.length_map _
    have hA5 : Dp K H5 (.ref pa) (.list ((Ut02.ints wa).map PyData.int)) := dpI (sameI s5) (.lst (SqL.of hya) hda)
    have hB5 : Dp K H5 (.ref pb) (.list ((Ut02.ints wb).map PyData.int)) := .lst (SqL.of hyb) hdb
    have eya : ya.length = wa.length := by rw [dpAll_len hda, List.length_map, hil]
    have eyb : yb.length = wb.length := by rw [dpAll_len hdb, List.length_map, hil]
    refine ev_catR (ev_cat (ev_catR (ev_one (evd_pur (pur_len (pur_var rfl) (SqL.of (s5 _ _ hya))) (.int _))) (pur_var rfl) hA5 ?_) (ev_one (evd_pur (pur_len (pur_var rfl) (SqL.of hyb)) (.int _))) ?_) (pur_var rfl) hB5 ?_ H5 (Same.refl _) _ fun H6 p ys s6 hp hy hya6 => ?_
    · simp only [List.length_map, List.length_cons, List.length_nil, hil]
      omega
    · simp only [List.length_append, List.length_map, List.length_cons, List.length_nil, hil]
      omega
    · simp only [List.length_append, List.length_map, List.length_cons, List.length_nil, hil]
      omega
    refine ka _ p ys s6 hp hy ?_
    rw [eya, eyb] at hya6
    rw [ints_app, ints_app, ints_app, List.map_append, List.map_append, List.map_append]
    exact hya6
end
end Tm
set_option Elab.async false
set_option maxRecDepth 100000
set_option maxHeartbeats 2000000
namespace Tm
open PySem PySem.Spec PyProof.Rows L2
open Ut02 (Tag Seg Fault)
theorem words_ok (ws : List Nat) : ((ws.map Ut02.Tok.word).all Ut02.tokOk) = ws.all fun x => decide (x ≤ 999) := by
  rw [List.all_map]
  rfl
section
variable {P : Program} {w : World} {K : PySem.W.Frag} {mg : Str → Option Value} {base : Heap} {f : Addr} {fd : FuncData} {C : Addr}
/-! ### rewrite_answer -/
def natD (n : Nat) : PyData := .int n
def spRewrite (C : Addr) (K : PySem.W.Frag) : Sp := fun vs H Q _ => ∃ (d e : Addr) (v : V) (A : List Addr) (g : Ut02.St) (n m : Nat) (ws : List Nat), vs = [.ref d, .int n, .int m, v] ∧ DeskAt C K H d e A g ∧ Fine g ∧ Dp K H v (.list (ws.map natD)) ∧ ws.length ≤ 900 ∧ RetAns C K H d e A Q (Ut02.step g (.type_ n m ws))
theorem ok_rewrite_answer (F : Fun K "rewrite_answer" "rewrite_answer" s_rewrite_answer f fd) (T : Txt K mg) (L : Cl K mg C) (c_has_great_number : Cal P w K mg base 1 "has_great_number" ["things"] (spGreat K)) (c_is_too_much : Cal P w K mg base 1 "is_too_much" ["things"] (spTooMuch K))
    (c_change : Cal P w K mg base 6 "change" ["desk", "things"] (spChange C K)) : FnOk P w K mg base CX0 7 f fd ["desk", "spot", "many", "words"] (spRewrite C K) := by
  refine F.ok sc_rewrite_answer (fun vs H Q E h => ?_) (fun cdv A outer st H vs Q E hr h => ?_)
  · obtain ⟨d, e, v, A, g, n, m, ws, rfl, _⟩ := h
    rfl
  · obtain ⟨d, e, v, A, g, n, m, ws, rfl, D, G, hv, hl, k⟩ := h
    refine ⟨_, (pss_cons (ps_set (i := 4) sc_rewrite_answer.nd rfl (Or.inl rfl) (pe_op op_add (pv 1) (pv 2)))
      (pss_cons (ps_setLc (i := 5) (own := [("word", 8)]) (by rfl) sc_rewrite_answer.nd rfl rfl (sw_true rfl rfl rfl (by decide +kernel)) (pi_list (pv 3)) (blkOk_by (own := [("word", 8)]) (N := N_rewrite_answer) (sc := defScope s_rewrite_answer) (by decide +kernel)) (fun _ _ _ _ _ => (pg_name (i := 8) sc_rewrite_answer.nd rfl (Or.inl rfl))) (fun _ _ _ _ _ => pts_nil) (fun _ _ _ _ _ => (pe_tup (pa_cons (pe_gi T.m_WORD) (pa_cons (pv 8) pa_nil)))))
      (pss_cons (ps_if (PW.pt (pw_or (pt_cmpR op_gt (pv 4) (pe_callB call_len_seq (by rfl) T.m_len PySem.boot_len (pa_cons (pe_fld (pv 0) rfl) pa_nil)) (nomark _)) (pw_or1 (pt_val (pe_u c_has_great_number (hr.mono (by decide)) (pa_cons (pv 5) pa_nil)))))) (pss_one (ps_ret (pe_lst (pa_cons (pe_gi T.m_OUT_OF_RANGE) pa_nil)))) pss_nil)
      (pss_cons (ps_setLc (i := 6) (own := [("thing", 9)]) (by rfl) sc_rewrite_answer.nd rfl rfl (sw_true rfl rfl rfl (by decide +kernel)) (pi_list (pe_slice (k_slL K) (pe_fld (pv 0) rfl) (po_some (pv 1)) (po_some (pv 4)))) (blkOk_by (own := [("thing", 9)]) (N := N_rewrite_answer) (sc := defScope s_rewrite_answer) (by decide +kernel)) (fun _ _ _ _ _ => (pg_name (i := 9) sc_rewrite_answer.nd rfl (Or.inl rfl))) (fun _ _ _ _ _ => pts_one (pt_cmpR k_neI (pe_ix (k_ixT K) (pv 9) pe_int (fun _ _ => rfl)) (pe_gi T.m_WORD) (nomark _))) (fun _ _ _ _ _ => (pv 9)))
      (pss_cons (ps_set (i := 7) sc_rewrite_answer.nd rfl (Or.inl rfl) (pe_op (k_cat K) (pe_op (k_cat K) (pe_op (k_cat K) (pe_slice (k_slL K) (pe_fld (pv 0) rfl) po_none (po_some (pv 1))) (pv 6)) (pv 5)) (pe_slice (k_slL K) (pe_fld (pv 0) rfl) (po_some (pv 4)) po_none)))
      (pss_cons (ps_if (pt_val (pe_u c_is_too_much (hr.mono (by decide)) (pa_cons (pv 7) pa_nil))) (pss_one (ps_ret (pe_lst (pa_cons (pe_gi T.m_TOO_MUCH) pa_nil)))) pss_nil)
      (pss_one (ps_ret (pe_u c_change (hr.mono (by decide)) (pa_cons (pv 0) (pa_cons (pv 7) pa_nil))))))))))), ?_⟩
    obtain ⟨dx, at', ao, as, es, D0⟩ := id D
    obtain ⟨g1, g2, g3⟩ := (segOk_iff _).mp G.1.tgt
    have eb : Ut02.step g (.type_ n m ws) = if g.target.length < n + m ∨ (ws.all fun x => decide (x ≤ 999)) = false then (g, [-1]) else Ut02.becomes g (g.target.take n ++ ((((g.target.drop n).take m).filter Ut02.isTag) ++ (ws.map Ut02.Tok.word ++ g.target.drop (n + m)))) := rfl
    rw [eb] at k
    obtain ⟨a, xs, rfl, hsq, hxl⟩ := len_of hv
    -- end = spot + many
    refine ⟨_, rfl, _, rfl, _, _, rfl, rfl, ?_⟩
    -- new_words = [(WORD, word) for word in words]
    refine ⟨_, rfl, a, rfl, ⟨_, hsq⟩, fun pw hpw => lc_data hv (fun x => [tokD (.word x)]) (fun x d hd => by rw [List.mem_singleton.mp hd]; rfl) hpw (by omega) ?_ ?_⟩
    · intro pre x post y H' QT QF ee sm hy kT kF
      cases dp_int hy
      refine ⟨rfl, yes_if ?_⟩
      exact ⟨_, rfl, szle (by show 2 ≤ 100000; decide), fun q hq => kT _ _ _ rfl (same_new hq) (two_dp (SqT.of upd_same))⟩
    intro H1 yw s1 hyw hdw
    have ew : (ws.flatMap fun x => [tokD (.word x)]) = (ws.map Ut02.Tok.word).map tokD := by
      rw [List.map_map, List.map_eq_flatMap]
      rfl
    rw [ew] at hdw
    have hLw : LT K H1 pw ((ws.map Ut02.Tok.word).map tokD) := ⟨yw, hyw, hdw⟩
    have D1 := D0.same s1
    obtain ⟨zs, hz, hza⟩ := id D1.hs
    have hzl : zs.length = g.target.length := by rw [dpAll_len hza, List.length_map]
    -- end > len(desk.things) or has_great_number(new_words)
    dsimp only [gName, tNext, tSeq]
    refine if_or ?_
    refine ⟨_, rfl, _, rfl, d, C, dx, _, _, rfl, D1.hd, L.cl, L.n_things, dF_things _ _ _ _, as, _, rfl, .inl (SqL.of hz), _, _, rfl, rfl, _, rfl, ?_⟩
    rw [hzl]
    refine ite2 (fun h => ?_) (fun h => ?_)
    · rw [if_pos (.inl (by have := of_decide_eq_true h; omega))] at k
      exact rd_ref (σ := []) (D.same s1) (k.mono s1)
    have hend : ¬ g.target.length < n + m := fun z => h (decide_eq_true (by omega))
    refine ⟨_, rfl, _, ws.map Ut02.Tok.word, rfl, hLw.dp, by rw [List.length_map]; omega, fun H2 s2 => ⟨_, rfl, ?_⟩⟩
    have s12 := s1.trans s2
    rw [words_ok]
    refine ifB (fun h2 => ?_) (fun h2 => ?_)
    · rw [if_pos (.inr (by simpa using h2))] at k
      exact rd_ref (σ := []) (D.same s12) (k.mono s12)
    have hall : (ws.all fun x => decide (x ≤ 999)) = true := by simpa using h2
    rw [if_neg (by rintro (z | z); · exact hend z
                   · rw [hall] at z; cases z)] at k
    have D2 := D0.same s12
    have hLw2 := hLw.sameI (sameI s2)
    -- staying = [thing for thing in desk.things[spot:end] if thing[0] != WORD]
    refine ev_mid (n := n) (m := n + m) (ds := g.target.map tokD) (pur_fld (pur_var rfl) D2.hd L.cl L.n_things (dF_things _ _ _ _)) D2.hs.dp (pur_var rfl) (pur_var rfl) H2 (Same.refl _) _ fun H3 p3 y3 s3 hp3 hy3 hd3 => ?_
    have e3 : ((g.target.map tokD).drop n).take (n + m - n) = ((g.target.drop n).take m).map tokD := by
      rw [show n + m - n = m by omega, List.map_take, List.map_drop]
    rw [e3] at hd3
    have hml : ((g.target.drop n).take m).length ≤ 16 := by
      rw [List.length_take, List.length_drop]
      omega
    have hpd : Dp K H3 (.ref p3) (.list (((g.target.drop n).take m).map tokD)) := .lst (SqL.of hy3) hd3
    have hokm : ((g.target.drop n).take m).all Ut02.tokOk = true := by
      rw [List.all_eq_true] at g3 ⊢
      exact fun t ht => g3 t (List.mem_of_mem_drop (List.mem_of_mem_take ht))
    generalize (g.target.drop n).take m = mid at hpd hml hokm k
    refine ⟨p3, rfl, ⟨_, SqL.of hy3⟩, fun ps hps => lc_data hpd (fun t => if Ut02.isTag t = true then [tokD t] else []) ?_ hps (by omega) ?_ ?_⟩
    · intro t d hd
      cases h : Ut02.isTag t <;> simp [h] at hd
      rw [hd]
      exact tok_flat t
    · intro pre t post y H' QT QF ee sm hy kT kF
      obtain ⟨b, rfl, hb⟩ := dp_tok hy
      refine ⟨rfl, _, rfl, b, _, 0, _, rfl, rfl, hb, rfl, _, _, rfl, rfl, _, rfl, ?_⟩
      rw [kind_ne]
      refine ifB (fun h => ?_) (fun h => ?_)
      · exact ⟨_, rfl, kT _ _ _ (by simp [h]) (Same.refl _) hy⟩
      · exact kF (by simp [h]) _ (Same.refl _)
    intro H4 y4 s4 hy4 hd4
    rw [flatMap_if] at hd4
    have s14 := (s12.trans s3).trans s4
    have D4 := D0.same s14
    have hLs : Dp K H4 (.ref ps) (.list ((mid.filter Ut02.isTag).map tokD)) := .lst (SqL.of hy4) hd4
    have hLw4 := (hLw2.sameI (sameI (s3.trans s4))).dp
    have hfl := List.length_filter_le Ut02.isTag mid
    -- things = desk.things[:spot] + staying + new_words + desk.things[end:]
    have pf : ∀ u7 u8 u9, Pur (tFld K (tVar 0) "things") [some (.ref d), some (.int n), some (.int m), some (.ref a), some (.int ((n : Int) + (m : Int))), some (.ref pw), some (.ref ps), u7, u8, u9] H4 (.ref as) := fun u7 u8 u9 => pur_fld (pur_var rfl) D4.hd L.cl L.n_things (dF_things _ _ _ _)
    refine ev_cat (ev_catR (ev_catR (ev_take (pf _ _ _) D4.hs.dp (pur_var rfl)) (pur_var rfl) hLs ?_) (pur_var rfl) hLw4 ?_) (ev_drop (n := n + m) (pf _ _ _) D4.hs.dp (pur_var rfl)) ?_ H4 (Same.refl _) _ fun H5 p5 y5 s5 hp5 hy5 hd5 => ?_
    · simp only [List.length_take, List.length_map]
      omega
    · simp only [List.length_append, List.length_take, List.length_map]
      omega
    · simp only [List.length_append, List.length_take, List.length_drop, List.length_map]
      omega
    have e5 : (((g.target.map tokD).take n ++ (mid.filter Ut02.isTag).map tokD) ++ (ws.map Ut02.Tok.word).map tokD) ++ (g.target.map tokD).drop (n + m) = (g.target.take n ++ ((mid.filter Ut02.isTag) ++ (ws.map Ut02.Tok.word ++ g.target.drop (n + m)))).map tokD := by
      simp only [List.map_append, List.map_take, List.map_drop, List.append_assoc]
    rw [e5] at hd5
    have hok : (g.target.take n ++ ((mid.filter Ut02.isTag) ++ (ws.map Ut02.Tok.word ++ g.target.drop (n + m)))).all Ut02.tokOk = true := by
      rw [List.all_append, List.all_append, List.all_append, words_ok, hall]
      rw [List.all_eq_true] at g3 hokm
      have h1 : (g.target.take n).all Ut02.tokOk = true := List.all_eq_true.mpr fun t ht => g3 t (List.mem_of_mem_take ht)
      have h2 : (g.target.drop (n + m)).all Ut02.tokOk = true := List.all_eq_true.mpr fun t ht => g3 t (List.mem_of_mem_drop ht)
      have h3 : (mid.filter Ut02.isTag).all Ut02.tokOk = true := List.all_eq_true.mpr fun t ht => hokm t (List.mem_filter.mp ht).1
      rw [h1, h2, h3]
      rfl
    have hsl : (g.target.take n ++ ((mid.filter Ut02.isTag) ++ (ws.map Ut02.Tok.word ++ g.target.drop (n + m)))).length ≤ 1000 := by
      simp only [List.length_append, List.length_take, List.length_drop, List.length_map]
      omega
    generalize g.target.take n ++ ((mid.filter Ut02.isTag) ++ (ws.map Ut02.Tok.word ++ g.target.drop (n + m))) = s' at hd5 hok hsl k
    exact becomes_tail D G (s14.trans s5) (s14.free hp5) ⟨y5, hy5, hd5⟩ hok hsl k rfl rfl
end
end Tm
set_option Elab.async false
set_option maxRecDepth 100000
set_option maxHeartbeats 2000000
namespace Tm
open PySem PySem.Spec PyProof.Rows L2
open Ut02 (Tag Seg Fault)
/-! ### call_length -/
def wholeV : List V := [.int 0, .int 0, .int 0, .int 0, .int 0, .int 3, .int 1, .int 2, .int 1, .int 0, .int 0, .int 2]
def rowV : List V := [.bl true, .bl true, .bl false, .bl false, .bl false, .bl false, .bl false, .bl true, .bl false, .bl false, .bl false, .bl false]
theorem shape_tables {p : Int} {n k : Nat} (h : PyUt02.shape p = some (n, k)) : ∃ j : Nat, p = (j : Int) ∧ wholeV[j]? = some (.int (n : Int)) ∧ rowV[j]? = some (.bl (decide (k = 1))) := by
  rcases shape_cases h with ⟨rfl, rfl, rfl⟩ | ⟨rfl, rfl, rfl⟩ | ⟨rfl, rfl, rfl⟩ | ⟨rfl, rfl, rfl⟩ | ⟨rfl, rfl, rfl⟩ | ⟨rfl, rfl, rfl⟩ | ⟨rfl, rfl, rfl⟩ | ⟨rfl, rfl, rfl⟩ | ⟨rfl, rfl, rfl⟩ | ⟨rfl, rfl, rfl⟩ | ⟨rfl, rfl, rfl⟩ | ⟨rfl, rfl, rfl⟩
  · exact ⟨0, rfl, rfl, rfl⟩
  · exact ⟨1, rfl, rfl, rfl⟩
  · exact ⟨2, rfl, rfl, rfl⟩
  · exact ⟨3, rfl, rfl, rfl⟩
  · exact ⟨4, rfl, rfl, rfl⟩
  · exact ⟨5, rfl, rfl, rfl⟩
  · exact ⟨6, rfl, rfl, rfl⟩
  · exact ⟨7, rfl, rfl, rfl⟩
  · exact ⟨8, rfl, rfl, rfl⟩
  · exact ⟨9, rfl, rfl, rfl⟩
  · exact ⟨10, rfl, rfl, rfl⟩
  · exact ⟨11, rfl, rfl, rfl⟩
theorem at_drop {ns r : List Int} {i j : Nat} {x : Int} (h : ns.drop i = r) (hx : r[j]? = some x) : (ns.map V.int)[i + j]? = some (.int x) := by
  rw [List.getElem?_map, ← List.getElem?_drop, h, hx]
  rfl
section
variable {P : Program} {w : World} {K : PySem.W.Frag} {mg : Str → Option Value} {base : Heap} {f : Addr} {fd : FuncData} {C : Addr}
theorem ok_call_length {aW aR : Addr} (F : Fun K "call_length" "call_length" s_call_length f fd) (m_WHOLE_NUMBERS : mg "WHOLE_NUMBERS" = some (.ref aW)) (m_HAS_ROW : mg "HAS_ROW" = some (.ref aR)) (hW : ∀ H, SqT K H aW wholeV) (hR : ∀ H, SqT K H aR rowV) : FnOk P w K mg base CX0 1 f fd ["calls", "start"] (spCallLen K) := by
  refine F.ok sc_call_length (fun vs H Q E h => ?_) (fun cdv A outer st H vs Q E hr h => ?_)
  · obtain ⟨a, ns, cl, fl, rest, i, rfl, _⟩ := h
    rfl
  · obtain ⟨a, ns, cl, fl, rest, i, rfl, hS, hh, k⟩ := h
    refine ⟨_, (pss_cons (ps_set (i := 2) sc_call_length.nd rfl (Or.inl rfl) (pe_op op_add pe_int (pe_ix (k_ixT K) (pe_gr m_WHOLE_NUMBERS) (pe_ix (k_ixL K) (pv 0) (pv 1) (fun _ _ => rfl)) (fun _ _ => rfl))))
      (pss_cons (ps_if (pt_val (pe_ix (k_ixT K) (pe_gr m_HAS_ROW) (pe_ix (k_ixL K) (pv 0) (pv 1) (fun _ _ => rfl)) (fun _ _ => rfl))) (pss_one (ps_set (i := 2) sc_call_length.nd rfl (Or.inl rfl) (pe_op op_add (pe_op op_add (pv 2) pe_int) (pe_ix (k_ixL K) (pv 0) (pe_op op_add (pv 1) (pv 2)) (fun _ _ => rfl))))) pss_nil)
      (pss_one (ps_ret (pv 2))))), ?_⟩
    generalize hdr : ns.drop i = ds at hh
    cases hh with
    | plain p nums rest hs =>
      obtain ⟨j, rfl, hj1, hj2⟩ := shape_tables hs
      have h0 : (ns.map V.int)[i + 0]? = some (.int (j : Int)) := at_drop hdr rfl
      refine ⟨_, rfl, _, rfl, a, _, _, _, rfl, rfl, hS, at_of (j := i + 0) (by omega) h0, aW, _, _, _, rfl, rfl, hW H, at_of (j := j) rfl hj1, _, _, rfl, rfl, ?_⟩
      refine ⟨_, rfl, _, rfl, a, _, _, _, rfl, rfl, hS, at_of (j := i + 0) (by omega) h0, aR, _, _, _, rfl, rfl, hR H, at_of (j := j) rfl hj2, _, rfl, ?_⟩
      refine ⟨_, rfl, ?_⟩
      rw [List.length_cons] at k
      rw [show ((nums.length + 1 : Nat) : Int) = 1 + (nums.length : Int) by omega] at k
      exact k
    | rowed p nums row rest hs =>
      obtain ⟨j, rfl, hj1, hj2⟩ := shape_tables hs
      have h0 : (ns.map V.int)[i + 0]? = some (.int (j : Int)) := at_drop hdr rfl
      have h1 : (ns.map V.int)[i + (1 + nums.length)]? = some (.int (row.length : Int)) := by
        refine at_drop hdr ?_
        rw [List.append_assoc, List.cons_append, Nat.add_comm, List.getElem?_cons_succ, List.getElem?_append_right (Nat.le_refl _), Nat.sub_self]
        rfl
      refine ⟨_, rfl, _, rfl, a, _, _, _, rfl, rfl, hS, at_of (j := i + 0) (by omega) h0, aW, _, _, _, rfl, rfl, hW H, at_of (j := j) rfl hj1, _, _, rfl, rfl, ?_⟩
      refine ⟨_, rfl, _, rfl, a, _, _, _, rfl, rfl, hS, at_of (j := i + 0) (by omega) h0, aR, _, _, _, rfl, rfl, hR H, at_of (j := j) rfl hj2, _, rfl, ?_⟩
      refine ⟨_, rfl, _, _, rfl, rfl, _, rfl, _, rfl, _, rfl, _, _, rfl, rfl, a, _, _, _, rfl, rfl, hS, at_of (j := i + (1 + nums.length)) (by omega) h1, _, _, rfl, rfl, ?_⟩
      refine ⟨_, rfl, ?_⟩
      rw [List.length_append, List.length_cons, List.length_cons] at k
      rw [show ((nums.length + 1 + (row.length + 1) : Nat) : Int) = 1 + (nums.length : Int) + 1 + (row.length : Int) by omega] at k
      exact k
/-! ### call_answer -/
theorem call_skip {c j : Int} {a : Addr} {cl : List Int} {σ : L2.St} {H : Hp} {D : Ends} {t u : TS} (h1 : σ[1]? = some (some (.ref a))) (hS : SqL K H a (cl.map V.int)) (hc : cl[0]? = some c) (hne : ¬ c = j) (k : u D σ H) :
    tIfS (tTest (tOp (rI0 fun i j => .bl (decide (i = j))) (tOp (rIxL K) (tVar 1) (tC (.int 0))) (tC (.int j)))) t u D σ H := by
  refine ⟨_, h1, a, _, 0, .int c, rfl, rfl, hS, at_of (j := 0) rfl (by rw [List.getElem?_map, hc]; rfl), _, _, rfl, rfl, _, rfl, ?_⟩
  rw [decide_eq_false hne]
  exact iteF k
theorem call_hit {c : Int} {a : Addr} {cl : List Int} {σ : L2.St} {H : Hp} {D : Ends} {t u : TS} (h1 : σ[1]? = some (some (.ref a))) (hS : SqL K H a (cl.map V.int)) (hc : cl[0]? = some c) (k : t D σ H) :
    tIfS (tTest (tOp (rI0 fun i j => .bl (decide (i = j))) (tOp (rIxL K) (tVar 1) (tC (.int 0))) (tC (.int c)))) t u D σ H := by
  refine ⟨_, h1, a, _, 0, .int c, rfl, rfl, hS, at_of (j := 0) rfl (by rw [List.getElem?_map, hc]; rfl), _, _, rfl, rfl, _, rfl, ?_⟩
  rw [decide_eq_true rfl]
  exact iteT k
theorem shows_row (s : List Tk) : Ut02.ints (s.length :: Ut02.rowOf s) = (s.length : Int) :: rowI s := by
  rw [← rowOf_rowI]
  rfl
theorem ok_call_answer (F : Fun K "call_answer" "call_answer" s_call_answer f fd) (T : Txt K mg) (L : Cl K mg C)
    (c_source_answer : Cal P w K mg base 6 "source_answer" ["desk", "told"] (spSource C K)) (c_target_answer : Cal P w K mg base 7 "target_answer" ["desk", "numbers"] (spTarget C K)) (c_faults_answer : Cal P w K mg base 5 "faults_answer" ["desk"] (spFaultsAns C K))
    (c_mend_answer : Cal P w K mg base 8 "mend_answer" ["desk"] (spMend C K)) (c_would_answer : Cal P w K mg base 8 "would_answer" ["desk"] (spWould C K)) (c_put_answer : Cal P w K mg base 7 "put_answer" ["desk", "spot", "kind", "number"] (spPut C K))
    (c_take_answer : Cal P w K mg base 7 "take_answer" ["desk", "spot"] (spTake C K)) (c_rewrite_answer : Cal P w K mg base 7 "rewrite_answer" ["desk", "spot", "many", "words"] (spRewrite C K)) (c_within_answer : Cal P w K mg base 3 "within_answer" ["desk", "number"] (spWithin C K))
    (c_segment_answer : Cal P w K mg base 2 "segment_answer" ["things"] (spSeg K)) (c_undo_answer : Cal P w K mg base 6 "undo_answer" ["desk"] (spUndo C K)) (c_move_answer : Cal P w K mg base 7 "move_answer" ["desk", "spot", "other"] (spMove C K)) :
    FnOk P w K mg base CX0 9 f fd ["desk", "call"] (spCall C K) := by
  refine F.ok sc_call_answer (fun vs H Q E h => ?_) (fun cdv A outer st H vs Q E hr h => ?_)
  · obtain ⟨d, e, a, A, g, cl, x, rfl, _⟩ := h
    rfl
  · obtain ⟨d, e, a, A, g, cl, x, rfl, D, G, hS, hc, hl, k⟩ := h
    refine ⟨_, (pss_cons (ps_if (pt_cmpR k_eqI (pe_ix (k_ixL K) (pv 1) pe_int (fun _ _ => rfl)) (pe_gi T.m_SOURCE_CALL) (nomark _)) (pss_one (ps_ret (pe_u c_source_answer (hr.mono (by decide)) (pa_cons (pv 0) (pa_cons (pe_slice (k_slL K) (pv 1) (po_some pe_int) po_none) pa_nil))))) pss_nil)
      (pss_cons (ps_if (pt_cmpR k_eqI (pe_ix (k_ixL K) (pv 1) pe_int (fun _ _ => rfl)) (pe_gi T.m_TARGET_CALL) (nomark _)) (pss_one (ps_ret (pe_u c_target_answer (hr.mono (by decide)) (pa_cons (pv 0) (pa_cons (pe_slice (k_slL K) (pv 1) (po_some pe_int) po_none) pa_nil))))) pss_nil)
      (pss_cons (ps_if (pt_cmpR k_eqI (pe_ix (k_ixL K) (pv 1) pe_int (fun _ _ => rfl)) (pe_gi T.m_FAULTS_CALL) (nomark _)) (pss_one (ps_ret (pe_u c_faults_answer (hr.mono (by decide)) (pa_cons (pv 0) pa_nil)))) pss_nil)
      (pss_cons (ps_if (pt_cmpR k_eqI (pe_ix (k_ixL K) (pv 1) pe_int (fun _ _ => rfl)) (pe_gi T.m_MEND_CALL) (nomark _)) (pss_one (ps_ret (pe_u c_mend_answer (hr.mono (by decide)) (pa_cons (pv 0) pa_nil)))) pss_nil)
      (pss_cons (ps_if (pt_cmpR k_eqI (pe_ix (k_ixL K) (pv 1) pe_int (fun _ _ => rfl)) (pe_gi T.m_WOULD_CALL) (nomark _)) (pss_one (ps_ret (pe_u c_would_answer (hr.mono (by decide)) (pa_cons (pv 0) pa_nil)))) pss_nil)
      (pss_cons (ps_if (pt_cmpR k_eqI (pe_ix (k_ixL K) (pv 1) pe_int (fun _ _ => rfl)) (pe_gi T.m_PUT_CALL) (nomark _)) (pss_one (ps_ret (pe_u c_put_answer (hr.mono (by decide)) (pa_cons (pv 0) (pa_cons (pe_ix (k_ixL K) (pv 1) pe_int (fun _ _ => rfl)) (pa_cons (pe_ix (k_ixL K) (pv 1) pe_int (fun _ _ => rfl)) (pa_cons (pe_ix (k_ixL K) (pv 1) pe_int (fun _ _ => rfl)) pa_nil))))))) pss_nil)
      (pss_cons (ps_if (pt_cmpR k_eqI (pe_ix (k_ixL K) (pv 1) pe_int (fun _ _ => rfl)) (pe_gi T.m_TAKE_CALL) (nomark _)) (pss_one (ps_ret (pe_u c_take_answer (hr.mono (by decide)) (pa_cons (pv 0) (pa_cons (pe_ix (k_ixL K) (pv 1) pe_int (fun _ _ => rfl)) pa_nil))))) pss_nil)
      (pss_cons (ps_if (pt_cmpR k_eqI (pe_ix (k_ixL K) (pv 1) pe_int (fun _ _ => rfl)) (pe_gi T.m_REWRITE_CALL) (nomark _)) (pss_one (ps_ret (pe_u c_rewrite_answer (hr.mono (by decide)) (pa_cons (pv 0) (pa_cons (pe_ix (k_ixL K) (pv 1) pe_int (fun _ _ => rfl)) (pa_cons (pe_ix (k_ixL K) (pv 1) pe_int (fun _ _ => rfl)) (pa_cons (pe_slice (k_slL K) (pv 1) (po_some pe_int) po_none) pa_nil))))))) pss_nil)
      (pss_cons (ps_if (pt_cmpR k_eqI (pe_ix (k_ixL K) (pv 1) pe_int (fun _ _ => rfl)) (pe_gi T.m_WITHIN_CALL) (nomark _)) (pss_one (ps_ret (pe_u c_within_answer (hr.mono (by decide)) (pa_cons (pv 0) (pa_cons (pe_ix (k_ixL K) (pv 1) pe_int (fun _ _ => rfl)) pa_nil))))) pss_nil)
      (pss_cons (ps_if (pt_cmpR k_eqI (pe_ix (k_ixL K) (pv 1) pe_int (fun _ _ => rfl)) (pe_gi T.m_SHOWS_CALL) (nomark _)) (pss_one (ps_ret (pe_u c_segment_answer (hr.mono (by decide)) (pa_cons (pe_fld (pv 0) rfl) pa_nil)))) pss_nil)
      (pss_cons (ps_if (pt_cmpR k_eqI (pe_ix (k_ixL K) (pv 1) pe_int (fun _ _ => rfl)) (pe_gi T.m_UNDO_CALL) (nomark _)) (pss_one (ps_ret (pe_u c_undo_answer (hr.mono (by decide)) (pa_cons (pv 0) pa_nil)))) pss_nil)
      (pss_one (ps_ret (pe_u c_move_answer (hr.mono (by decide)) (pa_cons (pv 0) (pa_cons (pe_ix (k_ixL K) (pv 1) pe_int (fun _ _ => rfl)) (pa_cons (pe_ix (k_ixL K) (pv 1) pe_int (fun _ _ => rfl)) pa_nil))))))))))))))))), ?_⟩
    obtain ⟨dx, at', ao, as, es, D0⟩ := id D
    obtain ⟨g1, g2, g3⟩ := (segOk_iff _).mp G.1.tgt
    have hd : Dp K H (.ref a) (.list (cl.map PyData.int)) := .lst hS (ints_dpAll cl)
    cases hc with
    | source l s =>
      have hl' : (toldRow l s).length ≤ 138 := by
        rw [List.length_cons, List.length_cons] at hl
        omega
      have htl : (toldRow l s).length = 1 + 3 * l.length + 2 * s.length := by
        unfold toldRow
        rw [List.length_cons, List.length_append, tagRow_len, rowI_len]
        omega
      refine call_hit rfl hS rfl ⟨_, rfl, ?_⟩
      refine ev_drop (n := 2) (pur_var rfl) hd pur_c H (Same.refl _) _ fun H1 p ys s1 hp hy hya => ?_
      exact ⟨d, e, .ref p, A, g, l, s, rfl, D.same s1, G, .lst (SqL.of hy) hya, by omega, by omega, k.mono s1⟩
    | target s =>
      have hl' : (rowI s).length ≤ 138 := by
        rw [List.length_cons, List.length_cons] at hl
        omega
      rw [rowI_len] at hl'
      refine call_skip rfl hS rfl (by decide) (call_hit rfl hS rfl ⟨_, rfl, ?_⟩)
      refine ev_drop (n := 2) (pur_var rfl) hd pur_c H (Same.refl _) _ fun H1 p ys s1 hp hy hya => ?_
      exact ⟨d, e, .ref p, A, g, s, rfl, D.same s1, G, .lst (SqL.of hy) hya, by omega, k.mono s1⟩
    | faults =>
      refine call_skip rfl hS rfl (by decide) (call_skip rfl hS rfl (by decide) (call_hit rfl hS rfl ?_))
      exact ⟨_, rfl, d, e, A, g, rfl, D, G, k⟩
    | mend =>
      refine call_skip rfl hS rfl (by decide) (call_skip rfl hS rfl (by decide) (call_skip rfl hS rfl (by decide) (call_hit rfl hS rfl ?_)))
      exact ⟨_, rfl, d, e, A, g, rfl, D, G, k⟩
    | would =>
      refine call_skip rfl hS rfl (by decide) (call_skip rfl hS rfl (by decide) (call_skip rfl hS rfl (by decide) (call_skip rfl hS rfl (by decide) (call_hit rfl hS rfl ?_))))
      exact ⟨_, rfl, d, e, A, g, rfl, D, G, k⟩
    | put n t ht =>
      refine call_skip rfl hS rfl (by decide) (call_skip rfl hS rfl (by decide) (call_skip rfl hS rfl (by decide) (call_skip rfl hS rfl (by decide) (call_skip rfl hS rfl (by decide) (call_hit rfl hS rfl ?_)))))
      exact ⟨_, rfl, _, rfl, a, _, 1, _, rfl, rfl, hS, at_of (j := 1) rfl rfl, _, rfl, a, _, 2, _, rfl, rfl, hS, at_of (j := 2) rfl rfl, _, rfl, a, _, 3, _, rfl, rfl, hS, at_of (j := 3) rfl rfl, d, e, A, g, n, t, rfl, D, G, ht, k⟩
    | take n =>
      refine call_skip rfl hS rfl (by decide) (call_skip rfl hS rfl (by decide) (call_skip rfl hS rfl (by decide) (call_skip rfl hS rfl (by decide) (call_skip rfl hS rfl (by decide) (call_skip rfl hS rfl (by decide) (call_hit rfl hS rfl ?_))))))
      exact ⟨_, rfl, _, rfl, a, _, 1, _, rfl, rfl, hS, at_of (j := 1) rfl rfl, d, e, A, g, n, rfl, D, G, k⟩
    | typ n m ws =>
      have hl' : ws.length ≤ 140 := by
        simp only [List.length_cons] at hl
        have : (Ut02.ints ws).length = ws.length := List.length_map _
        omega
      refine call_skip rfl hS rfl (by decide) (call_skip rfl hS rfl (by decide) (call_skip rfl hS rfl (by decide) (call_skip rfl hS rfl (by decide) (call_skip rfl hS rfl (by decide) (call_skip rfl hS rfl (by decide) (call_skip rfl hS rfl (by decide) (call_hit rfl hS rfl ?_)))))))
      refine ⟨_, rfl, _, rfl, a, _, 1, _, rfl, rfl, hS, at_of (j := 1) rfl rfl, _, rfl, a, _, 2, _, rfl, rfl, hS, at_of (j := 2) rfl rfl, ?_⟩
      refine ev_drop (n := 4) (pur_var rfl) hd pur_c H (Same.refl _) _ fun H1 p ys s1 hp hy hya => ?_
      have ew : (Ut02.ints ws).map PyData.int = ws.map natD := by
        unfold Ut02.ints
        rw [List.map_map]
        rfl
      have hya : DpAll K H1 ys ((Ut02.ints ws).map PyData.int) := hya
      rw [ew] at hya
      exact ⟨d, e, .ref p, A, g, n, m, ws, rfl, D.same s1, G, .lst (SqL.of hy) hya, by omega, k.mono s1⟩
    | inside n =>
      refine call_skip rfl hS rfl (by decide) (call_skip rfl hS rfl (by decide) (call_skip rfl hS rfl (by decide) (call_skip rfl hS rfl (by decide) (call_skip rfl hS rfl (by decide) (call_skip rfl hS rfl (by decide) (call_skip rfl hS rfl (by decide) (call_skip rfl hS rfl (by decide) (call_hit rfl hS rfl ?_))))))))
      exact ⟨_, rfl, _, rfl, a, _, 1, _, rfl, rfl, hS, at_of (j := 1) rfl rfl, d, e, A, g, n, rfl, D, G, k⟩
    | shows =>
      refine call_skip rfl hS rfl (by decide) (call_skip rfl hS rfl (by decide) (call_skip rfl hS rfl (by decide) (call_skip rfl hS rfl (by decide) (call_skip rfl hS rfl (by decide) (call_skip rfl hS rfl (by decide) (call_skip rfl hS rfl (by decide) (call_skip rfl hS rfl (by decide) (call_skip rfl hS rfl (by decide) (call_hit rfl hS rfl ?_)))))))))
      have eb : Ut02.step g .shows = (g, (g.target.length : Int) :: rowI g.target) := by
        show (g, Ut02.ints _) = _
        rw [shows_row]
      rw [eb] at k
      exact ⟨_, rfl, d, C, dx, _, _, rfl, D0.hd, L.cl, L.n_things, dF_things _ _ _ _, _, g.target, rfl, D0.hs.dp, by omega, k.keep D⟩
    | undo =>
      refine call_skip rfl hS rfl (by decide) (call_skip rfl hS rfl (by decide) (call_skip rfl hS rfl (by decide) (call_skip rfl hS rfl (by decide) (call_skip rfl hS rfl (by decide) (call_skip rfl hS rfl (by decide) (call_skip rfl hS rfl (by decide) (call_skip rfl hS rfl (by decide) (call_skip rfl hS rfl (by decide) (call_skip rfl hS rfl (by decide) (call_hit rfl hS rfl ?_))))))))))
      exact ⟨_, rfl, d, e, A, g, rfl, D, G, k⟩
    | move n m =>
      refine call_skip rfl hS rfl (by decide) (call_skip rfl hS rfl (by decide) (call_skip rfl hS rfl (by decide) (call_skip rfl hS rfl (by decide) (call_skip rfl hS rfl (by decide) (call_skip rfl hS rfl (by decide) (call_skip rfl hS rfl (by decide) (call_skip rfl hS rfl (by decide) (call_skip rfl hS rfl (by decide) (call_skip rfl hS rfl (by decide) (call_skip rfl hS rfl (by decide) ?_))))))))))
      exact ⟨_, rfl, _, rfl, a, _, 1, _, rfl, rfl, hS, at_of (j := 1) rfl rfl, _, rfl, a, _, 2, _, rfl, rfl, hS, at_of (j := 2) rfl rfl, d, e, A, g, n, m, rfl, D, G, k⟩
end
end Tm
set_option Elab.async false
set_option maxRecDepth 100000
set_option maxHeartbeats 2000000
namespace Tm
open PySem PySem.Spec PyProof.Rows L2
/-- the def x of the text stands behind the top under its name -/
def DefAt (K : PySem.W.Frag) (x : Str) (st : Stmt) : Prop := ∃ (f : Addr) (fd : FuncData), PySem.W.nsIn K mainGlobals x = some (some (.ref f)) ∧ Fun K x x st f fd
theorem defAt_mk {K : PySem.W.Frag} {x : Str} {st : Stmt} {f : Addr} {oc : Value} {od an : Option Addr} {osl : Array (Option Value)} {kV doc pm cdv ct : Value} (a : PySem.W.nsIn K mainGlobals x = some (some (.ref f)))
    (l : K.lookup f = some ⟨oc, od, .func (PySem.W.fnOf x x (defArgs st) (defBody st) (defScope st) .none kV doc pm an cdv ct), osl⟩) (c : PySem.W.codeIn K cdv x = true) (k : PySem.W.keepIn K (.ref f) = true) : DefAt K x st :=
  ⟨f, _, a, fun_mk (st := st) l c k⟩
theorem cal_of {P : Program} {w : World} {K : PySem.W.Frag} {h base : Heap} {mg : Str → Option Value} {x : Str} {st : Stmt} {ps : List Str} {k : Nat} {sp : Sp} (X : K.In h) (G : h.Ns mainGlobals mg) (D : DefAt K x st)
    (hb : ∀ (kV doc pm : Value) (an : Option Addr) (cdv ct : Value) (us : List Value), us.length = ps.length → bindArgs (PySem.W.fnOf x x (defArgs st) (defBody st) (defScope st) .none kV doc pm an cdv ct) ⟨us, []⟩ = pure (ps.zip us))
    (ok : ∀ f fd, Fun K x x st f fd → FnOk P w K mg base CX0 k f fd ps sp) : Cal P w K mg base k x ps sp := by
  obtain ⟨f, fd, a, F⟩ := D
  exact ⟨f, fd, ok f fd F, PySem.W.mg_of X G a, F.kp, F.binds hb⟩
/-- a table of the module: a tuple that the top has written -/
def TabAt (K : PySem.W.Frag) (x : Str) (xs : List V) : Prop := ∃ a, PySem.W.nsIn K mainGlobals x = some (some (.ref a)) ∧ ∀ H, SqT K H a xs
theorem tab_whole {K : PySem.W.Frag} {a : Addr} {od : Option Addr} {n : Nat} {sl : Array (Option Value)} {t0 t1 t2 t3 t4 t5 t6 t7 t8 t9 t10 t11 : Tok} (h : PySem.W.nsIn K mainGlobals "WHOLE_NUMBERS" = some (some (.ref a)))
    (l : K.lookup a = some ⟨.type "tuple", od, .seq #[.int 0 t0, .int 0 t1, .int 0 t2, .int 0 t3, .int 0 t4, .int 3 t5, .int 1 t6, .int 2 t7, .int 1 t8, .int 0 t9, .int 0 t10, .int 2 t11] n, sl⟩) : TabAt K "WHOLE_NUMBERS" wholeV :=
  ⟨a, h, fun H => .inr ⟨_, _, _, l, rfl, rfl, by show 12 ≤ sizeLine; decide, (.cons ⟨_, rfl⟩ (.cons ⟨_, rfl⟩ (.cons ⟨_, rfl⟩ (.cons ⟨_, rfl⟩ (.cons ⟨_, rfl⟩ (.cons ⟨_, rfl⟩ (.cons ⟨_, rfl⟩ (.cons ⟨_, rfl⟩ (.cons ⟨_, rfl⟩ (.cons ⟨_, rfl⟩ (.cons ⟨_, rfl⟩ (.cons ⟨_, rfl⟩ .nil))))))))))))⟩⟩
theorem tab_row {K : PySem.W.Frag} {a : Addr} {od : Option Addr} {n : Nat} {sl : Array (Option Value)} (h : PySem.W.nsIn K mainGlobals "HAS_ROW" = some (some (.ref a)))
    (l : K.lookup a = some ⟨.type "tuple", od, .seq #[.bool true, .bool true, .bool false, .bool false, .bool false, .bool false, .bool false, .bool true, .bool false, .bool false, .bool false, .bool false] n, sl⟩) : TabAt K "HAS_ROW" rowV :=
  ⟨a, h, fun H => .inr ⟨_, _, _, l, rfl, rfl, by show 12 ≤ sizeLine; decide, (.cons rfl (.cons rfl (.cons rfl (.cons rfl (.cons rfl (.cons rfl (.cons rfl (.cons rfl (.cons rfl (.cons rfl (.cons rfl (.cons rfl .nil))))))))))))⟩⟩
/-- the class x with its __init__ -/
structure InitAt (K : PySem.W.Frag) (C : Addr) (x qn : Str) (st : Stmt) (f : Addr) : Prop where
  nm : PySem.W.nsIn K mainGlobals x = some (some (.ref C))
  cl : Cls K C
  maker : Mk K C f
  fn : ∃ fd, Fun K "__init__" qn st f fd
theorem initAt_mk {K : PySem.W.Frag} {C f : Addr} {x qn : Str} {st : Stmt} {oc : Value} {od an : Option Addr} {osl : Array (Option Value)} {kV doc pm cdv ct : Value} (aC : PySem.W.nsIn K mainGlobals x = some (some (.ref C)))
    (a1 : PySem.W.findIn K (.ref C) "__init__" = some (some (.ref f))) (i1 : PySem.W.isFn K (.ref f) = true) (l1 : K.lookup f = some ⟨oc, od, .func (PySem.W.fnOf "__init__" qn (defArgs st) (defBody st) (defScope st) .none kV doc pm an cdv ct), osl⟩) (c1 : PySem.W.codeIn K cdv qn = true) (k1 : PySem.W.keepIn K (.ref f) = true)
    (pg : PySem.W.plainGet K C Str.empty = true) (hd : PySem.W.hasDictIn K C = true) (po : PySem.W.plainOver K C = true) (sa : PySem.W.findIn K (.ref C) "__setattr__" = some (some (.builtin "object.__setattr__"))) (mk : PySem.W.makesIn K C = true) (kc : PySem.W.keepIn K (.ref C) = true) : InitAt K C x qn st f :=
  ⟨aC, ⟨pg, hd, po, sa⟩, ⟨mk, a1, i1, kc⟩, _, fun_mk (st := st) l1 c1 k1⟩
theorem binds_one {K : PySem.W.Frag} {x : Str} {st : Stmt} {f : Addr} {fd : FuncData} {ps : List Str} (F : Fun K x x st f fd)
    (h : ∀ (kV doc pm : Value) (an : Option Addr) (cdv ct : Value) (us : List Value), us.length = ps.length → bindArgs (PySem.W.fnOf x x (defArgs st) (defBody st) (defScope st) .none kV doc pm an cdv ct) ⟨us, []⟩ = pure (ps.zip us)) :
    ∀ (s : Shared) (us : List Value), us.length = ps.length → BindsTo s fd ⟨us, []⟩ (ps.zip us) := by
  obtain ⟨oc, od, kV, doc, pm, an, cdv, ct, osl, rfl, lk, hcd⟩ := F.ex
  exact fun s us hu => .of_eq (h kV doc pm an cdv ct us hu)
end Tm
set_option Elab.async false
set_option maxRecDepth 100000
set_option maxHeartbeats 4000000
namespace Tm
open PySem PySem.Spec PyProof.Rows L2
theorem all_mk {P : Program} {w : World} {K : PySem.W.Frag} {h : Heap} {mg : Str → Option Value} {fa C f0 : Addr} (X : K.In h) (G : h.Ns mainGlobals mg) (hfa : mg "answers" = some (.ref fa))
    (d_read_segment : DefAt K "read_segment" s_read_segment)
    (d_write_segment : DefAt K "write_segment" s_write_segment)
    (d_is_too_much : DefAt K "is_too_much" s_is_too_much)
    (d_has_great_number : DefAt K "has_great_number" s_has_great_number)
    (d_are_tags_out_of_range : DefAt K "are_tags_out_of_range" s_are_tags_out_of_range)
    (d_pieces_of : DefAt K "pieces_of" s_pieces_of)
    (d_is_of_source : DefAt K "is_of_source" s_is_of_source)
    (d_strange_faults : DefAt K "strange_faults" s_strange_faults)
    (d_is_whole : DefAt K "is_whole" s_is_whole)
    (d_is_in_order : DefAt K "is_in_order" s_is_in_order)
    (d_crosses : DefAt K "crosses" s_crosses)
    (d_crossing_faults : DefAt K "crossing_faults" s_crossing_faults)
    (d_pair_faults : DefAt K "pair_faults" s_pair_faults)
    (d_alone_faults : DefAt K "alone_faults" s_alone_faults)
    (d_faults_of : DefAt K "faults_of" s_faults_of)
    (d_is_as_told : DefAt K "is_as_told" s_is_as_told)
    (d_may_stay : DefAt K "may_stay" s_may_stay)
    (d_choices_that_may_stay : DefAt K "choices_that_may_stay" s_choices_that_may_stay)
    (d_completed : DefAt K "completed" s_completed)
    (d_mended : DefAt K "mended" s_mended)
    (d_standing : DefAt K "standing" s_standing)
    (d_without : DefAt K "without" s_without)
    (d_change : DefAt K "change" s_change)
    (d_source_answer : DefAt K "source_answer" s_source_answer)
    (d_target_answer : DefAt K "target_answer" s_target_answer)
    (d_faults_answer : DefAt K "faults_answer" s_faults_answer)
    (d_segment_answer : DefAt K "segment_answer" s_segment_answer)
    (d_mend_answer : DefAt K "mend_answer" s_mend_answer)
    (d_would_answer : DefAt K "would_answer" s_would_answer)
    (d_put_answer : DefAt K "put_answer" s_put_answer)
    (d_refusal_of_taking : DefAt K "refusal_of_taking" s_refusal_of_taking)
    (d_take_answer : DefAt K "take_answer" s_take_answer)
    (d_move_answer : DefAt K "move_answer" s_move_answer)
    (d_rewrite_answer : DefAt K "rewrite_answer" s_rewrite_answer)
    (d_words_within : DefAt K "words_within" s_words_within)
    (d_within_answer : DefAt K "within_answer" s_within_answer)
    (d_undo_answer : DefAt K "undo_answer" s_undo_answer)
    (d_call_length : DefAt K "call_length" s_call_length)
    (d_call_answer : DefAt K "call_answer" s_call_answer)
    (d_answers : DefAt K "answers" s_answers)
    {t_WORD : Tok} (n_WORD : PySem.W.nsIn K mainGlobals "WORD" = some (some (.int (0) t_WORD)))
    {t_OPENING : Tok} (n_OPENING : PySem.W.nsIn K mainGlobals "OPENING" = some (some (.int (1) t_OPENING)))
    {t_CLOSING : Tok} (n_CLOSING : PySem.W.nsIn K mainGlobals "CLOSING" = some (some (.int (2) t_CLOSING)))
    {t_ALONE : Tok} (n_ALONE : PySem.W.nsIn K mainGlobals "ALONE" = some (some (.int (3) t_ALONE)))
    {t_MOST_THINGS : Tok} (n_MOST_THINGS : PySem.W.nsIn K mainGlobals "MOST_THINGS" = some (some (.int (16) t_MOST_THINGS)))
    {t_MOST_TAGS : Tok} (n_MOST_TAGS : PySem.W.nsIn K mainGlobals "MOST_TAGS" = some (some (.int (8) t_MOST_TAGS)))
    {t_MOST_TOLD : Tok} (n_MOST_TOLD : PySem.W.nsIn K mainGlobals "MOST_TOLD" = some (some (.int (6) t_MOST_TOLD)))
    {t_GREATEST_WORD : Tok} (n_GREATEST_WORD : PySem.W.nsIn K mainGlobals "GREATEST_WORD" = some (some (.int (999) t_GREATEST_WORD)))
    {t_GREATEST_TAG : Tok} (n_GREATEST_TAG : PySem.W.nsIn K mainGlobals "GREATEST_TAG" = some (some (.int (99) t_GREATEST_TAG)))
    {t_STRANGE : Tok} (n_STRANGE : PySem.W.nsIn K mainGlobals "STRANGE" = some (some (.int (1) t_STRANGE)))
    {t_REPEATED : Tok} (n_REPEATED : PySem.W.nsIn K mainGlobals "REPEATED" = some (some (.int (2) t_REPEATED)))
    {t_MISSING : Tok} (n_MISSING : PySem.W.nsIn K mainGlobals "MISSING" = some (some (.int (3) t_MISSING)))
    {t_HALF : Tok} (n_HALF : PySem.W.nsIn K mainGlobals "HALF" = some (some (.int (4) t_HALF)))
    {t_REVERSED : Tok} (n_REVERSED : PySem.W.nsIn K mainGlobals "REVERSED" = some (some (.int (5) t_REVERSED)))
    {t_CROSSING : Tok} (n_CROSSING : PySem.W.nsIn K mainGlobals "CROSSING" = some (some (.int (6) t_CROSSING)))
    {t_OUT_OF_RANGE : Tok} (n_OUT_OF_RANGE : PySem.W.nsIn K mainGlobals "OUT_OF_RANGE" = some (some (.int (-1) t_OUT_OF_RANGE)))
    {t_NO_SUCH_PAIR : Tok} (n_NO_SUCH_PAIR : PySem.W.nsIn K mainGlobals "NO_SUCH_PAIR" = some (some (.int (-2) t_NO_SUCH_PAIR)))
    {t_NOT_AS_TOLD : Tok} (n_NOT_AS_TOLD : PySem.W.nsIn K mainGlobals "NOT_AS_TOLD" = some (some (.int (-3) t_NOT_AS_TOLD)))
    {t_TOO_MUCH : Tok} (n_TOO_MUCH : PySem.W.nsIn K mainGlobals "TOO_MUCH" = some (some (.int (-5) t_TOO_MUCH)))
    {t_IS_A_WORD : Tok} (n_IS_A_WORD : PySem.W.nsIn K mainGlobals "IS_A_WORD" = some (some (.int (-6) t_IS_A_WORD)))
    {t_NOT_WHOLE : Tok} (n_NOT_WHOLE : PySem.W.nsIn K mainGlobals "NOT_WHOLE" = some (some (.int (-6) t_NOT_WHOLE)))
    {t_NOTHING_TO_UNDO : Tok} (n_NOTHING_TO_UNDO : PySem.W.nsIn K mainGlobals "NOTHING_TO_UNDO" = some (some (.int (-7) t_NOTHING_TO_UNDO)))
    {t_SOURCE_CALL : Tok} (n_SOURCE_CALL : PySem.W.nsIn K mainGlobals "SOURCE_CALL" = some (some (.int (0) t_SOURCE_CALL)))
    {t_TARGET_CALL : Tok} (n_TARGET_CALL : PySem.W.nsIn K mainGlobals "TARGET_CALL" = some (some (.int (1) t_TARGET_CALL)))
    {t_FAULTS_CALL : Tok} (n_FAULTS_CALL : PySem.W.nsIn K mainGlobals "FAULTS_CALL" = some (some (.int (2) t_FAULTS_CALL)))
    {t_MEND_CALL : Tok} (n_MEND_CALL : PySem.W.nsIn K mainGlobals "MEND_CALL" = some (some (.int (3) t_MEND_CALL)))
    {t_WOULD_CALL : Tok} (n_WOULD_CALL : PySem.W.nsIn K mainGlobals "WOULD_CALL" = some (some (.int (4) t_WOULD_CALL)))
    {t_PUT_CALL : Tok} (n_PUT_CALL : PySem.W.nsIn K mainGlobals "PUT_CALL" = some (some (.int (5) t_PUT_CALL)))
    {t_TAKE_CALL : Tok} (n_TAKE_CALL : PySem.W.nsIn K mainGlobals "TAKE_CALL" = some (some (.int (6) t_TAKE_CALL)))
    {t_REWRITE_CALL : Tok} (n_REWRITE_CALL : PySem.W.nsIn K mainGlobals "REWRITE_CALL" = some (some (.int (7) t_REWRITE_CALL)))
    {t_WITHIN_CALL : Tok} (n_WITHIN_CALL : PySem.W.nsIn K mainGlobals "WITHIN_CALL" = some (some (.int (8) t_WITHIN_CALL)))
    {t_SHOWS_CALL : Tok} (n_SHOWS_CALL : PySem.W.nsIn K mainGlobals "SHOWS_CALL" = some (some (.int (9) t_SHOWS_CALL)))
    {t_UNDO_CALL : Tok} (n_UNDO_CALL : PySem.W.nsIn K mainGlobals "UNDO_CALL" = some (some (.int (10) t_UNDO_CALL)))
    (n_len : PySem.W.nsIn K mainGlobals "len" = some none)
    (n_range : PySem.W.nsIn K mainGlobals "range" = some none)
    (n_set : PySem.W.nsIn K mainGlobals "set" = some none)
    (n_any : PySem.W.nsIn K mainGlobals "any" = some none)
    (n_all : PySem.W.nsIn K mainGlobals "all" = some none)
    (tW : TabAt K "WHOLE_NUMBERS" wholeV) (tR : TabAt K "HAS_ROW" rowV)
    (d_init : InitAt K C "Desk" "Desk.__init__" s_init f0)
    (f_tags : PySem.W.findIn K (.ref C) "tags" = some none)
    (f_source_things : PySem.W.findIn K (.ref C) "source_things" = some none)
    (f_things : PySem.W.findIn K (.ref C) "things" = some none)
    (f_earlier : PySem.W.findIn K (.ref C) "earlier" = some none)
    : ∃ fd : FuncData, (∀ (s : Shared) (us : List Value), us.length = (["calls"] : List Str).length → BindsTo s fd ⟨us, []⟩ ((["calls"] : List Str).zip us)) ∧ ∀ base : Heap, K.In base → base.Ns mainGlobals mg → FnOk P w K mg base CX0 11 fa fd ["calls"] (spAns K) := by
  have T : Txt K mg := ⟨⟨_, PySem.W.mg_of X G n_WORD⟩, ⟨_, PySem.W.mg_of X G n_OPENING⟩, ⟨_, PySem.W.mg_of X G n_CLOSING⟩, ⟨_, PySem.W.mg_of X G n_ALONE⟩, ⟨_, PySem.W.mg_of X G n_MOST_THINGS⟩, ⟨_, PySem.W.mg_of X G n_MOST_TAGS⟩, ⟨_, PySem.W.mg_of X G n_MOST_TOLD⟩, ⟨_, PySem.W.mg_of X G n_GREATEST_WORD⟩, ⟨_, PySem.W.mg_of X G n_GREATEST_TAG⟩, ⟨_, PySem.W.mg_of X G n_STRANGE⟩, ⟨_, PySem.W.mg_of X G n_REPEATED⟩, ⟨_, PySem.W.mg_of X G n_MISSING⟩, ⟨_, PySem.W.mg_of X G n_HALF⟩, ⟨_, PySem.W.mg_of X G n_REVERSED⟩, ⟨_, PySem.W.mg_of X G n_CROSSING⟩, ⟨_, PySem.W.mg_of X G n_OUT_OF_RANGE⟩, ⟨_, PySem.W.mg_of X G n_NO_SUCH_PAIR⟩, ⟨_, PySem.W.mg_of X G n_NOT_AS_TOLD⟩, ⟨_, PySem.W.mg_of X G n_TOO_MUCH⟩, ⟨_, PySem.W.mg_of X G n_IS_A_WORD⟩, ⟨_, PySem.W.mg_of X G n_NOT_WHOLE⟩, ⟨_, PySem.W.mg_of X G n_NOTHING_TO_UNDO⟩, ⟨_, PySem.W.mg_of X G n_SOURCE_CALL⟩, ⟨_, PySem.W.mg_of X G n_TARGET_CALL⟩, ⟨_, PySem.W.mg_of X G n_FAULTS_CALL⟩, ⟨_, PySem.W.mg_of X G n_MEND_CALL⟩, ⟨_, PySem.W.mg_of X G n_WOULD_CALL⟩, ⟨_, PySem.W.mg_of X G n_PUT_CALL⟩, ⟨_, PySem.W.mg_of X G n_TAKE_CALL⟩, ⟨_, PySem.W.mg_of X G n_REWRITE_CALL⟩, ⟨_, PySem.W.mg_of X G n_WITHIN_CALL⟩, ⟨_, PySem.W.mg_of X G n_SHOWS_CALL⟩, ⟨_, PySem.W.mg_of X G n_UNDO_CALL⟩, PySem.W.mg_none_of X G n_len, PySem.W.mg_none_of X G n_range, PySem.W.mg_none_of X G n_set, PySem.W.mg_none_of X G n_any, PySem.W.mg_none_of X G n_all⟩
  have L : Cl K mg C := ⟨d_init.cl, f_tags, f_source_things, f_things, f_earlier, PySem.W.mg_of X G d_init.nm⟩
  obtain ⟨aW, nW, hW⟩ := tW
  obtain ⟨aR, nR, hR⟩ := tR
  have mW := PySem.W.mg_of X G nW
  have mR := PySem.W.mg_of X G nR
  have c_read_segment : ∀ base, Cal P w K mg base 1 "read_segment" ["numbers"] (spRead K) := fun base => cal_of X G d_read_segment (fun _ _ _ _ _ _ us hl => match us, hl with | [_], _ => rfl) fun f fd F => ok_read_segment F T
  have c_write_segment : ∀ base, Cal P w K mg base 1 "write_segment" ["things"] (spWrite K) := fun base => cal_of X G d_write_segment (fun _ _ _ _ _ _ us hl => match us, hl with | [_], _ => rfl) fun f fd F => ok_write_segment F 
  have c_is_too_much : ∀ base, Cal P w K mg base 1 "is_too_much" ["things"] (spTooMuch K) := fun base => cal_of X G d_is_too_much (fun _ _ _ _ _ _ us hl => match us, hl with | [_], _ => rfl) fun f fd F => ok_is_too_much F T
  have c_has_great_number : ∀ base, Cal P w K mg base 1 "has_great_number" ["things"] (spGreat K) := fun base => cal_of X G d_has_great_number (fun _ _ _ _ _ _ us hl => match us, hl with | [_], _ => rfl) fun f fd F => ok_has_great_number F T
  have c_are_tags_out_of_range : ∀ base, Cal P w K mg base 1 "are_tags_out_of_range" ["tags"] (spTagsOut K) := fun base => cal_of X G d_are_tags_out_of_range (fun _ _ _ _ _ _ us hl => match us, hl with | [_], _ => rfl) fun f fd F => ok_are_tags_out_of_range F T
  have c_pieces_of : ∀ base, Cal P w K mg base 1 "pieces_of" ["number", "pair"] (spPieces K) := fun base => cal_of X G d_pieces_of (fun _ _ _ _ _ _ us hl => match us, hl with | [_, _], _ => rfl) fun f fd F => ok_pieces_of F T
  have c_is_of_source : ∀ base, Cal P w K mg base 2 "is_of_source" ["tags", "thing"] (spOfSrc K) := fun base => cal_of X G d_is_of_source (fun _ _ _ _ _ _ us hl => match us, hl with | [_, _], _ => rfl) fun f fd F => ok_is_of_source F T (c_pieces_of base)
  have c_strange_faults : ∀ base, Cal P w K mg base 3 "strange_faults" ["tags", "things"] (spStrange K) := fun base => cal_of X G d_strange_faults (fun _ _ _ _ _ _ us hl => match us, hl with | [_, _], _ => rfl) fun f fd F => ok_strange_faults F T (c_is_of_source base)
  have c_is_whole : ∀ base, Cal P w K mg base 1 "is_whole" ["things", "number"] (spWhole K) := fun base => cal_of X G d_is_whole (fun _ _ _ _ _ _ us hl => match us, hl with | [_, _], _ => rfl) fun f fd F => ok_is_whole F T
  have c_is_in_order : ∀ base, Cal P w K mg base 1 "is_in_order" ["things", "number"] (spOrder K) := fun base => cal_of X G d_is_in_order (fun _ _ _ _ _ _ us hl => match us, hl with | [_, _], _ => rfl) fun f fd F => ok_is_in_order F T
  have c_crosses : ∀ base, Cal P w K mg base 1 "crosses" ["things", "first", "second"] (spCross K) := fun base => cal_of X G d_crosses (fun _ _ _ _ _ _ us hl => match us, hl with | [_, _, _], _ => rfl) fun f fd F => ok_crosses F T
  have c_crossing_faults : ∀ base, Cal P w K mg base 2 "crossing_faults" ["tags", "things", "number"] (spCrossing K) := fun base => cal_of X G d_crossing_faults (fun _ _ _ _ _ _ us hl => match us, hl with | [_, _, _], _ => rfl) fun f fd F => ok_crossing_faults F T (c_is_whole base) (c_crosses base)
  have c_pair_faults : ∀ base, Cal P w K mg base 3 "pair_faults" ["tags", "things", "number", "needed"] (spPairF K) := fun base => cal_of X G d_pair_faults (fun _ _ _ _ _ _ us hl => match us, hl with | [_, _, _, _], _ => rfl) fun f fd F => ok_pair_faults F T (c_is_in_order base) (c_crossing_faults base)
  have c_alone_faults : ∀ base, Cal P w K mg base 1 "alone_faults" ["things", "number", "needed"] (spAloneF K) := fun base => cal_of X G d_alone_faults (fun _ _ _ _ _ _ us hl => match us, hl with | [_, _, _], _ => rfl) fun f fd F => ok_alone_faults F T
  have c_faults_of : ∀ base, Cal P w K mg base 4 "faults_of" ["tags", "things"] (spFaults K) := fun base => cal_of X G d_faults_of (fun _ _ _ _ _ _ us hl => match us, hl with | [_, _], _ => rfl) fun f fd F => ok_faults_of F (c_strange_faults base) (c_pair_faults base) (c_alone_faults base)
  have c_is_as_told : ∀ base, Cal P w K mg base 5 "is_as_told" ["tags", "things"] (spTold K) := fun base => cal_of X G d_is_as_told (fun _ _ _ _ _ _ us hl => match us, hl with | [_, _], _ => rfl) fun f fd F => ok_is_as_told F T (c_faults_of base)
  have c_may_stay : ∀ base, Cal P w K mg base 5 "may_stay" ["tags", "kept"] (spStay K) := fun base => cal_of X G d_may_stay (fun _ _ _ _ _ _ us hl => match us, hl with | [_, _], _ => rfl) fun f fd F => ok_may_stay F T (c_faults_of base)
  have c_choices_that_may_stay : ∀ base, Cal P w K mg base 6 "choices_that_may_stay" ["tags", "things"] (spChoices K) := fun base => cal_of X G d_choices_that_may_stay (fun _ _ _ _ _ _ us hl => match us, hl with | [_, _], _ => rfl) fun f fd F => ok_choices F T (c_may_stay base)
  have c_completed : ∀ base, Cal P w K mg base 2 "completed" ["tags", "kept"] (spCompl K) := fun base => cal_of X G d_completed (fun _ _ _ _ _ _ us hl => match us, hl with | [_, _], _ => rfl) fun f fd F => ok_completed F T (c_pieces_of base)
  have c_mended : ∀ base, Cal P w K mg base 7 "mended" ["tags", "things"] (spMended K) := fun base => cal_of X G d_mended (fun _ _ _ _ _ _ us hl => match us, hl with | [_, _], _ => rfl) fun f fd F => ok_mended F T (c_choices_that_may_stay base) (c_completed base)
  have c_standing : ∀ base, Cal P w K mg base 5 "standing" ["desk"] (spStanding C K) := fun base => cal_of X G d_standing (fun _ _ _ _ _ _ us hl => match us, hl with | [_], _ => rfl) fun f fd F => ok_standing F T L (c_faults_of base)
  have c_without : ∀ base, Cal P w K mg base 1 "without" ["things", "spot"] (spWithout K) := fun base => cal_of X G d_without (fun _ _ _ _ _ _ us hl => match us, hl with | [_, _], _ => rfl) fun f fd F => ok_without F 
  have c_change : ∀ base, Cal P w K mg base 6 "change" ["desk", "things"] (spChange C K) := fun base => cal_of X G d_change (fun _ _ _ _ _ _ us hl => match us, hl with | [_, _], _ => rfl) fun f fd F => ok_change F T L (c_standing base)
  have c_source_answer : ∀ base, Cal P w K mg base 6 "source_answer" ["desk", "told"] (spSource C K) := fun base => cal_of X G d_source_answer (fun _ _ _ _ _ _ us hl => match us, hl with | [_, _], _ => rfl) fun f fd F => ok_source_answer F T L (c_read_segment base) (c_is_too_much base) (c_has_great_number base) (c_are_tags_out_of_range base) (c_is_as_told base) (c_standing base)
  have c_target_answer : ∀ base, Cal P w K mg base 7 "target_answer" ["desk", "numbers"] (spTarget C K) := fun base => cal_of X G d_target_answer (fun _ _ _ _ _ _ us hl => match us, hl with | [_, _], _ => rfl) fun f fd F => ok_target_answer F T (c_read_segment base) (c_is_too_much base) (c_has_great_number base) (c_change base)
  have c_faults_answer : ∀ base, Cal P w K mg base 5 "faults_answer" ["desk"] (spFaultsAns C K) := fun base => cal_of X G d_faults_answer (fun _ _ _ _ _ _ us hl => match us, hl with | [_], _ => rfl) fun f fd F => ok_faults_answer F T L (c_faults_of base)
  have c_segment_answer : ∀ base, Cal P w K mg base 2 "segment_answer" ["things"] (spSeg K) := fun base => cal_of X G d_segment_answer (fun _ _ _ _ _ _ us hl => match us, hl with | [_], _ => rfl) fun f fd F => ok_segment_answer F T (c_write_segment base)
  have c_mend_answer : ∀ base, Cal P w K mg base 8 "mend_answer" ["desk"] (spMend C K) := fun base => cal_of X G d_mend_answer (fun _ _ _ _ _ _ us hl => match us, hl with | [_], _ => rfl) fun f fd F => ok_mend_answer F T L (c_mended base) (c_segment_answer base) (c_is_too_much base) (c_change base)
  have c_would_answer : ∀ base, Cal P w K mg base 8 "would_answer" ["desk"] (spWould C K) := fun base => cal_of X G d_would_answer (fun _ _ _ _ _ _ us hl => match us, hl with | [_], _ => rfl) fun f fd F => ok_would_answer F L (c_mended base) (c_segment_answer base)
  have c_put_answer : ∀ base, Cal P w K mg base 7 "put_answer" ["desk", "spot", "kind", "number"] (spPut C K) := fun base => cal_of X G d_put_answer (fun _ _ _ _ _ _ us hl => match us, hl with | [_, _, _, _], _ => rfl) fun f fd F => ok_put_answer F T L (c_is_too_much base) (c_change base)
  have c_refusal_of_taking : ∀ base, Cal P w K mg base 1 "refusal_of_taking" ["things", "spot"] (spRefuse K) := fun base => cal_of X G d_refusal_of_taking (fun _ _ _ _ _ _ us hl => match us, hl with | [_, _], _ => rfl) fun f fd F => ok_refusal_of_taking F T
  have c_take_answer : ∀ base, Cal P w K mg base 7 "take_answer" ["desk", "spot"] (spTake C K) := fun base => cal_of X G d_take_answer (fun _ _ _ _ _ _ us hl => match us, hl with | [_, _], _ => rfl) fun f fd F => ok_take_answer F L (c_refusal_of_taking base) (c_without base) (c_change base)
  have c_move_answer : ∀ base, Cal P w K mg base 7 "move_answer" ["desk", "spot", "other"] (spMove C K) := fun base => cal_of X G d_move_answer (fun _ _ _ _ _ _ us hl => match us, hl with | [_, _, _], _ => rfl) fun f fd F => ok_move_answer F T L (c_refusal_of_taking base) (c_without base) (c_change base)
  have c_rewrite_answer : ∀ base, Cal P w K mg base 7 "rewrite_answer" ["desk", "spot", "many", "words"] (spRewrite C K) := fun base => cal_of X G d_rewrite_answer (fun _ _ _ _ _ _ us hl => match us, hl with | [_, _, _, _], _ => rfl) fun f fd F => ok_rewrite_answer F T L (c_has_great_number base) (c_is_too_much base) (c_change base)
  have c_words_within : ∀ base, Cal P w K mg base 1 "words_within" ["things", "number"] (spWords K) := fun base => cal_of X G d_words_within (fun _ _ _ _ _ _ us hl => match us, hl with | [_, _], _ => rfl) fun f fd F => ok_words_within F T
  have c_within_answer : ∀ base, Cal P w K mg base 3 "within_answer" ["desk", "number"] (spWithin C K) := fun base => cal_of X G d_within_answer (fun _ _ _ _ _ _ us hl => match us, hl with | [_, _], _ => rfl) fun f fd F => ok_within_answer F T L (c_is_of_source base) (c_is_whole base) (c_is_in_order base) (c_words_within base)
  have c_undo_answer : ∀ base, Cal P w K mg base 6 "undo_answer" ["desk"] (spUndo C K) := fun base => cal_of X G d_undo_answer (fun _ _ _ _ _ _ us hl => match us, hl with | [_], _ => rfl) fun f fd F => ok_undo_answer F T L (c_standing base)
  have c_call_length : ∀ base, Cal P w K mg base 1 "call_length" ["calls", "start"] (spCallLen K) := fun base => cal_of X G d_call_length (fun _ _ _ _ _ _ us hl => match us, hl with | [_, _], _ => rfl) fun f fd F => ok_call_length F mW mR hW hR
  have c_call_answer : ∀ base, Cal P w K mg base 9 "call_answer" ["desk", "call"] (spCall C K) := fun base => cal_of X G d_call_answer (fun _ _ _ _ _ _ us hl => match us, hl with | [_, _], _ => rfl) fun f fd F => ok_call_answer F T L (c_source_answer base) (c_target_answer base) (c_faults_answer base) (c_mend_answer base) (c_would_answer base) (c_put_answer base) (c_take_answer base) (c_rewrite_answer base) (c_within_answer base) (c_segment_answer base) (c_undo_answer base) (c_move_answer base)
  have m_Desk : ∀ base, Maker P w K mg base 1 "Desk" C (spInit C K) := fun base => by
    obtain ⟨fd, F⟩ := d_init.fn
    exact ⟨f0, _, d_init.maker, ok_init F L, PySem.W.mg_of X G d_init.nm, F.binds (ps := ["self"]) fun _ _ _ _ _ _ us hl => match us, hl with | [_], _ => rfl⟩
  obtain ⟨f, fd, a, F⟩ := d_answers
  cases hfa.symm.trans (PySem.W.mg_of X G a)
  refine ⟨fd, ?_, fun base _ _ => ok_answers F T (m_Desk base) (c_call_length base) (c_call_answer base)⟩
  exact binds_one F fun _ _ _ _ _ _ us hl => match us, hl with | [_], _ => rfl
end Tm
set_option Elab.async false
open PySem PySem.W PyProof.Rows
set_option maxRecDepth 100000 in
set_option maxHeartbeats 0 in
theorem PySem.Challenge.cw_tagmenddesk_s01_answers_holds : PySem.Challenge.rw_tagmenddesk_s01_answers.Holds := by
  w_on; k_headS; (case hw => exact ⟨[.list [.int 9]], by decide +kernel, by decide +kernel⟩)
  k_fillS
  refine L2.walk_specK (r := PySem.Challenge.rw_tagmenddesk_s01_answers) (k := 11) (CX := L2.CX0) (ps := ["calls"]) (sp := Tm.spAns) (by decide +kernel) rfl rfl ⟨rfl, by decide, by decide⟩ (fun w h Y => PySem.W.kIn_of Y) ?F ?S (fun _ _ _ _ z => z)
  case F =>
    intro w mg fa h Y KX G hmg
    refine' Tm.all_mk KX G hmg ?d_read_segment ?d_write_segment ?d_is_too_much ?d_has_great_number ?d_are_tags_out_of_range ?d_pieces_of ?d_is_of_source ?d_strange_faults ?d_is_whole ?d_is_in_order ?d_crosses ?d_crossing_faults ?d_pair_faults ?d_alone_faults ?d_faults_of ?d_is_as_told ?d_may_stay ?d_choices_that_may_stay ?d_completed ?d_mended ?d_standing ?d_without ?d_change ?d_source_answer ?d_target_answer ?d_faults_answer ?d_segment_answer ?d_mend_answer ?d_would_answer ?d_put_answer ?d_refusal_of_taking ?d_take_answer ?d_move_answer ?d_rewrite_answer ?d_words_within ?d_within_answer ?d_undo_answer ?d_call_length ?d_call_answer ?d_answers ?n_WORD ?n_OPENING ?n_CLOSING ?n_ALONE ?n_MOST_THINGS ?n_MOST_TAGS ?n_MOST_TOLD ?n_GREATEST_WORD ?n_GREATEST_TAG ?n_STRANGE ?n_REPEATED ?n_MISSING ?n_HALF ?n_REVERSED ?n_CROSSING ?n_OUT_OF_RANGE ?n_NO_SUCH_PAIR ?n_NOT_AS_TOLD ?n_TOO_MUCH ?n_IS_A_WORD ?n_NOT_WHOLE ?n_NOTHING_TO_UNDO ?n_SOURCE_CALL ?n_TARGET_CALL ?n_FAULTS_CALL ?n_MEND_CALL ?n_WOULD_CALL ?n_PUT_CALL ?n_TAKE_CALL ?n_REWRITE_CALL ?n_WITHIN_CALL ?n_SHOWS_CALL ?n_UNDO_CALL ?n_len ?n_range ?n_set ?n_any ?n_all ?tW ?tR ?d_init ?f_tags ?f_source_things ?f_things ?f_earlier
    (case d_read_segment => refine' Tm.defAt_mk ?a ?l ?c ?k; (case a => k_is); (case l => k_is); (case c => k_is); (case k => k_is))
    (case d_write_segment => refine' Tm.defAt_mk ?a ?l ?c ?k; (case a => k_is); (case l => k_is); (case c => k_is); (case k => k_is))
    (case d_is_too_much => refine' Tm.defAt_mk ?a ?l ?c ?k; (case a => k_is); (case l => k_is); (case c => k_is); (case k => k_is))
    (case d_has_great_number => refine' Tm.defAt_mk ?a ?l ?c ?k; (case a => k_is); (case l => k_is); (case c => k_is); (case k => k_is))
    (case d_are_tags_out_of_range => refine' Tm.defAt_mk ?a ?l ?c ?k; (case a => k_is); (case l => k_is); (case c => k_is); (case k => k_is))
    (case d_pieces_of => refine' Tm.defAt_mk ?a ?l ?c ?k; (case a => k_is); (case l => k_is); (case c => k_is); (case k => k_is))
    (case d_is_of_source => refine' Tm.defAt_mk ?a ?l ?c ?k; (case a => k_is); (case l => k_is); (case c => k_is); (case k => k_is))
    (case d_strange_faults => refine' Tm.defAt_mk ?a ?l ?c ?k; (case a => k_is); (case l => k_is); (case c => k_is); (case k => k_is))
    (case d_is_whole => refine' Tm.defAt_mk ?a ?l ?c ?k; (case a => k_is); (case l => k_is); (case c => k_is); (case k => k_is))
    (case d_is_in_order => refine' Tm.defAt_mk ?a ?l ?c ?k; (case a => k_is); (case l => k_is); (case c => k_is); (case k => k_is))
    (case d_crosses => refine' Tm.defAt_mk ?a ?l ?c ?k; (case a => k_is); (case l => k_is); (case c => k_is); (case k => k_is))
    (case d_crossing_faults => refine' Tm.defAt_mk ?a ?l ?c ?k; (case a => k_is); (case l => k_is); (case c => k_is); (case k => k_is))
    (case d_pair_faults => refine' Tm.defAt_mk ?a ?l ?c ?k; (case a => k_is); (case l => k_is); (case c => k_is); (case k => k_is))
    (case d_alone_faults => refine' Tm.defAt_mk ?a ?l ?c ?k; (case a => k_is); (case l => k_is); (case c => k_is); (case k => k_is))
    (case d_faults_of => refine' Tm.defAt_mk ?a ?l ?c ?k; (case a => k_is); (case l => k_is); (case c => k_is); (case k => k_is))
    (case d_is_as_told => refine' Tm.defAt_mk ?a ?l ?c ?k; (case a => k_is); (case l => k_is); (case c => k_is); (case k => k_is))
    (case d_may_stay => refine' Tm.defAt_mk ?a ?l ?c ?k; (case a => k_is); (case l => k_is); (case c => k_is); (case k => k_is))
    (case d_choices_that_may_stay => refine' Tm.defAt_mk ?a ?l ?c ?k; (case a => k_is); (case l => k_is); (case c => k_is); (case k => k_is))
    (case d_completed => refine' Tm.defAt_mk ?a ?l ?c ?k; (case a => k_is); (case l => k_is); (case c => k_is); (case k => k_is))
    (case d_mended => refine' Tm.defAt_mk ?a ?l ?c ?k; (case a => k_is); (case l => k_is); (case c => k_is); (case k => k_is))
    (case d_standing => refine' Tm.defAt_mk ?a ?l ?c ?k; (case a => k_is); (case l => k_is); (case c => k_is); (case k => k_is))
    (case d_without => refine' Tm.defAt_mk ?a ?l ?c ?k; (case a => k_is); (case l => k_is); (case c => k_is); (case k => k_is))
    (case d_change => refine' Tm.defAt_mk ?a ?l ?c ?k; (case a => k_is); (case l => k_is); (case c => k_is); (case k => k_is))
    (case d_source_answer => refine' Tm.defAt_mk ?a ?l ?c ?k; (case a => k_is); (case l => k_is); (case c => k_is); (case k => k_is))
    (case d_target_answer => refine' Tm.defAt_mk ?a ?l ?c ?k; (case a => k_is); (case l => k_is); (case c => k_is); (case k => k_is))
    (case d_faults_answer => refine' Tm.defAt_mk ?a ?l ?c ?k; (case a => k_is); (case l => k_is); (case c => k_is); (case k => k_is))
    (case d_segment_answer => refine' Tm.defAt_mk ?a ?l ?c ?k; (case a => k_is); (case l => k_is); (case c => k_is); (case k => k_is))
    (case d_mend_answer => refine' Tm.defAt_mk ?a ?l ?c ?k; (case a => k_is); (case l => k_is); (case c => k_is); (case k => k_is))
    (case d_would_answer => refine' Tm.defAt_mk ?a ?l ?c ?k; (case a => k_is); (case l => k_is); (case c => k_is); (case k => k_is))
    (case d_put_answer => refine' Tm.defAt_mk ?a ?l ?c ?k; (case a => k_is); (case l => k_is); (case c => k_is); (case k => k_is))
    (case d_refusal_of_taking => refine' Tm.defAt_mk ?a ?l ?c ?k; (case a => k_is); (case l => k_is); (case c => k_is); (case k => k_is))
    (case d_take_answer => refine' Tm.defAt_mk ?a ?l ?c ?k; (case a => k_is); (case l => k_is); (case c => k_is); (case k => k_is))
    (case d_move_answer => refine' Tm.defAt_mk ?a ?l ?c ?k; (case a => k_is); (case l => k_is); (case c => k_is); (case k => k_is))
    (case d_rewrite_answer => refine' Tm.defAt_mk ?a ?l ?c ?k; (case a => k_is); (case l => k_is); (case c => k_is); (case k => k_is))
    (case d_words_within => refine' Tm.defAt_mk ?a ?l ?c ?k; (case a => k_is); (case l => k_is); (case c => k_is); (case k => k_is))
    (case d_within_answer => refine' Tm.defAt_mk ?a ?l ?c ?k; (case a => k_is); (case l => k_is); (case c => k_is); (case k => k_is))
    (case d_undo_answer => refine' Tm.defAt_mk ?a ?l ?c ?k; (case a => k_is); (case l => k_is); (case c => k_is); (case k => k_is))
    (case d_call_length => refine' Tm.defAt_mk ?a ?l ?c ?k; (case a => k_is); (case l => k_is); (case c => k_is); (case k => k_is))
    (case d_call_answer => refine' Tm.defAt_mk ?a ?l ?c ?k; (case a => k_is); (case l => k_is); (case c => k_is); (case k => k_is))
    (case d_answers => refine' Tm.defAt_mk ?a ?l ?c ?k; (case a => k_is); (case l => k_is); (case c => k_is); (case k => k_is))
    (case n_WORD => k_is)
    (case n_OPENING => k_is)
    (case n_CLOSING => k_is)
    (case n_ALONE => k_is)
    (case n_MOST_THINGS => k_is)
    (case n_MOST_TAGS => k_is)
    (case n_MOST_TOLD => k_is)
    (case n_GREATEST_WORD => k_is)
    (case n_GREATEST_TAG => k_is)
    (case n_STRANGE => k_is)
    (case n_REPEATED => k_is)
    (case n_MISSING => k_is)
    (case n_HALF => k_is)
    (case n_REVERSED => k_is)
    (case n_CROSSING => k_is)
    (case n_OUT_OF_RANGE => k_is)
    (case n_NO_SUCH_PAIR => k_is)
    (case n_NOT_AS_TOLD => k_is)
    (case n_TOO_MUCH => k_is)
    (case n_IS_A_WORD => k_is)
    (case n_NOT_WHOLE => k_is)
    (case n_NOTHING_TO_UNDO => k_is)
    (case n_SOURCE_CALL => k_is)
    (case n_TARGET_CALL => k_is)
    (case n_FAULTS_CALL => k_is)
    (case n_MEND_CALL => k_is)
    (case n_WOULD_CALL => k_is)
    (case n_PUT_CALL => k_is)
    (case n_TAKE_CALL => k_is)
    (case n_REWRITE_CALL => k_is)
    (case n_WITHIN_CALL => k_is)
    (case n_SHOWS_CALL => k_is)
    (case n_UNDO_CALL => k_is)
    (case n_len => k_is)
    (case n_range => k_is)
    (case n_set => k_is)
    (case n_any => k_is)
    (case n_all => k_is)
    (case tW => refine' Tm.tab_whole ?a ?l; (case a => k_is); (case l => k_is))
    (case tR => refine' Tm.tab_row ?a ?l; (case a => k_is); (case l => k_is))
    (case d_init => refine' Tm.initAt_mk ?aC ?a1 ?i1 ?l1 ?c1 ?k1 ?pg ?hd ?po ?sa ?mk ?kc; (case aC => k_is); (case a1 => k_is); (case i1 => k_is); (case l1 => k_is); (case c1 => k_is); (case k1 => k_is); (case pg => k_is); (case hd => k_is); (case po => k_is); (case sa => k_is); (case mk => k_is); (case kc => k_is))
    (case f_tags => k_is)
    (case f_source_things => k_is)
    (case f_things => k_is)
    (case f_earlier => k_is)
  case S =>
    intro K H xs a hO hwi hask hx
    cases hx with
    | cons h1 h2 =>
      cases h2
      cases h1 with
      | lst hs ha =>
        have e := L2.ints_dw a.1 _ ha
        subst e
        exact ⟨_, a.1, rfl, hs, hask, fun H' p hp => .lst (L2.SqL.of hp) (L2.dw_ints _)⟩
